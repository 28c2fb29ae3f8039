import PyProof.Rows.All
import Wide.All
import OpenK.AllK
import Wide.FinOn
import Lean
import PyProof.EqAt
import PyProof.EqKinds
import PyProof.TupleCall
import PySem.Challenge.RW_momentties_k14_deeds_by_the_rule
import KE.KTabLook
import PyProof.DictWalks
import PyProof.Rows.DictUnroll
import PyProof.Rows.SortShell
import PyProof.CollectWalk
import PyProof.DictTruth
import KE.KSortTup
import KE.LcSums
abbrev ZAa := @Int.le_trans
abbrev ZAb := @List.mem_append_left
abbrev ZAc := @Array.toList_append
abbrev ZAd := @List.length_drop
abbrev ZAe := @Nat.le_succ
abbrev ZAf := @Int.le_of_lt
abbrev ZAg := @Int.toNat_of_nonneg
abbrev ZAh := @PySem.mem_of_lookup
abbrev ZAj := @Array.length_toList
abbrev ZAk := @Bool.eq_false_iff
abbrev ZAl := @Ne.symm
abbrev ZAm := @List.mem_iff_getElem?
abbrev ZAn := @PySem.boot_len
abbrev ZAo := @PySem.W.mg_none_of
abbrev ZAp := @PySem.wpAny_bind
abbrev ZAq := @PySem.wpAny_pure
abbrev ZAr := @PySem.F.plainAttrs_list
abbrev ZAs := @PySem.F.slot_list_append
abbrev ZAt := @PySem.F.type_list_append
abbrev ZAu := @List.length_map
abbrev ZAv := @List.getElem?_eq_some_iff
abbrev ZAw := @Nat.le_refl
abbrev ZAx := @List.getElem?_eq_getElem
abbrev ZAy := @PySem.Heap.get?_push_of_some
abbrev ZAz := @Classical.byContradiction
abbrev ZA0 := @List.getElem?_map
abbrev ZA1 := @List.mem_of_getElem?
abbrev ZA2 := @List.size_toArray
abbrev ZA3 := @List.length_append
abbrev ZA4 := @List.mem_cons_of_mem
abbrev ZA5 := @List.mem_cons_self
abbrev ZA6 := @Bool.false_ne_true
abbrev ZA7 := @Option.some.inj
abbrev ZA8 := @List.lookup_cons
abbrev ZA9 := @List.map_append
abbrev ZBa := @Nat.zero_le
abbrev ZBb := @Nat.le_of_lt
abbrev ZBc := @PySem.Heap.lt_size
abbrev ZBd := @List.mem_singleton
abbrev ZBe := @List.mem_cons
abbrev ZBf := @List.map_cons
abbrev ZBg := @Nat.le_trans
abbrev ZBh := @PySem.Heap.get?_push_size
abbrev ZBi := @List.take_length
abbrev ZBj := @Nat.ne_of_lt
abbrev ZBk := @List.getElem?_append_right
abbrev ZBl := @List.length_take
abbrev ZBm := @Nat.lt_of_lt_of_le
abbrev ZBn := @List.mem_append_right
abbrev ZBo := @List.mem_append
abbrev ZBp := @List.length_cons
abbrev ZBq := @List.getElem?_append_left
abbrev ZBr := @List.mem_map
abbrev ZBs := @List.getElem_of_mem
abbrev ZBt := @List.pairwise_iff_getElem
abbrev ZBu := @List.take_succ
abbrev ZBw := @List.all_eq_true
abbrev ZBx := @Int.toNat_natCast
abbrev ZBy := @decide_eq_true_eq
abbrev ZB0 := @List.getD_eq_getElem?_getD
abbrev ZB2 := @Nat.lt_irrefl
abbrev ZB3 := @List.getElem_mem
abbrev ZB5 := @Nat.le_of_not_lt
abbrev ZB6 := @Nat.not_lt_zero
abbrev ZB7 := @beq_self_eq_true
abbrev ZB8 := @decide_eq_true
abbrev ZB9 := @decide_eq_false
abbrev ZCa := PySem.W.Frag
noncomputable abbrev ZCb := PySem.Challenge.rw_momentties_k14_deeds_by_the_rule.prog
noncomputable section
variable {P:PySem.Program} {w:PySem.World} {K:ZCa} {mg:PySem.Str->Option PySem.Value} {base:PySem.Heap}
set_option Elab.async false
set_option linter.all false
set_option maxRecDepth 100000
namespace L2
open PySem PySem.Spec PyProof.Rows
abbrev znf (C:Addr) (dx:Option Addr) (t tb:Value):Obj:={ cls:=.ref C,dict:=dx,data:=.fields #[t,tb,.none,.none,.bool false,.none] }
def Hd (A:Around) (h:Heap):Prop:=A.handled=none\/∃(a C:Addr) (dx:Option Addr) (t tb:Value),A.handled=some (.ref a)/\h.get? a=some (znf C dx t tb)
theorem zjy:entryFor table "proto.unchain"=some Builtin.«proto.unchain»:=entryFor_of_tree (by kernel_rfl)
section
variable {prog:Program} {w:World} {A:Around} {E:Value->Shared->Prop} {s:Shared}
theorem Hd.keep {h h':Heap} (q:Hd A h) (k:∀b C dx t tb,h.get? b=some (znf C dx t tb)->h'.get? b=some (znf C dx t tb)):Hd A h':=by
 rcases q with q | ⟨a,C,dx,t,tb,q,e⟩
 ·exact .inl q
 ·exact .inr ⟨a,C,dx,t,tb,q,k a C dx t tb e⟩
theorem zrq {α:Type} {e:Addr} {oe:Obj} {vs:Array Value} {Q:α->Shared->Prop} (q:Hd A s.heap) (he:s.heap.get? e=some oe) (hc:∃n,oe.cls=.type n) (hd:oe.data=.fields vs) (hz:2<vs.size)
 (h:∀h',Heap.SameBut e s.heap h'->(∃o,h'.get? e=some o/\o.cls=oe.cls)->E (.ref e) { s with heap:=h' }):wpAny (model prog w) A (raiseNew (.ref e):Sem α) Q E s:=by
 unfold raiseNew
 refine ZAp (wpAny_handled ?_)
 rcases q with q | ⟨a,C,dx,t,tb,q,ea⟩
 ·rw [q]
  exact ZAp (ZAq (wpAny_throw (h s.heap (Heap.SameBut.refl ..) ⟨oe,he,rfl⟩)))
 ·rw [q]
  have ne:a≠e:=fun z=>by
   rw [z,he] at ea
   obtain ⟨n,hn⟩:=hc
   rw [ZA7 ea] at hn
   cases hn
  dsimp only
  rw [if_pos (show (Value.ref a !=Value.ref e)=true by simp [ne])]
  refine ZAp (wpAny_holding (wpAny_runValue (codeAny_builtin zjy ?_)))
  show wpAny _ _ (field (.ref a) 2>>=_) _ _ s
  refine ZAp (wpAny_field ea rfl (x:=.none) rfl ?_)
  rw [if_pos (by rfl)]
  refine ZAp (ZAq (ZAq ?_))
  refine ZAp (wpAny_setField (a:=e) he hd hz ?_)
  exact wpAny_throw (h _ (Heap.SameBut.update ..) ⟨_,Heap.get?_update_self _ he (Obj.isFreed_of_fields (Obj.data_mapFields hd _)),Obj.cls_mapFields ..⟩)
theorem zjb {α:Type} {Q:α->Shared->Prop} (q:Hd A s.heap)
 (h:∀e h',(∀b o,s.heap.get? b=some o->h'.get? b=some o)->(∃o,h'.get? e=some o/\o.cls=.type "StopIteration")->E (.ref e) { s with heap:=h' }):
 wpAny (model prog w) A (newExc (.type "StopIteration") []>>=fun x=>(raiseNew x:Sem α)) Q E s:=by
 refine ZAp ?_
 unfold newExc newTuple
 refine ZAp (wpAny_newObj_type ?_ (by size_fits))
 refine ZAp (wpAny_of_eq (a:=Value.none) (by first | rfl | (simp only [firstArgMember];rfl)) ?_)
 refine wpAny_newObj_type ?_ (by size_fits)
 refine zrq (q.keep fun b C dx t tb e=>ZAy _ (ZAy _ e)) (ZBh _ rfl) ⟨_,rfl⟩ rfl (by simp;omega) fun h' sb ⟨o,eo,ec⟩=>?_
 refine h _ h' (fun b o' e=>?_) ⟨o,eo,ec⟩
 have e1:=ZAy (h:=s.heap) { cls:=.type "tuple",data:=.seq ([]:List Value).toArray } e
 exact (sb.2 b (ZBj (ZBc e1))).trans (ZAy _ e1)
theorem zjz {it:Addr} {s0:Shared} {e:Addr} {h':Heap} {Q:Option Value->Shared->Prop} (k:∀b o,b≠it->s0.heap.get? b=some o->h'.get? b=some o) (t:∃o,h'.get? e=some o/\o.cls=.type "StopIteration") (hQ:∀h',Heap.ExtBut it s0.heap h'->Q none { s0 with heap:=h' }):
 wpAny (model prog w) A (isInstance (.ref e) (.type "StopIteration")) (fun b s'=>b=true/\Q none s') E { s0 with heap:=h' }:=by
 obtain ⟨o,e1,e2⟩:=t
 exact wpAny_isInstance (T:="StopIteration") (b:=true) ⟨o,e1,e2⟩ isSubtype_stop ⟨rfl,hQ h' fun b u hb e=>k b u hb e⟩
theorem zl0 {it l:Addr} {i:Nat} {items:Array Value} {Q:Option Value->Shared->Prop} (q:Hd A s.heap) (st:s.heap.IsListIter it l i) (hl:s.heap.IsList l items) (hx:items[i]?=none)
 (hQ:∀h',Heap.ExtBut it s.heap h'->Q none { s with heap:=h' }):wpAny (model prog w) A (pyNext (.ref it)) Q E s:=by
 obtain ⟨u,hu,cu,du⟩:=id st
 obtain ⟨v,hv,_,nv,dv⟩:=hl
 unfold pyNext
 refine ZAp (wpAny_attempt (wpAny_callSpecial?_slot (name:=Str.ofString "__next__") st.typeIs slot_listiter_next (wpAny_call_entry slot_listiter_next st.typeIs entry_listiter_next ?_ (args_listiter_next _))))
 show wpAny _ _ (field (.ref it) 0>>=_) _ _ s
 refine ZAp (wpAny_field hu du (x:=.ref l) rfl ?_)
 rw [if_neg (show ¬((Value.ref l==Value.none)=true) from ZA6)]
 refine ZAp (wpAny_field hu du (x:=.int i 0) rfl (ZAp (wpAny_seqItems hv dv ?_)))
 simp only [ZBx,hx]
 refine ZAp (wpAny_rule (ZAp (wpAny_setField hu du (by simp) ?_)))
 have other:∀b o,b≠it->s.heap.get? b=some o->(s.heap.update it (Obj.mapFields (·.setIfInBounds 0 Value.none))).get? b=some o:=fun b o hb e=>(Heap.get?_update_other _ _ (ZAl hb)).trans e
 refine zjb (A:=A.in1) (s:={ s with heap:=s.heap.update it (Obj.mapFields (·.setIfInBounds 0 Value.none)) }) (Hd.keep (A:=A.in1) q fun b C dx t tb e=>other b _ (fun z=>?_) e) fun e h' kk te=>?_
 ·rw [z,hu] at e
  cases e
  cases cu
 ·refine ZAp (wpAny_mono (zjz (s0:=s) (fun b o hb z=>kk b o (other b o hb z)) te hQ) (fun b s' z=>?_) fun _ _ z=>z)
  obtain ⟨rfl,z⟩:=z
  exact ZAq z
theorem zg2 {it:Addr} {x left step:Int} {Q:Option Value->Shared->Prop} (q:Hd A s.heap) (st:IsRangeIter s.heap it x left step) (hz:left<=0)
 (hQ:∀h',Heap.ExtBut it s.heap h'->Q none { s with heap:=h' }):wpAny (model prog w) A (pyNext (.ref it)) Q E s:=by
 have ty:s.TypeIs (.ref it) "range_iterator":=⟨_,st,rfl⟩
 unfold pyNext
 refine ZAp (wpAny_attempt (wpAny_callSpecial?_slot (name:=Str.ofString "__next__") ty F.slot_range_iterator_next (wpAny_call_entry F.slot_range_iterator_next ty F.entry_range_iterator_next ?_ (F.args_range_iterator_next_1 _))))
 show wpAny _ _ (field (.ref it) 0>>=_) _ _ s
 refine ZAp (wpAny_field st rfl (x:=rawInt x) rfl (ZAp (wpAny_field st rfl (x:=rawInt left) rfl (ZAp (wpAny_field st rfl (x:=rawInt step) rfl ?_)))))
 show wpAny _ _ (if left<=0 then _ else _) _ _ s
 rw [if_pos hz]
 refine ZAp (wpAny_rule ?_)
 refine ZAp ?_
 refine zjb (A:=A.in1) (s:=s) q fun e h' kk te=>?_
 refine ZAp (wpAny_mono (zjz (s0:=s) (fun b o _ z=>kk b o z) te hQ) (fun b s' z=>?_) fun _ _ z=>z)
 obtain ⟨rfl,z⟩:=z
 exact ZAq z
theorem znx {it t:Addr} {i:Nat} {items:Array Value} {Q:Option Value->Shared->Prop} (q:Hd A s.heap) (st:IsTupIter s.heap it t i) (hl:IsTup s.heap t items) (hx:items[i]?=none)
 (hQ:∀h',Heap.ExtBut it s.heap h'->Q none { s with heap:=h' }):wpAny (model prog w) A (pyNext (.ref it)) Q E s:=by
 obtain ⟨u,hu,cu,du⟩:=id st
 obtain ⟨v,hv,_,nv,dv⟩:=hl
 unfold pyNext
 refine ZAp (wpAny_attempt (wpAny_callSpecial?_slot (name:=Str.ofString "__next__") st.typeIs slot_tupleiter_next (wpAny_call_entry slot_tupleiter_next st.typeIs entry_tupleiter_next ?_ (args_tupleiter_next _))))
 show wpAny _ _ (field (.ref it) 0>>=_) _ _ s
 refine ZAp (wpAny_field hu du (x:=.ref t) rfl ?_)
 rw [if_neg (show ¬((Value.ref t==Value.none)=true) from ZA6)]
 refine ZAp (wpAny_field hu du (x:=.int i 0) rfl (ZAp (wpAny_seqItems hv dv ?_)))
 simp only [ZBx,hx]
 refine ZAp (wpAny_rule (ZAp (wpAny_setField hu du (by simp) ?_)))
 have other:∀b o,b≠it->s.heap.get? b=some o->(s.heap.update it (Obj.mapFields (·.setIfInBounds 0 Value.none))).get? b=some o:=fun b o hb e=>(Heap.get?_update_other _ _ (ZAl hb)).trans e
 refine zjb (A:=A.in1) (s:={ s with heap:=s.heap.update it (Obj.mapFields (·.setIfInBounds 0 Value.none)) }) (Hd.keep (A:=A.in1) q fun b C dx tt tb e=>other b _ (fun z=>?_) e) fun e h' kk te=>?_
 ·rw [z,hu] at e
  cases e
  cases cu
 ·refine ZAp (wpAny_mono (zjz (s0:=s) (fun b o hb z=>kk b o (other b o hb z)) te hQ) (fun b s' z=>?_) fun _ _ z=>z)
  obtain ⟨rfl,z⟩:=z
  exact ZAq z
theorem zjh {it:Addr} {lo:Int} {i n:Nat} {Q:Option Value->Shared->Prop} (hi:i<n) (st:IsRangeIter s.heap it (lo+(i:Nat)*1) ((n:Int)-(i:Nat)) 1)
 (hQ:∀(t:Tok) h' tk,IsRangeIter h' it (lo+((i+1:Nat):Int)*1) ((n:Int)-((i+1:Nat):Int)) 1->(∀b o,b∉[it]->s.heap.get? b=some o->h'.get? b=some o)->Q (some (.int (lo+(i:Nat)*1) t)) { s with heap:=h',toks:=tk }):
 wpAny (model prog w) A (pyNext (.ref it)) Q E s:=by
 refine wpAny_pyNext_range_item st (by omega) fun h' st' sb=>?_
 refine hQ _ h' _ ?_ fun b o hb e=>sb.extBut b o (fun z=>hb (by simp [z])) e
 have e1:lo+((i+1:Nat):Int)*1=lo+(i:Int)*1+1:=by omega
 have e2:(n:Int)-((i+1:Nat):Int)=(n:Int)-(i:Int)-1:=by omega
 rw [e1,e2]
 exact st'
end
abbrev Key:=Sum Int Str
def zk0:Key->Value->Bool
 | .inl k,v=>Value.isInt k v
 | .inr x,v=>Value.isStrOf x v
def zA3 (w:World):Key->Int
 | .inl k=>hashInt k
 | .inr x=>hashStr w x
theorem zbp:∀{k:Key} {v:Value},zk0 k v=true->(∃i t,k=Sum.inl i/\v=Value.int i t)\/(∃x t,k=Sum.inr x/\v=Value.str x t)
 | .inl i,v,h=>by
  obtain ⟨t,e⟩:=Value.isInt_shape (k:=i) (v:=v) h
  exact .inl ⟨i,t,rfl,e⟩
 | .inr x,v,h=>by
  obtain ⟨t,e⟩:=Value.isStrOf_shape (x:=x) (v:=v) h
  exact .inr ⟨x,t,rfl,e⟩
theorem zqc (i:Int) (t:Tok):zk0 (.inl i) (.int i t)=true:=by simp [zk0,Value.isInt]
theorem zqb (x:Str) (t:Tok):zk0 (.inr x) (.str x t)=true:=by simp [zk0,Value.isStrOf]
theorem zwv (a b:Int):decide ((Sum.inl a:Key)=Sum.inl b)=(a==b):=by
 by_cases e:a=b
 ·subst e;simp
 ·have h:¬(Sum.inl a:Key)=Sum.inl b:=fun q=>e (Sum.inl.inj q)
  rw [ZB9 h]
  exact (beq_eq_false_iff_ne.mpr e).symm
theorem zws (a b:Str):decide ((Sum.inr a:Key)=Sum.inr b)=decide (a=b):=by
 by_cases e:a=b
 ·subst e;simp
 ·have h:¬(Sum.inr a:Key)=Sum.inr b:=fun q=>e (Sum.inr.inj q)
  rw [ZB9 h,ZB9 e]
theorem zwu (a:Int) (b:Str):decide ((Sum.inl a:Key)=Sum.inr b)=false:=ZB9 nofun
theorem zwt (a:Str) (b:Int):decide ((Sum.inr a:Key)=Sum.inl b)=false:=ZB9 nofun
def zcq (prog:Program) (w:World):PySem.KeyKind prog w Key where
 is:=zk0
 hash:=zA3 w
 inj:=fun v a b ha hb=>by
  rcases zbp ha with ⟨i,t,rfl,rfl⟩ | ⟨x,t,rfl,rfl⟩
  ·rcases zbp hb with ⟨j,u,rfl,e⟩ | ⟨y,u,rfl,e⟩
   ·injection e with e1 _;rw [e1]
   ·exact nomatch e
  ·rcases zbp hb with ⟨j,u,rfl,e⟩ | ⟨y,u,rfl,e⟩
   ·exact nomatch e
   ·injection e with e1 _;rw [e1]
 byValue:=fun k v h=>by
  rcases zbp h with ⟨i,t,rfl,rfl⟩ | ⟨x,t,rfl,rfl⟩<;>rfl
 pyHash:=fun hv h=>by
  rcases zbp hv with ⟨i,t,rfl,rfl⟩ | ⟨x,t,rfl,rfl⟩
  ·exact wpAny_pyHash_int h
  ·exact wpAny_pyHash_str h
 eqBool:=fun hu hv h=>by
  rcases zbp hu with ⟨i,t,rfl,rfl⟩ | ⟨x,t,rfl,rfl⟩
  ·rcases zbp hv with ⟨j,u,rfl,rfl⟩ | ⟨y,u,rfl,rfl⟩
   ·rw [zwv] at h;exact wpAny_eqBool_int h
   ·rw [zwu] at h;exact SeqAt.EqAt.int_str i t y u _ _ _ _ h
  ·rcases zbp hv with ⟨j,u,rfl,rfl⟩ | ⟨y,u,rfl,rfl⟩
   ·rw [zwt] at h;exact SeqAt.EqAt.str_int x t j u _ _ _ _ h
   ·rw [zws] at h;exact wpAny_eqBool_str h
 «strs»:=fun k x t v h=>by
  rcases zbp h with ⟨i,u,rfl,e⟩ | ⟨y,u,rfl,e⟩
  ·exact nomatch e
  ·injection e with e1 _
   subst e1
   cases v<;>rfl
theorem zlz (prog:Program) (w:World) (i:Int) (t:Tok):(zcq prog w).is (.inl i) (.int i t)=true:=zqc i t
theorem zly (prog:Program) (w:World) (x:Str) (t:Tok):(zcq prog w).is (.inr x) (.str x t)=true:=zqb x t
inductive V where
 | non | bl (b:Bool) | int (i:Int) | str (x:Str) | byt (b:Array UInt8) | flt (b:UInt64) | ref (a:Addr) | ty (n:String)
 deriving DecidableEq
def zcr:V->Value->Prop
 | .non,u=>u=Value.none
 | .bl b,u=>u=Value.bool b
 | .int i,u=>∃t,u=Value.int i t
 | .str x,u=>∃t,u=Value.str x t
 | .byt b,u=>∃t,u=Value.bytes b t
 | .flt b,u=>∃t,u=Value.float b t
 | .ref a,u=>u=Value.ref a
 | .ty n,u=>u=Value.type n
abbrev zcc:List V->List Value->Prop:=Paired zcr
theorem zcc.length {xs:List V} {us:List Value} (r:zcc xs us):xs.length=us.length:=Paired.length r
theorem zcc.get:∀{xs:List V} {us:List Value} {i:Nat} {x:V},zcc xs us->xs[i]?=some x->∃u,us[i]?=some u/\zcr x u
 | _,_,_,_,.nil,e=>by simp at e
 | _,_,0,_,.cons r _,e=>by simp at e;subst e;exact ⟨_,rfl,r⟩
 | _,_,i+1,x,.cons _ t,e=>by
  obtain ⟨u,h1,h2⟩:=zcc.get (i:=i) (x:=x) t (by simpa using e)
  exact ⟨u,by simpa using h1,h2⟩
theorem zcc.set {x:V} {u:Value} (r:zcr x u):∀{xs:List V} {us:List Value} (i:Nat),zcc xs us->zcc (xs.set i x) (us.set i u)
 | _,_,_,.nil=>.nil
 | _,_,0,.cons _ t=>.cons r t
 | _,_,i+1,.cons q t=>.cons q (zcc.set r i t)
theorem zcc.append {xs ys:List V} {us ws:List Value} (h:zcc xs us) (s:zcc ys ws):zcc (xs++ys) (us++ws):=by
 induction h with
 | nil=>exact s
 | cons r t ih=>exact .cons r ih
theorem zcc.take:∀{xs:List V} {us:List Value} (n:Nat),zcc xs us->zcc (xs.take n) (us.take n)
 | _,_,0,_=>.nil
 | _,_,_+1,.nil=>.nil
 | _,_,n+1,.cons r t=>.cons r (zcc.take n t)
theorem zcc.drop:∀{xs:List V} {us:List Value} (n:Nat),zcc xs us->zcc (xs.drop n) (us.drop n)
 | _,_,0,r=>r
 | _,_,_+1,.nil=>.nil
 | _,_,n+1,.cons _ t=>zcc.drop n t
def zlq:Option V->Option Value->Prop
 | some v,some u=>zcr v u
 | none,none=>True
 | _,_=>False
def KV {κ:Type}:List (κ×V)->List (κ×Value)->Prop:=Paired fun (p:κ×V) (q:κ×Value)=>p.1=q.1/\zcr p.2 q.2
def kV:Key->V
 | .inl i=>.int i
 | .inr x=>.str x
inductive HO where
 | lst (xs:List V)
 | tup (xs:List V)
 | dK (kvs:List (Key×V)) | dT (kvs:List (List Key×V))
 | set (S:Int->Bool) (n:Nat)
 | ins (C dx:Addr) (fs:List (Str×V))
 | own (x:Addr)
 | xd (fs:List (Str×V))
 | met (f x:Addr)
 | rng (lo hi:Int)
 | frz (o:Obj) (u:HO)
 | tbl (ps:Array Value)
 | ext (φ:Heap->Prop)
abbrev Hp:=Addr->Option HO
def upd (H:Hp) (a:Addr) (o:HO):Hp:=fun b=>if b=a then some o else H b
theorem zab {H:Hp} {a:Addr} {o:HO}:upd H a o a=some o:=by unfold upd;rw [if_pos rfl]
theorem zaf {H:Hp} {a b:Addr} {o:HO} (h:b≠a):upd H a o b=H b:=by unfold upd;rw [if_neg h]
theorem zlr {H:Hp} {a:Addr} {o u:HO}:upd (upd H a o) a u=upd H a u:=by
 funext b;unfold upd;split<;>rfl
theorem zao {H:Hp} {a b:Addr} {o u:HO} (h:H a=some o) (h':H b=some u) (d:o≠u):a≠b:=by
 intro e;subst e;rw [h] at h';exact d (ZA7 h')
theorem zaa {H:Hp} {a b:Addr} {o:HO} (h:H a=some o) (h':H b=none):a≠b:=by
 intro e;subst e;rw [h] at h';cases h'
section
variable (P:Program) (w:World)
def zcl (H:Hp) (h:Heap) (a:Addr):HO->Prop
 | .lst xs=>xs.length<=sizeLine/\∃(its:List Value) (n:Nat),zcc xs its/\h.get? a=some { cls:=.type "list",data:=.seq its.toArray n }
 | .tup xs=>xs.length<=sizeLine/\∃its:List Value,zcc xs its/\IsTup h a its.toArray
 | .dK kvs=>kvs.length<=sizeLine/\(a==sysModules)=false/\∃vs,KV kvs vs/\h.DictOf (zcq P w) a vs
 | .dT kvs=>kvs.length<=sizeLine/\(a==sysModules)=false/\∃xs:List (List Key×Addr×Value),
  Paired (fun (p:List Key×V) (q:List Key×Addr×Value)=>p.1=q.1/\H q.2.1=some (.tup (p.1.map kV))/\zcr p.2 q.2.2) kvs xs/\
  ∃o es ep,h.get? a=some o/\o.ExactDict/\o.data=.dict es ep/\es.toList=xs.map (entryOfKey (tupleKind (zcq P w)))/\(xs.map (·.1)).Nodup
 | .set S n=>h.SetOf (intKind P w) a S n
 | .ins C dx fs=>H dx=some (.own a)/\fs.length<=1000/\dx≠a/\h.get? a=some (PySem.W.instObj C dx)/\
  ∃mA,h.Ns1 dx mA/\(∀f,zlq (fs.lookup f) (mA f))/\PySem.Within mA (fs.map (·.1))
 | .own _=>∃o,h.get? a=some o
 | .xd fs=>∃mA,h.Ns1 a mA/\∀f,zlq (fs.lookup f) (mA f)
 | .rng lo hi=>∃t u v,h.get? a=some { cls:=.type "range",data:=.fields #[.int lo t,.int hi u,.int 1 v] }
 | .frz o u=>h.get? a=some o/\zcl H h a u
 | .tbl ps=>h.get? a=some { cls:=.none,data:=.fields ps }
 | .met f x=>h.get? a=some (PySem.W.methodObj (.ref f) (.ref x))
 | .ext φ=>φ h/\(∃o,h.get? a=some o)/\∀h1 h2:Heap,φ h1->(∀o,h1.get? a=some o->h2.get? a=some o)->φ h2
def HOk (H:Hp) (h:Heap):Prop:=∀a o,H a=some o->zcl P w H h a o
end
section
variable {P:Program} {w:World} {H H':Hp} {h h':Heap} {a:Addr} {o:HO}
theorem zcl.lt (x:zcl P w H h a o):a<h.objs.size:=by
 cases o with
 | lst xs=>obtain ⟨_,_,_,_,e⟩:=x;exact ZBc e
 | tup xs=>obtain ⟨_,_,_,p⟩:=x;exact p.lt
 | dK kvs=>obtain ⟨_,_,_,_,o,_,_,e,_⟩:=x;exact ZBc e
 | dT kvs=>obtain ⟨_,_,_,_,o,_,_,e,_⟩:=x;exact ZBc e
 | set S n=>obtain ⟨o,_,_,_,e,_⟩:=x;exact ZBc e
 | ins C dx fs=>obtain ⟨_,_,_,e,_⟩:=x;exact ZBc e
 | own y=>obtain ⟨_,e⟩:=x;exact ZBc e
 | xd fs=>obtain ⟨_,⟨_,_,_,e,_⟩,_⟩:=x;exact ZBc e
 | rng lo hi=>obtain ⟨_,_,_,e⟩:=x;exact ZBc e
 | frz ob u=>obtain ⟨e,_⟩:=x;exact ZBc e
 | tbl ps=>exact ZBc (show h.get? a=some _ from x)
 | met f y=>exact ZBc (show h.get? a=some _ from x)
 | ext φ=>obtain ⟨_,⟨_,e⟩,_⟩:=x;exact ZBc e
theorem Paired.mapP {α β:Type} {F G:α->β->Prop} {l₁:List α} {l₂:List β} (h:Paired F l₁ l₂) (f:∀a b,F a b->G a b):Paired G l₁ l₂:=by
 induction h with
 | nil=>exact .nil
 | cons r t ih=>exact .cons (f _ _ r) ih
theorem zcl.stay (x:zcl P w H h a o) (k:∀b u,(b=a\/H b=some (.own a))->h.get? b=some u->h'.get? b=some u)
 (ho:∀b,H b=some (.own a)->H' b=some (.own a)) (ht:∀b xs,H b=some (.tup xs)->H' b=some (.tup xs)):zcl P w H' h' a o:=by
 induction o with
 | lst xs=>obtain ⟨z,its,n,r,e⟩:=x;exact ⟨z,its,n,r,k _ _ (.inl rfl) e⟩
 | tup xs=>obtain ⟨z,its,r,ob,e,c⟩:=x;exact ⟨z,its,r,ob,k _ _ (.inl rfl) e,c⟩
 | dK kvs=>obtain ⟨z,y,vs,r,ob,es,ep,e,c⟩:=x;exact ⟨z,y,vs,r,ob,es,ep,k _ _ (.inl rfl) e,c⟩
 | dT kvs=>
  obtain ⟨z,y,xs,r,ob,es,ep,e,c⟩:=x
  exact ⟨z,y,xs,Paired.mapP r fun p q z=>⟨z.1,ht _ _ z.2.1,z.2.2⟩,ob,es,ep,k _ _ (.inl rfl) e,c⟩
 | set S n=>obtain ⟨ob,es,ep,t,e,c⟩:=x;exact ⟨ob,es,ep,t,k _ _ (.inl rfl) e,c⟩
 | ins C dx fs=>
  obtain ⟨d,z,ne,e,mA,⟨od,es,ep,e2,c⟩,r⟩:=x
  exact ⟨ho _ d,z,ne,k _ _ (.inl rfl) e,mA,⟨od,es,ep,k _ _ (.inr d) e2,c⟩,r⟩
 | own y=>obtain ⟨ob,e⟩:=x;exact ⟨ob,k _ _ (.inl rfl) e⟩
 | xd fs=>obtain ⟨mA,⟨od,es,ep,e,c⟩,r⟩:=x;exact ⟨mA,⟨od,es,ep,k _ _ (.inl rfl) e,c⟩,r⟩
 | rng lo hi=>obtain ⟨t,u,v,e⟩:=x;exact ⟨t,u,v,k _ _ (.inl rfl) e⟩
 | frz ob u ih=>obtain ⟨e,q⟩:=x;exact ⟨k _ _ (.inl rfl) e,ih q⟩
 | tbl ps=>
  have e:h.get? a=some { cls:=.none,data:=.fields ps }:=x
  show h'.get? a=some { cls:=.none,data:=.fields ps }
  exact k a _ (.inl rfl) e
 | met f y=>
  have e:h.get? a=some (PySem.W.methodObj (.ref f) (.ref y)):=x
  show h'.get? a=some (PySem.W.methodObj (.ref f) (.ref y))
  exact k a _ (.inl rfl) e
 | ext φ=>obtain ⟨p,⟨o,e⟩,st⟩:=x;exact ⟨st _ _ p fun o q=>k _ _ (.inl rfl) q,⟨o,k _ _ (.inl rfl) e⟩,st⟩
theorem HOk.lt (x:HOk P w H h) (e:H a=some o):a<h.objs.size:=(x a o e).lt
theorem HOk.fresh (x:HOk P w H h) (e:h.objs.size<=a):H a=none:=by
 cases q:H a with
 | none=>rfl
 | some u=>exact absurd (ZBm (x.lt q) e) (ZB2 _)
theorem HOk.kept (x:HOk P w H h) (k:∀b u,h.get? b=some u->h'.get? b=some u):HOk P w H h':=fun a o e=>
 (x a o e).stay (fun b u _ q=>k b u q) (fun _ q=>q) fun _ _ q=>q
theorem HOk.laid (x:HOk P w H h) (k:∀b u,h.get? b=some u->h'.get? b=some u) (hp:h.objs.size<=a) (new:zcl P w (upd H a o) h' a o):HOk P w (upd H a o) h':=fun b u e=>by
 have hn:=x.fresh hp
 by_cases hb:b=a
 ·subst hb;rw [zab] at e;cases e;exact new
 ·rw [zaf hb] at e
  exact (x b u e).stay (fun c v _ q=>k c v q) (fun c q=>by rw [zaf (zaa q hn)];exact q) fun c xs q=>by rw [zaf (zaa q hn)];exact q
end
def Rd (H:Hp) (a:Addr) (u:HO):Prop:=H a=some u\/∃o,H a=some (.frz o u)
theorem Rd.ok {P:Program} {w:World} {H:Hp} {h:Heap} {a:Addr} {u:HO} (r:Rd H a u) (x:HOk P w H h):zcl P w H h a u:=by
 rcases r with r | ⟨o,r⟩
 ·exact x a u r
 ·obtain ⟨_,q⟩:=x a _ r
  exact q
def Mut:Option HO->Prop
 | some (.lst _)=>True
 | some (.dK _)=>True
 | some (.dT _)=>True
 | some (.set _ _)=>True
 | some (.ins _ _ _)=>True
 | some (.ext _)=>True
 | _=>False
section
variable {P:Program} {w:World} {H:Hp} {h h':Heap} {x e:Addr} {o':HO}
theorem HOk.write (ok:HOk P w H h) (mu:Mut (H x)) (he:e=x\/H e=some (.own x)) (k:∀b u,b≠e->h.get? b=some u->h'.get? b=some u) (heo:∃u,h'.get? e=some u)
 (new:zcl P w (upd H x o') h' x o'):HOk P w (upd H x o') h':=fun b u q=>by
 have nown:∀c y,H c=some (.own y)->c≠x:=fun c y r z=>by subst z;rw [r] at mu;exact mu
 have ntup:∀c xs,H c=some (.tup xs)->c≠x:=fun c xs r z=>by subst z;rw [r] at mu;exact mu
 by_cases hb:b=x
 ·subst hb;rw [zab] at q;cases q;exact new
 ·rw [zaf hb] at q
  by_cases hbe:b=e
  ·have q':H b=some (.own x):=by
    rcases he with z | z
    ·exact absurd (hbe.trans z) hb
    ·rw [hbe];exact z
   rw [q] at q';cases q'
   obtain ⟨v,hv⟩:=heo
   exact ⟨v,by rw [hbe];exact hv⟩
  ·refine (ok b u q).stay (fun c v hc r=>k c v ?_ r) (fun c r=>by rw [zaf (nown c b r)];exact r) fun c xs r=>by rw [zaf (ntup c xs r)];exact r
   rcases hc with rfl | hc
   ·exact hbe
   ·rintro rfl
    rcases he with z | z
    ·exact nown c b hc z
    ·rw [hc] at z;cases z;exact hb rfl
end
structure Un (fs ex:List Addr) (H H':Hp) (h h':Heap):Prop where
 keep:∀b o,h.get? b=some o->H b=none->b∉fs->b∉ex->h'.get? b=some o
 slot:∀b o,h.get? b=some o->H b=none->b∈fs->b∉ex->∃sl,h'.get? b=some { o with slots:=sl }
 free:∀b o,h.get? b=some o->H b=none->b∉ex->H' b=none
 there:∀b o,h.get? b=some o->b∉ex->∃o',h'.get? b=some o'
 tups:∀b xs,H b=some (.tup xs)->H' b=some (.tup xs)
 frzs:∀b o u,H b=some (.frz o u)->H' b=some (.frz o u)
 tbls:∀b ps,H b=some (.tbl ps)->∃more,H' b=some (.tbl (ps++more))
section
variable {fs fs' ex ex':List Addr} {H H1 H2:Hp} {h h1 h2 h':Heap} {a x e:Addr} {o:HO}
theorem Un.any (u:Un fs ex H H1 h h1) {b:Addr} {ob:Obj} (q:h.get? b=some ob) (n:H b=none) (hx:b∉ex):∃sl,h1.get? b=some { ob with slots:=sl }:=by
 by_cases hb:b∈fs
 ·exact u.slot b ob q n hb hx
 ·exact ⟨ob.slots,u.keep b ob q n hb hx⟩
theorem Un.kept (k:∀b u,h.get? b=some u->h'.get? b=some u):Un fs ex H H h h':=
 ⟨fun b ob q _ _ _=>k b ob q,fun b ob q _ _ _=>⟨ob.slots,k b ob q⟩,fun _ _ _ n _=>n,fun b ob q _=>⟨ob,k b ob q⟩,fun _ _ q=>q,fun _ _ _ q=>q,fun _ ps q=>⟨#[],by rw [q];simp⟩⟩
theorem Un.refl:Un fs ex H H h h:=Un.kept fun _ _ q=>q
theorem Un.laid (k:∀b u,h.get? b=some u->h'.get? b=some u) (hp:h.objs.size<=a) (hn:H a=none):Un fs ex H (upd H a o) h h' where
 keep:=fun b u q _ _ _=>k b u q
 slot:=fun b u q _ _ _=>⟨u.slots,k b u q⟩
 free:=fun b u q n _=>by rw [zaf (ZBj (ZBm (ZBc q) hp))];exact n
 there:=fun b u q _=>⟨u,k b u q⟩
 tups:=fun b xs q=>by rw [zaf (zaa q hn)];exact q
 frzs:=fun b u xs q=>by rw [zaf (zaa q hn)];exact q
 tbls:=fun b ps q=>⟨#[],by rw [zaf (zaa q hn),q];simp⟩
theorem Un.write (mu:Mut (H x)) (he:e=x\/H e=some (.own x)) (k:∀b u,b≠e->h.get? b=some u->h'.get? b=some u) (heo:∃u,h'.get? e=some u):Un fs ex H (upd H x o) h h':=by
 have hx:∀b,H b=none->b≠x:=fun b n z=>by subst z;rw [n] at mu;exact mu
 have hb:∀b,H b=none->b≠e:=fun b n z=>by
  subst z
  rcases he with r | r
  ·exact hx b n r
  ·rw [n] at r;cases r
 have hm:∀b u,H b=some u->¬Mut (some u)->b≠x:=fun b u q nm z=>by subst z;rw [q] at mu;exact nm mu
 refine ⟨fun b u q n _ _=>k b u (hb b n) q,fun b u q n _ _=>⟨u.slots,k b u (hb b n) q⟩,fun b u q n _=>by rw [zaf (hx b n)];exact n,fun b u q _=>?_,
  fun b xs q=>by rw [zaf (hm b _ q fun z=>z)];exact q,fun b u xs q=>by rw [zaf (hm b _ q fun z=>z)];exact q,fun b ps q=>⟨#[],by rw [zaf (hm b _ q fun z=>z),q];simp⟩⟩
 by_cases hbe:b=e
 ·subst hbe;exact heo
 ·exact ⟨u,k b u hbe q⟩
end
def trk (h:Heap) (H:Hp):List Addr:=(List.range h.objs.size).filter fun a=>(H a).isSome
def zsd (h:Heap) (H:Hp):Heap:=PySem.W.hideAll h (trk h H)
theorem zqj (h:Heap) (H:Hp):(zsd h H).objs.size=h.objs.size:=PySem.W.hideAll_size _ _
theorem zsc {h:Heap} {H:Hp} {b:Addr} {o:Obj} (e:h.get? b=some o) (n:H b=none):(zsd h H).get? b=some o:=
 PySem.W.hideAll_get _ e fun hm=>by
  have q:(H b).isSome=true:=(List.mem_filter.mp hm).2
  rw [n] at q;simp at q
theorem zuz {h:Heap} {H:Hp} {b:Addr} {o:Obj} (e:(zsd h H).get? b=some o):h.get? b=some o/\H b=none:=by
 have e':h.get? b=some o:=PySem.W.of_hideAll (trk h H) e
 refine ⟨e',?_⟩
 cases q:H b with
 | none=>rfl
 | some x=>
  have hm:b∈trk h H:=List.mem_filter.mpr ⟨List.mem_range.mpr (ZBc e'),by simp [q]⟩
  have z:(zsd h H).get? b=none:=PySem.W.hideAll_none (trk h H) hm
  rw [z] at e;cases e
structure Mod (K:ZCa) (mg:Str->Option Value) (base:Heap):Prop where
 kin:K.In base
 glob:base.Ns mainGlobals mg
 blt:∃mb,base.Ns builtinsNs mb/\∀x:Str,x≠"__name__"->mb x=bootBuiltins x
 nolimit:base.NoLimit
structure Cx where
 prog:Program
 w:World
 K:ZCa
 mg:Str->Option Value
 base:Heap
 A:Around
 N:List Str
 s₀:Shared
 H₀:Hp
 env:Env
 outer:List Env
 stack:List Env
 ex:List Addr
 fn:Str->Bool
 calm:Bool
 pn:List (Addr×Obj)
 xe:Value->Shared->Prop
def frs (l:List Env):List Addr:=l.filterMap (·.frame)
abbrev Cx.fs (X:Cx):List Addr:=frs X.outer
def Vis (sc:Scope) (x:Str):Prop:=sc.names.lookup x=some .local\/sc.names.lookup x=some .cell\/sc.names.lookup x=some .free
def Loc (sc:Scope) (x:Str):Prop:=sc.names.lookup x=some .local\/sc.names.lookup x=some .cell
def zBm (env:Env) (h:Heap) (m:Str->Option Value) (x:Str) (u:Value):Prop:=
 (env.kindOf x=some .local/\m x=some u)\/((env.kindOf x=some .cell\/env.kindOf x=some .free)/\∃c,env.cells.lookup x=some c/\h.IsCell c (some u))
structure Cx.Ok (X:Cx):Prop where
 mod:Mod X.K X.mg X.base
 kind:X.env.scope.kind=.function
 glob:X.env.globals=mainGlobals
 blt:X.env.builtins=builtinsNs
 above:X.s₀.heap.objs.size<=X.env.locals
 inj:∀x y c,X.env.cells.lookup x=some c->X.env.cells.lookup y=some c->x=y
 has:∀x,(X.env.kindOf x=some .cell\/X.env.kindOf x=some .free)->∃c,X.env.cells.lookup x=some c
 cab:∀x c,X.fn x=true->X.env.cells.lookup x=some c->X.s₀.heap.objs.size<=c
 hd:X.calm=true->X.A.handled=none
 frames:X.A.frames=some X.stack
 stk:X.stack=X.outer\/(X.stack=X.env::X.outer/\X.env.frame=some X.env.locals)
 exf:∀b∈X.ex,b≠X.env.locals/\∀x c,X.env.cells.lookup x=some c->c≠b
 bs:∀b o,X.base.get? b=some o->X.s₀.heap.get? b=some o/\X.H₀ b=none
 bsz:X.base.objs.size<=X.s₀.heap.objs.size
 noex:∀b o,X.base.get? b=some o->b∉X.ex
 exfs:∀b∈X.ex,b∉X.fs
 funs:X.s₀.heap.FunFrames X.base X.outer
 frf:∀b∈X.fs,X.H₀ b=none
structure Inv (X:Cx) (pins:List (Addr×Obj)) (σ:List (Option V)) (H:Hp) (s:Shared):Prop where
 ok:X.Ok
 os:s.os=X.s₀.os
 bare:AllBare s.gens
 base:Un X.fs X.ex X.H₀ H X.s₀.heap s.heap
 loc:∃m,s.heap.Ns X.env.locals m/\∀(i:Nat) (x:Str) (v:V),X.N[i]?=some x->σ[i]?=some (some v)->Vis X.env.scope x->∃u,zcr v u/\zBm X.env s.heap m x u
 cell:∀x c,X.env.cells.lookup x=some c->∃v,s.heap.IsCell c v
 free:H X.env.locals=none
 freeC:∀x c,X.env.cells.lookup x=some c->H c=none
 pin:∀p∈X.pn++pins,s.heap.get? p.1=some p.2/\H p.1=none/\p.1≠X.env.locals/\p.1∉X.fs/\∀v,p.2.data≠.cell v
 hok:HOk X.prog X.w H s.heap
 len:σ.length=X.N.length
section
variable {X:Cx} {pins:List (Addr×Obj)} {σ:List (Option V)} {H H':Hp} {s:Shared} {h':Heap}
theorem Cx.Ok.nofr (ok:X.Ok) {b:Addr} {o:Obj} (e:X.base.get? b=some o):b∉X.fs:=fun hb=>by
 have:=(ok.funs.mem hb).1
 rw [e] at this;cases this
theorem Inv.bs (I:Inv X pins σ H s):∀b o,X.base.get? b=some o->s.heap.get? b=some o/\H b=none:=fun b o e=>
 ⟨I.base.keep b o (I.ok.bs b o e).1 (I.ok.bs b o e).2 (I.ok.nofr e) (I.ok.noex b o e),I.base.free b o (I.ok.bs b o e).1 (I.ok.bs b o e).2 (I.ok.noex b o e)⟩
theorem Inv.bk (I:Inv X pins σ H s):∀b o,X.base.get? b=some o->s.heap.get? b=some o:=fun b o e=>(I.bs b o e).1
theorem Inv.mod (I:Inv X pins σ H s):Mod X.K X.mg X.base:=I.ok.mod
theorem Inv.kIn (I:Inv X pins σ H s):X.K.In s.heap:=I.ok.mod.kin.keeps I.bk
theorem Inv.lt (I:Inv X pins σ H s):X.env.locals<s.heap.objs.size:=let ⟨_,hn,_⟩:=I.loc;hn.lt
theorem Inv.sz (I:Inv X pins σ H s):X.s₀.heap.objs.size<=s.heap.objs.size:=ZBg I.ok.above (ZBb I.lt)
theorem Inv.nofs (I:Inv X pins σ H s) {a:Addr} (h:s.heap.objs.size<=a):a∉X.fs:=fun hb=>by
 obtain ⟨_,o,ho,_⟩:=I.ok.funs.mem hb
 exact absurd (ZBm (ZBc ho) (ZBg I.sz h)) (ZB2 _)
theorem Inv.cne (I:Inv X pins σ H s):∀x c,X.env.cells.lookup x=some c->c≠X.env.locals:=fun x c e z=>by
 obtain ⟨v,o,ho,hd⟩:=I.cell x c e
 obtain ⟨m,⟨o',es,ep,ho',hd',_⟩,_⟩:=I.loc
 rw [z,ho'] at ho;cases ho;rw [hd'] at hd;cases hd
theorem Inv.funs (I:Inv X pins σ H s):s.heap.FunFrames X.base X.outer:=by
 have all:∀(l:List Env),(∀b∈frs l,b∈X.fs)->X.s₀.heap.FunFrames X.base l->s.heap.FunFrames X.base l:=by
  intro l
  induction l with
  | nil=>intro _ _;trivial
  | cons env r ih=>
   intro hs hl
   obtain ⟨hk,⟨L,o,hf,hn,ho,hd⟩,hr⟩:=hl
   have hL:L∈X.fs:=hs L (by unfold frs;rw [List.filterMap_cons,hf];exact ZA5)
   obtain ⟨sl,e⟩:=I.base.slot L o ho (I.ok.frf L hL) hL fun z=>I.ok.exfs L z hL
   exact ⟨hk,⟨L,_,hf,hn,e,hd⟩,ih (fun b hb=>hs b (by unfold frs;rw [List.filterMap_cons,hf];exact ZA4 _ hb)) hr⟩
 exact all X.outer (fun _ hb=>hb) I.ok.funs
theorem Inv.stack (I:Inv X pins σ H s):s.heap.FunFrames X.base X.stack:=by
 rcases I.ok.stk with e | ⟨e,hf⟩
 ·rw [e];exact I.funs
 ·rw [e]
  obtain ⟨m,hn,_⟩:=I.loc
  refine .cons (by rw [I.ok.kind];decide) hf hn ?_ I.funs
  exact Heap.get?_none_of_le (ZBg I.ok.bsz I.ok.above)
theorem Inv.stkSub (I:Inv X pins σ H s):∀b∈frs X.stack,b∈X.env.locals::X.fs:=fun b hb=>by
 rcases I.ok.stk with e | ⟨e,hf⟩
 ·rw [e] at hb;exact ZA4 _ hb
 ·rw [e] at hb
  unfold frs at hb
  rw [List.filterMap_cons,hf] at hb
  exact hb
theorem Inv.stkFree (I:Inv X pins σ H s):∀b∈frs X.stack,H b=none:=fun b hb=>by
 rcases ZBe.mp (I.stkSub b hb) with e | hb
 ·rw [e];exact I.free
 ·obtain ⟨_,o,ho,_⟩:=I.ok.funs.mem hb
  exact I.base.free b o ho (I.ok.frf b hb) fun z=>I.ok.exfs b z hb
theorem Inv.step {g':Array GenState} {t':Nat} {d':Drawn} {ch:List Addr} (I:Inv X pins σ H s)
 (hch:∀b∈ch,(b∈X.ex\/X.s₀.heap.objs.size<=b)/\b≠X.env.locals/\(∀x c,X.env.cells.lookup x=some c->c≠b)/\∀p∈X.pn++pins,p.1≠b)
 (keep:∀b o,b≠X.env.locals->b∉X.fs->b∉ch->s.heap.get? b=some o->H b=none->h'.get? b=some o)
 (slot:∀b o,b≠X.env.locals->b∈X.fs->b∉ch->s.heap.get? b=some o->H b=none->∃sl,h'.get? b=some { o with slots:=sl }) (free:∀b o,b∉ch->s.heap.get? b=some o->H b=none->H' b=none)
 (there:∀b o,b∉ch->s.heap.get? b=some o->∃o',h'.get? b=some o')
 (tups:∀b xs,H b=some (.tup xs)->H' b=some (.tup xs)) (frzs:∀b o u,H b=some (.frz o u)->H' b=some (.frz o u)) (tbls:∀b ps,H b=some (.tbl ps)->∃more,H' b=some (.tbl (ps++more)))
 (ns:∀m,s.heap.Ns X.env.locals m->h'.Ns X.env.locals m) (hok:HOk X.prog X.w H' h') (hg:AllBare g'):
 Inv X pins σ H' { s with heap:=h',gens:=g',drawn:=d',toks:=t' }:=by
 have neL:∀b o,X.s₀.heap.get? b=some o->b≠X.env.locals:=fun b o e=>ZBj (ZBm (ZBc e) I.ok.above)
 have neC:∀b o,X.s₀.heap.get? b=some o->b∉X.ex->b∉ch:=fun b o e hx hb=>by
  rcases (hch b hb).1 with z | z
  ·exact hx z
  ·exact absurd (ZBm (ZBc e) z) (ZB2 _)
 have cellK:∀x c,X.env.cells.lookup x=some c->∀v,s.heap.IsCell c v->h'.IsCell c v:=fun x c e v ⟨o,ho,hd⟩=>by
  have nch:c∉ch:=fun z=>(hch c z).2.2.1 x c e rfl
  by_cases hc:c∈X.fs
  ·obtain ⟨sl,q⟩:=slot c o (I.cne x c e) hc nch ho (I.freeC x c e)
   exact ⟨_,q,hd⟩
  ·exact ⟨o,keep c o (I.cne x c e) hc nch ho (I.freeC x c e),hd⟩
 refine ⟨I.ok,I.os,hg,⟨fun b o e n hb hx=>?_,fun b o e n hb hx=>?_,fun b o e n hx=>?_,fun b o e hx=>?_,fun b xs e=>tups b xs (I.base.tups b xs e),fun b o xs e=>frzs b o xs (I.base.frzs b o xs e),fun b ps e=>?_⟩,?_,fun x c e=>?_,?_,fun x c e=>?_,fun p hp=>?_,hok,I.len⟩
 ·exact keep b o (neL b o e) hb (neC b o e hx) (I.base.keep b o e n hb hx) (I.base.free b o e n hx)
 ·obtain ⟨sl,e1⟩:=I.base.slot b o e n hb hx
  obtain ⟨sl',e2⟩:=slot b _ (neL b o e) hb (neC b o e hx) e1 (I.base.free b o e n hx)
  exact ⟨sl',e2⟩
 ·obtain ⟨o',e1⟩:=I.base.there b o e hx
  exact free b o' (neC b o e hx) e1 (I.base.free b o e n hx)
 ·obtain ⟨o',e1⟩:=I.base.there b o e hx
  exact there b o' (neC b o e hx) e1
 ·obtain ⟨m1,e1⟩:=I.base.tbls b ps e
  obtain ⟨m2,e2⟩:=tbls b _ e1
  exact ⟨m1++m2,by rw [e2,Array.append_assoc]⟩
 ·obtain ⟨m,hn,hl⟩:=I.loc
  refine ⟨m,ns m hn,fun i x v e1 e2 e3=>?_⟩
  obtain ⟨u,r,l⟩:=hl i x v e1 e2 e3
  refine ⟨u,r,?_⟩
  rcases l with l | ⟨k,c,e,z⟩
  ·exact .inl l
  ·exact .inr ⟨k,c,e,cellK x c e _ z⟩
 ·obtain ⟨v,z⟩:=I.cell x c e
  exact ⟨v,cellK x c e v z⟩
 ·obtain ⟨m,⟨o,_,_,ho,_⟩,_⟩:=I.loc
  exact free _ o (fun z=>(hch _ z).2.1 rfl) ho I.free
 ·obtain ⟨v,o,ho,hd⟩:=I.cell x c e
  exact free c o (fun z=>(hch c z).2.2.1 x c e rfl) ho (I.freeC x c e)
 ·obtain ⟨e,n,ne,nf,d⟩:=I.pin p hp
  have nch:p.1∉ch:=fun z=>(hch p.1 z).2.2.2 p hp rfl
  exact ⟨keep p.1 p.2 ne nf nch e n,free p.1 p.2 nch e n,ne,nf,d⟩
theorem Inv.un {t':Nat} (I:Inv X pins σ H s) (u:Un X.fs [] H H' s.heap h') (hok:HOk X.prog X.w H' h'):Inv X pins σ H' { s with heap:=h',toks:=t' }:=by
 obtain ⟨m,⟨o,es,ep,ho,r⟩,_⟩:=id I.loc
 obtain ⟨sl,hL⟩:=u.any ho I.free (by simp)
 exact I.step (g':=s.gens) (d':=s.drawn) (ch:=[]) (fun _ z=>nomatch z) (fun b o _ hb _ e n=>u.keep b o e n hb (by simp)) (fun b o _ hb _ e n=>u.slot b o e n hb (by simp)) (fun b o _ e n=>u.free b o e n (by simp)) (fun b o _ e=>u.there b o e (by simp)) u.tups u.frzs u.tbls (fun m' hm=>by
  obtain ⟨o',es',ep',ho',r'⟩:=hm
  rw [ho] at ho';cases ho'
  exact ⟨_,es',ep',hL,r'⟩) hok I.bare
theorem Inv.call {g':Array GenState} {t':Nat} {d':Drawn} {ch:List Addr} (I:Inv X pins σ H s) (u:Un (frs X.stack) ch H H' s.heap h') (hok:HOk X.prog X.w H' h') (hg:AllBare g')
 (hch:∀b∈ch,(b∈X.ex\/X.s₀.heap.objs.size<=b)/\b≠X.env.locals/\(∀x c,X.env.cells.lookup x=some c->c≠b)/\∀p∈X.pn++pins,p.1≠b):
 Inv X pins σ H' { s with heap:=h',gens:=g',drawn:=d',toks:=t' }:=by
 obtain ⟨m,⟨o,es,ep,ho,r⟩,_⟩:=id I.loc
 obtain ⟨sl,hL⟩:=u.any ho I.free fun z=>(hch _ z).2.1 rfl
 exact I.step (ch:=ch) hch (fun b o hL hb hc e n=>u.keep b o e n (fun z=>(ZBe.mp (I.stkSub b z)).elim hL hb) hc) (fun b o _ _ hc e n=>u.any e n hc) (fun b o hc e n=>u.free b o e n hc) (fun b o hc e=>u.there b o e hc) u.tups u.frzs u.tbls (fun m' hm=>by
  obtain ⟨o',es',ep',ho',r'⟩:=hm
  rw [ho] at ho';cases ho'
  exact ⟨_,es',ep',hL,r'⟩) hok hg
theorem Inv.turned {t':Nat} {it:Addr} (I:Inv X pins σ H s) (k:∀b o,b≠it->s.heap.get? b=some o->h'.get? b=some o) (hn:H it=none) (hL:it≠X.env.locals)
 (h1:it∈X.ex\/X.s₀.heap.objs.size<=it) (h2:∀x c,X.env.cells.lookup x=some c->c≠it) (h3:∀p∈X.pn++pins,p.1≠it):Inv X pins σ H { s with heap:=h',toks:=t' }:=by
 have nit:∀b u,H b=some u->b≠it:=fun b u e z=>by rw [z,hn] at e;cases e
 refine I.step (g':=s.gens) (d':=s.drawn) (ch:=[it]) (fun b hb=>?_) (fun b o _ _ hc e _=>k b o (fun z=>hc (by simp [z])) e) (fun b o _ _ hc e _=>⟨o.slots,k b o (fun z=>hc (by simp [z])) e⟩) (fun _ _ _ _ n=>n)
  (fun b o hc e=>⟨o,k b o (fun z=>hc (by simp [z])) e⟩) (fun _ _ e=>e) (fun _ _ _ e=>e) (fun b ps e=>⟨#[],by rw [e];simp⟩) (fun m hm=>?_) (fun b u e=>?_) I.bare
 ·have e:b=it:=by simpa using hb
  subst e
  exact ⟨h1,hL,h2,h3⟩
 ·obtain ⟨o,es,ep,ho,r⟩:=hm
  exact ⟨o,es,ep,k _ o (ZAl hL) ho,r⟩
 ·refine (I.hok b u e).stay (fun c v hc q=>k c v ?_ q) (fun _ q=>q) fun _ _ q=>q
  rcases hc with z | z
  ·rw [z];exact nit b u e
  ·exact nit c _ z
theorem Inv.tok (I:Inv X pins σ H s) (t:Nat):Inv X pins σ H { s with toks:=t }:=I.un (h':=s.heap) (t':=t) Un.refl I.hok
theorem Inv.kept {t':Nat} (I:Inv X pins σ H s) (k:∀b u,s.heap.get? b=some u->h'.get? b=some u):Inv X pins σ H { s with heap:=h',toks:=t' }:=I.un (Un.kept k) (I.hok.kept k)
theorem Inv.laid {a:Addr} {o:HO} {t':Nat} (I:Inv X pins σ H s) (k:∀b u,s.heap.get? b=some u->h'.get? b=some u) (hp:s.heap.objs.size<=a) (new:zcl X.prog X.w (upd H a o) h' a o):
 Inv X pins σ (upd H a o) { s with heap:=h',toks:=t' }:=I.un (Un.laid k hp (I.hok.fresh hp)) (I.hok.laid k hp new)
theorem Inv.write {x e:Addr} {o:HO} {t':Nat} (I:Inv X pins σ H s) (mu:Mut (H x)) (he:e=x\/H e=some (.own x)) (k:∀b u,b≠e->s.heap.get? b=some u->h'.get? b=some u) (heo:∃u,h'.get? e=some u)
 (new:zcl X.prog X.w (upd H x o) h' x o):Inv X pins σ (upd H x o) { s with heap:=h',toks:=t' }:=I.un (Un.write mu he k heo) (I.hok.write mu he k heo new)
theorem Inv.pins_of {pins':List (Addr×Obj)} (I:Inv X pins σ H s) (h:∀p∈pins',s.heap.get? p.1=some p.2/\H p.1=none/\p.1≠X.env.locals/\p.1∉X.fs/\∀v,p.2.data≠.cell v):Inv X pins' σ H s:=
 ⟨I.ok,I.os,I.bare,I.base,I.loc,I.cell,I.free,I.freeC,fun p hp=>(ZBo.mp hp).elim (fun z=>I.pin p (ZAb _ z)) (h p),I.hok,I.len⟩
theorem zm5 {N:List Str} (hN:N.Nodup) {i j:Nat} {x:Str} (a:N[i]?=some x) (b:N[j]?=some x):i=j:=by
 obtain ⟨h1,e1⟩:=ZAv.mp a
 obtain ⟨h2,e2⟩:=ZAv.mp b
 exact (List.getElem_inj hN).mp (e1.trans e2.symm)
theorem zkf {M:Model} {A:Around} {E:Value->Shared->Prop} {i:Nat} {x:Str} {v:V} {u:Value} {Q:Unit->Shared->Prop} (I:Inv X pins σ H s) (hN:X.N.Nodup) (hi:X.N[i]?=some x) (hx:Loc X.env.scope x) (r:zcr v u)
 (h:∀s',Inv X pins (σ.set i (some v)) H s'->(∃a,Heap.SameBut a s.heap s'.heap/\(a=X.env.locals\/X.env.cells.lookup x=some a))->Q () s') (hf:X.fn x=true\/X.env.scope.names.lookup x=some .local:=by first | exact .inl rfl | exact .inr rfl | assumption):wpAny M A (storeName X.env x u) Q E s:=by
 obtain ⟨m,hn,hl⟩:=id I.loc
 have hcls:(X.env.scope.kind==.class || (X.env.scope.kind==.module && X.env.locals !=X.env.globals))=false:=by rw [I.ok.kind];rfl
 have hiσ:i<σ.length:=by rw [I.len];exact (ZAv.mp hi).1
 have cne:=I.cne
 have tracked:∀{a:Addr} {h':Heap},(∃o,s.heap.get? a=some o/\H a=none)->Heap.SameBut a s.heap h'->HOk X.prog X.w H h':=fun {a h'} ha hs b ob e=>by
  obtain ⟨_,_,hfree⟩:=ha
  refine (I.hok b ob e).stay (fun c w' hc q=>(hs.2 c ?_).trans q) (fun _ q=>q) fun _ _ q=>q
  rintro rfl
  rcases hc with rfl | hc
  ·rw [hfree] at e;cases e
  ·rw [hfree] at hc;cases hc
 rcases hx with hk | hk
 ·refine wpAny_storeName_local hk hn (fun h' hn' hs=>?_) hcls
  obtain ⟨oL,_,_,hoL,_⟩:=id hn
  refine h _ ⟨I.ok,I.os,I.bare,⟨fun b o e n hb hx=>?_,fun b o e n hb hx=>?_,I.base.free,fun b o e hx=>?_,I.base.tups,I.base.frzs,I.base.tbls⟩,⟨_,hn',fun j y v' e1 e2 e3=>?_⟩,fun y c e=>?_,I.free,I.freeC,fun p hp=>?_,tracked ⟨oL,hoL,I.free⟩ hs,by simpa using I.len⟩ ⟨_,hs,.inl rfl⟩
  ·exact (hs.2 b (ZBj (ZBm (ZBc e) I.ok.above))).trans (I.base.keep b o e n hb hx)
  ·obtain ⟨sl,e1⟩:=I.base.slot b o e n hb hx
   exact ⟨sl,(hs.2 b (ZBj (ZBm (ZBc e) I.ok.above))).trans e1⟩
  ·obtain ⟨o',e1⟩:=I.base.there b o e hx
   exact ⟨o',(hs.2 b (ZBj (ZBm (ZBc e) I.ok.above))).trans e1⟩
  ·by_cases hj:j=i
   ·subst hj
    rw [hi] at e1;cases e1
    rw [List.getElem?_set_self hiσ] at e2
    cases e2
    exact ⟨u,r,.inl ⟨hk,by simp⟩⟩
   ·rw [List.getElem?_set_ne (ZAl hj)] at e2
    obtain ⟨u',r',q⟩:=hl j y v' e1 e2 e3
    refine ⟨u',r',?_⟩
    rcases q with ⟨k,e⟩ | ⟨k,c,e,z⟩
    ·refine .inl ⟨k,?_⟩
     have:y≠x:=fun e=>hj (zm5 hN e1 (e▸hi))
     simp [this,e]
    ·exact .inr ⟨k,c,e,z.sameBut hs (cne y c e)⟩
  ·obtain ⟨w',z⟩:=I.cell y c e
   exact ⟨w',z.sameBut hs (cne y c e)⟩
  ·obtain ⟨e,n,ne,nf,d⟩:=I.pin p hp
   exact ⟨(hs.2 p.1 ne).trans e,n,ne,nf,d⟩
 ·have hfn:X.fn x=true:=by
   rcases hf with z | z
   ·exact z
   ·rw [z] at hk;cases hk
  obtain ⟨c,hc⟩:=I.ok.has x (.inl hk)
  obtain ⟨w',z⟩:=I.cell x c hc
  refine wpAny_storeName_cell I.ok.kind hk hc z (fun h' hc' hs=>?_)
  obtain ⟨oc,hoc,hocd⟩:=id z
  refine h { s with heap:=h' } ⟨I.ok,I.os,I.bare,⟨fun b o e n hb hx=>?_,fun b o e n hb hx=>?_,I.base.free,fun b o e hx=>?_,I.base.tups,I.base.frzs,I.base.tbls⟩,⟨m,hn.sameBut hs (ZAl (cne x c hc)),fun j y v' e1 e2 e3=>?_⟩,fun y c' e=>?_,I.free,I.freeC,fun p hp=>?_,tracked ⟨oc,hoc,I.freeC x c hc⟩ hs,by simpa using I.len⟩ ⟨c,hs,.inr hc⟩
  ·exact (hs.2 b (ZBj (ZBm (ZBc e) (I.ok.cab x c hfn hc)))).trans (I.base.keep b o e n hb hx)
  ·obtain ⟨sl,e1⟩:=I.base.slot b o e n hb hx
   exact ⟨sl,(hs.2 b (ZBj (ZBm (ZBc e) (I.ok.cab x c hfn hc)))).trans e1⟩
  ·obtain ⟨o',e1⟩:=I.base.there b o e hx
   exact ⟨o',(hs.2 b (ZBj (ZBm (ZBc e) (I.ok.cab x c hfn hc)))).trans e1⟩
  ·by_cases hj:j=i
   ·subst hj
    rw [hi] at e1;cases e1
    rw [List.getElem?_set_self hiσ] at e2
    cases e2
    exact ⟨u,r,.inr ⟨.inl hk,c,hc,hc'⟩⟩
   ·rw [List.getElem?_set_ne (ZAl hj)] at e2
    obtain ⟨u',r',q⟩:=hl j y v' e1 e2 e3
    refine ⟨u',r',?_⟩
    rcases q with q | ⟨k,c',e,z'⟩
    ·exact .inl q
    ·refine .inr ⟨k,c',e,z'.sameBut hs ?_⟩
     rintro rfl
     exact hj (zm5 hN e1 (I.ok.inj _ _ _ e hc▸hi))
  ·by_cases hcc:c'=c
   ·subst hcc;exact ⟨_,hc'⟩
   ·obtain ⟨w2,z2⟩:=I.cell y c' e
    exact ⟨w2,z2.sameBut hs hcc⟩
  ·obtain ⟨e,n,ne,nf,d⟩:=I.pin p hp
   refine ⟨(hs.2 p.1 ?_).trans e,n,ne,nf,d⟩
   intro q
   rw [q,hoc] at e
   have q':oc=p.2:=ZA7 e
   exact d w' (by rw [<-q'];exact hocd)
theorem zja {M:Model} {A:Around} {E:Value->Shared->Prop} {i:Nat} {x:Str} {v:V} {u:Value} {Q:Unit->Shared->Prop} (I:Inv X pins σ H s) (hN:X.N.Nodup) (hi:X.N[i]?=some x) (hx:Loc X.env.scope x) (r:zcr v u)
 (h:∀s',Inv X pins (σ.set i (some v)) H s'->Q () s') (hf:X.fn x=true\/X.env.scope.names.lookup x=some .local:=by first | exact .inl rfl | exact .inr rfl | assumption):wpAny M A (storeName X.env x u) Q E s:=
 zkf I hN hi hx r (fun s' I' _=>h s' I') hf
theorem Inv.call' {s':Shared} {ch:List Addr} (I:Inv X pins σ H s) (ho:s'.os=s.os) (u:Un (frs X.stack) ch H H' s.heap s'.heap) (hok:HOk X.prog X.w H' s'.heap) (hg:AllBare s'.gens)
 (hch:∀b∈ch,(b∈X.ex\/X.s₀.heap.objs.size<=b)/\b≠X.env.locals/\(∀x c,X.env.cells.lookup x=some c->c≠b)/\∀p∈X.pn++pins,p.1≠b):Inv X pins σ H' s':=by
 obtain ⟨h',g',d',t',o'⟩:=s'
 have e:o'=s.os:=ho
 subst e
 exact I.call (g':=g') (t':=t') (d':=d') u hok hg hch
end
abbrev XK:=Value->Option Addr->Hp->Prop
abbrev St:=List (Option V)
abbrev VK:=V->Hp->Prop
abbrev TE:=St->Hp->VK->Prop
abbrev TT:=St->Hp->(Bool->Hp->Prop)->Prop
abbrev TA:=St->Hp->(List V->Hp->Prop)->Prop
structure zrd where
 nx:St->Hp->Prop
 rt:VK
 bk:St->Hp->Prop:=fun _ _=>False
 ct:St->Hp->Prop:=fun _ _=>False
abbrev TS:=zrd->St->Hp->Prop
theorem el5 {α β:Type} {p q r:α->β->Prop} {P:Prop} (h:∃a b,p a b/\q a b/\r a b) (k:∀a b,p a b->q a b->r a b->P):P:=by
 obtain ⟨a,b,x,y,z⟩:=h
 exact k a b x y z
theorem el3 {α:Type} {p q:α->Prop} {P:Prop} (h:∃a,p a/\q a) (k:∀a,p a->q a->P):P:=by
 obtain ⟨a,x,y⟩:=h
 exact k a x y
def EP (X:Cx) (pins:List (Addr×Obj)) (σ:St) (Q:VK) (u:Value) (s':Shared):Prop:=∃v H',Inv X pins σ H' s'/\zcr v u/\Q v H'
def TP (X:Cx) (pins:List (Addr×Obj)) (σ:St) (Q:Bool->Hp->Prop) (b:Bool) (s':Shared):Prop:=∃H',Inv X pins σ H' s'/\Q b H'
def AP (X:Cx) (pins:List (Addr×Obj)) (σ:St) (Q:List V->Hp->Prop) (us:List Value) (s':Shared):Prop:=∃vs H',Inv X pins σ H' s'/\zcc vs us/\Q vs H'
def SP (X:Cx) (pins:List (Addr×Obj)) (D:zrd) (f:Flow) (s':Shared):Prop:=
 match f with
 | .next=>∃σ' H',Inv X pins σ' H' s'/\D.nx σ' H'
 | .brk=>∃σ' H',Inv X pins σ' H' s'/\D.bk σ' H'
 | .cont=>∃σ' H',Inv X pins σ' H' s'/\D.ct σ' H'
 | .ret u=>∃v σ' H',Inv X pins σ' H' s'/\zcr v u/\D.rt v H'
def PE (X:Cx) (e:Expr) (t:TE):Prop:=
 ∀(pins:List (Addr×Obj)) (s:Shared) (σ:St) (H:Hp) (Q:VK),Inv X pins σ H s->t σ H Q->wpAny (model X.prog X.w) X.A (eval e X.env) (EP X pins σ Q) X.xe s
def PT (X:Cx) (e:Expr) (t:TT):Prop:=
 ∀(pins:List (Addr×Obj)) (s:Shared) (σ:St) (H:Hp) (Q:Bool->Hp->Prop),Inv X pins σ H s->t σ H Q->wpAny (model X.prog X.w) X.A (isTrue e X.env (eval e X.env)) (TP X pins σ Q) X.xe s
def PW (X:Cx) (e:Expr) (t:TT):Prop:=
 ∀(whole:Sem Value) (pins:List (Addr×Obj)) (s:Shared) (σ:St) (H:Hp) (Q:Bool->Hp->Prop),Inv X pins σ H s->t σ H Q->wpAny (model X.prog X.w) X.A (isTrue e X.env whole) (TP X pins σ Q) X.xe s
theorem PW.pt {X:Cx} {e:Expr} {t:TT} (h:PW X e t):PT X e t:=h _
def PA (X:Cx) (es:List Expr) (t:TA):Prop:=
 ∀(pos:Pos) (pins:List (Addr×Obj)) (s:Shared) (σ:St) (H:Hp) (Q:List V->Hp->Prop),Inv X pins σ H s->t σ H Q->wpAny (model X.prog X.w) X.A (spliced (backTo pos (starEach es X.env))) (AP X pins σ Q) X.xe s
def PS (X:Cx) (st:Stmt) (t:TS):Prop:=
 ∀(pins:List (Addr×Obj)) (s:Shared) (σ:St) (H:Hp) (D:zrd),Inv X pins σ H s->t D σ H->wpAny (model X.prog X.w) X.A (exec st X.env) (SP X pins D) X.xe s
def PSs (X:Cx) (st:List Stmt) (t:TS):Prop:=
 ∀(pins:List (Addr×Obj)) (s:Shared) (σ:St) (H:Hp) (D:zrd),Inv X pins σ H s->t D σ H->wpAny (model X.prog X.w) X.A (execs st X.env) (SP X pins D) X.xe s
theorem thn {α:Type} {t:Sem α} {Q Q':α->Shared->Prop} {M:Model} {A:Around} {E:Value->Shared->Prop} {s:Shared} (h:wpAny M A t Q E s) (hQ:∀a s,Q a s->Q' a s):wpAny M A t Q' E s:=wpAny_mono h hQ fun _ _ x=>x
section
variable {X:Cx}
def zt3 (i:Nat):TE:=fun σ H Q=>∃v,σ[i]?=some (some v)/\Q v H
def tC (v:V):TE:=fun _ H Q=>Q v H
theorem zwl {i:Nat} {x:Str} {pos:Pos} (hN:X.N[i]?=some x) (hv:Vis X.env.scope x) (hd:(x==("__debug__":Str))=false:=by decide) (hcd:(x==("__classdict__":Str))=false:=by decide):PE X (.Name x pos) (zt3 i):=by
 intro pins s σ H Q I h
 obtain ⟨v,e,h⟩:=h
 obtain ⟨m,hn,hl⟩:=I.loc
 obtain ⟨u,r,l⟩:=hl i x v hN e hv
 have fin:EP X pins σ Q u s:=⟨v,H,I,r,h⟩
 rcases l with ⟨hk,hm⟩ | ⟨hk,c,hc,hcell⟩
 ·exact wpAny_Name (wpAny_loadName_local I.ok.kind hk hn hm fin) hd
 ·rcases hk with hk | hk
  ·exact wpAny_Name (wpAny_loadName_cell I.ok.kind hk hc hcell fin) hd
  ·exact wpAny_Name (wpAny_loadName_free I.ok.kind hk hc hcell fin hcd) hd
theorem zaj {i j pos}:PE X (.Constant (.int i) j pos) (tC (.int i)):=fun _ _ _ H _ I h=>wpAny_Constant_int ⟨.int i,H,I.tok _,⟨_,rfl⟩,h⟩
theorem zhz {b j pos}:PE X (.Constant (.bool b) j pos) (tC (.bl b)):=fun _ _ _ H _ I h=>Constant_bool ⟨.bl b,H,I,rfl,h⟩
theorem zca {j pos}:PE X (.Constant .none j pos) (tC .non):=fun _ _ _ H _ I h=>Constant_none ⟨.non,H,I,rfl,h⟩
theorem zbd {x j pos}:PE X (.Constant (.str x) j pos) (tC (.str x)):=fun _ _ _ H _ I h=>Calls.Constant_str ⟨.str x,H,I.tok _,⟨_,rfl⟩,h⟩
def Gl (X:Cx) (x:Str):Prop:=X.env.kindOf x=some .globalImplicit
theorem zl1 {E:Value->Shared->Prop} {pins:List (Addr×Obj)} {s:Shared} {σ:St} {H:Hp} {x:Str} {u:Value} {pos:Pos} {Q:Value->Shared->Prop} (I:Inv X pins σ H s) (hg:Gl X x) (hm:X.mg x=some u) (h:Q u s)
 (hd:(x==("__debug__":Str))=false:=by decide):wpAny (model X.prog X.w) X.A (eval (.Name x pos) X.env) Q E s:=
 Calls.Name_function_global I.ok.kind hg (Calls.loadGlobal_global (by rw [I.ok.glob];exact I.mod.glob.keeps I.bk) hm h) hd
theorem zkx {E:Value->Shared->Prop} {pins:List (Addr×Obj)} {s:Shared} {σ:St} {H:Hp} {x:Str} {u:Value} {pos:Pos} {Q:Value->Shared->Prop} (I:Inv X pins σ H s) (hg:Gl X x) (hm:X.mg x=none) (hv:bootBuiltins x=some u) (h:Q u s)
 (hn:x≠"__name__":=by decide) (hd:(x==("__debug__":Str))=false:=by decide):wpAny (model X.prog X.w) X.A (eval (.Name x pos) X.env) Q E s:=by
 obtain ⟨mb,h1,h2⟩:=I.mod.blt
 exact Calls.Name_function_global I.ok.kind hg (Calls.loadGlobal_builtin (by rw [I.ok.glob];exact I.mod.glob.keeps I.bk) hm (by rw [I.ok.blt];exact h1.keeps I.bk) ((h2 x hn).trans hv) h) hd
theorem zgv {x:Str} {v:V} {u:Value} {pos:Pos} (hg:Gl X x) (hm:X.mg x=some u) (r:zcr v u) (hd:(x==("__debug__":Str))=false:=by decide):PE X (.Name x pos) (tC v):=
 fun _ _ _ H _ I h=>zl1 I hg hm ⟨v,H,I,r,h⟩ hd
variable {a b:Expr} {ta tb:TE} {pos:Pos}
def PC (X:Cx) (op:CmpOp) (a b:Expr) (t:TE):Prop:=
 ∀(pins:List (Addr×Obj)) (s:Shared) (σ:St) (H:Hp) (Q:VK),Inv X pins σ H s->t σ H Q->
  wpAny (model X.prog X.w) X.A (eval a X.env) (fun v s₁=>wpAny (model X.prog X.w) X.A (eval b X.env) (fun u s₂=>wpAny (model X.prog X.w) X.A (compareOp op v u) (EP X pins σ Q) X.xe s₂) X.xe s₁) X.xe s
def tB (t:TE):TT:=fun σ H Q=>t σ H fun x H1=>∃c,x=.bl c/\Q c H1
theorem zg5 {op:CmpOp} {t:TE} (h:PC X op a b t) (h1:behindInMarks op b=false:=by first | exact nobehind _ (by decide) (by decide) | rfl):PT X (.Compare a [op] [b] pos) (tB t):=by
 intro pins s σ H Q I hw
 refine wpAny_isTrue_Compare1 (thn (h pins s σ H _ I hw) fun v s1 h1=>thn h1 fun u s2 h2=>thn h2 fun c s3 zz=>?_) h1
 obtain ⟨x,H1,I1,r1,q1⟩:=zz
 obtain ⟨d,rfl,q⟩:=q1
 cases r1
 exact wpAny_truthy_bool ⟨H1,I1,q⟩
theorem zfr {e:Expr} {t:TE} (h:PE X e t) (he:∀whole,isTrue e X.env whole=(do let v <-whole;standAt e.pos;holding [v] (truthy v)):=by intro _;rfl):PT X e (tB t):=by
 intro pins s σ H Q I hw
 refine isTrue_plain (thn (h pins s σ H _ I hw) fun v s1 zz=>?_) (he _)
 obtain ⟨x,H1,I1,r1,q1⟩:=zz
 obtain ⟨d,rfl,q⟩:=q1
 cases r1
 exact wpAny_truthy_bool ⟨H1,I1,q⟩
variable {tA tB':TT} {rest:List Expr}
def zz0 (t u:TT):TT:=fun σ H Q=>t σ H fun c H1=>if c=true then u σ H1 Q else Q false H1
def tOr (t u:TT):TT:=fun σ H Q=>t σ H fun c H1=>if c=true then Q true H1 else u σ H1 Q
def zzu (t:TT):TT:=fun σ H Q=>t σ H fun c H1=>Q (!c) H1
theorem zdk (ha:PT X a tA):PW X (.BoolOp .And [a] pos) tA:=by
 intro wh pins s σ H Q I h
 refine isTrue_and (thn (ha pins s σ H Q I h) fun c s1 e=>?_)
 cases c with
 | true=>exact isTrue_and_nil e
 | false=>exact e
theorem zg3 (ha:PT X a tA):PW X (.BoolOp .Or [a] pos) tA:=by
 intro wh pins s σ H Q I h
 refine isTrue_or (thn (ha pins s σ H Q I h) fun c s1 e=>?_)
 cases c with
 | false=>exact isTrue_or_nil e
 | true=>exact e
theorem zdg (ha:PT X a tA) (hb:PW X (.BoolOp .And (b::rest) pos) tB'):PW X (.BoolOp .And (a::b::rest) pos) (zz0 tA tB'):=by
 intro wh pins s σ H Q I h
 refine isTrue_and (thn (ha pins s σ H _ I h) fun c s1 zz=>?_)
 obtain ⟨H1,I1,q1⟩:=zz
 cases c with
 | true=>exact hb wh pins s1 σ H1 Q I1 q1
 | false=>exact ⟨H1,I1,q1⟩
theorem zii (ha:PT X a tA) (hb:PW X (.BoolOp .Or (b::rest) pos) tB'):PW X (.BoolOp .Or (a::b::rest) pos) (tOr tA tB'):=by
 intro wh pins s σ H Q I h
 refine isTrue_or (thn (ha pins s σ H _ I h) fun c s1 zz=>?_)
 obtain ⟨H1,I1,q1⟩:=zz
 cases c with
 | true=>exact ⟨H1,I1,q1⟩
 | false=>exact hb wh pins s1 σ H1 Q I1 q1
theorem zg4 (ha:PT X a tA):PT X (.UnaryOp .Not a pos) (zzu tA):=by
 intro pins s σ H Q I h
 exact isTrue_not (ha pins s σ H (fun c H1=>Q (!c) H1) I h)
def zxv (ta tb:TE):TE:=fun σ H Q=>ta σ H fun x H1=>∃c,x=.bl c/\if c=true then tb σ H1 Q else Q (.bl false) H1
def zzt (ta tb:TE):TE:=fun σ H Q=>ta σ H fun x H1=>∃c,x=.bl c/\if c=true then Q (.bl true) H1 else tb σ H1 Q
theorem zg6 {op} {t:TE} (h:PE X a t):PE X (.BoolOp op [a] pos) t:=fun pins s σ H Q I hw=>BoolOp_one (h pins s σ H Q I hw)
theorem zg7 (ha:PE X a ta) (hb:PE X (.BoolOp .And (b::rest) pos) tb):PE X (.BoolOp .And (a::b::rest) pos) (zxv ta tb):=by
 intro pins s σ H Q I h
 refine BoolOp_and (thn (ha pins s σ H _ I h) fun v s1 zz=>?_)
 obtain ⟨x,H1,I1,r1,q1⟩:=zz
 obtain ⟨c,rfl,q1⟩:=q1
 cases r1
 refine wpAny_truthy_bool ?_
 cases c with
 | true=>exact hb pins s1 σ H1 Q I1 q1
 | false=>exact ⟨.bl false,H1,I1,rfl,q1⟩
theorem zwm (ha:PE X a ta) (hb:PE X (.BoolOp .Or (b::rest) pos) tb):PE X (.BoolOp .Or (a::b::rest) pos) (zzt ta tb):=by
 intro pins s σ H Q I h
 refine BoolOp_or (thn (ha pins s σ H _ I h) fun v s1 zz=>?_)
 obtain ⟨x,H1,I1,r1,q1⟩:=zz
 obtain ⟨c,rfl,q1⟩:=q1
 cases r1
 refine wpAny_truthy_bool ?_
 cases c with
 | false=>exact hb pins s1 σ H1 Q I1 q1
 | true=>exact ⟨.bl true,H1,I1,rfl,q1⟩
def tIf (t:TT) (ta tb:TE):TE:=fun σ H Q=>t σ H fun c H1=>if c=true then ta σ H1 Q else tb σ H1 Q
theorem zrw {c:Expr} (hc:PT X c tA) (ha:PE X a ta) (hb:PE X b tb):PE X (.IfExp c a b pos) (tIf tA ta tb):=by
 intro pins s σ H Q I h
 refine wpAny_IfExp (thn (hc pins s σ H _ I h) fun d s1 zz=>?_)
 obtain ⟨H1,I1,q1⟩:=zz
 cases d with
 | true=>exact ha pins s1 σ H1 Q I1 q1
 | false=>exact hb pins s1 σ H1 Q I1 q1
end
def SqL (K:ZCa) (H:Hp) (a:Addr) (xs:List V):Prop:=
 Rd H a (.lst xs)\/
  ∃(o:Obj) (its:Array Value) (n:Nat),K.lookup a=some o/\o.cls=.type "list"/\o.dict=none/\o.data=.seq its n/\its.size<=sizeLine/\zcc xs its.toList
def SqT (K:ZCa) (H:Hp) (a:Addr) (xs:List V):Prop:=
 Rd H a (.tup xs)\/
  ∃(o:Obj) (its:Array Value) (n:Nat),K.lookup a=some o/\o.cls=.type "tuple"/\o.data=.seq its n/\its.size<=sizeLine/\zcc xs its.toList
def zBk:Value->Option V
 | .none=>some .non
 | .bool b=>some (.bl b)
 | .int i _=>some (.int i)
 | .str x _=>some (.str x)
 | .bytes b _=>some (.byt b)
 | .float b _=>some (.flt b)
 | .ref a=>some (.ref a)
 | .type n=>some (.ty n)
 | _=>none
theorem zcr.abs {x:V} {u:Value} (r:zcr x u):zBk u=some x:=by
 cases x with
 | non=>cases r;rfl
 | bl _=>cases r;rfl
 | int _=>obtain ⟨t,rfl⟩:=r;rfl
 | str _=>obtain ⟨t,rfl⟩:=r;rfl
 | byt _=>obtain ⟨t,rfl⟩:=r;rfl
 | flt _=>obtain ⟨t,rfl⟩:=r;rfl
 | ref _=>cases r;rfl
 | ty _=>cases r;rfl
theorem zcr.inj {x y:V} {u:Value} (r:zcr x u) (q:zcr y u):x=y:=ZA7 (r.abs.symm.trans q.abs)
theorem zcc.inj {xs ys:List V} {us:List Value} (h:zcc xs us) (h':zcc ys us):xs=ys:=by
 induction h generalizing ys with
 | nil=>cases h';rfl
 | cons r t ih=>
  cases h' with
  | cons r' t'=>rw [r.inj r',ih t']
section
variable {X:Cx} {pins:List (Addr×Obj)} {σ:St} {H:Hp} {s:Shared} {a:Addr} {xs ys:List V}
theorem SqL.of {K:ZCa} (h:H a=some (.lst xs)):SqL K H a xs:=.inl (.inl h)
theorem SqT.of {K:ZCa} (h:H a=some (.tup xs)):SqT K H a xs:=.inl (.inl h)
theorem Inv.list (I:Inv X pins σ H s) (h:SqL X.K H a xs):∃its:List Value,zcc xs its/\PlainL s.heap a its.toArray/\xs.length<=sizeLine:=by
 rcases h with h | ⟨o,its,n,hk,hc,hd,hs,hz,r⟩
 ·obtain ⟨z,its,n,r,e⟩:=h.ok I.hok
  exact ⟨its,r,⟨_,n,e,rfl,rfl,rfl⟩,z⟩
 ·refine ⟨its.toList,r,⟨o,n,I.kIn a o hk,hc,hd,by simpa using hs⟩,?_⟩
  have e:=r.length
  simp only [ZAj] at e
  lia
theorem Inv.tuple (I:Inv X pins σ H s) (h:SqT X.K H a xs):∃its:List Value,zcc xs its/\IsTup s.heap a its.toArray/\xs.length<=sizeLine:=by
 rcases h with h | ⟨o,its,n,hk,hc,hs,hz,r⟩
 ·obtain ⟨z,its,r,p⟩:=h.ok I.hok
  exact ⟨its,r,p,z⟩
 ·refine ⟨its.toList,r,⟨o,I.kIn a o hk,hc,n,by simpa using hs⟩,?_⟩
  have e:=r.length
  simp only [ZAj] at e
  lia
theorem Inv.list_inj (I:Inv X pins σ H s) (h:SqL X.K H a xs) (h':SqL X.K H a ys):xs=ys:=by
 obtain ⟨its,r,⟨o,n,e,_,_,d⟩,_⟩:=I.list h
 obtain ⟨its',r',⟨o',n',e',_,_,d'⟩,_⟩:=I.list h'
 rw [e] at e';cases e'
 rw [d] at d'
 injection d' with d1 _
 have:its=its':=by simpa using congrArg Array.toList d1
 subst this
 exact r.inj r'
theorem Inv.tuple_inj (I:Inv X pins σ H s) (h:SqT X.K H a xs) (h':SqT X.K H a ys):xs=ys:=by
 obtain ⟨its,r,⟨o,e,_,n,d⟩,_⟩:=I.tuple h
 obtain ⟨its',r',⟨o',e',_,n',d'⟩,_⟩:=I.tuple h'
 rw [e] at e';cases e'
 rw [d] at d'
 injection d' with d1 _
 have:its=its':=by simpa using congrArg Array.toList d1
 subst this
 exact r.inj r'
end
abbrev Cx.wish (X:Cx) (E:Value->Shared->Prop):Cx:={ X with xe:=E }
abbrev Cx.nox (X:Cx):Cx:=X.wish fun _ _=>False
theorem Cx.Ok.wish {X:Cx} (ok:X.Ok) (E:Value->Shared->Prop):(X.wish E).Ok:=
 ⟨ok.mod,ok.kind,ok.glob,ok.blt,ok.above,ok.inj,ok.has,ok.cab,ok.hd,ok.frames,ok.stk,ok.exf,ok.bs,ok.bsz,ok.noex,ok.exfs,ok.funs,ok.frf⟩
theorem Cx.Ok.unwish {X:Cx} {E:Value->Shared->Prop} (ok:(X.wish E).Ok):X.Ok:=
 ⟨ok.mod,ok.kind,ok.glob,ok.blt,ok.above,ok.inj,ok.has,ok.cab,ok.hd,ok.frames,ok.stk,ok.exf,ok.bs,ok.bsz,ok.noex,ok.exfs,ok.funs,ok.frf⟩
section
variable {X:Cx} {pins:List (Addr×Obj)} {σ:St} {H:Hp} {s:Shared} {E:Value->Shared->Prop}
theorem Inv.wish (I:Inv X pins σ H s) (E:Value->Shared->Prop):Inv (X.wish E) pins σ H s:=⟨I.ok.wish E,I.os,I.bare,I.base,I.loc,I.cell,I.free,I.freeC,I.pin,I.hok,I.len⟩
theorem Inv.unwish (I:Inv (X.wish E) pins σ H s):Inv X pins σ H s:=⟨I.ok.unwish,I.os,I.bare,I.base,I.loc,I.cell,I.free,I.freeC,I.pin,I.hok,I.len⟩
theorem SP.unwish {D:zrd} {f:Flow} {s':Shared} (h:SP (X.wish E) pins D f s'):SP X pins D f s':=by
 cases f with
 | next=>obtain ⟨σ',H',I,q⟩:=h;exact ⟨σ',H',I.unwish,q⟩
 | brk=>obtain ⟨σ',H',I,q⟩:=h;exact ⟨σ',H',I.unwish,q⟩
 | cont=>obtain ⟨σ',H',I,q⟩:=h;exact ⟨σ',H',I.unwish,q⟩
 | ret u=>obtain ⟨v,σ',H',I,r,q⟩:=h;exact ⟨v,σ',H',I.unwish,r,q⟩
theorem PSs.nox {st:List Stmt} {t:TS} (h:PSs X.nox st t):PSs X st t:=fun pins s σ H D I hw=>
 wpAny_mono (h pins s σ H D (I.wish _) hw) (fun _ _ q=>q.unwish) fun _ _ z=>False.elim z
end
section
variable {X:Cx} {st:Stmt} {rest:List Stmt} {t u:TS} {e:Expr} {te:TE} {pos:Pos}
def zxq:TS:=fun D σ H=>D.nx σ H
def zzr (t u:TS):TS:=fun D σ H=>t { D with nx:=u D } σ H
theorem zap:PSs X [] zxq:=fun _ _ σ H _ I h=>wpAny_execs_nil ⟨σ,H,I,h⟩
theorem zah (h1:PS X st t) (h2:PSs X rest u):PSs X (st::rest) (zzr t u):=by
 intro pins s σ H D I h
 refine wpAny_execs_cons (thn (h1 pins s σ H { D with nx:=u D } I h) fun f s1 q=>?_)
 cases f with
 | next=>
  obtain ⟨σ',H',I',q⟩:=q
  exact h2 pins s1 σ' H' D I' q
 | ret v=>exact q
 | brk=>exact q
 | cont=>exact q
theorem zad (h1:PS X st t):PSs X [st] t:=by
 intro pins s σ H D I h
 refine wpAny_execs_cons (thn (h1 pins s σ H D I h) fun f s1 q=>?_)
 cases f with
 | next=>exact wpAny_execs_nil q
 | ret v=>exact q
 | brk=>exact q
 | cont=>exact q
theorem Inv.quiet {pins:List (Addr×Obj)} {σ:St} {H:Hp} {s:Shared} (I:Inv X pins σ H s):interactive X.env=false:=by simp [interactive,I.ok.kind]
def zxs (te:TE):TS:=fun D σ H=>te σ H fun _ H1=>D.nx σ H1
theorem za7 (he:PE X e te) (hs:swapsWith e none pos.line X.env=pure false:=by rfl):PS X (.Expr e pos) (zxs te):=by
 intro pins s σ H D I h
 exact wpAny_Expr_any (thn (he pins s σ H _ I h) fun v s1 zz=>L2.el5 zz fun x H1 I1 r1 q1=>⟨σ,H1,I1,q1⟩) I.quiet hs
def zzs (te:TE):TS:=fun D σ H=>te σ H D.rt
theorem zaq (he:PE X e te):PS X (.Return (some e) pos) (zzs te):=by
 intro pins s σ H D I h
 exact wpAny_Return_some (thn (he pins s σ H _ I h) fun v s1 zz=>L2.el5 zz fun x H1 I1 r1 q1=>⟨x,σ,H1,I1,r1,q1⟩)
def zzw (c:TT) (t u:TS):TS:=fun D σ H=>c σ H fun b H1=>if b=true then t D σ H1 else u D σ H1
theorem zbn {c:Expr} {a b:List Stmt} {tc:TT} (hc:PT X c tc) (ha:PSs X a t) (hb:PSs X b u):PS X (.If c a b pos) (zzw tc t u):=by
 intro pins s σ H D I h
 refine wpAny_If (thn (hc pins s σ H _ I h) fun d s1 zz=>?_)
 obtain ⟨H1,I1,q1⟩:=zz
 cases d with
 | true=>exact ha pins s1 σ H1 D I1 q1
 | false=>exact hb pins s1 σ H1 D I1 q1
def zv1:TS:=fun _ _ _=>False
theorem zby {sts:List Stmt}:PSs X sts zv1:=fun _ _ _ _ _ _ h=>h.elim
end
abbrev TG:=V->St->Hp->(St->Hp->Prop)->Prop
abbrev TGs:=List V->St->Hp->(St->Hp->Prop)->Prop
def PG (X:Cx) (target:Expr) (t:TG):Prop:=
 ∀(pins:List (Addr×Obj)) (s:Shared) (σ:St) (H:Hp) (v:V) (u:Value) (Q:St->Hp->Prop),Inv X pins σ H s->zcr v u->t v σ H Q->
  wpAny (model X.prog X.w) X.A (assign target X.env u) (fun _ s'=>∃σ' H',Inv X pins σ' H' s'/\Q σ' H') X.xe s
def PGs (X:Cx) (ts:List Expr) (t:TGs):Prop:=
 ∀(pins:List (Addr×Obj)) (s:Shared) (σ:St) (H:Hp) (vs:List V) (us:List Value) (Q:St->Hp->Prop),Inv X pins σ H s->zcc vs us->t vs σ H Q->
  wpAny (model X.prog X.w) X.A (assignInOrder ((assignEach ts X.env).map (·.2)) us) (fun _ s'=>∃σ' H',Inv X pins σ' H' s'/\Q σ' H') X.xe s
abbrev zy4:=V->V->V->Hp->(Hp->Prop)->Prop
def zzo (X:Cx) (t:zy4):Prop:=
 ∀(pins:List (Addr×Obj)) (s:Shared) (σ:St) (H:Hp) (o i v:V) (ov iv u:Value) (Q:Hp->Prop),Inv X pins σ H s->zcr o ov->zcr i iv->zcr v u->t o i v H Q->
  wpAny (model X.prog X.w) X.A (setItem ov iv u) (fun _ s'=>∃H',Inv X pins σ H' s'/\Q H') X.xe s
abbrev TIp:=V->V->Hp->VK->Prop
def PIp (X:Cx) (op:Operator) (t:TIp):Prop:=
 ∀(pins:List (Addr×Obj)) (s:Shared) (σ:St) (H:Hp) (x y:V) (v u:Value) (Q:VK),Inv X pins σ H s->zcr x v->zcr y u->t x y H Q->
  wpAny (model X.prog X.w) X.A (inplaceOp op v u) (EP X pins σ Q) X.xe s
section
variable {X:Cx} {pos:Pos}
def zl3 (i:Nat):TG:=fun v σ H Q=>Q (σ.set i (some v)) H
theorem zpw {i:Nat} {x:Str} (hN:X.N.Nodup) (hi:X.N[i]?=some x) (hx:Loc X.env.scope x) (hf:X.fn x=true\/X.env.scope.names.lookup x=some .local:=by first | exact .inl rfl | exact .inr rfl | assumption):PG X (.Name x pos) (zl3 i):=by
 intro pins s σ H v u Q I r h
 exact wpAny_assign_Name (zja I hN hi hx r (fun s' I'=>⟨_,H,I',h⟩) hf)
def zA6:TGs:=fun vs σ H Q=>vs=[]/\Q σ H
def zyl (t:TG) (u:TGs):TGs:=fun vs σ H Q=>∃v r,vs=v::r/\t v σ H fun σ' H'=>u r σ' H' Q
theorem zef:PGs X [] zA6:=by
 intro pins s σ H vs us Q I r h
 obtain ⟨e,h⟩:=h
 subst e
 cases r
 exact assignInOrder_nil ⟨σ,H,I,h⟩
theorem zaw {e:Expr} {es:List Expr} {t:TG} {u:TGs} (h1:PG X e t) (h2:PGs X es u)
 (hs:(assignEach (e::es) X.env).map (·.2)=assign e X.env::(assignEach es X.env).map (·.2):=by rfl):PGs X (e::es) (zyl t u):=by
 intro pins s σ H vs us Q I r h
 obtain ⟨v,vr,e1,h⟩:=h
 subst e1
 cases r with
 | cons r rr=>
  rw [hs]
  refine assignInOrder_cons (thn (h1 pins s σ H _ _ _ I r h) fun _ s1 zz=>?_)
  obtain ⟨σ1,H1,I1,q1⟩:=zz
  exact h2 pins s1 σ1 H1 _ _ Q I1 rr q1
def zzn (K:ZCa) (n:Nat) (t:TGs):TG:=fun v σ H Q=>∃a xs,v=.ref a/\SqT K H a xs/\xs.length=n/\t xs σ H Q
theorem ziz {es:List Expr} {k:Nat} {t:TGs} {n:Nat} (hc:X.calm=true) (h:PGs X es t)
 (hn:(assignEach es X.env).length=n:=by rfl) (hst:(assignEach es X.env).findIdx? (·.1)=none:=by rfl):PG X (.Tuple es k pos) (zzn X.K n t):=by
 intro pins s σ H v u Q I r hw
 obtain ⟨a,xs,e1,hq,hl,hw⟩:=hw
 subst e1
 cases r
 obtain ⟨its,rv,ht,hz⟩:=I.tuple hq
 refine assign_Tuple_tuple (I.ok.hd hc) ht (by simp [hn,<-hl,rv.length]) hst fun h' hx=>?_
 have I1:Inv X pins σ H { s with heap:=h' }:=I.kept (t':=s.toks) fun b o e=>hx b o (ZBj (ZBc e)) e
 exact h pins _ σ H xs _ Q I1 (by simpa using rv) hw
def zA5 (to ti:TE) (t:zy4):TG:=fun v σ H Q=>to σ H fun o H1=>ti σ H1 fun i H2=>t o i v H2 fun H3=>Q σ H3
theorem zks {o i:Expr} {to ti:TE} {t:zy4} (ho:PE X o to) (hi:PE X i ti) (hs:zzo X t)
 (ha:∀v,assign (.Subscript o i pos) X.env v=(do
  let ov <-holding [v] (eval o X.env)
  let iv <-holding [v,ov] (eval i X.env)
  standAt pos
  holding [v,ov,iv] (setItem ov iv v)
  release [v,ov,iv] []):=by intro _;rfl):PG X (.Subscript o i pos) (zA5 to ti t):=by
 intro pins s σ H v u Q I r h
 rw [ha]
 refine ZAp (wpAny_holding (thn (ho pins s σ H _ I h) fun ov s1 zz=>?_))
 obtain ⟨x,H1,I1,r1,q1⟩:=zz
 refine ZAp (wpAny_holding (thn (hi pins s1 σ H1 _ I1 q1) fun iv s2 zz=>?_))
 obtain ⟨y,H2,I2,r2,q2⟩:=zz
 refine ZAp (wpAny_standAt (ZAp (wpAny_holding (thn (hs pins s2 σ H2 x y v ov iv u _ I2 r1 r2 r q2) fun _ s3 zz=>?_))))
 obtain ⟨H3,I3,q3⟩:=zz
 exact wpAny_release ⟨σ,H3,I3,q3⟩
def zv5 (te:TE) (g:TG):TS:=fun D σ H=>te σ H fun x H1=>g x σ H1 D.nx
theorem zkq {tg e:Expr} {te:TE} {g:TG} (he:PE X e te) (hg:PG X tg g) (hs:swapsWithSole [tg] e pos.line X.env=pure false:=by rfl) (hw:swappedStores [tg] e X.env=pure none:=by rfl)
 (h1:(assignEach [tg] X.env).map (·.2)=[assign tg X.env]:=by rfl):PS X (.Assign [tg] e pos) (zv5 te g):=by
 intro pins s σ H D I h
 refine wpAny_Assign_stores (thn (he pins s σ H _ I h) fun v s1 zz=>?_) hs hw
 obtain ⟨x,H1,I1,r1,q1⟩:=zz
 rw [h1]
 exact thn (hg pins s1 σ H1 x v _ I1 r1 q1) fun _ s2 q=>q
theorem zem {i:Nat} {x:Str} {e:Expr} {te:TE} {pos':Pos} (hN:X.N.Nodup) (hi:X.N[i]?=some x) (hx:Loc X.env.scope x) (he:PE X e te) (hs:swapsWith e (some (.Name x pos')) pos.line X.env=pure false:=by rfl) (hf:X.fn x=true\/X.env.scope.names.lookup x=some .local:=by first | exact .inl rfl | exact .inr rfl | assumption):
 PS X (.Assign [.Name x pos'] e pos) (zv5 te (zl3 i)):=by
 intro pins s σ H D I h
 refine wpAny_Assign_Name (thn (he pins s σ H _ I h) fun v s1 zz=>?_) hs
 obtain ⟨y,H1,I1,r1,q1⟩:=zz
 exact zja I1 hN hi hx r1 (fun s2 I2=>⟨_,H1,I2,q1⟩) hf
def zzz (i:Nat) (te:TE) (ti:TIp):TS:=fun D σ H=>∃x,σ[i]?=some (some x)/\te σ H fun y H1=>ti x y H1 fun z H2=>D.nx (σ.set i (some z)) H2
theorem zpr {i:Nat} {x:Str} {e:Expr} {te:TE} {op:Operator} {ti:TIp} {pos':Pos} (hN:X.N.Nodup) (hi:X.N[i]?=some x) (hx:Loc X.env.scope x) (he:PE X e te) (ho:PIp X op ti) (hf:X.fn x=true\/X.env.scope.names.lookup x=some .local:=by first | exact .inl rfl | exact .inr rfl | assumption):
 PS X (.AugAssign (.Name x pos') op e pos) (zzz i te ti):=by
 intro pins s σ H D I h
 obtain ⟨v,e1,h⟩:=h
 obtain ⟨m,hn,hl⟩:=I.loc
 have vis:Vis X.env.scope x:=by rcases hx with k | k;exact .inl k;exact .inr (.inl k)
 obtain ⟨u,r,l⟩:=hl i x v hi e1 vis
 refine wpAny_AugAssign_Name ?_
 have go:wpAny (model X.prog X.w) X.A (eval e X.env) (fun w s₂=>wpAny (model X.prog X.w) X.A (inplaceOp op u w) (fun r s₃=>wpAny (model X.prog X.w) X.A (storeName X.env x r) (fun _=>SP X pins D .next) X.xe s₃) X.xe s₂) X.xe s:=by
  refine thn (he pins s σ H _ I h) fun w s1 zz=>?_
  obtain ⟨y,H1,I1,r1,q1⟩:=zz
  refine thn (ho pins s1 σ H1 v y u w _ I1 r r1 q1) fun z s2 zz=>?_
  obtain ⟨zv,H2,I2,r2,q2⟩:=zz
  exact zja I2 hN hi hx r2 (fun s3 I3=>⟨_,H2,I3,q2⟩) hf
 rcases l with ⟨hk,hm⟩ | ⟨hk,c,hc,hcell⟩
 ·exact wpAny_loadName_local I.ok.kind hk hn hm go
 ·rcases hk with hk | hk
  ·exact wpAny_loadName_cell I.ok.kind hk hc hcell go
  ·rcases hx with k | k
   ·have:X.env.scope.names.lookup x=some .free:=hk
    rw [k] at this;cases this
   ·have:X.env.scope.names.lookup x=some .free:=hk
    rw [k] at this;cases this
def ipI (f:Int->Int->Int):TIp:=fun x y H Q=>∃i j,x=.int i/\y=.int j/\Q (.int (f i j)) H
theorem zqf:PIp X .Add (ipI fun i j=>i+j):=by
 intro pins s σ H x y v u Q I r1 r2 h
 obtain ⟨i,j,e1,e2,q⟩:=h
 subst e1;subst e2
 obtain ⟨t,rfl⟩:=r1
 obtain ⟨t',rfl⟩:=r2
 exact iadd_int ⟨.int _,H,I.tok _,⟨_,rfl⟩,q⟩
end
section
variable {X:Cx} {pos:Pos}
def zv0 (c:TT) (tb:TS):TS:=fun D σ H=>∃W:Nat->St->Hp->Prop,(∃m,W m σ H)/\∀m σ H,W m σ H->
 c σ H fun b H1=>if b=true then ∃N:St->Hp->Prop,(∀σ' H',N σ' H'->∃m',m'<m/\W m' σ' H')/\tb { D with nx:=N,ct:=N,bk:=D.nx } σ H1 else D.nx σ H1
theorem zm1 {c:Expr} {body:List Stmt} {tc:TT} {tb:TS} (hp:PassesOwn (model X.prog X.w) X.A X.env X.xe) (hc:PT X c tc) (hb:PSs X body tb):PS X (.While c body [] pos) (zv0 tc tb):=by
 intro pins s σ H D I h
 obtain ⟨W,⟨m0,w0⟩,turn⟩:=h
 refine wpAny_While (codeAny_whileLoop (fun n s'=>∃σ' H',Inv X pins σ' H' s'/\W n σ' H') ?_ m0 ⟨σ,H,I,w0⟩)
 rintro n s1 ⟨σ1,H1,I1,w1⟩
 refine wpAny_passesOwn hp (thn (hc pins s1 σ1 H1 _ I1 (turn n σ1 H1 w1)) fun b s2 zz=>?_)
 obtain ⟨H2,I2,q2⟩:=zz
 cases b with
 | true=>
  obtain ⟨N,hN,q2⟩:=q2
  rw [if_pos rfl]
  refine wpAny_passesOwn hp (thn (hb pins s2 σ1 H2 _ I2 q2) fun f s3 q3=>?_)
  cases f with
  | next=>
   obtain ⟨σ3,H3,I3,n3⟩:=q3
   obtain ⟨m',hm,w3⟩:=hN σ3 H3 n3
   exact ⟨m',hm,σ3,H3,I3,w3⟩
  | cont=>
   obtain ⟨σ3,H3,I3,n3⟩:=q3
   obtain ⟨m',hm,w3⟩:=hN σ3 H3 n3
   exact ⟨m',hm,σ3,H3,I3,w3⟩
  | brk=>exact q3
  | ret v=>exact q3
 | false=>
  rw [if_neg ZA6]
  exact wpAny_execs_nil ⟨σ1,H2,I2,q2⟩
end
structure It where
 go:Nat->Hp->Prop
 yld:Nat->Hp->V->Hp->Prop
 stop:Nat->Hp->Prop
def zrc (X:Cx) (pins:List (Addr×Obj)) (H:Hp) (b:Addr):Prop:=
 H b=none/\b≠X.env.locals/\b∉X.fs/\(b∈X.ex\/X.s₀.heap.objs.size<=b)/\(∀x c,X.env.cells.lookup x=some c->c≠b)/\∀p∈X.pn++pins,p.1≠b
theorem Inv.fpOk {X:Cx} {pins:List (Addr×Obj)} {σ:St} {H H':Hp} {s:Shared} {b:Addr} (I:Inv X pins σ H s) (hb:s.heap.objs.size<=b) (hn:H' b=none):zrc X pins H' b:=by
 refine ⟨hn,Nat.ne_of_gt (ZBm I.lt hb),I.nofs hb,.inr (ZBg I.sz hb),fun x c e z=>?_,fun p hp z=>?_⟩
 ·obtain ⟨v,q⟩:=I.cell x c e
  exact absurd (ZBm q.lt (by rw [z];exact hb)) (ZB2 _)
 ·exact absurd (ZBm (ZBc (I.pin p hp).1) (by rw [z];exact hb)) (ZB2 _)
def zy6 (X:Cx):Prop:=X.A.handled=none\/∃(a C:Addr) (dx:Option Addr) (t tb:Value) (u:HO),X.A.handled=some (.ref a)/\X.H₀ a=some (.frz (znf C dx t tb) u)
def zgp (X:Cx):Prop:=X.calm=true\/zy6 X
theorem zn8 {X:Cx} {pins:List (Addr×Obj)} {σ:St} {H:Hp} {s:Shared} (q:zgp X) (I:Inv X pins σ H s):Hd X.A s.heap:=by
 rcases q with q | q | ⟨a,C,dx,t,tb,u,q,e⟩
 ·exact .inl (I.ok.hd q)
 ·exact .inl q
 ·exact .inr ⟨a,C,dx,t,tb,q,(I.hok a _ (I.base.frzs a _ _ e)).1⟩
theorem zgp.in_ {X:Cx} {pins:List (Addr×Obj)} {σ:St} {H:Hp} {s:Shared} (q:zgp X) (I:Inv X pins σ H s) {Y:Cx} (h1:Y.calm=X.calm) (h2:Y.A.handled=X.A.handled) (h3:∀a o u,H a=some (.frz o u)->Y.H₀ a=some (.frz o u)):zgp Y:=by
 rcases q with q | q | ⟨a,C,dx,t,tb,u,q,e⟩
 ·exact .inl (h1.trans q)
 ·exact .inr (.inl (h2.trans q))
 ·exact .inr (.inr ⟨a,C,dx,t,tb,u,h2.trans q,h3 _ _ _ (I.base.frzs a _ _ e)⟩)
structure ztv (P:Program) (w:World) (K:ZCa) (tg:Expr) (J:It) (fp:List Addr) (it:Addr) (tn:Nat->Heap->Prop):Prop where
 mem:it∈fp
 obj:∀i h,tn i h->∀b∈fp,∃o,h.get? b=some o/\∀v,o.data≠.cell v
 keep:∀i h h',tn i h->(∀b∈fp,∀o,h.get? b=some o->h'.get? b=some o)->tn i h'
 item:∀(X:Cx),X.prog=P->X.w=w->X.K=K->zgp X->∀(i:Nat) (pins:List (Addr×Obj)) (s:Shared) (σ:St) (H:Hp) (E:Value->Shared->Prop),Inv X pins σ H s->(∀b∈fp,zrc X pins H b)->tn i s.heap->J.go i H->
  wpAny (model P w) X.A (pyNext (.ref it)) (fun r s1=>∃u,r=some u/\
   wpAny (model P w) X.A (letOwnedTupleGo tg (.ref it) u) (fun _ s2=>∃x H',Inv X pins σ H' s2/\zcr x u/\J.yld i H x H'/\tn (i+1) s2.heap/\∀b∈fp,H' b=none) E s1) E s
 done:∀(X:Cx),X.prog=P->X.w=w->X.K=K->zgp X->∀(i:Nat) (pins:List (Addr×Obj)) (s:Shared) (σ:St) (H:Hp) (E:Value->Shared->Prop),Inv X pins σ H s->(∀b∈fp,zrc X pins H b)->tn i s.heap->J.stop i H->
  wpAny (model P w) X.A (pyNext (.ref it)) (fun r s1=>r=none/\Inv X pins σ H s1) E s
 self:∀(A:Around) (i:Nat) (s:Shared) (Q:Value->Shared->Prop) (E:Value->Shared->Prop),tn i s.heap->Q (.ref it) s->wpAny (model P w) A (pyIter (.ref it)) Q E s
abbrev TI:=St->Hp->(It->Hp->Prop)->Prop
def PIE (X:Cx) (pins:List (Addr×Obj)) (σ:St) (tg:Expr) (R:It->Hp->Prop) (itv:Value) (s2:Shared):Prop:=
 ∃(it:Addr) (fp:List Addr) (tn:Nat->Heap->Prop) (J:It) (H':Hp),itv=.ref it/\Inv X pins σ H' s2/\ztv X.prog X.w X.K tg J fp it tn/\tn 0 s2.heap/\(∀b∈fp,zrc X pins H' b)/\R J H'
def PI (X:Cx) (tg iter:Expr) (wi:TI):Prop:=
 ∀(pins:List (Addr×Obj)) (s:Shared) (σ:St) (H:Hp) (R:It->Hp->Prop),Inv X pins σ H s->wi σ H R->
  wpAny (model X.prog X.w) X.A (eval iter X.env) (fun v s1=>wpAny (model X.prog X.w) X.A (pyIter v) (PIE X pins σ tg R) X.xe s1) X.xe s
theorem zsf {M:Model} {A:Around} {E:Value->Shared->Prop} {s:Shared} {tg:Expr} {it:Addr} {u:Value} {o:Obj} {n:String} {vs:Array Value} {Q:Unit->Shared->Prop} (ho:s.heap.get? it=some o) (hc:o.cls=.type n) (hd:o.data=.fields vs)
 (hn:["enumerate","zip","dict_itemiterator","dict_reverseitemiterator","odict_iterator","itertools.zip_longest","itertools.pairwise"].contains n=false) (hQ:Q () s):wpAny M A (letOwnedTupleGo tg (.ref it) u) Q E s:=by
 unfold letOwnedTupleGo
 cases tg<;>first
  | exact ZAq hQ
  | (cases u<;>first
   | exact ZAq hQ
   | (refine ZAp (wpAny_load ho ?_)
      rw [hc,hd]
      show wpAny M A (if (["enumerate","zip","dict_itemiterator","dict_reverseitemiterator","odict_iterator","itertools.zip_longest","itertools.pairwise"].contains n && vs[0]?==some (rawInt _))=true then _ else _) Q E s
      rw [if_neg (by intro h;rw [hn,Bool.false_and] at h;cases h)]
      exact ZAq hQ))
def Itl (K:ZCa) (a:Addr):It:=
 ⟨fun i H=>∃xs x,SqL K H a xs/\xs[i]?=some x,fun i H x H'=>H'=H/\∀xs,SqL K H a xs->xs[i]?=some x,fun i H=>∃xs,SqL K H a xs/\xs.length<=i⟩
def Itt (K:ZCa) (a:Addr):It:=
 ⟨fun i H=>∃xs x,SqT K H a xs/\xs[i]?=some x,fun i H x H'=>H'=H/\∀xs,SqT K H a xs->xs[i]?=some x,fun i H=>∃xs,SqT K H a xs/\xs.length<=i⟩
def Itr (lo:Int) (n:Nat):It:=⟨fun i _=>i<n,fun i H x H'=>H'=H/\x=.int (lo+i),fun i _=>n<=i⟩
theorem zou {P:Program} {w:World} {K:ZCa} {tg:Expr} (a it:Addr):ztv P w K tg (Itl K a) [it] it (fun i h=>h.IsListIter it a i) where
 mem:=by simp
 obj:=fun i h st b hb=>by
  have e:b=it:=by simpa using hb
  subst e
  obtain ⟨o,e,c,d⟩:=st
  exact ⟨o,e,fun v z=>by rw [d] at z;cases z⟩
 keep:=fun i h h' st k=>st.at fun o e=>k it (by simp) o e
 item:=by
  intro X hP hw hK hc i pins s σ H E I hf st hg
  subst hP hw hK
  obtain ⟨xs,x,hq,hx⟩:=hg
  obtain ⟨its,rv,p,hz⟩:=I.list hq
  obtain ⟨u,hu,ru⟩:=rv.get hx
  obtain ⟨f0,f1,f2,f3,f4,f5⟩:=hf it (by simp)
  refine wpAny_pyNext_list_item st p.isList (x:=u) (by simpa using hu) fun h' st' sb=>?_
  have I1:Inv X pins σ H { s with heap:=h' }:=I.turned (t':=s.toks) (fun b o hb e=>(sb.2 b hb).trans e) f0 f1 f3 f4 f5
  obtain ⟨o,e,c,d⟩:=id st'
  exact ⟨u,rfl,zsf (s:={ s with heap:=h' }) e c d (by decide) ⟨x,H,I1,ru,⟨rfl,fun ys hy=>by rw [I.list_inj hy hq];exact hx⟩,st',fun b hb=>(hf b hb).1⟩⟩
 done:=by
  intro X hP hw hK hc i pins s σ H E I hf st hg
  subst hP hw hK
  obtain ⟨xs,hq,hx⟩:=hg
  obtain ⟨its,rv,p,hz⟩:=I.list hq
  obtain ⟨f0,f1,f2,f3,f4,f5⟩:=hf it (by simp)
  have hl:=rv.length
  exact zl0 (zn8 hc I) st p.isList (by simp;lia) fun h' eb=>⟨rfl,I.turned (t':=s.toks) (fun b o hb e=>eb b o hb e) f0 f1 f3 f4 f5⟩
 self:=fun _ _ _ _ _ st h=>wpAny_pyIter_listiter st h
theorem znu {P:Program} {w:World} {K:ZCa} {tg:Expr} (a it:Addr):ztv P w K tg (Itt K a) [it] it (fun i h=>h.IsTupleIter it a i) where
 mem:=by simp
 obj:=fun i h st b hb=>by
  have e:b=it:=by simpa using hb
  subst e
  obtain ⟨o,e,c,d⟩:=st
  exact ⟨o,e,fun v z=>by rw [d] at z;cases z⟩
 keep:=fun i h h' st k=>st.at fun o e=>k it (by simp) o e
 item:=by
  intro X hP hw hK hc i pins s σ H E I hf st hg
  subst hP hw hK
  obtain ⟨xs,x,hq,hx⟩:=hg
  obtain ⟨its,rv,p,hz⟩:=I.tuple hq
  obtain ⟨u,hu,ru⟩:=rv.get hx
  obtain ⟨f0,f1,f2,f3,f4,f5⟩:=hf it (by simp)
  refine wpAny_pyNext_tuple_item st (show s.heap.IsTuple a its.toArray from p) (x:=u) (by simpa using hu) fun h' st' sb=>?_
  have I1:Inv X pins σ H { s with heap:=h' }:=I.turned (t':=s.toks) (fun b o hb e=>(sb.2 b hb).trans e) f0 f1 f3 f4 f5
  obtain ⟨o,e,c,d⟩:=id st'
  exact ⟨u,rfl,zsf (s:={ s with heap:=h' }) e c d (by decide) ⟨x,H,I1,ru,⟨rfl,fun ys hy=>by rw [I.tuple_inj hy hq];exact hx⟩,st',fun b hb=>(hf b hb).1⟩⟩
 done:=by
  intro X hP hw hK hc i pins s σ H E I hf st hg
  subst hP hw hK
  obtain ⟨xs,hq,hx⟩:=hg
  obtain ⟨its,rv,p,hz⟩:=I.tuple hq
  obtain ⟨f0,f1,f2,f3,f4,f5⟩:=hf it (by simp)
  have hl:=rv.length
  exact znx (zn8 hc I) st p (by simp;lia) fun h' eb=>⟨rfl,I.turned (t':=s.toks) (fun b o hb e=>eb b o hb e) f0 f1 f3 f4 f5⟩
 self:=fun _ _ _ _ _ st h=>wpAny_pyIter_tupleiter st h
theorem znv {P:Program} {w:World} {K:ZCa} {tg:Expr} (it:Addr) (lo:Int) (n:Nat):ztv P w K tg (Itr lo n) [it] it (fun i h=>IsRangeIter h it (lo+(i:Nat)*1) ((n:Int)-(i:Nat)) 1) where
 mem:=by simp
 obj:=fun i h st b hb=>by
  have e:b=it:=by simpa using hb
  subst e
  exact ⟨_,st,fun v z=>by
   have z':Data.fields _=Data.cell v:=z
   cases z'⟩
 keep:=fun i h h' st k=>k it (by simp) _ st
 item:=by
  intro X hP hw hK hc i pins s σ H E I hf st hg
  subst hP hw hK
  obtain ⟨f0,f1,f2,f3,f4,f5⟩:=hf it (by simp)
  refine zjh hg st fun t h' tk st' kk=>?_
  have I1:Inv X pins σ H { s with heap:=h',toks:=tk }:=I.turned (fun b o hb e=>kk b o (by simpa using hb) e) f0 f1 f3 f4 f5
  refine ⟨_,rfl,zsf (s:={ s with heap:=h',toks:=tk }) (n:="range_iterator") st' rfl rfl (by decide) ⟨.int (lo+i),H,I1,⟨t,?_⟩,⟨rfl,rfl⟩,st',fun b hb=>(hf b hb).1⟩⟩
  rw [Int.mul_one]
 done:=by
  intro X hP hw hK hc i pins s σ H E I hf st hg
  subst hP hw hK
  obtain ⟨f0,f1,f2,f3,f4,f5⟩:=hf it (by simp)
  exact zg2 (zn8 hc I) st (by have:n<=i:=hg;lia) fun h' eb=>⟨rfl,I.turned (t':=s.toks) (fun b o hb e=>eb b o hb e) f0 f1 f3 f4 f5⟩
 self:=fun _ _ _ _ _ st h=>wpAny_pyIter_rangeiter st h
section
variable {X:Cx} {tg:Expr}
def zyi (K:ZCa) (tl:TE):TI:=fun σ H R=>tl σ H fun x H1=>∃a,x=.ref a/\(∃xs,SqL K H1 a xs)/\R (Itl K a) H1
def zA4 (K:ZCa) (tl:TE):TI:=fun σ H R=>tl σ H fun x H1=>∃a,x=.ref a/\(∃xs,SqT K H1 a xs)/\R (Itt K a) H1
theorem za4 {l:Expr} {tl:TE} (hl:PE X l tl):PI X tg l (zyi X.K tl):=by
 intro pins s σ H R I h
 refine thn (hl pins s σ H _ I h) fun v s1 zz=>?_
 obtain ⟨x,H1,I1,r1,q1⟩:=zz
 obtain ⟨a,e,⟨xs,hq⟩,q⟩:=q1
 subst e
 cases r1
 obtain ⟨its,rv,p,hz⟩:=I1.list hq
 refine wpAny_pyIter_list p.isList ?_
 refine ⟨s1.heap.objs.size,[s1.heap.objs.size],_,_,H1,rfl,I1.kept (t':=s1.toks) fun b o e=>ZAy _ e,zou a _,⟨_,ZBh _ rfl,rfl,rfl⟩,fun b hb=>?_,q⟩
 have e:b=s1.heap.objs.size:=by simpa using hb
 subst e
 exact I1.fpOk (ZAw _) (I1.hok.fresh (ZAw _))
theorem zpt {l:Expr} {tl:TE} (hl:PE X l tl):PI X tg l (zA4 X.K tl):=by
 intro pins s σ H R I h
 refine thn (hl pins s σ H _ I h) fun v s1 zz=>?_
 obtain ⟨x,H1,I1,r1,q1⟩:=zz
 obtain ⟨a,e,⟨xs,hq⟩,q⟩:=q1
 subst e
 cases r1
 obtain ⟨its,rv,p,hz⟩:=I1.tuple hq
 refine wpAny_pyIter_tuple (show s1.heap.IsTuple a its.toArray from p) ?_
 refine ⟨s1.heap.objs.size,[s1.heap.objs.size],_,_,H1,rfl,I1.kept (t':=s1.toks) fun b o e=>ZAy _ e,znu a _,⟨_,ZBh _ rfl,rfl,rfl⟩,fun b hb=>?_,q⟩
 have e:b=s1.heap.objs.size:=by simpa using hb
 subst e
 exact I1.fpOk (ZAw _) (I1.hok.fresh (ZAw _))
theorem zmz {pins:List (Addr×Obj)} {σ:St} {H:Hp} {s:Shared} {R:It->Hp->Prop} {E:Value->Shared->Prop} {lo hi:Int} {t u v:Tok} {tk:Nat} (I:Inv X pins σ H s) (h1: -(2 ^ 62)<=lo) (h2:lo<2 ^ 62) (h3: -(2 ^ 62)<=hi) (h4:hi<2 ^ 62)
 (q:R (Itr lo (hi-lo).toNat) H):wpAny (model X.prog X.w) X.A (pyIter (.ref s.heap.objs.size)) (PIE X pins σ tg R) E { s with heap:=s.heap.push { cls:=.type "range",data:=.fields #[.int lo t,.int hi u,.int 1 v] },toks:=tk }:=by
 refine wpAny_pyIter_range (IsRange.new ..) (small_one h1 h2 h3 h4) ?_
 have I1:Inv X pins σ H { s with heap:=s.heap.push { cls:=.type "range",data:=.fields #[.int lo t,.int hi u,.int 1 v] },toks:=tk }:=I.kept fun b o e=>ZAy _ e
 refine ⟨(s.heap.push { cls:=.type "range",data:=.fields #[.int lo t,.int hi u,.int 1 v] }).objs.size,[(s.heap.push { cls:=.type "range",data:=.fields #[.int lo t,.int hi u,.int 1 v] }).objs.size],_,_,H,rfl,
  I1.kept (t':=tk) fun b o e=>ZAy _ e,znv _ lo (hi-lo).toNat,?_,fun b hb=>?_,q⟩
 ·have e1:lo+((0:Nat):Int)*1=lo:=by simp
  have e2:(((hi-lo).toNat:Nat):Int)-((0:Nat):Int)=Builtin.Range.rangeSize lo hi 1:=by rw [rangeSize_one];split<;>lia
  show IsRangeIter _ _ (lo+((0:Nat):Int)*1) ((((hi-lo).toNat:Nat):Int)-((0:Nat):Int)) 1
  rw [e1,e2]
  exact ZBh _ rfl
 ·have e:b=(s.heap.push { cls:=.type "range",data:=.fields #[.int lo t,.int hi u,.int 1 v] }).objs.size:=by simpa using hb
  subst e
  exact I1.fpOk (ZAw _) (I1.hok.fresh (ZAw _))
def zyh (ta:TA):TI:=fun σ H R=>ta σ H fun vs H1=>∃j:Int,vs=[.int j]/\-(2 ^ 62)<=j/\j<2 ^ 62/\R (Itr 0 j.toNat) H1
def zyg (ta:TA):TI:=fun σ H R=>ta σ H fun vs H1=>∃i j:Int,vs=[.int i,.int j]/\(-(2 ^ 62)<=i/\i<2 ^ 62/\-(2 ^ 62)<=j/\j<2 ^ 62)/\R (Itr i (j-i).toNat) H1
theorem zcs {a:Expr} {ta:TA} {p pos:Pos} (hg:Gl X "range") (hm:X.mg "range"=none) (ha:PA X [a] ta) (hs:starEach [a] X.env=[(false,eval a X.env)]:=by rfl):PI X tg (.Call (.Name "range" p) [a] [] pos) (zyh ta):=by
 intro pins s σ H R I h
 refine Call_ (zkx I hg hm boot_range (PyProof.Rows.callWith_type1 (thn (ha pos pins s σ H _ I h) fun us s1 zz=>?_) hs rfl))
 obtain ⟨vs,H1,I1,r1,q1⟩:=zz
 obtain ⟨j,e,q1,q2,q⟩:=q1
 subst e
 cases r1 with
 | cons r rr=>
  cases rr
  obtain ⟨t,rfl⟩:=r
  exact call_range_1 (zmz I1 (by lia) (by lia) q1 q2 (by simpa using q))
theorem zpv {a b:Expr} {ta:TA} {p pos:Pos} (hg:Gl X "range") (hm:X.mg "range"=none) (ha:PA X [a,b] ta) (hs:starEach [a,b] X.env=[(false,eval a X.env),(false,eval b X.env)]:=by rfl) (hs2:starEach [b] X.env=[(false,eval b X.env)]:=by rfl):
 PI X tg (.Call (.Name "range" p) [a,b] [] pos) (zyg ta):=by
 intro pins s σ H R I h
 refine Call_ (zkx I hg hm boot_range (PyProof.Rows.callWith_type1 (thn (ha pos pins s σ H _ I h) fun us s1 zz=>?_) (by rw [hs,hs2]) (by rw [hs2];rfl)))
 obtain ⟨vs,H1,I1,r1,q1⟩:=zz
 obtain ⟨i,j,e,⟨q1,q2,q3,q4⟩,q⟩:=q1
 subst e
 cases r1 with
 | cons r rr=>
  cases rr with
  | cons r' rr=>
   cases rr
   obtain ⟨t,rfl⟩:=r
   obtain ⟨t',rfl⟩:=r'
   exact call_range_2 (zmz I1 q1 q2 q3 q4 q)
def zy8 (wi:TI) (g:TG) (tb:TS):TS:=fun D σ H=>wi σ H fun J H1=>∃W:Nat->Nat->St->Hp->Prop,(∃m,W 0 m σ H1)/\∀i m σ H,W i m σ H->
 (J.stop i H/\D.nx σ H)\/(J.go i H/\∃N:St->Hp->Prop,(∀σ' H',N σ' H'->∃m',m'<m/\W (i+1) m' σ' H')/\∀x H',J.yld i H x H'->g x σ H' fun σ2 H2=>tb { D with nx:=N,ct:=N,bk:=D.nx } σ2 H2)
def zkr (fp:List Addr) (h:Heap):List (Addr×Obj):=fp.filterMap fun b=>(h.get? b).map fun o=>(b,o)
theorem zfj {fp:List Addr} {h:Heap} {b:Addr} {o:Obj} (hb:b∈fp) (e:h.get? b=some o):(b,o)∈zkr fp h:=List.mem_filterMap.mpr ⟨b,hb,by rw [e];rfl⟩
theorem zp5 {fp:List Addr} {h:Heap} {p:Addr×Obj} (hp:p∈zkr fp h):p.1∈fp/\h.get? p.1=some p.2:=by
 obtain ⟨b,hb,e⟩:=List.mem_filterMap.mp hp
 cases q:h.get? b with
 | none=>rw [q] at e;cases e
 | some o=>
  rw [q] at e
  have e':(b,o)=p:=ZA7 e
  subst e'
  exact ⟨hb,q⟩
theorem Inv.pinned {pins:List (Addr×Obj)} {σ:St} {H:Hp} {s:Shared} {fp:List Addr} (I:Inv X pins σ H s) (hf:∀b∈fp,zrc X pins H b) (ho:∀b∈fp,∃o,s.heap.get? b=some o/\∀v,o.data≠.cell v):Inv X (pins++zkr fp s.heap) σ H s:=
 I.pins_of fun p hp=>(ZBo.mp hp).elim (fun z=>I.pin p (ZBn _ z)) fun z=>by
  obtain ⟨hb,e⟩:=zp5 z
  obtain ⟨f0,f1,f2,_⟩:=hf p.1 hb
  obtain ⟨o,e',d⟩:=ho p.1 hb
  rw [e] at e';cases e'
  exact ⟨e,f0,f1,f2,d⟩
theorem Inv.unpinned {pins pl:List (Addr×Obj)} {σ:St} {H:Hp} {s:Shared} (I:Inv X (pins++pl) σ H s):Inv X pins σ H s:=I.pins_of fun p hp=>I.pin p (ZBn _ (ZAb _ hp))
theorem zun {iter:Expr} {body:List Stmt} {wi:TI} {g:TG} {tb:TS} {pos:Pos} (hp:PassesOwn (model X.prog X.w) X.A X.env X.xe) (hc:zgp X) (hi:PI X tg iter wi) (hg:PG X tg g) (hb:PSs X body tb)
 (hs:∀x,foldedSetIterable iter X.env x=pure x:=by intro _;rfl):PS X (.For tg iter body [] pos) (zy8 wi g tb):=by
 intro pins s σ H D I h
 refine wpAny_For (thn (hi pins s σ H _ I h) fun v s1 h1=>thn h1 fun itv s2 h2=>?_) hs
 obtain ⟨it,fp,tn,J,H2,e,I2,T,st2,f2,W,⟨m0,w0⟩,turn⟩:=h2
 subst e
 have stat:∀{H':Hp},(∀b∈fp,H' b=none)->∀b∈fp,zrc X pins H' b:=fun hn b hb=>⟨hn b hb,(f2 b hb).2⟩
 refine codeAny_forLoop_any (fun n s'=>∃i σ' H',Inv X pins σ' H' s'/\tn i s'.heap/\(∀b∈fp,H' b=none)/\W i n σ' H') ?_ m0 ⟨0,σ,H2,I2,st2,fun b hb=>(f2 b hb).1,w0⟩
 rintro n s3 ⟨i,σ3,H3,I3,st3,fr3,w3⟩
 rcases turn i n σ3 H3 w3 with ⟨stop,qn⟩ | ⟨go,N,hN,step⟩
 ·refine wpAny_passesOwn hp (thn (T.done X rfl rfl rfl hc i pins s3 σ3 H3 X.xe I3 (stat fr3) st3 stop) fun r s4 ⟨hr,I4⟩=>?_)
  subst hr
  exact wpAny_execs_nil ⟨σ3,H3,I4,qn⟩
 ·refine wpAny_passesOwn hp (thn (T.item X rfl rfl rfl hc i pins s3 σ3 H3 X.xe I3 (stat fr3) st3 go) fun r s4 zz=>L2.el3 zz fun u hr h4=>?_)
  subst hr
  refine wpAny_passesOwn hp (thn h4 fun _ s5 zz=>?_)
  obtain ⟨x,H5,I5,r5,y5,st5,fr5⟩:=zz
  have I5':=I5.pinned (stat fr5) (T.obj _ _ st5)
  refine wpAny_passesOwn hp (thn (hg _ s5 σ3 H5 x u _ I5' r5 (step x H5 y5)) fun _ s6 zz=>?_)
  obtain ⟨σ6,H6,I6,q6⟩:=zz
  refine wpAny_passesOwn hp (thn (hb _ s6 σ6 H6 _ I6 q6) fun f s7 q7=>?_)
  have again:∀{σ7:St} {H7:Hp},Inv X (pins++zkr fp s5.heap) σ7 H7 s7->N σ7 H7->∃m,m<n/\∃i σ' H',Inv X pins σ' H' s7/\tn i s7.heap/\(∀b∈fp,H' b=none)/\W i m σ' H':=fun {σ7 H7} I7 n7=>by
   obtain ⟨m',hm,w7⟩:=hN σ7 H7 n7
   refine ⟨m',hm,i+1,σ7,H7,I7.unpinned,T.keep _ _ _ st5 fun b hb o e=>(I7.pin (b,o) (ZBn _ (ZBn _ (zfj hb e)))).1,fun b hb=>?_,w7⟩
   obtain ⟨o,e,d⟩:=T.obj _ _ st5 b hb
   exact (I7.pin (b,o) (ZBn _ (ZBn _ (zfj hb e)))).2.1
  cases f with
  | next=>obtain ⟨σ7,H7,I7,n7⟩:=q7;exact again I7 n7
  | cont=>obtain ⟨σ7,H7,I7,n7⟩:=q7;exact again I7 n7
  | brk=>obtain ⟨σ7,H7,I7,q7⟩:=q7;exact ⟨σ7,H7,I7.unpinned,q7⟩
  | ret v=>obtain ⟨x7,σ7,H7,I7,r7,q7⟩:=q7;exact ⟨x7,σ7,H7,I7.unpinned,r7,q7⟩
theorem zb7 {iter:Expr} {body:List Stmt} {wi:TI} {g:TG} {tb:TS} {pos:Pos} (hp:PassesOwn (model X.prog X.w) X.A X.env X.xe) (hc:X.calm=true) (hi:PI X tg iter wi) (hg:PG X tg g) (hb:PSs X body tb)
 (hs:∀x,foldedSetIterable iter X.env x=pure x:=by intro _;rfl):PS X (.For tg iter body [] pos) (zy8 wi g tb):=zun hp (.inl hc) hi hg hb hs
end
theorem zbu {K:ZCa} {a:Addr} {xs:List V} {g:TG} {tb:TS} {D:zrd} {σ:St} {H:Hp} (Pv:Nat->St->Hp->Prop) (h0:Pv 0 σ H) (hl:∀i σ H,i<=xs.length->Pv i σ H->SqL K H a xs)
 (hs:∀i x σ H,xs[i]?=some x->Pv i σ H->g x σ H fun σ2 H2=>tb { D with nx:=Pv (i+1),ct:=Pv (i+1),bk:=D.nx } σ2 H2) (hd:∀σ H,Pv xs.length σ H->D.nx σ H):
 ∃W:Nat->Nat->St->Hp->Prop,(∃m,W 0 m σ H)/\∀i m σ H,W i m σ H->
  ((Itl K a).stop i H/\D.nx σ H)\/((Itl K a).go i H/\∃N:St->Hp->Prop,(∀σ' H',N σ' H'->∃m',m'<m/\W (i+1) m' σ' H')/\∀x H',(Itl K a).yld i H x H'->g x σ H' fun σ2 H2=>tb { D with nx:=N,ct:=N,bk:=D.nx } σ2 H2):=by
 refine ⟨fun i m σ H=>m=xs.length-i/\i<=xs.length/\Pv i σ H,⟨xs.length,by simp,ZBa _,h0⟩,?_⟩
 rintro i m σ H ⟨rfl,hi,p⟩
 have q:=hl i σ H hi p
 by_cases hlt:i<xs.length
 ·refine .inr ⟨⟨xs,xs[i],q,by simp [hlt]⟩,Pv (i+1),fun σ' H' p'=>⟨xs.length-(i+1),by lia,rfl,hlt,p'⟩,fun x H' y=>?_⟩
  obtain ⟨e,y⟩:=y
  subst e
  exact hs i x σ _ (y xs q) p
 ·have e:i=xs.length:=by lia
  subst e
  exact .inl ⟨⟨xs,q,ZAw _⟩,hd σ H p⟩
theorem zu9 {K:ZCa} {a:Addr} {xs:List V} {g:TG} {tb:TS} {D:zrd} {σ:St} {H:Hp} (Pv:Nat->St->Hp->Prop) (h0:Pv 0 σ H) (hl:∀i σ H,i<=xs.length->Pv i σ H->SqT K H a xs)
 (hs:∀i x σ H,xs[i]?=some x->Pv i σ H->g x σ H fun σ2 H2=>tb { D with nx:=Pv (i+1),ct:=Pv (i+1),bk:=D.nx } σ2 H2) (hd:∀σ H,Pv xs.length σ H->D.nx σ H):
 ∃W:Nat->Nat->St->Hp->Prop,(∃m,W 0 m σ H)/\∀i m σ H,W i m σ H->
  ((Itt K a).stop i H/\D.nx σ H)\/((Itt K a).go i H/\∃N:St->Hp->Prop,(∀σ' H',N σ' H'->∃m',m'<m/\W (i+1) m' σ' H')/\∀x H',(Itt K a).yld i H x H'->g x σ H' fun σ2 H2=>tb { D with nx:=N,ct:=N,bk:=D.nx } σ2 H2):=by
 refine ⟨fun i m σ H=>m=xs.length-i/\i<=xs.length/\Pv i σ H,⟨xs.length,by simp,ZBa _,h0⟩,?_⟩
 rintro i m σ H ⟨rfl,hi,p⟩
 have q:=hl i σ H hi p
 by_cases hlt:i<xs.length
 ·refine .inr ⟨⟨xs,xs[i],q,by simp [hlt]⟩,Pv (i+1),fun σ' H' p'=>⟨xs.length-(i+1),by lia,rfl,hlt,p'⟩,fun x H' y=>?_⟩
  obtain ⟨e,y⟩:=y
  subst e
  exact hs i x σ _ (y xs q) p
 ·have e:i=xs.length:=by lia
  subst e
  exact .inl ⟨⟨xs,q,ZAw _⟩,hd σ H p⟩
theorem zd9 {lo:Int} {n:Nat} {g:TG} {tb:TS} {D:zrd} {σ:St} {H:Hp} (Pv:Nat->St->Hp->Prop) (h0:Pv 0 σ H)
 (hs:∀i σ H,i<n->Pv i σ H->g (.int (lo+i)) σ H fun σ2 H2=>tb { D with nx:=Pv (i+1),ct:=Pv (i+1),bk:=D.nx } σ2 H2) (hd:∀σ H,Pv n σ H->D.nx σ H):
 ∃W:Nat->Nat->St->Hp->Prop,(∃m,W 0 m σ H)/\∀i m σ H,W i m σ H->
  ((Itr lo n).stop i H/\D.nx σ H)\/((Itr lo n).go i H/\∃N:St->Hp->Prop,(∀σ' H',N σ' H'->∃m',m'<m/\W (i+1) m' σ' H')/\∀x H',(Itr lo n).yld i H x H'->g x σ H' fun σ2 H2=>tb { D with nx:=N,ct:=N,bk:=D.nx } σ2 H2):=by
 refine ⟨fun i m σ H=>m=n-i/\i<=n/\Pv i σ H,⟨n,by simp,ZBa _,h0⟩,?_⟩
 rintro i m σ H ⟨rfl,hi,p⟩
 by_cases hlt:i<n
 ·refine .inr ⟨hlt,Pv (i+1),fun σ' H' p'=>⟨n-(i+1),by lia,rfl,hlt,p'⟩,fun x H' y=>?_⟩
  obtain ⟨e,y⟩:=y
  subst e y
  exact hs i σ _ hlt p
 ·have e:i=n:=by lia
  subst e
  exact .inl ⟨ZAw _,hd σ H p⟩
abbrev R2:=V->V->Hp->VK->Prop
def OpR (X:Cx) (f:Value->Value->Sem Value) (r:R2):Prop:=
 ∀(pins:List (Addr×Obj)) (s:Shared) (σ:St) (H:Hp) (x y:V) (v u:Value) (Q:VK),Inv X pins σ H s->zcr x v->zcr y u->r x y H Q->
  wpAny (model X.prog X.w) X.A (f v u) (EP X pins σ Q) X.xe s
def UnR (X:Cx) (f:Value->Sem Value) (r:V->Hp->VK->Prop):Prop:=
 ∀(pins:List (Addr×Obj)) (s:Shared) (σ:St) (H:Hp) (x:V) (v:Value) (Q:VK),Inv X pins σ H s->zcr x v->r x H Q->
  wpAny (model X.prog X.w) X.A (f v) (EP X pins σ Q) X.xe s
def zik (X:Cx) (f:Value) (r:List V->Hp->VK->Prop):Prop:=
 ∀(pins:List (Addr×Obj)) (s:Shared) (σ:St) (H:Hp) (xs:List V) (us:List Value) (Q:VK),Inv X pins σ H s->zcc xs us->r xs H Q->
  wpAny (model X.prog X.w) X.A (call f us) (EP X pins σ Q) X.xe s
def tOp (r:R2) (ta tb:TE):TE:=fun σ H Q=>ta σ H fun x H1=>tb σ H1 fun y H2=>r x y H2 Q
def tUn (r:V->Hp->VK->Prop) (ta:TE):TE:=fun σ H Q=>ta σ H fun x H1=>r x H1 Q
def rI (C:Int->Int->Prop) (g:Int->Int->V):R2:=fun x y H Q=>∃i j,x=.int i/\y=.int j/\C i j/\Q (g i j) H
def rI0 (g:Int->Int->V):R2:=fun x y H Q=>∃i j,x=.int i/\y=.int j/\Q (g i j) H
def rU (g:Int->V):V->Hp->VK->Prop:=fun x H Q=>∃i,x=.int i/\Q (g i) H
section
variable {X:Cx} {a b c:Expr} {ta tb tc:TE} {pos:Pos}
theorem zyz (ha:PE X a ta) (hb:PE X b tb) {pins:List (Addr×Obj)} {s:Shared} {σ:St} {H:Hp} {R:V->V->Hp->Prop} (I:Inv X pins σ H s)
 (h:ta σ H fun x H1=>tb σ H1 fun y H2=>R x y H2) {Q:Value->Shared->Prop} {f:Value->Value->Sem Value}
 (hf:∀v u s2 x y H2,Inv X pins σ H2 s2->zcr x v->zcr y u->R x y H2->wpAny (model X.prog X.w) X.A (f v u) Q X.xe s2):
 wpAny (model X.prog X.w) X.A (eval a X.env) (fun v s₁=>wpAny (model X.prog X.w) X.A (eval b X.env) (fun u s₂=>wpAny (model X.prog X.w) X.A (f v u) Q X.xe s₂) X.xe s₁) X.xe s:=by
 refine thn (ha pins s σ H _ I h) fun v s1 zz=>?_
 obtain ⟨x,H1,I1,r1,q1⟩:=zz
 refine thn (hb pins s1 σ H1 _ I1 q1) fun u s2 zz=>?_
 obtain ⟨y,H2,I2,r2,q2⟩:=zz
 exact hf v u s2 x y H2 I2 r1 r2 q2
theorem zba {op:Operator} {r:R2} (ho:OpR X (binaryOp op) r) (ha:PE X a ta) (hb:PE X b tb):PE X (.BinOp a op b pos) (tOp r ta tb):=by
 intro pins s σ H Q I h
 exact wpAny_BinOp (zyz ha hb I h fun v u s2 x y H2 I2 rx ry q=>ho pins s2 σ H2 x y v u Q I2 rx ry q)
theorem zn1 {op:UnaryOp} {r:V->Hp->VK->Prop} (ho:UnR X (unaryOp op) r) (ha:PE X a ta):PE X (.UnaryOp op a pos) (tUn r ta):=by
 intro pins s σ H Q I h
 exact UnaryOp_ (thn (ha pins s σ H _ I h) fun v s1 zz=>L2.el5 zz fun x H1 I1 r1 q1=>ho pins s1 σ H1 x v Q I1 r1 q1)
theorem opI {f:Value->Value->Sem Value} {C:Int->Int->Prop} {g:Int->Int->Int}
 (rule:∀(i j:Int) (t u:Tok) (s:Shared) (Q:Value->Shared->Prop) (E:Value->Shared->Prop),C i j->Q (.int (g i j) s.toks) { s with toks:=s.toks+1 }->wpAny (model X.prog X.w) X.A (f (.int i t) (.int j u)) Q E s):
 OpR X f (rI C fun i j=>.int (g i j)):=by
 intro pins s σ H x y v u Q I rx ry h
 obtain ⟨i,j,rfl,rfl,hc,q⟩:=h
 obtain ⟨t,rfl⟩:=rx
 obtain ⟨t',rfl⟩:=ry
 exact rule i j t t' s _ _ hc ⟨.int (g i j),H,I.tok _,⟨_,rfl⟩,q⟩
theorem zzj {f:Value->Value->Sem Value} {g:Int->Int->Int}
 (rule:∀(i j:Int) (t u:Tok) (s:Shared) (Q:Value->Shared->Prop) (E:Value->Shared->Prop),Q (.int (g i j) s.toks) { s with toks:=s.toks+1 }->wpAny (model X.prog X.w) X.A (f (.int i t) (.int j u)) Q E s):
 OpR X f (rI0 fun i j=>.int (g i j)):=by
 intro pins s σ H x y v u Q I rx ry h
 obtain ⟨i,j,rfl,rfl,q⟩:=h
 obtain ⟨t,rfl⟩:=rx
 obtain ⟨t',rfl⟩:=ry
 exact rule i j t t' s _ _ ⟨.int (g i j),H,I.tok _,⟨_,rfl⟩,q⟩
theorem zxk {f:Value->Value->Sem Value} {g:Int->Int->Bool}
 (rule:∀(i j:Int) (t u:Tok) (s:Shared) (Q:Value->Shared->Prop) (E:Value->Shared->Prop),Q (.bool (g i j)) s->wpAny (model X.prog X.w) X.A (f (.int i t) (.int j u)) Q E s):
 OpR X f (rI0 fun i j=>.bl (g i j)):=by
 intro pins s σ H x y v u Q I rx ry h
 obtain ⟨i,j,rfl,rfl,q⟩:=h
 obtain ⟨t,rfl⟩:=rx
 obtain ⟨t',rfl⟩:=ry
 exact rule i j t t' s _ _ ⟨.bl (g i j),H,I,rfl,q⟩
def zy7 (i j:Int):Prop:=(-(2 ^ 64)<i/\i<2 ^ 64)\/(-(2 ^ 64)<j/\j<2 ^ 64)
theorem zy7.ok {i j:Int} (h:zy7 i j):IntMulOk i j:=by
 rcases h with ⟨h1,h2⟩ | ⟨h1,h2⟩
 ·exact .of_left (intBits_le_64 h1 h2)
 ·exact .of_right (intBits_le_64 h1 h2)
theorem zb8:OpR X (binaryOp .Add) (rI0 fun i j=>.int (i+j)):=zzj fun _ _ _ _ _ _ _ q=>add_int q
theorem zcm:OpR X (binaryOp .Sub) (rI0 fun i j=>.int (i-j)):=zzj fun _ _ _ _ _ _ _ q=>sub_int q
theorem zwp:OpR X (binaryOp .Mult) (rI zy7 fun i j=>.int (i*j)):=opI fun _ _ _ _ _ _ _ hc q=>mul_int q hc.ok
theorem zp3:OpR X (binaryOp .Mod) (rI (fun _ j=>0<j) fun i j=>.int (i % j)):=opI fun i j _ _ _ _ _ hc q=>by
 have h1:(0:Int)<j:=hc
 exact mod_int' (by lia) (by rw [Int.fmod_eq_emod_of_nonneg i (by lia)];exact q)
theorem unI {f:Value->Sem Value} {g:Int->Int}
 (rule:∀(i:Int) (t:Tok) (s:Shared) (Q:Value->Shared->Prop) (E:Value->Shared->Prop),Q (.int (g i) s.toks) { s with toks:=s.toks+1 }->wpAny (model X.prog X.w) X.A (f (.int i t)) Q E s):
 UnR X f (rU fun i=>.int (g i)):=by
 intro pins s σ H x v Q I rx h
 obtain ⟨i,rfl,q⟩:=h
 obtain ⟨t,rfl⟩:=rx
 exact rule i t s _ _ ⟨.int (g i),H,I.tok _,⟨_,rfl⟩,q⟩
theorem zim:UnR X (unaryOp .USub) (rU fun i=>.int (-i)):=unI fun _ _ _ _ _ q=>neg_int q
end
def zza:V->V->Bool
 | .non,.non=>true | .non,.int _=>true | .int _,.non=>true | .non,.bl _=>true | .bl _,.non=>true | .non,.str _=>true | .str _,.non=>true
 | .int _,.int _=>true | .bl _,.bl _=>true | .str _,.str _=>true | .byt _,.byt _=>true
 | .int _,.str _=>true | .str _,.int _=>true | .bl _,.str _=>true | .str _,.bl _=>true
 | _,_=>false
def rEq:R2:=fun x y H Q=>zza x y=true/\Q (.bl (decide (x=y))) H
def rNe:R2:=fun x y H Q=>zza x y=true/\Q (.bl (!decide (x=y))) H
theorem zqu {i j:Int}:decide (V.int i=V.int j)=(i==j):=by
 rw [Bool.eq_iff_iff]
 simp
theorem zts {i j:Bool}:decide (V.bl i=V.bl j)=(i==j):=by
 rw [Bool.eq_iff_iff]
 simp
theorem zqt {i j:Str}:decide (V.str i=V.str j)=(i==j):=by
 rw [Bool.eq_iff_iff]
 simp
theorem zqv {i j:Array UInt8}:decide (V.byt i=V.byt j)=(i.toList==j.toList):=by
 rw [Bool.eq_iff_iff]
 cases i
 cases j
 simp
section
variable {X:Cx} {a b c:Expr} {ta tb tc:TE} {pos:Pos}
theorem zbl {pins:List (Addr×Obj)} {σ:St} {H:Hp} {s:Shared} {Q:VK} {k k':Bool} (I:Inv X pins σ H s) (q:Q (.bl k) H) (e:k=k'):EP X pins σ Q (.bool k') s:=by
 subst e
 exact ⟨.bl k,H,I,rfl,q⟩
theorem zcf:OpR X (compareOp .Eq) rEq:=by
 intro pins s σ H x y v u Q I rx ry h
 obtain ⟨hs,q⟩:=h
 cases x with
 | non=>
  cases rx
  cases y with
  | non=>cases ry;exact PySem.EqNone.eq_none_none (zbl I q (by simp))
  | bl j=>cases ry;exact PySem.EqNone.eq_none_bool (zbl I q (by simp))
  | int j=>obtain ⟨t',rfl⟩:=ry;exact PySem.EqNone.eq_none_int (zbl I q (by simp))
  | str j=>obtain ⟨t',rfl⟩:=ry;exact PySem.EqNone.eq_none_str (zbl I q (by simp))
  | _=>exact absurd (show false=true from hs) ZA6
 | bl i=>
  cases rx
  cases y with
  | non=>cases ry;exact PySem.EqNone.eq_bool_none (zbl I q (by simp))
  | bl j=>cases ry;exact eq_bool (zbl I q zts)
  | str j=>obtain ⟨t',rfl⟩:=ry;exact PySem.EqMixed.eq_bool_str (zbl I q (by simp))
  | _=>exact absurd (show false=true from hs) ZA6
 | int i=>
  obtain ⟨t,rfl⟩:=rx
  cases y with
  | non=>cases ry;exact PySem.EqNone.eq_int_none (zbl I q (by simp))
  | int j=>obtain ⟨t',rfl⟩:=ry;exact eq_int (zbl I q zqu)
  | str j=>obtain ⟨t',rfl⟩:=ry;exact PySem.EqMixed.eq_int_str (zbl I q (by simp))
  | _=>exact absurd (show false=true from hs) ZA6
 | str i=>
  obtain ⟨t,rfl⟩:=rx
  cases y with
  | non=>cases ry;exact PySem.EqNone.eq_str_none (zbl I q (by simp))
  | bl j=>cases ry;exact PySem.EqMixed.eq_str_bool (zbl I q (by simp))
  | int j=>obtain ⟨t',rfl⟩:=ry;exact PySem.EqMixed.eq_str_int (zbl I q (by simp))
  | str j=>obtain ⟨t',rfl⟩:=ry;exact eq_str (zbl I q zqt)
  | _=>exact absurd (show false=true from hs) ZA6
 | byt i=>
  obtain ⟨t,rfl⟩:=rx
  cases y with
  | byt j=>obtain ⟨t',rfl⟩:=ry;exact PySem.W.eq_bytes (zbl I q zqv)
  | _=>exact absurd (show false=true from hs) ZA6
 | _=>cases y<;>exact absurd (show false=true from hs) ZA6
theorem zux:OpR X (compareOp .NotEq) rNe:=by
 intro pins s σ H x y v u Q I rx ry h
 obtain ⟨hs,q⟩:=h
 cases x with
 | non=>
  cases rx
  cases y with
  | non=>cases ry;exact PySem.EqNone.ne_none_none (zbl I q (by simp))
  | bl j=>cases ry;exact PySem.EqNone.ne_none_bool (zbl I q (by simp))
  | int j=>obtain ⟨t',rfl⟩:=ry;exact PySem.EqNone.ne_none_int (zbl I q (by simp))
  | str j=>obtain ⟨t',rfl⟩:=ry;exact PySem.EqNone.ne_none_str (zbl I q (by simp))
  | _=>exact absurd (show false=true from hs) ZA6
 | bl i=>
  cases rx
  cases y with
  | non=>cases ry;exact PySem.EqNone.ne_bool_none (zbl I q (by simp))
  | bl j=>cases ry;exact ne_bool (zbl I q (congrArg not zts))
  | str j=>obtain ⟨t',rfl⟩:=ry;exact PySem.EqMixed.ne_bool_str (zbl I q (by simp))
  | _=>exact absurd (show false=true from hs) ZA6
 | int i=>
  obtain ⟨t,rfl⟩:=rx
  cases y with
  | non=>cases ry;exact PySem.EqNone.ne_int_none (zbl I q (by simp))
  | int j=>obtain ⟨t',rfl⟩:=ry;exact ne_int (zbl I q (congrArg not zqu))
  | str j=>obtain ⟨t',rfl⟩:=ry;exact PySem.EqMixed.ne_int_str (zbl I q (by simp))
  | _=>exact absurd (show false=true from hs) ZA6
 | str i=>
  obtain ⟨t,rfl⟩:=rx
  cases y with
  | non=>cases ry;exact PySem.EqNone.ne_str_none (zbl I q (by simp))
  | bl j=>cases ry;exact PySem.EqMixed.ne_str_bool (zbl I q (by simp))
  | int j=>obtain ⟨t',rfl⟩:=ry;exact PySem.EqMixed.ne_str_int (zbl I q (by simp))
  | str j=>obtain ⟨t',rfl⟩:=ry;exact ne_str (zbl I q (congrArg not zqt))
  | _=>exact absurd (show false=true from hs) ZA6
 | byt i=>
  obtain ⟨t,rfl⟩:=rx
  cases y with
  | byt j=>obtain ⟨t',rfl⟩:=ry;exact PySem.W.ne_bytes (zbl I q (congrArg not zqv))
  | _=>exact absurd (show false=true from hs) ZA6
 | _=>cases y<;>exact absurd (show false=true from hs) ZA6
theorem zij:OpR X (compareOp .Lt) (rI0 fun i j=>.bl (decide (i<j))):=zxk fun _ _ _ _ _ _ _ q=>lt_int q
theorem zeu:OpR X (compareOp .LtE) (rI0 fun i j=>.bl (decide (i<=j))):=zxk fun _ _ _ _ _ _ _ q=>le_int q
theorem zr2:OpR X (compareOp .Gt) (rI0 fun i j=>.bl (decide (j<i))):=zxk fun _ _ _ _ _ _ _ q=>gt_int q
theorem zuy:OpR X (compareOp .GtE) (rI0 fun i j=>.bl (decide (j<=i))):=zxk fun _ _ _ _ _ _ _ q=>ge_int q
theorem zga:OpR X (compareOp .Is) (fun x y H Q=>y=.non/\Q (.bl (decide (x=.non))) H):=by
 intro pins s σ H x y v u Q I rx ry h
 obtain ⟨rfl,q⟩:=h
 cases ry
 refine is_none_gen (zbl I q ?_)
 cases x<;>first
  | (cases rx;rfl)
  | (obtain ⟨t,rfl⟩:=rx;rfl)
theorem ze2:OpR X (compareOp .IsNot) (fun x y H Q=>y=.non/\Q (.bl (!decide (x=.non))) H):=by
 intro pins s σ H x y v u Q I rx ry h
 obtain ⟨rfl,q⟩:=h
 cases ry
 refine isnot_none_gen (zbl I q ?_)
 cases x<;>first
  | (cases rx;rfl)
  | (obtain ⟨t,rfl⟩:=rx;rfl)
theorem ztj (b:Expr) {op:CmpOp} (h:op≠.In:=by decide) (h2:op≠.NotIn:=by decide):behindInMarks op b=false:=by
 have e1:(op==CmpOp.In)=false:=by cases op<;>first | rfl | exact absurd rfl h
 have e2:(op==CmpOp.NotIn)=false:=by cases op<;>first | rfl | exact absurd rfl h2
 cases b<;>simp [behindInMarks,e1,e2]
theorem zpz {op:CmpOp} {r:R2} (ho:OpR X (compareOp op) r) (ha:PE X a ta) (hb:PE X b tb) (hm:behindInMarks op b=false):PE X (.Compare a [op] [b] pos) (tOp r ta tb):=by
 intro pins s σ H Q I h
 exact wpAny_Compare1 (zyz ha hb I h fun v u s2 x y H2 I2 rx ry q=>ho pins s2 σ H2 x y v u Q I2 rx ry q) hm
def zrl (t:TE):TT:=fun σ H Q=>t σ H fun x H'=>∃k,x=.bl k/\Q k H'
theorem zfw {op:CmpOp} {r:R2} (ho:OpR X (compareOp op) r) (ha:PE X a ta) (hb:PE X b tb) (hm:behindInMarks op b=false):PT X (.Compare a [op] [b] pos) (zrl (tOp r ta tb)):=by
 intro pins s σ H Q I h
 refine wpAny_isTrue_Compare1 (thn (ha pins s σ H _ I h) fun v s1 zz=>L2.el5 zz fun x H1 I1 r1 q1=>thn (hb pins s1 σ H1 _ I1 q1) fun u s2 zz=>L2.el5 zz fun y H2 I2 r2 q2=>
  thn (ho pins s2 σ H2 x y v u _ I2 r1 r2 q2) fun c s3 zz=>?_) hm
 obtain ⟨z,H3,I3,r3,k,e,q3⟩:=zz
 subst e
 cases r3
 exact wpAny_truthy_bool ⟨H3,I3,q3⟩
theorem zlw {X:Cx} {a b:Expr} {ta tb:TE} {pos:Pos} {op:CmpOp} {r:R2} (ho:OpR X (compareOp op) r) (ha:PE X a ta) (hb:PE X b tb) (h:op≠.In:=by decide) (h2:op≠.NotIn:=by decide):PE X (.Compare a [op] [b] pos) (tOp r ta tb):=zpz ho ha hb (ztj _ h h2)
theorem zcy {X:Cx} {a b:Expr} {ta tb:TE} {pos:Pos} {op:CmpOp} {r:R2} (ho:OpR X (compareOp op) r) (ha:PE X a ta) (hb:PE X b tb) (h:op≠.In:=by decide) (h2:op≠.NotIn:=by decide):PT X (.Compare a [op] [b] pos) (zrl (tOp r ta tb)):=zfw ho ha hb (ztj _ h h2)
def zsv (r r':R2) (ta tb tc:TE):TE:=fun σ H Q=>ta σ H fun x H1=>tb σ H1 fun y H2=>r x y H2 fun z H3=>∃k,z=.bl k/\
 (if k=true then tc σ H3 fun w' H4=>r' y w' H4 Q else Q (.bl false) H3)
theorem zjn {op op':CmpOp} {r r':R2} (ho:OpR X (compareOp op) r) (ho':OpR X (compareOp op') r') (ha:PE X a ta) (hb:PE X b tb) (hc:PE X c tc)
 (hm:lastMarks [op,op'] [b,c]=false:=by with_unfolding_all rfl):PE X (.Compare a [op,op'] [b,c] pos) (zsv r r' ta tb tc):=by
 intro pins s σ H Q I h
 refine Compare_chain (thn (ha pins s σ H _ I h) fun v s1 zz=>L2.el5 zz fun x H1 I1 r1 q1=>chain_link (thn (hb pins s1 σ H1 _ I1 q1) fun u s2 zz=>L2.el5 zz fun y H2 I2 r2 q2=>
  thn (ho pins s2 σ H2 x y v u _ I2 r1 r2 q2) fun d s3 zz=>?_)) hm
 obtain ⟨z,H3,I3,r3,k,e,q3⟩:=zz
 subst e
 cases r3
 refine wpAny_truthy_bool ?_
 cases k with
 | false=>exact ite_ff ⟨.bl false,H3,I3,rfl,q3⟩
 | true=>exact ite_tt (chain_last (thn (hc pins s3 σ H3 _ I3 q3) fun w' s4 zz=>L2.el5 zz fun z' H4 I4 r4 q4=>ho' pins s4 σ H4 y z' u w' Q I4 r2 r4 q4))
theorem zjk {op op':CmpOp} {r r':R2} (ho:OpR X (compareOp op) r) (ho':OpR X (compareOp op') r') (ha:PE X a ta) (hb:PE X b tb) (hc:PE X c tc)
 (hm:lastMarks [op,op'] [b,c]=false:=by with_unfolding_all rfl):PT X (.Compare a [op,op'] [b,c] pos) (zrl (zsv r r' ta tb tc)):=by
 intro pins s σ H Q I h
 refine isTrue_chain (thn (ha pins s σ H _ I h) fun v s1 zz=>L2.el5 zz fun x H1 I1 r1 q1=>test_link (thn (hb pins s1 σ H1 _ I1 q1) fun u s2 zz=>L2.el5 zz fun y H2 I2 r2 q2=>
  thn (ho pins s2 σ H2 x y v u _ I2 r1 r2 q2) fun d s3 zz=>?_)) hm
 obtain ⟨z,H3,I3,r3,k,e,q3⟩:=zz
 subst e
 cases r3
 refine wpAny_truthy_bool ?_
 cases k with
 | false=>
  obtain ⟨k',e',q'⟩:=q3
  cases e'
  exact ite_ff ⟨H3,I3,q'⟩
 | true=>
  refine ite_tt (test_last (thn (hc pins s3 σ H3 _ I3 q3) fun w' s4 zz=>L2.el5 zz fun z' H4 I4 r4 q4=>thn (ho' pins s4 σ H4 y z' u w' _ I4 r2 r4 q4) fun d' s5 zz=>?_))
  obtain ⟨z2,H5,I5,r5,k2,e2,q5⟩:=zz
  subst e2
  cases r5
  exact wpAny_truthy_bool ⟨H5,I5,q5⟩
theorem zm7:(sizeLine:Nat)<2 ^ 63:=by rw [sizeLine_eq];decide
theorem znr {x:V} {us:List Value} (r:zcc [x] us):∃u,us=[u]/\zcr x u:=by
 cases r with
 | cons r1 r2=>cases r2;exact ⟨_,rfl,r1⟩
theorem zvy {x y:V} {us:List Value} (r:zcc [x,y] us):∃u w',us=[u,w']/\zcr x u/\zcr y w':=by
 cases r with
 | cons r1 r2=>
  cases r2 with
  | cons r3 r4=>cases r4;exact ⟨_,_,rfl,r1,r3⟩
theorem zle (hc:X.calm=true):zik X (.builtin "max") (fun xs H Q=>∃i j,xs=[.int i,.int j]/\Q (.int (if j>i then j else i)) H):=by
 intro pins s σ H xs us Q I r h
 obtain ⟨i,j,rfl,q⟩:=h
 obtain ⟨u,w',rfl,⟨t,rfl⟩,⟨t',rfl⟩⟩:=zvy r
 refine max_two_ints (I.ok.hd hc) fun h' tk k=>⟨_,H,I.kept k,?_,q⟩
 by_cases hj:j>i
 ·rw [if_pos hj,if_pos hj];exact ⟨_,rfl⟩
 ·rw [if_neg hj,if_neg hj];exact ⟨_,rfl⟩
theorem ze7 (hc:X.calm=true):zik X (.builtin "min") (fun xs H Q=>∃i j,xs=[.int i,.int j]/\Q (.int (if j<i then j else i)) H):=by
 intro pins s σ H xs us Q I r h
 obtain ⟨i,j,rfl,q⟩:=h
 obtain ⟨u,w',rfl,⟨t,rfl⟩,⟨t',rfl⟩⟩:=zvy r
 refine min_two_ints (I.ok.hd hc) fun h' tk k=>⟨_,H,I.kept k,?_,q⟩
 by_cases hj:j<i
 ·rw [if_pos hj,if_pos hj];exact ⟨_,rfl⟩
 ·rw [if_neg hj,if_neg hj];exact ⟨_,rfl⟩
end
structure zvk (h:Heap) (x dx C:Addr) (mA:Str->Option Value):Prop where
 obj:h.get? x=some (PySem.W.instObj C dx)
 ns:h.Ns1 dx mA
 ne:dx≠x
theorem zqa {h:Heap} {dx:Addr} {mA:Str->Option Value} (n:h.Ns1 dx mA):∃od,h.get? dx=some od/\∀name,PySem.W.lookIn name od=some (mA name):=by
 obtain ⟨o,es,ep,ho,hd,hk,_,hm⟩:=n
 refine ⟨o,ho,fun name=>?_⟩
 have e:=hm name
 unfold nsFind findBy at e
 rw [<-Array.find?_toList] at e
 unfold PySem.W.lookIn
 rw [hd]
 dsimp only
 split
 ·rename_i y q
  rw [q] at e
  exact congrArg some e
 ·rename_i q
  rw [q] at e
  have a:es.toList.any (·.refKey)=false:=by
   rw [List.any_eq_false]
   intro y hy
   obtain ⟨z,t,hkey⟩:=hk y (Array.mem_toList_iff.mp hy)
   simp [DictEntry.refKey,hkey]
  have a':¬es.toList.any (·.refKey)=true:=by rw [a];exact ZA6
  rw [if_neg a']
  exact congrArg some e
theorem zvk.look {h:Heap} {x dx C:Addr} {mA:Str->Option Value} (I:zvk h x dx C mA):∃od,PySem.W.InstAt h x (PySem.W.instObj C dx) C (some od)/\∀name,PySem.W.lookIn name od=some (mA name):=
 let ⟨od,ho,hl⟩:=zqa I.ns
 ⟨od,⟨I.obj,rfl,rfl,ho⟩,hl⟩
section
variable {prog:Program} {w:World} {A:Around} {E:Value->Shared->Prop} {s:Shared} {K:ZCa} {x dx C f:Addr} {mA:Str->Option Value} {name:Str} {v:Value}
theorem zu8 {expr:Bool} {Q:Value->Shared->Prop} (X:K.In s.heap) (I:zvk s.heap x dx C mA) (hg:PySem.W.plainGet K C name=true) (hh:PySem.W.hasDictIn K C=true)
 (ha:PySem.W.findIn K (.ref C) name=some none) (hv:mA name=some v) (hv':PySem.W.handedIn v=true) (h:Q v { s with toks:=s.toks+1 }):
 wpAny (model prog w) A (getAttr (.ref x) name expr) Q E s:=by
 obtain ⟨od,J,hl⟩:=I.look
 exact PySem.W.get_value X J (PySem.W.plainGet_of hg).1 (PySem.W.findObj_own hh ha rfl (by rw [hl,hv])) hv' h
theorem zsg {pl:Sem Bool} {Q:Value×List Value->Shared->Prop} (X:K.In s.heap) (I:zvk s.heap x dx C mA) (hg:PySem.W.plainGet K C name=true)
 (hf:PySem.W.findIn K (.ref C) name=some (some (.ref f))) (ht:PySem.W.isFn K (.ref f)=true) (hv:mA name=none) (h:Q (.ref f,[.ref x]) s):
 wpAny (model prog w) A (getMethod (.ref x) name pl) Q E s:=by
 obtain ⟨od,J,hl⟩:=I.look
 exact PySem.W.method_fn X J (PySem.W.plainGet_of hg).1 (PySem.W.plainGet_of hg).2 hf (beq_iff_eq.mp ht) (by show (PySem.W.lookIn name od).map (·.isSome)=some false;rw [hl,hv];rfl) h
theorem zuf {ns:List Str} {Q:Unit->Shared->Prop} (X:K.In s.heap) (I:zvk s.heap x dx C mA)
 (hs:PySem.W.findIn K (.ref C) "__setattr__"=some (some (.builtin "object.__setattr__"))) (hp:PySem.W.plainOver K C=true) (ht:PySem.W.takerIn K C name=some none) (hh:PySem.W.hasDictIn K C=true)
 (hw:PySem.Within mA ns) (hsz:ns.length<=sizeLine)
 (h:∀h',zvk h' x dx C (fun y=>if y=name then some v else mA y)->Heap.SameBut dx s.heap h'->Q () { s with heap:=h',toks:=s.toks+2 }):
 wpAny (model prog w) A (setAttr (.ref x) name v) Q E s:=by
 obtain ⟨od,J,hl⟩:=I.look
 refine PySem.W.set_plain X J hs (PySem.W.osa_open (s:={ s with toks:=s.toks+1 }) (r:=none) X J hp ht fun b=>?_)
 obtain ⟨cd,hc,hd'⟩:=PySem.W.any_some hh
 have hx:s.heap.get? x=some ⟨.ref C,some dx,.plain,#[]⟩:=I.obj
 refine ZAp (ZAq (ZAp (ZAp (wpAny_loadPart hx (ZAp (PySem.W.Looks.here (s:={ s with toks:=s.toks+1 }) (PySem.W.looks_clsIn X hc) ?_))))))
 rw [hd']
 refine ZAq (a:=some dx) (ZAp (ZAq (ZAp ?_)))
 refine wpAny_nsSet1 (s:={ s with toks:=s.toks+1 }) I.ns fun h' hn2 hs2=>?_
 obtain ⟨oD,esD,epD,hoD,hdD,hcD⟩:=hn2.count (PySem.Within.cons name v hw)
 refine ZAp (wpAny_lookBehind hoD (by rw [hdD];exact pastItsLine_dict (ZBg hcD (by rw [ZBp];lia))) ?_)
 exact ZAq (h _ ⟨(hs2.2 _ (ZAl I.ne)).trans I.obj,hn2,I.ne⟩ hs2)
theorem zr7 {R:Result->Shared->Prop} {vs:List Value} {kw:List (Str×Value)} (X:K.In s.heap) (hm:PySem.W.makesIn K C=true)
 (hi:PySem.W.findIn K (.ref C) "__init__"=some (some (.ref f))) (hf:PySem.W.typeIn K (.ref f)=some (.type "function"))
 (h:codeAny (model prog w) (A.under (.builtin "type.__call__" ⟨.ref C::vs,kw⟩)) (.call (.ref f) ⟨.ref (s.heap.objs.size+1)::vs,kw⟩) (PySem.W.InitBack (s.heap.objs.size+1) R)
  { s with heap:=(s.heap.push PySem.W.emptyDict).push (PySem.W.instObj C s.heap.objs.size) }):
 codeAny (model prog w) A (.call (.ref C) ⟨vs,kw⟩) R s:=by
 obtain ⟨hh,g,d,t,os⟩:=s
 exact PySem.W.make_core (PySem.W.makes_of X hm) (PySem.W.looks_findIn X hi) (fun self=>PySem.W.bind_fn X self hf) (.inl rfl) h
end
def zav (f:Str) (v:V):List (Str×V)->List (Str×V)
 | []=>[(f,v)]
 | (g,x)::r=>if g=f then (g,v)::r else (g,x)::zav f v r
theorem za0 (f g:Str) (v:V):∀fs:List (Str×V),(zav f v fs).lookup g=if g=f then some v else fs.lookup g
 | []=>by
  show List.lookup g [(f,v)]=_
  by_cases h:g=f
  ·have hb:(g==f)=true:=beq_iff_eq.mpr h
   simp only [List.lookup,hb,if_pos h]
  ·have hb:(g==f)=false:=beq_eq_false_iff_ne.mpr h
   simp only [List.lookup,hb,if_neg h]
 | (k,x)::r=>by
  have ih:=za0 f g v r
  rw [show zav f v ((k,x)::r)=(if k=f then (k,v)::r else (k,x)::zav f v r) from rfl]
  by_cases hk:k=f
  ·rw [if_pos hk]
   by_cases h:g=k
   ·have hb:(g==k)=true:=beq_iff_eq.mpr h
    simp only [List.lookup,hb,if_pos (h.trans hk)]
   ·have hb:(g==k)=false:=beq_eq_false_iff_ne.mpr h
    simp only [List.lookup,hb,if_neg (fun e:g=f=>h (e.trans hk.symm))]
  ·rw [if_neg hk]
   by_cases h:g=k
   ·have hb:(g==k)=true:=beq_iff_eq.mpr h
    simp only [List.lookup,hb,if_neg (fun e:g=f=>hk (h.symm.trans e))]
   ·have hb:(g==k)=false:=beq_eq_false_iff_ne.mpr h
    simp only [List.lookup,hb]
    exact ih
theorem zh6 (f:Str) (v:V):∀fs:List (Str×V),f∈(zav f v fs).map (·.1)/\∀g,g∈fs.map (·.1)->g∈(zav f v fs).map (·.1)
 | []=>⟨by simp [zav],fun g h=>by simp at h⟩
 | (k,x)::r=>by
  obtain ⟨i1,i2⟩:=zh6 f v r
  rw [show zav f v ((k,x)::r)=(if k=f then (k,v)::r else (k,x)::zav f v r) from rfl]
  by_cases hk:k=f
  ·rw [if_pos hk]
   subst hk
   exact ⟨by simp,fun g h=>by simpa using h⟩
  ·rw [if_neg hk]
   refine ⟨?_,fun g h=>?_⟩
   ·rw [ZBf]
    exact ZA4 _ i1
   ·rw [ZBf] at h ⊢
    rcases ZBe.mp h with e | e
    ·exact ZBe.mpr (.inl e)
    ·exact ZA4 _ (i2 g e)
theorem zh4 (f:Str) (v:V):∀fs:List (Str×V),(zav f v fs).length<=fs.length+1
 | []=>by simp [zav]
 | (k,x)::r=>by
  have ih:=zh4 f v r
  rw [show zav f v ((k,x)::r)=(if k=f then (k,v)::r else (k,x)::zav f v r) from rfl]
  by_cases hk:k=f
  ·rw [if_pos hk,ZBp,ZBp];lia
  ·rw [if_neg hk,ZBp,ZBp];lia
theorem zlq.some_of {v:V} {o:Option Value} (r:zlq (some v) o):∃u,o=some u/\zcr v u:=by
 cases o with
 | none=>exact (show False from r).elim
 | some u=>exact ⟨u,rfl,r⟩
theorem zlq.none_of {o:Option Value} (r:zlq none o):o=none:=by
 cases o with
 | none=>rfl
 | some u=>exact (show False from r).elim
theorem zqk {v:V} {u:Value} (r:zcr v u):PySem.W.handedIn u=true:=by
 cases v with
 | non=>cases (show u=Value.none from r);rfl
 | bl b=>cases (show u=Value.bool b from r);rfl
 | int i=>obtain ⟨t,e⟩:=(show ∃t,u=Value.int i t from r);cases e;rfl
 | str x=>obtain ⟨t,e⟩:=(show ∃t,u=Value.str x t from r);cases e;rfl
 | byt b=>obtain ⟨t,e⟩:=(show ∃t,u=Value.bytes b t from r);cases e;rfl
 | flt b=>obtain ⟨t,e⟩:=(show ∃t,u=Value.float b t from r);cases e;rfl
 | ref a=>cases (show u=Value.ref a from r);rfl
 | ty n=>cases (show u=Value.type n from r);rfl
section
variable {P:Program} {w:World} {H H':Hp} {h h':Heap} {a C dx:Addr} {fs fs':List (Str×V)}
theorem zl2 (hok:HOk P w H h) (e:H a=some (.ins C dx fs)):∃mA,zvk h a dx C mA/\(∀f,zlq (fs.lookup f) (mA f))/\PySem.Within mA (fs.map (·.1))/\fs.length<=1000/\H dx=some (.own a):=by
 obtain ⟨d,z,ne,ob,mA,n,r,q⟩:=(show zcl P w H h a (.ins C dx fs) from hok a _ e)
 exact ⟨mA,⟨ob,n,ne⟩,r,q,z,d⟩
end
structure Cls (K:ZCa) (C:Addr):Prop where
 pg:PySem.W.plainGet K C Str.empty=true
 hd:PySem.W.hasDictIn K C=true
 po:PySem.W.plainOver K C=true
 sa:PySem.W.findIn K (.ref C) "__setattr__"=some (some (.builtin "object.__setattr__"))
theorem Cls.get {K:ZCa} {C:Addr} (c:Cls K C) (f:Str):PySem.W.plainGet K C f=true:=c.pg
def zco (K:ZCa) (C:Addr) (f:Str):Prop:=PySem.W.findIn K (.ref C) f=some none
theorem zco.taker {K:ZCa} {C:Addr} {f:Str} (n:zco K C f):PySem.W.takerIn K C f=some none:=by
 unfold PySem.W.takerIn
 rw [show PySem.W.findIn K (.ref C) f=some none from n]
 rfl
structure zf4 (K:ZCa) (C:Addr) (m:Str) (f:Addr):Prop where
 at_:PySem.W.findIn K (.ref C) m=some (some (.ref f))
 fn:PySem.W.isFn K (.ref f)=true
 kp:PySem.W.keepIn K (.ref f)=true
section
variable {X:Cx} {pins:List (Addr×Obj)} {σ:St} {H:Hp} {s:Shared} {a C dx:Addr} {fs:List (Str×V)} {f:Str} {v:V} {A:Around} {E:Value->Shared->Prop}
theorem zi2 {b:Bool} {Q:Value->Shared->Prop} (I:Inv X pins σ H s) (e:H a=some (.ins C dx fs)) (c:Cls X.K C) (n:zco X.K C f) (l:fs.lookup f=some v)
 (h:∀u s',Inv X pins σ H s'->zcr v u->Q u s'):wpAny (model X.prog X.w) A (getAttr (.ref a) f b) Q E s:=by
 obtain ⟨mA,O,r,_,_,_⟩:=zl2 I.hok e
 obtain ⟨u,hu,ru⟩:=zlq.some_of (v:=v) (o:=mA f) (by rw [<-l];exact r f)
 exact zu8 I.kIn O (c.get f) c.hd n hu (zqk ru) (h u _ (I.tok _) ru)
theorem zi1 {m:Str} {g:Addr} {pl:Sem Bool} {Q:Value×List Value->Shared->Prop} (I:Inv X pins σ H s) (e:H a=some (.ins C dx fs)) (c:Cls X.K C) (k:zf4 X.K C m g) (l:fs.lookup m=none)
 (h:Q (.ref g,[.ref a]) s):wpAny (model X.prog X.w) A (getMethod (.ref a) m pl) Q E s:=by
 obtain ⟨mA,O,r,_,_,_⟩:=zl2 I.hok e
 have hn:mA m=none:=zlq.none_of (by rw [<-l];exact r m)
 exact zsg I.kIn O (c.get m) k.at_ k.fn hn h
theorem ziv {y:V} {u:Value} {Q:Unit->Shared->Prop} (I:Inv X pins σ H s) (e:H a=some (.ins C dx fs)) (c:Cls X.K C) (n:zco X.K C f) (hl:fs.length<1000) (ry:zcr y u)
 (h:∀s',Inv X pins σ (upd H a (.ins C dx (zav f y fs))) s'->Q () s'):wpAny (model X.prog X.w) A (setAttr (.ref a) f u) Q E s:=by
 obtain ⟨mA,O,r,wi,_,ho⟩:=zl2 I.hok e
 have hz:(fs.map (·.1)).length<=sizeLine:=by rw [ZAu,sizeLine_eq];lia
 refine zuf I.kIn O c.sa c.po n.taker c.hd wi hz fun h' O' sb=>h _ ?_
 have hd:∃o,h'.get? dx=some o:=let ⟨o,_,_,e',_⟩:=O'.ns;⟨o,e'⟩
 refine I.write (x:=a) (e:=dx) (by rw [e];exact True.intro) (.inr ho) (fun b q hb z=>(sb.2 b hb).trans z) hd ?_
 refine ⟨by rw [zaf O.ne];exact ho,?_,O.ne,O'.obj,_,O'.ns,fun g=>?_,fun g hg=>?_⟩
 ·have:=zh4 f y fs;lia
 ·show zlq ((zav f y fs).lookup g) (if g=f then some u else mA g)
  rw [za0]
  by_cases q:g=f
  ·rw [if_pos q,if_pos q];exact ry
  ·rw [if_neg q,if_neg q];exact r g
 ·by_cases q:g=f
  ·rw [q];exact (zh6 f y fs).1
  ·refine (zh6 f y fs).2 g (wi g fun z=>hg ?_)
   show (if g=f then some u else mA g)=none
   rw [if_neg q];exact z
theorem Inv.made (I:Inv X pins σ H s):Inv X pins σ (upd (upd H s.heap.objs.size (.own (s.heap.objs.size+1))) (s.heap.objs.size+1) (.ins C s.heap.objs.size []))
 { s with heap:=(s.heap.push PySem.W.emptyDict).push (PySem.W.instObj C s.heap.objs.size) }:=by
 have e1:(s.heap.push PySem.W.emptyDict).get? s.heap.objs.size=some PySem.W.emptyDict:=ZBh s.heap rfl
 have e2:((s.heap.push PySem.W.emptyDict).push (PySem.W.instObj C s.heap.objs.size)).get? (s.heap.objs.size+1)=some (PySem.W.instObj C s.heap.objs.size):=by
  have:=ZBh (s.heap.push PySem.W.emptyDict) (o:=PySem.W.instObj C s.heap.objs.size) rfl
  rwa [Heap.size_push] at this
 have e3:(s.heap.push PySem.W.emptyDict).Ns s.heap.objs.size (fun _=>none):=⟨PySem.W.emptyDict,#[],_,e1,rfl,(fun e he=>absurd he (by simp)),fun _=>rfl⟩
 have I1:=I.laid (a:=s.heap.objs.size) (o:=.own (s.heap.objs.size+1)) (h':=s.heap.push PySem.W.emptyDict) (t':=s.toks) (fun b u q=>ZAy _ q) (ZAw _) ⟨_,e1⟩
 refine I1.laid (a:=s.heap.objs.size+1) (o:=.ins C s.heap.objs.size []) (t':=s.toks) (fun b u q=>ZAy _ q) (Nat.le_of_eq (Heap.size_push _ _)) ?_
 have ne:s.heap.objs.size≠s.heap.objs.size+1:=ZBj (Nat.lt_succ_self _)
 refine ⟨by rw [zaf ne,zab],ZBa _,ne,e2,fun _=>none,(Heap.Ns1.of_empty e3).at fun o q=>ZAy _ q,fun _=>True.intro,fun y hy=>absurd rfl hy⟩
theorem zvd {prog:Program} {w:World} {env:Env} {e:Expr} {f:Str} {pos:Pos} {s:Shared} {Q:Value->Shared->Prop} (hb:attributeBase e f env (eval e env)=eval e env)
 (h:wpAny (model prog w) A (eval e env) (fun o s₁=>wpAny (model prog w) A (getAttr o f true) Q E s₁) E s):wpAny (model prog w) A (eval (.Attribute e f pos) env) Q E s:=
 Attribute_any_ h (by rw [arm_eval_Attribute,hb])
end
def zy9 (K:ZCa) (ta:TE) (f:Str):TE:=fun σ H Q=>ta σ H fun x H1=>∃a C dx fs v,x=.ref a/\H1 a=some (.ins C dx fs)/\Cls K C/\zco K C f/\fs.lookup f=some v/\Q v H1
def zAf (K:ZCa) (ta tv:TE) (f:Str):TS:=fun D σ H=>tv σ H fun y H1=>ta σ H1 fun x H2=>∃a C dx fs,x=.ref a/\H2 a=some (.ins C dx fs)/\Cls K C/\zco K C f/\fs.length<1000/\
 D.nx σ (upd H2 a (.ins C dx (zav f y fs)))
def zzq (X:Cx) (op:Operator) (rd:V->V->Hp->VK->Prop):Prop:=
 ∀(pins:List (Addr×Obj)) (s:Shared) (σ:St) (H:Hp) (x y:V) (u v:Value) (Q:VK),Inv X pins σ H s->zcr x u->zcr y v->rd x y H Q->wpAny (model X.prog X.w) X.A (inplaceOp op u v) (EP X pins σ Q) X.xe s
def zuh (K:ZCa) (ta tv:TE) (rd:V->V->Hp->VK->Prop) (f:Str):TS:=fun D σ H=>ta σ H fun x H1=>∃a C dx fs v,x=.ref a/\H1 a=some (.ins C dx fs)/\Cls K C/\zco K C f/\fs.lookup f=some v/\
 tv σ H1 fun y H2=>rd v y H2 fun z H3=>∃dx' fs',H3 a=some (.ins C dx' fs')/\fs'.length<1000/\D.nx σ (upd H3 a (.ins C dx' (zav f z fs')))
section
variable {X:Cx} {o e value:Expr} {f:Str} {pos pos' tpos:Pos} {ta tv:TE}
theorem zat (he:PE X e ta) (hb:attributeBase e f X.env (eval e X.env)=eval e X.env):PE X (.Attribute e f pos) (zy9 X.K ta f):=by
 intro pins s σ H Q I h
 refine zvd hb (thn (he pins s σ H _ I h) fun u s1 zz=>?_)
 obtain ⟨x,H1,I1,rx,a,C,dx,fs,v,ex,ea,c,n,l,q⟩:=zz
 subst ex
 obtain rfl:u=Value.ref a:=rx
 exact zi2 I1 ea c n l fun u' s2 I2 ru=>⟨v,H1,I2,ru,q⟩
theorem zdm (ha:PE X o ta) (hv:PE X value tv) (hs:swapsWith value (some (.Attribute o f pos')) pos.line X.env=pure false):PS X (.Assign [.Attribute o f pos'] value pos) (zAf X.K ta tv f):=by
 intro pins s σ H D I h
 refine plainObj_wpAny_Assign_Attribute (thn (hv pins s σ H _ I h) fun u s1 zz=>L2.el5 zz fun y H1 I1 ry q=>thn (ha pins s1 σ H1 _ I1 q) fun ov s2 zz=>?_) hs
 obtain ⟨x,H2,I2,rx,a,C,dx,fs,ex,ea,c,n,l,q2⟩:=zz
 subst ex
 obtain rfl:ov=Value.ref a:=rx
 exact ziv I2 ea c n l ry fun s3 I3=>⟨σ,_,I3,q2⟩
theorem zpq {op:Operator} {rd:V->V->Hp->VK->Prop} (ha:PE X o ta) (hv:PE X value tv) (hop:zzq X op rd):PS X (.AugAssign (.Attribute o f tpos) op value pos) (zuh X.K ta tv rd f):=by
 intro pins s σ H D I h
 refine wpAny_AugAssign_AttributeAny (thn (ha pins s σ H _ I h) fun ov s1 zz=>?_)
 obtain ⟨x,H1,I1,rx,a,C,dx,fs,v,ex,ea,c,n,l,q⟩:=zz
 subst ex
 obtain rfl:ov=Value.ref a:=rx
 refine zi2 I1 ea c n l fun u s2 I2 ru=>thn (hv pins s2 σ H1 _ I2 q) fun w3 s3 zz=>L2.el5 zz fun y H2 I3 ry q3=>thn (hop pins s3 σ H2 v y u w3 _ I3 ru ry q3) fun w4 s4 zz=>?_
 obtain ⟨z,H3,I4,rz,dx',fs',ea',l',q4⟩:=zz
 exact ziv I4 ea' c n l' rz fun s5 I5=>⟨σ,_,I5,q4⟩
def zAm:V->V->Hp->VK->Prop:=fun x y H Q=>∃i j,x=.int i/\y=.int j/\Q (.int (i+j)) H
theorem zwx:zzq X .Add zAm:=by
 rintro pins s σ H x y u v Q I rx ry ⟨i,j,rfl,rfl,q⟩
 obtain ⟨t,rfl⟩:=(show ∃t,u=Value.int i t from rx)
 obtain ⟨t',rfl⟩:=(show ∃t',v=Value.int j t' from ry)
 exact PyProof.Rows.iadd_int ⟨.int (i+j),H,I.tok _,⟨_,rfl⟩,q⟩
end
section
variable {X:Cx} {pins:List (Addr×Obj)} {σ:St} {H:Hp} {s:Shared} {A:Around} {E:Value->Shared->Prop} {Q:Value->Shared->Prop} {c:Value} {b:Bool}
end
structure zd2 (k:Nat) (A:Around):Prop where
 hd:A.handled=none
 dp:A.depth+3*k+5<recursionLimit
 un:A.units+16*k+200<cLine
theorem zd2.mono {j k:Nat} {A:Around} (r:zd2 k A) (h:j<=k):zd2 j A:=⟨r.hd,by have:=r.dp;lia,by have:=r.un;lia⟩
theorem zd2.deeper {k:Nat} {A:Around} (r:zd2 (k+1) A) (env:Env):zd2 k (A.deeper env):=
 ⟨r.hd,by have:=r.dp;show A.depth+1+3*k+5<_;lia,by have:=r.un;show A.units+3+16*k+200<_;lia⟩
theorem zn5 {A:Around} {C:Addr} {us:List Value} {kw:List (Str×Value)}:(A.under (.builtin "type.__call__" ⟨.ref C::us,kw⟩)).depth=A.depth+1:=by
 first | rfl | simp [Around.under,Code.weight,Code.isCreation,Code.isGuard,Code.isCaller,Code.frames,Code.isFrame,guardIds]
theorem zn4 {A:Around} {C:Addr} {us:List Value} {kw:List (Str×Value)}:(A.under (.builtin "type.__call__" ⟨.ref C::us,kw⟩)).units=A.units+1:=by
 first | rfl | simp [Around.under,Code.cUnits,Code.frames,Code.isFrame]
theorem zd2.make {k:Nat} {A:Around} (r:zd2 (k+1) A) (C:Addr) (us:List Value) (kw:List (Str×Value)):zd2 k (A.under (.builtin "type.__call__" ⟨.ref C::us,kw⟩)):=
 ⟨r.hd,by have:=r.dp;rw [zn5];lia,by have:=r.un;rw [zn4];lia⟩
theorem zd2.depth {k:Nat} {A:Around} (r:zd2 k A):A.depth<recursionLimit:=by have:=r.dp;lia
theorem zd2.units {k:Nat} {A:Around} (r:zd2 k A):A.units+64<cLine:=by have:=r.un;lia
def zrb:TA:=fun _ H Q=>Q [] H
def zex (ta:TE) (tr:TA):TA:=fun σ H Q=>ta σ H fun x H1=>tr σ H1 fun xs H2=>Q (x::xs) H2
section
variable {X:Cx} {e:Expr} {es:List Expr} {te:TE} {t:TA} {pos:Pos}
theorem zfs:PA X [] zrb:=fun _ _ _ _ H Q I h=>Calls.spliced_nil ⟨[],H,I,.nil,h⟩
theorem ze1 (ha:PE X e te) (hr:PA X es t) (hs:starEach (e::es) X.env=(false,eval e X.env)::starEach es X.env:=by rfl):PA X (e::es) (zex te t):=by
 intro pos pins s σ H Q I h
 rw [hs]
 show wpAny _ _ (spliced ((false,eval e X.env)::backTo pos (starEach es X.env))) _ _ s
 refine Calls.spliced_cons (thn (ha pins s σ H _ I h) fun u s1 zz=>?_)
 obtain ⟨x,H1,I1,r1,q1⟩:=zz
 exact thn (hr pos pins s1 σ H1 _ I1 q1) fun us s2 zz=>L2.el5 zz fun xs H2 I2 r2 q2=>⟨x::xs,H2,I2,.cons r1 r2,q2⟩
theorem szl {n:Nat} (h:Nat.ble n sizeLine=true):n<=sizeLine:=Nat.le_of_ble_eq_true h
theorem za9 {X:Cx} {x:Str} {e:Expr} {te:TE} {pos pos':Pos} (i:Nat) (hN:X.N.Nodup) (he:PE X e te) (hi:X.N[i]?=some x:=by rfl) (hx:Loc X.env.scope x:=by exact Or.inl rfl) (hs:swapsWith e (some (.Name x pos')) pos.line X.env=pure false:=by rfl) (hf:X.fn x=true\/X.env.scope.names.lookup x=some .local:=by first | exact .inl rfl | exact .inr rfl | assumption):PS X (.Assign [.Name x pos'] e pos) (zv5 te (zl3 i)):=zem (i:=i) hN hi hx he hs hf
theorem zci {X:Cx} {x:Str} {pos:Pos} (i:Nat) (hN:X.N.Nodup) (hi:X.N[i]?=some x:=by rfl) (hx:Loc X.env.scope x:=by exact Or.inl rfl) (hf:X.fn x=true\/X.env.scope.names.lookup x=some .local:=by first | exact .inl rfl | exact .inr rfl | assumption):PG X (.Name x pos) (zl3 i):=zpw (i:=i) hN hi hx hf
theorem pa1 {X:Cx} {a:Expr} {ta:TE} (ha:PE X a ta) (hs:starEach [a] X.env=(false,eval a X.env)::starEach [] X.env:=by rfl):PA X [a] (zex ta zrb):=ze1 ha zfs hs
theorem pa2 {X:Cx} {a b:Expr} {ta tb:TE} (ha:PE X a ta) (hb:PE X b tb) (hs:starEach [a,b] X.env=(false,eval a X.env)::starEach [b] X.env:=by rfl) (hs2:starEach [b] X.env=(false,eval b X.env)::starEach [] X.env:=by rfl):PA X [a,b] (zex ta (zex tb zrb)):=ze1 ha (pa1 hb hs2) hs
theorem pa3 {X:Cx} {a b c:Expr} {ta tb tc:TE} (ha:PE X a ta) (hb:PE X b tb) (hc:PE X c tc) (hs:starEach [a,b,c] X.env=(false,eval a X.env)::starEach [b,c] X.env:=by rfl) (hs2:starEach [b,c] X.env=(false,eval b X.env)::starEach [c] X.env:=by rfl) (hs3:starEach [c] X.env=(false,eval c X.env)::starEach [] X.env:=by rfl):PA X [a,b,c] (zex ta (zex tb (zex tc zrb))):=ze1 ha (pa2 hb hc hs2 hs3) hs
theorem pa4 {X:Cx} {a b c d:Expr} {ta tb tc td:TE} (ha:PE X a ta) (hb:PE X b tb) (hc:PE X c tc) (hd:PE X d td) (hs:starEach [a,b,c,d] X.env=(false,eval a X.env)::starEach [b,c,d] X.env:=by rfl) (hs2:starEach [b,c,d] X.env=(false,eval b X.env)::starEach [c,d] X.env:=by rfl) (hs3:starEach [c,d] X.env=(false,eval c X.env)::starEach [d] X.env:=by rfl) (hs4:starEach [d] X.env=(false,eval d X.env)::starEach [] X.env:=by rfl):PA X [a,b,c,d] (zex ta (zex tb (zex tc (zex td zrb)))):=ze1 ha (pa3 hb hc hd hs2 hs3 hs4) hs
def zxm (t:TA):TE:=fun σ H Q=>t σ H fun xs H1=>xs.length<=sizeLine/\∀p,H1 p=none->Q (.ref p) (upd H1 p (.tup xs))
def zzv (t:TA):TE:=fun σ H Q=>t σ H fun xs H1=>xs.length<=sizeLine/\∀p,H1 p=none->Q (.ref p) (upd H1 p (.lst xs))
theorem zbf {x1} (h:PA X es t):PE X (.Tuple es x1 pos) (zxm t):=by
 intro pins s σ H Q I hq
 refine wpAny_Tuple_spliced (thn (h pos pins s σ H _ I hq) fun us s1 zz=>?_)
 obtain ⟨xs,H1,I1,r,z,q⟩:=zz
 refine ⟨by rw [<-r.length];exact z,?_⟩
 have hf:H1 s1.heap.objs.size=none:=I1.hok.fresh (ZAw _)
 refine ⟨.ref s1.heap.objs.size,upd H1 s1.heap.objs.size (.tup xs),I1.laid (t':=s1.toks) (fun b u e=>ZAy _ e) (ZAw _) ?_,rfl,q _ hf⟩
 exact ⟨z,us,r,⟨_,ZBh _ rfl,rfl,_,rfl⟩⟩
theorem zen (h:PA X es t):PE X (.List es pos) (zzv t):=by
 intro pins s σ H Q I hq
 refine wpAny_List_spliced (thn (h pos pins s σ H _ I hq) fun us s1 zz=>?_)
 obtain ⟨xs,H1,I1,r,z,q⟩:=zz
 refine ⟨by rw [<-r.length];exact z,?_⟩
 have hf:H1 s1.heap.objs.size=none:=I1.hok.fresh (ZAw _)
 refine ⟨.ref s1.heap.objs.size,upd H1 s1.heap.objs.size (.lst xs),I1.laid (t':=s1.toks) (fun b u e=>ZAy _ e) (ZAw _) ?_,rfl,q _ hf⟩
 exact ⟨z,us,0,r,ZBh _ rfl⟩
end
abbrev Sp:=List V->Hp->VK->XK->Prop
abbrev CXT:=List Env->Hp->Shared->XK->Value->Shared->Prop
structure zvm (P:Program) (w:World) (K:ZCa) (mg:Str->Option Value) (base:Heap) (A:Around) (outer:List Env) (s:Shared) (H:Hp):Prop where
 frames:A.frames=some outer
 mod:Mod K mg base
 bs:∀b o,base.get? b=some o->s.heap.get? b=some o/\H b=none
 bsz:base.objs.size<=s.heap.objs.size
 funs:s.heap.FunFrames base outer
 frf:∀b∈frs outer,H b=none
 hok:HOk P w H s.heap
 bare:AllBare s.gens
def CE (outer:List Env) (P:Program) (w:World) (H:Hp) (s:Shared) (Q:VK) (u:Value) (s':Shared):Prop:=
 ∃v H',s'.os=s.os/\AllBare s'.gens/\Un (frs outer) [] H H' s.heap s'.heap/\HOk P w H' s'.heap/\zcr v u/\Q v H'
def CR (CX:CXT) (outer:List Env) (P:Program) (w:World) (H:Hp) (s:Shared) (Q:VK) (E:XK) (r:Result) (s':Shared):Prop:=
 match r with
 | .ok (.ret u)=>CE outer P w H s Q u s'
 | .ok _=>False
 | .error e=>CX outer H s E e s'
structure za3 (P:Program) (w:World) (K:ZCa) (mg:Str->Option Value) (base:Heap) (CX:CXT) (k:Nat) (f:Addr) (fd:FuncData) (ps:List Str) (sp:Sp):Prop where
 len:∀vs H Q E,sp vs H Q E->vs.length=ps.length
 run:∀(A:Around) (outer:List Env) (s:Shared) (H:Hp) (args:Args) (us:List Value) (vs:List V) (Q:VK) (E:XK),zd2 k A->zvm P w K mg base A outer s H->BindsTo s fd args (ps.zip us)->zcc vs us->sp vs H Q E->
  codeAny (model P w) A (.call (.ref f) args) (CR CX outer P w H s Q E) s
theorem zvm.make {P:Program} {w:World} {K:ZCa} {mg:Str->Option Value} {base:Heap} {A:Around} {outer:List Env} {s:Shared} {H:Hp} (e:zvm P w K mg base A outer s H) (C:Addr) (us:List Value) (kw:List (Str×Value)):
 zvm P w K mg base (A.under (.builtin "type.__call__" ⟨.ref C::us,kw⟩)) outer s H:=⟨by first | exact e.frames | (simpa [Around.under,Code.envs,Code.isFrame,pushEnvs] using e.frames),e.mod,e.bs,e.bsz,e.funs,e.frf,e.hok,e.bare⟩
section
variable {X:Cx} {pins:List (Addr×Obj)} {σ:St} {H:Hp} {s s':Shared}
theorem Inv.env0 (I:Inv X pins σ H s):zvm X.prog X.w X.K X.mg X.base X.A X.stack s H:=
 ⟨I.ok.frames,I.ok.mod,I.bs,ZBg I.ok.bsz I.sz,I.stack,I.stkFree,I.hok,I.bare⟩
theorem Inv.after {Q:VK} {u:Value} (I:Inv X pins σ H s) (h:CE X.stack X.prog X.w H s Q u s'):EP X pins σ Q u s':=by
 obtain ⟨v,H',os,bare,un,hok,r,q⟩:=h
 obtain ⟨hh,g,d,t,os'⟩:=s'
 obtain rfl:os'=s.os:=os
 exact ⟨v,H',I.call (h':=hh) (g':=g) (d':=d) (t':=t) (ch:=[]) un hok bare (fun b z=>absurd z (by simp)),r,q⟩
end
def zv4 (sp:Sp) (dvs:List V) (E:XK) (t:TA):TE:=fun σ H Q=>t σ H fun vs H1=>sp (vs++dvs) H1 Q E
def zt6 (C:Addr) (m:Str) (sp:Sp) (dvs:List V) (E:XK) (ta:TE) (t:TA):TE:=fun σ H Q=>ta σ H fun x H1=>∃a dx fs,x=.ref a/\H1 a=some (.ins C dx fs)/\fs.lookup m=none/\
 t σ H1 fun vs H2=>sp (x::(vs++dvs)) H2 Q E
def zxr (C:Addr) (sp:Sp) (dvs:List V) (E:XK) (t:TA):TE:=fun σ H Q=>t σ H fun vs H1=>∀x dx,H1 x=none->H1 dx=none->dx≠x->
 sp (.ref x::(vs++dvs)) (upd (upd H1 dx (.own x)) x (.ins C dx [])) (fun v H2=>v=.non/\Q (.ref x) H2) E
def zb5 (K:ZCa) (fd:FuncData) (ps:List Str) (ds:List Value):Prop:=
 ∀(s:Shared) (us:List Value),K.In s.heap->(us++ds).length=ps.length->BindsTo s fd ⟨us,[]⟩ (ps.zip (us++ds))
theorem zb5.all {K:ZCa} {fd:FuncData} {ps:List Str} (h:∀us:List Value,us.length=ps.length->bindArgs fd ⟨us,[]⟩=pure (ps.zip us)):zb5 K fd ps []:=fun s us _ hl=>by
 rw [List.append_nil] at hl ⊢
 exact .of_eq (h us hl)
def zig (CX:CXT) (X:Cx) (E:XK):Prop:=∀(pins:List (Addr×Obj)) (σ:St) (H:Hp) (s:Shared) (e:Value) (s':Shared),Inv X pins σ H s->CX X.stack H s E e s'->X.xe e s'
section
variable {X:Cx} {CX:CXT} {k:Nat} {f C:Addr} {fd:FuncData} {ps:List Str} {sp:Sp} {dvs:List V} {ds:List Value} {E:XK} {x m:Str} {p pos apos:Pos} {e o:Expr} {es:List Expr} {ta:TE} {t:TA}
theorem zpm {pins:List (Addr×Obj)} {σ:St} {H:Hp} {s:Shared} {Q:VK} {us:List Value} {vs:List V} (F:za3 X.prog X.w X.K X.mg X.base CX k f fd ps sp) (hr:zd2 k X.A) (hb:zb5 X.K fd ps ds) (hd:zcc dvs ds) (hx:zig CX X E)
 (I:Inv X pins σ H s) (r:zcc vs us) (h:sp (vs++dvs) H Q E):wpAny (model X.prog X.w) X.A (call (.ref f) us) (EP X pins σ Q) X.xe s:=by
 have r2:zcc (vs++dvs) (us++ds):=r.append hd
 have hl:(us++ds).length=ps.length:=by rw [<-r2.length];exact F.len _ _ _ _ h
 refine wpAny_call (codeAny_mono (F.run X.A X.stack s H ⟨us,[]⟩ (us++ds) (vs++dvs) Q E hr I.env0 (hb s us I.kIn hl) r2 h) fun r s' hq=>?_)
 cases r with
 | error e=>exact hx pins σ H s e s' I hq
 | ok fl=>
  cases fl with
  | ret u=>exact I.after hq
  | next=>exact False.elim hq
  | brk=>exact False.elim hq
  | cont=>exact False.elim hq
theorem zus (F:za3 X.prog X.w X.K X.mg X.base CX k f fd ps sp) (hr:zd2 k X.A) (hg:Gl X x) (hm:X.mg x=some (.ref f)) (hk:PySem.W.keepIn X.K (.ref f)=true) (hb:zb5 X.K fd ps ds) (hd:zcc dvs ds) (hx:zig CX X E)
 (ha:PA X (e::es) t) (hdb:(x==("__debug__":Str))=false:=by decide) (he:starEach (e::es) X.env=(false,eval e X.env)::starEach es X.env:=by rfl) (hpl:(backTo pos (starEach es X.env)).any (·.1)=false:=by rfl):
 PE X (.Call (.Name x p) (e::es) [] pos) (zv4 sp dvs E t):=by
 intro pins s σ H Q I h
 refine wpAny_Call_Name_kw (zl1 I hg hm ?_ hdb)
 refine PySem.W.callWith_K (h₀:=X.base) I.ok.mod.kin hk (thn (ha pos pins s σ H _ I h) fun us s1 zz=>L2.el5 zz fun vs H1 I1 r q=>⟨I1.kIn,?_⟩) he hpl
 exact zpm F hr hb hd hx I1 r q
theorem za8 {pl:Sem Bool} (he:PE X o ta) (c:Cls X.K C) (hm:zf4 X.K C m f) (F:za3 X.prog X.w X.K X.mg X.base CX k f fd ps sp) (hr:zd2 k X.A) (hb:zb5 X.K fd ps ds) (hd:zcc dvs ds) (hx:zig CX X E) (ha:PA X (e::es) t)
 (hst:starEach (e::es) X.env=(false,eval e X.env)::starEach es X.env:=by rfl) (hpl:(backTo pos (starEach es X.env)).any (·.1)=false:=by rfl)
 (ht:eval (.Call (.Attribute o m apos) (e::es) [] pos) X.env=(do
  let ov <-eval o X.env
  standAt apos.atName
  let (f,first) <-holding [ov] (getMethod ov m pl)
  callWith pos f first (backTo pos (starEach (e::es) X.env)) (backToKw pos (keywordEach [] X.env))):=by rfl):
 PE X (.Call (.Attribute o m apos) (e::es) [] pos) (zt6 C m sp dvs E ta t):=by
 intro pins s σ H Q I h
 refine PySem.W.methodCall_KW (pl:=pl) (thn (he pins s σ H _ I h) fun u s1 zz=>?_) ht
 obtain ⟨x,H1,I1,rx,a,dx,fs,ex,ea,l,q⟩:=zz
 subst ex
 obtain rfl:u=Value.ref a:=rx
 refine zi1 I1 ea c hm l ?_
 refine PySem.W.callWith_K (first:=[.ref a]) (h₀:=X.base) I.ok.mod.kin hm.kp (thn (ha pos pins s1 σ H1 _ I1 q) fun us s2 zz=>L2.el5 zz fun vs H2 I2 r q2=>⟨I2.kIn,?_⟩) hst hpl
 exact zpm (us:=.ref a::us) (vs:=.ref a::vs) F hr hb hd hx I2 (.cons rfl r) q2
theorem zdz {pl:Sem Bool} (he:PE X o ta) (c:Cls X.K C) (hm:zf4 X.K C m f) (F:za3 X.prog X.w X.K X.mg X.base CX k f fd ps sp) (hr:zd2 k X.A) (hb:zb5 X.K fd ps ds) (hd:zcc dvs ds) (hx:zig CX X E)
 (ht:eval (.Call (.Attribute o m apos) [] [] pos) X.env=(do
  let ov <-eval o X.env
  standAt apos.atName
  let (f,first) <-holding [ov] (getMethod ov m pl)
  callWith pos f first (backTo pos (starEach [] X.env)) (backToKw pos (keywordEach [] X.env))):=by rfl):
 PE X (.Call (.Attribute o m apos) [] [] pos) (zt6 C m sp dvs E ta zrb):=by
 intro pins s σ H Q I h
 refine PySem.W.methodCall_KW (pl:=pl) (thn (he pins s σ H _ I h) fun u s1 zz=>?_) ht
 obtain ⟨x,H1,I1,rx,a,dx,fs,ex,ea,l,q⟩:=zz
 subst ex
 obtain rfl:u=Value.ref a:=rx
 refine zi1 I1 ea c hm l ?_
 exact PySem.W.callWith_K0 (first:=[.ref a]) I1.kIn hm.kp (zpm (us:=[.ref a]) (vs:=[.ref a]) F hr hb hd hx I1 (.cons rfl .nil) q)
structure Mk (K:ZCa) (C f:Addr):Prop where
 makes:PySem.W.makesIn K C=true
 init:PySem.W.findIn K (.ref C) "__init__"=some (some (.ref f))
 fn:PySem.W.isFn K (.ref f)=true
 kp:PySem.W.keepIn K (.ref C)=true
theorem zrp {pins:List (Addr×Obj)} {σ:St} {H:Hp} {s:Shared} {Q:VK} {us:List Value} {vs:List V} (M:Mk X.K C f) (F:za3 X.prog X.w X.K X.mg X.base CX k f fd ps sp) (hr:zd2 (k+1) X.A) (hb:zb5 X.K fd ps ds) (hd:zcc dvs ds)
 (hx:zig CX X E) (I:Inv X pins σ H s) (r:zcc vs us)
 (h:∀x dx,H x=none->H dx=none->dx≠x->sp (.ref x::(vs++dvs)) (upd (upd H dx (.own x)) x (.ins C dx [])) (fun v H2=>v=.non/\Q (.ref x) H2) E):
 wpAny (model X.prog X.w) X.A (call (.ref C) us) (EP X pins σ Q) X.xe s:=by
 have hq:=h (s.heap.objs.size+1) s.heap.objs.size (I.hok.fresh (ZAe _)) (I.hok.fresh (ZAw _)) (ZBj (Nat.lt_succ_self _))
 have I2:=Inv.made (C:=C) I
 have r2:zcc (V.ref (s.heap.objs.size+1)::(vs++dvs)) (Value.ref (s.heap.objs.size+1)::(us++ds)):=.cons rfl (r.append hd)
 have hl:(Value.ref (s.heap.objs.size+1)::us++ds).length=ps.length:=by
  have e:=r2.length
  rw [F.len _ _ _ _ hq] at e
  exact e.symm
 refine wpAny_call (zr7 (f:=f) I.kIn M.makes M.init (beq_iff_eq.mp M.fn) (codeAny_mono (F.run _ X.stack _ _ ⟨Value.ref (s.heap.objs.size+1)::us,[]⟩ (Value.ref (s.heap.objs.size+1)::(us++ds)) _ _ E (hr.make C us [])
  (I2.env0.make C us []) (hb _ (Value.ref (s.heap.objs.size+1)::us) I2.kIn hl) r2 hq) fun r s' hq'=>?_))
 cases r with
 | error e=>exact hx pins σ _ _ e s' I2 hq'
 | ok fl=>
  cases fl with
  | ret u=>
   obtain ⟨v,H',I3,rv,ev,q3⟩:=I2.after hq'
   subst ev
   exact ⟨rv,⟨V.ref (s.heap.objs.size+1),H',I3,rfl,q3⟩⟩
  | next=>exact False.elim hq'
  | brk=>exact False.elim hq'
  | cont=>exact False.elim hq'
theorem zlv (M:Mk X.K C f) (F:za3 X.prog X.w X.K X.mg X.base CX k f fd ps sp) (hr:zd2 (k+1) X.A) (hg:Gl X x) (hm:X.mg x=some (.ref C)) (hb:zb5 X.K fd ps ds) (hd:zcc dvs ds) (hx:zig CX X E)
 (ha:PA X (e::es) t) (hdb:(x==("__debug__":Str))=false:=by decide) (he:starEach (e::es) X.env=(false,eval e X.env)::starEach es X.env:=by rfl) (hpl:(backTo pos (starEach es X.env)).any (·.1)=false:=by rfl):
 PE X (.Call (.Name x p) (e::es) [] pos) (zxr C sp dvs E t):=by
 intro pins s σ H Q I h
 refine wpAny_Call_Name_kw (zl1 I hg hm ?_ hdb)
 refine PySem.W.callWith_K (h₀:=X.base) I.ok.mod.kin M.kp (thn (ha pos pins s σ H _ I h) fun us s1 zz=>L2.el5 zz fun vs H1 I1 r q=>⟨I1.kIn,?_⟩) he hpl
 exact zrp M F hr hb hd hx I1 r q
end
section
variable {X:Cx} {CX:CXT} {k:Nat} {f C:Addr} {fd:FuncData} {ps ks:List Str} {sp:Sp} {E:XK} {x m:Str} {p pos apos kpos:Pos} {e o:Expr} {es:List Expr} {kws:List Keyword} {te ta:TE} {t tk:TA} {nm:Option Str}
variable {g:List Value->List Value->List Value} {gV:List V->List V->List V}
end
structure zam (N P:List Str) (sc:Scope):Prop where
 kind:sc.kind=.function
 co:sc.isCoroutine=false
 gen:sc.isGenerator=false
 nd:N.Nodup
 pre:N.take P.length=P
 par:∀x∈P,sc.names.lookup x=some .local\/sc.names.lookup x=some .cell
 nofree:∀y∈sc.names,y.2≠.free
theorem scm {N P:List Str} {sc:Scope} (h1:sc.kind=.function:=by rfl) (h2:sc.isCoroutine=false:=by rfl) (h3:sc.isGenerator=false:=by rfl) (h4:N.Nodup:=by decide+kernel) (h5:N.take P.length=P:=by rfl) (h6:∀x∈P,sc.names.lookup x=some .local\/sc.names.lookup x=some .cell:=by decide+kernel) (h7:∀y∈sc.names,y.2≠.free:=by decide+kernel):zam N P sc:=⟨h1,h2,h3,h4,h5,h6,h7⟩
theorem zlg {kindOf:Str->Option NameKind} {x:Str}:∀{binds:List (Str×Value)} {m:Str->Option Value},(∀v,(x,v)∉binds)->bindL kindOf binds m x=m x
 | [],_,_=>rfl
 | (n,v)::r,m,h=>by
  unfold bindL
  rw [zlg fun w hw=>h w (ZA4 _ hw)]
  split
  ·have:x≠n:=by rintro rfl;exact h v ZA5
   simp [this]
  ·rfl
theorem zli {kindOf:Str->Option NameKind} {x:Str}:∀{binds:List (Str×Value)} {m:Str->Option Value},(∀v,(x,v)∉binds)->bindC kindOf binds m x=m x
 | [],_,_=>rfl
 | (n,v)::r,m,h=>by
  unfold bindC
  rw [zli fun w hw=>h w (ZA4 _ hw)]
  split
  ·rfl
  ·have:x≠n:=by rintro rfl;exact h v ZA5
   simp [this]
theorem zlh {kindOf:Str->Option NameKind} {x:Str} {v:Value}:∀{P:List Str} {vs:List Value} {i:Nat} {m:Str->Option Value},P.Nodup->P[i]?=some x->vs[i]?=some v->kindOf x=some .local->
 bindL kindOf (P.zip vs) m x=some v
 | [],_,_,_,_,h,_,_=>by simp at h
 | _::_,[],_,_,_,_,h,_=>by simp at h
 | p::P,w::vs,0,m,nd,h1,h2,hk=>by
  simp at h1 h2;subst h1;subst h2
  show bindL kindOf ((p,w)::P.zip vs) m p=_
  unfold bindL
  rw [zlg fun v hv=>(List.nodup_cons.mp nd).1 (List.of_mem_zip hv).1,if_pos hk]
  simp
 | p::P,w::vs,i+1,m,nd,h1,h2,hk=>by
  show bindL kindOf ((p,w)::P.zip vs) m x=_
  unfold bindL
  exact zlh (i:=i) (List.nodup_cons.mp nd).2 (by simpa using h1) (by simpa using h2) hk
theorem zlj {kindOf:Str->Option NameKind} {x:Str} {v:Value}:∀{P:List Str} {vs:List Value} {i:Nat} {m:Str->Option Value},P.Nodup->P[i]?=some x->vs[i]?=some v->kindOf x≠some .local->
 bindC kindOf (P.zip vs) m x=some v
 | [],_,_,_,_,h,_,_=>by simp at h
 | _::_,[],_,_,_,_,h,_=>by simp at h
 | p::P,w::vs,0,m,nd,h1,h2,hk=>by
  simp at h1 h2;subst h1;subst h2
  show bindC kindOf ((p,w)::P.zip vs) m p=_
  unfold bindC
  rw [zli fun v hv=>(List.nodup_cons.mp nd).1 (List.of_mem_zip hv).1,if_neg hk]
  simp
 | p::P,w::vs,i+1,m,nd,h1,h2,hk=>by
  show bindC kindOf ((p,w)::P.zip vs) m x=_
  unfold bindC
  exact zlj (i:=i) (List.nodup_cons.mp nd).2 (by simpa using h1) (by simpa using h2) hk
def zes (N:List Str) (vs:List V):St:=vs.map some++List.replicate (N.length-vs.length) none
def zvr (CX:CXT) (P:Program) (w:World) (K:ZCa) (mg:Str->Option Value) (base:Heap) (N:List Str) (qual:Str) (scope:Scope) (f:Addr) (cd:Value) (A:Around) (outer:List Env) (s:Shared) (H:Hp) (E:XK):Cx where
 prog:=P
 w:=w
 K:=K
 mg:=mg
 base:=base
 A:=A.deeper (envOfC qual scope s.heap.objs.size f cd)
 N:=N
 s₀:=s
 H₀:=H
 env:=envOfC qual scope s.heap.objs.size f cd
 outer:=outer
 stack:=envOfC qual scope s.heap.objs.size f cd::outer
 ex:=[]
 calm:=true
 fn:=fun _=>true
 pn:=[]
 xe:=fun e s'=>wpAny (model P w) (A.deeper (envOfC qual scope s.heap.objs.size f cd)) (leaving (envOfC qual scope s.heap.objs.size f cd) e) (fun _ s''=>CX outer H s E e s'') (fun e' s''=>CX outer H s E e' s'') s'
theorem znl {sc:Scope} {n:Nat} {x:Str} (h:sc.names.lookup x=some .cell):∃c,(cellsFrom n sc.names []).lookup x=some c:=by
 have q:=PySem.W.cellsFrom_some sc.names n [] (.inl h)
 exact Option.isSome_iff_exists.mp q
theorem zqg {CX:CXT} {P:Program} {w:World} {K:ZCa} {mg:Str->Option Value} {base:Heap} {N ps:List Str} {qual:Str} {scope:Scope} {f:Addr} {cd:Value} {A:Around} {outer:List Env} {s s1:Shared} {H:Hp} {E:XK} {us:List Value} {vs:List V}
 (S:zam N ps scope) (hd:A.handled=none) (e0:zvm P w K mg base A outer s H) (hl:vs.length=ps.length) (r:zcc vs us)
 (x:InCallC s s.heap.objs.size (bindL (envOfC qual scope s.heap.objs.size f cd).kindOf (ps.zip us) fun _=>none) (cellsFrom (s.heap.objs.size+1) scope.names []) (bindC (envOfC qual scope s.heap.objs.size f cd).kindOf (ps.zip us) fun _=>none) s1):
 Inv (zvr CX P w K mg base N qual scope f cd A outer s H E) [] (zes N vs) H s1:=by
 have hpl:ps.length<=N.length:=by have:=congrArg List.length S.pre;rw [ZBl] at this;lia
 obtain ⟨h1,tk,rfl,hk⟩:=x.done
 have noA:∀b:Addr,b∉(zvr CX P w K mg base N qual scope f cd A outer s H E).ex:=fun b z=>absurd (show b∈([]:List Addr) from z) (by simp)
 refine ⟨⟨e0.mod,S.kind,rfl,rfl,ZAw _,fun y z c h1 h2=>?_,fun y hy=>?_,fun y c _ h=>?_,fun _=>hd,Around.frames_deeper e0.frames,.inr ⟨rfl,rfl⟩,fun b z=>absurd z (noA b),e0.bs,e0.bsz,fun b _ _=>noA b,fun b z=>absurd z (noA b),e0.funs,e0.frf⟩,
  rfl,e0.bare,Un.kept hk,⟨_,x.toInCall.ns,fun i y v h1 h2 h3=>?_⟩,fun y c h=>⟨_,x.cell y c h⟩,e0.hok.fresh (ZAw _),fun y c h=>?_,fun p hp=>absurd (show p∈([]:List (Addr×Obj)) from hp) (by simp),e0.hok.kept hk,?_⟩
 ·exact name_of_addr x.apart (ZAh h1) (ZAh h2)
 ·have hy:scope.names.lookup y=some .cell\/scope.names.lookup y=some .free:=hy
  rcases hy with hy | hy
  ·exact znl hy
  ·exact absurd rfl (S.nofree _ (ZAh hy))
 ·exact ZBb (x.above y c (ZAh h))
 ·have hi:i<vs.length:=by
   unfold zes at h2
   by_cases hi:i<vs.length
   ·exact hi
   ·rw [ZBk (by simpa using hi)] at h2
    rw [List.getElem?_replicate] at h2
    split at h2<;>cases h2
  have ha:vs[i]?=some v:=by
   unfold zes at h2
   rw [ZBq (by simpa using hi),ZA0] at h2
   cases e:vs[i]? with
   | none=>rw [e] at h2;cases h2
   | some a=>rw [e] at h2;cases h2;rfl
  obtain ⟨u,hu,rv⟩:=r.get ha
  have hp:ps[i]?=some y:=by
   rw [<-S.pre,List.getElem?_take_of_lt (by lia)];exact h1
  have ndP:ps.Nodup:=by rw [<-S.pre];exact S.nd.sublist (List.take_sublist _ _)
  refine ⟨u,rv,?_⟩
  rcases S.par y (ZA1 hp) with k | k
  ·exact .inl ⟨k,zlh ndP hp hu k⟩
  ·obtain ⟨c,e⟩:=znl (n:=s.heap.objs.size+1) k
   refine .inr ⟨.inl k,c,e,?_⟩
   have q:=x.cell y c e
   rw [zlj ndP hp hu (by show scope.names.lookup y≠_;rw [k];decide)] at q
   exact q
 ·exact e0.hok.fresh (ZBb (x.above y c (ZAh h)))
 ·unfold zes
  show _=N.length
  rw [ZA3,ZAu,List.length_replicate]
  lia
theorem zym {CX:CXT} {P:Program} {w:World} {K:ZCa} {mg:Str->Option Value} {base:Heap} {k:Nat} {f:Addr} {name qual:Str} {params:Arguments} {body:List Stmt} {scope:Scope} {dV kV doc pm cdv ct oc:Value} {an od:Option Addr}
 {osl:Array (Option Value)} {N ps:List Str} {sp:Sp} (lk:K.lookup f=some ⟨oc,od,.func (PySem.W.fnOf name qual params body scope dV kV doc pm an cdv ct),osl⟩) (hcd:PySem.W.codeIn K cdv qual=true) (S:zam N ps scope)
 (len:∀vs H Q E,sp vs H Q E->vs.length=ps.length)
 (hbody:∀(A:Around) (outer:List Env) (s:Shared) (H:Hp) (vs:List V) (Q:VK) (E:XK),zd2 k (A.deeper (envOfC qual scope s.heap.objs.size f cdv))->sp vs H Q E->
  ∃t,PSs (zvr CX P w K mg base N qual scope f cdv A outer s H E) body t/\t { nx:=fun _ H'=>Q .non H',rt:=Q } (zes N vs) H):
 za3 P w K mg base CX (k+1) f (PySem.W.fnOf name qual params body scope dV kV doc pm an cdv ct) ps sp:=by
 refine ⟨len,fun A outer s H args us vs Q E hr e0 hb r hsp=>?_⟩
 have hl:=len _ _ _ _ hsp
 have KX:K.In s.heap:=e0.mod.kin.keeps fun b o e=>(e0.bs b o e).1
 have lim:s.heap.NoLimit:=e0.mod.nolimit.keeps fun b o e=>(e0.bs b o e).1
 have hkind:∀y∈ps.zip us,scope.names.lookup y.1=some .local\/(scope.names.lookup y.1=some .cell/\((cellsFrom (s.heap.objs.size+1) scope.names []).lookup y.1).isSome=true):=fun ⟨n,v⟩ hy=>by
  rcases S.par n (List.of_mem_zip hy).1 with q | q
  ·exact .inl q
  ·exact .inr ⟨q,PySem.W.cellsFrom_some _ _ _ (.inl q)⟩
 refine codeAny_call_function hr.depth (KX _ _ lk) rfl S.co S.gen rfl (PySem.W.codeRec_of KX hcd) (hb _ _ _ _ ?_)
 refine wpAny_newFunctionEnv_cells S.kind hkind fun env he s1 x=>?_
 subst he
 refine ⟨lim.keeps x.toInCall.keep,codeAny_func ?_⟩
 obtain ⟨t,ht,hq⟩:=hbody A outer s H vs Q E (hr.deeper _) hsp
 have I:Inv (zvr CX P w K mg base N qual scope f cdv A outer s H E) [] (zes N vs) H s1:=zqg S hr.hd e0 hl r x
 refine wpAny_mono (ht [] s1 (zes N vs) H _ I hq) (fun fl s' hs=>?_) fun e s' hs=>hs
 have fin:∀{σ':St} {H':Hp} {v:V} {u:Value},Inv (zvr CX P w K mg base N qual scope f cdv A outer s H E) [] σ' H' s'->zcr v u->Q v H'->CE outer P w H s Q u s':=
  fun {σ' H' v u} J rv q=>⟨v,H',J.os,J.bare,J.base,J.hok,rv,q⟩
 cases fl with
 | ret u=>
  obtain ⟨v,σ',H',J,rv,q⟩:=hs
  exact fin J rv q
 | next=>
  obtain ⟨σ',H',J,q⟩:=hs
  exact fin (v:=V.non) (u:=Value.none) J rfl q
 | brk=>
  obtain ⟨_,_,_,q⟩:=hs
  exact False.elim q
 | cont=>
  obtain ⟨_,_,_,q⟩:=hs
  exact False.elim q
section
variable {X:Cx} {x:Str} {p pos:Pos} {e:Expr} {es:List Expr} {t:TA} {id T:String} {r:List V->Hp->VK->Prop}
def tCB (r:List V->Hp->VK->Prop) (t:TA):TE:=fun σ H Q=>t σ H fun vs H1=>r vs H1 Q
theorem zbs (hc:zik X (.builtin id) r) (hg:Gl X x) (hm:X.mg x=none) (hv:bootBuiltins x=some (.builtin id)) (ha:PA X (e::es) t) (hn:x≠"__name__":=by decide) (hdb:(x==("__debug__":Str))=false:=by decide)
 (he:starEach (e::es) X.env=(false,eval e X.env)::starEach es X.env:=by rfl) (hpl:(backTo pos (starEach es X.env)).any (·.1)=false:=by rfl):PE X (.Call (.Name x p) (e::es) [] pos) (tCB r t):=by
 intro pins s σ H Q I h
 refine wpAny_Call_Name_kw (zkx I hg hm hv ?_ hn hdb)
 exact PyProof.Rows.callWith_builtin1 (thn (ha pos pins s σ H _ I h) fun us s1 zz=>L2.el5 zz fun vs H1 I1 r1 q1=>hc pins s1 σ H1 vs us Q I1 r1 q1) he hpl
theorem zdt (hc:zik X (.type T) r) (hg:Gl X x) (hm:X.mg x=none) (hv:bootBuiltins x=some (.type T)) (ha:PA X (e::es) t) (hn:x≠"__name__":=by decide) (hdb:(x==("__debug__":Str))=false:=by decide)
 (he:starEach (e::es) X.env=(false,eval e X.env)::starEach es X.env:=by rfl) (hpl:(backTo pos (starEach es X.env)).any (·.1)=false:=by rfl):PE X (.Call (.Name x p) (e::es) [] pos) (tCB r t):=by
 intro pins s σ H Q I h
 refine wpAny_Call_Name_kw (zkx I hg hm hv ?_ hn hdb)
 exact PyProof.Rows.callWith_type1 (thn (ha pos pins s σ H _ I h) fun us s1 zz=>L2.el5 zz fun vs H1 I1 r1 q1=>hc pins s1 σ H1 vs us Q I1 r1 q1) he hpl
end
end L2
namespace HT
open PySem PyProof.Rows
section
open PySem.SeqAt
open PySem.AutoSeq1 (wpAny_loadPart')
open PySem.MeetsSeq PySem.MeetsSeq2 PySem.MeetsSeq3
end
section
variable {prog:Program} {w:World} {A:Around} {E:Value->Shared->Prop} {s:Shared}
def sIx (n d:Nat):Option Int->Nat
 | none=>d
 | some v=>if v<0 then (v+(n:Int)).toNat else min v.toNat n
theorem sIx_none (n d:Nat):sIx n d none=d:=rfl
theorem sIx_nat (n d k:Nat):sIx n d (some (k:Int))=min k n:=by
 show (if (k:Int)<0 then ((k:Int)+(n:Int)).toNat else min (k:Int).toNat n)=min k n
 rw [if_neg (by lia),ZBx]
theorem zwi (n d:Nat) (hd:d<=n) (o:Option Int):sIx n d o<=n:=by
 cases o with
 | none=>exact hd
 | some v=>
  show (if v<0 then (v+(n:Int)).toNat else min v.toNat n)<=n
  by_cases hv:v<0
  ·rw [if_pos hv];lia
  ·rw [if_neg hv];exact Nat.min_le_right _ _
theorem zq3 (v:Int) (n d:Nat):(if v<0 then max (v+(n:Int)) 0 else min v (n:Int))=((sIx n d (some v):Nat):Int):=by
 show (if v<0 then max (v+(n:Int)) 0 else min v (n:Int))=(((if v<0 then (v+(n:Int)).toNat else min v.toNat n):Nat):Int)
 by_cases hv:v<0
 ·simp only [if_pos hv];lia
 ·simp only [if_neg hv];lia
theorem zoi (lo hi:Option Int) (n:Nat):Builtin.Slice.sliceAdjust lo hi 1 (n:Int)=(((sIx n 0 lo:Nat):Int),((sIx n n hi:Nat):Int)):=by
 have h1:¬((1:Int)<0):=by lia
 unfold Builtin.Slice.sliceAdjust
 simp only [h1,if_false]
 refine Prod.ext ?_ ?_
 ·cases lo with
  | none=>rfl
  | some v=>exact zq3 v n 0
 ·cases hi with
  | none=>rfl
  | some v=>exact zq3 v n n
theorem zn0 (i j:Nat):Builtin.Slice.slicePlaces (i:Int) (j:Int) 1=j-i:=by
 unfold Builtin.Slice.slicePlaces
 have h1:(1:Int)>0:=by lia
 simp only [h1,if_true,Int.ediv_one]
 split<;>lia
theorem ziu {v:Value} {o:Option Int} {Q:Option Int->Shared->Prop} (p:IsPart v o) (h:Q o s):wpAny (model prog w) A (Builtin.Slice.slicePartIndex v) Q E s:=by
 cases p with
 | none=>exact slicePart_none h
 | int i t=>exact slicePart_int h
theorem zhc {sl:Addr} {vl vu:Value} {lo hi:Option Int} {n:Nat} {Q:Int×Int×Nat->Shared->Prop} (hs:s.heap.IsSliceOf sl vl vu .none) (pl:IsPart vl lo) (pu:IsPart vu hi)
 (h:Q (((sIx n 0 lo:Nat):Int),1,sIx n n hi-sIx n 0 lo) s):wpAny (model prog w) A (Builtin.Slice.sliceApplied (.ref sl) (pure (n:Int))) Q E s:=by
 obtain ⟨os,hos,hcs,hds⟩:=id hs
 unfold Builtin.Slice.sliceApplied Builtin.Slice.sliceFields
 refine ZAp (ZAp (wpAny_field hos hds (x:=vl) rfl (ZAp (wpAny_field hos hds (x:=vu) rfl (ZAp (wpAny_field hos hds (x:=.none) rfl (ZAq ?_)))))))
 refine ZAp (slicePart_none ?_)
 show wpAny _ _ (if ((1:Int)==0)=true then _ else _) _ _ s
 rw [if_neg (by decide)]
 refine ZAp (ziu pl (ZAp (ziu pu (ZAp (ZAq ?_)))))
 show wpAny _ _ (match Builtin.Slice.sliceAdjust lo hi 1 (n:Int) with | (lo,hi)=>pure (lo,(1:Int),Builtin.Slice.slicePlaces lo hi 1)) _ _ s
 rw [zoi lo hi n]
 show wpAny _ _ (pure (((sIx n 0 lo:Nat):Int),(1:Int),Builtin.Slice.slicePlaces ((sIx n 0 lo:Nat):Int) ((sIx n n hi:Nat):Int) 1)) _ _ s
 rw [zn0]
 exact ZAq h
theorem zru (xs:Array Value) (i k:Nat):((List.range k).filterMap fun (m:Nat)=>xs[((i:Int)+(m:Int)*1).toNat]?).toArray=((xs.toList.drop i).take k).toArray:=by
 have e:(fun (m:Nat)=>xs[((i:Int)+(m:Int)*1).toNat]?)=fun m=>xs[i+m]?:=by
  funext m
  have:((i:Int)+(m:Int)*1).toNat=i+m:=by lia
  rw [this]
 rw [e]
 have:=pick_run xs i k
 rw [List.filterMap_map] at this
 have e2:((fun x=>xs[x]?) ∘ fun x=>i+x)=fun m=>xs[i+m]?:=rfl
 rw [e2] at this
 rw [this]
theorem getItem_tuple_cut {t sl:Addr} {items:Array Value} {vl vu:Value} {lo hi:Option Int} {Q:Value->Shared->Prop} (ht:IsTup s.heap t items) (hs:s.heap.IsSliceOf sl vl vu .none) (pl:IsPart vl lo) (pu:IsPart vu hi)
 (hw:¬(sIx items.size 0 lo=0/\sIx items.size items.size hi=items.size))
 (h:Q (.ref s.heap.objs.size) { s with heap:=s.heap.push { cls:=.type "tuple",data:=.seq ((items.toList.drop (sIx items.size 0 lo)).take (sIx items.size items.size hi-sIx items.size 0 lo)).toArray } })
 (hsz:items.size<=sizeLine):wpAny (model prog w) A (getItem (.ref t) (.ref sl)) Q E s:=by
 have htake:sizeOk (.seq ((items.toList.drop (sIx items.size 0 lo)).take (sIx items.size items.size hi-sIx items.size 0 lo)).toArray):=by
  show ((items.toList.drop (sIx items.size 0 lo)).take (sIx items.size items.size hi-sIx items.size 0 lo)).toArray.size<=sizeLine
  rw [ZA2,ZBl,ZAd,ZAj]
  omega
 have hj:sIx items.size items.size hi<=items.size:=zwi _ _ (ZAw _) hi
 obtain ⟨os,hos,hcs,hds⟩:=id hs
 have hTs:s.TypeIs (.ref sl) "slice":=⟨os,hos,hcs⟩
 unfold getItem
 try with_reducible refine wpAny_holding ?_
 first | refine ZAp (ZAq ?_) | skip
 refine ZAp (wpAny_sequenceKey ht.typeIs (by decide) ?_)
 refine ZAp (wpAny_callSpecial?_slot (name:=Str.ofString "__getitem__") ht.typeIs PyProof.Rows.slot_tuple_getitem
  (wpAny_call_entry PyProof.Rows.slot_tuple_getitem ht.typeIs entry_tuple_getitem ?_ (args_tuple_getitem _ _)))
 show wpAny _ _ (Builtin.Tuple.tupleItemsOf (.ref t)>>=_) _ _ s
 refine ZAp (tupleItemsOf_ ht ?_)
 refine ZAp (wpAny_typeOf hTs ?_)
 rw [if_pos (by decide)]
 refine ZAp (zhc hs pl pu ?_)
 have hno:¬((((sIx items.size 0 lo:Nat):Int)==0 && (1:Int)==1 && (sIx items.size items.size hi-sIx items.size 0 lo)==items.size)=true):=by
  intro q
  rw [Bool.and_eq_true,Bool.and_eq_true] at q
  have q1:((sIx items.size 0 lo:Nat):Int)=0:=eq_of_beq q.1.1
  have q2:sIx items.size items.size hi-sIx items.size 0 lo=items.size:=eq_of_beq q.2
  exact hw ⟨by omega,by omega⟩
 show wpAny _ _ (if (((sIx items.size 0 lo:Nat):Int)==0 && (1:Int)==1 && (sIx items.size items.size hi-sIx items.size 0 lo)==items.size)=true then _ else _) _ _ s
 rw [if_neg hno,zru]
 first
  | exact ZAp (m:=Builtin.Tuple.tupleExact _) (wpAny_newObj_type (ZAq ⟨_,rfl,ZAq h⟩) htake)
  | exact ZAp (m:=Builtin.Tuple.tupleExact _) (wpAny_newObj_type (ZAp (ZAq (ZAq ⟨_,rfl,ZAq h⟩))) htake)
  | exact ZAp (ZAp (m:=Builtin.Tuple.tupleExact _) (wpAny_newObj_type (ZAq (ZAq ⟨_,rfl,ZAq h⟩)) htake))
  | exact ZAp (ZAp (m:=Builtin.Tuple.tupleExact _) (wpAny_newObj_type (ZAq ⟨_,rfl,ZAq h⟩) htake))
end
end HT
namespace L2
open PySem PySem.Spec PyProof.Rows
abbrev TO:=St->Hp->(Option Int->Hp->Prop)->Prop
def PO (X:Cx) (e:Option Expr) (t:TO):Prop:=
 ∀(pins:List (Addr×Obj)) (s:Shared) (σ:St) (H:Hp) (Q:Option Int->Hp->Prop),Inv X pins σ H s->t σ H Q->
  wpAny (model X.prog X.w) X.A (evalPart e X.env) (fun u s'=>∃o H',Inv X pins σ H' s'/\IsPart u o/\Q o H') X.xe s
def zt5:TO:=fun _ H Q=>Q none H
def zxp (t:TE):TO:=fun σ H Q=>t σ H fun x H1=>∃i,x=.int i/\Q (some i) H1
section
variable {X:Cx} {e:Expr} {te:TE} {lo hi:Option Expr} {tl th:TO} {pos p2:Pos}
theorem zhx:PO X none zt5:=by
 intro pins s σ H Q I h
 rw [evalPart_none]
 exact ZAq ⟨none,H,I,.none,h⟩
theorem zhw (h:PE X e te):PO X (some e) (zxp te):=by
 intro pins s σ H Q I hw
 rw [evalPart_some]
 refine thn (h pins s σ H _ I hw) fun u s1 zz=>?_
 obtain ⟨x,H1,I1,r1,q1⟩:=zz
 obtain ⟨i,rfl,q⟩:=q1
 obtain ⟨t,rfl⟩:=r1
 exact ⟨some i,H1,I1,.int i t,q⟩
def SlR (X:Cx) (r:V->Option Int->Option Int->Hp->VK->Prop):Prop:=
 ∀(pins:List (Addr×Obj)) (s:Shared) (σ:St) (H:Hp) (x:V) (v vl vu:Value) (lo hi:Option Int) (sl:Addr) (Q:VK),Inv X pins σ H s->zcr x v->s.heap.IsSliceOf sl vl vu .none->IsPart vl lo->IsPart vu hi->r x lo hi H Q->
  ∃T id,typeLookup (.type T) "__getitem__"=pure (some (.builtin id))/\s.TypeIs v T/\wpAny (model X.prog X.w) X.A (getItem v (.ref sl)) (EP X pins σ Q) X.xe s
def tSl (r:V->Option Int->Option Int->Hp->VK->Prop) (te:TE) (tl th:TO):TE:=fun σ H Q=>te σ H fun x H1=>tl σ H1 fun l H2=>th σ H2 fun u H3=>r x l u H3 Q
theorem zf9 {r:V->Option Int->Option Int->Hp->VK->Prop} (hr:SlR X r) (he:PE X e te) (hl:PO X lo tl) (hu:PO X hi th):PE X (.Subscript e (.Slice lo hi none p2) pos) (tSl r te tl th):=by
 intro pins s σ H Q I h
 refine Subscript_ (thn (he pins s σ H _ I h) fun v s1 zz=>?_)
 obtain ⟨x,H1,I1,r1,q1⟩:=zz
 refine wpAny_Slice (thn (hl pins s1 σ H1 _ I1 q1) fun vl s2 zz=>L2.el5 zz fun l H2 I2 pl q2=>thn (hu pins s2 σ H2 _ I2 q2) fun vu s3 zz=>?_)
 obtain ⟨u,H3,I3,pu,q3⟩:=zz
 rw [evalPart_none]
 refine ZAq ?_
 have I4:Inv X pins σ H3 { s3 with heap:=s3.heap.push { cls:=.type "slice",data:=.fields #[vl,vu,.none] } }:=I3.kept (t':=s3.toks) fun b ob q=>ZAy _ q
 obtain ⟨T,id,hT,ht,hg⟩:=hr pins { s3 with heap:=s3.heap.push { cls:=.type "slice",data:=.fields #[vl,vu,.none] } } σ H3 x v vl vu l u s3.heap.objs.size Q I4 r1 (Heap.IsSliceOf.new ..) pl pu q3
 show wpAny (model X.prog X.w) X.A (subscriptTail e (.Slice lo hi none p2) v (.ref s3.heap.objs.size)) (EP X pins σ Q) X.xe { s3 with heap:=s3.heap.push { cls:=.type "slice",data:=.fields #[vl,vu,.none] } }
 exact tail_any (ops:=[.ref s3.heap.objs.size,v]) ht hT hg (by with_unfolding_all rfl)
def zoc (xs:List V) (lo hi:Option Int):List V:=(xs.drop (HT.sIx xs.length 0 lo)).take (HT.sIx xs.length xs.length hi-HT.sIx xs.length 0 lo)
theorem zib (xs:List V) (lo hi:Option Int):(zoc xs lo hi).length<=xs.length:=by
 unfold zoc
 rw [ZBl,ZAd]
 lia
def zAg (K:ZCa):V->Option Int->Option Int->Hp->VK->Prop:=fun x lo hi H Q=>∃a xs,x=.ref a/\SqT K H a xs/\
 ¬(HT.sIx xs.length 0 lo=0/\HT.sIx xs.length xs.length hi=xs.length)/\∀p,H p=none->Q (.ref p) (upd H p (.tup (zoc xs lo hi)))
theorem zms:SlR X (zAg X.K):=by
 intro pins s σ H x v vl vu lo hi sl Q I rx hs pl pu h
 obtain ⟨a,xs,rfl,hx,hw,q⟩:=h
 cases rx
 obtain ⟨its,r,ht,hz⟩:=I.tuple hx
 have hlen:its.toArray.size=xs.length:=by rw [ZA2];exact r.length.symm
 refine ⟨"tuple",_,PyProof.Rows.slot_tuple_getitem.lookup,ht.typeIs,?_⟩
 refine HT.getItem_tuple_cut ht hs pl pu (by rw [hlen];exact hw) ?_ (by rw [hlen];exact hz)
 rw [hlen]
 refine ⟨.ref s.heap.objs.size,_,I.laid (t':=s.toks) (o:=.tup (zoc xs lo hi)) (fun b ob q=>ZAy _ q) (ZAw _) ?_,rfl,q _ (I.hok.fresh (ZAw _))⟩
 exact ⟨ZBg (zib xs lo hi) hz,_,(r.drop (HT.sIx xs.length 0 lo)).take (HT.sIx xs.length xs.length hi-HT.sIx xs.length 0 lo),IsTup.new _ _⟩
end
def ixN (n:Nat) (i:Int):Option Nat:=if 0<=i then (if i<n then some i.toNat else none) else if-(n:Int)<=i then some (i+n).toNat else none
def atI {α:Type} (xs:List α) (i:Int):Option α:=(ixN xs.length i).bind fun j=>xs[j]?
theorem zqe {n:Nat} {i:Int} {j:Nat} (h:ixN n i=some j):seqIndex? i n=some j/\j<n/\-(n:Int)<=i/\i<n:=by
 unfold ixN at h
 by_cases h0:0<=i
 ·rw [if_pos h0] at h
  by_cases h1:i<n
  ·rw [if_pos h1] at h
   have e:i.toNat=j:=ZA7 h
   exact ⟨by rw [seqIndex_of h0 h1,e],by lia,by lia,h1⟩
  ·rw [if_neg h1] at h;cases h
 ·rw [if_neg h0] at h
  by_cases h1: -(n:Int)<=i
  ·rw [if_pos h1] at h
   have e:(i+n).toNat=j:=ZA7 h
   exact ⟨by rw [seqIndex_neg (by lia) h1,e],by lia,h1,by lia⟩
  ·rw [if_neg h1] at h;cases h
theorem zq9 {α:Type} {xs:List α} {i:Int} {v:α} (h:atI xs i=some v):∃j,seqIndex? i xs.length=some j/\xs[j]?=some v/\j<xs.length/\-(xs.length:Int)<=i/\i<xs.length:=by
 unfold atI at h
 cases e:ixN xs.length i with
 | none=>rw [e] at h;cases h
 | some j=>
  rw [e] at h
  obtain ⟨h1,h2,h3,h4⟩:=zqe e
  exact ⟨j,h1,h,h2,h3,h4⟩
theorem zb1 {α:Type} {xs:List α} {j:Nat} {v:α} (h:xs[j]?=some v):atI xs (j:Int)=some v:=by
 have hj:j<xs.length:=(ZAv.mp h).1
 have e:ixN xs.length (j:Int)=some j:=by
  unfold ixN
  rw [if_pos (by lia),if_pos (by lia)];simp
 unfold atI;rw [e];exact h
def zvi (b:Expr):Prop:=∀o i,subscripted b false o i=operate [o,i] (getItem o i)
def IxR (X:Cx) (r:R2):Prop:=
 ∀(value slice:Expr) (pins:List (Addr×Obj)) (s:Shared) (σ:St) (H:Hp) (x y:V) (v u:Value) (Q:VK),Inv X pins σ H s->zcr x v->zcr y u->r x y H Q->
  subscripted slice false v u=operate [v,u] (getItem v u)->wpAny (model X.prog X.w) X.A (subscriptTail value slice v u) (EP X pins σ Q) X.xe s
def MtR (X:Cx) (id:String) (r:V->List V->Hp->VK->Prop):Prop:=
 ∀(pins:List (Addr×Obj)) (s:Shared) (σ:St) (H:Hp) (x:V) (xs:List V) (v:Value) (us:List Value) (Q:VK),Inv X pins σ H s->zcr x v->zcc xs us->r x xs H Q->
  wpAny (model X.prog X.w) X.A (call (.builtin id) (v::us)) (EP X pins σ Q) X.xe s
section
variable {X:Cx} {a b:Expr} {ta tb:TE} {pos:Pos}
theorem zbj {r:R2} (hr:IxR X r) (ha:PE X a ta) (hb:PE X b tb) (hs:zvi b):PE X (.Subscript a b pos) (tOp r ta tb):=by
 intro pins s σ H Q I h
 exact Subscript_ (zyz ha hb I h fun v u s2 x y H2 I2 rx ry q=>hr a b pins s2 σ H2 x y v u Q I2 rx ry q (hs _ _))
def zAj (K:ZCa):R2:=fun x y H Q=>∃p xs i v,x=.ref p/\y=.int i/\SqL K H p xs/\atI xs i=some v/\Q v H
def zzi (K:ZCa):R2:=fun x y H Q=>∃p xs i v,x=.ref p/\y=.int i/\SqT K H p xs/\atI xs i=some v/\Q v H
theorem zqd:IxR X (zAj X.K):=by
 intro value slice pins s σ H x y v u Q I rx ry h hs
 obtain ⟨p,xs,i,z,rfl,rfl,hq,he,q⟩:=h
 cases rx
 obtain ⟨t,rfl⟩:=ry
 obtain ⟨its,r,pl,hz⟩:=I.list hq
 obtain ⟨j,h1,h2,h3,h4,h5⟩:=zq9 he
 obtain ⟨w,ew,rw'⟩:=r.get h2
 have hl:=r.length
 have hn:=zm7
 have fin:EP X pins σ Q w s:=⟨z,H,I,rw',q⟩
 by_cases h0:0<=i
 ·have hj:i.toNat=j:=by
   rw [seqIndex_of h0 h5] at h1
   exact ZA7 h1
  exact item_listR pl.isList h0 (by lia) (by rw [hj];simpa using ew) fin hs
 ·have hj:(i+(its.toArray.size:Int)).toNat=j:=by
   rw [seqIndex_neg (by lia) h4] at h1
   rw [ZA2,<-hl]
   exact ZA7 h1
  exact subscriptTail_builtinR (x:=w) pl.isList.typeIs slot_list_getitem.lookup
   (wpAny_getItem_list_neg (Q:=fun r s'=>r=w/\EP X pins σ Q r s') pl.isList (by lia) (by rw [ZA2]<;>lia) (by lia) (by rw [hj];simpa using ew) ⟨rfl,fin⟩) hs
theorem ztk:IxR X (zzi X.K):=by
 intro value slice pins s σ H x y v u Q I rx ry h hs
 obtain ⟨p,xs,i,z,rfl,rfl,hq,he,q⟩:=h
 cases rx
 obtain ⟨t,rfl⟩:=ry
 obtain ⟨its,r,pl,hz⟩:=I.tuple hq
 obtain ⟨j,h1,h2,h3,h4,h5⟩:=zq9 he
 obtain ⟨w,ew,rw'⟩:=r.get h2
 have hl:=r.length
 have hn:=zm7
 have fin:EP X pins σ Q w s:=⟨z,H,I,rw',q⟩
 exact subscriptTail_builtinR (x:=w) pl.typeIs slot_tuple_getitem.lookup
  (getItem_tuple (j:=j) (Q:=fun r s'=>r=w/\EP X pins σ Q r s') pl (by lia) (by lia) (by rw [ZA2,<-hl];exact h1) (by simpa using ew) ⟨rfl,fin⟩) hs
theorem zn3 (its:List Value) (n j:Nat) (u:Value):Obj.mapSeq (·.setIfInBounds j u) { cls:=.type "list",data:=.seq its.toArray n }={ cls:=.type "list",data:=.seq (its.set j u).toArray n }:=by
 simp [Obj.mapSeq]
theorem Inv.lst {pins:List (Addr×Obj)} {σ:St} {H:Hp} {s:Shared} {p:Addr} {xs:List V} (I:Inv X pins σ H s) (h:H p=some (.lst xs)):
 ∃(its:List Value) (n:Nat),zcc xs its/\s.heap.get? p=some { cls:=.type "list",data:=.seq its.toArray n }/\xs.length<=sizeLine:=by
 obtain ⟨z,its,n,r,e⟩:=I.hok p _ h
 exact ⟨its,n,r,e,z⟩
theorem Inv.lstUpd {pins:List (Addr×Obj)} {σ:St} {H:Hp} {s:Shared} {p:Addr} {xs ys:List V} {its its':List Value} {n n':Nat} {f:Obj->Obj} (I:Inv X pins σ H s) (h:H p=some (.lst xs))
 (ho:s.heap.get? p=some { cls:=.type "list",data:=.seq its.toArray n }) (hf:f { cls:=.type "list",data:=.seq its.toArray n }={ cls:=.type "list",data:=.seq its'.toArray n' }) (r:zcc ys its') (hz:ys.length<=sizeLine) (t:Nat):
 Inv X pins σ (upd H p (.lst ys)) { s with heap:=s.heap.update p f,toks:=t }:=by
 have e:(s.heap.update p f).get? p=some { cls:=.type "list",data:=.seq its'.toArray n' }:=by
  rw [Heap.get?_update_self f ho (by rw [hf]<;>rfl),hf]
 refine I.write (x:=p) (e:=p) (by rw [h];trivial) (.inl rfl) (fun b u hb q=>(Heap.get?_update_other _ _ (ZAl hb)).trans q) ⟨_,e⟩ ?_
 exact ⟨hz,its',n',r,e⟩
def zx6:V->V->V->Hp->(Hp->Prop)->Prop:=fun o i v H Q=>∃p xs k j,o=.ref p/\i=.int k/\H p=some (.lst xs)/\ixN xs.length k=some j/\Q (upd H p (.lst (xs.set j v)))
theorem zf8:zzo X zx6:=by
 intro pins s σ H o i v ov iv u Q I ro ri rv h
 obtain ⟨p,xs,k,j,rfl,rfl,hp,hj,q⟩:=h
 cases ro
 obtain ⟨t,rfl⟩:=ri
 obtain ⟨its,n,r,ho,hz⟩:=I.lst hp
 obtain ⟨h1,h2,h3,h4⟩:=zqe hj
 have hl:=r.length
 have hn:=zm7
 have I':Inv X pins σ (upd H p (.lst (xs.set j v))) { s with heap:=s.heap.update p (Obj.mapSeq (·.setIfInBounds j u)) }:=
  I.lstUpd hp ho (zn3 its n j u) (r.set rv j) (by rw [List.length_set];exact hz) s.toks
 by_cases h0:0<=k
 ·have hk:k.toNat=j:=by
   rw [seqIndex_of h0 h4] at h1
   exact ZA7 h1
  exact PySem.W.ki_setAt ho h0 (by lia) (by rw [ZA2,<-hl];exact h4) (by rw [hk];exact ⟨_,I',q⟩)
 ·have hk:(k+(its.toArray.size:Int)).toNat=j:=by
   rw [seqIndex_neg (by lia) h3] at h1
   rw [ZA2,<-hl]
   exact ZA7 h1
  exact PySem.W.ki_setBack ho (by lia) (by rw [ZA2,<-hl];exact h3) (by lia) (by rw [hk];exact ⟨_,I',q⟩)
theorem zkm (lo hi:Option Int) (n:Nat):(sliceBounds lo hi none n).1=((HT.sIx n 0 lo:Nat):Int)/\(sliceBounds lo hi none n).2.1=((HT.sIx n n hi:Nat):Int)/\(sliceBounds lo hi none n).2.2=1:=by
 refine ⟨?_,?_,rfl⟩
 ·cases lo with
  | none=>simp [sliceBounds,HT.sIx]
  | some i=>
   simp only [sliceBounds,HT.sIx,Option.getD_none,show (1:Int)>0 by decide,if_true]
   by_cases h:i<0
   ·simp only [h,if_true]<;>lia
   ·simp only [h,if_false]<;>lia
 ·cases hi with
  | none=>simp [sliceBounds,HT.sIx]
  | some i=>
   simp only [sliceBounds,HT.sIx,Option.getD_none,show (1:Int)>0 by decide,if_true]
   by_cases h:i<0
   ·simp only [h,if_true]<;>lia
   ·simp only [h,if_false]<;>lia
theorem zjd (its:List Value) (lo hi:Option Int):slicePick its.toArray lo hi none=((its.drop (HT.sIx its.length 0 lo)).take (HT.sIx its.length its.length hi-HT.sIx its.length 0 lo)).toArray:=by
 obtain ⟨h1,h2,h3⟩:=zkm lo hi its.toArray.size
 unfold slicePick
 rw [h1,h2,h3]
 simp only [sliceRange_one,pick_run,ZA2]<;>rfl
def zAh (K:ZCa):V->Option Int->Option Int->Hp->VK->Prop:=fun x lo hi H Q=>∃a xs,x=.ref a/\SqL K H a xs/\∀p,H p=none->Q (.ref p) (upd H p (.lst (zoc xs lo hi)))
theorem zue:SlR X (zAh X.K):=by
 intro pins s σ H x v vl vu lo hi sl Q I rx hs pl pu h
 obtain ⟨a,xs,rfl,hx,q⟩:=h
 cases rx
 obtain ⟨its,r,ht,hz⟩:=I.list hx
 have hlen:=r.length
 refine ⟨"list",_,slot_list_getitem.lookup,ht.isList.typeIs,?_⟩
 refine wpAny_getItem_list_slice ht.isList hs pl pu .none (by simp) ?_ (by rw [ZA2]<;>lia)
 rw [zjd,<-hlen]
 refine ⟨.ref s.heap.objs.size,_,I.laid (t':=s.toks) (o:=.lst (zoc xs lo hi)) (fun b ob q=>ZAy _ q) (ZAw _) ?_,rfl,q _ (I.hok.fresh (ZAw _))⟩
 exact ⟨ZBg (zib xs lo hi) hz,_,0,(r.drop (HT.sIx xs.length 0 lo)).take (HT.sIx xs.length xs.length hi-HT.sIx xs.length 0 lo),ZBh _ rfl⟩
def zdp:V->Bool
 | .non=>true
 | .bl _=>true
 | .int _=>true
 | .str _=>true
 | _=>false
def eqV:V->V->Bool
 | .non,.non=>true
 | .bl a,.bl b=>a==b
 | .bl a,.int b=>(if a then 1 else 0)==b
 | .int a,.bl b=>a==(if b then 1 else 0)
 | .int a,.int b=>a==b
 | .str a,.str b=>a==b
 | _,_=>false
theorem ztq {A:Around} {s:Shared} {y x:V} {u v:Value} (ry:zcr y u) (rx:zcr x v) (fy:zdp y=true) (fx:zdp x=true):SeqAt.EqAt A s u v (eqV y x):=by
 cases y with
 | non=>
  cases ry
  cases x with
  | non=>cases rx;exact SeqAt.EqAt.same _
  | bl b=>cases rx;exact SeqAt.EqAt.none_bool b
  | int b=>obtain ⟨t,rfl⟩:=rx;exact SeqAt.EqAt.none_int b t
  | str b=>obtain ⟨t,rfl⟩:=rx;exact SeqAt.EqAt.none_str b t
  | _=>exact absurd (show false=true from fx) ZA6
 | bl a=>
  cases ry
  cases x with
  | non=>cases rx;exact SeqAt.EqAt.bool_none a
  | bl b=>cases rx;exact SeqAt.EqAt.bool_bool a b
  | int b=>obtain ⟨t,rfl⟩:=rx;exact SeqAt.EqAt.bool_int a b t
  | str b=>obtain ⟨t,rfl⟩:=rx;exact SeqAt.EqAt.bool_str a b t
  | _=>exact absurd (show false=true from fx) ZA6
 | int a=>
  obtain ⟨t',rfl⟩:=ry
  cases x with
  | non=>cases rx;exact SeqAt.EqAt.int_none a t'
  | bl b=>cases rx;exact SeqAt.EqAt.int_bool a t' b
  | int b=>obtain ⟨t,rfl⟩:=rx;exact SeqAt.EqAt.int_int a t' b t
  | str b=>obtain ⟨t,rfl⟩:=rx;exact SeqAt.EqAt.int_str a t' b t
  | _=>exact absurd (show false=true from fx) ZA6
 | str a=>
  obtain ⟨t',rfl⟩:=ry
  cases x with
  | non=>cases rx;exact SeqAt.EqAt.str_none a t'
  | bl b=>cases rx;exact SeqAt.EqAt.str_bool a t' b
  | int b=>obtain ⟨t,rfl⟩:=rx;exact SeqAt.EqAt.str_int a t' b t
  | str b=>obtain ⟨t,rfl⟩:=rx;exact SeqAt.EqAt.str_str a t' b t
  | _=>exact absurd (show false=true from fx) ZA6
 | _=>exact absurd (show false=true from fy) ZA6
def eqU (x:V) (u:Value):Bool:=match u with
 | .none=>eqV .non x
 | .bool b=>eqV (.bl b) x
 | .int i _=>eqV (.int i) x
 | .str z _=>eqV (.str z) x
 | _=>false
theorem ztp {x y:V} {u:Value} (r:zcr y u) (f:zdp y=true):eqU x u=eqV y x:=by
 cases y with
 | non=>cases r;rfl
 | bl b=>cases r;rfl
 | int i=>obtain ⟨t,rfl⟩:=r;rfl
 | str z=>obtain ⟨t,rfl⟩:=r;rfl
 | _=>exact absurd (show false=true from f) ZA6
theorem zj2 {x:V} {xs:List V} {us:List Value} (h:zcc xs us) (f:xs.all zdp=true):us.any (eqU x)=xs.any fun y=>eqV y x:=by
 induction h with
 | nil=>rfl
 | cons r t ih=>
  rw [List.all_cons,Bool.and_eq_true] at f
  rw [List.any_cons,List.any_cons,ztp r f.1,ih f.2]
theorem zho {A:Around} {s:Shared} {x:V} {v:Value} (rx:zcr x v) (fx:zdp x=true) {xs:List V} {us:List Value} (h:zcc xs us) (f:xs.all zdp=true):∀u∈us,SeqAt.EqAt A s u v (eqU x u):=by
 induction h with
 | nil=>intro u hu;cases hu
 | cons r t ih=>
  intro u' hu
  rw [List.all_cons,Bool.and_eq_true] at f
  rcases ZBe.mp hu with rfl | hu
  ·rw [ztp r f.1];exact ztq r rx f.1 fx
  ·exact ih f.2 u' hu
def inV (x:V) (xs:List V):Bool:=xs.any fun y=>eqV y x
def rIn (K:ZCa) (neg:Bool):R2:=fun x y H Q=>∃p xs,y=.ref p/\(SqL K H p xs\/SqT K H p xs)/\zdp x=true/\xs.all zdp=true/\Q (.bl (if neg then !inV x xs else inV x xs)) H
theorem zh1:OpR X (compareOp .In) (rIn X.K false):=by
 intro pins s σ H x y v u Q I rx ry h
 obtain ⟨p,xs,rfl,hq,fx,fs,q⟩:=h
 cases ry
 rcases hq with hq | hq
 ·obtain ⟨its,r,pl,hz⟩:=I.list hq
  refine SeqAt.in_listAt (eqU x) pl.isList (fun w hw=>zho rx fx r fs w (by simpa using hw)) ⟨.bl _,H,I,rfl,?_⟩
  rw [show its.toArray.any (eqU x)=its.any (eqU x) by simp,zj2 r fs]
  exact q
 ·obtain ⟨its,r,pl,hz⟩:=I.tuple hq
  refine SeqAt.in_tupleAt (eqU x) pl (fun w hw=>zho rx fx r fs w (by simpa using hw)) ⟨.bl _,H,I,rfl,?_⟩
  rw [show its.toArray.any (eqU x)=its.any (eqU x) by simp,zj2 r fs]
  exact q
theorem ze3:OpR X (compareOp .NotIn) (rIn X.K true):=by
 intro pins s σ H x y v u Q I rx ry h
 obtain ⟨p,xs,rfl,hq,fx,fs,q⟩:=h
 cases ry
 rcases hq with hq | hq
 ·obtain ⟨its,r,pl,hz⟩:=I.list hq
  refine SeqAt.notIn_listAt (eqU x) pl.isList (fun w hw=>zho rx fx r fs w (by simpa using hw)) ⟨.bl _,H,I,rfl,?_⟩
  rw [show its.toArray.any (eqU x)=its.any (eqU x) by simp,zj2 r fs]
  exact q
 ·obtain ⟨its,r,pl,hz⟩:=I.tuple hq
  refine SeqAt.notIn_tupleAt (eqU x) pl (fun w hw=>zho rx fx r fs w (by simpa using hw)) ⟨.bl _,H,I,rfl,?_⟩
  rw [show its.toArray.any (eqU x)=its.any (eqU x) by simp,zj2 r fs]
  exact q
theorem zcz:zik X (.builtin "len") (fun xs H Q=>∃p ys,xs=[.ref p]/\(SqL X.K H p ys\/SqT X.K H p ys)/\Q (.int ys.length) H):=by
 intro pins s σ H xs us Q I r h
 obtain ⟨p,ys,rfl,hq,q⟩:=h
 obtain ⟨u,rfl,rx⟩:=znr r
 cases rx
 have hn:=zm7
 rcases hq with hq | hq
 ·obtain ⟨its,r',pl,hz⟩:=I.list hq
  have hlen:=r'.length
  exact Calls.call_len_list pl.isList (by simp only [ZA2]<;>lia) ⟨.int ys.length,H,I.tok _,⟨s.toks+1,by rw [ZA2,hlen]⟩,q⟩
 ·obtain ⟨its,r',pl,hz⟩:=I.tuple hq
  have hlen:=r'.length
  exact len_tuple pl (by simp only [ZA2]<;>lia) ⟨.int ys.length,H,I.tok _,⟨s.toks+1,by rw [ZA2,hlen]⟩,q⟩
theorem zdj:zik X (.type "list") (fun xs H Q=>∃p ys,xs=[.ref p]/\(SqL X.K H p ys\/SqT X.K H p ys)/\∀l,H l=none->Q (.ref l) (upd H l (.lst ys))):=by
 intro pins s σ H xs us Q I r h
 obtain ⟨p,ys,rfl,hq,q⟩:=h
 obtain ⟨u,rfl,rx⟩:=znr r
 cases rx
 have fin:∀(its:List Value),zcc ys its->ys.length<=sizeLine->∀(h':Heap) (c':Nat),(∀b o',s.heap.get? b=some o'->h'.get? b=some o')->
  h'.get? s.heap.objs.size=some { cls:=.type "list",dict:=none,data:=.seq its.toArray c',slots:= #[] }->EP X pins σ Q (.ref s.heap.objs.size) { s with heap:=h' }:=fun its r' hz h' c' kp e=>
  ⟨.ref s.heap.objs.size,_,I.laid (t':=s.toks) kp (ZAw _) (show zcl X.prog X.w _ h' _ (.lst ys) from ⟨hz,its,c',r',e⟩),rfl,q _ (I.hok.fresh (ZAw _))⟩
 rcases hq with hq | hq
 ·obtain ⟨its,r',pl,hz⟩:=I.list hq
  have hlen:=r'.length
  obtain ⟨o,ho,hc,n,hd⟩:=pl.isList
  exact call_list_seq p (.inl rfl) ho hc hd (fun h' c' kp e=>fin its r' hz h' c' kp e) (by simp only [ZA2]<;>lia)
 ·obtain ⟨its,r',pl,hz⟩:=I.tuple hq
  have hlen:=r'.length
  obtain ⟨o,ho,hc,n,hd⟩:=pl
  exact call_list_seq p (.inr rfl) ho hc hd (fun h' c' kp e=>fin its r' hz h' c' kp e) (by simp only [ZA2]<;>lia)
theorem zgl:zik X (.type "tuple") (fun xs H Q=>∃p ys,xs=[.ref p]/\((SqL X.K H p ys/\∀l,H l=none->Q (.ref l) (upd H l (.tup ys)))\/(SqT X.K H p ys/\Q (.ref p) H))):=by
 intro pins s σ H xs us Q I r h
 obtain ⟨p,ys,rfl,h⟩:=h
 obtain ⟨u,rfl,rx⟩:=znr r
 cases rx
 rcases h with ⟨hq,q⟩ | ⟨hq,q⟩
 ·obtain ⟨its,r',pl,hz⟩:=I.list hq
  have hlen:=r'.length
  refine call_tuple_list pl.isList (fun h' kp=>?_) (by simp only [ZA2]<;>lia)
  have I1:Inv X pins σ H { s with heap:=h' }:=I.kept (t':=s.toks) kp
  have I2:Inv X pins σ (upd H h'.objs.size (.tup ys)) { s with heap:=h'.push { cls:=.type "tuple",data:=.seq its.toArray } }:=
   I1.laid (t':=s.toks) (fun b o e=>ZAy _ e) (ZAw _) (show zcl X.prog X.w _ _ _ (.tup ys) from ⟨hz,its,r',IsTup.new _ _⟩)
  exact ⟨.ref h'.objs.size,_,I2,rfl,q _ (I1.hok.fresh (ZAw _))⟩
 ·obtain ⟨its,r',pl,hz⟩:=I.tuple hq
  exact call_tuple_same pl ⟨.ref p,H,I,rfl,q⟩
def tyV (K:ZCa) (T:String) (x:V) (H:Hp):Prop:=match x with
 | .str _=>T="str"
 | .int _=>T="int"
 | .ref p=>(T="list"/\∃xs,SqL K H p xs)\/(T="tuple"/\∃o,K.lookup p=some o/\o.cls=.type "tuple"/\o.dict=none)\/
  (T="dict"/\((∃kvs,H p=some (.dK kvs))\/∃kvs,H p=some (.dT kvs)))\/(T="set"/\∃S n,H p=some (.set S n))
 | _=>False
theorem zvz {pins:List (Addr×Obj)} {σ:St} {H:Hp} {s:Shared} {T:String} {x:V} {v:Value} (I:Inv X pins σ H s) (r:zcr x v) (ty:tyV X.K T x H):
 s.TypeIs v T/\∀a,v=.ref a->∃ob,s.heap.get? a=some ob/\ob.dict=none:=by
 cases x with
 | str z=>
  obtain ⟨t,rfl⟩:=r
  cases (show T="str" from ty)
  exact ⟨typeIs_str s z t,fun _ e=>nomatch e⟩
 | int i=>
  obtain ⟨t,rfl⟩:=r
  cases (show T="int" from ty)
  exact ⟨typeIs_int s i t,fun _ e=>nomatch e⟩
 | ref p=>
  cases r
  rcases ty with ⟨rfl,xs,hq⟩ | ⟨rfl,o,hk,hc,hd⟩ | ⟨rfl,hk⟩ | ⟨rfl,S,n,hk⟩
  ·obtain ⟨its,_,pl,_⟩:=I.list hq
   refine ⟨pl.isList.typeIs,fun a e=>?_⟩
   cases e
   obtain ⟨o,n,e,c,hd,_⟩:=pl
   exact ⟨o,e,hd⟩
  ·refine ⟨⟨o,I.kIn p o hk,hc⟩,fun a e=>?_⟩
   cases e
   exact ⟨o,I.kIn _ o hk,hd⟩
  ·have z:∃o,s.heap.get? p=some o/\o.ExactDict:=by
    rcases hk with ⟨kvs,hk⟩ | ⟨kvs,hk⟩
    ·obtain ⟨_,_,_,_,o,_,_,e,ex,_⟩:=I.hok p _ hk
     exact ⟨o,e,ex⟩
    ·obtain ⟨_,_,_,_,o,_,_,e,ex,_⟩:=I.hok p _ hk
     exact ⟨o,e,ex⟩
   obtain ⟨o,e,ex⟩:=z
   refine ⟨⟨o,e,ex.1⟩,fun a e2=>?_⟩
   cases e2
   exact ⟨o,e,ex.2.1⟩
  ·obtain ⟨o,_,_,_,e,ex,_⟩:=I.hok p _ hk
   refine ⟨⟨o,e,ex.1⟩,fun a e2=>?_⟩
   cases e2
   exact ⟨o,e,ex.2.1⟩
 | _=>exact False.elim ty
def tBM (K:ZCa) (T:String) (r:V->List V->Hp->VK->Prop) (to:TE) (t:TA):TE:=fun σ H Q=>to σ H fun x H1=>tyV K T x H1/\t σ H1 fun xs H2=>r x xs H2 Q
variable {o e:Expr} {es:List Expr} {to:TE} {t:TA} {name:Str} {apos cpos:Pos} {T id:String} {r:V->List V->Hp->VK->Prop}
theorem zhy (pa:PlainAttrs T) (slot:Slot T name id) (hty:typeOf (.builtin id)=pure (.type "method_descriptor")) (hm:MtR X id r) (ho:PE X o to) (ha:PA X (e::es) t)
 (hbase:attributeBase o name X.env (eval o X.env)=eval o X.env:=by rfl)
 (hfew:((backTo cpos (starEach (e::es) X.env)).all (fun x=> !x.1) && (backToKw cpos (keywordEach [] X.env)).all (fun x=>x.1.isSome)
  && decide ((e::es).length+([]:List Keyword).length+(if ([]:List Keyword).isEmpty then 0 else 1)<30))=true:=by rfl)
 (hline:(apos.endLine==cpos.line)=true:=by rfl) (hs:starEach (e::es) X.env=(false,eval e X.env)::starEach es X.env:=by rfl) (hplain:(backTo cpos (starEach es X.env)).any (·.1)=false:=by rfl):
 PE X (.Call (.Attribute o name apos) (e::es) [] cpos) (tBM X.K T r to t):=by
 intro pins s σ H Q I h
 refine wpAny_Call_method_late hbase hfew hline rfl (thn (ho pins s σ H _ I h) fun v s1 zz=>?_)
 obtain ⟨x,H1,I1,r1,ty,q1⟩:=zz
 obtain ⟨h1,h2⟩:=zvz I1 r1 ty
 refine ⟨T,id,pa,slot,hty,h1,h2,?_⟩
 have hA:=ha cpos pins s1 σ H1 _ I1 q1
 rw [hs] at hA ⊢
 refine Calls.callWith_builtin (by show (false || (backTo cpos (starEach es X.env)).any (·.1))=false;rw [hplain]<;>rfl) (Calls.evalArgs_plain ?_)
 exact thn hA fun us s2 zz=>L2.el5 zz fun vs H2 I2 r2 q2=>hm pins s2 σ H2 x vs v us Q I2 r1 r2 q2
end
def MtM (X:Cx) (id:String) (r:V->List V->Hp->VK->Prop):Prop:=
 ∀(pins:List (Addr×Obj)) (s:Shared) (σ:St) (H:Hp) (x:V) (xs:List V) (v:Value) (us:List Value) (Q:VK),Inv X pins σ H s->zcr x v->zcc xs us->r x xs H Q->
  wpAny (model X.prog X.w) X.A (call (.builtin id) (v::us)) (EP X pins σ Q) X.xe s
theorem zcc.one {x:V} {us:List Value} (h:zcc [x] us):∃u,us=[u]/\zcr x u:=by
 cases h with
 | cons r t=>
  cases t
  exact ⟨_,rfl,r⟩
theorem zcc.rep {xs:List V} {us:List Value} (h:zcc xs us):∀k:Nat,zcc (List.replicate k xs).flatten (List.replicate k us).flatten
 | 0=>.nil
 | k+1=>by
  rw [List.replicate_succ,List.replicate_succ,List.flatten_cons,List.flatten_cons]
  exact zcc.append h (zcc.rep h k)
theorem zk7 (its:List Value):∀(k:Nat) (acc:List Value),
 List.foldl (fun x1 x2=>x1++x2) acc.toArray (List.replicate k its.toArray)=(acc++(List.replicate k its).flatten).toArray
 | 0,acc=>by simp
 | k+1,acc=>by
  have e:acc.toArray++its.toArray=(acc++its).toArray:=by simp
  have e2:(acc++its)++(List.replicate k its).flatten=acc++(List.replicate (k+1) its).flatten:=by
   rw [List.replicate_succ,List.flatten_cons,List.append_assoc]
  rw [<-e2,<-zk7 its k (acc++its),<-e,List.replicate_succ,List.foldl_cons]
section
variable {X:Cx} {pins:List (Addr×Obj)} {σ:St} {H:Hp} {s:Shared} {l b:Addr} {xs ys zs:List V}
theorem Inv.lset {its its':List Value} {n:Nat} {f:Array Value->Array Value} {t':Nat} (I:Inv X pins σ H s) (hH:H l=some (.lst xs))
 (e:s.heap.get? l=some { cls:=.type "list",data:=.seq its.toArray n }) (hf:f its.toArray=its'.toArray) (hv:zcc ys its') (hz:ys.length<=sizeLine):
 Inv X pins σ (upd H l (.lst ys)) { s with heap:=s.heap.update l (Obj.mapSeq f),toks:=t' }:=by
 have q:=PySem.IsL.update e f
 rw [hf] at q
 refine I.write (x:=l) (e:=l) (by rw [hH];exact trivial) (.inl rfl) (fun b' u hb hu=>(Heap.get?_update_other s.heap (Obj.mapSeq f) (ZAl hb)).trans hu) ⟨_,q⟩ ?_
 exact ⟨hz,its',_,hv,q⟩
theorem Inv.lnew {its:List Value} {t':Nat} (I:Inv X pins σ H s) (hv:zcc ys its) (hz:ys.length<=sizeLine):
 Inv X pins σ (upd H s.heap.objs.size (.lst ys)) { s with heap:=s.heap.push { cls:=.type "list",data:=.seq its.toArray },toks:=t' }:=
 I.laid (fun _ _ q=>ZAy _ q) (ZAw _) ⟨hz,its,0,hv,ZBh _ rfl⟩
theorem Inv.fresh (I:Inv X pins σ H s):H s.heap.objs.size=none:=I.hok.fresh (ZAw _)
theorem Inv.lstM (I:Inv X pins σ H s) (hH:H l=some (.lst xs)):xs.length<=sizeLine/\∃(its:List Value) (n:Nat),zcc xs its/\xs.length=its.length/\s.heap.get? l=some { cls:=.type "list",data:=.seq its.toArray n }:=by
 obtain ⟨z,its,n,r,e⟩:=I.hok l _ hH
 exact ⟨z,its,n,r,r.length,e⟩
theorem zr3 {n:Nat} (h:n<=sizeLine):Builtin.List.listTooLong n=false:=by
 unfold Builtin.List.listTooLong
 exact ZB9 (by lia)
end
section
variable {X:Cx}
def zum:V->List V->Hp->VK->Prop:=fun x vs H Q=>∃l xs y,x=.ref l/\vs=[y]/\H l=some (.lst xs)/\xs.length<sizeLine/\Q .non (upd H l (.lst (xs++[y])))
theorem zcg:MtM X "list.append" zum:=by
 intro pins s σ H x vs v us Q I rx rv h
 obtain ⟨l,xs,y,rfl,rfl,hH,hz,q⟩:=h
 cases rx
 obtain ⟨u,rfl,ru⟩:=rv.one
 obtain ⟨z,its,n,r,hl,e⟩:=I.lstM hH
 refine call_meets ZAs ⟨_,e,rfl⟩ F.entry_list_append (F.args_list_append_2 _ _) (PySem.list_append l its.toArray n u (by rw [ZA2];lia)) ⟨e,?_⟩
 refine ⟨.non,_,I.lset (its':=its++[u]) hH e (by simp) (r.append (.cons ru .nil)) ?_,rfl,q⟩
 rw [ZA3,List.length_singleton]
 lia
def zAl:R2:=fun x y H Q=>∃l b xs zs,x=.ref l/\y=.ref b/\H l=some (.lst xs)/\H b=some (.lst zs)/\xs.length+zs.length<=sizeLine/\∀p,H p=none->Q (.ref p) (upd H p (.lst (xs++zs)))
theorem zp4:OpR X (binaryOp .Add) zAl:=by
 intro pins s σ H x y v u Q I rx ry h
 obtain ⟨l,b,xs,zs,rfl,rfl,hH,hB,hz,q⟩:=h
 cases rx
 cases ry
 obtain ⟨z,its,n,r,hl,e⟩:=I.lstM hH
 obtain ⟨z2,its2,n2,r2,hl2,e2⟩:=I.lstM hB
 refine PySem.P.add_list e e2 ?_ (by rw [ZA2,ZA2];lia)
 have ea:its.toArray++its2.toArray=(its++its2).toArray:=by simp
 rw [ea]
 exact ⟨.ref _,_,I.lnew (t':=s.toks) (r.append r2) (by rw [ZA3];lia),rfl,q _ I.fresh⟩
def zAi:R2:=fun x y H Q=>∃l k xs,x=.ref l/\y=.int k/\H l=some (.lst xs)/\-(2 ^ 63)<=k/\k<2 ^ 63/\xs.length*k.toNat<=sizeLine/\
 ∀p,H p=none->Q (.ref p) (upd H p (.lst (List.replicate k.toNat xs).flatten))
theorem zu3 {α:Type} (xs:List α) (k:Nat):(List.replicate k xs).flatten.length=k*xs.length:=by
 induction k with
 | zero=>simp
 | succ k ih=>rw [List.replicate_succ,List.flatten_cons,ZA3,ih,Nat.succ_mul,Nat.add_comm]
theorem zwo:OpR X (binaryOp .Mult) zAi:=by
 intro pins s σ H x y v u Q I rx ry h
 obtain ⟨l,k,xs,rfl,rfl,hH,h1,h2,hz,q⟩:=h
 cases rx
 obtain ⟨t,rfl⟩:=ry
 obtain ⟨z,its,n,r,hl,e⟩:=I.lstM hH
 have hlen:its.toArray.size*k.toNat<=sizeLine:=by rw [ZA2,<-hl];exact hz
 have hcap:¬its.toArray.size*k.toNat>(2 ^ 63-1) / 8:=by
  have:(sizeLine:Nat)<=(2 ^ 63-1) / 8:=by decide
  lia
 have hfit:¬(!Builtin.List.listFitsIndex k)=true:=by
  rw [fitsIndex_both h1 h2]
  exact ZA6
 have hlong:¬Builtin.List.listTooLong (its.toArray.size*k.toNat)=true:=by
  rw [zr3 hlen]
  exact ZA6
 have hnew:List.foldl (fun x1 x2=>x1++x2) #[] (List.replicate (if its.toArray.isEmpty=true then 0 else k.toNat) its.toArray)=(List.replicate k.toNat its).flatten.toArray:=by
  have f0:∀m:Nat,List.foldl (fun x1 x2=>x1++x2) #[] (List.replicate m its.toArray)=(List.replicate m its).flatten.toArray:=fun m=>by
   have:=zk7 its m []
   rw [List.nil_append] at this
   exact this
  rw [f0]
  cases its with
  | nil=>simp
  | cons a r'=>rw [if_neg (by simp)]
 refine wpAny_binaryOp_repeat_ref (T:="list") (U:="int") (by decide) ⟨_,e,rfl⟩ (fun s'=>typeIs_int s' k t) noFill_list_mul F.fills_int_mul F.slot_int_rmul repeat_list F.slot_int_index.lookup
  (call_meets F.slot_int_rmul (typeIs_int s k t) F.entry_int_rmul (F.args_int_rmul_2 _ _) (int___rmul___int_list k t l its.toArray n)
   ⟨e,rfl,⟨_,e,rfl⟩,call_meets F.slot_list_mul ⟨_,e,rfl⟩ F.entry_list_mul (F.args_list_mul_2 _ _) (AutoListH.list___mul___list_int_3 l its.toArray n k t hfit hcap hlong) ⟨e,?_⟩⟩)
 rw [hnew]
 exact ⟨.ref _,_,I.lnew (t':=s.toks) (r.rep k.toNat) (by rw [zu3,Nat.mul_comm];exact hz),rfl,q _ I.fresh⟩
end
section
variable {prog:Program} {w:World} {A:Around} {E:Value->Shared->Prop} {s:Shared}
set_option maxRecDepth 100000 in
end
section
variable {X:Cx}
end
end L2
namespace Att
open PySem PySem.W PySem.Calls PyProof.Rows
theorem zh7 {P:Params} {h:Heap}:∀(ns:List Int) (vs:List Value),WellAll P h vs (ns.map WData.int)->IntsAre vs ns:=by
 intro ns
 induction ns with
 | nil=>
  intro vs w
  rw [List.map_nil] at w
  cases w
  exact .nil
 | cons n ns ih=>
  intro vs w
  rw [ZBf] at w
  cases w with
  | cons a b=>
   cases a
   exact .cons _ _ (ih _ b)
theorem zpi {l:OpenLaw} {n:Nat} (hn:l.most=some n) {P:Params} {h:Heap} {args:List WData} {vals:List Value}
 (hpre:l.row.toRowW.claim.pre args=true) (hwl:WellAll P h vals args):
 ∃a vs ns,vals=[Value.ref a]/\args=[WData.list (ns.map WData.int)]/\h.get? a=some { cls:=.type "list",data:=.seq vs.toArray }/\IntsAre vs ns/\ns.length<=n:=by
 have hsh:WShape.hasAll [] args [.list .int]=true:=(pre_splitW hpre).1
 have hc:l.pre.holds [] { args:=args }=true:=(pre_splitW hpre).2
 obtain ⟨d,r,rfl,h1,h2⟩:=hasAllW_cons hsh
 obtain rfl:=hasAllW_nil h2
 obtain ⟨xs,rfl,h3⟩:=hasW_list h1
 obtain ⟨ns,rfl⟩:=items_int h3
 have hlen:ns.length<=n:=by
  unfold OpenLaw.pre at hc
  have h4:(WTm.not (.lt (.lit (.int (n:Int))) (.len (.arg 0)))).holds [] { args:=[.list (ns.map .int)] }=true:=by
   have h4:=(holds_andW hc).1
   rw [hn] at h4
   exact h4
  have h5:=condW_of h4 (w_not (w_lt w_lit (w_len_list (w_arg rfl))))
  rw [ZAu] at h5
  refine ZB5 fun q=>?_
  have q':(n:Int)<((ns.length:Nat):Int):=by omega
  first
   | (rw [ZB8 q'] at h5;exact absurd h5 (by decide))
   | (simp at h5;omega)
 cases hwl with
 | cons w1 w2=>
  cases w2
  cases w1 with
  | list ho hall=>exact ⟨_,_,ns,rfl,rfl,ho,zh7 ns _ hall,hlen⟩
theorem zps (l:OpenLaw) (args:List WData):l.row.toRowW.claim.post args (.bool true) args=true:=
 postW_of (r:=l.row.toRowW) (X:=(true==true))
  (show WShape.has [] (.bool true) .bool=true by first | rfl | decide | simp [WShape.has,WShape.arms,WShape.armsAll])
  (show (WTm.eq .res (.lit (.bool true))).value [] { args:=args,res:=some (.bool true),after:=args }=some (.bool (true==true)) from w_eq_bool (w_res rfl) w_lit) rfl
theorem attach_call {l:OpenLaw} {n:Nat} {q:Program} {loose:List Str} {XP:(Str->Option Value)->Heap->Prop} {YP:World->Heap->Prop} {d:DefRec}
 (hn:l.most=some n) (hdf:d.params.defaults=[])
 (call:∀(w:World) (s₀ s₁:Shared) (mg mb:Str->Option Value) (fa:Addr) (o:Obj) (pm cd doc:Value) (a:Addr) (vs:List Value) (ns:List Int),
  Ground q loose [] XP w s₀ mg mb s₁.heap->YP w s₁.heap->
  s₁.heap.get? fa=some o->o.data=.func (docDef d.name d.params d.body d.scope pm cd doc)->s₁.heap.CodeRec cd d.name->mg d.name=some (.ref fa)->
  s₁.heap.get? a=some { cls:=.type "list",data:=.seq vs.toArray }->IntsAre vs ns->ns.length<=n->s₁.gens= #[]->
  codeAny (model l.prog w) callerA (.call (.ref fa) ⟨[.ref a],[]⟩) (fun r s'=>r=.ok (.ret (.bool true))/\OldK s₁.heap s'.heap/\s'.os=s₁.os/\AllBare s'.gens) s₁):
 WalkO q loose XP YP l.row.toRowW d [] (fun f vs=>PySem.call f vs):=by
 intro w s₀ s₁ mg mb G Y fa o pm cd doc dV kV ho hd hcd hD hmg hg args vals as hpre hlay hrd hwl hlo
 obtain rfl:dV=.none:=Dflts.none hD hdf
 obtain rfl:kV=.none:=Dflts.noKw hD
 obtain ⟨a,vs,ns,rfl,rfl,hobj,hints,hlen⟩:=zpi hn hpre hwl
 refine enter_call (codeAny_mono (call w s₀ s₁ mg mb fa o pm cd doc a vs ns G Y ho (fd_plain hd) hcd hmg hobj hints hlen hg) fun r s' hq=>?_)
 obtain ⟨rfl,h2,h3,h4⟩:=hq
 exact ⟨.inl ⟨.bool true,.bool true,[],rfl,fun _=>rfl,.bool true,zps l _,fun _=>⟨List.Pairwise.nil,fun _ hm=>(nomatch hm)⟩⟩,h2,h3,h4⟩
section
variable {prog:Program} {w:World} {A:Around} {E:Value->Shared->Prop} {s:Shared} {K:Frag}
end
end Att
namespace L2
open PySem PySem.Spec PyProof.Rows
theorem zj7:∀{vs:List Value} {ns:List Int},IntsAre vs ns->zcc (ns.map V.int) vs
 | _,_,.nil=>.nil
 | _,_,.cons n t h=>.cons ⟨t,rfl⟩ (zj7 h)
def zw8 (H:Hp):Prop:=∀b,H b=none\/∃o xs,H b=some (.frz o (.lst xs))
theorem zr8 {P:Program} {w:World} {K:ZCa} {mg mb:Str->Option Value} {CX:CXT} {k:Nat} {fa a:Addr} {fd:FuncData} {x:Str} {sp:Sp} {s₁:Shared} {vs:List Value} {ns:List Int}
 (KX:K.In s₁.heap) (hns:s₁.heap.Ns mainGlobals mg) (hb:s₁.heap.Ns builtinsNs mb) (hbb:∀x:Str,x≠"__name__"->mb x=bootBuiltins x) (hlim:s₁.heap.NoLimit) (hg:s₁.gens= #[])
 (ha:s₁.heap.get? a=some { cls:=.type "list",data:=.seq vs.toArray }) (hi:IntsAre vs ns) (hl:ns.length<=sizeLine) (hr:zd2 k callerA)
 (F:∀base:Heap,K.In base->base.Ns mainGlobals mg->za3 P w K mg base CX k fa fd [x] sp) (hbind:∀(s:Shared) (u:Value),BindsTo s fd ⟨[u],[]⟩ [(x,u)])
 (hsp:∀H:Hp,zw8 H->SqL K H a (ns.map V.int)->sp [.ref a] H (fun v _=>v=.bl true) fun _ _ _=>False)
 (hCX:∀H e s',CX [] H s₁ (fun _ _ _=>False) e s'->False):
 codeAny (model P w) callerA (.call (.ref fa) ⟨[.ref a],[]⟩) (fun r s'=>r=.ok (.ret (.bool true))/\OldK s₁.heap s'.heap/\s'.os=s₁.os/\AllBare s'.gens) s₁:=by
 have rv:=zj7 hi
 have lenV:=hi.length
 have core:∀H:Hp,zw8 H->SqL K H a (ns.map V.int)->HOk P w H s₁.heap->(∀b,H b≠none->b=a)->(H a≠none->K.lookup a=none)->
  codeAny (model P w) callerA (.call (.ref fa) ⟨[.ref a],[]⟩) (fun r s'=>r=.ok (.ret (.bool true))/\OldK s₁.heap s'.heap/\s'.os=s₁.os/\AllBare s'.gens) s₁:=by
  intro H hO hS hok hA hK
  have base_of:∀{b:Addr} {o:Obj},s₁.heap.get? b=some o->H b=none->(zsd s₁.heap H).get? b=some o:=fun e n=>zsc e n
  have noA:∀{b:Addr} {o:Obj} {es:Array DictEntry} {ep:Nat},s₁.heap.get? b=some o->o.data=.dict es ep->H b=none:=fun {b o es ep} e d=>by
   cases q:H b with
   | none=>rfl
   | some u=>
    have e':b=a:=hA b (by rw [q];simp)
    subst e'
    rw [ha] at e;cases e
    have d':Data.seq vs.toArray _=Data.dict es ep:=d
    cases d'
  have nsK:∀{b:Addr} {m:Str->Option Value},s₁.heap.Ns b m->(zsd s₁.heap H).Ns b m:=fun {b m} ⟨o,es,ep,e,d,r⟩=>⟨o,es,ep,base_of e (noA e d),d,r⟩
  have hKb:K.In (zsd s₁.heap H):=fun b o e=>base_of (KX b o e) (by
   cases q:H b with
   | none=>rfl
   | some u=>
    have e':b=a:=hA b (by rw [q];simp)
    subst e'
    rw [hK (by rw [q];simp)] at e;cases e)
  have hM:Mod K mg (zsd s₁.heap H):=⟨hKb,nsK hns,⟨mb,nsK hb,hbb⟩,let ⟨mc,h1,h2⟩:=hlim;⟨mc,nsK h1,h2⟩⟩
  have e0:zvm P w K mg (zsd s₁.heap H) callerA [] s₁ H:=⟨rfl,hM,fun b o e=>zuz e,Nat.le_of_eq (zqj _ _),trivial,fun b hb=>absurd (show b∈([]:List Addr) from hb) (by simp),hok,.of_eq hg⟩
  refine codeAny_mono ((F _ hKb (nsK hns)).run callerA [] s₁ H ⟨[.ref a],[]⟩ [.ref a] [.ref a] _ _ hr e0 (hbind s₁ (.ref a)) (.cons rfl .nil) (hsp H hO hS)) fun r s' h=>?_
  cases r with
  | error e=>exact (hCX H e s' h).elim
  | ok fl=>
   cases fl with
   | next=>exact False.elim h
   | brk=>exact False.elim h
   | cont=>exact False.elim h
   | ret u=>
    obtain ⟨v,H',os,bare,un,hok',r',q⟩:=h
    have q':v=.bl true:=q
    subst q'
    obtain rfl:u=Value.bool true:=r'
    refine ⟨rfl,OldK.of_keep fun b o e=>?_,os,bare⟩
    cases q:H b with
    | none=>exact un.keep b o e q (by intro z;exact absurd (show b∈([]:List Addr) from z) (by simp)) (by simp)
    | some u=>
     rcases hO b with z | ⟨ob,xs,z⟩
     ·rw [q] at z;cases z
     ·have z2:=un.frzs b ob _ z
      obtain ⟨e1,_⟩:=hok b _ z
      obtain ⟨e2,_⟩:=hok' b _ z2
      rw [e] at e1;cases e1
      exact e2
 cases hk:K.lookup a with
 | some o=>
  have e:=KX a o hk
  rw [ha] at e
  cases e
  refine core (fun _=>none) (fun _=>.inl rfl) (.inr ⟨_,vs.toArray,_,hk,rfl,rfl,rfl,by rw [ZA2,lenV];exact hl,by simpa using rv⟩) (fun b u z=>by have z':(none:Option HO)=some u:=z;cases z') (fun b z=>absurd rfl z) fun z=>absurd rfl z
 | none=>
  refine core (fun b=>if b=a then some (.frz { cls:=.type "list",data:=.seq vs.toArray } (.lst (ns.map V.int))) else none) (fun b=>?_) (.inl (.inr ⟨{ cls:=.type "list",data:=.seq vs.toArray },if_pos rfl⟩)) (fun b u z=>?_) (fun b z=>?_) fun _=>hk
  ·by_cases hb:b=a
   ·exact .inr ⟨_,_,if_pos hb⟩
   ·exact .inl (if_neg hb)
  ·by_cases hb:b=a
   ·have z':=(if_pos hb).symm.trans z
    cases z'
    subst hb
    exact ⟨ha,by rw [ZAu];exact hl,vs,_,rv,ha⟩
   ·have z':=(if_neg hb).symm.trans z
    cases z'
  ·by_cases hb:b=a
   ·exact hb
   ·exact absurd (if_neg hb) z
abbrev KOf {K:ZCa} {h:Heap} (_:K.In h):ZCa:=K
theorem ztz {l:PySem.W.OpenLaw} {n k:Nat} {q:Program} {loose:List Str} {XP:(Str->Option Value)->Heap->Prop} {YP:World->Heap->Prop} {d:DefRec} {K:Params->ZCa} {CX:World->CXT} {sp:World->Sp} {x:Str}
 (hn:l.most=some n) (hn2:n<=sizeLine) (hdf:d.params.defaults=[]) (hr:zd2 k callerA)
 (hY:∀(w:World) (h:Heap),YP w h->(K w.params).In h)
 (F:∀(w:World) (mg:Str->Option Value) (fa:Addr) (h:Heap),(K w.params).In h->h.Ns mainGlobals mg->mg d.name=some (.ref fa)->
  ∃fd:FuncData,(∀(s:Shared) (u:Value),BindsTo s fd ⟨[u],[]⟩ [(x,u)])/\
   ∀base:Heap,(K w.params).In base->base.Ns mainGlobals mg->za3 l.prog w (K w.params) mg base (CX w) k fa fd [x] (sp w))
 (hsp:∀(w:World) (H:Hp) (a:Addr) (ns:List Int),ns.length<=n->zw8 H->SqL (K w.params) H a (ns.map V.int)->sp w [.ref a] H (fun v _=>v=.bl true) fun _ _ _=>False)
 (hCX:∀(w:World) (H:Hp) (s:Shared) (e:Value) (s':Shared),CX w [] H s (fun _ _ _=>False) e s'->False):
 PySem.W.WalkO q loose XP YP l.row.toRowW d [] (fun f vs=>PySem.call f vs):=by
 refine Att.attach_call hn hdf fun w s₀ s₁ mg mb fa o pm cd doc a vs ns G Y ho hd hcd hmg hobj hints hlen hg=>?_
 have KX:=hY w _ Y
 obtain ⟨fd,hb,hF⟩:=F w mg fa _ KX G.T.g hmg
 exact zr8 KX G.T.g G.T.b G.T.builtins G.T.nolimit hg hobj hints (ZBg hlen hn2) hr hF hb (fun H hO hS=>hsp w H a ns hlen hO hS) fun H e s'=>hCX w H s₁ e s'
theorem zrh {l:PySem.W.OpenLaw} {n k:Nat} {q:Program} {loose:List Str} {XP:(Str->Option Value)->Heap->Prop} {YP:World->Heap->Prop} {d:DefRec} {K:Params->ZCa} {CX:CXT} {sp:ZCa->Sp} {x:Str}
 (hn:l.most=some n) (hn2:n<=sizeLine) (hdf:d.params.defaults=[]) (hr:zd2 k callerA)
 (hY:∀(w:World) (h:Heap),YP w h->(K w.params).In h)
 (F:∀(w:World) (mg:Str->Option Value) (fa:Addr) (h:Heap),(K w.params).In h->h.Ns mainGlobals mg->mg d.name=some (.ref fa)->
  ∃fd:FuncData,(∀(s:Shared) (u:Value),BindsTo s fd ⟨[u],[]⟩ [(x,u)])/\
   ∀base:Heap,(K w.params).In base->base.Ns mainGlobals mg->za3 l.prog w (K w.params) mg base CX k fa fd [x] (sp (K w.params)))
 (hsp:∀(K:ZCa) (H:Hp) (a:Addr) (ns:List Int),ns.length<=n->zw8 H->SqL K H a (ns.map V.int)->sp K [.ref a] H (fun v _=>v=.bl true) fun _ _ _=>False)
 (hCX:∀(H:Hp) (s:Shared) (e:Value) (s':Shared),CX [] H s (fun _ _ _=>False) e s'->False):
 PySem.W.WalkO q loose XP YP l.row.toRowW d [] (fun f vs=>PySem.call f vs):=
 ztz (K:=K) (CX:=fun _=>CX) (sp:=fun w=>sp (K w.params)) hn hn2 hdf hr hY F (fun w H a ns h1 h2 h3=>hsp (K w.params) H a ns h1 h2 h3) fun _ H s e s'=>hCX H s e s'
def zbk (s:Stmt) (j:Nat):Stmt:=match s with
 | .ClassDef _ _ _ body _ _ _ _ _ _ _=>body.getD j (.Pass ⟨0,0,0,0⟩)
 | _=>.Pass ⟨0,0,0,0⟩
def zd4 (s:Stmt):Arguments:=match s with
 | .FunctionDef _ a _ _ _ _ _ _ _ _=>a
 | _=>{ posonlyargs:=[],args:=[],vararg:=none,kwonlyargs:=[],kw_defaults:=[],kwarg:=none,defaults:=[] }
def zdw (s:Stmt):List Stmt:=match s with
 | .FunctionDef _ _ b _ _ _ _ _ _ _=>b
 | _=>[]
def zae (s:Stmt):Scope:=match s with
 | .FunctionDef _ _ _ _ _ _ sc _ _ _=>sc
 | _=>{ kind:=.function,names:=[],isGenerator:=false,isCoroutine:=false }
abbrev CX0:CXT:=fun _ _ _ _ _ _=>False
abbrev E0:XK:=fun _ _ _=>False
theorem zb3 {X:Cx}:zig CX0 X E0:=fun _ _ _ _ _ _ _ h=>h.elim
structure Fun (K:ZCa) (x qual:Str) (st:Stmt) (f:Addr) (fd:FuncData):Prop where
 ex:∃(oc:Value) (od:Option Addr) (kV doc pm:Value) (an:Option Addr) (cdv ct:Value) (osl:Array (Option Value)),
  fd=PySem.W.fnOf x qual (zd4 st) (zdw st) (zae st) .none kV doc pm an cdv ct/\K.lookup f=some ⟨oc,od,.func fd,osl⟩/\PySem.W.codeIn K cdv qual=true
 kp:PySem.W.keepIn K (.ref f)=true
section
theorem Fun.ok {x qual:Str} {st:Stmt} {f:Addr} {fd:FuncData} {N ps:List Str} {k:Nat} {sp:Sp} (F:Fun K x qual st f fd) (S:zam N ps (zae st)) (len:∀vs H Q E,sp vs H Q E->vs.length=ps.length)
 (hbody:∀(cdv:Value) (A:Around) (outer:List Env) (s:Shared) (H:Hp) (vs:List V) (Q:VK) (E:XK),zd2 k (A.deeper (envOfC qual (zae st) s.heap.objs.size f cdv))->sp vs H Q E->
  ∃t,PSs (zvr CX0 P w K mg base N qual (zae st) f cdv A outer s H E).nox (zdw st) t/\t { nx:=fun _ H'=>Q .non H',rt:=Q } (zes N vs) H):za3 P w K mg base CX0 (k+1) f fd ps sp:=by
 obtain ⟨oc,od,kV,doc,pm,an,cdv,ct,osl,rfl,lk,hcd⟩:=F.ex
 refine zym lk hcd S len fun A outer s H vs Q E hr hsp=>?_
 obtain ⟨t,h,q⟩:=hbody cdv A outer s H vs Q E hr hsp
 exact ⟨t,h.nox,q⟩
theorem Fun.binds {x qual:Str} {st:Stmt} {f:Addr} {fd:FuncData} {ps:List Str} (F:Fun K x qual st f fd)
 (h:∀(kV doc pm:Value) (an:Option Addr) (cdv ct:Value) (us:List Value),us.length=ps.length->bindArgs (PySem.W.fnOf x qual (zd4 st) (zdw st) (zae st) .none kV doc pm an cdv ct) ⟨us,[]⟩=pure (ps.zip us)):zb5 K fd ps []:=by
 obtain ⟨oc,od,kV,doc,pm,an,cdv,ct,osl,rfl,lk,hcd⟩:=F.ex
 exact .all (h kV doc pm an cdv ct)
theorem ztm {x qual:Str} {st:Stmt} {f:Addr} {oc:Value} {od an:Option Addr} {osl:Array (Option Value)} {kV doc pm cdv ct:Value} (l:K.lookup f=some ⟨oc,od,.func (PySem.W.fnOf x qual (zd4 st) (zdw st) (zae st) .none kV doc pm an cdv ct),osl⟩)
 (c:PySem.W.codeIn K cdv qual=true) (k:PySem.W.keepIn K (.ref f)=true):Fun K x qual st f (PySem.W.fnOf x qual (zd4 st) (zdw st) (zae st) .none kV doc pm an cdv ct):=⟨⟨oc,od,kV,doc,pm,an,cdv,ct,osl,rfl,l,c⟩,k⟩
end
theorem zei {A:Around} {k:Nat} (hr:zd2 k A):A.units+1<cLine:=Nat.lt_of_le_of_lt (Nat.add_le_add_left (by decide:1<=64) _) hr.units
theorem zan {n:Nat} (h:n<=1000):n<sizeLine:=Nat.lt_of_le_of_lt h (by decide)
section
variable {X:Cx}
theorem pv (i:Nat) {x:Str} {pos:Pos} (hN:X.N[i]?=some x:=by rfl) (hv:Vis X.env.scope x:=by first | exact Or.inl rfl | exact Or.inr (Or.inl rfl) | exact Or.inr (Or.inr rfl)) (hd:(x==("__debug__":Str))=false:=by decide)
 (hcd:(x==("__classdict__":Str))=false:=by decide):PE X (.Name x pos) (zt3 i):=zwl hN hv hd hcd
end
theorem zde {A B:Prop} (h:B):if false=true then A else B:=by
 rw [if_neg ZA6]
 exact h
theorem zft {A B:Prop} (h:A):if true=true then A else B:=by
 rw [if_pos rfl]
 exact h
theorem znb {c A B:Prop} [Decidable c] (h1:c->A) (h2:¬c->B):if c then A else B:=by
 by_cases h:c
 ·rw [if_pos h]
  exact h1 h
 ·rw [if_neg h]
  exact h2 h
theorem zk2 {c A B:Prop} [Decidable c] (hc:c) (h:B):if (!decide c)=true then A else B:=by
 rw [ZB8 hc]
 exact zde h
def zbe (H H':Hp):Prop:=∀b o,H b=some o->H' b=some o
theorem zbe.refl (H:Hp):zbe H H:=fun _ _ h=>h
theorem zbe.trans {H H1 H2:Hp} (a:zbe H H1) (b:zbe H1 H2):zbe H H2:=fun c o h=>b c o (a c o h)
theorem zbe.free {H H':Hp} (e:zbe H H') {l:Addr} (h:H' l=Option.none):H l=Option.none:=by
 cases q:H l with
 | none=>rfl
 | some o=>
  rw [e l o q] at h
  cases h
section
variable {prog:Program} {w:World} {A:Around} {R:Result->Shared->Prop} {s:Shared}
theorem zp8 {elt target iter:Expr} {ifs:List Expr} {scope:Scope} {pos:Pos} {it acc:Value} {env:Env} (I:Nat->Shared->Prop)
 (turn:∀n s,I n s->wpAny (model prog w) A (pyNext it) (fun r s₁=>match r with
  | none=>R (.ok .next) s₁
  | some v=>wpAny (model prog w) A (letOwnedTupleGo target it v) (fun _ s₁'=>wpAny (model prog w) A (assign target env v) (fun _ s₂=>
   wpAny (model prog w) A (forIn ifs true fun c r=>if r=true then do let ok <-isTrue c env (eval c env);pure (ForInStep.yield ok) else pure (ForInStep.yield r)) (fun ok s₃=>
    if ok=true then wpAny (model prog w) A (eval elt env) (fun x s₄=>
     wpAny (model prog w) A (call (.builtin "list.append") [acc,x]) (fun _ s₅=>∃m,m<n/\I m s₅) (fun _ _=>False) s₄) (fun _ _=>False) s₃
    else ∃m,m<n/\I m s₃) (fun _ _=>False) s₂) (fun _ _=>False) s₁') (fun _ _=>False) s₁) (fun _ _=>False) s)
 (n:Nat) (h:I n s):codeAny (model prog w) A (.compLoop (.ListComp elt [⟨target,iter,ifs,0⟩] scope pos) 0 it acc env) R s:=by
 refine codeAny_loop rfl I (fun n s hI=>?_) n h
 show wpAny _ A ((compTurn (.ListComp elt [⟨target,iter,ifs,0⟩] scope pos) 0 it acc env).onRaise (fun x=>do noteFrame x env;theTreesLotGoes x)) _ _ s
 refine wpAny_noted ?_
 rw [compTurn_list]
 refine ZAp (wpAny_standAt (ZAp (wpAny_mono (turn n s hI) (fun r s₁ h₁=>?_) fun _ _ h'=>h'.elim)))
 cases r with
 | none=>exact ZAq h₁
 | some v=>
  refine ZAp (wpAny_mono h₁ (fun _ s₁' h₁'=>?_) fun _ _ h'=>h'.elim)
  refine ZAp (wpAny_mono h₁' (fun _ s₂ h₂=>ZAp (wpAny_mono h₂ (fun ok s₃ h₃=>?_) fun _ _ h'=>h'.elim)) fun _ _ h'=>h'.elim)
  cases ok with
  | false=>exact ZAq ⟨rfl,h₃⟩
  | true=>
   exact ZAp (ZAp (wpAny_mono h₃ (fun x s₄ h₄=>ZAp (wpAny_mono h₄ (fun _ s₅ h₅=>ZAq (ZAq ⟨rfl,h₅⟩)) fun _ _ h'=>h'.elim)) fun _ _ h'=>h'.elim))
end
theorem zod {env:Env} {f:(Str×NameKind)->List (Str×Addr)->Sem (ForInStep (List (Str×Addr)))}
 (h1:∀n k cs,k≠NameKind.free->f (n,k) cs=pure (.yield cs)) (h2:∀n a cs,env.cells.lookup n=some a->f (n,.free) cs=pure (.yield ((n,a)::cs))):
 ∀(names:List (Str×NameKind)) (acc:List (Str×Addr)),(∀x∈names,x.2=.free->∃c,env.cells.lookup x.1=some c)->(∀x c,acc.lookup x=some c->env.cells.lookup x=some c)->
  ∃cl,forIn names acc f=pure cl/\(∀x c,cl.lookup x=some c->env.cells.lookup x=some c/\((∃c',acc.lookup x=some c')\/(x,NameKind.free)∈names))/\
   ∀x,((∃c,acc.lookup x=some c)\/(x,NameKind.free)∈names)->∃c,cl.lookup x=some c:=by
 intro names
 induction names with
 | nil=>exact fun acc _ ha=>⟨acc,rfl,fun x c e=>⟨ha x c e,.inl ⟨c,e⟩⟩,fun x hx=>hx.elim (fun z=>z) fun z=>nomatch z⟩
 | cons y r ih=>
  intro acc hn ha
  obtain ⟨n,k⟩:=y
  have hr:∀x∈r,x.2=.free->∃c,env.cells.lookup x.1=some c:=fun x hx=>hn x (ZA4 _ hx)
  by_cases hk:k=.free
  ·subst hk
   obtain ⟨a,e⟩:=hn (n,.free) ZA5 rfl
   have e:env.cells.lookup n=some a:=e
   have ha':∀x c,((n,a)::acc).lookup x=some c->env.cells.lookup x=some c:=fun x c q=>by
    rw [ZA8] at q
    cases hx:x==n with
    | true=>rw [hx] at q;cases q;rw [beq_iff_eq.mp hx];exact e
    | false=>rw [hx] at q;exact ha x c q
   obtain ⟨cl,e1,e2,e3⟩:=ih ((n,a)::acc) hr ha'
   refine ⟨cl,?_,fun x c q=>?_,fun x hx=>?_⟩
   ·rw [List.forIn_cons,h2 n a acc e,pure_bind]
    exact e1
   ·obtain ⟨q1,q2⟩:=e2 x c q
    refine ⟨q1,?_⟩
    rcases q2 with ⟨c',q2⟩ | q2
    ·rw [ZA8] at q2
     cases hx:x==n with
     | true=>rw [beq_iff_eq.mp hx];exact .inr ZA5
     | false=>rw [hx] at q2;exact .inl ⟨c',q2⟩
    ·exact .inr (ZA4 _ q2)
   ·refine e3 x ?_
    rcases hx with ⟨c,hx⟩ | hx
    ·refine .inl ?_
     rw [ZA8]
     cases x==n with
     | true=>exact ⟨a,rfl⟩
     | false=>exact ⟨c,hx⟩
    ·rcases ZBe.mp hx with z | z
     ·cases z
      exact .inl ⟨a,by rw [ZA8,ZB7]⟩
     ·exact .inr z
  ·obtain ⟨cl,e1,e2,e3⟩:=ih acc hr ha
   refine ⟨cl,?_,fun x c q=>?_,fun x hx=>?_⟩
   ·rw [List.forIn_cons,h1 n k acc hk,pure_bind]
    exact e1
   ·obtain ⟨q1,q2⟩:=e2 x c q
    exact ⟨q1,q2.elim .inl fun z=>.inr (ZA4 _ z)⟩
   ·refine e3 x ?_
    rcases hx with hx | hx
    ·exact .inl hx
    ·rcases ZBe.mp hx with z | z
     ·cases z;exact absurd rfl hk
     ·exact .inr z
theorem zi5 {scope:Scope} {env:Env} (h:∀x∈scope.names,x.2=.free->∃c,env.cells.lookup x.1=some c):
 ∃cl,closureFor scope env=pure cl/\(∀x c,cl.lookup x=some c->env.cells.lookup x=some c/\(x,NameKind.free)∈scope.names)/\∀x,(x,NameKind.free)∈scope.names->∃c,cl.lookup x=some c:=by
 obtain ⟨cl,e1,e2,e3⟩:=zod (env:=env) (f:=fun x cs=>if (x.2==NameKind.free)=true then do let a <-cellOf env x.1;pure (ForInStep.yield ((x.1,a)::cs)) else pure (ForInStep.yield cs))
  (fun n k cs hk=>by
   have:(k==NameKind.free)=false:=by simpa using hk
   simp only [this,Bool.false_eq_true,if_false])
  (fun n a cs e=>by
   simp only [ZB7,if_true,cellOf,e,pure_bind])
  scope.names [] h (fun x c q=>nomatch q)
 refine ⟨cl,?_,fun x c q=>?_,fun x hx=>e3 x (.inr hx)⟩
 ·unfold closureFor
  first
   | (rw [show (forIn scope.names ([]:List (Str×Addr)) _:Sem (List (Str×Addr)))=pure cl from e1];rfl)
   | (simp only [e1,pure_bind];done)
   | exact (congrArg (fun z=>z>>=fun cs=>pure cs) e1).trans (pure_bind _ _)
 ·obtain ⟨q1,q2⟩:=e2 x c q
  exact ⟨q1,q2.elim (fun ⟨_,z⟩=>nomatch z) fun z=>z⟩
theorem zdu {env:Env}:∀{names:List (Str×NameKind)} {x:Str},names.lookup x=some .free->
 (names.map fun (n,k)=>if (k==NameKind.free && env.scope.kind==.function && env.kindOf n==some .cell) then (n,NameKind.cell) else (n,k)).lookup x=some .cell\/
 (names.map fun (n,k)=>if (k==NameKind.free && env.scope.kind==.function && env.kindOf n==some .cell) then (n,NameKind.cell) else (n,k)).lookup x=some .free
 | [],_,h=>by simp at h
 | (n,k)::r,x,h=>by
  have ih:= @zdu env r x
  show List.lookup x ((if (k==NameKind.free && env.scope.kind==.function && env.kindOf n==some .cell)=true then (n,NameKind.cell) else (n,k))::_)=_\/
   List.lookup x ((if (k==NameKind.free && env.scope.kind==.function && env.kindOf n==some .cell)=true then (n,NameKind.cell) else (n,k))::_)=_
  cases hx:x==n with
  | true=>
   simp only [ZA8,hx] at h
   cases h
   by_cases hc:(NameKind.free==NameKind.free && env.scope.kind==.function && env.kindOf n==some .cell)=true
   ·rw [if_pos hc];exact .inl (by simp [ZA8,hx])
   ·rw [if_neg hc];exact .inr (by simp [ZA8,hx])
  | false=>
   simp only [ZA8,hx] at h
   by_cases hc:(k==NameKind.free && env.scope.kind==.function && env.kindOf n==some .cell)=true
   ·rw [if_pos hc];simp only [ZA8,hx];exact ih h
   ·rw [if_neg hc];simp only [ZA8,hx];exact ih h
def zb0 (X:Cx) (scope:Scope) (cl:List (Str×Addr)) (N:List Str) (ex:List Addr) (s:Shared) (H:Hp):Cx where
 prog:=X.prog
 w:=X.w
 K:=X.K
 mg:=X.mg
 base:=X.base
 A:=X.A
 N:=N
 s₀:=s
 H₀:=H
 env:=compEnvC scope cl s.heap.objs.size X.env
 outer:=X.stack
 stack:=X.stack
 ex:=ex
 fn:=fun x=>scope.names.lookup x==some .local
 calm:=X.calm
 pn:=[]
 xe:=fun _ _=>False
def zfq (js:List (Option Nat)) (σ:St):St:=js.map fun j=>match j with
 | none=>none
 | some j=>(σ[j]?).join
structure zbw (sc:Scope) (NX:List Str) (scope:Scope) (N:List Str) (js:List (Option Nat)):Prop where
 kind:scope.kind=.function
 cell:∀x∈scope.names,x.2≠.cell
 loc:∀x∈scope.names,x.2=.local->scope.names.lookup x.1=some .local
 free:∀x∈scope.names,x.2=.free->scope.names.lookup x.1=some .free/\(sc.names.lookup x.1=some .cell\/sc.names.lookup x.1=some .free)
 len:js.length=N.length
 at_:∀p∈js.zip N,p.1=none\/∃j∈List.range NX.length,p.1=some j/\NX[j]?=some p.2/\(p.2,NameKind.free)∈scope.names
theorem com {sc:Scope} {NX:List Str} {scope:Scope} {N:List Str} {js:List (Option Nat)} (h1:scope.kind=.function:=by rfl) (h2:∀x∈scope.names,x.2≠.cell:=by decide+kernel) (h3:∀x∈scope.names,x.2=.local->scope.names.lookup x.1=some .local:=by decide+kernel) (h4:∀x∈scope.names,x.2=.free->scope.names.lookup x.1=some .free/\(sc.names.lookup x.1=some .cell\/sc.names.lookup x.1=some .free):=by decide+kernel) (h5:js.length=N.length:=by rfl) (h6:∀p∈js.zip N,p.1=none\/∃j∈List.range NX.length,p.1=some j/\NX[j]?=some p.2/\(p.2,NameKind.free)∈scope.names:=by decide+kernel):zbw sc NX scope N js:=⟨h1,h2,h3,h4,h5,h6⟩
section
variable {X:Cx} {pins:List (Addr×Obj)} {σ:St} {H:Hp} {s:Shared} {scope:Scope} {N:List Str} {js:List (Option Nat)} {cl:List (Str×Addr)} {ex:List Addr}
theorem zsb {h1:Heap} {tk:Nat} (I:Inv X pins σ H s) (C:zbw X.env.scope X.N scope N js) (c2:∀x c,cl.lookup x=some c->X.env.cells.lookup x=some c/\(x,NameKind.free)∈scope.names)
 (c3:∀x,(x,NameKind.free)∈scope.names->∃c,cl.lookup x=some c) (hex:∀b∈ex,zrc X pins H b/\b<s.heap.objs.size)
 (hns:h1.Ns s.heap.objs.size fun _=>none) (hk:∀b o,s.heap.get? b=some o->h1.get? b=some o):Inv (zb0 X scope cl N ex s H) [] (zfq js σ) H { s with heap:=h1,toks:=tk }:=by
 have fr:∀x,(x,NameKind.free)∈scope.names->(relabel scope X.env).names.lookup x=some .cell\/(relabel scope X.env).names.lookup x=some .free:=fun x hx=>zdu (C.free _ hx rfl).1
 refine ⟨⟨I.ok.mod,C.kind,I.ok.glob,I.ok.blt,ZAw _,fun x y c e1 e2=>I.ok.inj x y c (c2 x c e1).1 (c2 y c e2).1,fun x hx=>?_,fun x c hf e=>?_,I.ok.hd,I.ok.frames,.inl rfl,fun b hb=>⟨ZBj (hex b hb).2,fun x c e=>(hex b hb).1.2.2.2.2.1 x c (c2 x c e).1⟩,I.bs,ZBg I.ok.bsz I.sz,fun b o e hb=>?_,fun b hb hf=>?_,I.stack,I.stkFree⟩,
  rfl,I.bare,Un.kept hk,⟨fun _=>none,hns,fun i x v e1 e2 e3=>?_⟩,fun x c e=>?_,I.hok.fresh (ZAw _),fun x c e=>I.freeC x c (c2 x c e).1,fun p hp=>absurd (show p∈([]:List (Addr×Obj)) from hp) (by simp),I.hok.kept hk,?_⟩
 ·
  have hx:(relabel scope X.env).names.lookup x=some .cell\/(relabel scope X.env).names.lookup x=some .free:=hx
  have hm:(x,NameKind.free)∈scope.names:=by
   have key:∀k,(relabel scope X.env).names.lookup x=some k->k=.cell\/k=.free->(x,NameKind.free)∈scope.names:=fun k hl hk=>by
    have m:=ZAh hl
    obtain ⟨⟨n,k'⟩,hm,e⟩:=ZBr.mp m
    dsimp only at e
    by_cases hc:(k'==NameKind.free && X.env.scope.kind==.function && X.env.kindOf n==some .cell)=true
    ·rw [if_pos hc] at e
     cases e
     have:k'=.free:=by
      simp only [Bool.and_eq_true,beq_iff_eq] at hc
      exact hc.1.1
     subst this
     exact hm
    ·rw [if_neg hc] at e
     cases e
     rcases hk with z | z
     ·exact absurd z (C.cell _ hm)
     ·subst z;exact hm
   rcases hx with z | z
   ·exact key _ z (.inl rfl)
   ·exact key _ z (.inr rfl)
  exact c3 x hm
 ·have hf:(scope.names.lookup x==some .local)=true:=hf
  have e':=(C.free _ (c2 x c e).2 rfl).1
  rw [e'] at hf
  exact absurd hf (by decide)
 ·obtain ⟨⟨_,_,_,hz,_,_⟩,hlt⟩:=hex b hb
  rcases hz with z | z
  ·exact I.ok.noex b o e z
  ·exact absurd (ZBm (ZBm (ZBc e) I.ok.bsz) z) (ZB2 _)
 ·obtain ⟨⟨_,hL,hfs,_⟩,_⟩:=hex b hb
  rcases ZBe.mp (I.stkSub b hf) with z | z
  ·exact hL z
  ·exact hfs z
 ·
  unfold zfq at e2
  rw [ZA0] at e2
  cases ej:js[i]? with
  | none=>rw [ej] at e2;cases e2
  | some oj=>
   rw [ej] at e2
   cases oj with
   | none=>cases e2
   | some j=>
    have e2':(σ[j]?).join=some v:=ZA7 e2
    have e2'':σ[j]?=some (some v):=by
     cases q:σ[j]? with
     | none=>rw [q] at e2';cases e2'
     | some z=>rw [q] at e2';exact congrArg some e2'
    have e1:N[i]?=some x:=e1
    have hz:(some j,x)∈js.zip N:=ZAm.mpr ⟨i,by rw [List.getElem?_zip_eq_some];exact ⟨ej,e1⟩⟩
    obtain ⟨a1,a2⟩:X.N[j]?=some x/\(x,NameKind.free)∈scope.names:=by
     rcases C.at_ _ hz with q | ⟨j',_,q,a1,a2⟩
     ·cases q
     ·cases q
      exact ⟨a1,a2⟩
    have a1:X.N[j]?=some x:=a1
    have a2:(x,NameKind.free)∈scope.names:=a2
    obtain ⟨b1,b2⟩:=C.free _ a2 rfl
    have b2:X.env.scope.names.lookup x=some .cell\/X.env.scope.names.lookup x=some .free:=b2
    obtain ⟨m,_,hl⟩:=I.loc
    obtain ⟨u,r,l⟩:=hl j x v a1 e2'' (.inr b2)
    refine ⟨u,r,?_⟩
    rcases l with ⟨k,_⟩ | ⟨_,c,hc,z⟩
    ·have k:X.env.scope.names.lookup x=some .local:=k
     rcases b2 with b2 | b2<;>(rw [b2] at k;cases k)
    ·obtain ⟨c',hc'⟩:=c3 x a2
     have:=(c2 x c' hc').1
     rw [hc] at this
     cases this
     obtain ⟨o,ho,hd⟩:=z
     exact .inr ⟨fr x a2,c,hc',⟨o,hk _ _ ho,hd⟩⟩
 ·obtain ⟨v,o,ho,hd⟩:=I.cell x c (c2 x c e).1
  exact ⟨v,o,hk _ _ ho,hd⟩
 ·show (zfq js σ).length=N.length
  unfold zfq
  rw [ZAu]
  exact C.len
end
def PIf (X:Cx) (ifs:List Expr) (t:TT):Prop:=
 ∀(pins:List (Addr×Obj)) (s:Shared) (σ:St) (H:Hp) (Q:Bool->Hp->Prop),Inv X pins σ H s->t σ H Q->
  wpAny (model X.prog X.w) X.A (forIn ifs true fun c r=>if r=true then do let ok <-isTrue c X.env (eval c X.env);pure (ForInStep.yield ok) else pure (ForInStep.yield r)) (TP X pins σ Q) X.xe s
def zz1:TT:=fun _ H Q=>Q true H
theorem zdn {X:Cx}:PIf X [] zz1:=fun _ _ _ H _ I h=>wpAny_tests_nil ⟨H,I,h⟩
theorem zda {X:Cx} {c:Expr} {t:TT} (h:PT X c t):PIf X [c] t:=fun pins s σ H Q I hw=>wpAny_tests_one (h pins s σ H Q I hw)
def zg0 (js:List (Option Nat)) (g:TG) (tc:TT) (te:TE) (σ:St) (Q:VK) (J:It) (H1:Hp) (D:Addr):Prop:=∃W:Nat->Nat->St->Hp->Prop,(∃m,W 0 m (zfq js σ) (upd H1 D (.lst [])))/\
 ∀i m σ' H',W i m σ' H'->(J.stop i H'/\Q (.ref D) H')\/(J.go i H'/\∃N:St->Hp->Prop,(∀σ2 H2,N σ2 H2->∃m',m'<m/\W (i+1) m' σ2 H2)/\
  ∀x H2,J.yld i H' x H2->g x σ' H2 fun σ3 H3=>tc σ3 H3 fun ok H4=>if ok=true then te σ3 H4 fun y H5=>∃ys,H5 D=some (.lst ys)/\ys.length<sizeLine/\N σ3 (upd H5 D (.lst (ys++[y]))) else N σ3 H4)
def zrm (js:List (Option Nat)) (wi:TI) (g:TG) (tc:TT) (te:TE):TE:=fun σ H Q=>wi σ H fun J H1=>∀D,H1 D=none->zg0 js g tc te σ Q J H1 D
def fsc (l:List (Str×NameKind)):Scope:={ kind:=.function,names:=l,isGenerator:=false,isCoroutine:=false,more:=[] }
section
variable {X:Cx} {tg iter elt:Expr} {ifs:List Expr} {scope:Scope} {pos:Pos} {N:List Str} {js:List (Option Nat)} {wi:TI} {g:TG} {tc:TT} {te:TE}
theorem znj {cl:List (Str×Addr)} {pins:List (Addr×Obj)} {σ:St} {H:Hp} {s:Shared} {E:Value->Shared->Prop} {Q:VK} {RR:Value->Addr->Result->Shared->Prop} (hc:zgp X) (C:zbw X.env.scope X.N scope N js)
 (c2:∀x c,cl.lookup x=some c->X.env.cells.lookup x=some c/\(x,NameKind.free)∈scope.names) (c3:∀x,(x,NameKind.free)∈scope.names->∃c,cl.lookup x=some c)
 (hb:∀cl ex s H,zgp (zb0 X scope cl N ex s H)->PG (zb0 X scope cl N ex s H) tg g/\PIf (zb0 X scope cl N ex s H) ifs tc/\PE (zb0 X scope cl N ex s H) elt te)
 {it:Addr} {fp:List Addr} {tn:Nat->Heap->Prop} {J:It} (I:Inv X pins σ H s) (T:ztv X.prog X.w X.K tg J fp it tn) (st:tn 0 s.heap) (f2:∀b∈fp,zrc X pins H b)
 (q:∀D,H D=none->zg0 js g tc te σ Q J H D)
 (hRR:∀D C' H' s',Q (.ref D) H'->(∃m,s'.heap.Ns C' m)->H' C'=none->X.s₀.heap.objs.size<=C'->C'≠X.env.locals->(∀x c,X.env.cells.lookup x=some c->c≠C')->(∀p∈X.pn++pins,p.1≠C')->Inv X pins σ H' s'->RR (.ref D) C' (.ok .next) s'):
 wpAny (model X.prog X.w) X.A (newList []) (fun acc s₃=>wpAny (model X.prog X.w) X.A (newFunctionEnv scope X.env.globals cl [] X.env.qual none .none (some X.env)) (fun cenv s₄=>
  codeAny (model X.prog X.w) X.A (.compStart (.ListComp elt [⟨tg,iter,ifs,0⟩] scope pos) 0 (.ref it) acc { cenv with scope:=relabel scope X.env }) (RR acc cenv.locals) s₄) E s₃) E s:=by
 have hD:H s.heap.objs.size=none:=I.fresh
 have I3:Inv X pins σ (upd H s.heap.objs.size (.lst [])) { s with heap:=s.heap.push { cls:=.type "list",data:=.seq ([]:List Value).toArray } }:=I.lnew (its:=[]) (ys:=[]) (t':=s.toks) .nil (ZBa _)
 refine wpAny_newObj_type (wpAny_newFunctionEnv C.cell (by intro y hy;simp at hy) (fun h₁ hns₁ hsb₁=>?_) C.kind)
 dsimp only at hns₁ hsb₁ ⊢
 generalize hs3:({ s with heap:=s.heap.push { cls:=.type "list",data:=.seq ([]:List Value).toArray } }:Shared)=s3 at I3
 have hh3:s.heap.push { cls:=.type "list",dict:=none,data:=.seq ([]:List Value).toArray }=s3.heap:=by rw [<-hs3]
 rw [hh3] at hns₁ hsb₁ ⊢
 have kp:∀b o,s3.heap.get? b=some o->h₁.get? b=some o:=fun b o e=>hsb₁.extBut b o (ZBj (ZBc e)) (ZAy _ e)
 have hlt:∀b∈fp,b<s.heap.objs.size:=fun b hb=>by
  obtain ⟨o,e,_⟩:=T.obj 0 s.heap st b hb
  exact ZBc e
 have sz3:s3.heap.objs.size=s.heap.objs.size+1:=by rw [<-hh3,Heap.size_push]
 have f3:∀b∈fp,zrc X pins (upd H s.heap.objs.size (.lst [])) b:=fun b hb=>by
  obtain ⟨h1,h2⟩:=f2 b hb
  exact ⟨by rw [zaf (ZBj (hlt b hb))];exact h1,h2⟩
 have IY:∀tk,Inv (zb0 X scope cl N fp s3 (upd H s.heap.objs.size (.lst []))) [] (zfq js σ) (upd H s.heap.objs.size (.lst [])) { s3 with heap:=h₁,toks:=tk }:=fun tk=>
  zsb I3 C c2 c3 (fun b hb=>⟨f3 b hb,by rw [sz3];exact Nat.lt_succ_of_lt (hlt b hb)⟩) hns₁ kp
 have st1:tn 0 h₁:=T.keep 0 s.heap h₁ st fun b hb o e=>kp b o (by rw [<-hh3];exact ZAy _ e)
 obtain ⟨W,⟨m0,w0⟩,turn⟩:=q s.heap.objs.size hD
 have hcY:zgp (zb0 X scope cl N fp s3 (upd H s.heap.objs.size (.lst []))):=hc.in_ I3 rfl rfl fun _ _ _ z=>z
 have hbY:=hb cl fp s3 (upd H s.heap.objs.size (.lst [])) hcY
 obtain ⟨hg,hif,he⟩:=hbY
 have stat:∀{H':Hp},(∀b∈fp,H' b=none)->∀b∈fp,zrc (zb0 X scope cl N fp s3 (upd H s.heap.objs.size (.lst []))) [] H' b:=fun hn b hb=>by
  obtain ⟨_,hL,hfs,_,hcl,_⟩:=f2 b hb
  refine ⟨hn b hb,ZBj (by show b<s3.heap.objs.size;rw [sz3];exact Nat.lt_succ_of_lt (hlt b hb)),fun z=>?_,.inl hb,fun x c e=>hcl x c (c2 x c e).1,fun p hp=>absurd (show p∈([]:List (Addr×Obj)) from hp) (by simp)⟩
  rcases ZBe.mp (I.stkSub b z) with z | z
  ·exact hL z
  ·exact hfs z
 have loop:∀s4:Shared,s4={ s3 with heap:=h₁,toks:=s.toks+([]:List (Str×Value)).length }->
  codeAny (model X.prog X.w) X.A (.compLoop (.ListComp elt [⟨tg,iter,ifs,0⟩] scope pos) 0 (.ref it) (.ref s.heap.objs.size) (compEnvC scope cl s3.heap.objs.size X.env)) (RR (.ref s.heap.objs.size) s3.heap.objs.size) s4:=by
  rintro s4 rfl
  refine zp8 (fun n s'=>∃i σ' H',Inv (zb0 X scope cl N fp s3 (upd H s.heap.objs.size (.lst []))) [] σ' H' s'/\tn i s'.heap/\(∀b∈fp,H' b=none)/\W i n σ' H') ?_ m0
   ⟨0,_,_,IY _,st1,fun b hb=>(f3 b hb).1,w0⟩
  rintro n s5 ⟨i,σ5,H5,I5,st5,fr5,w5⟩
  rcases turn i n σ5 H5 w5 with ⟨stop,qn⟩ | ⟨go,Nx,hN,step⟩
  ·refine thn (T.done (zb0 X scope cl N fp s3 (upd H s.heap.objs.size (.lst []))) rfl rfl rfl hcY i [] s5 σ5 H5 _ I5 (stat fr5) st5 stop) fun r s6 ⟨hr,I6⟩=>?_
   subst hr
   obtain ⟨m,hn,_⟩:=I6.loc
   refine hRR _ _ H5 s6 qn ⟨m,hn⟩ I6.free (ZBg I3.sz (ZAw _)) (Nat.ne_of_gt I3.lt) (fun x c e z=>?_) (fun p hp z=>?_) (I3.call' I6.os I6.base I6.hok I6.bare fun b hb=>?_)
   ·obtain ⟨v,o,ho,_⟩:=I3.cell x c e
    exact absurd (ZBc ho) (by rw [z];exact ZB2 _)
   ·exact absurd (ZBc (I3.pin p hp).1) (by rw [z];exact ZB2 _)
   ·obtain ⟨_,hL,_,hx,hcl,hp⟩:=f2 b hb
    exact ⟨hx,hL,hcl,hp⟩
  ·refine thn (T.item (zb0 X scope cl N fp s3 (upd H s.heap.objs.size (.lst []))) rfl rfl rfl hcY i [] s5 σ5 H5 _ I5 (stat fr5) st5 go) fun r s6 zz=>L2.el3 zz fun u hr h6=>?_
   subst hr
   refine thn h6 fun _ s7 zz=>?_
   obtain ⟨x,H7,I7,r7,y7,st7,fr7⟩:=zz
   have I7':=I7.pinned (stat fr7) (T.obj _ _ st7)
   refine thn (hg _ s7 σ5 H7 x u _ I7' r7 (step x H7 y7)) fun _ s8 zz=>?_
   obtain ⟨σ8,H8,I8,q8⟩:=zz
   refine thn (hif _ s8 σ8 H8 _ I8 q8) fun ok s9 zz=>?_
   obtain ⟨H9,I9,q9⟩:=zz
   have again:∀{s':Shared} {σ':St} {H':Hp},Inv (zb0 X scope cl N fp s3 (upd H s.heap.objs.size (.lst []))) ([]++zkr fp s7.heap) σ' H' s'->Nx σ' H'->
    ∃m,m<n/\∃i σ'' H'',Inv (zb0 X scope cl N fp s3 (upd H s.heap.objs.size (.lst []))) [] σ'' H'' s'/\tn i s'.heap/\(∀b∈fp,H'' b=none)/\W i m σ'' H'':=fun {s' σ' H'} I' n'=>by
    obtain ⟨m',hm,w'⟩:=hN σ' H' n'
    refine ⟨m',hm,i+1,σ',H',I'.unpinned,T.keep _ _ _ st7 fun b hb o e=>(I'.pin (b,o) (ZBn _ (ZBn _ (zfj hb e)))).1,fun b hb=>?_,w'⟩
    obtain ⟨o,e,d⟩:=T.obj _ _ st7 b hb
    exact (I'.pin (b,o) (ZBn _ (ZBn _ (zfj hb e)))).2.1
   cases ok with
   | false=>exact again I9 q9
   | true=>
    refine thn (he _ s9 σ8 H9 _ I9 q9) fun yv s10 zz=>?_
    obtain ⟨y,H10,I10,r10,ys,hDD,hlt',n10⟩:=zz
    refine thn (zcg _ s10 σ8 H10 (.ref s.heap.objs.size) [y] (.ref s.heap.objs.size) [yv] (fun _ H'=>Nx σ8 H') I10 rfl (.cons r10 .nil) ⟨_,ys,y,rfl,rfl,hDD,hlt',n10⟩) fun _ s11 zz=>?_
    obtain ⟨_,H11,I11,_,n11⟩:=zz
    exact again I11 n11
 have e4:({ s with heap:=h₁,toks:=s.toks+([]:List (Str×Value)).length }:Shared)={ s3 with heap:=h₁,toks:=s.toks+([]:List (Str×Value)).length }:=by rw [<-hs3]
 exact codeAny_compStart_list (loop _ e4) (T.self _ 0 _ _ _ st1 (loop _ e4))
theorem zry (hc:zgp X) (hi:PI X tg iter wi) (C:zbw X.env.scope X.N scope N js)
 (hb:∀cl ex s H,zgp (zb0 X scope cl N ex s H)->PG (zb0 X scope cl N ex s H) tg g/\PIf (zb0 X scope cl N ex s H) ifs tc/\PE (zb0 X scope cl N ex s H) elt te)
 (hs:∀x,foldedSetIterable iter X.env x=pure x:=by intro _;rfl):PE X (.ListComp elt [⟨tg,iter,ifs,0⟩] scope pos) (zrm js wi g tc te):=by
 intro pins s σ H Q I h
 obtain ⟨cl,hcl,c2,c3⟩:=zi5 (scope:=scope) (env:=X.env) fun x hx hf=>I.ok.has x.1 (C.free x hx hf).2
 rw [eval_ListComp]
 refine wpAny_comprehension_free (use:=none) rfl hs hcl C.kind C.loc (thn (hi pins s σ H _ I h) fun xv s₁ h₁=>thn h₁ fun itv s₂ h₂=>?_)
 obtain ⟨it,fp,tn,J,H2,rfl,I2,T,st2,f2,q⟩:=h₂
 refine znj (RR:=fun acc C'=>compPost (model X.prog X.w) X.A X.xe none (EP X pins σ Q) acc C') hc C c2 c3 hb I2 T st2 f2 q ?_
 intro D C' H' s' hq hns hfr hsz hL hcl' hpin I'
 obtain ⟨m,hn⟩:=hns
 refine ⟨m,hn,fun h' sb=>⟨.ref D,H',?_,rfl,hq⟩⟩
 exact I'.turned (t':=s'.toks) (fun b o hb e=>(sb.2 b hb).trans e) hfr (ZAl (ZAl hL)) (.inr hsz) hcl' hpin
theorem zcv (hc:X.calm=true) (hi:PI X tg iter wi) (C:zbw X.env.scope X.N scope N js)
 (hb:∀cl ex s H,PG (zb0 X scope cl N ex s H) tg g/\PIf (zb0 X scope cl N ex s H) ifs tc/\PE (zb0 X scope cl N ex s H) elt te)
 (hs:∀x,foldedSetIterable iter X.env x=pure x:=by intro _;rfl):PE X (.ListComp elt [⟨tg,iter,ifs,0⟩] scope pos) (zrm js wi g tc te):=zry (.inl hc) hi C (fun cl ex s H _=>hb cl ex s H) hs
theorem zrs {i:Nat} {y:Str} {py spos:Pos} (hN:X.N.Nodup) (hi':X.N[i]?=some y) (hy:X.env.scope.names.lookup y=some .local) (hc:zgp X) (hi:PI X tg iter wi) (C:zbw X.env.scope X.N scope N js)
 (hb:∀cl ex s H,zgp (zb0 X scope cl N ex s H)->PG (zb0 X scope cl N ex s H) tg g/\PIf (zb0 X scope cl N ex s H) ifs tc/\PE (zb0 X scope cl N ex s H) elt te)
 (hsw:swapsWith (.ListComp elt [⟨tg,iter,ifs,0⟩] scope pos) (some (.Name y py)) spos.line X.env=pure true:=by rfl)
 (hs:∀x,foldedSetIterable iter X.env x=pure x:=by intro _;rfl):PS X (.Assign [.Name y py] (.ListComp elt [⟨tg,iter,ifs,0⟩] scope pos) spos) (zv5 (zrm js wi g tc te) (zl3 i)):=by
 intro pins s σ H D I h
 obtain ⟨cl,hcl,c2,c3⟩:=zi5 (scope:=scope) (env:=X.env) fun x hx hf=>I.ok.has x.1 (C.free x hx hf).2
 rw [exec_Assign_Name_used _ _ _ _ hsw]
 refine ZAp (wpAny_standAt (ZAp ?_))
 show wpAny _ X.A (do let _ <-comprehension (.ListComp elt [⟨tg,iter,ifs,0⟩] scope pos) scope X.env _ (newList []) false (eval iter X.env) (some (assign (.Name y py) X.env))) _ _ s
 refine ZAp (wpAny_mono (wpAny_comprehension_free (use:=some (assign (.Name y py) X.env)) (Q:=fun _ s'=>SP X pins D .next s') rfl hs hcl C.kind C.loc (thn (hi pins s σ H _ I h) fun xv s₁ h₁=>thn h₁ fun itv s₂ h₂=>?_))
  (fun _ s' hq=>ZAq (ZAq hq)) fun _ _ e=>e)
 obtain ⟨it,fp,tn,J,H2,rfl,I2,T,st2,f2,q⟩:=h₂
 refine znj (Q:=fun x H1=>zl3 i x σ H1 D.nx) (RR:=fun acc C'=>compPost (model X.prog X.w) X.A X.xe (some (assign (.Name y py) X.env)) (fun _ s'=>SP X pins D .next s') acc C') hc C c2 c3 hb I2 T st2 f2 q ?_
 intro Da C' H' s' hq hns hfr hsz hL hcl' hpin I'
 obtain ⟨m,hn⟩:=hns
 show wpAny _ X.A (assign (.Name y py) X.env (.ref Da)) _ _ _
 refine wpAny_assign_Name (zkf I' hN hi' (.inl hy) (v:=.ref Da) rfl (fun s2 I2 hx=>?_) (.inr hy))
 obtain ⟨a,sba,ha⟩:=hx
 have hne:C'≠a:=by
  rcases ha with z | z
  ·rw [z];exact hL
  ·exact fun e=>hcl' y a z e.symm
 refine ⟨m,hn.sameBut sba hne,fun h' sb=>⟨_,H',?_,hq⟩⟩
 exact I2.turned (t':=s2.toks) (fun b o hb e=>(sb.2 b hb).trans e) hfr hL (.inr hsz) hcl' hpin
theorem zfx {i:Nat} {y:Str} {py spos:Pos} (hN:X.N.Nodup) (hi':X.N[i]?=some y) (hy:X.env.scope.names.lookup y=some .local) (hc:X.calm=true) (hi:PI X tg iter wi) (C:zbw X.env.scope X.N scope N js)
 (hb:∀cl ex s H,PG (zb0 X scope cl N ex s H) tg g/\PIf (zb0 X scope cl N ex s H) ifs tc/\PE (zb0 X scope cl N ex s H) elt te)
 (hsw:swapsWith (.ListComp elt [⟨tg,iter,ifs,0⟩] scope pos) (some (.Name y py)) spos.line X.env=pure true:=by rfl)
 (hs:∀x,foldedSetIterable iter X.env x=pure x:=by intro _;rfl):PS X (.Assign [.Name y py] (.ListComp elt [⟨tg,iter,ifs,0⟩] scope pos) spos) (zv5 (zrm js wi g tc te) (zl3 i)):=zrs hN hi' hy (.inl hc) hi C (fun cl ex s H _=>hb cl ex s H) hsw hs
end
section
variable {g:TG} {tc:TT} {te:TE} {js:List (Option Nat)} {σ:St} {H:Hp} {Q:VK} {D:Addr}
theorem zeb {lo:Int} {n:Nat} (Pv:Nat->St->Hp->Prop) (h0:Pv 0 (zfq js σ) (upd H D (.lst [])))
 (hs:∀i σ' H',i<n->Pv i σ' H'->g (.int (lo+i)) σ' H' fun σ3 H3=>tc σ3 H3 fun ok H4=>if ok=true then te σ3 H4 fun y H5=>∃ys,H5 D=some (.lst ys)/\ys.length<sizeLine/\Pv (i+1) σ3 (upd H5 D (.lst (ys++[y]))) else Pv (i+1) σ3 H4)
 (hd:∀σ' H',Pv n σ' H'->Q (.ref D) H'):
 zg0 js g tc te σ Q (Itr lo n) H D:=by
 refine ⟨fun i m σ H=>m=n-i/\i<=n/\Pv i σ H,⟨n,by simp,ZBa _,h0⟩,?_⟩
 rintro i m σ' H' ⟨rfl,hi,p⟩
 by_cases hlt:i<n
 ·refine .inr ⟨hlt,Pv (i+1),fun σ2 H2 p'=>⟨n-(i+1),by lia,rfl,hlt,p'⟩,fun x H2 y=>?_⟩
  obtain ⟨e,y⟩:=y
  subst e y
  exact hs i σ' _ hlt p
 ·have e:i=n:=by lia
  subst e
  exact .inl ⟨ZAw _,hd σ' H' p⟩
theorem zbv {K:ZCa} {a:Addr} {xs:List V} (Pv:Nat->St->Hp->Prop) (h0:Pv 0 (zfq js σ) (upd H D (.lst []))) (hl:∀i σ' H',i<=xs.length->Pv i σ' H'->SqL K H' a xs)
 (hs:∀i x σ' H',xs[i]?=some x->Pv i σ' H'->g x σ' H' fun σ3 H3=>tc σ3 H3 fun ok H4=>if ok=true then te σ3 H4 fun y H5=>∃ys,H5 D=some (.lst ys)/\ys.length<sizeLine/\Pv (i+1) σ3 (upd H5 D (.lst (ys++[y]))) else Pv (i+1) σ3 H4)
 (hd:∀σ' H',Pv xs.length σ' H'->Q (.ref D) H'):
 zg0 js g tc te σ Q (Itl K a) H D:=by
 refine ⟨fun i m σ H=>m=xs.length-i/\i<=xs.length/\Pv i σ H,⟨xs.length,by simp,ZBa _,h0⟩,?_⟩
 rintro i m σ' H' ⟨rfl,hi,p⟩
 have q:=hl i σ' H' hi p
 by_cases hlt:i<xs.length
 ·refine .inr ⟨⟨xs,xs[i],q,by simp [hlt]⟩,Pv (i+1),fun σ2 H2 p'=>⟨xs.length-(i+1),by lia,rfl,hlt,p'⟩,fun x H2 y=>?_⟩
  obtain ⟨e,y⟩:=y
  subst e
  exact hs i x σ' _ (y xs q) p
 ·have e:i=xs.length:=by lia
  subst e
  exact .inl ⟨⟨xs,q,ZAw _⟩,hd σ' H' p⟩
end
end L2
set_option maxHeartbeats 4000000
namespace L2
open PySem PySem.Spec PyProof.Rows
section
variable {P:Program} {w:World} {H:Hp} {h:Heap} {a d C:Addr} {dx:Option Addr} {t:Addr} {fs:List (Str×V)}
end
section
variable {prog:Program} {w:World} {A:Around} {E:Value->Shared->Prop} {h:Heap} {g:Array GenState} {d:Drawn} {t:Nat} {os:OsState}
variable {nm q:Str} {C N:Addr} {bs bm:List Value} {hdct:Bool} {sn:List Str} {sub:List Value} {ab:Bool} {col:Option Bool} {dd:Option Addr} {k0 k1 k2 k3 k5:Option Value}
end
section
variable {X:Cx} {CX:CXT} {k:Nat} {f C Mo:Addr} {fd:FuncData} {ps:List Str} {sp:Sp} {E:XK} {x:Str} {p pos:Pos} {e:Expr} {es:List Expr} {t:TA}
end
open PySem PySem.Spec PyProof.Rows Builtin Builtin.ObjectAttr
section
variable {M:Model} {A:Around} {E:Value->Shared->Prop} {s:Shared} {base h0:Heap} {H:Hp} {env:Env} {outer:List Env} {L a C:Addr} {dx:Option Addr}
end
section
variable {P:Program} {w:World} {K:ZCa} {mg:Str->Option Value} {base:Heap} {N:List Str} {qual:Str} {scope:Scope} {f:Addr} {cd:Value} {A:Around} {outer:List Env} {s:Shared} {H:Hp} {EX:XK}
end
section
variable {P:Program} {w:World} {K:ZCa} {mg:Str->Option Value} {base:Heap} {N:List Str} {qual:Str} {scope:Scope} {f:Addr} {cd:Value} {A:Around} {outer:List Env} {s:Shared} {H:Hp} {EX:XK}
end
section
variable {X:Cx} {pins pins':List (Addr×Obj)} {Ex:Addr->Option Addr->St->Hp->Prop} {σ:St} {H:Hp} {s:Shared} {e:Value}
end
section
variable {X:Cx} {a b c d:Expr} {ta tb tc td:TE} {pos:Pos}
def zt8 (r r' r'':R2) (ta tb tc td:TE):TE:=fun σ H Q=>ta σ H fun x H1=>tb σ H1 fun y H2=>r x y H2 fun z H3=>∃k,z=.bl k/\
 (if k=true then tc σ H3 fun x2 H4=>r' y x2 H4 fun z2 H5=>∃k2,z2=.bl k2/\(if k2=true then td σ H5 fun x3 H6=>r'' x2 x3 H6 Q else Q (.bl false) H5) else Q (.bl false) H3)
theorem zkp {op op' op'':CmpOp} {r r' r'':R2} (ho:OpR X (compareOp op) r) (ho':OpR X (compareOp op') r') (ho'':OpR X (compareOp op'') r'') (ha:PE X a ta) (hb:PE X b tb) (hc:PE X c tc) (hd:PE X d td)
 (hm:lastMarks [op,op',op''] [b,c,d]=false:=by with_unfolding_all rfl):PT X (.Compare a [op,op',op''] [b,c,d] pos) (zrl (zt8 r r' r'' ta tb tc td)):=by
 intro pins s σ H Q I h
 refine isTrue_chain (thn (ha pins s σ H _ I h) fun v s1 zz=>L2.el5 zz fun x H1 I1 r1 q1=>test_link (thn (hb pins s1 σ H1 _ I1 q1) fun u s2 zz=>L2.el5 zz fun y H2 I2 r2 q2=>
  thn (ho pins s2 σ H2 x y v u _ I2 r1 r2 q2) fun z s3 zz=>?_)) hm
 obtain ⟨z',H3,I3,r3,k,e,q3⟩:=zz
 subst e
 cases r3
 refine wpAny_truthy_bool ?_
 cases k with
 | false=>
  obtain ⟨k',e',q'⟩:=q3
  cases e'
  exact ite_ff ⟨H3,I3,q'⟩
 | true=>
  refine ite_tt (test_link (thn (hc pins s3 σ H3 _ I3 q3) fun x2 s4 zz=>L2.el5 zz fun y4 H4 I4 r4 q4=>thn (ho' pins s4 σ H4 y y4 u x2 _ I4 r2 r4 q4) fun z2 s5 zz=>?_))
  obtain ⟨z5,H5,I5,r5,k2,e2,q5⟩:=zz
  subst e2
  cases r5
  refine wpAny_truthy_bool ?_
  cases k2 with
  | false=>
   obtain ⟨k',e',q'⟩:=q5
   cases e'
   exact ite_ff ⟨H5,I5,q'⟩
  | true=>
   refine ite_tt (test_last (thn (hd pins s5 σ H5 _ I5 q5) fun x3 s6 zz=>L2.el5 zz fun y6 H6 I6 r6 q6=>thn (ho'' pins s6 σ H6 y4 y6 x2 x3 _ I6 r4 r6 q6) fun z3 s7 zz=>?_))
   obtain ⟨z7,H7,I7,r7,k3,e3,q7⟩:=zz
   subst e3
   cases r7
   exact wpAny_truthy_bool ⟨H7,I7,q7⟩
theorem zqh {ns:List Int}:∀{us:List Value},zcc (ns.map V.int) us->IntsAre us ns:=by
 induction ns with
 | nil=>intro us h;cases h;exact .nil
 | cons n r ih=>
  intro us h
  cases h with
  | cons q t=>
   obtain ⟨tk,rfl⟩:=q
   exact .cons n tk (ih t)
def zAk (K:ZCa) (neg:Bool):R2:=fun x y H Q=>∃(p q:Addr) (ns ms:List Int),x=.ref p/\y=.ref q/\SqL K H p (ns.map V.int)/\SqL K H q (ms.map V.int)/\Q (.bl (if neg then !decide (ns=ms) else decide (ns=ms))) H
theorem zti (hu:X.A.units+64<cLine):OpR X (compareOp .NotEq) (zAk X.K true):=by
 intro pins s σ H x y v u Q I rx ry h
 obtain ⟨p,q,ns,ms,rfl,rfl,h1,h2,hq⟩:=h
 cases rx
 cases ry
 obtain ⟨its,r1,p1,_⟩:=I.list h1
 obtain ⟨its2,r2,p2,_⟩:=I.list h2
 exact PySem.W.ke_ne_ints p1.isList p2.isList (zqh r1) (zqh r2) hu ⟨.bl _,H,I,rfl,hq⟩
end
section
variable {Y:Cx} {K:ZCa} {tg:Expr}
theorem zu6 (h:Y.K=K):IxR Y (zzi K):=by subst h;exact ztk
theorem zkt (h:Y.K=K):OpR Y (compareOp .NotIn) (rIn K true):=by subst h;exact ze3
theorem zjm {es:List Expr} {k:Nat} {t:TGs} {n:Nat} {pos:Pos} (hK:Y.K=K) (hc:Y.calm=true) (h:PGs Y es t) (hn:(assignEach es Y.env).length=n:=by rfl) (hst:(assignEach es Y.env).findIdx? (·.1)=none:=by rfl):PG Y (.Tuple es k pos) (zzn K n t):=by
 subst hK;exact ziz hc h hn hst
end
section
variable {P:Program} {w:World} {H:Hp} {h:Heap} {a C:Addr} {dx:Option Addr} {t tb:Value}
end
section
variable {X:Cx} {pins:List (Addr×Obj)} {σ:St} {H:Hp} {s:Shared} {a C:Addr} {dx:Option Addr} {t tb:Value}
end
open PySem PySem.Spec PyProof.Rows Builtin
section
variable {prog:Program} {w:World} {A:Around} {E:Value->Shared->Prop} {s:Shared} {K:ZCa} {x C:Addr} {ox od:Obj} {name:Str}
end
section
variable {X:Cx} {K:ZCa} {e:Expr} {f:Str} {pos:Pos} {ta:TE}
end
section
end
section
variable {X:Cx} {CX:CXT} {k:Nat} {f:Addr} {fd:FuncData} {ps:List Str} {sp:Sp} {dvs:List V} {ds:List Value} {E:XK} {x:Str} {p pos:Pos} {e:Expr} {es:List Expr} {t:TA}
end
def zsr (xs ys:List V):Bool:=(List.range xs.length).all fun j=>eqV (xs.getD j .non) (ys.getD j .non)
theorem zgi:∀{xs:List V} {j:Nat} {x:V},xs.all zdp=true->xs[j]?=some x->zdp x=true
 | [],_,_,_,e=>by simp at e
 | y::xs,j,x,h,e=>by
  rw [List.all_cons,Bool.and_eq_true] at h
  cases j with
  | zero=>simp at e;subst e;exact h.1
  | succ j=>exact zgi h.2 (by simpa using e)
theorem zqq {A:Around} {s:Shared} {xs ys:List V} {us vs:List Value} (r1:zcc xs us) (r2:zcc ys vs) (f1:xs.all zdp=true) (f2:ys.all zdp=true) (j:Nat) (h1:j<us.toArray.size) (h2:j<vs.toArray.size):
 SeqAt.EqAt A s us.toArray[j] vs.toArray[j] (eqV (xs.getD j .non) (ys.getD j .non)):=by
 have l1:=r1.length
 have l2:=r2.length
 rw [ZA2] at h1 h2
 have g1:xs[j]?=some (xs.getD j .non):=by rw [ZB0,ZAx (by omega)];rfl
 have g2:ys[j]?=some (ys.getD j .non):=by rw [ZB0,ZAx (by omega)];rfl
 obtain ⟨u,hu,ru⟩:=r1.get g1
 obtain ⟨v,hv,rv⟩:=r2.get g2
 have e1:us.toArray[j]=u:=by
  have:=(ZAv.mp hu).2
  simpa using this
 have e2:vs.toArray[j]=v:=by
  have:=(ZAv.mp hv).2
  simpa using this
 rw [e1,e2]
 exact ztq ru rv (zgi f1 g1) (zgi f2 g2)
section
variable {X:Cx} {K:ZCa}
end
section
variable {X:Cx} {K:ZCa}
end
section
variable {X:Cx} {pins0:List (Addr×Obj)} {Ex:Addr->Option Addr->St->Hp->Prop} {k:Nat} {f:Addr} {fd:FuncData} {ps:List Str} {sp:Sp} {dvs:List V} {ds:List Value} {x:Str} {p pos:Pos} {e:Expr} {es:List Expr} {t:TA}
end
def zxo (t u:TS):TS:=fun D σ H=>∀N:St->Hp->Prop,(∀σ' H',u D σ' H'->N σ' H')->t { D with nx:=N } σ H
theorem zac {X:Cx} {st:Stmt} {rest:List Stmt} {t u:TS} (h1:PS X st t) (h2:PSs X rest u):PSs X (st::rest) (zxo t u):=fun pins s σ H D I h=>zah h1 h2 pins s σ H D I (h (u D) fun _ _ z=>z)
def zul:R2:=fun x y H Q=>∃p xs i v,x=.ref p/\y=.int i/\H p=some (.lst xs)/\atI xs i=some v/\Q v H
def zuk:R2:=fun x y H Q=>∃p xs i v,x=.ref p/\y=.int i/\H p=some (.tup xs)/\atI xs i=some v/\Q v H
theorem zal {X:Cx}:IxR X zul:=by
 intro value slice pins s σ H x y v u Q I rx ry zz hs
 obtain ⟨p,xs,i,v',e1,e2,h,e,q⟩:=zz
 exact zqd value slice pins s σ H x y v u Q I rx ry ⟨p,xs,i,v',e1,e2,SqL.of h,e,q⟩ hs
theorem zu7 {X:Cx}:IxR X zuk:=by
 intro value slice pins s σ H x y v u Q I rx ry zz hs
 obtain ⟨p,xs,i,v',e1,e2,h,e,q⟩:=zz
 exact ztk value slice pins s σ H x y v u Q I rx ry ⟨p,xs,i,v',e1,e2,SqT.of h,e,q⟩ hs
theorem ixT {X:Cx} {a:Expr} {ta:TE} {k:Int} {j pos pos2} (h:PE X a ta):PE X (.Subscript a (.Constant (.int k) j pos2) pos) (tOp zuk ta (tC (.int k))):=zbj zu7 h zaj (fun _ _=>rfl)
theorem rdT {σ:St} {H:Hp} {p:Addr} {xs:List V} {i:Int} {v:V} {Q:VK} (h:H p=some (.tup xs)) (e:atI xs i=some v) (q:Q v H):tC (.int i) σ H fun y H2=>zuk (.ref p) y H2 Q:=⟨p,xs,i,v,rfl,rfl,h,e,q⟩
theorem rdL {σ:St} {H:Hp} {p:Addr} {xs:List V} {i:Int} {v:V} {Q:VK} (h:H p=some (.lst xs)) (e:atI xs i=some v) (q:Q v H):tC (.int i) σ H fun y H2=>zul (.ref p) y H2 Q:=⟨p,xs,i,v,rfl,rfl,h,e,q⟩
theorem zvq {σ:St} {H:Hp} {p:Addr} {xs:List V} {j:Nat} {i:Int} {v:V} {Q:VK} (h0:σ[j]?=some (some (.int i))) (h:H p=some (.lst xs)) (e:atI xs i=some v) (q:Q v H):zt3 j σ H fun y H2=>zul (.ref p) y H2 Q:=⟨.int i,h0,p,xs,i,v,rfl,rfl,h,e,q⟩
end L2
namespace MA
end MA
namespace MB
open MA
end MB
namespace Y0
open PySem L2
def top (i:Nat):Stmt:=PySem.Challenge.pw_momentties_k14_deeds_by_the_rule.main.body.getD i (.Pass ⟨0,0,0,0⟩)
abbrev sP_room_bounds:Stmt:=top 7
abbrev sP_span_bounds:Stmt:=top 8
abbrev sP_bounds_with:Stmt:=top 9
abbrev sP_told_bounds:Stmt:=top 10
abbrev sP_falls_by_end:Stmt:=top 13
abbrev sP_by_sum:Stmt:=top 14
abbrev sP_by_late:Stmt:=top 15
abbrev sP_by_soon:Stmt:=top 16
abbrev sP_by_sure:Stmt:=top 17
abbrev sP_by_back:Stmt:=top 18
abbrev sP_by_cross:Stmt:=top 19
abbrev sP_what_follows:Stmt:=top 20
abbrev sP_bars_every_hand:Stmt:=top 21
abbrev sC_Closing_init:Stmt:=zbk (top 23) 0
abbrev sC_Closing_is_news:Stmt:=zbk (top 23) 1
abbrev sC_Closing_take:Stmt:=zbk (top 23) 2
abbrev sC_Closing_draw:Stmt:=zbk (top 23) 3
abbrev sC_Closing_known_of:Stmt:=zbk (top 23) 4
abbrev sC_Closing_ties_to:Stmt:=zbk (top 23) 5
abbrev sC_Closing_draw_from_tie:Stmt:=zbk (top 23) 6
abbrev sC_Closing_draw_from_wait:Stmt:=zbk (top 23) 7
abbrev sC_Closing_draw_all:Stmt:=zbk (top 23) 8
abbrev sC_Closing_best_drawn:Stmt:=zbk (top 23) 9
abbrev sP_numbers_needed:Stmt:=top 24
abbrev sP_paper_up_to:Stmt:=top 25
abbrev sP_is_told:Stmt:=top 26
abbrev sP_kept:Stmt:=top 27
abbrev sC_Hand_init:Stmt:=zbk (top 29) 0
abbrev sC_Hand_times:Stmt:=zbk (top 29) 1
abbrev sC_Hand_is_in_fall:Stmt:=zbk (top 29) 3
abbrev sC_Hand_look_over_end:Stmt:=zbk (top 29) 4
abbrev sC_Hand_look_over:Stmt:=zbk (top 29) 5
abbrev sC_Hand_tie_lets:Stmt:=zbk (top 29) 6
abbrev sC_Hand_wait_lets:Stmt:=zbk (top 29) 7
abbrev sC_Hand_lets:Stmt:=zbk (top 29) 8
abbrev sC_Hand_all_let:Stmt:=zbk (top 29) 9
abbrev sC_Hand_goes:Stmt:=zbk (top 29) 10
abbrev sP_are_two_moments:Stmt:=top 35
abbrev sP_look_over_size:Stmt:=top 36
abbrev sP_look_over_ties:Stmt:=top 37
abbrev sP_look_over_falls:Stmt:=top 38
abbrev sC_Web_init:Stmt:=zbk (top 39) 0
abbrev sC_Web_ties:Stmt:=zbk (top 39) 1
abbrev sC_Web_falls:Stmt:=zbk (top 39) 2
abbrev sC_Web_own:Stmt:=zbk (top 39) 3
abbrev sNext:Stmt:=top 41
abbrev sNamed:Stmt:=top 42
abbrev sFalls:Stmt:=top 43
abbrev sTies:Stmt:=top 44
abbrev sWeb:Stmt:=top 45
abbrev sL_lets:Stmt:=top 46
abbrev sL_due:Stmt:=top 47
abbrev sLaw:Stmt:=top 48
structure Fn (K:ZCa) (mg:Str->Option Value) (x:Str) (st:Stmt) (ps:List Str) (f:Addr) (fd:FuncData):Prop where
 F:Fun K x x st f fd
 b:zb5 K fd ps []
 g:mg x=some (.ref f)
theorem pcl {X:Cx} {k:Nat} {f:Addr} {fd:FuncData} {ps:List Str} {sp:Sp} {x:Str} {st:Stmt} {e:Expr} {es:List Expr} {t:TA} {p pos:Pos} (G:za3 X.prog X.w X.K X.mg X.base CX0 k f fd ps sp) (hr:zd2 k X.A) (F:Fn X.K X.mg x st ps f fd) (ha:PA X (e::es) t) (hg:Gl X x:=by rfl) (hdb:(x==("__debug__":Str))=false:=by decide) (he:starEach (e::es) X.env=(false,eval e X.env)::starEach es X.env:=by rfl) (hpl:(backTo pos (starEach es X.env)).any (·.1)=false:=by rfl):PE X (.Call (.Name x p) (e::es) [] pos) (zv4 sp [] E0 t):=zus G hr hg F.g F.F.kp F.b .nil zb3 ha hdb he hpl
end Y0
namespace L2
open PySem
def zcw (d:Addr) (H H':Hp):Prop:=∀b o,H b=some o->b≠d->H' b=some o
theorem zcw.refl (d:Addr) (H:Hp):zcw d H H:=fun _ _ e _=>e
theorem zcw.trans {d:Addr} {H H1 H2:Hp} (x:zcw d H H1) (y:zcw d H1 H2):zcw d H H2:=fun b o e n=>y b o (x b o e n) n
theorem zbe.keep {d:Addr} {H H1:Hp} (x:zbe H H1):zcw d H H1:=fun b o e _=>x b o e
theorem zag {H:Hp} {p:Addr} {o:HO} (h:H p=none):zbe H (upd H p o):=fun b u e=>by rw [zaf (zaa e h)];exact e
end L2
namespace Y0
open PySem L2
def zie (K:ZCa) (H:Hp) (sa:Addr) (ns:List Int):Prop:=(∃o,H sa=some (.frz o (.lst (ns.map V.int))))\/
 ∃(o:Obj) (its:Array Value) (n:Nat),K.lookup sa=some o/\o.cls=.type "list"/\o.dict=none/\o.data=.seq its n/\its.size<=sizeLine/\zcc (ns.map V.int) its.toList
theorem zie.sq {K:ZCa} {H:Hp} {sa:Addr} {ns:List Int} (h:zie K H sa ns):SqL K H sa (ns.map V.int):=by
 rcases h with ⟨o,h⟩ | h
 ·exact .inl (.inr ⟨o,h⟩)
 ·exact .inr h
theorem zie.same {K:ZCa} {H H1:Hp} {sa:Addr} {ns:List Int} (h:zie K H sa ns) (k:zbe H H1):zie K H1 sa ns:=by
 rcases h with ⟨o,h⟩ | h
 ·exact .inl ⟨o,k _ _ h⟩
 ·exact .inr h
theorem zie.keep {K:ZCa} {H H1:Hp} {sa l:Addr} {ns:List Int} {xs:List V} (h:zie K H sa ns) (k:zcw l H H1) (hl:H l=some (.lst xs)):zie K H1 sa ns:=by
 rcases h with ⟨o,h⟩ | h
 ·exact .inl ⟨o,k _ _ h (zao h hl nofun)⟩
 ·exact .inr h
structure zew (K:ZCa) (sa:Addr) (H:Hp) (d:Addr):Prop where
 at_:∃p:Nat,H d=some (.lst [.ref sa,.int p])
 scr:∃ns:List Int,zie K H sa ns
theorem zew.same {K:ZCa} {sa d:Addr} {H H1:Hp} (x:zew K sa H d) (k:zbe H H1):zew K sa H1 d:=by
 obtain ⟨⟨p,h⟩,⟨ns,r⟩⟩:=x
 exact ⟨⟨p,k _ _ h⟩,⟨ns,r.same k⟩⟩
def zki (K:ZCa):Sp:=fun vs H Q _=>∃d sa m,vs=[.ref d,.int m]/\zew K sa H d/\1<=m/\∀r H',0<=r->r<m->zew K sa H' d->zcw d H H'->Q (.int r) H'
theorem scN:zam ["_law_dice","_law_many"] ["_law_dice","_law_many"] (zae sNext):=scm
theorem ok_next {f:Addr} {fd:FuncData} (F:Fn K mg "_law_next" sNext ["_law_dice","_law_many"] f fd) (len:mg "len"=none):za3 P w K mg base CX0 1 f fd ["_law_dice","_law_many"] (zki K):=by
 refine F.F.ok scN (fun _ _ _ _ h=>?_) fun _ A _ s H _ Q E hr h=>?_
 ·obtain ⟨d,sa,m,rfl,_⟩:=h
  rfl
 ·obtain ⟨d,sa,m,rfl,D,hm,k⟩:=h
  obtain ⟨⟨p,hd⟩,⟨ns,hs0⟩⟩:=id D
  refine ⟨_,zah (zkq (zba zb8 (zbj zal (pv 0) zaj (fun _ _=>rfl)) zaj) (zks (pv 0) zaj zf8))
   (zah (zbn (zcy zr2 (zbj zal (pv 0) zaj (fun _ _=>rfl)) (zbs zcz (by rfl) len ZAn (pa1 (zbj zal (pv 0) zaj (fun _ _=>rfl))))) (zad (zaq zaj)) zap)
   (zad (zaq (zba zp3 (zbj zqd (zbj zal (pv 0) zaj (fun _ _=>rfl)) (zba zcm (zbj zal (pv 0) zaj (fun _ _=>rfl)) zaj) (fun _ _=>rfl)) (pv 1))))),?_⟩
  refine ⟨_,rfl,rdL hd rfl ⟨_,_,rfl,rfl,_,rfl,_,_,_,_,rfl,rfl,hd,rfl,?_⟩⟩
  have hd1:upd H d (.lst ([V.ref sa,V.int p].set 1 (.int ((p:Int)+1)))) d=some (.lst [.ref sa,.int ((p:Int)+1)]):=zab
  have kp:zcw d H (upd H d (.lst ([V.ref sa,V.int p].set 1 (.int ((p:Int)+1))))):=fun b o e n=>by rw [zaf n];exact e
  have hs2:=hs0.keep kp hd
  have hs1:=hs2.sq
  have D1:zew K sa (upd H d (.lst ([V.ref sa,V.int p].set 1 (.int ((p:Int)+1))))) d:=⟨⟨p+1,hd1⟩,⟨ns,hs2⟩⟩
  refine ⟨_,rfl,rdL hd1 rfl ⟨_,rfl,rdL hd1 rfl ⟨_,_,rfl,.inl hs1,_,_,rfl,rfl,_,rfl,?_⟩⟩⟩
  refine znb (fun _=>?_) (fun hc=>?_)
  ·exact k 0 _ (Int.le_refl _) (by lia) D1 kp
  ·have hlt:p<ns.length:=by
    rw [ZAu] at hc
    simp only [ZBy] at hc
    lia
   have ha:atI (ns.map V.int) ((p:Int)+1-1)=some (.int ns[p]):=by
    rw [show (p:Int)+1-1=((p:Nat):Int) by lia]
    exact zb1 (by rw [ZA0,ZAx hlt];rfl)
   refine ⟨_,rfl,rdL hd1 rfl ⟨_,rfl,rdL hd1 rfl ⟨_,_,rfl,rfl,_,_,_,_,rfl,rfl,hs1,ha,_,rfl,_,_,rfl,rfl,(by show (0:Int)<m;lia),?_⟩⟩⟩
   exact k _ _ (Int.emod_nonneg _ (by lia)) (Int.emod_lt_of_pos _ (by lia)) D1 kp
end Y0
namespace L2
open PySem
def zzy (t:TS):TS:=fun D σ H=>∃R:St->Hp->Prop,t { D with nx:=R } σ H/\∀σ' H',R σ' H'->D.nx σ' H'
theorem ziw {X:Cx} {st:Stmt} {t:TS} (h:PS X st t):PS X st (zzy t):=by
 intro pins s σ H D I hw
 obtain ⟨R,h1,h2⟩:=hw
 refine thn (h pins s σ H _ I h1) fun f s1 q=>?_
 cases f with
 | next=>obtain ⟨σ',H',I',r⟩:=q;exact ⟨σ',H',I',h2 σ' H' r⟩
 | brk=>exact q
 | cont=>exact q
 | ret v=>exact q
def zc7 (H:Hp) (a:Addr) (ps:List Addr) (rows:List (List Int)):Prop:=H a=some (.lst (ps.map V.ref))/\Paired (fun p r=>H p=some (.tup (r.map V.int))) ps rows
def zbi (H:Hp) (a:Addr) (rows:List (List Int)):Prop:=∃ps,zc7 H a ps rows
theorem zai {α β:Type} {F G:α->β->Prop} {l:List α} {m:List β} (h:Paired F l m) (i:∀a b,F a b->G a b):Paired G l m:=Paired.mapP h i
theorem zc7.same {H H':Hp} {a:Addr} {ps:List Addr} {rows:List (List Int)} (h:zc7 H a ps rows) (k:zbe H H'):zc7 H' a ps rows:=⟨k _ _ h.1,zai h.2 fun _ _ e=>k _ _ e⟩
theorem zc7.keep {H H':Hp} {a d:Addr} {ps:List Addr} {rows:List (List Int)} {xs:List V} (h:zc7 H a ps rows) (k:zcw d H H') (hd:H d=some (.lst xs)) (ne:a≠d):zc7 H' a ps rows:=
 ⟨k _ _ h.1 ne,zai h.2 fun _ _ e=>k _ _ e (zao e hd nofun)⟩
theorem zbi.same {H H':Hp} {a:Addr} {rows:List (List Int)} (h:zbi H a rows) (k:zbe H H'):zbi H' a rows:=let ⟨ps,r⟩:=h;⟨ps,r.same k⟩
theorem zbi.keep {H H':Hp} {a d:Addr} {rows:List (List Int)} {xs:List V} (h:zbi H a rows) (k:zcw d H H') (hd:H d=some (.lst xs)) (ne:a≠d):zbi H' a rows:=let ⟨ps,r⟩:=h;⟨ps,r.keep k hd ne⟩
theorem zc7.len {H:Hp} {a:Addr} {ps:List Addr} {rows:List (List Int)} (h:zc7 H a ps rows):ps.length=rows.length:=h.2.length
theorem zc7.push {H:Hp} {a p:Addr} {ps:List Addr} {rows:List (List Int)} {r:List Int} (h:zc7 H a ps rows) (hp:H p=some (.tup (r.map V.int))):zc7 (upd H a (.lst (ps.map V.ref++[.ref p]))) a (ps++[p]) (rows++[r]):=by
 have na:∀q xs,H q=some (.tup xs)->q≠a:=fun q xs e=>zao e h.1 nofun
 refine ⟨by rw [zab,ZA9];rfl,Paired.snoc (zai h.2 fun q r e=>?_) ?_⟩
 ·rw [zaf (na q _ e)];exact e
 ·rw [zaf (na p _ hp)];exact hp
theorem zck {d l:Addr} {H0 H:Hp} {o:HO} (k:zcw d H0 H) (h:H0 l=none):zcw d H0 (upd H l o):=fun b u e n=>by
 rw [zaf (zaa e h)]
 exact k b u e n
theorem zcw.free {d l:Addr} {H0 H:Hp} (k:zcw d H0 H) (h:H l=none) (hd:∃o,H d=some o):H0 l=none:=by
 cases q:H0 l with
 | none=>rfl
 | some o=>
  by_cases e:l=d
  ·subst e
   obtain ⟨o',e'⟩:=hd
   rw [h] at e'
   cases e'
  ·rw [k l o q e] at h
   cases h
end L2
namespace Y0
open PySem L2
theorem zew.there {K:ZCa} {sa d:Addr} {H:Hp} (x:zew K sa H d):∃o,H d=some o:=let ⟨p,e⟩:=x.at_;⟨_,e⟩
theorem zew.upd {K:ZCa} {sa d l:Addr} {H:Hp} {o:HO} {xs:List V} (x:zew K sa H d) (hl:H l=some (.lst xs)) (hd:l≠d):zew K sa (upd H l o) d:=by
 obtain ⟨⟨p,h⟩,⟨ns,r⟩⟩:=x
 exact ⟨⟨p,by rw [zaf (ZAl hd)];exact h⟩,⟨ns,r.keep (fun b u e n=>by rw [zaf n];exact e) hl⟩⟩
theorem zew.new {K:ZCa} {sa d l:Addr} {H:Hp} {o:HO} (x:zew K sa H d) (hl:H l=none):zew K sa (L2.upd H l o) d:=x.same (zag hl)
def zbt (m n t:Int):Int:=if m=0 then 0 else 1+(m-1+t) % (n-1)
def zo7:Sp:=fun vs H Q _=>∃m n t,vs=[.int m,.int n,.int t]/\2<=n/\Q (.int (zbt m n t)) H
theorem zz6:zam ["_law_moment","_law_many","_law_turn"] ["_law_moment","_law_many","_law_turn"] (zae sNamed):=scm
theorem ok_named {f:Addr} {fd:FuncData} (F:Fn K mg "_law_named" sNamed ["_law_moment","_law_many","_law_turn"] f fd):za3 P w K mg base CX0 1 f fd ["_law_moment","_law_many","_law_turn"] zo7:=by
 refine F.F.ok zz6 (fun _ _ _ _ h=>?_) fun _ A _ s H _ Q E hr h=>?_
 ·obtain ⟨m,n,t,rfl,_⟩:=h
  rfl
 ·obtain ⟨m,n,t,rfl,hn,k⟩:=h
  refine ⟨_,zah (zbn (zcy zcf (pv 0) zaj) (zad (zaq zaj)) zap)
   (zad (zaq (zba zb8 zaj (zba zp3 (zba zb8 (zba zcm (pv 0) zaj) (pv 2)) (zba zcm (pv 1) zaj))))),?_⟩
  refine ⟨_,rfl,rfl,_,rfl,?_⟩
  refine znb (fun hc=>?_) (fun hc=>?_)
  ·have e:m=0:=by simpa using hc
   have q:zbt m n t=0:=by unfold zbt;rw [if_pos e]
   rw [q] at k
   exact k
  ·have e:¬m=0:=by simpa using hc
   have q:zbt m n t=1+(m-1+t) % (n-1):=by unfold zbt;rw [if_neg e]
   rw [q] at k
   exact ⟨_,rfl,_,_,rfl,rfl,_,rfl,_,_,rfl,rfl,_,rfl,_,_,rfl,rfl,_,_,rfl,rfl,(by show (0:Int)<n-1;lia),_,_,rfl,rfl,k⟩
def zek (n:Int) (c:Nat) (rows:List (List Int)):Prop:=∀(k:Nat) r,rows[k]?=some r->∃a l m:Int,r=[a,n-1-k,l,m]/\0<=a/\a<n-c/\1<=l/\l<=m/\m<=60
theorem zek.snoc {n:Int} {c:Nat} {rows:List (List Int)} {a l m:Int} (h:zek n c rows) (h1:0<=a) (h2:a<n-c) (h3:1<=l) (h4:l<=m) (h5:m<=60):zek n c (rows++[[a,n-1-rows.length,l,m]]):=by
 intro k r e
 by_cases hk:k<rows.length
 ·rw [ZBq hk] at e
  exact h k r e
 ·rw [ZBk (by lia)] at e
  have hk':k-rows.length=0:=by
   cases q:k-rows.length with
   | zero=>rfl
   | succ z=>rw [q] at e;simp at e
  rw [hk'] at e
  cases e
  have:k=rows.length:=by lia
  subst this
  exact ⟨a,l,m,rfl,h1,h2,h3,h4,h5⟩
def Few (wd:Int) (rows:List (List Int)):Prop:=wd≠8->rows.length<=3/\∀r∈rows,r.getD 3 0-r.getD 2 0<wd
def zpe (K:ZCa):Sp:=fun vs H Q _=>∃d sa n wd,vs=[.ref d,.int n,.int wd]/\zew K sa H d/\2<=n/\n<=8/\1<=wd/\wd<=8/\
 ∀(l:Addr) (c:Nat) rows H',(c:Int)<=n-1->rows.length=c->zek n c rows->zbi H' l rows->H l=none->zew K sa H' d->zcw d H H'->Few wd rows->Q (.ref l) H'
abbrev nF:List Str:=["_law_d","_law_many","_law_wide","_law_count","_law_falls_here","_law_k","_law_least","_law_most"]
theorem scF:zam nF ["_law_d","_law_many","_law_wide"] (zae sFalls):=scm
theorem ok_falls {f fN:Addr} {fd fdN:FuncData} (F:Fn K mg "_law_falls" sFalls ["_law_d","_law_many","_law_wide"] f fd) (FN:Fn K mg "_law_next" sNext ["_law_dice","_law_many"] fN fdN)
 (GN:za3 P w K mg base CX0 1 fN fdN ["_law_dice","_law_many"] (zki K)) (min:mg "min"=none) (range:mg "range"=none):za3 P w K mg base CX0 2 f fd ["_law_d","_law_many","_law_wide"] (zpe K):=by
 refine F.F.ok scF (fun _ _ _ _ h=>?_) fun _ A _ s H _ Q E hr h=>?_
 ·obtain ⟨d,sa,n,wd,rfl,_⟩:=h
  rfl
 ·obtain ⟨d,sa,n,wd,rfl,D,hn1,hn2,hw1,hw2,k⟩:=h
  refine ⟨_,zah (za9 3 scF.nd (pcl GN hr FN (pa2 (pv 0) (zba zb8 (zbs (ze7 rfl) (by rfl) min (by decide+kernel) (pa2 zaj (zba zcm (pv 1) zaj))) zaj))))
   (zah (ziw (zbn (PW.pt (zdg (zcy zcf (pv 2) zaj) (zdk (zcy zcf (pcl GN hr FN (pa2 (pv 0) zaj)) zaj))))
    (zad (za9 3 scF.nd (pcl GN hr FN (pa2 (pv 0) (pv 1))))) zap))
   (zah (za9 4 scF.nd (zen zfs))
   (zah (zb7 PassesOwn.never rfl (zcs rfl range (pa1 (pv 3))) (zci 5 scF.nd)
    (zah (za9 6 scF.nd (zba zb8 zaj (pcl GN hr FN (pa2 (pv 0) (pv 2)))))
    (zah (za9 7 scF.nd (zba zb8 (pv 6) (pcl GN hr FN (pa2 (pv 0) (pv 2)))))
    (zah (ziw (zbn (PW.pt (zdg (zcy zcf (pv 2) zaj) (zdk (zcy zcf (pcl GN hr FN (pa2 (pv 0) zaj)) zaj))))
     (zah (za9 6 scF.nd (zba zb8 zaj (pcl GN hr FN (pa2 (pv 0) zaj))))
     (zad (za9 7 scF.nd (zba zb8 (pv 6) (pcl GN hr FN (pa2 (pv 0) (zba zcm zaj (pv 6)))))))) zap))
    (zad (za7 (zhy ZAr ZAs ZAt zcg (pv 4)
     (pa1 (zbf (pa4 (pcl GN hr FN (pa2 (pv 0) (zba zcm (pv 1) (pv 3)))) (zba zcm (zba zcm (pv 1) zaj) (pv 5)) (pv 6) (pv 7)))))))))))
   (zad (zaq (pv 4)))))),?_⟩
  refine ⟨_,rfl,_,rfl,_,_,rfl,rfl,_,_,rfl,_,_,rfl,rfl,d,sa,_,rfl,D,(by split<;>lia),fun c0 H1 hc0 hc1 D1 k1=>?_⟩
  have hc2:c0<=n-1:=by
   revert hc1
   split<;>intro hc1<;>lia
  have hc3:c0<=3:=by
   revert hc1
   split<;>intro hc1<;>lia
  refine ⟨fun σ' H'=>∃c:Nat,(c:Int)<=n-1/\(wd≠8->c<=3)/\σ'=[some (.ref d),some (.int n),some (.int wd),some (.int (c:Int)),none,none,none,none]/\zew K sa H' d/\zcw d H H',?_,?_⟩
  ·
   refine ⟨_,rfl,rfl,_,rfl,?_⟩
   refine znb (fun h8=>?_) (fun _=>?_)
   ·have h8:wd=8:=by simpa using h8
    refine ⟨_,rfl,d,sa,_,rfl,D1,by decide,fun r H2 _ _ D2 k2=>⟨rfl,_,rfl,?_⟩⟩
    refine znb (fun _=>?_) (fun _=>?_)
    ·refine ⟨_,rfl,_,rfl,d,sa,_,rfl,D2,by lia,fun c H3 h0 h1 D3 k3=>⟨c.toNat,by lia,fun z=>absurd h8 z,?_,D3,(k1.trans k2).trans k3⟩⟩
     rw [ZAg h0]
     rfl
    ·exact ⟨c0.toNat,by lia,fun z=>absurd h8 z,by rw [ZAg hc0];rfl,D2,k1.trans k2⟩
   ·refine zde ?_
    exact ⟨c0.toNat,by lia,fun _=>by lia,by rw [ZAg hc0];rfl,D1,k1⟩
  ·rintro σ' H2 ⟨c,hc,hcw,rfl,D2,k2⟩
   refine ⟨ZBa _,fun l hl=>?_⟩
   have hl0:H l=none:=k2.free hl D2.there
   have ld:l≠d:=fun e=>by
    subst e
    obtain ⟨o,q⟩:=D2.there
    rw [hl] at q
    cases q
   refine ⟨_,rfl,_,rfl,by lia,by lia,zd9 (n:=c) (fun i σ' H'=>∃v1 v2 v3 ps rows,σ'=[some (.ref d),some (.int n),some (.int wd),some (.int (c:Int)),some (.ref l),v1,v2,v3]/\zc7 H' l ps rows/\rows.length=i/\zek n c rows/\zew K sa H' d/\zcw d H H'/\(wd≠8->∀r∈rows,r.getD 3 0-r.getD 2 0<wd))
    ⟨none,none,none,[],[],rfl,⟨zab,.nil⟩,rfl,(fun k r e=>by simp at e),D2.new hl,zck k2 hl0,fun _ r hr=>nomatch hr⟩ ?_ ?_⟩
   ·rintro i σ' H3 hi ⟨v1,v2,v3,ps,rows,rfl,R3,hlen,hF,D3,k3,few⟩
    have kl:∀{H4:Hp},zcw d H3 H4->zc7 H4 l ps rows:=fun k4=>by
     obtain ⟨p,e⟩:=D3.at_
     exact R3.keep k4 e ld
    refine ⟨_,rfl,_,rfl,d,sa,_,rfl,D3,hw1,fun r1 H4 h1a h1b D4 k4=>⟨_,_,rfl,rfl,?_⟩⟩
    refine ⟨_,rfl,_,rfl,_,rfl,d,sa,_,rfl,D4,hw1,fun r2 H5 h2a h2b D5 k5=>⟨_,_,rfl,rfl,?_⟩⟩
    refine ⟨fun σ' H'=>∃a b:Int,1<=a/\a<=b/\b<=60/\(wd≠8->b-a<wd)/\σ'=[some (.ref d),some (.int n),some (.int wd),some (.int (c:Int)),some (.ref l),some (.int (0+(i:Int))),some (.int a),some (.int b)]/\zew K sa H' d/\zcw d H3 H',?_,?_⟩
    ·refine ⟨_,rfl,rfl,_,rfl,?_⟩
     refine znb (fun h8=>?_) (fun _=>?_)
     ·have h8:wd=8:=by simpa using h8
      refine ⟨_,rfl,d,sa,_,rfl,D5,by decide,fun r H6 _ _ D6 k6=>⟨rfl,_,rfl,?_⟩⟩
      refine znb (fun _=>?_) (fun _=>?_)
      ·refine ⟨_,rfl,d,sa,_,rfl,D6,by decide,fun r3 H7 h3a h3b D7 k7=>⟨_,_,rfl,rfl,?_⟩⟩
       refine ⟨_,rfl,_,rfl,_,rfl,_,_,rfl,rfl,d,sa,_,rfl,D7,by lia,fun r4 H8 h4a h4b D8 k8=>⟨_,_,rfl,rfl,?_⟩⟩
       exact ⟨1+r3,1+r3+r4,by lia,by lia,by lia,fun z=>absurd h8 z,rfl,D8,(((k4.trans k5).trans k6).trans k7).trans k8⟩
      ·exact ⟨1+r1,1+r1+r2,by lia,by lia,by lia,fun z=>absurd h8 z,rfl,D6,(k4.trans k5).trans k6⟩
     ·refine zde ?_
      exact ⟨1+r1,1+r1+r2,by lia,by lia,by lia,fun _=>by lia,rfl,D5,k4.trans k5⟩
    ·rintro σ' H6 ⟨a,b,ha,hab,hb,hba,rfl,D6,k6⟩
     have R6:=kl k6
     refine ⟨_,rfl,.inl ⟨rfl,_,SqL.of R6.1⟩,?_⟩
     refine ⟨_,rfl,_,rfl,_,rfl,_,_,rfl,rfl,d,sa,_,rfl,D6,by lia,fun r5 H7 h5a h5b D7 k7=>?_⟩
     have R7:=kl (k6.trans k7)
     refine ⟨_,rfl,_,_,rfl,rfl,_,rfl,_,_,rfl,rfl,_,rfl,_,rfl,szl rfl,fun p hp=>?_⟩
     have R8:=R7.same (zag (o:=.tup [.int r5,.int (n-1-(0+(i:Int))),.int a,.int b]) hp)
     refine ⟨l,_,_,rfl,rfl,R8.1,?_,?_⟩
     ·rw [ZAu,R8.len]
      exact zan (by lia)
     ·have e0:(0:Int)+(i:Int)=(rows.length:Int):=by rw [hlen];lia
      refine ⟨_,_,_,ps++[p],rows++[[r5,n-1-(0+(i:Int)),a,b]],rfl,R8.push zab,by rw [ZA3,hlen];rfl,?_,?_,?_,fun z r hr=>?_⟩
      ·rw [e0]
       exact hF.snoc h5a h5b ha hab hb
      ·exact (D7.new hp).upd R8.1 ld
      ·exact zck (zck ((k3.trans k6).trans k7) (((k3.trans k6).trans k7).free hp D7.there)) hl0
      ·rcases ZBo.mp hr with y | y
       ·exact few z r y
       ·rw [ZBd.mp y]
        exact hba z
   ·rintro σ' H3 ⟨v1,v2,v3,ps,rows,rfl,R3,hlen,hF,D3,k3,few⟩
    exact ⟨_,rfl,k l c rows H3 hc hlen hF ⟨ps,R3⟩ hl0 D3 k3 fun z=>⟨by rw [hlen];exact hcw z,few z⟩⟩
theorem zjo {x n:Int} (h0:0<=x) (h1:x<2*n) (hn:0<n):x % n=if x<n then x else x-n:=by
 by_cases h:x<n
 ·rw [if_pos h,Int.emod_eq_of_lt h0 h]
 ·rw [if_neg h]
  have e:x % n=(x-n) % n:=by
   first
    | exact (Int.sub_emod_right x n).symm
    | (have:=Int.add_emod_self (a:=x-n) (b:=n);rw [Int.sub_add_cancel] at this;exact this)
  rw [e,Int.emod_eq_of_lt (by lia) (by lia)]
theorem zq8 {xs:List Int} {i:Int} (h0:0<=i) (h1:i<xs.length):∃v,v∈xs/\atI (xs.map V.int) i=some (.int v):=by
 obtain ⟨j,rfl⟩:∃j:Nat,i=j:=⟨i.toNat,by lia⟩
 have hi:j<xs.length:=by lia
 exact ⟨xs[j],ZB3 hi,zb1 (by rw [ZA0,ZAx hi];rfl)⟩
def zln (n:Int) (r:List Int):Prop:=∃a b l m:Int,r=[a,b,l,m]/\0<=a/\a<n/\0<=b/\b<n/\a≠b/\-60<=l/\l<=m/\m<=60
def zsz (K:ZCa):Sp:=fun vs H Q _=>∃d sa n la wd,vs=[.ref d,.int n,.int la,.int wd]/\zew K sa H d/\2<=n/\n<=8/\1<=la/\la<=60/\1<=wd/\wd<=8/\
 ∀(l:Addr) rows H',rows.length<=12->(∀r∈rows,zln n r)->zbi H' l rows->H l=none->zew K sa H' d->zcw d H H'->Q (.ref l) H'
abbrev nT:List Str:=["_law_d","_law_many","_law_last","_law_wide","_law_ties_here","_law_k","_law_times","_law_count","_law_one","_law_other","_law_near","_law_least"]
theorem scT:zam nT ["_law_d","_law_many","_law_last","_law_wide"] (zae sTies):=scm
theorem coT:zbw (zae sTies) nT (fsc [(".0",.local),("_law_k",.local),("_law_next",.globalImplicit),("_law_d",.free),("_law_last",.free)]) ["_law_k","_law_d","_law_last"] [none,some 0,some 2]:=com
theorem ndT:(["_law_k","_law_d","_law_last"]:List Str).Nodup:=by decide+kernel
theorem ok_ties {f fN:Addr} {fd fdN:FuncData} (F:Fn K mg "_law_ties" sTies ["_law_d","_law_many","_law_last","_law_wide"] f fd) (FN:Fn K mg "_law_next" sNext ["_law_dice","_law_many"] fN fdN)
 (GN:za3 P w K mg base CX0 1 fN fdN ["_law_dice","_law_many"] (zki K)) (min:mg "min"=none) (max:mg "max"=none) (range:mg "range"=none):za3 P w K mg base CX0 2 f fd ["_law_d","_law_many","_law_last","_law_wide"] (zsz K):=by
 refine F.F.ok scT (fun _ _ _ _ h=>?_) fun _ A _ s H _ Q E hr h=>?_
 ·obtain ⟨d,sa,n,la,wd,rfl,_⟩:=h
  rfl
 ·obtain ⟨d,sa,n,la,wd,rfl,D,hn1,hn2,hl1,hl2,hw1,hw2,k⟩:=h
  refine ⟨_,zah (za9 4 scT.nd (zen zfs))
   (zah (za9 6 scT.nd (zba zp4 (zen (pa1 zaj)) (zcv rfl (zcs rfl range (pa1 (zba zcm (pv 1) zaj))) coT
    (fun cl ex s0 H0=>⟨zci 0 ndT,zdn,pcl GN hr FN (pa2 (pv 1) (zba zb8 (pv 2) zaj))⟩))))
   (zah (za9 7 scT.nd (pcl GN hr FN (pa2 (pv 0) zaj)))
   (zah (ziw (zbn (PW.pt (zdg (zcy zcf (pv 3) zaj) (zdk (zcy zcf (pcl GN hr FN (pa2 (pv 0) zaj)) zaj))))
    (zad (za9 7 scT.nd (pcl GN hr FN (pa2 (pv 0) zaj)))) zap))
   (zah (zb7 PassesOwn.never rfl (zcs rfl range (pa1 (pv 7))) (zci 5 scT.nd)
    (zah (za9 8 scT.nd (pcl GN hr FN (pa2 (pv 0) (pv 1))))
    (zah (za9 9 scT.nd (zba zp3 (zba zb8 (zba zb8 (pv 8) zaj) (pcl GN hr FN (pa2 (pv 0) (zba zcm (pv 1) zaj)))) (pv 1)))
    (zah (za9 10 scT.nd (zba zcm (zbj zal (pv 6) (pv 9) (fun _ _=>rfl)) (zbj zal (pv 6) (pv 8) (fun _ _=>rfl))))
    (zah (ziw (zbn (zcy zcf (pcl GN hr FN (pa2 (pv 0) zaj)) zaj)
     (zad (za9 10 scT.nd (zba zcm (pcl GN hr FN (pa2 (pv 0) (zba zb8 (zba zwp zaj (pv 2)) zaj))) (pv 2)))) zap))
    (zah (za9 11 scT.nd (zbs (zle rfl) (by rfl) max (by decide+kernel) (pa2 (zn1 zim zaj) (zba zcm (pv 10) (pcl GN hr FN (pa2 (pv 0) (zba zb8 (pv 3) zaj)))))))
    (zad (za7 (zhy ZAr ZAs ZAt zcg (pv 4)
     (pa1 (zbf (pa4 (pv 8) (pv 9) (pv 11) (zbs (ze7 rfl) (by rfl) min (by decide+kernel) (pa2 zaj (zbs (zle rfl) (by rfl) max (by decide+kernel)
      (pa2 (pv 11) (zba zb8 (pv 10) (pcl GN hr FN (pa2 (pv 0) (zba zb8 (pv 3) zaj))))))))))))))))))))
   (zad (zaq (pv 4))))))),?_⟩
  refine ⟨ZBa _,fun l hl=>?_⟩
  have ld:l≠d:=fun e=>by
   subst e
   obtain ⟨o,q⟩:=D.there
   rw [hl] at q
   cases q
  refine ⟨szl rfl,fun z hz=>?_⟩
  refine ⟨_,rfl,_,_,rfl,rfl,_,rfl,by lia,by lia,fun Da hDa=>?_⟩
  have zl:z≠l:=ZAl (zaa (zab (H:=H) (a:=l) (o:=.lst [])) hz)
  have hz0:H z=none:=by rw [zaf zl] at hz;exact hz
  have Dal:Da≠l:=ZAl (zaa (show upd (upd H l (.lst [])) z (.lst [.int 0]) l=some (.lst []) by rw [zaf (ZAl zl),zab]) hDa)
  have Daz:Da≠z:=ZAl (zaa (zab (H:=upd H l (.lst [])) (a:=z) (o:=.lst [.int 0])) hDa)
  have hDa0:H Da=none:=by rw [zaf Daz,zaf Dal] at hDa;exact hDa
  have nd:∀{a:Addr},H a=none->a≠d:=fun {a} e q=>by
   subst q
   obtain ⟨o,q⟩:=D.there
   rw [e] at q
   cases q
  refine zeb (n:=(n-1).toNat) (fun i σ' H'=>∃v,∃ts:List Int,σ'=[v,some (.ref d),some (.int la)]/\ts.length=i/\(∀t∈ts,0<=t/\t<=la)/\H' Da=some (.lst (ts.map V.int))/\H' l=some (.lst [])/\H' z=some (.lst [.int 0])/\zew K sa H' d/\zcw d H H') ?_ ?_ ?_
  ·exact ⟨none,[],rfl,rfl,(fun t ht=>nomatch ht),zab,by rw [zaf (ZAl Dal),zaf (ZAl zl),zab],by rw [zaf (ZAl Daz),zab],((D.new hl).new hz).new hDa,zck (zck (zck (zcw.refl d H) hl) hz0) hDa0⟩
  ·rintro i σ' H3 hi ⟨v,ts,rfl,hlen,hts,e1,e2,e3,D3,k3⟩
   refine ⟨_,rfl,_,rfl,_,_,rfl,rfl,d,sa,_,rfl,D3,by lia,fun r H4 h0 h1 D4 k4=>?_⟩
   have f1:=k4 _ _ e1 (nd hDa0)
   refine ⟨_,f1,?_,_,ts++[r],rfl,by rw [ZA3,hlen];rfl,fun t ht=>?_,?_,?_,?_,D4.upd f1 (nd hDa0),zck (k3.trans k4) hDa0⟩
   ·rw [ZAu]
    exact zan (by lia)
   ·rcases ZBo.mp ht with q | q
    ·exact hts t q
    ·rw [ZBd.mp q]
     lia
   ·rw [zab,ZA9]
    rfl
   ·rw [zaf (ZAl Dal)]
    exact k4 _ _ e2 ld
   ·rw [zaf (ZAl Daz)]
    exact k4 _ _ e3 (nd hz0)
  ·rintro σ' H3 ⟨v,ts,rfl,hlen,hts,e1,e2,e3,D3,k3⟩
   refine ⟨z,Da,_,_,rfl,rfl,e3,e1,?_,fun tl htl=>?_⟩
   ·rw [ZAu]
    exact ZBb (zan (by simp;lia))
   have htl0:H tl=none:=k3.free htl D3.there
   have tll:tl≠l:=ZAl (zaa e2 htl)
   obtain ⟨tt,htt,hlt,hin⟩:∃tt:List Int,[V.int 0]++ts.map V.int=tt.map V.int/\(tt.length:Int)=n/\∀t∈tt,0<=t/\t<=la:=by
    refine ⟨0::ts,rfl,by rw [ZBp,hlen];lia,fun t ht=>?_⟩
    rcases ZBe.mp ht with q | q
    ·rw [q];lia
    ·exact hts t q
   rw [htt]
   have g1:upd H3 tl (.lst (tt.map V.int)) tl=some (.lst (tt.map V.int)):=zab
   have g2:upd H3 tl (.lst (tt.map V.int)) l=some (.lst []):=by rw [zaf (ZAl tll)];exact e2
   have D4:zew K sa (upd H3 tl (.lst (tt.map V.int))) d:=D3.new htl
   have k4:zcw d H (upd H3 tl (.lst (tt.map V.int))):=zck k3 htl0
   refine ⟨_,rfl,d,sa,_,rfl,D4,by decide,fun c0 H5 hc0 hc1 D5 k5=>?_⟩
   have l5:=k5 _ _ g2 ld
   have t5:=k5 _ _ g1 (nd htl0)
   refine ⟨fun σ' H'=>∃c:Nat,c<=12/\σ'=[some (.ref d),some (.int n),some (.int la),some (.int wd),some (.ref l),none,some (.ref tl),some (.int (c:Int)),none,none,none,none]/\zew K sa H' d/\zcw d H H'/\H' l=some (.lst [])/\H' tl=some (.lst (tt.map V.int)),?_,?_⟩
   ·refine ⟨_,rfl,rfl,_,rfl,?_⟩
    refine znb (fun _=>?_) (fun _=>?_)
    ·refine ⟨_,rfl,d,sa,_,rfl,D5,by decide,fun r H6 _ _ D6 k6=>⟨rfl,_,rfl,?_⟩⟩
     refine znb (fun _=>?_) (fun _=>?_)
     ·refine ⟨_,rfl,d,sa,_,rfl,D6,by decide,fun c H7 h0 h1 D7 k7=>⟨c.toNat,by lia,?_,D7,((k4.trans k5).trans k6).trans k7,(k6.trans k7) _ _ l5 ld,(k6.trans k7) _ _ t5 (nd htl0)⟩⟩
      rw [ZAg h0]
      rfl
     ·exact ⟨c0.toNat,by lia,by rw [ZAg hc0];rfl,D6,(k4.trans k5).trans k6,k6 _ _ l5 ld,k6 _ _ t5 (nd htl0)⟩
    ·refine zde ?_
     exact ⟨c0.toNat,by lia,by rw [ZAg hc0];rfl,D5,k4.trans k5,l5,t5⟩
   ·rintro σ' H6 ⟨c,hc,rfl,D6,k6,l6,t6⟩
    refine ⟨_,rfl,_,rfl,by lia,by lia,zd9 (n:=c) (fun i σ' H'=>∃v1 v2 v3 v4 v5 ps rows,σ'=[some (.ref d),some (.int n),some (.int la),some (.int wd),some (.ref l),v1,some (.ref tl),some (.int (c:Int)),v2,v3,v4,v5]/\zc7 H' l ps rows/\rows.length=i/\(∀r∈rows,zln n r)/\
     H' tl=some (.lst (tt.map V.int))/\zew K sa H' d/\zcw d H H') ⟨none,none,none,none,none,[],[],rfl,⟨l6,.nil⟩,rfl,(fun r hr=>nomatch hr),t6,D6,k6⟩ ?_ ?_⟩
    ·rintro i σ' H7 hi ⟨v1,v2,v3,v4,v5,ps,rows,rfl,R7,hlen7,hok,t7,D7,k7⟩
     have kl:∀{H8:Hp},zcw d H7 H8->zc7 H8 l ps rows:=fun k8=>by
      obtain ⟨p,e⟩:=D7.at_
      exact R7.keep k8 e ld
     refine ⟨_,rfl,_,rfl,d,sa,_,rfl,D7,by lia,fun o1 H8 h1a h1b D8 k8=>?_⟩
     refine ⟨_,rfl,_,_,rfl,rfl,_,rfl,_,rfl,_,_,rfl,rfl,d,sa,_,rfl,D8,by lia,fun o2 H9 h2a h2b D9 k9=>⟨_,_,rfl,rfl,_,rfl,_,_,rfl,rfl,(by show (0:Int)<n;lia),?_⟩⟩
     have hw:=zjo (x:=o1+1+o2) (n:=n) (by lia) (by lia) (by lia)
     have ho:0<=(o1+1+o2) % n/\(o1+1+o2) % n<n/\o1≠(o1+1+o2) % n:=by
      rw [hw]
      split<;>lia
     obtain ⟨ho1,ho2,ho3⟩:=ho
     have t9:=(k8.trans k9) _ _ t7 (nd htl0)
     obtain ⟨w1,hw1m,ha1⟩:=zq8 (xs:=tt) ho1 (by lia)
     obtain ⟨w2,hw2m,ha2⟩:=zq8 (xs:=tt) h1a (by lia)
     have b1:=hin w1 hw1m
     have b2:=hin w2 hw2m
     refine ⟨_,rfl,zvq rfl t9 ha1 ⟨_,rfl,zvq rfl t9 ha2 ⟨_,_,rfl,rfl,?_⟩⟩⟩
     refine ⟨fun σ' H'=>∃nr:Int,-60<=nr/\nr<=60/\σ'=[some (.ref d),some (.int n),some (.int la),some (.int wd),some (.ref l),some (.int (0+(i:Int))),some (.ref tl),some (.int (c:Int)),some (.int o1),some (.int ((o1+1+o2) % n)),some (.int nr),v5]/\zew K sa H' d/\zcw d H7 H',?_,?_⟩
     ·refine ⟨_,rfl,d,sa,_,rfl,D9,by decide,fun r H10 _ _ D10 k10=>⟨rfl,_,rfl,?_⟩⟩
      refine znb (fun _=>?_) (fun _=>?_)
      ·refine ⟨_,rfl,_,rfl,_,_,rfl,rfl,.inl ⟨by decide,by decide⟩,_,_,rfl,rfl,d,sa,_,rfl,D10,by lia,fun r' H11 g0 g1' D11 k11=>⟨_,rfl,_,_,rfl,rfl,r'-la,by lia,by lia,rfl,D11,((k8.trans k9).trans k10).trans k11⟩⟩
      ·exact ⟨w1-w2,by lia,by lia,rfl,D10,(k8.trans k9).trans k10⟩
     ·rintro σ' H10 ⟨nr,hnr1,hnr2,rfl,D10,k10⟩
      refine ⟨_,rfl,_,rfl,_,rfl,_,rfl,_,_,rfl,rfl,d,sa,_,rfl,D10,by lia,fun r1 H11 h3a h3b D11 k11=>⟨_,_,rfl,rfl,_,_,rfl,?_⟩⟩
      have R11:=kl (k10.trans k11)
      refine ⟨_,rfl,.inl ⟨rfl,_,SqL.of R11.1⟩,?_⟩
      refine ⟨_,rfl,_,rfl,_,rfl,_,rfl,_,rfl,_,rfl,_,rfl,_,_,rfl,rfl,d,sa,_,rfl,D11,by lia,fun r2 H12 h4a h4b D12 k12=>⟨_,_,rfl,rfl,_,_,rfl,_,_,rfl,szl rfl,fun p hp=>?_⟩⟩
      have R12:=kl ((k10.trans k11).trans k12)
      have R13:=R12.same (zag (o:=.tup [.int o1,.int ((o1+1+o2) % n),.int (if nr-r1> -60 then nr-r1 else-60),.int (if (if nr+r2>(if nr-r1> -60 then nr-r1 else-60) then nr+r2 else (if nr-r1> -60 then nr-r1 else-60))<60 then (if nr+r2>(if nr-r1> -60 then nr-r1 else-60) then nr+r2 else (if nr-r1> -60 then nr-r1 else-60)) else 60)]) hp)
      have kA:=((k7.trans k10).trans k11).trans k12
      refine ⟨l,_,_,rfl,rfl,R13.1,?_,?_⟩
      ·rw [ZAu,R13.len]
       exact zan (by lia)
      ·refine ⟨_,_,_,_,_,ps++[p],rows++[[o1,(o1+1+o2) % n,(if nr-r1> -60 then nr-r1 else-60),(if (if nr+r2>(if nr-r1> -60 then nr-r1 else-60) then nr+r2 else (if nr-r1> -60 then nr-r1 else-60))<60 then (if nr+r2>(if nr-r1> -60 then nr-r1 else-60) then nr+r2 else (if nr-r1> -60 then nr-r1 else-60)) else 60)]],rfl,R13.push zab,by rw [ZA3,hlen7];rfl,fun r hr=>?_,?_,?_,?_⟩
       ·rcases ZBo.mp hr with q | q
        ·exact hok r q
        ·rw [ZBd.mp q]
         exact ⟨_,_,_,_,rfl,h1a,h1b,ho1,ho2,ho3,by split<;>lia,by repeat' split<;>lia,by split<;>lia⟩
       ·rw [zaf tll,zaf (ZAl (zaa ((((k10.trans k11).trans k12)) _ _ t7 (nd htl0)) hp).symm)]
        exact ((k10.trans k11).trans k12) _ _ t7 (nd htl0)
       ·exact (D12.new hp).upd R13.1 ld
       ·exact zck (zck kA (kA.free hp D12.there)) hl
    ·rintro σ' H7 ⟨v1,v2,v3,v4,v5,ps,rows,rfl,R7,hlen7,hok,t7,D7,k7⟩
     exact ⟨_,rfl,k l rows H7 (by lia) hok ⟨ps,R7⟩ hl D7 k7⟩
theorem paired_get {α β:Type} {F:α->β->Prop} {l:List α} {m:List β} {i:Nat} {a:α} (h:Paired F l m) (e:l[i]?=some a):∃b,m[i]?=some b/\F a b:=by
 induction h generalizing i with
 | nil=>simp at e
 | cons r t ih=>
  cases i with
  | zero=>simp at e;subst e;exact ⟨_,rfl,r⟩
  | succ i=>
   obtain ⟨b,h1,h2⟩:=ih (i:=i) (by simpa using e)
   exact ⟨b,by simpa using h1,h2⟩
theorem zew.keepL {K:ZCa} {sa d l:Addr} {H H1:Hp} {xs:List V} (x:zew K sa H d) (k:zcw l H H1) (hl:H l=some (.lst xs)) (hd:l≠d):zew K sa H1 d:=by
 obtain ⟨⟨p,h⟩,⟨ns,r⟩⟩:=x
 exact ⟨⟨p,k _ _ h (ZAl hd)⟩,⟨ns,r.keep k hl⟩⟩
theorem zm9 {d l:Addr} {H H1 H2:Hp} (a:zcw d H H1) (b:zcw l H1 H2) (hl:H l=none):zcw d H H2:=fun c o e n=>b c o (a c o e n) (zaa e hl)
theorem zgc {m n t:Int} (hn:2<=n) (h0:0<=m):0<=zbt m n t/\zbt m n t<n:=by
 unfold zbt
 split
 ·omega
 ·have h1:=Int.emod_nonneg (m-1+t) (show n-1≠0 by omega)
  have h2:=Int.emod_lt_of_pos (m-1+t) (show 0<n-1 by omega)
  omega
theorem zgw {m n t:Int} (hn:2<=n) (h0:m≠0):0<zbt m n t:=by
 unfold zbt
 rw [if_neg h0]
 have h1:=Int.emod_nonneg (m-1+t) (show n-1≠0 by lia)
 lia
theorem zfi {a b n t:Int} (hn:2<=n) (ha:0<=a) (ha':a<n) (hb:0<=b) (hb':b<n) (ht:0<=t) (ht':t<n) (e:zbt a n t=zbt b n t):a=b:=by
 by_cases a0:a=0
 ·by_cases b0:b=0
  ·lia
  ·have:=zgw (t:=t) hn b0
   have z:zbt a n t=0:=by unfold zbt;rw [if_pos a0]
   lia
 ·by_cases b0:b=0
  ·have:=zgw (t:=t) hn a0
   have z:zbt b n t=0:=by unfold zbt;rw [if_pos b0]
   lia
  ·unfold zbt at e
   rw [if_neg a0,if_neg b0,zjo (x:=a-1+t) (n:=n-1) (by lia) (by lia) (by lia),zjo (x:=b-1+t) (n:=n-1) (by lia) (by lia) (by lia)] at e
   revert e
   split<;>split<;>intro e<;>lia
def zlo (n t:Int):List Int->List Int
 | [a,b,l,m]=>[zbt a n t,zbt b n t,l,m]
 | r=>r
def zxa (n:Int) (r:List Int):Prop:=∃a b l m:Int,r=[a,b,l,m]/\0<=a/\a<n/\0<b/\b<n/\a≠b/\1<=l/\l<=m/\m<=60
structure zb4 (n la:Int) (T F:List (List Int)):Prop where
 n1:1<=n
 n2:n<=8
 l1:1<=la
 l2:la<=60
 tl:T.length<=24
 fl:F.length<=7
 t:∀r∈T,zln n r
 f:∀r∈F,zxa n r
 one:∀(i j:Nat) r r',F[i]?=some r->F[j]?=some r'->r[1]?=r'[1]?->i=j
 own:∀r∈F,∀r'∈F,r[0]?≠r'[1]?
theorem zln.ren {n t:Int} {r:List Int} (hn:2<=n) (ht:0<=t) (ht':t<n) (h:zln n r):zln n (zlo n t r):=by
 obtain ⟨a,b,l,m,rfl,h1,h2,h3,h4,h5,h6,h7,h8⟩:=h
 have ha:=zgc (t:=t) hn h1
 have hb:=zgc (t:=t) hn h3
 exact ⟨_,_,l,m,rfl,ha.1,ha.2,hb.1,hb.2,fun e=>h5 (zfi hn h1 h2 h3 h4 ht ht' e),h6,h7,h8⟩
theorem zrg {n la t:Int} {c:Nat} {T F:List (List Int)} (hn:2<=n) (hn2:n<=8) (hl1:1<=la) (hl2:la<=60) (ht:0<=t) (ht':t<n) (hT:∀r∈T,zln n r) (hTl:T.length<=12) (hc:(c:Int)<=n-1) (hlen:F.length=c) (hF:zek n c F):
 zb4 n la (T.map (zlo n t)) (F.map (zlo n t)):=by
 have at_:∀(i:Nat) r,(F.map (zlo n t))[i]?=some r->∃a l m:Int,r=[zbt a n t,zbt (n-1-i) n t,l,m]/\i<c/\0<=a/\a<n-c/\1<=l/\l<=m/\m<=60:=fun i r e=>by
  rw [ZA0] at e
  cases q:F[i]? with
  | none=>rw [q] at e;cases e
  | some r0=>
   rw [q] at e
   have hi:i<c:=by rw [<-hlen];exact (ZAv.mp q).1
   obtain ⟨a,l,m,rfl,r1⟩:=hF i r0 q
   cases e
   exact ⟨a,l,m,rfl,hi,r1⟩
 have mem:∀r,r∈F.map (zlo n t)->∃i:Nat,(F.map (zlo n t))[i]?=some r:=fun r hr=>ZAm.mp hr
 refine ⟨by lia,hn2,hl1,hl2,by rw [ZAu];lia,by rw [ZAu];lia,fun r hr=>?_,fun r hr=>?_,fun i j r r' e e' q=>?_,fun r hr r' hr'=>?_⟩
 ·obtain ⟨r0,h0,rfl⟩:=ZBr.mp hr
  exact (hT r0 h0).ren hn ht ht'
 ·obtain ⟨i,e⟩:=mem r hr
  obtain ⟨a,l,m,rfl,hi,h1,h2,h3,h4,h5⟩:=at_ i r e
  have ha:=zgc (t:=t) hn h1
  have hb:=zgc (m:=n-1-i) (t:=t) hn (by lia)
  exact ⟨_,_,l,m,rfl,ha.1,ha.2,zgw hn (by lia),hb.2,fun z=>by
   have:=zfi hn h1 (by lia) (by lia) (by lia) ht ht' z
   lia,h3,h4,h5⟩
 ·obtain ⟨a,l,m,rfl,hi,_⟩:=at_ i r e
  obtain ⟨a',l',m',rfl,hj,_⟩:=at_ j r' e'
  have z:zbt (n-1-i) n t=zbt (n-1-j) n t:=by simpa using q
  have:=zfi hn (by lia) (by lia) (by lia) (by lia) ht ht' z
  lia
 ·obtain ⟨i,e⟩:=mem r hr
  obtain ⟨j,e'⟩:=mem r' hr'
  obtain ⟨a,l,m,rfl,hi,h1,h2,_⟩:=at_ i r e
  obtain ⟨a',l',m',rfl,hj,_⟩:=at_ j r' e'
  intro q
  have z:zbt a n t=zbt (n-1-j) n t:=by simpa using q
  have:=zfi hn h1 (by lia) (by lia) (by lia) ht ht' z
  lia
theorem Few.ren {wd n t:Int} {n0:Int} {c:Nat} {rows:List (List Int)} (h:Few wd rows) (hF:zek n0 c rows):Few wd (rows.map (zlo n t)):=fun z=>by
 obtain ⟨h1,h2⟩:=h z
 refine ⟨by rw [ZAu];exact h1,fun r hr=>?_⟩
 obtain ⟨r0,h0,rfl⟩:=ZBr.mp hr
 obtain ⟨i,e⟩:=ZAm.mp h0
 obtain ⟨a,l,m,e',_⟩:=hF i r0 e
 have:=h2 r0 h0
 subst e'
 exact this
def zv6 (K:ZCa):Sp:=fun vs H Q _=>∃d sa mo la wd,vs=[.ref d,.int mo,.int la,.int wd]/\zew K sa H d/\2<=mo/\mo<=8/\1<=la/\la<=60/\1<=wd/\wd<=8/\
 ∀(p ta fa:Addr) n l T F H',H' p=some (.tup [.int n,.int l,.ref ta,.ref fa])->zbi H' ta T->zbi H' fa F->zb4 n l T F->2<=n->n<=mo->l<=la->zew K sa H' d->zcw d H H'->ta≠d->fa≠d->Few wd F/\T.length<=12->Q (.ref p) H'
abbrev nW:List Str:=["_law_d","_law_most","_law_last","_law_wide","_law_many","_law_falls_here","_law_ties_here","_law_turn","_law_found","_law_rows"]
theorem scW:zam nW ["_law_d","_law_most","_law_last","_law_wide"] (zae sWeb):=scm
abbrev nWc:List Str:=["_law_r","_law_many","_law_turn"]
theorem coW:zbw (zae sWeb) nW (fsc [(".0",.local),("_law_r",.local),("_law_named",.globalImplicit),("_law_many",.free),("_law_turn",.free)]) nWc [none,some 4,some 7]:=com
theorem zAn:nWc.Nodup:=by decide+kernel
theorem ok_web {f fN fM fF fT:Addr} {fd fdN fdM fdF fdT:FuncData} (F:Fn K mg "_law_web" sWeb ["_law_d","_law_most","_law_last","_law_wide"] f fd)
 (FN:Fn K mg "_law_next" sNext ["_law_dice","_law_many"] fN fdN) (GN:za3 P w K mg base CX0 1 fN fdN ["_law_dice","_law_many"] (zki K))
 (FM:Fn K mg "_law_named" sNamed ["_law_moment","_law_many","_law_turn"] fM fdM) (GM:za3 P w K mg base CX0 1 fM fdM ["_law_moment","_law_many","_law_turn"] zo7)
 (FF:Fn K mg "_law_falls" sFalls ["_law_d","_law_many","_law_wide"] fF fdF) (GF:za3 P w K mg base CX0 2 fF fdF ["_law_d","_law_many","_law_wide"] (zpe K))
 (FT:Fn K mg "_law_ties" sTies ["_law_d","_law_many","_law_last","_law_wide"] fT fdT) (GT:za3 P w K mg base CX0 2 fT fdT ["_law_d","_law_many","_law_last","_law_wide"] (zsz K)):
 za3 P w K mg base CX0 3 f fd ["_law_d","_law_most","_law_last","_law_wide"] (zv6 K):=by
 refine F.F.ok scW (fun _ _ _ _ h=>?_) fun _ A _ s H _ Q E hr h=>?_
 ·obtain ⟨d,sa,mo,la,wd,rfl,_⟩:=h
  rfl
 ·obtain ⟨d,sa,mo,la,wd,rfl,D,hm1,hm2,hl1,hl2,hw1,hw2,k⟩:=h
  have hr1:zd2 1 _:=hr.mono (by decide)
  refine ⟨_,zah (zem (i:=4) scW.nd rfl (Or.inr rfl) (zba zb8 zaj (pcl GN hr1 FN (pa2 (pv 0) (zba zcm (pv 1) zaj)))))
   (zah (za9 2 scW.nd (zba zb8 zaj (pcl GN hr1 FN (pa2 (pv 0) (pv 2)))))
   (zah (za9 5 scW.nd (pcl GF hr FF (pa3 (pv 0) (pv 4) (pv 3))))
   (zah (za9 6 scW.nd (pcl GT hr FT (pa4 (pv 0) (pv 4) (pv 2) (pv 3))))
   (zah (zem (i:=7) scW.nd rfl (Or.inr rfl) (pcl GN hr1 FN (pa2 (pv 0) (pv 4))))
   (zah (za9 8 scW.nd (zen zfs))
   (zah (zb7 PassesOwn.never rfl (za4 (zen (pa2 (pv 6) (pv 5)))) (zci 9 scW.nd)
    (zad (za7 (zhy ZAr ZAs ZAt zcg (pv 8)
     (pa1 (zcv rfl (za4 (pv 9)) coW (fun cl ex s0 H0=>⟨zci 0 zAn,zdn,
      zbf (ze1 (pcl GM hr1 FM (pa3 (ixT (pv 0)) (pv 1) (pv 2)))
       (ze1 (pcl GM hr1 FM (pa3 (ixT (pv 0)) (pv 1) (pv 2)))
       (pa2 (ixT (pv 0)) (ixT (pv 0)))))⟩)))))))
   (zad (zaq (zbf (pa4 (pv 4) (pv 2) (zbj zal (pv 8) zaj (fun _ _=>rfl)) (zbj zal (pv 8) zaj (fun _ _=>rfl)))))))))))),?_⟩
  refine ⟨_,rfl,_,rfl,_,_,rfl,rfl,d,sa,_,rfl,D,by lia,fun r1 H1 h1a h1b D1 k1=>⟨_,_,rfl,rfl,?_⟩⟩
  refine ⟨_,rfl,_,rfl,d,sa,_,rfl,D1,by lia,fun r2 H2 h2a h2b D2 k2=>⟨_,_,rfl,rfl,?_⟩⟩
  refine ⟨_,rfl,_,rfl,_,rfl,d,sa,_,_,rfl,D2,by lia,by lia,hw1,hw2,fun fl c F0 H3 hc hcl hF0 RF hfl D3 k3 few=>?_⟩
  refine ⟨_,rfl,_,rfl,_,rfl,_,rfl,d,sa,_,_,_,rfl,D3,by lia,by lia,by lia,by lia,hw1,hw2,fun tl T0 H4 hTl hT0 RT htl D4 k4=>?_⟩
  refine ⟨_,rfl,_,rfl,d,sa,_,rfl,D4,by lia,fun t H5 hta htb D5 k5=>?_⟩
  have fld:fl≠d:=fun e=>by
   subst e
   obtain ⟨o,q⟩:=D2.there
   rw [hfl] at q
   cases q
  have tld:tl≠d:=fun e=>by
   subst e
   obtain ⟨o,q⟩:=D3.there
   rw [htl] at q
   cases q
  have RF5:zbi H5 fl F0:=by
   obtain ⟨p,e⟩:=D3.at_
   exact RF.keep (k4.trans k5) e fld
  have RT5:zbi H5 tl T0:=by
   obtain ⟨p,e⟩:=D4.at_
   exact RT.keep k5 e tld
  have kA:zcw d H H5:=(((k1.trans k2).trans k3).trans k4).trans k5
  refine ⟨ZBa _,fun fo hfo=>?_⟩
  have fod:fo≠d:=fun e=>by
   subst e
   obtain ⟨o,q⟩:=D5.there
   rw [hfo] at q
   cases q
  have hfo0:H fo=none:=kA.free hfo D5.there
  have RF6:=RF5.same (zag (o:=.lst []) hfo)
  have RT6:=RT5.same (zag (o:=.lst []) hfo)
  have tlfo:tl≠fo:=by
   obtain ⟨ps,e,_⟩:=RT5
   exact zaa e hfo
  have flfo:fl≠fo:=by
   obtain ⟨ps,e,_⟩:=RF5
   exact zaa e hfo
  refine ⟨_,rfl,_,rfl,szl rfl,fun ll hll=>⟨ll,rfl,⟨_,SqL.of zab⟩,?_⟩⟩
  have llfo:ll≠fo:=ZAl (zaa (zab (H:=H5) (a:=fo) (o:=.lst [])) hll)
  have hll5:H5 ll=none:=by rw [zaf llfo] at hll;exact hll
  have hll0:H ll=none:=kA.free hll5 D5.there
  generalize hH7:upd (upd H5 fo (.lst [])) ll (.lst [V.ref tl,V.ref fl])=H7
  have e7:H7 fo=some (.lst []):=by rw [<-hH7,zaf (ZAl llfo),zab]
  have e7l:H7 ll=some (.lst [V.ref tl,V.ref fl]):=by rw [<-hH7,zab]
  have RF7:zbi H7 fl F0:=by rw [<-hH7];exact RF6.same (zag hll)
  have RT7:zbi H7 tl T0:=by rw [<-hH7];exact RT6.same (zag hll)
  have D7:zew K sa H7 d:=by rw [<-hH7];exact (D5.new hfo).new hll
  have k7:zcw d H H7:=by rw [<-hH7];exact zck (zck kA hfo0) hll0
  refine zbu (K:=K) (a:=ll) (xs:=[V.ref tl,V.ref fl]) (fun i σ' H'=>∃v ls,σ'=[some (.ref d),some (.int mo),some (.int (1+r2)),some (.int wd),some (.int (2+r1)),some (.ref fl),some (.ref tl),some (.int t),some (.ref fo),v]/\
   H' fo=some (.lst (ls.map V.ref))/\Paired (fun a rs=>zbi H' a rs/\a≠fo/\a≠d) ls (([T0,F0].take i).map fun R=>R.map (zlo (2+r1) t))/\zcw fo H7 H') ⟨none,[],rfl,e7,.nil,zcw.refl fo H7⟩ ?_ ?_ ?_
  ·rintro i σ' H8 _ ⟨v,ls,rfl,_,_,k8⟩
   exact SqL.of (k8 _ _ e7l llfo)
  ·rintro i x σ' H8 hx ⟨v,ls,rfl,e8,pl8,k8⟩
   obtain ⟨a0,R0,rfl,RA,a0fo,htk,hsh,hln⟩:∃a0 R0,x=.ref a0/\zbi H8 a0 R0/\a0≠fo/\(([T0,F0].take (i+1)).map fun R=>R.map (zlo (2+r1) t))=(([T0,F0].take i).map fun R=>R.map (zlo (2+r1) t))++[R0.map (zlo (2+r1) t)]/\
    (∀r∈R0,∃a b l m:Int,r=[a,b,l,m])/\R0.length<=12:=by
    match i,hx with
    | 0,hx=>
     cases hx
     exact ⟨tl,T0,rfl,RT7.keep k8 e7 tlfo,tlfo,rfl,fun r hr=>by
      obtain ⟨a,b,l,m,e,_⟩:=hT0 r hr
      exact ⟨a,b,l,m,e⟩,hTl⟩
    | 1,hx=>
     cases hx
     exact ⟨fl,F0,rfl,RF7.keep k8 e7 flfo,flfo,rfl,fun r hr=>by
      obtain ⟨i,e⟩:=ZAm.mp hr
      obtain ⟨a,l,m,e,_⟩:=hF0 i r e
      exact ⟨a,_,l,m,e⟩,by lia⟩
    | i+2,hx=>cases hx
   obtain ⟨ps0,RP⟩:=RA
   refine ⟨_,rfl,.inl ⟨rfl,_,SqL.of e8⟩,?_⟩
   refine ⟨_,rfl,a0,rfl,⟨_,SqL.of RP.1⟩,fun Da hDa=>?_⟩
   refine zbv (xs:=ps0.map V.ref) (fun j σ' H'=>∃v ps,σ'=[v,some (.int (2+r1)),some (.int t)]/\zc7 H' Da ps ((R0.take j).map (zlo (2+r1) t))/\zbe H8 H') ?_ ?_ ?_ ?_
   ·exact ⟨none,[],rfl,⟨zab,.nil⟩,zag hDa⟩
   ·rintro j σ' H9 _ ⟨v,ps,rfl,_,s9⟩
    exact SqL.of (s9 _ _ RP.1)
   ·rintro j x σ' H9 hxj ⟨v,ps,rfl,R9,s9⟩
    rw [ZA0] at hxj
    cases hq:ps0[j]? with
    | none=>rw [hq] at hxj;cases hxj
    | some q=>
     rw [hq] at hxj
     cases hxj
     obtain ⟨r,hr,hqt⟩:=paired_get RP.2 hq
     obtain ⟨a,b,l,m,rfl⟩:=hsh r (ZA1 hr)
     have hqt9:=s9 _ _ hqt
     refine ⟨_,rfl,rdT hqt9 rfl ⟨_,rfl,_,rfl,_,_,_,rfl,by lia,?_⟩⟩
     refine ⟨_,rfl,rdT hqt9 rfl ⟨_,rfl,_,rfl,_,_,_,rfl,by lia,?_⟩⟩
     refine ⟨_,rfl,rdT hqt9 rfl ⟨_,rfl,rdT hqt9 rfl ⟨szl rfl,fun p hp=>?_⟩⟩⟩
     have R10:=R9.same (zag (o:=.tup [.int (zbt a (2+r1) t),.int (zbt b (2+r1) t),.int l,.int m]) hp)
     have hDa8:H8 Da=none:=hDa
     refine ⟨_,R10.1,?_,_,ps++[p],rfl,?_,fun b o e=>?_⟩
     ·rw [ZAu,R10.len,ZAu,ZBl]
      exact zan (by lia)
     ·have hj:(R0.take (j+1)).map (zlo (2+r1) t)=(R0.take j).map (zlo (2+r1) t)++[[zbt a (2+r1) t,zbt b (2+r1) t,l,m]]:=by
       rw [ZBu,hr,ZA9]
       rfl
      rw [hj]
      exact R10.push zab
     ·rw [zaf (zaa e hDa8),zaf (zaa (s9 _ _ e) hp)]
      exact s9 _ _ e
   ·rintro σ' H9 ⟨v,ps,rfl,R9,s9⟩
    have e9:=s9 _ _ e8
    refine ⟨fo,_,.ref Da,rfl,rfl,e9,?_,?_⟩
    ·rw [ZAu,pl8.length,ZAu,ZBl]
     exact zan (by simp;lia)
    ·have hDafo:Da≠fo:=ZAl (zaa e8 hDa)
     have hDad:Da≠d:=fun e=>by
      subst e
      obtain ⟨p,q⟩:=(D7.keepL k8 e7 fod).at_
      rw [hDa] at q
      cases q
     have ku:zcw fo H9 (upd H9 fo (.lst (ls.map V.ref++[.ref Da]))):=fun b o e n=>by rw [zaf n];exact e
     refine ⟨_,ls++[Da],rfl,by rw [zab,ZA9];rfl,?_,fun b o e n=>by rw [zaf n];exact s9 _ _ (k8 b o e n)⟩
     rw [htk]
     refine Paired.snoc (zai pl8 fun a rs z=>⟨(z.1.same s9).keep ku e9 z.2.1,z.2⟩) ⟨?_,hDafo,hDad⟩
     have hl:R0.take (ps0.map V.ref).length=R0:=by
      rw [ZAu,RP.len]
      exact ZBi
     rw [hl] at R9
     exact zbi.keep ⟨ps,R9⟩ ku e9 hDafo
  ·rintro σ' H8 ⟨v,ls,rfl,e8,pl8,k8⟩
   have pl8:Paired (fun a rs=>zbi H8 a rs/\a≠fo/\a≠d) ls [T0.map (zlo (2+r1) t),F0.map (zlo (2+r1) t)]:=pl8
   cases pl8 with
   | @cons lt _ ls1 _ q1 pl9=>
    cases pl9 with
    | @cons lf _ ls2 _ q2 pl10=>
     cases pl10
     refine ⟨_,rfl,_,rfl,_,rfl,rdL e8 rfl ⟨_,rfl,rdL e8 rfl ⟨szl rfl,fun p hp=>?_⟩⟩⟩
     have sm:=zag (o:=.tup [.int (2+r1),.int (1+r2),.ref lt,.ref lf]) hp
     exact k p lt lf _ _ _ _ _ zab (q1.1.same sm) (q2.1.same sm) (zrg (by lia) (by lia) (by lia) (by lia) hta htb hT0 hTl hc hcl hF0) (by lia) (by lia) (by lia) ((D7.keepL k8 e7 fod).same sm) (zck (zm9 k7 k8 hfo0) ((zm9 k7 k8 hfo0).free hp (D7.keepL k8 e7 fod).there)) q1.2.2 q2.2.2 ⟨few.ren hF0,by rw [ZAu];exact hTl⟩
end Y0
namespace L2
open PySem PySem.Spec PyProof.Rows
section
end
theorem zep {c A B:Prop} [Decidable c] (hc:c) (h:A):if decide c=true then A else B:=by
 rw [ZB8 hc]
 exact zft h
theorem zct {c A B:Prop} [Decidable c] (hc:¬c) (h:B):if decide c=true then A else B:=by
 rw [ZB9 hc]
 exact zde h
theorem zgz {Q:VK} {H:Hp} {b b':Bool} (k:Q (.bl b) H) (e:b=b'):Q (.bl b') H:=e▸k
theorem zfk {a:Int}:∀{ns:List Int},inV (.int a) (ns.map V.int)=decide (a∈ns)
 | []=>by simp [inV]
 | n::r=>by
  have ih:=zfk (a:=a) (ns:=r)
  unfold inV at ih ⊢
  rw [ZBf,List.any_cons,ih]
  show ((n==a) || decide (a∈r))=decide (a∈n::r)
  by_cases e:n=a
  ·subst e;simp
  ·have:¬a=n:=fun z=>e z.symm
   simp [e,this]
theorem ze5:∀{ns:List Int},(ns.map V.int).all zdp=true
 | []=>rfl
 | n::r=>by
  rw [ZBf,List.all_cons,ze5 (ns:=r)]
  rfl
theorem znh {α:Type} {xs:List α} {i:Nat} (h:i<=xs.length):(xs.drop (HT.sIx xs.length 0 none)).take (HT.sIx xs.length xs.length (some (i:Int))-HT.sIx xs.length 0 none)=xs.take i:=by
 rw [HT.sIx_none,HT.sIx_nat,List.drop_zero,Nat.sub_zero,Nat.min_eq_left h]
end L2
namespace Y0
open PySem L2
structure TxtW (mg:Str->Option Value):Prop where
 mm:∃t,mg "MOST_MOMENTS"=some (.int 8 t)
 ll:∃t,mg "LATEST_LAST"=some (.int 60 t)
 ws:∃t,mg "WIDEST_SPAN"=some (.int 60 t)
 lf:∃t,mg "LONGEST_FALL"=some (.int 60 t)
 list:mg "list"=none
def zub:Sp:=fun vs H Q _=>∃n a b,vs=[.int n,.int a,.int b]/\Q (.bl (decide (0<=a/\a<n/\0<=b/\b<n/\a≠b))) H
def zs3:Sp:=fun vs H Q _=>∃n la,vs=[.int n,.int la]/\1<=n/\n<=8/\1<=la/\la<=60/\Q .non H
def zo8:Sp:=fun vs H Q _=>∃n a T,vs=[.int n,.ref a]/\zbi H a T/\(∀r∈T,zln n r)/\Q .non H
def zmo:Sp:=fun vs H Q _=>∃n a la T F,vs=[.int n,.ref a]/\zbi H a F/\zb4 n la T F/\∀H',zbe H H'->Q .non H'
theorem sc2:zam ["many","one","other"] ["many","one","other"] (zae sP_are_two_moments):=scm
theorem ok_two {f:Addr} {fd:FuncData} (F:Fn K mg "are_two_moments" sP_are_two_moments ["many","one","other"] f fd):za3 P w K mg base CX0 1 f fd ["many","one","other"] zub:=by
 refine F.F.ok sc2 (fun _ _ _ _ h=>?_) fun _ A _ s H _ Q E hr h=>?_
 ·obtain ⟨n,a,b,rfl,_⟩:=h
  rfl
 ·obtain ⟨n,a,b,rfl,k⟩:=h
  refine ⟨_,zad (zaq (zg7 (zjn zeu zij zaj (pv 1) (pv 0)) (zg7 (zjn zeu zij zaj (pv 2) (pv 0)) (zg6 (zlw zux (pv 1) (pv 2)))))),?_⟩
  refine ⟨_,rfl,_,_,rfl,rfl,_,rfl,znb (fun h1=>⟨_,rfl,_,_,rfl,rfl,_,rfl,znb (fun h2=>⟨_,rfl,_,_,rfl,rfl,_,rfl,znb (fun h3=>⟨_,rfl,_,_,rfl,rfl,_,rfl,znb (fun h4=>⟨_,rfl,_,rfl,rfl,?_⟩) (fun h4=>?_)⟩) (fun h3=>⟨false,rfl,zde ?_⟩)⟩) (fun h2=>?_)⟩) (fun h1=>⟨false,rfl,zde ?_⟩)⟩
  all_goals simp only [ZBy] at*
  ·refine zgz (Q:=Q) k ?_
   by_cases e:a=b
   ·subst e;simp
   ·simp [e];omega
  all_goals (refine zgz (Q:=Q) k (ZB9 fun z=>?_);omega)
theorem scS:zam ["many","last"] ["many","last"] (zae sP_look_over_size):=scm
theorem ok_size {f:Addr} {fd:FuncData} (F:Fn K mg "look_over_size" sP_look_over_size ["many","last"] f fd) (T:TxtW mg):za3 P w K mg base CX0 1 f fd ["many","last"] zs3:=by
 obtain ⟨t1,m1⟩:=T.mm
 obtain ⟨t2,m2⟩:=T.ll
 refine F.F.ok scS (fun _ _ _ _ h=>?_) fun _ A _ s H _ Q E hr h=>?_
 ·obtain ⟨n,a,rfl,_⟩:=h
  rfl
 ·obtain ⟨n,la,rfl,n1,n2,l1,l2,k⟩:=h
  refine ⟨_,zah (zbn (zg4 (zjk zeu zeu zaj (pv 0) (zgv (v:=.int 8) rfl m1 ⟨_,rfl⟩))) zby zap) (zad (zbn (zg4 (zjk zeu zeu zaj (pv 1) (zgv (v:=.int 60) rfl m2 ⟨_,rfl⟩))) zby zap)),?_⟩
  refine ⟨_,rfl,_,_,rfl,rfl,_,rfl,zep n1 ⟨_,_,rfl,rfl,_,rfl,zk2 n2 ?_⟩⟩
  exact ⟨_,rfl,_,_,rfl,rfl,_,rfl,zep l1 ⟨_,_,rfl,rfl,_,rfl,zk2 l2 k⟩⟩
abbrev nLT:List Str:=["many","ties","at","one","other","least","most"]
theorem zug:zam nLT ["many","ties"] (zae sP_look_over_ties):=scm
theorem ok_lties {f f2:Addr} {fd fd2:FuncData} (F:Fn K mg "look_over_ties" sP_look_over_ties ["many","ties"] f fd) (T:TxtW mg) (F2:Fn K mg "are_two_moments" sP_are_two_moments ["many","one","other"] f2 fd2)
 (G2:za3 P w K mg base CX0 1 f2 fd2 ["many","one","other"] zub):za3 P w K mg base CX0 2 f fd ["many","ties"] zo8:=by
 obtain ⟨t1,m1⟩:=T.ws
 refine F.F.ok zug (fun _ _ _ _ h=>?_) fun _ A _ s H _ Q E hr h=>?_
 ·obtain ⟨n,a,_,rfl,_⟩:=h
  rfl
 ·obtain ⟨n,a,rows,rfl,⟨ps,R⟩,hok,k⟩:=h
  refine ⟨_,zah (za9 2 zug.nd zaj) (zad (zb7 PassesOwn.never rfl (za4 (pv 1))
   (ziz rfl (zaw (zci 3 zug.nd) (zaw (zci 4 zug.nd) (zaw (zci 5 zug.nd) (zaw (zci 6 zug.nd) zef)))))
   (zah (zbn (zg4 (zfr (pcl G2 hr F2 (pa3 (pv 0) (pv 3) (pv 4))))) zby zap)
   (zah (zbn (zg4 (zkp zeu zeu zeu (zn1 zim (zgv (v:=.int 60) rfl m1 ⟨_,rfl⟩)) (pv 5) (pv 6) (zgv (v:=.int 60) rfl m1 ⟨_,rfl⟩))) zby zap)
   (zad (zpr (i:=2) zug.nd rfl (Or.inl rfl) zaj zqf)))))),?_⟩
  refine ⟨_,rfl,a,rfl,⟨_,SqL.of R.1⟩,zbu (K:=K) (a:=a) (xs:=ps.map V.ref) (fun i σ' H'=>∃z v1 v2 v3 v4,σ'=[some (.int n),some (.ref a),some (.int z),v1,v2,v3,v4]/\H'=H) ⟨0,none,none,none,none,rfl,rfl⟩ ?_ ?_ ?_⟩
  ·rintro i σ' H' _ ⟨z,v1,v2,v3,v4,rfl,rfl⟩
   exact SqL.of R.1
  ·rintro i x σ' H' hx ⟨z,v1,v2,v3,v4,rfl,rfl⟩
   rw [ZA0] at hx
   cases hq:ps[i]? with
   | none=>rw [hq] at hx;cases hx
   | some q=>
    rw [hq] at hx
    cases hx
    obtain ⟨r,hr',hqt⟩:=paired_get R.2 hq
    obtain ⟨a',b',l,m,rfl,h1,h2,h3,h4,h5,h6,h7,h8⟩:=hok r (ZA1 hr')
    refine ⟨q,_,rfl,SqT.of hqt,rfl,_,_,rfl,_,_,rfl,_,_,rfl,_,_,rfl,rfl,?_⟩
    refine ⟨_,rfl,_,rfl,_,rfl,n,a',b',rfl,_,rfl,zk2 ⟨h1,h2,h3,h4,h5⟩ ?_⟩
    refine ⟨_,rfl,_,rfl,_,_,rfl,rfl,_,rfl,zep (by omega) ⟨_,rfl,_,_,rfl,rfl,_,rfl,zep h7 ⟨_,_,rfl,rfl,_,rfl,zk2 h8 ?_⟩⟩⟩
    exact ⟨_,rfl,_,_,rfl,rfl,_,_,_,_,_,rfl,rfl⟩
  ·rintro σ' H' ⟨z,v1,v2,v3,v4,rfl,rfl⟩
   exact k
end Y0
namespace L2
open PySem PySem.Spec PyProof.Rows
theorem zf3 {b:Bool} {A B:Prop} (e:b=false) (h:B):if b=true then A else B:=by
 rw [e]
 exact zde h
theorem zgg {b:Bool} {A B:Prop} (e:b=true) (h:A):if b=true then A else B:=by
 rw [e]
 exact zft h
theorem zhn (f:Str) (v:V):∀fs:List (Str×V),(zav f v fs).length<=fs.length+1
 | []=>ZAw _
 | (g,x)::r=>by
  unfold zav
  split
  ·exact ZAe _
  ·exact Nat.succ_le_succ (zhn f v r)
theorem zc7.get {H:Hp} {a:Addr} {ps:List Addr} {rows:List (List Int)} (R:zc7 H a ps rows) {i:Nat} {x:V} (hx:(ps.map V.ref)[i]?=some x):∃q r,x=.ref q/\ps[i]?=some q/\rows[i]?=some r/\H q=some (.tup (r.map V.int)):=by
 rw [ZA0] at hx
 cases hq:ps[i]? with
 | none=>rw [hq] at hx;cases hx
 | some q=>
  rw [hq] at hx
  cases hx
  obtain ⟨r,hr',hqt⟩:=Y0.paired_get R.2 hq
  exact ⟨q,r,rfl,rfl,hr',hqt⟩
end L2
namespace Y0
open PySem L2
def zl6 (r:List Int):Int:=r.getD 1 0
structure zom (K:ZCa) (mg:Str->Option Value) (C:Addr):Prop where
 cl:Cls K C
 nM:zco K C "many"
 nL:zco K C "last"
 nT:zco K C "told_ties"
 nF:zco K C "told_falls"
 mgC:mg "Web"=some (.ref C)
def zgr (n la:Int) (ta fa:Addr):List (Str×V):=zav "told_falls" (.ref fa) (zav "told_ties" (.ref ta) (zav "last" (.int la) (zav "many" (.int n) [])))
theorem k1:¬(("many":Str)="told_falls"):=by decide+kernel
theorem k2:¬(("many":Str)="told_ties"):=by decide+kernel
theorem k3:¬(("many":Str)="last"):=by decide+kernel
theorem k4:¬(("last":Str)="told_falls"):=by decide+kernel
theorem k5:¬(("last":Str)="told_ties"):=by decide+kernel
theorem k6:¬(("told_ties":Str)="told_falls"):=by decide+kernel
theorem zmi (n la:Int) (ta fa:Addr):(zgr n la ta fa).lookup ("many":Str)=some (.int n):=by
 unfold zgr
 rw [za0,if_neg k1,za0,if_neg k2,za0,if_neg k3,za0,if_pos rfl]
theorem zvx (n la:Int) (ta fa:Addr):(zgr n la ta fa).lookup ("last":Str)=some (.int la):=by
 unfold zgr
 rw [za0,if_neg k4,za0,if_neg k5,za0,if_pos rfl]
theorem zvw (n la:Int) (ta fa:Addr):(zgr n la ta fa).lookup ("told_ties":Str)=some (.ref ta):=by
 unfold zgr
 rw [za0,if_neg k6,za0,if_pos rfl]
theorem zor (n la:Int) (ta fa:Addr):(zgr n la ta fa).lookup ("told_falls":Str)=some (.ref fa):=by
 unfold zgr
 rw [za0,if_pos rfl]
theorem zxc (n la:Int) (ta fa:Addr) {m:Str} (h1:¬m="told_falls") (h2:¬m="told_ties") (h3:¬m="last") (h4:¬m="many"):(zgr n la ta fa).lookup m=none:=by
 unfold zgr
 rw [za0,if_neg h1,za0,if_neg h2,za0,if_neg h3,za0,if_neg h4]
 all_goals rfl
def ze8 (C:Addr) (H:Hp) (p:Addr) (n la:Int) (T F:List (List Int)):Prop:=∃dx ta fa,H p=some (.ins C dx (zgr n la ta fa))/\zbi H ta T/\zbi H fa F
theorem ze8.same {C p:Addr} {H H':Hp} {n la:Int} {T F:List (List Int)} (h:ze8 C H p n la T F) (k:zbe H H'):ze8 C H' p n la T F:=by
 obtain ⟨dx,ta,fa,e,r1,r2⟩:=h
 exact ⟨dx,ta,fa,k _ _ e,r1.same k,r2.same k⟩
def zta (C:Addr):Sp:=fun vs H Q _=>∃p dx n la a b T F,vs=[.ref p,.int n,.int la,.ref a,.ref b]/\H p=some (.ins C dx [])/\zbi H a T/\zbi H b F/\zb4 n la T F/\
 ∀H',ze8 C H' p n la T F->zcw p H H'->Q .non H'
def zpd (C:Addr) (g:List (List Int)->List (List Int)->List (List Int)):Sp:=fun vs H Q _=>∃p n la T F,vs=[.ref p]/\ze8 C H p n la T F/\∀l H',H l=none->zbe H H'->zbi H' l (g T F)->Q (.ref l) H'
abbrev nLF:List Str:=["many","falls","ends","at","one","other","least","most"]
theorem ztg:zam nLF ["many","falls"] (zae sP_look_over_falls):=scm
theorem zBd:zbw (zae sP_look_over_falls) nLF (fsc [(".0",.local),("fall",.local)]) ["fall"] [none]:=com
theorem nd1 {x:Str}:([x]:List Str).Nodup:=by simp
theorem ok_lfalls {f f2:Addr} {fd fd2:FuncData} (F:Fn K mg "look_over_falls" sP_look_over_falls ["many","falls"] f fd) (T:TxtW mg) (F2:Fn K mg "are_two_moments" sP_are_two_moments ["many","one","other"] f2 fd2)
 (G2:za3 P w K mg base CX0 1 f2 fd2 ["many","one","other"] zub):za3 P w K mg base CX0 2 f fd ["many","falls"] zmo:=by
 obtain ⟨t1,m1⟩:=T.lf
 refine F.F.ok ztg (fun _ _ _ _ h=>?_) fun _ A _ s H _ Q E hr h=>?_
 ·obtain ⟨n,a,_,_,_,rfl,_⟩:=h
  rfl
 ·obtain ⟨n,a,la,TT,rows,rfl,⟨ps,R⟩,hok,k⟩:=h
  refine ⟨_,zah (zfx (i:=2) ztg.nd rfl rfl rfl (za4 (pv 1)) zBd (fun cl ex s0 H0=>⟨zci 0 nd1,zdn,ixT (pv 0)⟩))
   (zah (za9 3 ztg.nd zaj) (zad (zb7 PassesOwn.never rfl (za4 (pv 1))
   (ziz rfl (zaw (zci 4 ztg.nd) (zaw (zci 5 ztg.nd) (zaw (zci 6 ztg.nd) (zaw (zci 7 ztg.nd) zef)))))
   (zah (zbn (PW.pt (zii (zg4 (zfr (pcl G2 hr F2 (pa3 (pv 0) (pv 4) (pv 5))))) (zg3 (zfw zh1 (pv 4) (pv 2) (by with_unfolding_all rfl))))) zby zap)
   (zah (zbn (PW.pt (zii (zcy zcf (pv 5) zaj) (zg3 (zfw zh1 (pv 5) (zf9 zue (pv 2) zhx (zhw (pv 3))) (by with_unfolding_all rfl))))) zby zap)
   (zah (zbn (zg4 (zkp zeu zeu zeu zaj (pv 6) (pv 7) (zgv (v:=.int 60) rfl m1 ⟨_,rfl⟩))) zby zap)
   (zad (zpr (i:=3) ztg.nd rfl (Or.inl rfl) zaj zqf)))))))),?_⟩
  refine ⟨_,rfl,a,rfl,⟨_,SqL.of R.1⟩,fun Da hDa=>?_⟩
  refine zbv (xs:=ps.map V.ref) (fun j σ' H'=>∃v,σ'=[v]/\H' Da=some (.lst (((rows.take j).map zl6).map V.int))/\zbe H H') ?_ ?_ ?_ ?_
  ·exact ⟨none,rfl,zab,zag hDa⟩
  ·rintro j σ' H1 _ ⟨v,rfl,_,s1⟩
   exact SqL.of (s1 _ _ R.1)
  ·rintro j x σ' H1 hx ⟨v,rfl,e1,s1⟩
   obtain ⟨q,r,rfl,hq,hr',hqt⟩:=R.get hx
   obtain ⟨a',b',l,m,rfl,_⟩:=hok.f r (ZA1 hr')
   refine ⟨_,rfl,rdT (s1 _ _ hqt) rfl ⟨_,e1,?_,_,rfl,?_,fun b o e=>?_⟩⟩
   ·rw [ZAu,ZAu,ZBl]
    have:=hok.fl
    exact zan (by omega)
   ·rw [zab,ZBu,hr',ZA9,ZA9]
    rfl
   ·rw [zaf (zaa e hDa)]
    exact s1 _ _ e
  ·rintro σ' H1 ⟨v,rfl,e1,s1⟩
   have hl:rows.take (ps.map V.ref).length=rows:=by
    rw [ZAu,R.len]
    exact ZBi
   rw [hl] at e1
   have R1:=R.same s1
   refine ⟨_,rfl,a,rfl,⟨_,SqL.of R1.1⟩,zbu (K:=K) (a:=a) (xs:=ps.map V.ref) (fun i σ' H'=>∃z v1 v2 v3 v4,z=(i:Int)/\σ'=[some (.int n),some (.ref a),some (.ref Da),some (.int z),v1,v2,v3,v4]/\zbe H1 H') ⟨0,none,none,none,none,rfl,rfl,zbe.refl _⟩ ?_ ?_ ?_⟩
   ·rintro i σ' H' _ ⟨z,v1,v2,v3,v4,_,rfl,s2⟩
    exact SqL.of (s2 _ _ R1.1)
   ·rintro i x σ' H2 hx ⟨z,v1,v2,v3,v4,rfl,rfl,s2⟩
    have R2:=R1.same s2
    obtain ⟨q,r,rfl,hq,hr',hqt⟩:=R2.get hx
    have hmem:=ZA1 hr'
    obtain ⟨a',b',l,m,e4,h1,h2,h3,h4,h5,h6,h7,h8⟩:=hok.f r hmem
    subst e4
    have e2:=s2 _ _ e1
    refine ⟨q,_,rfl,SqT.of hqt,rfl,_,_,rfl,_,_,rfl,_,_,rfl,_,_,rfl,rfl,?_⟩
    refine ⟨_,rfl,_,rfl,_,rfl,n,a',b',rfl,_,rfl,zk2 ⟨h1,h2,by omega,h4,h5⟩ ?_⟩
    refine ⟨_,rfl,_,rfl,Da,_,rfl,.inl (SqL.of e2),rfl,ze5,_,rfl,zf3 ?_ ?_⟩
    ·show inV _ _=false
     rw [zfk]
     refine ZB9 fun z=>?_
     obtain ⟨r',hr2,e⟩:=ZBr.mp z
     obtain ⟨a2,b2,l2,m2,e5,_⟩:=hok.f r' hr2
     subst e5
     refine hok.own _ hmem _ hr2 ?_
     have e6:b2=a':=e
     show some a'=some b2
     rw [e6]
    ·refine ⟨_,rfl,rfl,_,rfl,zct (by intro z;have:=V.int.inj z;omega) ?_⟩
     refine ⟨_,rfl,_,rfl,_,rfl,_,rfl,Da,_,rfl,SqL.of e2,fun p hp=>⟨p,_,rfl,.inl (SqL.of zab),rfl,?_,_,rfl,zf3 ?_ ?_⟩⟩
     ·unfold zoc
      rw [znh (by rw [ZAu,ZAu];exact ZBb (ZAv.mp hr').1),<-List.map_take]
      exact ze5
     ·show inV _ _=false
      unfold zoc
      rw [znh (by rw [ZAu,ZAu];exact ZBb (ZAv.mp hr').1),<-List.map_take,zfk]
      refine ZB9 fun z=>?_
      obtain ⟨j,hj⟩:=ZAm.mp z
      have hji:j<i:=by
       have:=(ZAv.mp hj).1
       rw [ZBl] at this
       omega
      rw [List.getElem?_take_of_lt hji,ZA0] at hj
      cases hr2:rows[j]? with
      | none=>rw [hr2] at hj;cases hj
      | some r'=>
       rw [hr2] at hj
       have e:zl6 r'=b':=ZA7 hj
       obtain ⟨a2,b2,l2,m2,e5,_⟩:=hok.f r' (ZA1 hr2)
       subst e5
       have e6:b2=b':=e
       have:=hok.one j i _ _ hr2 hr' (by show some b2=some b';rw [e6])
       omega
     ·refine ⟨_,rfl,_,_,rfl,rfl,_,rfl,zep h6 ⟨_,rfl,_,_,rfl,rfl,_,rfl,zep h7 ⟨_,_,rfl,rfl,_,rfl,zk2 h8 ?_⟩⟩⟩
      exact ⟨_,rfl,_,_,rfl,rfl,_,_,_,_,_,(by show (i:Int)+1=_;omega),rfl,s2.trans (zag hp)⟩
   ·rintro σ' H' ⟨z,v1,v2,v3,v4,_,rfl,s2⟩
    exact k _ (s1.trans s2)
theorem scI:zam ["self","many","last","ties","falls"] ["self","many","last","ties","falls"] (zae sC_Web_init):=scm
theorem ok_init {f C fS fT fF:Addr} {fd fdS fdT fdF:FuncData} (F:Fun K "__init__" "Web.__init__" sC_Web_init f fd) (T:TxtW mg) (TC:zom K mg C)
 (FS:Fn K mg "look_over_size" sP_look_over_size ["many","last"] fS fdS) (GS:za3 P w K mg base CX0 1 fS fdS ["many","last"] zs3)
 (FT:Fn K mg "look_over_ties" sP_look_over_ties ["many","ties"] fT fdT) (GT:za3 P w K mg base CX0 2 fT fdT ["many","ties"] zo8)
 (FF:Fn K mg "look_over_falls" sP_look_over_falls ["many","falls"] fF fdF) (GF:za3 P w K mg base CX0 2 fF fdF ["many","falls"] zmo):
 za3 P w K mg base CX0 3 f fd ["self","many","last","ties","falls"] (zta C):=by
 refine F.ok scI (fun _ _ _ _ h=>?_) fun _ A _ s H _ Q E hr h=>?_
 ·obtain ⟨p,dx,n,la,a,b,_,_,rfl,_⟩:=h
  rfl
 ·obtain ⟨p,dx,n,la,a,b,rT,rF,rfl,hp,RT,RF,hok,k⟩:=h
  have hr1:zd2 1 _:=hr.mono (by decide)
  refine ⟨_,zah (za7 (pcl GS hr1 FS (pa2 (pv 1) (pv 2))))
   (zah (za7 (pcl GT hr FT (pa2 (pv 1) (pv 3))))
   (zah (za7 (pcl GF hr FF (pa2 (pv 1) (pv 4))))
   (zah (zdm (pv 0) (pv 1) rfl) (zah (zdm (pv 0) (pv 2) rfl)
   (zah (zdm (pv 0) (zdt zdj (by rfl) T.list (by decide+kernel) (pa1 (pv 3))) rfl)
   (zad (zdm (pv 0) (zdt zdj (by rfl) T.list (by decide+kernel) (pa1 (pv 4))) rfl))))))),?_⟩
  refine ⟨_,rfl,_,rfl,n,la,rfl,hok.n1,hok.n2,hok.l1,hok.l2,?_⟩
  refine ⟨_,rfl,_,rfl,n,a,rT,rfl,RT,hok.t,?_⟩
  refine ⟨_,rfl,_,rfl,n,b,la,rT,rF,rfl,RF,hok,fun H1 s1=>?_⟩
  have hp1:=s1 _ _ hp
  have RT1:=RT.same s1
  have RF1:=RF.same s1
  obtain ⟨ps1,Q1⟩:=RT1
  obtain ⟨ps2,Q2⟩:=RF1
  refine ⟨_,rfl,_,rfl,p,C,dx,_,rfl,hp1,TC.cl,TC.nM,(by show 0<1000;decide),?_⟩
  refine ⟨_,rfl,_,rfl,p,C,dx,_,rfl,zab,TC.cl,TC.nL,(by show 1<1000;decide),?_⟩
  rw [zlr]
  have kp:∀{o:HO},zcw p H1 (upd H1 p o):=fun {o} b u e ne=>by rw [zaf ne];exact e
  have np:∀{x:Addr} {xs:List V},H1 x=some (.lst xs)->x≠p:=fun {x xs} e=>zao e hp1 nofun
  refine ⟨_,rfl,a,_,rfl,.inl (SqL.of (by rw [zaf (np Q1.1)];exact Q1.1)),fun l1 hl1=>?_⟩
  have l1p:l1≠p:=ZAl (zaa zab hl1)
  have hl1':H1 l1=none:=by rw [zaf l1p] at hl1;exact hl1
  refine ⟨_,rfl,p,C,dx,_,rfl,(by rw [zaf (ZAl l1p),zab]),TC.cl,TC.nT,Nat.lt_of_le_of_lt (zhn _ _ _) (by show 2<1000;decide),?_⟩
  generalize hH2:upd (upd (upd H1 p (.ins C dx (zav "last" (.int la) (zav "many" (.int n) [])))) l1 (.lst (ps1.map V.ref))) p (.ins C dx (zav "told_ties" (.ref l1) (zav "last" (.int la) (zav "many" (.int n) []))))=H2
  have k2':zcw p H1 H2:=fun x o e ne=>by rw [<-hH2,zaf ne,zaf (zaa e hl1'),zaf ne];exact e
  have p2:H2 p=some (.ins C dx (zav "told_ties" (.ref l1) (zav "last" (.int la) (zav "many" (.int n) [])))):=by rw [<-hH2,zab]
  have l2:H2 l1=some (.lst (ps1.map V.ref)):=by rw [<-hH2,zaf l1p,zab]
  refine ⟨_,rfl,b,_,rfl,.inl (SqL.of (k2' _ _ Q2.1 (np Q2.1))),fun l3 hl3=>?_⟩
  have l3p:l3≠p:=ZAl (zaa p2 hl3)
  have l31:l3≠l1:=ZAl (zaa l2 hl3)
  have hl3':H1 l3=none:=by
   cases q:H1 l3 with
   | none=>rfl
   | some o=>rw [k2' _ _ q l3p] at hl3;cases hl3
  refine ⟨_,rfl,p,C,dx,_,rfl,(by rw [zaf (ZAl l3p)];exact p2),TC.cl,TC.nF,Nat.lt_of_le_of_lt (zhn _ _ _) (Nat.lt_of_le_of_lt (Nat.succ_le_succ (zhn _ _ _)) (by show 3<1000;decide)),?_⟩
  generalize hH4:upd (upd H2 l3 (.lst (ps2.map V.ref))) p (.ins C dx (zav "told_falls" (.ref l3) (zav "told_ties" (.ref l1) (zav "last" (.int la) (zav "many" (.int n) [])))))=H4
  have k4':zcw p H1 H4:=fun x o e ne=>by rw [<-hH4,zaf ne,zaf (zaa e hl3')];exact k2' _ _ e ne
  have tp:∀{x:Addr} {xs:List V},H1 x=some (.tup xs)->x≠p:=fun {x xs} e=>zao e hp1 nofun
  refine k H4 ⟨dx,l1,l3,by rw [<-hH4,zab];rfl,⟨ps1,?_,zai Q1.2 fun x r e=>k4' _ _ e (tp e)⟩,⟨ps2,?_,zai Q2.2 fun x r e=>k4' _ _ e (tp e)⟩⟩ (fun x o e ne=>k4' _ _ (s1 _ _ e) ne)
  ·rw [<-hH4,zaf l1p,zaf (ZAl l31)];exact l2
  ·rw [<-hH4,zaf l3p,zab]
theorem zAc:zam ["self"] ["self"] (zae sC_Web_ties):=scm
theorem zAb:zam ["self"] ["self"] (zae sC_Web_falls):=scm
theorem ok_tiesM {f C:Addr} {fd:FuncData} (F:Fun K "ties" "Web.ties" sC_Web_ties f fd) (T:TxtW mg) (TC:zom K mg C):za3 P w K mg base CX0 1 f fd ["self"] (zpd C fun T _=>T):=by
 refine F.ok zAc (fun _ _ _ _ h=>?_) fun _ A _ s H _ Q E hr h=>?_
 ·obtain ⟨p,_,_,_,_,rfl,_⟩:=h
  rfl
 ·obtain ⟨p,n,la,rT,rF,rfl,⟨dx,ta,fa,hp,⟨ps,R⟩,_⟩,k⟩:=h
  refine ⟨_,zad (zaq (zdt zdj (by rfl) T.list (by decide+kernel) (pa1 (zat (pv 0) rfl)))),?_⟩
  refine ⟨_,rfl,p,C,dx,_,_,rfl,hp,TC.cl,TC.nT,zvw _ _ _ _,ta,_,rfl,.inl (SqL.of R.1),fun l hl=>?_⟩
  exact k l _ hl (zag hl) ⟨ps,zab,(R.same (zag hl)).2⟩
theorem ok_fallsM {f C:Addr} {fd:FuncData} (F:Fun K "falls" "Web.falls" sC_Web_falls f fd) (T:TxtW mg) (TC:zom K mg C):za3 P w K mg base CX0 1 f fd ["self"] (zpd C fun _ F=>F):=by
 refine F.ok zAb (fun _ _ _ _ h=>?_) fun _ A _ s H _ Q E hr h=>?_
 ·obtain ⟨p,_,_,_,_,rfl,_⟩:=h
  rfl
 ·obtain ⟨p,n,la,rT,rF,rfl,⟨dx,ta,fa,hp,_,⟨ps,R⟩⟩,k⟩:=h
  refine ⟨_,zad (zaq (zdt zdj (by rfl) T.list (by decide+kernel) (pa1 (zat (pv 0) rfl)))),?_⟩
  refine ⟨_,rfl,p,C,dx,_,_,rfl,hp,TC.cl,TC.nF,zor _ _ _ _,fa,_,rfl,.inl (SqL.of R.1),fun l hl=>?_⟩
  exact k l _ hl (zag hl) ⟨ps,zab,(R.same (zag hl)).2⟩
end Y0
namespace L2
open PySem PySem.Spec PyProof.Rows
theorem zcj {α β:Type} {F:α->β->Prop} {l l':List α} {m m':List β} (h:Paired F l m) (h':Paired F l' m'):Paired F (l++l') (m++m'):=by
 induction h with
 | nil=>exact h'
 | cons r t ih=>exact .cons r ih
theorem zc7.cat {H:Hp} {a b p:Addr} {ps qs:List Addr} {r s:List (List Int)} (h1:zc7 H a ps r) (h2:zc7 H b qs s) (hp:H p=none):zc7 (upd H p (.lst (ps.map V.ref++qs.map V.ref))) p (ps++qs) (r++s):=
 ⟨by rw [zab,ZA9],zcj (h1.same (zag hp)).2 (h2.same (zag hp)).2⟩
theorem zc7.more {H0 H:Hp} {l p:Addr} {ps:List Addr} {rows:List (List Int)} {r:List Int} (h:zc7 H l ps rows) (s:zbe H0 H) (hl:H0 l=none) (hp:H p=none):
 zc7 (upd (upd H p (.tup (r.map V.int))) l (.lst (ps.map V.ref++[.ref p]))) l (ps++[p]) (rows++[r])/\zbe H0 (upd (upd H p (.tup (r.map V.int))) l (.lst (ps.map V.ref++[.ref p])))/\upd H p (.tup (r.map V.int)) l=some (.lst (ps.map V.ref)):=by
 have R:=h.same (zag (o:=.tup (r.map V.int)) hp)
 refine ⟨R.push zab,fun b o e=>?_,R.1⟩
 rw [zaf (zaa e hl),zaf (zaa (s _ _ e) hp)]
 exact s _ _ e
end L2
namespace Y0
open PySem L2
def zgu (la:Int):Nat->List (List Int)
 | 0=>[]
 | k+1=>zgu la k++[[0,(k:Int)+1,la],[(k:Int)+1,0,0]]
theorem zey (la:Int):∀k,(zgu la k).length=2*k
 | 0=>rfl
 | k+1=>by unfold zgu;rw [ZA3,zey la k];rfl
def zxw:List Int->List (List Int)
 | [a,b,l,m]=>[[a,b,m],[b,a,-l]]
 | _=>[]
def zhb (rows:List (List Int)):List (List Int):=(rows.map zxw).flatten
def zvs (rows:List (List Int)):Prop:=∀r∈rows,∃a b l m:Int,r=[a,b,l,m]
theorem zd8:∀{rows:List (List Int)},zvs rows->(zhb rows).length=2*rows.length
 | [],_=>rfl
 | r::t,h=>by
  obtain ⟨a,b,l,m,rfl⟩:=h _ ZA5
  have ih:=zd8 (rows:=t) fun r hr=>h r (ZA4 _ hr)
  unfold zhb at ih ⊢
  rw [ZBf,List.flatten_cons,ZA3,ih,ZBp]
  show 2+2*t.length=2*(t.length+1)
  lia
theorem zb4.fourT {n la:Int} {T F:List (List Int)} (h:zb4 n la T F):zvs T:=fun r hr=>by
 obtain ⟨a,b,l,m,e,_⟩:=h.t r hr
 exact ⟨a,b,l,m,e⟩
theorem zb4.fourF {n la:Int} {T F:List (List Int)} (h:zb4 n la T F):zvs F:=fun r hr=>by
 obtain ⟨a,b,l,m,e,_⟩:=h.f r hr
 exact ⟨a,b,l,m,e⟩
def znn (n la:Int) (T F:List (List Int)):List (List Int):=zgu la (n-1).toNat++zhb T++zhb F
structure zBl (mg:Str->Option Value):Prop where
 range:mg "range"=none
def zs4 (C:Addr):Sp:=fun vs H Q _=>∃p n la T F,vs=[.ref p]/\ze8 C H p n la T F/\1<=n/\n<=8/\∀l H',H l=none->zbe H H'->zbi H' l (zgu la (n-1).toNat)->Q (.ref l) H'
def zs1:Sp:=fun vs H Q _=>∃a rows,vs=[.ref a]/\zbi H a rows/\zvs rows/\rows.length<=100/\∀l H',H l=none->zbe H H'->zbi H' l (zhb rows)->Q (.ref l) H'
def zsx (C:Addr):Sp:=fun vs H Q _=>∃p a n la T F T',vs=[.ref p,.ref a]/\ze8 C H p n la T F/\zb4 n la T F/\zbi H a T'/\zvs T'/\T'.length<=100/\∀l H',H l=none->zbe H H'->zbi H' l (znn n la T' F)->Q (.ref l) H'
def zsy (C:Addr):Sp:=fun vs H Q _=>∃p n la T F,vs=[.ref p]/\ze8 C H p n la T F/\zb4 n la T F/\∀l H',H l=none->zbe H H'->zbi H' l (znn n la T F)->Q (.ref l) H'
theorem zxz:zam ["web","bounds","moment"] ["web"] (zae sP_room_bounds):=scm
theorem ok_room {f C:Addr} {fd:FuncData} (F:Fn K mg "room_bounds" sP_room_bounds ["web"] f fd) (T:zBl mg) (TC:zom K mg C):za3 P w K mg base CX0 1 f fd ["web"] (zs4 C):=by
 refine F.F.ok zxz (fun _ _ _ _ h=>?_) fun _ A _ s H _ Q E hr h=>?_
 ·obtain ⟨p,_,_,_,_,rfl,_⟩:=h
  rfl
 ·obtain ⟨p,n,la,rT,rF,rfl,⟨dx,ta,fa,hp,_,_⟩,n1,n2,k⟩:=h
  refine ⟨_,zah (za9 1 zxz.nd (zen zfs))
   (zah (zb7 PassesOwn.never rfl (zpv rfl T.range (pa2 zaj (zat (pv 0) rfl))) (zci 2 zxz.nd)
    (zah (za7 (zhy ZAr ZAs ZAt zcg (pv 1) (pa1 (zbf (pa3 zaj (pv 2) (zat (pv 0) rfl))))))
    (zad (za7 (zhy ZAr ZAs ZAt zcg (pv 1) (pa1 (zbf (pa3 (pv 2) zaj zaj))))))))
   (zad (zaq (pv 1)))),?_⟩
  refine ⟨ZBa _,fun l hl=>?_⟩
  have s0:=zag (o:=.lst []) hl
  refine ⟨_,rfl,p,C,dx,_,_,rfl,s0 _ _ hp,TC.cl,TC.nM,zmi _ _ _ _,1,n,rfl,⟨by decide,by decide,by lia,by lia⟩,?_⟩
  refine zd9 (n:=(n-1).toNat) (fun i σ' H'=>∃v ps,σ'=[some (.ref p),some (.ref l),v]/\zc7 H' l ps (zgu la i)/\zbe H H') ⟨none,[],rfl,⟨zab,.nil⟩,s0⟩ ?_ ?_
  ·rintro i σ' H1 hi ⟨v,ps,rfl,R1,s1⟩
   have small:∀j:Nat,j<=20->j<sizeLine:=fun j hj=>zan (by lia)
   refine ⟨_,rfl,.inl ⟨rfl,_,SqL.of R1.1⟩,_,rfl,_,rfl,p,C,dx,_,_,rfl,s1 _ _ hp,TC.cl,TC.nL,zvx _ _ _ _,szl rfl,fun p1 hp1=>?_⟩
   obtain ⟨R2,s2,e2⟩:=R1.more (r:=[0,1+(i:Int),la]) s1 hl hp1
   refine ⟨l,_,_,rfl,rfl,e2,?_,?_⟩
   ·rw [ZAu,R1.len,zey];exact small _ (by lia)
   refine ⟨_,rfl,.inl ⟨rfl,_,SqL.of R2.1⟩,_,rfl,szl rfl,fun p2 hp2=>?_⟩
   obtain ⟨R3,s3,e3⟩:=R2.more (r:=[1+(i:Int),0,0]) s2 hl hp2
   refine ⟨l,_,_,rfl,rfl,e3,?_,?_⟩
   ·rw [ZAu,R2.len,ZA3,zey];exact small _ (by simp;lia)
   refine ⟨_,ps++[p1]++[p2],rfl,?_,s3⟩
   have e:zgu la (i+1)=zgu la i++[[0,1+(i:Int),la]]++[[1+(i:Int),0,0]]:=by
    rw [List.append_assoc,Int.add_comm 1 (i:Int)]
    rfl
   rw [e]
   exact R3
  ·rintro σ' H1 ⟨v,ps,rfl,R1,s1⟩
   exact ⟨_,rfl,k l _ hl s1 ⟨ps,R1⟩⟩
abbrev nSb:List Str:=["spans","bounds","one","other","least","most"]
theorem zvo:zam nSb ["spans"] (zae sP_span_bounds):=scm
theorem ok_span {f:Addr} {fd:FuncData} (F:Fn K mg "span_bounds" sP_span_bounds ["spans"] f fd):za3 P w K mg base CX0 1 f fd ["spans"] zs1:=by
 refine F.F.ok zvo (fun _ _ _ _ h=>?_) fun _ A _ s H _ Q E hr h=>?_
 ·obtain ⟨a,_,rfl,_⟩:=h
  rfl
 ·obtain ⟨a,rows,rfl,⟨qs,R⟩,h4,hlen,k⟩:=h
  refine ⟨_,zah (za9 1 zvo.nd (zen zfs))
   (zah (zb7 PassesOwn.never rfl (za4 (pv 0))
    (ziz rfl (zaw (zci 2 zvo.nd) (zaw (zci 3 zvo.nd) (zaw (zci 4 zvo.nd) (zaw (zci 5 zvo.nd) zef)))))
    (zah (za7 (zhy ZAr ZAs ZAt zcg (pv 1) (pa1 (zbf (pa3 (pv 2) (pv 3) (pv 5))))))
    (zad (za7 (zhy ZAr ZAs ZAt zcg (pv 1) (pa1 (zbf (pa3 (pv 3) (pv 2) (zn1 zim (pv 4))))))))))
   (zad (zaq (pv 1)))),?_⟩
  refine ⟨ZBa _,fun l hl=>?_⟩
  have s0:=zag (o:=.lst []) hl
  refine ⟨_,rfl,a,rfl,⟨_,SqL.of (s0 _ _ R.1)⟩,zbu (K:=K) (a:=a) (xs:=qs.map V.ref) (fun i σ' H'=>∃v1 v2 v3 v4 ps,σ'=[some (.ref a),some (.ref l),v1,v2,v3,v4]/\zc7 H' l ps (zhb (rows.take i))/\zbe H H') ⟨none,none,none,none,[],rfl,⟨zab,.nil⟩,s0⟩ ?_ ?_ ?_⟩
  ·rintro i σ' H1 _ ⟨v1,v2,v3,v4,ps,rfl,R1,s1⟩
   exact SqL.of (s1 _ _ R.1)
  ·rintro i x σ' H1 hx ⟨v1,v2,v3,v4,ps,rfl,R1,s1⟩
   obtain ⟨q,r,rfl,hq,hr',hqt⟩:=R.get hx
   obtain ⟨a',b',le,mo,e4⟩:=h4 r (ZA1 hr')
   subst e4
   have hi:i<rows.length:=(ZAv.mp hr').1
   have h4':zvs (rows.take i):=fun r hr=>h4 r (List.mem_of_mem_take hr)
   have hl1:(zhb (rows.take i)).length<=200:=by rw [zd8 h4',ZBl];lia
   refine ⟨q,_,rfl,SqT.of (s1 _ _ hqt),rfl,_,_,rfl,_,_,rfl,_,_,rfl,_,_,rfl,rfl,?_⟩
   refine ⟨_,rfl,.inl ⟨rfl,_,SqL.of R1.1⟩,_,rfl,_,rfl,_,rfl,szl rfl,fun p1 hp1=>?_⟩
   obtain ⟨R2,s2,e2⟩:=R1.more (r:=[a',b',mo]) s1 hl hp1
   refine ⟨l,_,_,rfl,rfl,e2,?_,?_⟩
   ·rw [ZAu,R1.len];exact zan (by lia)
   refine ⟨_,rfl,.inl ⟨rfl,_,SqL.of R2.1⟩,_,rfl,_,rfl,_,rfl,_,rfl,szl rfl,fun p2 hp2=>?_⟩
   obtain ⟨R3,s3,e3⟩:=R2.more (r:=[b',a',-le]) s2 hl hp2
   refine ⟨l,_,_,rfl,rfl,e3,?_,?_⟩
   ·rw [ZAu,R2.len,ZA3];exact zan (by simp;lia)
   refine ⟨_,_,_,_,ps++[p1]++[p2],rfl,?_,s3⟩
   have e:zhb (rows.take (i+1))=zhb (rows.take i)++[[a',b',mo]]++[[b',a',-le]]:=by
    unfold zhb
    rw [ZBu,hr',ZA9,List.flatten_append,List.append_assoc]
    rfl
   rw [e]
   exact R3
  ·rintro σ' H1 ⟨v1,v2,v3,v4,ps,rfl,R1,s1⟩
   have hle:rows.take (qs.map V.ref).length=rows:=by
    rw [ZAu,R.len]
    exact ZBi
   rw [hle] at R1
   exact ⟨_,rfl,k l _ hl s1 ⟨ps,R1⟩⟩
theorem zAd:zam ["web","ties"] ["web","ties"] (zae sP_bounds_with):=scm
theorem ok_with {f C fR fS fM:Addr} {fd fdR fdS fdM:FuncData} (F:Fn K mg "bounds_with" sP_bounds_with ["web","ties"] f fd) (TC:zom K mg C)
 (FR:Fn K mg "room_bounds" sP_room_bounds ["web"] fR fdR) (GR:za3 P w K mg base CX0 1 fR fdR ["web"] (zs4 C))
 (FS:Fn K mg "span_bounds" sP_span_bounds ["spans"] fS fdS) (GS:za3 P w K mg base CX0 1 fS fdS ["spans"] zs1)
 (mF:zf4 K C "falls" fM) (bF:zb5 K fdM ["self"] []) (GF:za3 P w K mg base CX0 1 fM fdM ["self"] (zpd C fun _ F=>F)):za3 P w K mg base CX0 2 f fd ["web","ties"] (zsx C):=by
 refine F.F.ok zAd (fun _ _ _ _ h=>?_) fun _ A _ s H _ Q E hr h=>?_
 ·obtain ⟨p,a,_,_,_,_,_,rfl,_⟩:=h
  rfl
 ·obtain ⟨p,a,n,la,rT,rF,T',rfl,W0,hok,RT,hT4,hTl,k⟩:=h
  refine ⟨_,zad (zaq (zba zp4 (zba zp4 (pcl GR hr FR (pa1 (pv 0))) (pcl GS hr FS (pa1 (pv 1))))
   (pcl GS hr FS (pa1 (zdz (pv 0) TC.cl mF GF hr bF .nil zb3))))),?_⟩
  refine ⟨_,rfl,p,n,la,rT,rF,rfl,W0,hok.n1,hok.n2,fun l1 H1 hl1 s1 R1=>?_⟩
  refine ⟨_,rfl,a,T',rfl,RT.same s1,hT4,hTl,fun l2 H2 hl2 s2 R2=>?_⟩
  obtain ⟨ps1,R1'⟩:=R1.same s2
  obtain ⟨ps2,R2⟩:=R2
  have e1:=R1'.len
  have e2:=R2.len
  rw [zey] at e1
  rw [zd8 hT4] at e2
  have n2:=hok.n2
  refine ⟨l1,l2,_,_,rfl,rfl,R1'.1,R2.1,?_,fun l3 hl3=>?_⟩
  ·rw [ZAu,ZAu];exact ZBb (zan (by lia))
  have R3:=R1'.cat R2 hl3
  have s3:=zag (o:=.lst (ps1.map V.ref++ps2.map V.ref)) hl3
  have s13:=(s1.trans s2).trans s3
  obtain ⟨dx,ta,fa,hp,_,_⟩:=id (W0.same s13)
  refine ⟨_,rfl,p,dx,_,rfl,hp,zxc _ _ _ _ (by decide+kernel) (by decide+kernel) (by decide+kernel) (by decide+kernel),p,n,la,rT,rF,rfl,W0.same s13,fun l4 H4 hl4 s4 R4=>?_⟩
  refine ⟨l4,rF,rfl,R4,hok.fourF,by have:=hok.fl;lia,fun l5 H5 hl5 s5 R5=>?_⟩
  have R3':=(R3.same s4).same s5
  obtain ⟨ps5,R5⟩:=R5
  have e5:=R5.len
  rw [zd8 hok.fourF] at e5
  have fl:=hok.fl
  refine ⟨l3,l5,_,_,rfl,rfl,R3'.1,R5.1,?_,fun l6 hl6=>?_⟩
  ·rw [ZAu,ZAu,ZA3];exact ZBb (zan (by lia))
  have s5':=(s13.trans s4).trans s5
  exact k l6 _ (s5'.free hl6) (s5'.trans (zag hl6)) ⟨_,R3'.cat R5 hl6⟩
theorem zz4:zam ["web"] ["web"] (zae sP_told_bounds):=scm
theorem ok_told {f C fB fM:Addr} {fd fdB fdM:FuncData} (F:Fn K mg "told_bounds" sP_told_bounds ["web"] f fd) (TC:zom K mg C)
 (FB:Fn K mg "bounds_with" sP_bounds_with ["web","ties"] fB fdB) (GB:za3 P w K mg base CX0 2 fB fdB ["web","ties"] (zsx C))
 (mT:zf4 K C "ties" fM) (bT:zb5 K fdM ["self"] []) (GT:za3 P w K mg base CX0 1 fM fdM ["self"] (zpd C fun T _=>T)):za3 P w K mg base CX0 3 f fd ["web"] (zsy C):=by
 refine F.F.ok zz4 (fun _ _ _ _ h=>?_) fun _ A _ s H _ Q E hr h=>?_
 ·obtain ⟨p,_,_,_,_,rfl,_⟩:=h
  rfl
 ·obtain ⟨p,n,la,rT,rF,rfl,W0,hok,k⟩:=h
  have hr1:zd2 1 _:=hr.mono (by decide)
  refine ⟨_,zad (zaq (pcl GB hr FB (pa2 (pv 0) (zdz (pv 0) TC.cl mT GT hr1 bT .nil zb3)))),?_⟩
  obtain ⟨dx,ta,fa,hp,_,_⟩:=id W0
  refine ⟨_,rfl,_,rfl,p,dx,_,rfl,hp,zxc _ _ _ _ (by decide+kernel) (by decide+kernel) (by decide+kernel) (by decide+kernel),p,n,la,rT,rF,rfl,W0,fun l1 H1 hl1 s1 R1=>?_⟩
  exact ⟨p,l1,n,la,rT,rF,rT,rfl,W0.same s1,hok,R1,hok.fourT,by have:=hok.tl;lia,fun l H' hl s' R=>k l H' (s1.free hl) (s1.trans s') R⟩
end Y0
namespace L2
open PySem PySem.Spec PyProof.Rows
section
variable {κ:Type} [DecidableEq κ]
def zel (kvs:List (κ×V)) (k:κ):Option V:=(kvs.find? fun kv=>decide (kv.1=k)).map (·.2)
def zet (kvs:List (κ×V)) (k:κ) (v:V):List (κ×V):=
 if (kvs.any fun kv=>decide (kv.1=k))=true then kvs.map (fun kv=>if kv.1=k then (kv.1,v) else kv) else kvs++[(k,v)]
theorem zc2 {p:κ×V} {r:List (κ×V)} {k:κ} (e:p.1=k):zel (p::r) k=some p.2:=by simp [zel,List.find?_cons,e]
theorem zc3 {p:κ×V} {r:List (κ×V)} {k:κ} (e:¬p.1=k):zel (p::r) k=zel r k:=by simp [zel,List.find?_cons,e]
theorem zec (k:κ):∀kvs:List (κ×V),(kvs.any fun kv=>decide (kv.1=k))=(zel kvs k).isSome
 | []=>rfl
 | p::r=>by
  rw [List.any_cons]
  by_cases e:p.1=k
  ·simp only [zc2 e,ZB8 e,Bool.true_or,Option.isSome_some]
  ·rw [zc3 e,ZB9 e,Bool.false_or];exact zec k r
theorem zmj (k j:κ) (y:V):∀kvs:List (κ×V),zel (kvs.map fun kv=>if kv.1=k then (kv.1,y) else kv) j=(zel kvs j).map fun x=>if j=k then y else x
 | []=>rfl
 | p::r=>by
  have ih:=zmj k j y r
  rw [ZBf]
  by_cases h:p.1=k
  ·rw [if_pos h]
   by_cases e:p.1=j
   ·rw [zc2 (p:=(p.1,y)) e,zc2 e,Option.map_some,if_pos (e.symm.trans h)]
   ·rw [zc3 (p:=(p.1,y)) e,zc3 e,ih]
  ·rw [if_neg h]
   by_cases e:p.1=j
   ·rw [zc2 (p:=p) e,zc2 e,Option.map_some,if_neg (fun z=>h (e.trans z))]
   ·rw [zc3 (p:=p) e,zc3 e,ih]
theorem zj8 (k j:κ) (y:V):∀kvs:List (κ×V),zel kvs k=none->zel (kvs++[(k,y)]) j=if j=k then some y else zel kvs j
 | [],_=>by
  by_cases e:k=j
  ·rw [if_pos e.symm];exact zc2 (p:=(k,y)) e
  ·rw [if_neg (fun z=>e z.symm)];exact zc3 (p:=(k,y)) e
 | p::r,hn=>by
  rw [List.cons_append]
  have hk:¬p.1=k:=fun z=>by rw [zc2 z] at hn;cases hn
  rw [zc3 hk] at hn
  have ih:=zj8 k j y r hn
  by_cases e:p.1=j
  ·rw [zc2 e,zc2 e,if_neg (fun z=>hk (e.trans z))]
  ·rw [zc3 e,zc3 e,ih]
theorem zf6 (kvs:List (κ×V)) (k j:κ) (y:V):zel (zet kvs k y) j=if j=k then some y else zel kvs j:=by
 unfold zet
 by_cases a:(kvs.any fun kv=>decide (kv.1=k))=true
 ·rw [if_pos a,zmj]
  rw [zec] at a
  by_cases e:j=k
  ·obtain ⟨x,hx⟩:=Option.isSome_iff_exists.mp a
   rw [if_pos e,e,hx,Option.map_some,if_pos rfl]
  ·rw [if_neg e]
   cases zel kvs j with
   | none=>rfl
   | some x=>rw [Option.map_some,if_neg e]
 ·rw [if_neg a]
  refine zj8 k j y kvs ?_
  rw [zec] at a
  cases q:zel kvs k with
  | none=>rfl
  | some x=>rw [q] at a;exact (a rfl).elim
theorem zdb (kvs:List (κ×V)) (k:κ) (v:V):(zet kvs k v).length<=kvs.length+1:=by
 unfold zet
 split
 ·rw [ZAu];lia
 ·rw [ZA3,ZBp,List.length_nil];lia
theorem zlq.isSome_eq {o:Option V} {u:Option Value} (r:zlq o u):o.isSome=u.isSome:=by
 cases o with
 | none=>cases u with
  | none=>rfl
  | some _=>exact (show False from r).elim
 | some _=>cases u with
  | none=>exact (show False from r).elim
  | some _=>rfl
theorem KV.val {kvs:List (κ×V)} {vs:List (κ×Value)} (r:KV kvs vs) (k:κ):zlq (zel kvs k) (valueAt vs k):=by
 unfold KV at r
 induction r with
 | nil=>exact True.intro
 | @cons p q ps qs h t ih=>
  obtain ⟨h1,h2⟩:=h
  by_cases e:p.1=k
  ·have e':q.1=k:=h1.symm.trans e
   have b:valueAt (q::qs) k=some q.2:=by simp [valueAt,List.find?_cons,e']
   rw [zc2 e,b];exact h2
  ·have e':¬q.1=k:=fun z=>e (h1.trans z)
   have b:valueAt (q::qs) k=valueAt qs k:=by simp [valueAt,List.find?_cons,e']
   rw [zc3 e,b];exact ih
theorem KV.any {kvs:List (κ×V)} {vs:List (κ×Value)} (r:KV kvs vs) (k:κ):(kvs.any fun kv=>decide (kv.1=k))=vs.any fun kv=>decide (kv.1=k):=by
 unfold KV at r
 induction r with
 | nil=>rfl
 | cons h t ih=>rw [List.any_cons,List.any_cons,ih,h.1]
theorem KV.repl {kvs:List (κ×V)} {vs:List (κ×Value)} (r:KV kvs vs) (k:κ) {y:V} {u:Value} (ry:zcr y u):
 KV (kvs.map fun kv=>if kv.1=k then (kv.1,y) else kv) (vs.map fun kv=>if kv.1=k then (kv.1,u) else kv):=by
 unfold KV at r ⊢
 induction r with
 | nil=>exact .nil
 | @cons p q ps qs h t ih=>
  rw [ZBf,ZBf]
  refine .cons ?_ ih
  obtain ⟨h1,h2⟩:=h
  by_cases e:p.1=k
  ·rw [if_pos e,if_pos (h1.symm.trans e)];exact ⟨h1,ry⟩
  ·rw [if_neg e,if_neg (fun z=>e (h1.trans z))];exact ⟨h1,h2⟩
theorem KV.put {kvs:List (κ×V)} {vs:List (κ×Value)} (r:KV kvs vs) (k:κ) {y:V} {u:Value} (ry:zcr y u):KV (zet kvs k y) (stored vs k u):=by
 unfold zet stored
 rw [r.any k]
 by_cases e:(vs.any fun kv=>decide (kv.1=k))=true
 ·rw [if_pos e,if_pos e];exact r.repl k ry
 ·rw [if_neg e,if_neg e];exact Paired.snoc r ⟨rfl,ry⟩
theorem KV.length {kvs:List (κ×V)} {vs:List (κ×Value)} (r:KV kvs vs):kvs.length=vs.length:=Paired.length r
end
theorem zn7 {P:Program} {w:World} {k:Key} {u:Value} (r:zcr (kV k) u):(zcq P w).is k u=true:=by
 cases k with
 | inl i=>obtain ⟨t,e⟩:=(show ∃t,u=Value.int i t from r);subst e;exact zlz P w i t
 | inr x=>obtain ⟨t,e⟩:=(show ∃t,u=Value.str x t from r);subst e;exact zly P w x t
theorem zk1 {P:Program} {w:World}:∀{ks:List Key} {us:List Value},zcc (ks.map kV) us->ItemsAre (zcq P w) ks us
 | [],_,r=>by rw [List.map_nil] at r;cases r;exact .nil
 | k::ks,_,r=>by
  rw [ZBf] at r
  cases r with
  | cons h t=>exact .cons (zn7 h) (zk1 t)
abbrev KT (H:Hp):List (List Key×V)->List (List Key×Addr×Value)->Prop:=Paired fun p q=>p.1=q.1/\H q.2.1=some (.tup (p.1.map kV))/\zcr p.2 q.2.2
theorem KT.val {H:Hp} {kvs:List (List Key×V)} {xs:List (List Key×Addr×Value)} (r:KT H kvs xs) (k:List Key):zlq (zel kvs k) ((atKey xs k).map (·.2)):=by
 induction r with
 | nil=>exact True.intro
 | @cons p q ps qs h t ih=>
  obtain ⟨h1,_,h2⟩:=h
  by_cases e:p.1=k
  ·have e':q.1=k:=h1.symm.trans e
   have b:atKey (q::qs) k=some q.2:=by simp [atKey,List.find?_cons,e']
   rw [zc2 e,b];exact h2
  ·have e':¬q.1=k:=fun z=>e (h1.trans z)
   have b:atKey (q::qs) k=atKey qs k:=by simp [atKey,List.find?_cons,e']
   rw [zc3 e,b];exact ih
theorem KT.repl {H:Hp} {kvs:List (List Key×V)} {xs:List (List Key×Addr×Value)} (r:KT H kvs xs) (k:List Key) {y:V} {u:Value} (ry:zcr y u):
 KT H (kvs.map fun kv=>if kv.1=k then (kv.1,y) else kv) (xs.map (putAt k u)):=by
 induction r with
 | nil=>exact .nil
 | @cons p q ps qs h t ih=>
  rw [ZBf,ZBf]
  refine .cons ?_ ih
  obtain ⟨h1,h2,h3⟩:=h
  unfold putAt
  by_cases e:p.1=k
  ·rw [if_pos e,if_pos (h1.symm.trans e)];exact ⟨h1,h2,ry⟩
  ·rw [if_neg e,if_neg (fun z=>e (h1.trans z))];exact ⟨h1,h2,h3⟩
theorem KT.put {H:Hp} {kvs:List (List Key×V)} {xs:List (List Key×Addr×Value)} (r:KT H kvs xs) (k:List Key) {b:Addr} {y:V} {u:Value} (hb:H b=some (.tup (k.map kV))) (ry:zcr y u):
 KT H (zet kvs k y) (storedH xs k b u):=by
 have e:(kvs.any fun kv=>decide (kv.1=k))=(atKey xs k).isSome:=by
  rw [zec,(r.val k).isSome_eq,Option.isSome_map]
 unfold zet storedH
 rw [e]
 by_cases q:(atKey xs k).isSome=true
 ·rw [if_pos q,if_pos q];exact r.repl k ry
 ·rw [if_neg q,if_neg q];exact Paired.snoc r ⟨rfl,hb,ry⟩
theorem KT.keeps {H H':Hp} {kvs:List (List Key×V)} {xs:List (List Key×Addr×Value)} (r:KT H kvs xs) (ht:∀b ys,H b=some (.tup ys)->H' b=some (.tup ys)):KT H' kvs xs:=
 Paired.mapP r fun _ _ z=>⟨z.1,ht _ _ z.2.1,z.2.2⟩
section
variable {P:Program} {w:World} {H:Hp} {h:Heap} {a:Addr}
theorem zwk {u:HO} (ok:HOk P w H h) (e:Rd H a u):zcl P w H h a u:=e.ok ok
theorem zqs {kvs:List (Key×V)} (ok:HOk P w H h) (e:Rd H a (.dK kvs)):kvs.length<=sizeLine/\(a==sysModules)=false/\∃vs,KV kvs vs/\h.DictOf (zcq P w) a vs:=
 show zcl P w H h a (.dK kvs) from zwk ok e
theorem zw1 {kvs:List (Key×V)} (ok:HOk P w H h) (e:H a=some (.dK kvs)):kvs.length<=sizeLine/\(a==sysModules)=false/\∃vs,KV kvs vs/\h.DictOf (zcq P w) a vs:=zqs ok (.inl e)
theorem zkz {ks:List Key} (ok:HOk P w H h) (e:H a=some (.tup (ks.map kV))):(tupleKind (zcq P w)).is h ks a:=by
 obtain ⟨_,its,r,o,h1,h2,n,h3⟩:=(show zcl P w H h a (.tup (ks.map kV)) from ok a _ e)
 exact ⟨o,its.toArray,n,h1,h2,h3,by simpa using zk1 r⟩
theorem zqr {kvs:List (List Key×V)} (ok:HOk P w H h) (e:Rd H a (.dT kvs)):kvs.length<=sizeLine/\(a==sysModules)=false/\
 ∃xs,KT H kvs xs/\h.DictOfH (tupleKind (zcq P w)) a xs:=by
 obtain ⟨z,y,xs,r,o,es,ep,h1,h2,h3,h4,h5⟩:=(show zcl P w H h a (.dT kvs) from zwk ok e)
 refine ⟨z,y,xs,r,o,es,ep,h1,h2,h3,h4,fun x hx=>?_,h5⟩
 have all:∀{l:List (List Key×V)} {m:List (List Key×Addr×Value)},KT H l m->∀x∈m,(tupleKind (zcq P w)).is h x.1 x.2.1:=by
  intro l m q
  induction q with
  | nil=>intro x hx;exact nomatch hx
  | @cons p q ps qs hq t ih=>
   intro x hx
   rcases ZBe.mp hx with e | hx
   ·subst e
    exact zkz ok (by rw [<-hq.1];exact hq.2.1)
   ·exact ih x hx
 exact all r x hx
theorem zyn {kvs:List (List Key×V)} (ok:HOk P w H h) (e:H a=some (.dT kvs)):kvs.length<=sizeLine/\(a==sysModules)=false/\
 ∃xs,KT H kvs xs/\h.DictOfH (tupleKind (zcq P w)) a xs:=zqr ok (.inl e)
end
def zev (H:Hp) (a:Addr) (y:V) (r:Option V):Prop:=
 (∃kvs k,Rd H a (.dK kvs)/\y=kV k/\r=zel kvs k)\/∃kvs k b,Rd H a (.dT kvs)/\y=.ref b/\H b=some (.tup (k.map kV))/\r=zel kvs k
def zre (H:Hp) (a:Addr) (y v:V) (H':Hp):Prop:=
 (∃kvs k,H a=some (.dK kvs)/\y=kV k/\kvs.length<sizeLine/\H'=upd H a (.dK (zet kvs k v)))\/
 ∃kvs k b,H a=some (.dT kvs)/\y=.ref b/\H b=some (.tup (k.map kV))/\kvs.length<sizeLine/\H'=upd H a (.dT (zet kvs k v))
theorem zev.k {H:Hp} {a:Addr} {kvs:List (Key×V)} {k:Key} (e:H a=some (.dK kvs)):zev H a (kV k) (zel kvs k):=.inl ⟨kvs,k,.inl e,rfl,rfl⟩
theorem zev.t {H:Hp} {a b:Addr} {kvs:List (List Key×V)} {k:List Key} (e:H a=some (.dT kvs)) (eb:H b=some (.tup (k.map kV))):zev H a (.ref b) (zel kvs k):=.inr ⟨kvs,k,b,.inl e,rfl,eb,rfl⟩
theorem zre.k {H:Hp} {a:Addr} {kvs:List (Key×V)} {k:Key} {v:V} (e:H a=some (.dK kvs)) (hl:kvs.length<sizeLine):zre H a (kV k) v (upd H a (.dK (zet kvs k v))):=.inl ⟨kvs,k,e,rfl,hl,rfl⟩
theorem zre.t {H:Hp} {a b:Addr} {kvs:List (List Key×V)} {k:List Key} {v:V} (e:H a=some (.dT kvs)) (eb:H b=some (.tup (k.map kV))) (hl:kvs.length<sizeLine):
 zre H a (.ref b) v (upd H a (.dT (zet kvs k v))):=.inr ⟨kvs,k,b,e,rfl,eb,hl,rfl⟩
section
variable {X:Cx} {pins:List (Addr×Obj)} {σ:St} {H:Hp} {s:Shared} {a:Addr} {y v:V} {u r:Value} {o:Option V} {A:Around} {E:Value->Shared->Prop}
theorem Inv.big (I:Inv X pins σ H s):sysModules<s.heap.objs.size:=by
 have h:mainGlobals<s.heap.objs.size:=(I.mod.glob.keeps I.bk).lt
 exact Nat.lt_trans (by decide) h
theorem zqy {Q:Value->Shared->Prop} (hu:A.units+1<cLine) (I:Inv X pins σ H s) (g:zev H a y (some v)) (ry:zcr y u) (h:∀w' s',Inv X pins σ H s'->zcr v w'->Q w' s'):
 wpAny (model X.prog X.w) A (getItem (.ref a) u) Q E s:=by
 rcases g with ⟨kvs,k,e,ey,l⟩ | ⟨kvs,k,b,e,ey,eb,l⟩
 ·subst ey
  obtain ⟨z,hd,vs,rel,dd⟩:=zqs I.hok e
  obtain ⟨w',hw,rw'⟩:=zlq.some_of (v:=v) (o:=valueAt vs k) (by rw [l];exact rel.val k)
  exact wpAny_getItem_of (zn7 ry) dd.mapOf hw (h w' _ (I.tok _) rw')
 ·subst ey
  cases (show u=Value.ref b from ry)
  obtain ⟨z,hd,xs,rel,dd⟩:=zqr I.hok e
  obtain ⟨w',hw,rw'⟩:=zlq.some_of (v:=v) (o:=(atKey xs k).map (·.2)) (by rw [l];exact rel.val k)
  obtain ⟨p,hp,hp2⟩:=Option.map_eq_some_iff.mp hw
  refine wpAny_getItem_heap (tupleKind_room_in1 hu) (zkz I.hok eb) dd hp ?_
  rw [hp2]
  exact h w' _ (I.tok _) rw'
theorem zA7 {Q:Value->Shared->Prop} (hu:A.units+1<cLine) (I:Inv X pins σ H s) (g:zev H a y o) (ry:zcr y u) (h:∀s',Inv X pins σ H s'->Q (.bool o.isSome) s'):
 wpAny (model X.prog X.w) A (compareOp .In u (.ref a)) Q E s:=by
 rcases g with ⟨kvs,k,e,ey,l⟩ | ⟨kvs,k,b,e,ey,eb,l⟩
 ·subst ey
  obtain ⟨z,hd,vs,rel,dd⟩:=zqs I.hok e
  refine wpAny_in_of (zn7 ry) hd dd.mapOf ?_
  rw [<-(rel.val k).isSome_eq,<-l]
  exact h _ (I.tok _)
 ·subst ey
  cases (show u=Value.ref b from ry)
  obtain ⟨z,hd,xs,rel,dd⟩:=zqr I.hok e
  refine wpAny_in_heap (tupleKind_room_in1 hu) (zkz I.hok eb) hd dd ?_
  have q:=(rel.val k).isSome_eq
  rw [Option.isSome_map] at q
  rw [<-q,<-l]
  exact h _ (I.tok _)
theorem zvc {Q:Value->Shared->Prop} (hu:A.units+1<cLine) (I:Inv X pins σ H s) (g:zev H a y o) (ry:zcr y u) (h:∀s',Inv X pins σ H s'->Q (.bool (!o.isSome)) s'):
 wpAny (model X.prog X.w) A (compareOp .NotIn u (.ref a)) Q E s:=by
 rcases g with ⟨kvs,k,e,ey,l⟩ | ⟨kvs,k,b,e,ey,eb,l⟩
 ·subst ey
  obtain ⟨z,hd,vs,rel,dd⟩:=zqs I.hok e
  refine wpAny_notIn_of (zn7 ry) hd dd.mapOf ?_
  rw [<-(rel.val k).isSome_eq,<-l]
  exact h _ (I.tok _)
 ·subst ey
  cases (show u=Value.ref b from ry)
  obtain ⟨z,hd,xs,rel,dd⟩:=zqr I.hok e
  refine wpAny_notIn_heap (tupleKind_room_in1 hu) (zkz I.hok eb) hd dd ?_
  have q:=(rel.val k).isSome_eq
  rw [Option.isSome_map] at q
  rw [<-q,<-l]
  exact h _ (I.tok _)
theorem zl9 {h':Heap} {t':Nat} {ob:HO} (I:Inv X pins σ H s) (mu:Mut (H a)) (hs:Heap.SameBut a s.heap h') (he:∃q,h'.get? a=some q) (new:zcl X.prog X.w (upd H a ob) h' a ob):
 Inv X pins σ (upd H a ob) { s with heap:=h',toks:=t' }:=
 I.write (x:=a) (e:=a) mu (.inl rfl) (fun b q hb z=>(hs.2 b hb).trans z) he new
theorem ztr {P:Program} {w:World} {H':Hp} {h':Heap} {kvs:List (Key×V)} {vs:List (Key×Value)} (z:kvs.length<=sizeLine) (hd:(a==sysModules)=false) (rel:KV kvs vs) (dd:h'.DictOf (zcq P w) a vs):
 zcl P w H' h' a (.dK kvs):=⟨z,hd,vs,rel,dd⟩
theorem zqx {H':Hp} {Q:Unit->Shared->Prop} (hu:A.units+1<cLine) (I:Inv X pins σ H s) (g:zre H a y v H') (ry:zcr y u) (rv:zcr v r) (h:∀s',Inv X pins σ H' s'->Q () s'):
 wpAny (model X.prog X.w) A (setItem (.ref a) u r) Q E s:=by
 rcases g with ⟨kvs,k,e,ey,l,eH⟩ | ⟨kvs,k,b,e,ey,eb,l,eH⟩
 ·subst ey eH
  obtain ⟨z,hd,vs,rel,dd⟩:=zw1 I.hok e
  have hz:vs.length<=sizeLine:=by rw [<-rel.length];exact z
  have hl:(zet kvs k v).length<=sizeLine:=by have:=zdb kvs k v;lia
  refine wpAny_setItem_pairs (hsz:=hz) (zn7 ry) dd fun h' dd' hs=>h _ ?_
  have he:∃q,h'.get? a=some q:=let ⟨q,_,_,hq,_⟩:=dd';⟨q,hq⟩
  exact zl9 I (by rw [e];exact True.intro) hs he (ztr hl hd (rel.put k rv) dd')
 ·subst ey eH
  cases (show u=Value.ref b from ry)
  obtain ⟨z,hd,xs,rel,dd⟩:=zyn I.hok e
  have hz:xs.length<=sizeLine:=by rw [<-Paired.length rel];exact z
  have hl:(zet kvs k v).length<=sizeLine:=by have:=zdb kvs k v;lia
  refine wpAny_setItem_heap (hsz:=hz) (tupleKind_room_in1 hu) (zkz I.hok eb) dd fun h' dd' hs=>h _ ?_
  obtain ⟨q,es,ep,hq,h2,h3,h4,_,h5⟩:=dd'
  refine zl9 I (by rw [e];exact True.intro) hs ⟨q,hq⟩ ⟨hl,hd,_,(rel.put k eb rv).keeps fun c ys ec=>?_,q,es,ep,hq,h2,h3,h4,h5⟩
  rw [zaf (zao ec e nofun)]
  exact ec
end
section
variable {X:Cx} {pins:List (Addr×Obj)} {σ:St} {H:Hp} {s:Shared} {a:Addr} {kvs:List (Key×V)} {k:Key} {u:Value} {A:Around} {E:Value->Shared->Prop}
end
def zzp (i:Expr):Prop:=∀ov iv,subscripted i false ov iv=operate [ov,iv] (getItem ov iv)
theorem zua {prog:Program} {w:World} {A:Around} {E:Value->Shared->Prop} {s:Shared} {env:Env} {value slice:Expr} {pos:Pos} {T id:String} {Q:Value->Shared->Prop}
 (hl:typeLookup (.type T) "__getitem__"=pure (some (.builtin id))) (hs:zzp slice)
 (h:wpAny (model prog w) A (eval value env) (fun o s₁=>wpAny (model prog w) A (eval slice env) (fun i s₂=>s₂.TypeIs o T/\wpAny (model prog w) A (getItem o i) Q E s₂) E s₁) E s):
 wpAny (model prog w) A (eval (.Subscript value slice pos) env) Q E s:=by
 refine Subscript_ (wpAny_mono h (fun o s₁ h₁=>wpAny_mono h₁ (fun i s₂ h₂=>?_) fun _ _ x=>x) fun _ _ x=>x)
 obtain ⟨hT,h₂⟩:=h₂
 unfold subscriptTail
 refine ZAp ?_
 rw [getitemInPython_of_ne hT.not_modules]
 refine ZAp (wpAny_specialOf hT hl ?_)
 have fin:wpAny (model prog w) A (subscripted slice false o i) (fun r s₃=>wpAny (model prog w) A (letTemporaryGo value o r>>=fun _=>pure r) Q E s₃) E s₂:=by
  rw [hs o i]
  exact wpAny_operating (wpAny_mono h₂ (fun r s₃ h₃=>ZAp (wpAny_letTemporaryGo (ZAq h₃))) fun _ _ x=>x)
 first
  | exact ZAq (ZAp fin)
  | exact ZAp (ZAq (ZAp fin))
  | exact ZAp fin
theorem zl7 {X:Cx} {pins:List (Addr×Obj)} {σ:St} {H:Hp} {s:Shared} {a:Addr} {y:V} {o:Option V} (I:Inv X pins σ H s) (g:zev H a y o):s.TypeIs (.ref a) "dict":=by
 rcases g with ⟨kvs,k,e,_,_⟩ | ⟨kvs,k,b,e,_,_,_⟩
 ·obtain ⟨_,_,vs,_,dd⟩:=zqs I.hok e
  exact dd.typeIs
 ·obtain ⟨_,_,xs,_,dd⟩:=zqr I.hok e
  exact dd.typeIs
def zxu (td ty:TE):TE:=fun σ H Q=>td σ H fun x H1=>ty σ H1 fun y H2=>∃a v,x=.ref a/\zev H2 a y (some v)/\Q v H2
def zzx (ty td:TE):TE:=fun σ H Q=>ty σ H fun y H1=>td σ H1 fun x H2=>∃a o,x=.ref a/\zev H2 a y o/\Q (.bl o.isSome) H2
def zt7 (ty td:TE):TE:=fun σ H Q=>ty σ H fun y H1=>td σ H1 fun x H2=>∃a o,x=.ref a/\zev H2 a y o/\Q (.bl (!o.isSome)) H2
def zx4 (td ty tv:TE):TS:=fun D σ H=>tv σ H fun v H1=>td σ H1 fun x H2=>ty σ H2 fun y H3=>∃a H4,x=.ref a/\zre H3 a y v H4/\D.nx σ H4
section
variable {X:Cx} {o i e value:Expr} {pos pos' tpos:Pos} {td ty tv:TE}
theorem zcd (hu:X.A.units+1<cLine) (ho:PE X o td) (hi:PE X i ty) (hs:zzp i):PE X (.Subscript o i pos) (zxu td ty):=by
 intro pins s σ H Q I h
 refine zua PySem.F.slot_dict_getitem.lookup hs (thn (ho pins s σ H _ I h) fun u s1 zz=>L2.el5 zz fun x H1 I1 rx q1=>thn (hi pins s1 σ H1 _ I1 q1) fun iv s2 zz=>?_)
 obtain ⟨y,H2,I2,ry,a,v,ex,g,q2⟩:=zz
 subst ex
 obtain rfl:u=Value.ref a:=rx
 exact ⟨zl7 I2 g,zqy hu I2 g ry fun w' s3 I3 rw'=>⟨v,H2,I3,rw',q2⟩⟩
theorem zp0 (hu:X.A.units+1<cLine) (hi:PE X i ty) (ho:PE X o td):PC X .In i o (zzx ty td):=by
 intro pins s σ H Q I h
 refine thn (hi pins s σ H _ I h) fun iv s1 zz=>L2.el5 zz fun y H1 I1 ry q1=>thn (ho pins s1 σ H1 _ I1 q1) fun u s2 zz=>?_
 obtain ⟨x,H2,I2,rx,a,ov,ex,g,q2⟩:=zz
 subst ex
 obtain rfl:u=Value.ref a:=rx
 exact zA7 hu I2 g ry fun s3 I3=>⟨.bl ov.isSome,H2,I3,rfl,q2⟩
theorem ze0 (hu:X.A.units+1<cLine) (hi:PE X i ty) (ho:PE X o td):PC X .NotIn i o (zt7 ty td):=by
 intro pins s σ H Q I h
 refine thn (hi pins s σ H _ I h) fun iv s1 zz=>L2.el5 zz fun y H1 I1 ry q1=>thn (ho pins s1 σ H1 _ I1 q1) fun u s2 zz=>?_
 obtain ⟨x,H2,I2,rx,a,ov,ex,g,q2⟩:=zz
 subst ex
 obtain rfl:u=Value.ref a:=rx
 exact zvc hu I2 g ry fun s3 I3=>⟨.bl (!ov.isSome),H2,I3,rfl,q2⟩
theorem zjl (hu:X.A.units+1<cLine) (ho:PE X o td) (hi:PE X i ty) (hv:PE X value tv) (hs:swapsWith value (some (.Subscript o i pos')) pos.line X.env=pure false):
 PS X (.Assign [.Subscript o i pos'] value pos) (zx4 td ty tv):=by
 intro pins s σ H D I h
 refine wpAny_Assign_Subscript (thn (hv pins s σ H _ I h) fun r s1 zz=>L2.el5 zz fun v H1 I1 rv q1=>thn (ho pins s1 σ H1 _ I1 q1) fun u s2 zz=>L2.el5 zz fun x H2 I2 rx q2=>thn (hi pins s2 σ H2 _ I2 q2) fun iv s3 zz=>?_) hs
 obtain ⟨y,H3,I3,ry,a,H4,ex,g,q3⟩:=zz
 subst ex
 obtain rfl:u=Value.ref a:=rx
 exact zqx hu I3 g ry rv fun s4 I4=>⟨σ,H4,I4,q3⟩
end
theorem zng {P:Program} {w:World} {H:Hp} (h:Heap) (hb:sysModules<h.objs.size):zcl P w H (h.push { cls:=.type "dict",data:=.dict #[] }) h.objs.size (.dK []):=
 ⟨ZBa _,beq_eq_false_iff_ne.mpr (ZAl (ZBj hb)),[],.nil,Heap.DictOf.new h⟩
theorem zsm {P:Program} {w:World} {H:Hp} (h:Heap) (hb:sysModules<h.objs.size):zcl P w H (h.push { cls:=.type "dict",data:=.dict #[] }) h.objs.size (.dT []):=
 ⟨ZBa _,beq_eq_false_iff_ne.mpr (ZAl (ZBj hb)),[],.nil,_,#[],0,ZBh _ rfl,⟨rfl,rfl,rfl⟩,rfl,rfl,List.nodup_nil⟩
def zv3:TE:=fun _ H Q=>∀p,H p=none->Q (.ref p) (upd H p (.dK []))
def zv2:TE:=fun _ H Q=>∀p,H p=none->Q (.ref p) (upd H p (.dT []))
section
variable {X:Cx} {pos:Pos}
theorem zm2:PE X (.Dict [] [] pos) zv3:=fun pins s σ H Q I h=>
 wpAny_Dict_empty ⟨.ref s.heap.objs.size,_,I.laid (a:=s.heap.objs.size) (o:=.dK []) (t':=s.toks) (fun _ _ q=>ZAy _ q) (ZAw _) (zng s.heap I.big),rfl,h _ (I.hok.fresh (ZAw _))⟩
theorem zrx:PE X (.Dict [] [] pos) zv2:=fun pins s σ H Q I h=>
 wpAny_Dict_empty ⟨.ref s.heap.objs.size,_,I.laid (a:=s.heap.objs.size) (o:=.dT []) (t':=s.toks) (fun _ _ q=>ZAy _ q) (ZAw _) (zsm s.heap I.big),rfl,h _ (I.hok.fresh (ZAw _))⟩
end
def zo2:List (TE×TE)->St->Hp->(List (V×V)->Hp->Prop)->Prop
 | [],_,H,Q=>Q [] H
 | (tk,tv)::r,σ,H,Q=>tk σ H fun x H1=>tv σ H1 fun y H2=>zo2 r σ H2 fun ps H3=>Q ((x,y)::ps) H3
abbrev VV:List (V×V)->List (Value×Value)->Prop:=Paired fun p q=>zcr p.1 q.1/\zcr p.2 q.2
def PPs (X:Cx) (pos:Pos) (keys:List (Option Expr)) (values:List Expr) (trs:List (TE×TE)):Prop:=
 ∀(pins:List (Addr×Obj)) (s:Shared) (σ:St) (H:Hp) (Q:List (V×V)->Hp->Prop),Inv X pins σ H s->zo2 trs σ H Q->
  wpAny (model X.prog X.w) X.A (evalPairs (pairTrees keys values X.env pos)) (fun vs s'=>∃ps H',Inv X pins σ H' s'/\VV ps vs/\Q ps H') X.xe s
theorem zuo {X:Cx} {pos:Pos}:PPs X pos [] [] []:=fun pins s σ H Q I h=>pairTrees_nil_walk ⟨[],H,I,.nil,h⟩
theorem zrt {X:Cx} {pos:Pos} {k v:Expr} {ks:List (Option Expr)} {vs:List Expr} {tk tv:TE} {trs:List (TE×TE)} (hk:PE X k tk) (hv:PE X v tv) (hr:PPs X pos ks vs trs):
 PPs X pos (some k::ks) (v::vs) ((tk,tv)::trs):=fun pins s σ H Q I h=>
 pairTrees_cons_walk (thn (hk pins s σ H _ I h) fun u s1 zz=>L2.el5 zz fun x H1 I1 rx q1=>thn (hv pins s1 σ H1 _ I1 q1) fun w2 s2 zz=>L2.el5 zz fun y H2 I2 ry q2=>
  thn (hr pins s2 σ H2 _ I2 q2) fun ws s3 zz=>L2.el5 zz fun ps H3 I3 rel q3=>⟨(x,y)::ps,H3,I3,.cons ⟨rx,ry⟩ rel,q3⟩)
def zg9 (kvs more:List (Key×V)):List (Key×V):=more.foldl (fun acc kv=>zet acc kv.1 kv.2) kvs
theorem KV.merge:∀{more:List (Key×V)} {rs:List (Key×Value)} {kvs:List (Key×V)} {vs:List (Key×Value)},KV more rs->KV kvs vs->KV (zg9 kvs more) (merged vs rs):=by
 intro more rs kvs vs r
 unfold KV at r
 induction r generalizing kvs vs with
 | nil=>intro q;exact q
 | @cons p q ps qs h t ih=>
  intro r0
  have e:KV (zet kvs p.1 p.2) (stored vs q.1 q.2):=by
   have:=r0.put p.1 h.2
   rw [<-h.1];exact this
  exact ih e
theorem zge:∀(more kvs:List (Key×V)),(zg9 kvs more).length<=kvs.length+more.length
 | [],kvs=>by show kvs.length<=kvs.length+0;lia
 | p::r,kvs=>by
  have h1:=zge r (zet kvs p.1 p.2)
  have h2:=zdb kvs p.1 p.2
  show (zg9 (zet kvs p.1 p.2) r).length<=_
  rw [ZBp];lia
theorem zi6 {P:Program} {w:World}:∀{kvs:List (Key×V)} {ws:List (Value×Value)},VV (kvs.map fun kv=>(kV kv.1,kv.2)) ws->∃rs,Carries (zcq P w) ws rs/\KV kvs rs
 | [],_,r=>by rw [List.map_nil] at r;cases r;exact ⟨[],True.intro,.nil⟩
 | p::kvs,_,r=>by
  rw [ZBf] at r
  cases r with
  | @cons a b as bs h t=>
   obtain ⟨rs,c,q⟩:=zi6 (P:=P) (w:=w) t
   obtain ⟨b1,b2⟩:=b
   exact ⟨(p.1,b2)::rs,⟨zn7 h.1,rfl,c⟩,.cons ⟨rfl,h.2⟩ q⟩
def zxt (trs:List (TE×TE)):TE:=fun σ H Q=>∀p,H p=none->zo2 trs σ (upd H p (.dK [])) fun ps H2=>H2 p=some (.dK [])/\∃kvs:List (Key×V),ps=kvs.map (fun kv=>(kV kv.1,kv.2))/\kvs.length<=15/\Q (.ref p) (upd H2 p (.dK (zg9 [] kvs)))
theorem zur {X:Cx} {pos:Pos} {keys:List (Option Expr)} {values:List Expr} {trs:List (TE×TE)} (h:PPs X pos keys values trs) (hall:keys.all (·.isSome)=true) (hl:keys.length=values.length) (h0:keys≠[])
 (h15:keys.length<=15):PE X (.Dict keys values pos) (zxt trs):=by
 intro pins s σ H Q I q
 have hn:=I.hok.fresh (ZAw s.heap.objs.size)
 have I1:=I.laid (a:=s.heap.objs.size) (o:=.dK []) (h':=s.heap.push { cls:=.type "dict",data:=.dict #[] }) (t':=s.toks) (fun _ _ q=>ZAy _ q) (ZAw _) (zng s.heap I.big)
 refine wpAny_Dict_walk (knd:=zcq X.prog X.w) hall hl h0 h15 (thn (h pins _ σ _ _ I1 (q _ hn)) fun ws s2 zz=>?_)
 obtain ⟨ps,H2,I2,rel,e,kvs,ep,lk,q2⟩:=zz
 subst ep
 obtain ⟨rs,c,rk⟩:=zi6 (P:=X.prog) (w:=X.w) rel
 obtain ⟨z,hd,vs0,r0,dd⟩:=zw1 I2.hok e
 cases r0
 refine ⟨rs,c,dd,fun h' dd' hs=>⟨.ref s.heap.objs.size,_,?_,rfl,q2⟩⟩
 have hz:(zg9 [] kvs).length<=sizeLine:=by
  have h1:=zge kvs []
  rw [List.length_nil] at h1
  rw [sizeLine_eq];lia
 have he:∃q,h'.get? s.heap.objs.size=some q:=let ⟨q,_,_,hq,_⟩:=dd';⟨q,hq⟩
 exact zl9 I2 (by rw [e];exact True.intro) hs he (ztr hz hd (rk.merge .nil) dd')
structure M1 (X:Cx) (o:Expr) (m:Str) (apos:Pos) (e:Expr) (cpos:Pos):Prop where
 base:attributeBase o m X.env (eval o X.env)=eval o X.env
 few:((backTo cpos (starEach [e] X.env)).all (fun x=> !x.1) && (backToKw cpos (keywordEach [] X.env)).all (fun x=>x.1.isSome)
  && decide (([e]:List Expr).length+([]:List Keyword).length+(if ([]:List Keyword).isEmpty then 0 else 1)<30))=true
 line:(apos.endLine==cpos.line)=true
 trees:backTo cpos (starEach [e] X.env)=[(false,eval e X.env)]
section
variable {X:Cx} {pins:List (Addr×Obj)} {σ:St} {H:Hp} {s:Shared} {a:Addr} {y d:V} {u r:Value} {o:Option V} {A:Around} {E:Value->Shared->Prop}
end
section
variable {X:Cx} {o e f:Expr} {apos cpos:Pos} {td ty tx:TE}
end
section
variable {X:Cx} {pins:List (Addr×Obj)} {σ:St} {H:Hp} {s:Shared} {a:Addr} {kvs:List (Key×V)} {A:Around} {E:Value->Shared->Prop}
end
section
variable {X:Cx} {pins:List (Addr×Obj)} {σ:St} {H:Hp} {s:Shared} {a:Addr} {y:V} {u:Value} {A:Around} {E:Value->Shared->Prop}
end
end L2
namespace MT
variable {n:Nat} {m:Nat->Nat->Nat->Option Int} {pt:Nat->Nat->Nat->Prop} {low:Int}
end MT
namespace MU
structure zas where
 tie:Bool
 a:Nat
 b:Nat
 v:Int
inductive Wd where
 | told | sum | late | soon | sure | back | cross
structure Row where
 what:zas
 word:Wd
 used:List Nat
abbrev Key:=Bool×Nat×Nat
def zas.key (w:zas):Key:=(w.tie,w.a,w.b)
structure St where
 rows:List Row
 best:Key->Option Nat
 bar:Option Nat
abbrev zaz:=Nat->Option (Nat×Int×Int)
def wat (st:St) (i:Nat):Option zas:=(st.rows[i]?).map (·.what)
def val (st:St) (k:Key):Option Int:=(st.best k).bind fun i=>(wat st i).map (·.v)
def zbm (tie:Bool) (v u:Int):Prop:=if tie=true then v<u else u<v
theorem zlk {b:Bool} {x y z:Int} (h1:zbm b x y) (h2:zbm b y z):zbm b x z:=by
 unfold zbm at*
 cases b<;>simp_all<;>lia
theorem zgb {b:Bool} {x y z:Int} (h1:¬zbm b x y) (h2:¬zbm b y z):¬zbm b x z:=by
 unfold zbm at*
 cases b<;>simp_all<;>lia
theorem zof {b:Bool} {x y:Int} (h:zbm b x y):¬zbm b y x:=by
 unfold zbm at*
 cases b<;>simp_all<;>lia
def zhf (st:St) (w:zas):Prop:=if w.tie=true/\w.a=w.b then w.v<0 else ∀u,val st w.key=some u->zbm w.tie w.v u
def zih (w:zas):Prop:=w.tie=true/\w.a=w.b/\w.v<0
instance (w:zas):Decidable (zih w):=by unfold zih;infer_instance
open Classical in
instance (st:St) (w:zas):Decidable (zhf st w):=propDecidable _
def take (st:St) (w:zas) (word:Wd) (used:List Nat):St:=
 if zhf st w then { rows:=st.rows++[⟨w,word,used⟩],best:=fun k=>if k=w.key then some st.rows.length else st.best k,bar:=if st.bar=none/\zih w then some st.rows.length else st.bar } else st
def za1 (p q:zas):Option zas:=if p.tie=true/\q.tie=true/\p.b=q.a then some ⟨true,p.a,q.b,p.v+q.v⟩ else none
def zbh (F:zaz) (p:zas):Option zas:=if p.tie=true/\p.a≠p.b then (F p.b).map fun f=>⟨false,p.a,p.b,f.2.2-p.v⟩ else none
def zbq (F:zaz) (p:zas):Option zas:=if p.tie=true/\p.a≠p.b/\p.v<0 then (F p.a).map fun f=>⟨true,f.1,p.b,f.2.1+p.v⟩ else none
def zbg (F:zaz) (p:zas):Option zas:=if p.tie=false then (F p.b).map fun f=>⟨true,p.a,f.1,-min p.v f.2.1⟩ else none
def zau (F:zaz) (p q:zas):Option zas:=if p.tie=false/\q.tie=true/\q.b=p.a/\q.a≠p.b then (F p.b).map fun f=>⟨false,q.a,p.b,min p.v f.2.2-q.v⟩ else none
def zay (F:zaz) (p:zas):Option zas:=if p.tie=false/\p.a≠p.b/\0<p.v then (F p.a).bind fun o=>(F p.b).map fun f=>⟨false,o.1,p.b,min p.v f.2.2-o.2.1⟩ else none
def put (st:St) (o:Option zas) (word:Wd) (used:List Nat):St:=match o with
 | some w=>take st w word used
 | none=>st
def za2 (f:zas->Option zas) (word:Wd) (i:Nat) (st:St):St:=put st ((wat st i).bind f) word [i]
def zar (f:zas->zas->Option zas) (word:Wd) (i j:Nat) (st:St):St:=put st ((wat st i).bind fun p=>(wat st j).bind fun q=>f p q) word [i,j]
def za5 (n:Nat) (st:St) (tie:Bool) (a:Nat):List Nat:=(List.range n).filterMap fun b=>st.best (tie,a,b)
def zbx (n:Nat) (st:St) (b:Nat):List Nat:=(List.range n).filterMap fun a=>st.best (true,a,b)
def zbz (n:Nat) (F:zaz) (at_ a b:Nat) (st0:St):St:=
 let st1:=za2 (zbh F) .late at_ st0
 let st2:=za2 (zbq F) .soon at_ st1
 let st3:=(za5 n st2 true b).foldl (fun st j=>zar za1 .sum at_ j st) st2
 let st4:=(zbx n st3 a).foldl (fun st j=>zar za1 .sum j at_ st) st3
 (za5 n st4 false b).foldl (fun st j=>zar (zau F) .back j at_ st) st4
def za6 (n:Nat) (F:zaz) (at_ a:Nat) (st0:St):St:=
 let st1:=za2 (zbg F) .sure at_ st0
 let st2:=za2 (zay F) .cross at_ st1
 (zbx n st2 a).foldl (fun st j=>zar (zau F) .back at_ j st) st2
def look (n:Nat) (F:zaz) (at_:Nat) (st:St):St:=match wat st at_ with
 | some w=>if st.best w.key=some at_ then (if w.tie=true then zbz n F at_ w.a w.b st else za6 n F at_ w.a st) else st
 | none=>st
def run (n:Nat) (F:zaz) (st:St):Nat->St
 | 0=>st
 | t+1=>look n F t (run n F st t)
structure Ext (s s':St):Prop where
 rows:∃more,s'.rows=s.rows++more
 best:∀k,s'.best k=s.best k\/∃j,s'.best k=some j/\s.rows.length<=j
 bar:s.bar≠none->s'.bar≠none
structure zdq (n:Nat) (s:St):Prop where
 at_:∀k i,s.best k=some i->∃w,wat s i=some w/\w.key=k
 top:∀i w,wat s i=some w->∃j,i<=j/\s.best w.key=some j
 lt:∀i w,wat s i=some w->w.a<n/\w.b<n
 ne:s.bar=none->∀i w,wat s i=some w->w.a≠w.b
 drop:s.bar=none->∀i j w w',wat s i=some w->wat s j=some w'->w.key=w'.key->i<j->zbm w.tie w'.v w.v
theorem zd7 {s:St} {i:Nat} {w:zas} (h:wat s i=some w):i<s.rows.length:=by
 unfold wat at h
 cases q:s.rows[i]? with
 | none=>rw [q] at h;cases h
 | some r=>exact (ZAv.mp q).1
theorem zax {s s':St} {i:Nat} {w:zas} (e:Ext s s') (h:wat s i=some w):wat s' i=some w:=by
 obtain ⟨more,hm⟩:=e.rows
 have hi:=zd7 h
 unfold wat at h ⊢
 rw [hm,ZBq hi]
 exact h
theorem Ext.refl (s:St):Ext s s:=⟨⟨[],by simp⟩,fun _=>.inl rfl,fun h=>h⟩
theorem Ext.len {s s':St} (e:Ext s s'):s.rows.length<=s'.rows.length:=by
 obtain ⟨more,hm⟩:=e.rows
 rw [hm,ZA3];lia
theorem Ext.trans {a b c:St} (x:Ext a b) (y:Ext b c):Ext a c:=by
 refine ⟨?_,fun k=>?_,fun h=>y.bar (x.bar h)⟩
 ·obtain ⟨m1,h1⟩:=x.rows
  obtain ⟨m2,h2⟩:=y.rows
  exact ⟨m1++m2,by rw [h2,h1,List.append_assoc]⟩
 ·rcases y.best k with h | ⟨j,h,hj⟩
  ·rcases x.best k with h' | ⟨j,h',hj⟩
   ·exact .inl (h.trans h')
   ·exact .inr ⟨j,h.trans h',hj⟩
  ·exact .inr ⟨j,h,ZBg x.len hj⟩
theorem zhk (st:St) (w:zas) (word:Wd) (used:List Nat):Ext st (take st w word used):=by
 unfold take
 split
 ·refine ⟨⟨_,rfl⟩,fun k=>?_,fun h=>?_⟩
  ·show (if k=w.key then some st.rows.length else st.best k)=_\/∃j,(if k=w.key then some st.rows.length else st.best k)=some j/\_
   by_cases e:k=w.key
   ·rw [if_pos e];exact .inr ⟨_,rfl,ZAw _⟩
   ·rw [if_neg e];exact .inl rfl
  ·show (if st.bar=none/\zih w then some st.rows.length else st.bar)≠none
   rw [if_neg fun z=>h z.1]
   exact h
 ·exact Ext.refl st
theorem zfa {rows:List Row} {r:Row} {best:Key->Option Nat} {bar:Option Nat} {i:Nat} {w:zas} (h:wat ⟨rows++[r],best,bar⟩ i=some w):(i<rows.length/\(rows[i]?).map (·.what)=some w)\/(i=rows.length/\w=r.what):=by
 unfold wat at h
 by_cases c:i<rows.length
 ·left
  refine ⟨c,?_⟩
  have h:((rows++[r])[i]?).map (·.what)=some w:=h
  rwa [ZBq c] at h
 ·right
  have h:((rows++[r])[i]?).map (·.what)=some w:=h
  rw [ZBk (by lia)] at h
  cases q:i-rows.length with
  | zero=>rw [q] at h;exact ⟨by lia,by cases h;rfl⟩
  | succ z=>rw [q] at h;cases h
theorem zkd {n:Nat} {st:St} {w:zas} {word:Wd} {used:List Nat} (g:zdq n st) (ha:w.a<n) (hb:w.b<n) (hw:w.tie=false->w.a≠w.b):zdq n (take st w word used):=by
 unfold take
 split
 next hn=>
  have old:∀{i u},wat st i=some u->wat { rows:=st.rows++[⟨w,word,used⟩],best:=fun k=>if k=w.key then some st.rows.length else st.best k,bar:=if st.bar=none/\zih w then some st.rows.length else st.bar } i=some u:=fun {i u} h=>by
   have hi:=zd7 h
   unfold wat at h ⊢
   rw [ZBq hi]
   exact h
  have new:wat { rows:=st.rows++[⟨w,word,used⟩],best:=fun k=>if k=w.key then some st.rows.length else st.best k,bar:=if st.bar=none/\zih w then some st.rows.length else st.bar } st.rows.length=some w:=by
   unfold wat
   rw [ZBk (ZAw _),Nat.sub_self]
   rfl
  have nb:(if st.bar=none/\zih w then some st.rows.length else st.bar)=none->st.bar=none/\¬zih w:=fun h=>by
   by_cases c:st.bar=none/\zih w
   ·rw [if_pos c] at h;cases h
   ·rw [if_neg c] at h
    exact ⟨h,fun z=>c ⟨h,z⟩⟩
  have wne:¬zih w->w.a≠w.b:=fun hb e=>by
   cases ht:w.tie with
   | false=>exact hw ht e
   | true=>
    unfold zhf at hn
    rw [if_pos ⟨ht,e⟩] at hn
    exact hb ⟨ht,e,hn⟩
  refine ⟨fun k i h=>?_,fun i u h=>?_,fun i u h=>?_,fun h0 i u h=>?_,fun h0 i j u u' h h' hk hij=>?_⟩
  ·have h:(if k=w.key then some st.rows.length else st.best k)=some i:=h
   by_cases c:k=w.key
   ·rw [if_pos c] at h
    cases h
    exact ⟨w,new,c.symm⟩
   ·rw [if_neg c] at h
    obtain ⟨u,hu,hk⟩:=g.at_ k i h
    exact ⟨u,old hu,hk⟩
  ·show ∃j,i<=j/\(if u.key=w.key then some st.rows.length else st.best u.key)=some j
   rcases zfa h with ⟨hi,hu⟩ | ⟨hi,rfl⟩
   ·by_cases c:u.key=w.key
    ·rw [if_pos c];exact ⟨_,ZBb hi,rfl⟩
    ·rw [if_neg c];exact g.top i u hu
   ·rw [if_pos rfl];exact ⟨_,Nat.le_of_eq hi,rfl⟩
  ·rcases zfa h with ⟨_,hu⟩ | ⟨_,rfl⟩
   ·exact g.lt i u hu
   ·exact ⟨ha,hb⟩
  ·obtain ⟨b0,b1⟩:=nb h0
   rcases zfa h with ⟨_,hu⟩ | ⟨_,rfl⟩
   ·exact g.ne b0 i u hu
   ·exact wne b1
  ·obtain ⟨b0,b1⟩:=nb h0
   rcases zfa h' with ⟨hj,hu'⟩ | ⟨hj,e'⟩
   ·rcases zfa h with ⟨_,hu⟩ | ⟨hi,_⟩
    ·exact g.drop b0 i j u u' hu hu' hk hij
    ·lia
   ·have e':u'=w:=e'
    rw [e'] at hk ⊢
    rcases zfa h with ⟨hi,hu⟩ | ⟨hi,_⟩
    ·
     have hu:wat st i=some u:=hu
     obtain ⟨j0,hij0,hbest⟩:=g.top i u hu
     obtain ⟨u0,hu0,hk0⟩:=g.at_ _ _ hbest
     have hv:val st w.key=some u0.v:=by
      unfold val
      have hk:u.key=w.key:=hk
      rw [<-hk,hbest]
      show (wat st j0).map (·.v)=_
      rw [hu0];rfl
     unfold zhf at hn
     rw [if_neg fun z=>wne b1 z.2] at hn
     have h1:=hn _ hv
     have ht:u.tie=w.tie:=congrArg Prod.fst hk
     rw [ht]
     by_cases c:i=j0
     ·subst c
      rw [hu] at hu0
      cases hu0
      exact h1
     ·have h2:=g.drop b0 i j0 u u0 hu hu0 hk0.symm (by lia)
      rw [ht] at h2
      exact zlk h1 h2
    ·lia
 next=>exact g
theorem zed (st:St) (o:Option zas) (word:Wd) (used:List Nat):Ext st (put st o word used):=by
 cases o with
 | none=>exact Ext.refl st
 | some w=>exact zhk st w word used
def Imp (s s':St):Prop:=Ext s s'/\∀k u,k.2.1≠k.2.2->val s k=some u->∃u',val s' k=some u'/\¬zbm k.1 u u'
theorem zdh (b:Bool) (u:Int):¬zbm b u u:=by unfold zbm;split<;>lia
theorem Imp.refl (s:St):Imp s s:=⟨Ext.refl s,fun k u _ h=>⟨u,h,zdh _ _⟩⟩
theorem Imp.trans {a b c:St} (x:Imp a b) (y:Imp b c):Imp a c:=by
 refine ⟨x.1.trans y.1,fun k u hk h=>?_⟩
 obtain ⟨u1,h1,n1⟩:=x.2 k u hk h
 obtain ⟨u2,h2,n2⟩:=y.2 k u1 hk h1
 exact ⟨u2,h2,zgb n1 n2⟩
theorem zc1 {s:St} {k:Key} {i:Nat} {w:zas} (h:s.best k=some i) (hw:wat s i=some w):val s k=some w.v:=by
 unfold val
 rw [h]
 show (wat s i).map (·.v)=_
 rw [hw];rfl
theorem zhj {st:St} {w:zas} {word:Wd} {used:List Nat} (h:zhf st w):val (take st w word used) w.key=some w.v/\wat (take st w word used) st.rows.length=some w/\(take st w word used).rows.length=st.rows.length+1:=by
 have e:take st w word used={ rows:=st.rows++[⟨w,word,used⟩],best:=fun k=>if k=w.key then some st.rows.length else st.best k,bar:=if st.bar=none/\zih w then some st.rows.length else st.bar }:=by
  unfold take
  rw [if_pos h]
 have hw:wat (take st w word used) st.rows.length=some w:=by
  rw [e]
  unfold wat
  rw [ZBk (ZAw _),Nat.sub_self]
  rfl
 refine ⟨zc1 (i:=st.rows.length) (by rw [e];show (if w.key=w.key then some st.rows.length else st.best w.key)=_;rw [if_pos rfl]) hw,hw,?_⟩
 rw [e]
 show (st.rows++[_]).length=_
 rw [ZA3];rfl
theorem zfe {st:St} {w:zas} {word:Wd} {used:List Nat} (h:¬zhf st w):take st w word used=st:=by
 unfold take
 rw [if_neg h]
theorem zos {st:St} {w:zas} {word:Wd} {used:List Nat} {k:Key} {u:Int} (hk:k≠w.key) (h:val st k=some u):val (take st w word used) k=some u:=by
 by_cases c:zhf st w
 ·have e:=zhk st w word used
  unfold val at h ⊢
  have hb:(take st w word used).best k=st.best k:=by
   unfold take
   rw [if_pos c]
   show (if k=w.key then some st.rows.length else st.best k)=_
   rw [if_neg hk]
  rw [hb]
  cases q:st.best k with
  | none=>rw [q] at h;cases h
  | some i=>
   rw [q] at h
   have h:(wat st i).map (·.v)=some u:=h
   show (wat (take st w word used) i).map (·.v)=some u
   cases q2:wat st i with
   | none=>rw [q2] at h;cases h
   | some r=>rw [zax e q2];rw [q2] at h;exact h
 ·rw [zfe c];exact h
theorem zml (st:St) (w:zas) (word:Wd) (used:List Nat):Imp st (take st w word used):=by
 refine ⟨zhk st w word used,fun k u hk h=>?_⟩
 by_cases c:k=w.key
 ·by_cases hn:zhf st w
  ·have h2:=hn
   unfold zhf at h2
   have:¬(w.tie=true/\w.a=w.b):=fun z=>hk (by rw [c];exact z.2)
   rw [if_neg this] at h2
   have h3:=h2 u (by rw [<-c];exact h)
   refine ⟨w.v,by rw [c];exact (zhj hn).1,fun z=>?_⟩
   rw [c] at z
   exact zof h3 z
  ·rw [zfe hn];exact ⟨u,h,zdh _ _⟩
 ·exact ⟨u,zos c h,zdh _ _⟩
theorem zgt {st:St} {w:zas} {word:Wd} {used:List Nat} (h:w.a≠w.b):∃u,val (take st w word used) w.key=some u/\¬zbm w.tie w.v u:=by
 by_cases c:zhf st w
 ·exact ⟨w.v,(zhj c).1,zdh _ _⟩
 ·rw [zfe c]
  unfold zhf at c
  rw [if_neg fun z=>h z.2] at c
  have c:=Classical.not_forall.mp c
  obtain ⟨u,hu⟩:=c
  have hu:=Classical.not_imp.mp hu
  exact ⟨u,hu.1,hu.2⟩
theorem zo1 {st:St} {w:zas} {word:Wd} {used:List Nat} (h:zih w):(take st w word used).bar≠none:=by
 have hn:zhf st w:=by
  unfold zhf
  rw [if_pos ⟨h.1,h.2.1⟩]
  exact h.2.2
 unfold take
 rw [if_pos hn]
 show (if st.bar=none/\zih w then some st.rows.length else st.bar)≠none
 by_cases c:st.bar=none
 ·rw [if_pos ⟨c,h⟩];simp
 ·rw [if_neg fun z=>c z.1];exact c
theorem zpp (st:St) (o:Option zas) (word:Wd) (used:List Nat):Imp st (put st o word used):=by
 cases o with
 | none=>exact Imp.refl st
 | some w=>exact zml st w word used
theorem zbb {f:St->Nat->St} (hf:∀s j,Imp s (f s j)):∀(l:List Nat) (s:St),Imp s (l.foldl f s)
 | [],s=>Imp.refl s
 | j::l,s=>(hf s j).trans (zbb hf l (f s j))
theorem zdx (f:zas->Option zas) (word:Wd) (i:Nat) (s:St):Imp s (za2 f word i s):=zpp ..
theorem zcn (f:zas->zas->Option zas) (word:Wd) (i j:Nat) (s:St):Imp s (zar f word i j s):=zpp ..
theorem zl4 (n:Nat) (F:zaz) (at_ a b:Nat) (s:St):Imp s (zbz n F at_ a b s):=
 ((((zdx _ _ _ _).trans (zdx _ _ _ _)).trans (zbb (fun _ _=>zcn ..) _ _)).trans (zbb (fun _ _=>zcn ..) _ _)).trans (zbb (fun _ _=>zcn ..) _ _)
theorem zk5 (n:Nat) (F:zaz) (at_ a:Nat) (s:St):Imp s (za6 n F at_ a s):=
 ((zdx _ _ _ _).trans (zdx _ _ _ _)).trans (zbb (fun _ _=>zcn ..) _ _)
theorem zd0 (n:Nat) (F:zaz) (at_:Nat) (s:St):Imp s (look n F at_ s):=by
 unfold look
 split
 ·split
  ·split
   ·exact zl4 ..
   ·exact zk5 ..
  ·exact Imp.refl s
 ·exact Imp.refl s
structure FOk (n:Nat) (F:zaz) (most:Int):Prop where
 lt:∀e f,F e=some f->f.1<n/\e<n
 own:∀e f,F e=some f->F f.1=none
 num:∀e f,F e=some f->1<=f.2.1/\f.2.1<=f.2.2/\f.2.2<=most
def Fit (n:Nat) (w:zas):Prop:=w.a<n/\w.b<n/\(w.tie=false->w.a≠w.b)
theorem zjj {n:Nat} {st:St} {o:Option zas} {word:Wd} {used:List Nat} (g:zdq n st) (h:∀w,o=some w->Fit n w):zdq n (put st o word used):=by
 cases o with
 | none=>exact g
 | some w=>exact zkd g (h w rfl).1 (h w rfl).2.1 (h w rfl).2.2
theorem zd5 {n:Nat} {f:zas->Option zas} {word:Wd} {i:Nat} {s:St} (g:zdq n s) (hf:∀p w,p.a<n->p.b<n->f p=some w->Fit n w):zdq n (za2 f word i s):=by
 refine zjj g fun w h=>?_
 cases q:wat s i with
 | none=>rw [q] at h;cases h
 | some p=>
  rw [q] at h
  have:=g.lt i p q
  exact hf p w this.1 this.2 h
theorem zh9 {n:Nat} {f:zas->zas->Option zas} {word:Wd} {i j:Nat} {s:St} (g:zdq n s) (hf:∀p q w,p.a<n->p.b<n->q.a<n->q.b<n->f p q=some w->Fit n w):zdq n (zar f word i j s):=by
 refine zjj g fun w h=>?_
 cases e1:wat s i with
 | none=>rw [e1] at h;cases h
 | some p=>
  rw [e1] at h
  have h:(wat s j).bind (fun q=>f p q)=some w:=h
  cases e2:wat s j with
  | none=>rw [e2] at h;cases h
  | some q=>
   rw [e2] at h
   have h1:=g.lt i p e1
   have h2:=g.lt j q e2
   exact hf p q w h1.1 h1.2 h2.1 h2.2 h
theorem zdr {n:Nat} {f:St->Nat->St} (hf:∀s j,zdq n s->zdq n (f s j)):∀(l:List Nat) (s:St),zdq n s->zdq n (l.foldl f s)
 | [],_,g=>g
 | j::l,s,g=>zdr hf l (f s j) (hf s j g)
theorem zls {n:Nat} (p q w:zas) (h1:p.a<n) (_:p.b<n) (_:q.a<n) (h4:q.b<n) (h:za1 p q=some w):Fit n w:=by
 unfold za1 at h
 split at h
 ·cases h;exact ⟨h1,h4,fun z=>nomatch z⟩
 ·cases h
theorem zhp {n:Nat} {F:zaz} (p w:zas) (h1:p.a<n) (h2:p.b<n) (h:zbh F p=some w):Fit n w:=by
 unfold zbh at h
 split at h
 next c=>
  cases q:F p.b with
  | none=>rw [q] at h;cases h
  | some f=>rw [q] at h;cases h;exact ⟨h1,h2,fun _=>c.2⟩
 ·cases h
theorem zhl {n:Nat} {F:zaz} {most:Int} (hF:FOk n F most) (p w:zas) (_:p.a<n) (h2:p.b<n) (h:zbq F p=some w):Fit n w:=by
 unfold zbq at h
 split at h
 ·cases q:F p.a with
  | none=>rw [q] at h;cases h
  | some f=>rw [q] at h;cases h;exact ⟨(hF.lt _ _ q).1,h2,fun z=>nomatch z⟩
 ·cases h
theorem zi9 {n:Nat} {F:zaz} {most:Int} (hF:FOk n F most) (p w:zas) (h1:p.a<n) (_:p.b<n) (h:zbg F p=some w):Fit n w:=by
 unfold zbg at h
 split at h
 ·cases q:F p.b with
  | none=>rw [q] at h;cases h
  | some f=>rw [q] at h;cases h;exact ⟨h1,(hF.lt _ _ q).1,fun z=>nomatch z⟩
 ·cases h
theorem zj1 {n:Nat} {F:zaz} (p q w:zas) (_:p.a<n) (h2:p.b<n) (h3:q.a<n) (_:q.b<n) (h:zau F p q=some w):Fit n w:=by
 unfold zau at h
 split at h
 next c=>
  cases e:F p.b with
  | none=>rw [e] at h;cases h
  | some f=>rw [e] at h;cases h;exact ⟨h3,h2,fun _=>c.2.2.2⟩
 ·cases h
theorem zic {n:Nat} {F:zaz} {most:Int} (hF:FOk n F most) (p w:zas) (_:p.a<n) (h2:p.b<n) (h:zay F p=some w):Fit n w:=by
 unfold zay at h
 split at h
 ·cases e:F p.a with
  | none=>rw [e] at h;cases h
  | some o=>
   rw [e] at h
   have h:(F p.b).map (fun f=>(⟨false,o.1,p.b,min p.v f.2.2-o.2.1⟩:zas))=some w:=h
   cases e2:F p.b with
   | none=>rw [e2] at h;cases h
   | some f=>
    rw [e2] at h
    cases h
    refine ⟨(hF.lt _ _ e).1,h2,fun _ z=>?_⟩
    have z:o.1=p.b:=z
    have:=hF.own _ _ e
    rw [z,e2] at this
    cases this
 ·cases h
theorem zp9 {n:Nat} {F:zaz} {most:Int} (hF:FOk n F most) {at_:Nat} {s:St} (g:zdq n s):zdq n (look n F at_ s):=by
 unfold look
 split
 ·split
  ·split
   ·refine zdr (fun _ _ g=>zh9 g zj1) _ _ (zdr (fun _ _ g=>zh9 g zls) _ _ (zdr (fun _ _ g=>zh9 g zls) _ _ (zd5 (zd5 g zhp) (zhl hF))))
   ·exact zdr (fun _ _ g=>zh9 g zj1) _ _ (zd5 (zd5 g (zi9 hF)) (zic hF))
  ·exact g
 ·exact g
theorem zhm {n:Nat} {F:zaz} {most:Int} (hF:FOk n F most) {s:St} (g:zdq n s):∀t,zdq n (run n F s t)
 | 0=>g
 | t+1=>zp9 hF (zhm hF g t)
def Add (C:zas->Prop) (s s':St):Prop:=∀i w,s.rows.length<=i->wat s' i=some w->C w
theorem Add.refl {C:zas->Prop} (s:St):Add C s s:=fun i w h e=>absurd (zd7 e) (by lia)
theorem Add.trans {C:zas->Prop} {a b c:St} (x:Add C a b) (e:Ext b c) (y:Add C b c):Add C a c:=fun i w h hw=>by
 by_cases hi:i<b.rows.length
 ·have:∃w',wat b i=some w':=⟨_,by unfold wat;rw [ZAx hi];rfl⟩
  obtain ⟨w',hw'⟩:=this
  have:=zax e hw'
  rw [hw] at this
  cases this
  exact x i w h hw'
 ·exact y i w (by lia) hw
theorem zmm {C:zas->Prop} {s:St} {w:zas} {word:Wd} {used:List Nat} (h:C w):Add C s (take s w word used):=fun i u hi hu=>by
 by_cases c:zhf s w
 ·obtain ⟨_,h1,h2⟩:=zhj (word:=word) (used:=used) c
  have:=zd7 hu
  have e:i=s.rows.length:=by lia
  rw [e,h1] at hu
  cases hu
  exact h
 ·rw [zfe c] at hu
  exact absurd (zd7 hu) (by lia)
theorem zee {C:zas->Prop} {s:St} {o:Option zas} {word:Wd} {used:List Nat} (h:∀w,o=some w->C w):Add C s (put s o word used):=by
 cases o with
 | none=>exact Add.refl s
 | some w=>exact zmm (h w rfl)
theorem zia {C:zas->Prop} {s:St} {f:zas->Option zas} {word:Wd} {i:Nat} {p:zas} (hp:wat s i=some p) (h:∀w,f p=some w->C w):Add C s (za2 f word i s):=zee fun w e=>by rw [hp] at e;exact h w e
theorem zqz {C:zas->Prop} {s:St} {f:zas->zas->Option zas} {word:Wd} {i j:Nat} {p q:zas} (hp:wat s i=some p) (hq:wat s j=some q) (h:∀w,f p q=some w->C w):Add C s (zar f word i j s):=zee fun w e=>by
 rw [hp] at e
 have e:(wat s j).bind (fun q=>f p q)=some w:=e
 rw [hq] at e
 exact h w e
theorem zdv {C:zas->Prop} {f:St->Nat->St} (hf:∀s j,Imp s (f s j)):∀(l:List Nat) (s0 s:St),Imp s0 s->(∀j∈l,∀s1,Imp s0 s1->Add C s1 (f s1 j))->Add C s (l.foldl f s)
 | [],_,s,_,_=>Add.refl s
 | j::l,s0,s,h0,h=>(h j ZA5 s h0).trans (zbb hf l (f s j)).1 (zdv hf l s0 (f s j) (h0.trans (hf s j)) fun k hk=>h k (ZA4 _ hk))
theorem zk8 {f:St->Nat->St} (hf:∀s j,Imp s (f s j)):∀(l:List Nat) (s:St) (j:Nat),j∈l->∃s1,Imp s s1/\Imp (f s1 j) (l.foldl f s)
 | [],_,_,h=>nomatch h
 | k::l,s,j,h=>by
  rcases ZBe.mp h with e | h
  ·subst e
   exact ⟨s,Imp.refl s,zbb hf l (f s j)⟩
  ·obtain ⟨s1,h1,h2⟩:=zk8 hf l (f s k) j h
   exact ⟨s1,(hf s k).trans h1,h2⟩
theorem zh5 {n:Nat} {st:St} {tie:Bool} {a j:Nat} (h:j∈za5 n st tie a):∃b,b<n/\st.best (tie,a,b)=some j:=by
 obtain ⟨b,hb,e⟩:=List.mem_filterMap.mp h
 exact ⟨b,List.mem_range.mp hb,e⟩
theorem zfb {n:Nat} {st:St} {b j:Nat} (h:j∈zbx n st b):∃a,a<n/\st.best (true,a,b)=some j:=by
 obtain ⟨a,ha,e⟩:=List.mem_filterMap.mp h
 exact ⟨a,List.mem_range.mp ha,e⟩
theorem zht {n:Nat} {s:St} (g:zdq n s) {k:Key} {u:Int} (h:val s k=some u):∃i w,s.best k=some i/\wat s i=some w/\w.key=k/\w.v=u:=by
 unfold val at h
 cases q:s.best k with
 | none=>rw [q] at h;cases h
 | some i=>
  obtain ⟨w,hw,hk⟩:=g.at_ k i q
  rw [q] at h
  have h:(wat s i).map (·.v)=some u:=h
  rw [hw] at h
  exact ⟨i,w,rfl,hw,hk,ZA7 h⟩
theorem zc4 {w:zas} {t:Bool} {a b:Nat} (h:w.key=(t,a,b)):w.tie=t/\w.a=a/\w.b=b:=by
 unfold zas.key at h
 exact ⟨congrArg Prod.fst h,congrArg (fun z=>z.2.1) h,congrArg (fun z=>z.2.2) h⟩
theorem zf5 {n:Nat} {s:St} (g:zdq n s) (hb:s.bar=none) {t:Bool} {a b:Nat} {u:Int} (h:val s (t,a,b)=some u):a≠b/\a<n/\b<n:=by
 obtain ⟨i,w,_,hw,hk,_⟩:=zht g h
 obtain ⟨_,h2,h3⟩:=zc4 hk
 have h4:=g.ne hb i w hw
 have h5:=g.lt i w hw
 rw [h2,h3] at h4
 rw [h2,h3] at h5
 exact ⟨h4,h5⟩
theorem zo0 {n:Nat} {F:zaz} {most:Int} (hF:FOk n F most) {s:St} (g:zdq n s) {at_ a b c:Nat} {p:zas} {u:Int} (hp:wat s at_=some p) (pt:p.tie=true) (pa:p.a=a) (pb:p.b=b) (hu:val s (true,b,c)=some u) (hbc:b≠c) (hc:c<n):
 (a≠c->∃x,x<=p.v+u/\val (zbz n F at_ a b s) (true,a,c)=some x)/\(a=c->p.v+u<0->(zbz n F at_ a b s).bar≠none):=by
 have i2:Imp s (za2 (zbq F) .soon at_ (za2 (zbh F) .late at_ s)):=(zdx _ _ _ _).trans (zdx _ _ _ _)
 have g2:zdq n (za2 (zbq F) .soon at_ (za2 (zbh F) .late at_ s)):=zd5 (zd5 g zhp) (zhl hF)
 unfold zbz
 dsimp only
 generalize za2 (zbq F) .soon at_ (za2 (zbh F) .late at_ s)=s2 at*
 obtain ⟨u2,hu2,nb⟩:=i2.2 (true,b,c) u hbc hu
 have hle:u2<=u:=by
  unfold zbm at nb
  simp at nb
  exact nb
 obtain ⟨j,q,hj,hq,hqk,hqv⟩:=zht g2 hu2
 obtain ⟨qt,qa,qb⟩:=zc4 hqk
 have hmem:j∈za5 n s2 true b:=List.mem_filterMap.mpr ⟨c,List.mem_range.mpr hc,hj⟩
 obtain ⟨s3,i3,i3'⟩:=zk8 (f:=fun st j=>zar za1 .sum at_ j st) (fun _ _=>zcn ..) _ s2 j hmem
 have hp3:=zax (i2.1.trans i3.1) hp
 have hq3:=zax i3.1 hq
 have hw:za1 p q=some ⟨true,a,c,p.v+u2⟩:=by
  unfold za1
  rw [if_pos ⟨pt,qt,by rw [pb,qa]⟩,pa,qb,hqv]
 have hd:zar za1 .sum at_ j s3=take s3 ⟨true,a,c,p.v+u2⟩ .sum [at_,j]:=by
  unfold zar
  rw [hp3]
  show put s3 ((wat s3 j).bind fun q=>za1 p q) .sum [at_,j]=_
  rw [hq3]
  show put s3 (za1 p q) .sum [at_,j]=_
  rw [hw]
  rfl
 rw [hd] at i3'
 have iZ:=i3'.trans ((zbb (f:=fun st j=>zar za1 .sum j at_ st) (fun _ _=>zcn ..) (zbx n ((za5 n s2 true b).foldl (fun st j=>zar za1 .sum at_ j st) s2) a) _).trans (zbb (f:=fun st j=>zar (zau F) .back j at_ st) (fun _ _=>zcn ..) (za5 n ((zbx n ((za5 n s2 true b).foldl (fun st j=>zar za1 .sum at_ j st) s2) a).foldl (fun st j=>zar za1 .sum j at_ st) ((za5 n s2 true b).foldl (fun st j=>zar za1 .sum at_ j st) s2)) false b) _))
 refine ⟨fun hac=>?_,fun hac hlt=>?_⟩
 ·obtain ⟨x,hx,nx⟩:=zgt (st:=s3) (word:=.sum) (used:=[at_,j]) (w:=⟨true,a,c,p.v+u2⟩) hac
  obtain ⟨y,hy,ny⟩:=iZ.2 (true,a,c) x hac hx
  refine ⟨y,?_,hy⟩
  unfold zbm at nx ny
  simp at nx ny
  lia
 ·exact iZ.1.bar (zo1 ⟨rfl,hac,by show p.v+u2<0;lia⟩)
theorem zmh {n:Nat} {F:zaz} {most:Int} (hF:FOk n F most) {s:St} (g:zdq n s) {at_ a:Nat} {p:zas} {B:Int} (hp:wat s at_=some p) (pt:p.tie=false) (pa:p.a=a)
 (hB:∀x v,val (za6 n F at_ a s) (true,x,a)=some v->-B<=v) (hB0:0<=B) (hbar:(za6 n F at_ a s).bar=none):
 Add (fun w=>(w.tie=true->-most<=w.v)/\(w.tie=false->w.v<=most+B)) s (za6 n F at_ a s):=by
 unfold za6 at hB hbar ⊢
 dsimp only at hB hbar ⊢
 have g1:zdq n (za2 (zbg F) .sure at_ s):=zd5 g (zi9 hF)
 have i1:Imp s (za2 (zbg F) .sure at_ s):=zdx _ _ _ _
 have A1:Add (fun w=>(w.tie=true->-most<=w.v)/\(w.tie=false->w.v<=most+B)) s (za2 (zbg F) .sure at_ s):=zia hp fun w e=>by
  unfold zbg at e
  rw [if_pos pt] at e
  cases q:F p.b with
  | none=>rw [q] at e;cases e
  | some f=>
   rw [q] at e
   cases e
   have:=hF.num _ _ q
   refine ⟨fun _=>?_,nofun⟩
   show-most<=-min p.v f.2.1
   omega
 generalize za2 (zbg F) .sure at_ s=s1 at*
 have hp1:=zax i1.1 hp
 have g2:zdq n (za2 (zay F) .cross at_ s1):=zd5 g1 (zic hF)
 have i2:Imp s1 (za2 (zay F) .cross at_ s1):=zdx _ _ _ _
 have A2:Add (fun w=>(w.tie=true->-most<=w.v)/\(w.tie=false->w.v<=most+B)) s1 (za2 (zay F) .cross at_ s1):=zia hp1 fun w e=>by
  unfold zay at e
  split at e
  ·cases q:F p.a with
   | none=>rw [q] at e;cases e
   | some o=>
    rw [q] at e
    have e:(F p.b).map (fun f=>(⟨false,o.1,p.b,min p.v f.2.2-o.2.1⟩:zas))=some w:=e
    cases q2:F p.b with
    | none=>rw [q2] at e;cases e
    | some f=>
     rw [q2] at e
     cases e
     have h1:=hF.num _ _ q
     have h2:=hF.num _ _ q2
     refine ⟨nofun,fun _=>?_⟩
     show min p.v f.2.2-o.2.1<=most+B
     omega
  ·cases e
 generalize za2 (zay F) .cross at_ s1=s2 at*
 have hp2:=zax i2.1 hp1
 have i3:Imp s2 ((zbx n s2 a).foldl (fun st j=>zar (zau F) .back at_ j st) s2):=zbb (fun _ _=>zcn ..) _ _
 have b2:=ZAz fun z=>i3.1.bar z hbar
 have A3:Add (fun w=>(w.tie=true->-most<=w.v)/\(w.tie=false->w.v<=most+B)) s2 ((zbx n s2 a).foldl (fun st j=>zar (zau F) .back at_ j st) s2):=zdv (f:=fun st j=>zar (zau F) .back at_ j st) (fun _ _=>zcn ..) _ s2 s2 (Imp.refl _) fun j hj sx hx=>by
  obtain ⟨c,_,hbest⟩:=zfb hj
  obtain ⟨q,hq,hk⟩:=g2.at_ _ _ hbest
  obtain ⟨_,qa,qb⟩:=zc4 hk
  have qne:=g2.ne b2 j q hq
  rw [qa,qb] at qne
  obtain ⟨v',hv',nb⟩:=i3.2 (true,c,a) q.v qne (zc1 hbest hq)
  have hlo:=hB c v' hv'
  unfold zbm at nb
  simp at nb
  refine zqz (zax hx.1 hp2) (zax hx.1 hq) fun w e=>?_
  unfold zau at e
  split at e
  ·cases z:F p.b with
   | none=>rw [z] at e;cases e
   | some f=>
    rw [z] at e
    cases e
    have h2:=hF.num _ _ z
    refine ⟨nofun,fun _=>?_⟩
    show min p.v f.2.2-q.v<=most+B
    omega
  ·cases e
 exact (A1.trans i2.1 A2).trans i3.1 A3
theorem zpl {n:Nat} {F:zaz} {s:St} (t:Nat):∀d,Imp (run n F s t) (run n F s (t+d))
 | 0=>Imp.refl _
 | d+1=>(zpl t d).trans (zd0 n F (t+d) _)
theorem zff {n:Nat} {F:zaz} {s:St} {t t':Nat} (h:t<=t'):Imp (run n F s t) (run n F s t'):=by
 have:=zpl (n:=n) (F:=F) (s:=s) t (t'-t)
 rwa [show t+(t'-t)=t' by omega] at this
section
variable {n:Nat} {F:zaz} {most:Int} {s0:St}
def pt (n:Nat) (F:zaz) (s0:St) (t a b:Nat):Prop:=∃w,wat (run n F s0 t) t=some w/\w.tie=true/\w.a=a/\w.b=b/\(run n F s0 t).best (true,a,b)=some t
theorem zjp {s:St} {t a b:Nat} {w:zas} (hw:wat s t=some w) (ht:w.tie=true) (ha:w.a=a) (hb:w.b=b) (hbest:s.best (true,a,b)=some t):look n F t s=zbz n F t a b s:=by
 unfold look
 rw [hw]
 have hk:w.key=(true,a,b):=by unfold zas.key;rw [ht,ha,hb]
 dsimp only
 rw [hk,if_pos hbest,if_pos ht,ha,hb]
theorem zlx {s s':St} (g:zdq n s) (g':zdq n s') (e:Ext s s') {k:Key} (h:val s' k≠val s k):∃j w,s.rows.length<=j/\wat s' j=some w/\w.key=k/\val s' k=some w.v:=by
 rcases e.best k with hb | ⟨j,hj,hlen⟩
 ·exfalso
  apply h
  unfold val
  rw [hb]
  cases q:s.best k with
  | none=>rfl
  | some i=>
   show (wat s' i).map (·.v)=(wat s i).map (·.v)
   obtain ⟨w,hw,_⟩:=g.at_ k i q
   rw [hw,zax e hw]
 ·obtain ⟨w,hw,hk⟩:=g'.at_ k j hj
  exact ⟨j,w,hlen,hw,hk,zc1 hj hw⟩
theorem zll {t t':Nat} (h:t<=t') (g:zdq n (run n F s0 t)) {k:Key} {i j:Nat} (hi:(run n F s0 t).best k=some i) (hj:(run n F s0 t').best k=some j):i<=j:=by
 rcases (zff (n:=n) (F:=F) (s:=s0) h).1.best k with e | ⟨j',e,hl⟩
 ·rw [e,hi] at hj
  cases hj
  exact ZAw _
 ·rw [e] at hj
  cases hj
  obtain ⟨w,hw,_⟩:=g.at_ k i hi
  exact ZBg (ZBb (zd7 hw)) hl
theorem zma {t t':Nat} (h:t<=t') (g:zdq n (run n F s0 t)) (g':zdq n (run n F s0 t')) (hbar:(run n F s0 t').bar=none) {k:Key} {i j:Nat} (hi:(run n F s0 t).best k=some i) (hj:(run n F s0 t').best k=some j) (hne:i≠j):val (run n F s0 t') k≠val (run n F s0 t) k:=by
 obtain ⟨w,hw,hk⟩:=g.at_ k i hi
 obtain ⟨w',hw',hk'⟩:=g'.at_ k j hj
 have hle:=zll h g hi hj
 have:=g'.drop hbar i j w w' (zax (zff h).1 hw) hw' (hk.trans hk'.symm) (by omega)
 rw [zc1 hi hw,zc1 hj hw']
 intro e
 have e:w'.v=w.v:=ZA7 e
 rw [e] at this
 exact zdh _ _ this
end
variable {n:Nat} {F:zaz} {most:Int} {s0:St}
theorem zkv {s:St} {t:Nat} {p:zas} (hp:wat s t=some p) (ht:p.tie=false) (hb:s.best p.key=some t):look n F t s=za6 n F t p.a s:=by
 unfold look
 rw [hp]
 dsimp only
 rw [if_pos hb,if_neg (by rw [ht];decide)]
theorem zkw {s:St} {t:Nat} {p:zas} (hp:wat s t=some p) (hb:s.best p.key≠some t):look n F t s=s:=by
 unfold look
 rw [hp]
 dsimp only
 rw [if_neg hb]
end MU
namespace MH
theorem zqi:∀(M N:Nat) (f:Nat->Nat),(∀i,i<N->f i<M)->(∀i j,i<j->j<N->f i≠f j)->N<=M
 | 0,N,f,h,_=>by
  cases N with
  | zero=>exact ZAw _
  | succ N=>exact absurd (h 0 (Nat.succ_pos _)) (ZB6 _)
 | M+1,N,f,h,hi=>by
  by_cases c:∃p,p<N/\f p=M
  ·obtain ⟨p,hp,ep⟩:=c
   have k:=zqi M (N-1) (fun i=>f (if i<p then i else i+1)) (fun i hi'=>by
    have h1:(if i<p then i else i+1)<N:=by split<;>lia
    have h2:=h _ h1
    have h3:f (if i<p then i else i+1)≠M:=fun z=>by
     by_cases c:i<p
     ·rw [if_pos c] at z
      exact hi i p c hp (z.trans ep.symm)
     ·rw [if_neg c] at z
      exact hi p (i+1) (by lia) (by lia) (ep.trans z.symm)
    show f (if i<p then i else i+1)<M
    lia) (fun i j hij hj=>by
    show f (if i<p then i else i+1)≠f (if j<p then j else j+1)
    refine hi _ _ ?_ ?_
    ·split<;>split<;>lia
    ·split<;>lia)
   lia
  ·have k:=zqi M N f (fun i hi'=>by
    have h1:=h i hi'
    have h2:f i≠M:=fun z=>c ⟨i,hi',z⟩
    lia) hi
   lia
open Classical in
def cnt (P:Nat->Prop):Nat->Nat
 | 0=>0
 | N+1=>cnt P N+if P N then 1 else 0
theorem zdl {P:Nat->Prop} {N:Nat} (h:P N):cnt P (N+1)=cnt P N+1:=by
 rw [cnt,if_pos h]
theorem zgk {P:Nat->Prop} {N:Nat} (h:¬P N):cnt P (N+1)=cnt P N:=by
 rw [cnt,if_neg h,Nat.add_zero]
theorem znk (P:Nat->Prop):∀N,∃e:Nat->Nat,(∀i,i<cnt P N->P (e i)/\e i<N)/\∀i j,i<j->j<cnt P N->e i<e j
 | 0=>⟨fun i=>i,fun i h=>absurd h (ZB6 _),fun i j _ h=>absurd h (ZB6 _)⟩
 | N+1=>by
  obtain ⟨e,h1,h2⟩:=znk P N
  by_cases c:P N
  ·have ec:cnt P (N+1)=cnt P N+1:=zdl c
   refine ⟨fun i=>if i<cnt P N then e i else N,fun i hi=>?_,fun i j hij hj=>?_⟩
   ·by_cases d:i<cnt P N
    ·show P (if i<cnt P N then e i else N)/\(if i<cnt P N then e i else N)<N+1
     rw [if_pos d]
     have:=h1 i d
     exact ⟨this.1,by lia⟩
    ·show P (if i<cnt P N then e i else N)/\(if i<cnt P N then e i else N)<N+1
     rw [if_neg d]
     exact ⟨c,by lia⟩
   ·show (if i<cnt P N then e i else N)<(if j<cnt P N then e j else N)
    rw [if_pos (show i<cnt P N by lia)]
    by_cases d:j<cnt P N
    ·rw [if_pos d];exact h2 i j hij d
    ·rw [if_neg d];exact (h1 i (by lia)).2
  ·have ec:cnt P (N+1)=cnt P N:=zgk c
   rw [ec]
   exact ⟨e,fun i hi=>⟨(h1 i hi).1,by have:=(h1 i hi).2;lia⟩,h2⟩
theorem zw3 {P:Nat->Prop} {N M:Nat} (code:Nat->Nat) (h:∀i,i<N->P i->code i<M) (hi:∀i j,i<j->j<N->P i->P j->code i≠code j):cnt P N<=M:=by
 obtain ⟨e,h1,h2⟩:=znk P N
 exact zqi M (cnt P N) (fun i=>code (e i)) (fun i z=>h _ (h1 i z).2 (h1 i z).1) fun i j hij hj=>hi _ _ (h2 i j hij hj) (h1 j hj).2 (h1 i (by lia)).1 (h1 j hj).1
theorem zq1 {P Q R:Nat->Prop} (h:∀i,P i->Q i\/R i):∀N,cnt P N<=cnt Q N+cnt R N
 | 0=>ZAw _
 | N+1=>by
  have ih:=zq1 h N
  have hq:cnt Q N<=cnt Q (N+1):=by
   by_cases c:Q N
   ·rw [zdl c];lia
   ·rw [zgk c];lia
  have hr:cnt R N<=cnt R (N+1):=by
   by_cases c:R N
   ·rw [zdl c];lia
   ·rw [zgk c];lia
  by_cases c:P N
  ·rw [zdl c]
   rcases h N c with q | q
   ·rw [zdl q];lia
   ·rw [zdl q];lia
  ·rw [zgk c];lia
theorem zeh:∀(N:Nat) (l:List Nat),l.Nodup->(∀z∈l,z<N)->l.length<=N
 | 0,l,_,h=>by
  cases l with
  | nil=>exact ZAw _
  | cons x t=>exact absurd (h x ZA5) (ZB6 _)
 | N+1,l,hn,h=>by
  by_cases c:N∈l
  ·have k:=zeh N (l.erase N) (hn.erase N) (fun z hz=>by
    have h1:=h z (List.mem_of_mem_erase hz)
    have h2:z≠N:=fun e=>by
     rw [e] at hz
     exact (hn.mem_erase_iff.mp hz).1 rfl
    lia)
   rw [List.length_erase_of_mem c] at k
   lia
  ·have k:=zeh N l hn (fun z hz=>by
    have h1:=h z hz
    have h2:z≠N:=fun e=>c (e▸hz)
    lia)
   lia
end MH
set_option linter.unusedVariables false
namespace MH
structure Bd (n:Nat) (L most:Int) (T:Nat) (len:Nat->Nat) (m w:Nat->Nat->Nat->Option Int) (pt pw:Nat->Nat->Nat->Prop):Prop where
 n8:n<=8
 L0:0<=L
 most0:0<=most
 go:∀t,t<T->t<len t
 lenm:∀t,t<T->len t<=len (t+1)
 lt:∀t a b v,t<=T->m t a b=some v->a<n/\b<n/\a≠b
 known:∀t a b,t<T->pt t a b->∃v,m t a b=some v
 wknown:∀t a b,t<T->pw t a b->a<n/\b<n/\a≠b/\∃v,w t a b=some v
 mono:∀t a b v,t<T->m t a b=some v->∃v',v'<=v/\m (t+1) a b=some v'
 wmono:∀t a b v,t<T->w t a b=some v->∃v',v<=v'/\w (t+1) a b=some v'
 told:∀i,0<i->i<n->(∃v,v<=L/\m 0 0 i=some v)/\∃v,v<=0/\m 0 i 0=some v
 wnone:∀a b,w 0 a b=none
 sum:∀t a b c v u,t<T->pt t a b->m t a b=some v->m t b c=some u->a≠c->∃x,x<=v+u/\m (t+1) a c=some x
 bar:∀t a b v u,t<T->pt t a b->m t a b=some v->m t b a=some u->0<=v+u
 one:∀t a b a' b',t<T->pt t a b->pt t a' b'->a=a'/\b=b'
 onew:∀t a b a' b',t<T->pw t a b->pw t a' b'->a=a'/\b=b'
 apart:∀t a b a' b',t<T->pt t a b->¬pw t a' b'
 cause:∀t a b,t<T->m (t+1) a b≠m t a b->(∃c v q y,pt t a c/\c≠b/\m t a c=some v/\m t c b=some q/\m (t+1) a b=some y/\v+q<=y)\/(∃c,pt t c b/\c≠a)\/∃e y,pw t a e/\m (t+1) a b=some y/\-most<=y
 late:∀t a b e v v',t<T->pt t a b->m t a b=some v->t<=e->e<T->pw e a b->w e a b=some v'->1-v<=v'
 wcause:∀t a b B,t<T->0<=B->(∀x y v,m (t+1) x y=some v->-B<=v)->w (t+1) a b≠w t a b->∃y,w (t+1) a b=some y/\y<=most+B
 grow:∀t,t<T->len (t+1)<=len t+26
 growW:∀t,t<T->(∀a b,¬pt t a b)->len (t+1)<=len t+10
 grow0:∀t,t<T->(∀a b,¬pt t a b)->(∀a b,¬pw t a b)->len (t+1)=len t
 stay:∀t0 t a b v,t<=T->len t0<=t->t0<=t->m t0 a b=some v->m t a b=some v->∃s,s<t/\pt s a b/\m s a b=some v
 drop:∀t t' a b v v',t<t'->t'<T->pt t a b->pt t' a b->m t a b=some v->m t' a b=some v'->v'<v
 wdrop:∀t t' a b v v',t<t'->t'<T->pw t a b->pw t' a b->w t a b=some v->w t' a b=some v'->v<v'
 once:∀t t' a b,t<t'->t'<T->pt t a b->pt t' a b->len t<=t'
 wonce:∀t t' a b,t<t'->t'<T->pw t a b->pw t' a b->len t<=t'
section
variable {n:Nat} {L most:Int} {T:Nat} {len:Nat->Nat} {m w:Nat->Nat->Nat->Option Int} {pt pw:Nat->Nat->Nat->Prop}
def Kn (m:Nat->Nat->Nat->Option Int) (t a b:Nat) (x:Int):Prop:=∃v,v<=x/\m t a b=some v
theorem Kn.le {t a b:Nat} {x y:Int} (h:Kn m t a b x) (hx:x<=y):Kn m t a b y:=by
 obtain ⟨v,h1,h2⟩:=h
 exact ⟨v,by lia,h2⟩
theorem Bd.mono_at (R:Bd n L most T len m w pt pw) {a b t:Nat} {v:Int} (h:m t a b=some v):∀d,t+d<=T->∃v',v'<=v/\m (t+d) a b=some v'
 | 0,_=>⟨v,Int.le_refl _,h⟩
 | d+1,hd=>by
  obtain ⟨v1,h1,e1⟩:=R.mono_at h d (by lia)
  obtain ⟨v2,h2,e2⟩:=R.mono _ _ _ _ (by lia) e1
  exact ⟨v2,by lia,e2⟩
theorem Bd.mono' (R:Bd n L most T len m w pt pw) {a b t t':Nat} {v:Int} (h:m t a b=some v) (ht:t<=t') (hT:t'<=T):∃v',v'<=v/\m t' a b=some v':=by
 obtain ⟨v',h1,h2⟩:=R.mono_at h (t'-t) (by lia)
 rw [show t+(t'-t)=t' by lia] at h2
 exact ⟨v',h1,h2⟩
theorem Bd.kn (R:Bd n L most T len m w pt pw) {a b t t':Nat} {x:Int} (h:Kn m t a b x) (ht:t<=t') (hT:t'<=T):Kn m t' a b x:=by
 obtain ⟨v,h1,h2⟩:=h
 obtain ⟨v',h3,h4⟩:=R.mono' h2 ht hT
 exact ⟨v',by lia,h4⟩
theorem Bd.same (R:Bd n L most T len m w pt pw) {a b t t' s:Nat} {v:Int} (h:m t a b=some v) (h':m t' a b=some v) (h1:t<=s) (h2:s<=t') (hT:t'<=T):m s a b=some v:=by
 obtain ⟨v1,l1,e1⟩:=R.mono' h h1 (by lia)
 obtain ⟨v2,l2,e2⟩:=R.mono' e1 h2 hT
 rw [h'] at e2
 cases e2
 rw [e1,show v1=v by lia]
def rho (m:Nat->Nat->Nat->Option Int) (t x:Nat):Int:=(m t x 0).getD 0
theorem Bd.rho_is (R:Bd n L most T len m w pt pw) {t x:Nat} (hx:0<x) (hn:x<n) (ht:t<=T):m t x 0=some (rho m t x)/\rho m t x<=0:=by
 obtain ⟨v,h1,h2⟩:=(R.told x hx hn).2
 obtain ⟨v',h3,h4⟩:=R.mono' h2 (ZBa t) ht
 unfold rho
 rw [h4]
 exact ⟨rfl,by show v'<=0;lia⟩
theorem Bd.rho_mono (R:Bd n L most T len m w pt pw) {t x:Nat} (hx:0<x) (hn:x<n) (ht:t<T):rho m (t+1) x<=rho m t x:=by
 obtain ⟨v,h1,h2⟩:=R.mono _ _ _ _ ht (R.rho_is hx hn (ZBb ht)).1
 have:=(R.rho_is (t:=t+1) hx hn ht).1
 rw [h2] at this
 have:=ZA7 this
 lia
theorem Bd.pi_is (R:Bd n L most T len m w pt pw) {t x:Nat} (hx:0<x) (hn:x<n) (ht:t<=T):Kn m t 0 x L:=by
 obtain ⟨v,h1,h2⟩:=(R.told x hx hn).1
 exact R.kn ⟨v,h1,h2⟩ (ZBa t) ht
def zmb (n:Nat) (L:Int) (m:Nat->Nat->Nat->Option Int) (t x:Nat):Prop:= -L<=rho m t x/\∀z,0<z->z<n->z≠x->Kn m t x z (rho m t x+max L (-rho m t z))
def zok (n:Nat) (m:Nat->Nat->Nat->Option Int) (t x:Nat) (l:List Nat):Prop:=l.Nodup/\x∈l/\(∀z∈l,0<z/\z<n)/\∀z∈l,z≠x->Kn m t x z (rho m t x-rho m t z)
theorem zmb.next (R:Bd n L most T len m w pt pw) {t x:Nat} (hx:0<x) (hn:x<n) (ht:t<T) (h:zmb n L m t x) (e:m (t+1) x 0=m t x 0):zmb n L m (t+1) x:=by
 have er:rho m (t+1) x=rho m t x:=by unfold rho;rw [e]
 refine ⟨by rw [er];exact h.1,fun z h1 h2 h3=>?_⟩
 have hz:=R.rho_mono h1 h2 ht
 rw [er]
 exact (R.kn (h.2 z h1 h2 h3) (ZAe t) ht).le (by omega)
theorem zok.next (R:Bd n L most T len m w pt pw) {t x:Nat} {l:List Nat} (ht:t<T) (h:zok n m t x l) (e:m (t+1) x 0=m t x 0):zok n m (t+1) x l:=by
 have er:rho m (t+1) x=rho m t x:=by unfold rho;rw [e]
 obtain ⟨h1,h2,h3,h4⟩:=h
 refine ⟨h1,h2,h3,fun z hz hne=>?_⟩
 have:=R.rho_mono (h3 z hz).1 (h3 z hz).2 ht
 rw [er]
 exact (R.kn (h4 z hz hne) (ZAe t) ht).le (by lia)
theorem zmb.upto (R:Bd n L most T len m w pt pw) {s x:Nat} (hx:0<x) (hn:x<n) (h:zmb n L m s x):∀d,s+d<=T->m (s+d) x 0=m s x 0->zmb n L m (s+d) x
 | 0,_,_=>h
 | d+1,hd,e=>by
  have h1:=(R.rho_is (t:=s) hx hn (by lia)).1
  have h2:m (s+(d+1)) x 0=some (rho m s x):=e.trans h1
  have h3:=R.same h1 h2 (s:=s+d) (by lia) (by lia) hd
  exact zmb.next R (t:=s+d) hx hn (by lia) (zmb.upto R hx hn h d (by lia) (h3.trans h1.symm)) (h2.trans h3.symm)
theorem Bd.looked (R:Bd n L most T len m w pt pw) {s x:Nat} (hs:s<T) (h:pt s x 0) (hx:0<x) (hn:x<n) (e:m (s+1) x 0=m s x 0):zmb n L m (s+1) x:=by
 obtain ⟨h1,_⟩:=R.rho_is (t:=s) hx hn (ZBb hs)
 have er:rho m (s+1) x=rho m s x:=by unfold rho;rw [e]
 obtain ⟨p,hp1,hp2⟩:=R.pi_is hx hn (ZBb hs)
 have hb:=R.bar _ _ _ _ _ hs h h1 hp2
 refine ⟨by rw [er];lia,fun z z1 z2 z3=>?_⟩
 obtain ⟨q,hq1,hq2⟩:=R.pi_is z1 z2 (ZBb hs)
 obtain ⟨y,hy,ey⟩:=R.sum _ _ _ _ _ _ hs h h1 hq2 (ZAl z3)
 refine ⟨y,?_,ey⟩
 rw [er]
 lia
theorem Bd.stands (R:Bd n L most T len m w pt pw) {t0 t x:Nat} (hx:0<x) (hn:x<n) (ht:t<=T) (h0:len t0<=t) (h1:t0<=t) (e:m t x 0=m t0 x 0):zmb n L m t x:=by
 have hr:=(R.rho_is (t:=t) hx hn ht).1
 obtain ⟨s,hs,hp,hv⟩:=R.stay t0 t x 0 _ ht h0 h1 (e.symm.trans hr) hr
 have e1:=R.same hv hr (s:=s+1) (by lia) (by lia) ht
 have hf:=R.looked (by lia) hp hx hn (e1.trans hv.symm)
 have:=zmb.upto R hx hn hf (t-(s+1)) (by lia)
 rw [show s+1+(t-(s+1))=t by lia] at this
 exact this (hr.trans e1.symm)
theorem Bd.over (R:Bd n L most T len m w pt pw) {t x c:Nat} {v q y:Int} (ht:t<T) (hx:0<x) (hn:x<n) (hc:c≠0) (hp:pt t x c) (hv:m t x c=some v) (hq:m t c 0=some q) (hy:m (t+1) x 0=some y) (hle:v+q<=y) (hne:m (t+1) x 0≠m t x 0):
 c<n/\c≠x/\rho m t c=q/\rho m (t+1) x=v+q/\rho m (t+1) x<rho m t x/\rho m (t+1) c<=q:=by
 obtain ⟨l1,l2,l3⟩:=R.lt _ _ _ _ (ZBb ht) hv
 have hq':=(R.rho_is (t:=t) (x:=c) (by lia) l2 (ZBb ht)).1
 rw [hq] at hq'
 have eq:=ZA7 hq'
 obtain ⟨z,hz,ez⟩:=R.sum _ _ _ _ _ _ ht hp hv hq (show x≠0 by lia)
 rw [hy] at ez
 have ez:=ZA7 ez
 have hy':=(R.rho_is (t:=t+1) hx hn ht).1
 rw [hy] at hy'
 have ey:=ZA7 hy'
 have hx':=(R.rho_is (t:=t) hx hn (ZBb ht)).1
 have hmn:=R.rho_mono hx hn ht
 have hcn:=R.rho_mono (x:=c) (by lia) l2 ht
 refine ⟨l2,ZAl l3,eq.symm,by lia,?_,by lia⟩
 have:rho m (t+1) x≠rho m t x:=fun z=>hne (by rw [hx',hy,<-z,ey])
 lia
theorem Bd.overFine (R:Bd n L most T len m w pt pw) {t x c:Nat} {v q y:Int} (ht:t<T) (hx:0<x) (hn:x<n) (hc:c≠0) (hp:pt t x c) (hv:m t x c=some v) (hq:m t c 0=some q) (hy:m (t+1) x 0=some y) (hle:v+q<=y) (hne:m (t+1) x 0≠m t x 0) (h:zmb n L m t c):zmb n L m (t+1) x:=by
 obtain ⟨hcn,hcx,eq,er,hlt,hc1⟩:=R.over ht hx hn hc hp hv hq hy hle hne
 obtain ⟨f1,f2⟩:=h
 have L0:=R.L0
 obtain ⟨u,hu,eu⟩:=f2 x hx hn (ZAl hcx)
 have hb:=R.bar _ _ _ _ _ ht hp hv eu
 rw [eq] at hu
 refine ⟨by omega,fun z h1 h2 h3=>?_⟩
 have hz:=R.rho_mono h1 h2 ht
 by_cases e:z=c
 ·subst e
  obtain ⟨v',hv',ev'⟩:=R.mono _ _ _ _ ht hv
  exact ⟨v',by omega,ev'⟩
 ·obtain ⟨u',hu',eu'⟩:=f2 z h1 h2 e
  obtain ⟨x',hx',ex'⟩:=R.sum _ _ _ _ _ _ ht hp hv eu' (ZAl h3)
  rw [eq] at hu'
  exact ⟨x',by omega,ex'⟩
theorem Bd.overChain (R:Bd n L most T len m w pt pw) {t x c:Nat} {v q y:Int} {l:List Nat} (ht:t<T) (hx:0<x) (hn:x<n) (hc:c≠0) (hp:pt t x c) (hv:m t x c=some v) (hq:m t c 0=some q) (hy:m (t+1) x 0=some y) (hle:v+q<=y) (hne:m (t+1) x 0≠m t x 0) (h:zok n m t c l):zok n m (t+1) x (x::l):=by
 obtain ⟨hcn,hcx,eq,er,hlt,hc1⟩:=R.over ht hx hn hc hp hv hq hy hle hne
 obtain ⟨g1,g2,g3,g4⟩:=h
 have hxl:x∉l:=fun z=>by
  obtain ⟨u,hu,eu⟩:=g4 x z (ZAl hcx)
  have hb:=R.bar _ _ _ _ _ ht hp hv eu
  rw [eq] at hu
  lia
 refine ⟨List.nodup_cons.mpr ⟨hxl,g1⟩,ZA5,fun z hz=>?_,fun z hz hne'=>?_⟩
 ·rcases ZBe.mp hz with rfl | hz
  ·exact ⟨hx,hn⟩
  ·exact g3 z hz
 ·rcases ZBe.mp hz with e | hz
  ·exact absurd e hne'
  ·have hzr:=R.rho_mono (g3 z hz).1 (g3 z hz).2 ht
   by_cases e:z=c
   ·subst e
    obtain ⟨v',hv',ev'⟩:=R.mono _ _ _ _ ht hv
    exact ⟨v',by lia,ev'⟩
   ·obtain ⟨u',hu',eu'⟩:=g4 z hz e
    obtain ⟨x',hx',ex'⟩:=R.sum _ _ _ _ _ _ ht hp hv eu' (ZAl hne')
    rw [eq] at hu'
    exact ⟨x',by lia,ex'⟩
def gen (len:Nat->Nat):Nat->Nat
 | 0=>0
 | g+1=>len (gen len g)
def zvh (n:Nat) (most:Int) (m:Nat->Nat->Nat->Option Int) (pt:Nat->Nat->Nat->Prop) (t:Nat):Prop:=(∃c,pt t c 0)\/∃x y,0<x/\x<n/\m (t+1) x 0=some y/\m (t+1) x 0≠m t x 0/\-most<=y
def zvn (n:Nat) (L:Int) (m:Nat->Nat->Nat->Option Int) (k t0 t:Nat):Prop:=∀x,0<x->x<n->zmb n L m t x\/∃l,zok n m t x l/\(k+1<=l.length\/(k<=l.length/\m t x 0=m t0 x 0))
theorem Bd.calm_step (R:Bd n L most T len m w pt pw) {k t0 t:Nat} (ht:t<T) (hs:¬zvh n most m pt t) (h:zvn n L m k t0 t):zvn n L m k t0 (t+1):=fun x hx hn=>by
 by_cases e:m (t+1) x 0=m t x 0
 ·rcases h x hx hn with f | ⟨l,c,hl⟩
  ·exact .inl (f.next R hx hn ht e)
  ·refine .inr ⟨l,c.next R ht e,?_⟩
   rcases hl with hl | ⟨hl,e0⟩
   ·exact .inl hl
   ·exact .inr ⟨hl,e.trans e0⟩
 ·rcases R.cause t x 0 ht e with ⟨c,v,q,y,hp,hc,hv,hq,hy,hle⟩ | ⟨c,hp,_⟩ | ⟨e',y,_,hy,hlo⟩
  ·obtain ⟨hcn,_⟩:=R.over ht hx hn hc hp hv hq hy hle e
   rcases h c (by lia) hcn with f | ⟨l,ch,hl⟩
   ·exact .inl (R.overFine ht hx hn hc hp hv hq hy hle e f)
   ·refine .inr ⟨x::l,R.overChain ht hx hn hc hp hv hq hy hle e ch,.inl ?_⟩
    rw [ZBp]
    rcases hl with hl | ⟨hl,_⟩<;>lia
  ·exact absurd (.inl ⟨c,hp⟩) hs
  ·exact absurd (.inr ⟨x,y,hx,hn,hy,e,hlo⟩) hs
theorem Bd.calm_gen (R:Bd n L most T len m w pt pw) {k t0:Nat} (hs:∀t,t0<=t->t<len t0->¬zvh n most m pt t) (h:zvn n L m k t0 t0):∀d,t0+d<=T->t0+d<=len t0->zvn n L m k t0 (t0+d)
 | 0,_,_=>h
 | d+1,h1,h2=>R.calm_step (t:=t0+d) (by lia) (hs (t0+d) (by lia) (by lia)) (R.calm_gen hs h d (by lia) (by lia))
theorem Bd.calm_next (R:Bd n L most T len m w pt pw) {k t0:Nat} (h0:t0<=len t0) (hT:len t0<=T) (hs:∀t,t0<=t->t<len t0->¬zvh n most m pt t) (h:zvn n L m k t0 t0):zvn n L m (k+1) (len t0) (len t0):=fun x hx hn=>by
 have:=R.calm_gen hs h (len t0-t0) (by lia) (by lia)
 rw [show t0+(len t0-t0)=len t0 by lia] at this
 rcases this x hx hn with f | ⟨l,c,hl⟩
 ·exact .inl f
 ·rcases hl with hl | ⟨hl,e⟩
  ·exact .inr ⟨l,c,.inr ⟨hl,rfl⟩⟩
  ·exact .inl (R.stands hx hn hT (ZAw _) h0 e)
theorem Bd.gen_le (R:Bd n L most T len m w pt pw) {g:Nat} (h:gen len g<=T) (h2:gen len (g+1)<=T):gen len g<=gen len (g+1):=by
 by_cases c:gen len g=T
 ·rw [c]
  show T<=len (gen len g)
  rw [c]
  have:gen len (g+1)=len T:=by show len (gen len g)=_;rw [c]
  by_cases z:T=0
  ·lia
  ·have h3:=R.go (T-1) (by lia)
   have h4:=R.lenm (T-1) (by lia)
   rw [show T-1+1=T by lia] at h4
   lia
 ·exact ZBb (R.go _ (by lia))
theorem Bd.calm_all (R:Bd n L most T len m w pt pw) {g:Nat}:∀k,gen len (g+k)<=T->(∀i,i<=k->gen len (g+i)<=T)->(∀t,gen len g<=t->t<gen len (g+k)->¬zvh n most m pt t)->(∀i,i<=k->gen len g<=gen len (g+i))->(∀i,i<k->gen len (g+i)<=gen len (g+k))->zvn n L m (k+1) (gen len (g+k)) (gen len (g+k))
 | 0,_,_,_,_,_=>fun x hx hn=>.inr ⟨[x],⟨List.nodup_cons.mpr ⟨by simp,List.nodup_nil⟩,ZA5,fun z hz=>by rw [ZBd.mp hz];exact ⟨hx,hn⟩,fun z hz hne=>absurd (ZBd.mp hz) hne⟩,.inr ⟨ZAw _,rfl⟩⟩
 | k+1,hT,hle,hs,hm,hu=>by
  have h1:gen len (g+k)<=gen len (g+(k+1)):=hu k (by lia)
  have ih:=R.calm_all (g:=g) k (hle k (by lia)) (fun i hi=>hle i (by lia)) (fun t a b=>hs t a (by lia)) (fun i hi=>hm i (by lia)) (fun i hi=>by
   have h2:∀j,j<=k-i->gen len (g+i)<=gen len (g+(i+j)):=fun j=>by
    induction j with
    | zero=>intro _;exact ZAw _
    | succ j ih=>
     intro hj
     exact ZBg (ih (by lia)) (R.gen_le (g:=g+(i+j)) (hle (i+j) (by lia)) (hle (i+j+1) (by lia)))
   have:=h2 (k-i) (ZAw _)
   rwa [show i+(k-i)=k by lia] at this)
  exact R.calm_next (t0:=gen len (g+k)) h1 hT (fun t a b=>hs t (by have:=hm k (by lia);lia) b) ih
end
end MH
set_option maxRecDepth 4000
namespace MH
theorem zf1 {P:Nat->Prop} {N M:Nat} (Rl:Nat->Nat->Prop) (h:∀i,i<N->P i->∃c,c<M/\Rl i c) (hi:∀i j c,i<j->j<N->P i->P j->Rl i c->Rl j c->False):cnt P N<=M:=by
 classical
 refine zw3 (fun i=>if z:∃c,c<M/\Rl i c then Classical.choose z else 0) (fun i hN hP=>?_) (fun i j hij hN hP hP' e=>?_)
 ·have z:=h i hN hP
  show (if z:∃c,c<M/\Rl i c then Classical.choose z else 0)<M
  rw [dif_pos z]
  exact (Classical.choose_spec z).1
 ·have z1:=h i (by lia) hP
  have z2:=h j hN hP'
  have e:(if z:∃c,c<M/\Rl i c then Classical.choose z else 0)=(if z:∃c,c<M/\Rl j c then Classical.choose z else 0):=e
  rw [dif_pos z1,dif_pos z2] at e
  have h1:=(Classical.choose_spec z1).2
  have h2:=(Classical.choose_spec z2).2
  rw [<-e] at h2
  exact hi i j _ hij hN hP hP' h1 h2
theorem zq2 {P:Nat->Prop}:∀{N:Nat},(∀i,i<N->P i)->cnt P N=N
 | 0,_=>rfl
 | N+1,h=>by rw [zdl (h N (by lia)),zq2 fun i hi=>h i (by lia)]
theorem dec {k a r a' r':Nat} (hr:r<k) (hr':r'<k) (h:a*k+r=a'*k+r'):a=a'/\r=r':=by
 have hk:0<k:=by lia
 have e1:(a*k+r) / k=a:=by rw [Nat.add_comm,Nat.add_mul_div_right _ _ hk,Nat.div_eq_of_lt hr,Nat.zero_add]
 have e2:(a'*k+r') / k=a':=by rw [Nat.add_comm,Nat.add_mul_div_right _ _ hk,Nat.div_eq_of_lt hr',Nat.zero_add]
 rw [h,e2] at e1
 subst e1
 exact ⟨rfl,by lia⟩
theorem enc {k a r N:Nat} (ha:a<N) (hr:r<k):a*k+r<N*k:=by
 have h1:(a+1)*k<=N*k:=Nat.mul_le_mul_right _ ha
 rw [Nat.add_mul,Nat.one_mul] at h1
 lia
section
variable {n l mo T:Nat} {len:Nat->Nat} {m w:Nat->Nat->Nat->Option Int} {pt pw:Nat->Nat->Nat->Prop}
theorem Bd.growth {L most:Int} (R:Bd n L most T len m w pt pw) {t0:Nat}:∀d,t0+d<=T->len (t0+d)<=len t0+26*cnt (fun i=>∃a b,pt (t0+i) a b) d+10*cnt (fun i=>∃a b,pw (t0+i) a b) d
 | 0,_=>by show len t0<=_;lia
 | d+1,h=>by
  have ih:=R.growth (t0:=t0) d (by lia)
  have hT:t0+d<T:=by lia
  show len (t0+d+1)<=_
  by_cases c:∃a b,pt (t0+d) a b
  ·rw [zdl c]
   have h1:=R.grow (t0+d) hT
   have h2:cnt (fun i=>∃a b,pw (t0+i) a b) d<=cnt (fun i=>∃a b,pw (t0+i) a b) (d+1):=by
    by_cases z:∃a b,pw (t0+d) a b
    ·rw [zdl z];lia
    ·rw [zgk z];lia
   lia
  ·rw [zgk c]
   have c':∀a b,¬pt (t0+d) a b:=fun a b z=>c ⟨a,b,z⟩
   by_cases z:∃a b,pw (t0+d) a b
   ·rw [zdl z]
    have:=R.growW (t0+d) hT c'
    lia
   ·rw [zgk z]
    have:=R.grow0 (t0+d) hT c' fun a b q=>z ⟨a,b,q⟩
    lia
theorem Bd.len_le {L most:Int} (R:Bd n L most T len m w pt pw) {t:Nat}:∀d,t+d<=T->len t<=len (t+d)
 | 0,_=>ZAw _
 | d+1,h=>ZBg (R.len_le d (by lia)) (R.lenm (t+d) (by lia))
theorem Bd.len_mono {L most:Int} (R:Bd n L most T len m w pt pw) {t t':Nat} (h:t<=t') (hT:t'<=T):len t<=len t':=by
 have:=R.len_le (t:=t) (t'-t) (by lia)
 rwa [show t+(t'-t)=t' by lia] at this
theorem Bd.per_gen {L most:Int} (R:Bd n L most T len m w pt pw) {t0 d:Nat} (hT:t0+d<=T) (hl:t0+d<=len t0):len (t0+d)<=len t0+2304:=by
 have h:=R.growth d hT
 have h8:=R.n8
 have c1:cnt (fun i=>∃a b,pt (t0+i) a b) d<=64:=by
  refine zf1 (fun i c=>∃a b,pt (t0+i) a b/\a<8/\b<8/\c=a*8+b) (fun i hi hP=>?_) (fun i j c hij hj _ _ h1 h2=>?_)
  ·obtain ⟨a,b,hp⟩:=hP
   obtain ⟨v,hv⟩:=R.known _ _ _ (show t0+i<T by lia) hp
   obtain ⟨l1,l2,_⟩:=R.lt _ _ _ _ (show t0+i<=T by lia) hv
   exact ⟨a*8+b,by lia,a,b,hp,by lia,by lia,rfl⟩
  ·obtain ⟨a,b,hp,ha,hb,e1⟩:=h1
   obtain ⟨a',b',hp',ha',hb',e2⟩:=h2
   obtain ⟨rfl,rfl⟩:=dec hb hb' (e1.symm.trans e2)
   have:=R.once _ _ _ _ (show t0+i<t0+j by lia) (by lia) hp hp'
   have:=R.len_mono (show t0<=t0+i by lia) (by lia)
   lia
 have c2:cnt (fun i=>∃a b,pw (t0+i) a b) d<=64:=by
  refine zf1 (fun i c=>∃a b,pw (t0+i) a b/\a<8/\b<8/\c=a*8+b) (fun i hi hP=>?_) (fun i j c hij hj _ _ h1 h2=>?_)
  ·obtain ⟨a,b,hp⟩:=hP
   obtain ⟨l1,l2,_⟩:=R.wknown _ _ _ (show t0+i<T by lia) hp
   exact ⟨a*8+b,by lia,a,b,hp,by lia,by lia,rfl⟩
  ·obtain ⟨a,b,hp,ha,hb,e1⟩:=h1
   obtain ⟨a',b',hp',ha',hb',e2⟩:=h2
   obtain ⟨rfl,rfl⟩:=dec hb hb' (e1.symm.trans e2)
   have:=R.wonce _ _ _ _ (show t0+i<t0+j by lia) (by lia) hp hp'
   have:=R.len_mono (show t0<=t0+i by lia) (by lia)
   lia
 lia
theorem Bd.gens {L most:Int} (R:Bd n L most T len m w pt pw):∀N,((∀i,i<=N->gen len i<=T)/\len (gen len N)<=len 0+2304*N)\/len T<=len 0+2304*N
 | 0=>.inl ⟨fun i hi=>by rw [show i=0 by lia];exact ZBa _,ZAw _⟩
 | N+1=>by
  rcases R.gens N with ⟨h,hl⟩ | h
  ·have h0:=h N (ZAw _)
   by_cases c:gen len (N+1)<=T
   ·refine .inl ⟨fun i hi=>?_,?_⟩
    ·by_cases e:i=N+1
     ·rw [e];exact c
     ·exact h i (by lia)
    ·have h1:=R.gen_le h0 c
     have:=R.per_gen (t0:=gen len N) (d:=gen len (N+1)-gen len N) (by lia) (by show _<=gen len (N+1);lia)
     rw [show gen len N+(gen len (N+1)-gen len N)=gen len (N+1) by lia] at this
     rw [Nat.mul_succ,<-Nat.add_assoc]
     exact ZBg this (Nat.add_le_add_right hl _)
   ·right
    have:=R.per_gen (t0:=gen len N) (d:=T-gen len N) (by lia) (by show _<=gen len (N+1);lia)
    rw [show gen len N+(T-gen len N)=T by lia] at this
    rw [Nat.mul_succ,<-Nat.add_assoc]
    exact ZBg this (Nat.add_le_add_right hl _)
  ·right
   rw [Nat.mul_succ,<-Nat.add_assoc]
   exact ZBg h (Nat.le_add_right _ _)
theorem Bd.gen_mono {L most:Int} (R:Bd n L most T len m w pt pw) {N:Nat} (h:∀i,i<=N->gen len i<=T) {i:Nat}:∀j,i+j<=N->gen len i<=gen len (i+j)
 | 0,_=>ZAw _
 | j+1,hj=>ZBg (R.gen_mono h j (by omega)) (R.gen_le (g:=i+j) (h (i+j) (by omega)) (h (i+j+1) (by omega)))
theorem Bd.narrow (R:Bd n (l:Int) (mo:Int) T len m w pt pw) {g:Nat} (hg:∀i,i<=g+7->gen len i<=T) (hs:∀t,gen len g<=t->t<gen len (g+7)->¬zvh n (mo:Int) m pt t):∀a b,a<n->b<n->a≠b->Kn m (gen len (g+7)) a b (l:Int):=by
 have hT:=hg (g+7) (ZAw _)
 have c:=R.calm_all (g:=g) 7 hT (fun i hi=>hg _ (by lia)) hs (fun i hi=>R.gen_mono hg i (by lia)) (fun i hi=>by
  have:=R.gen_mono hg (i:=g+i) (7-i) (by lia)
  rwa [show g+i+(7-i)=g+7 by lia] at this)
 have h8:=R.n8
 have fine:∀x,0<x->x<n->zmb n (l:Int) m (gen len (g+7)) x:=fun x hx hn=>by
  rcases c x hx hn with f | ⟨ls,⟨c1,c2,c3,_⟩,hl⟩
  ·exact f
  ·exfalso
   have:=zeh 8 (0::ls) (List.nodup_cons.mpr ⟨fun z=>by have:=(c3 0 z).1;lia,c1⟩) (fun z hz=>by
    rcases ZBe.mp hz with e | hz
    ·lia
    ·have:=(c3 z hz).2;lia)
   rw [ZBp] at this
   lia
 intro a b ha hb hab
 by_cases e:a=0
 ·subst e
  exact R.pi_is (by lia) hb hT
 ·by_cases e':b=0
  ·subst e'
   obtain ⟨h1,h2⟩:=R.rho_is (t:=gen len (g+7)) (by lia) ha hT
   exact ⟨_,by lia,h1⟩
  ·have h1:=(fine a (by lia) ha).2 b (by lia) hb (ZAl hab)
   have h2:=(fine b (by lia) hb).1
   have h3:=(R.rho_is (t:=gen len (g+7)) (x:=a) (by lia) ha hT).2
   exact h1.le (by lia)
theorem Bd.quiet (R:Bd n (l:Int) (mo:Int) T len m w pt pw) {N:Nat} (hN:N=8*(l+1)+8*(mo+1)+1) (hg:∀i,i<=7*N->gen len i<=T):∃b,b<N/\∀t,gen len (7*b)<=t->t<gen len (7*b+7)->¬zvh n (mo:Int) m pt t:=by
 refine ZAz fun hn=>?_
 have hs:∀b,b<N->∃t,gen len (7*b)<=t/\t<gen len (7*b+7)/\zvh n (mo:Int) m pt t:=fun b hb=>by
  refine ZAz fun h=>hn ⟨b,hb,fun t h1 h2 h3=>h ⟨t,h1,h2,h3⟩⟩
 have h8:=R.n8
 have tT:∀{b t},b<N->t<gen len (7*b+7)->t<T:=fun {b t} hb ht=>by
  have:=hg (7*b+7) (by lia)
  lia
 have key:=zf1 (P:=fun _=>True) (N:=N) (M:=8*(l+1)+8*(mo+1)) (fun b c=>∃t,gen len (7*b)<=t/\t<gen len (7*b+7)/\((∃x r,pt t x 0/\x<8/\r<l+1/\m t x 0=some (-(r:Int))/\c=x*(l+1)+r)\/
  ∃x r,x<8/\r<mo+1/\m (t+1) x 0=some (-(r:Int))/\m (t+1) x 0≠m t x 0/\c=8*(l+1)+(x*(mo+1)+r))) (fun b hb _=>by
  obtain ⟨t,h1,h2,h3⟩:=hs b hb
  have ht:=tT hb h2
  rcases h3 with ⟨x,hp⟩ | ⟨x,y,hx,hxn,hy,hne,hlo⟩
  ·obtain ⟨v,hv⟩:=R.known _ _ _ ht hp
   obtain ⟨l1,_,l3⟩:=R.lt _ _ _ _ (ZBb ht) hv
   obtain ⟨e1,e2⟩:=R.rho_is (t:=t) (x:=x) (by lia) l1 (ZBb ht)
   rw [hv] at e1
   have e1:=ZA7 e1
   obtain ⟨p,hp1,hp2⟩:=R.pi_is (t:=t) (x:=x) (by lia) l1 (ZBb ht)
   have hb:=R.bar _ _ _ _ _ ht hp hv hp2
   have hr:(-v).toNat<l+1:=by lia
   exact ⟨x*(l+1)+(-v).toNat,by have:=enc (a:=x) (N:=8) (show x<8 by lia) hr;lia,t,h1,h2,.inl ⟨x,(-v).toNat,hp,by lia,hr,by rw [hv];congr 1;lia,rfl⟩⟩
  ·obtain ⟨e1,e2⟩:=R.rho_is (t:=t+1) hx hxn (show t+1<=T by lia)
   rw [hy] at e1
   have e1:=ZA7 e1
   have hr:(-y).toNat<mo+1:=by lia
   exact ⟨8*(l+1)+(x*(mo+1)+(-y).toNat),by have:=enc (a:=x) (N:=8) (show x<8 by lia) hr;lia,t,h1,h2,.inr ⟨x,(-y).toNat,by lia,hr,by rw [hy];congr 1;lia,hne,rfl⟩⟩)
  (fun b b' c hbb hb' _ _ h1 h2=>by
   obtain ⟨t,t1,t2,h1⟩:=h1
   obtain ⟨t',t1',t2',h2⟩:=h2
   have htt:t<t':=by
    have:=R.gen_mono hg (i:=7*b+7) (7*b'-(7*b+7)) (by lia)
    rw [show 7*b+7+(7*b'-(7*b+7))=7*b' by lia] at this
    lia
   have hT':=tT hb' t2'
   rcases h1 with ⟨x,r,hp,hx,hr,hv,e1⟩ | ⟨x,r,hx,hr,hv,hne,e1⟩
   ·rcases h2 with ⟨x',r',hp',hx',hr',hv',e2⟩ | ⟨x',r',hx',hr',hv',hne',e2⟩
    ·obtain ⟨rfl,rfl⟩:=dec hr hr' (e1.symm.trans e2)
     have:=R.drop _ _ _ _ _ _ htt hT' hp hp' hv hv'
     lia
    ·have:=enc (a:=x) (N:=8) hx hr
     lia
   ·rcases h2 with ⟨x',r',hp',hx',hr',hv',e2⟩ | ⟨x',r',hx',hr',hv',hne',e2⟩
    ·have:=enc (a:=x') (N:=8) hx' hr'
     lia
    ·obtain ⟨rfl,rfl⟩:=dec hr hr' (show x*(mo+1)+r=x'*(mo+1)+r' by lia)
     have:=R.same hv hv' (s:=t') (by lia) (by lia) (by lia)
     exact hne' (hv'.trans this.symm))
 rw [zq2 fun i _=>trivial] at key
 lia
end
section
variable {n l mo T:Nat} {len:Nat->Nat} {m w:Nat->Nat->Nat->Option Int} {pt pw:Nat->Nat->Nat->Prop}
theorem Bd.gen_of {L most:Int} (R:Bd n L most T len m w pt pw) {t:Nat} (ht:t<T):∃g,(∀i,i<=g->gen len i<=t)/\t<gen len (g+1):=by
 have key:∀N,(∀i,i<=N->gen len i<=t/\i<=gen len i)\/∃g,(∀i,i<=g->gen len i<=t)/\t<gen len (g+1):=by
  intro N
  induction N with
  | zero=>exact .inl fun i hi=>by rw [show i=0 by lia];exact ⟨ZBa _,ZBa _⟩
  | succ N ih=>
   rcases ih with h | h
   ·by_cases c:gen len (N+1)<=t
    ·refine .inl fun i hi=>?_
     by_cases e:i=N+1
     ·rw [e]
      have h1:=h N (ZAw _)
      have h2:gen len N<gen len (N+1):=R.go (gen len N) (by lia)
      exact ⟨c,by lia⟩
     ·exact h i (by lia)
    ·exact .inr ⟨N,fun i hi=>(h i hi).1,by lia⟩
   ·exact .inr h
 rcases key (t+1) with h | h
 ·have:=h (t+1) (ZAw _)
  lia
 ·exact h
theorem Bd.gen_up {L most:Int} (R:Bd n L most T len m w pt pw) {g g' t:Nat} (h:∀i,i<=g'->gen len i<=t) (ht:t<=T) (hg:g<=g'):gen len g<=gen len g':=by
 have:=R.gen_mono (N:=g') (fun i hi=>ZBg (h i hi) ht) (i:=g) (g'-g) (by lia)
 rwa [show g+(g'-g)=g' by lia] at this
theorem Bd.wait_top {L most:Int} (R:Bd n L most T len m w pt pw) {B:Int} (hB:0<=B) {t:Nat} (hT:t<=T) (h:∀x y v,m t x y=some v->-B<=v):∀s,s<=t->∀a b v,w s a b=some v->v<=most+B
 | 0,_,a,b,v,e=>by rw [R.wnone] at e;cases e
 | s+1,hs,a,b,v,e=>by
  by_cases c:w (s+1) a b=w s a b
  ·exact R.wait_top hB hT h s (by lia) a b v (c▸e)
  ·obtain ⟨y,h1,h2⟩:=R.wcause s a b B (by lia) hB (fun x y v' e'=>by
    obtain ⟨v2,l2,e2⟩:=R.mono' e' hs hT
    have:=h x y v2 e2
    lia) c
   rw [e] at h1
   cases h1
   exact h2
theorem Bd.still (R:Bd n (l:Int) (mo:Int) T len m w pt pw) {g:Nat} (hg:∀i,i<=g+1->gen len i<=T) (hk:∀a b,a<n->b<n->a≠b->Kn m (gen len g) a b (l:Int))
 (hq:∀τ,gen len g<=τ->τ<gen len (g+1)->(∀a b,¬pt τ a b)/\∀a b,m (τ+1) a b=m τ a b) {t a b:Nat} {v:Int} (h1:gen len g<=t) (h2:t<gen len (g+1)) (hp:pw t a b) (hv:w t a b=some v):1-(l:Int)<=v/\v<=(mo:Int)+l:=by
 have hT:=hg (g+1) (ZAw _)
 have hgg:=R.gen_le (hg g (by lia)) hT
 have same:∀x y d,gen len g+d<=gen len (g+1)->m (gen len g+d) x y=m (gen len g) x y:=fun x y d=>by
  induction d with
  | zero=>intro _;rfl
  | succ d ih=>exact fun hd=>((hq (gen len g+d) (by lia) (by lia)).2 x y).trans (ih (by lia))
 have hend:∀x y,m (gen len (g+1)) x y=m (gen len g) x y:=fun x y=>by
  have:=same x y (gen len (g+1)-gen len g) (by lia)
  rwa [show gen len g+(gen len (g+1)-gen len g)=gen len (g+1) by lia] at this
 have seen:∀x y q,m (gen len (g+1)) x y=some q->∃s,s<gen len g/\pt s x y/\m s x y=some q:=fun x y q hq'=>by
  obtain ⟨s,hs,hp,hv⟩:=R.stay (gen len g) (gen len (g+1)) x y q hT (ZAw _) hgg ((hend x y).symm.trans hq') hq'
  refine ⟨s,?_,hp,hv⟩
  refine ZAz fun c=>?_
  exact (hq s (by lia) hs).1 x y hp
 have kn:∀x y,x<n->y<n->x≠y->Kn m (gen len (g+1)) x y (l:Int):=fun x y hx hy hxy=>R.kn (hk x y hx hy hxy) hgg hT
 have low:∀x y q,m (gen len (g+1)) x y=some q->-(l:Int)<=q:=fun x y q hq'=>by
  obtain ⟨x1,x2,x3⟩:=R.lt _ _ _ _ hT hq'
  obtain ⟨q',hl',e'⟩:=kn y x x2 x1 (ZAl x3)
  obtain ⟨s,hs,ps,vs⟩:=seen x y q hq'
  obtain ⟨s',hs',ps',vs'⟩:=seen y x q' e'
  have gT:=hg g (by lia)
  rcases Nat.lt_trichotomy s s' with c | c | c
  ·have:=R.same vs hq' (s:=s') (by lia) (by lia) hT
   have:=R.bar _ _ _ _ _ (by lia) ps' vs' this
   lia
  ·subst c
   have:=(R.one _ _ _ _ _ (by lia) ps ps').1
   lia
  ·have:=R.same vs' e' (s:=s) (by lia) (by lia) hT
   have:=R.bar _ _ _ _ _ (by lia) ps vs this
   lia
 refine ⟨?_,R.wait_top (Int.natCast_nonneg l) hT (fun x y v e=>low x y v e) t (by lia) a b v hv⟩
 obtain ⟨p1,p2,p3,_⟩:=R.wknown _ _ _ (by lia) hp
 obtain ⟨q,hl',e'⟩:=kn a b p1 p2 p3
 obtain ⟨s,hs,ps,vs⟩:=seen a b q e'
 have:=R.late _ _ _ _ _ _ (by lia) ps vs (show s<=t by lia) (by lia) hp hv
 lia
theorem Bd.after (R:Bd n (l:Int) (mo:Int) T len m w pt pw) {g1:Nat} (hg1:∀i,i<=g1->gen len i<=T) (hk:∀a b,a<n->b<n->a≠b->Kn m (gen len g1) a b (l:Int)):
 len T<=len (gen len g1)+26*(64*(2*l+1))+10*((64*(2*l+1)+64*(mo+l+1))*64+(64*(mo+2*l+1)+64)):=by
 have h1:=hg1 g1 (ZAw _)
 have h8:=R.n8
 have g:=R.growth (t0:=gen len g1) (T-gen len g1) (by lia)
 rw [show gen len g1+(T-gen len g1)=T by lia] at g
 have kn:∀t x y,gen len g1<=t->t<=T->x<n->y<n->x≠y->Kn m t x y (l:Int):=fun t x y ht hT hx hy hxy=>R.kn (hk x y hx hy hxy) ht hT
 have tie:∀t a b,gen len g1<=t->t<T->pt t a b->∃r,a<8/\b<8/\r<2*l+1/\m t a b=some ((r:Int)-l):=fun t a b h h' hp=>by
  obtain ⟨v,hv⟩:=R.known _ _ _ h' hp
  obtain ⟨l1,l2,l3⟩:=R.lt _ _ _ _ (ZBb h') hv
  obtain ⟨v1,hle,e1⟩:=kn t a b h (ZBb h') l1 l2 l3
  rw [hv] at e1
  cases e1
  obtain ⟨u,hu,eu⟩:=kn t b a h (ZBb h') l2 l1 (ZAl l3)
  have:=R.bar _ _ _ _ _ h' hp hv eu
  exact ⟨(v+l).toNat,by lia,by lia,by lia,by rw [hv];congr 1;lia⟩
 have c1:cnt (fun i=>∃a b,pt (gen len g1+i) a b) (T-gen len g1)<=64*(2*l+1):=by
  refine zf1 (fun i c=>∃a b r,pt (gen len g1+i) a b/\a<8/\b<8/\r<2*l+1/\m (gen len g1+i) a b=some ((r:Int)-l)/\c=(a*8+b)*(2*l+1)+r) (fun i hi hP=>?_) (fun i j c hij hj _ _ z1 z2=>?_)
  ·obtain ⟨a,b,hp⟩:=hP
   obtain ⟨r,x1,x2,x3,x4⟩:=tie _ a b (Nat.le_add_right _ _) (by lia) hp
   exact ⟨_,enc (show a*8+b<64 by lia) x3,a,b,r,hp,x1,x2,x3,x4,rfl⟩
  ·obtain ⟨a,b,r,hp,x1,x2,x3,x4,e1⟩:=z1
   obtain ⟨a',b',r',hp',y1,y2,y3,y4,e2⟩:=z2
   obtain ⟨ek,rfl⟩:=dec x3 y3 (e1.symm.trans e2)
   obtain ⟨rfl,rfl⟩:=dec x2 y2 ek
   have:=R.drop _ _ _ _ _ _ (show gen len g1+i<gen len g1+j by lia) (by lia) hp hp' x4 y4
   lia
 have c2:cnt (fun i=>∃a b,pw (gen len g1+i) a b) (T-gen len g1)<=(64*(2*l+1)+64*(mo+l+1))*64+(64*(mo+2*l+1)+64):=by
  let Ga:Nat->Nat->Prop:=fun t g=>(∀i,i<=g->gen len i<=t)/\t<gen len (g+1)/\gen len (g+1)<=T
  let St:Nat->Prop:=fun τ=>(∃a b,pt τ a b)\/∃a b,m (τ+1) a b≠m τ a b
  have up:∀{t g},gen len g1<=t->t<T->(∀i,i<=g->gen len i<=t)->t<gen len (g+1)->g1<=g:=fun {t g} h h' z1 z2=>by
   refine ZAz fun c=>?_
   have:=R.gen_mono hg1 (i:=g+1) (g1-(g+1)) (by lia)
   rw [show g+1+(g1-(g+1))=g1 by lia] at this
   lia
  have s1:=zq1 (P:=fun i=>∃a b,pw (gen len g1+i) a b/\gen len g1+i<T) (Q:=fun i=>(∃a b,pw (gen len g1+i) a b)/\∃g,Ga (gen len g1+i) g/\∃τ,gen len g<=τ/\τ<gen len (g+1)/\St τ)
   (R:=fun i=>(∃a b,pw (gen len g1+i) a b)/\((∃g,Ga (gen len g1+i) g/\∀τ,gen len g<=τ->τ<gen len (g+1)->¬St τ)\/∃g,gen len g<=gen len g1+i/\T<gen len (g+1))) (fun i hP=>by
    obtain ⟨a,b,hp,hT⟩:=hP
    obtain ⟨g,z1,z2⟩:=R.gen_of hT
    by_cases c:gen len (g+1)<=T
    ·by_cases d:∃τ,gen len g<=τ/\τ<gen len (g+1)/\St τ
     ·exact .inl ⟨⟨a,b,hp⟩,g,⟨z1,z2,c⟩,d⟩
     ·exact .inr ⟨⟨a,b,hp⟩,.inl ⟨g,⟨z1,z2,c⟩,fun τ y1 y2 y3=>d ⟨τ,y1,y2,y3⟩⟩⟩
    ·exact .inr ⟨⟨a,b,hp⟩,.inr ⟨g,z1 g (ZAw _),by lia⟩⟩) (T-gen len g1)
  have s0:cnt (fun i=>∃a b,pw (gen len g1+i) a b) (T-gen len g1)=cnt (fun i=>∃a b,pw (gen len g1+i) a b/\gen len g1+i<T) (T-gen len g1):=by
   have:∀N,N<=T-gen len g1->cnt (fun i=>∃a b,pw (gen len g1+i) a b) N=cnt (fun i=>∃a b,pw (gen len g1+i) a b/\gen len g1+i<T) N:=fun N=>by
    induction N with
    | zero=>intro _;rfl
    | succ N ih=>
     intro hN
     by_cases c:∃a b,pw (gen len g1+N) a b
     ·obtain ⟨a,b,hp⟩:=c
      rw [zdl ⟨a,b,hp⟩,zdl (P:=fun i=>∃a b,pw (gen len g1+i) a b/\gen len g1+i<T) ⟨a,b,hp,by lia⟩,ih (by lia)]
     ·rw [zgk c,zgk (P:=fun i=>∃a b,pw (gen len g1+i) a b/\gen len g1+i<T) fun ⟨a,b,hp,_⟩=>c ⟨a,b,hp⟩,ih (by lia)]
   exact this _ (ZAw _)
  have s2:=zq1 (P:=fun i=>(∃a b,pw (gen len g1+i) a b)/\((∃g,Ga (gen len g1+i) g/\∀τ,gen len g<=τ->τ<gen len (g+1)->¬St τ)\/∃g,gen len g<=gen len g1+i/\T<gen len (g+1)))
   (Q:=fun i=>(∃a b,pw (gen len g1+i) a b)/\∃g,Ga (gen len g1+i) g/\∀τ,gen len g<=τ->τ<gen len (g+1)->¬St τ) (R:=fun i=>(∃a b,pw (gen len g1+i) a b)/\∃g,gen len g<=gen len g1+i/\T<gen len (g+1)) (fun i hP=>hP.2.elim (fun z=>.inl ⟨hP.1,z⟩) fun z=>.inr ⟨hP.1,z⟩) (T-gen len g1)
  have key8:∀{t a b},t<T->pw t a b->a<8/\b<8:=fun {t a b} h hp=>by
   obtain ⟨x1,x2,_⟩:=R.wknown _ _ _ h hp
   exact ⟨by lia,by lia⟩
  have d3:cnt (fun i=>(∃a b,pw (gen len g1+i) a b)/\∃g,gen len g<=gen len g1+i/\T<gen len (g+1)) (T-gen len g1)<=64:=by
   refine zf1 (fun i c=>∃a b,pw (gen len g1+i) a b/\a<8/\b<8/\c=a*8+b) (fun i hi hP=>?_) (fun i j c hij hj hP _ z1 z2=>?_)
   ·obtain ⟨⟨a,b,hp⟩,_⟩:=hP
    obtain ⟨x1,x2⟩:=key8 (show gen len g1+i<T by lia) hp
    exact ⟨a*8+b,by lia,a,b,hp,x1,x2,rfl⟩
   ·obtain ⟨_,g,z3,z4⟩:=hP
    obtain ⟨a,b,hp,x1,x2,e1⟩:=z1
    obtain ⟨a',b',hp',y1,y2,e2⟩:=z2
    obtain ⟨rfl,rfl⟩:=dec x2 y2 (e1.symm.trans e2)
    have q1:=R.wonce _ _ _ _ (show gen len g1+i<gen len g1+j by lia) (by lia) hp hp'
    have q2:gen len (g+1)<=len (gen len g1+i):=R.len_mono z3 (by lia)
    lia
  have d2:cnt (fun i=>(∃a b,pw (gen len g1+i) a b)/\∃g,Ga (gen len g1+i) g/\∀τ,gen len g<=τ->τ<gen len (g+1)->¬St τ) (T-gen len g1)<=64*(mo+2*l+1):=by
   refine zf1 (fun i c=>∃a b r,pw (gen len g1+i) a b/\a<8/\b<8/\r<mo+2*l+1/\w (gen len g1+i) a b=some ((r:Int)+1-l)/\c=(a*8+b)*(mo+2*l+1)+r) (fun i hi hP=>?_) (fun i j c hij hj _ _ z1 z2=>?_)
   ·obtain ⟨⟨a,b,hp⟩,g,⟨z1,z2,z3⟩,z4⟩:=hP
    have hT:gen len g1+i<T:=by lia
    obtain ⟨x1,x2⟩:=key8 hT hp
    obtain ⟨_,_,_,v,hv⟩:=R.wknown _ _ _ hT hp
    have hgu:=up (Nat.le_add_right _ _) hT z1 z2
    have hgT:∀i,i<=g+1->gen len i<=T:=fun k hk'=>by
     by_cases e:k=g+1
     ·rw [e];exact z3
     ·have:=z1 k (by lia);lia
    have hle:gen len g1<=gen len g:=R.gen_up z1 (ZBb hT) hgu
    obtain ⟨y1,y2⟩:=R.still hgT (fun x y hx hy hxy=>kn _ x y hle (hgT g (by lia)) hx hy hxy) (fun τ q1 q2=>⟨fun x y hp'=>z4 τ q1 q2 (.inl ⟨x,y,hp'⟩),fun x y=>ZAz fun hc=>z4 τ q1 q2 (.inr ⟨x,y,hc⟩)⟩) (z1 g (ZAw _)) z2 hp hv
    have hr:(v-1+l).toNat<mo+2*l+1:=by lia
    exact ⟨_,enc (show a*8+b<64 by lia) hr,a,b,_,hp,x1,x2,hr,by rw [hv];congr 1;lia,rfl⟩
   ·obtain ⟨a,b,r,hp,x1,x2,x3,x4,e1⟩:=z1
    obtain ⟨a',b',r',hp',y1,y2,y3,y4,e2⟩:=z2
    obtain ⟨ek,rfl⟩:=dec x3 y3 (e1.symm.trans e2)
    obtain ⟨rfl,rfl⟩:=dec x2 y2 ek
    have:=R.wdrop _ _ _ _ _ _ (show gen len g1+i<gen len g1+j by lia) (by lia) hp hp' x4 y4
    lia
  have d1:cnt (fun i=>(∃a b,pw (gen len g1+i) a b)/\∃g,Ga (gen len g1+i) g/\∃τ,gen len g<=τ/\τ<gen len (g+1)/\St τ) (T-gen len g1)<=(64*(2*l+1)+64*(mo+l+1))*64:=by
   refine zf1 (fun i c=>∃g τ a b cg,Ga (gen len g1+i) g/\gen len g<=τ/\τ<gen len (g+1)/\pw (gen len g1+i) a b/\a<8/\b<8/\c=cg*64+(a*8+b)/\
    ((∃x y r,pt τ x y/\x<8/\y<8/\r<2*l+1/\m τ x y=some ((r:Int)-l)/\cg=(x*8+y)*(2*l+1)+r)\/
     ∃x y r,x<8/\y<8/\r<mo+l+1/\m (τ+1) x y=some ((r:Int)-mo)/\m (τ+1) x y≠m τ x y/\cg=64*(2*l+1)+((x*8+y)*(mo+l+1)+r))) (fun i hi hP=>?_) (fun i j c hij hj _ _ z1 z2=>?_)
   ·obtain ⟨⟨a,b,hp⟩,g,hG,τ,t1,t2,hst⟩:=hP
    have hT:gen len g1+i<T:=by lia
    obtain ⟨x1,x2⟩:=key8 hT hp
    have hgu:=up (Nat.le_add_right _ _) hT hG.1 hG.2.1
    have hle:gen len g1<=gen len g:=R.gen_up hG.1 (ZBb hT) hgu
    have hτ:τ<T:=by have:=hG.2.2;lia
    have tc:∀x y,pt τ x y->∃cg,cg<64*(2*l+1)+64*(mo+l+1)/\∃x y r,pt τ x y/\x<8/\y<8/\r<2*l+1/\m τ x y=some ((r:Int)-l)/\cg=(x*8+y)*(2*l+1)+r:=fun x y hpt=>by
     obtain ⟨r,q1,q2,q3,q4⟩:=tie τ x y (by lia) hτ hpt
     refine ⟨_,?_,x,y,r,hpt,q1,q2,q3,q4,rfl⟩
     have:=enc (show x*8+y<64 by lia) q3
     lia
    have fin:∀cg,cg<64*(2*l+1)+64*(mo+l+1)->cg*64+(a*8+b)<(64*(2*l+1)+64*(mo+l+1))*64:=fun cg hc=>enc hc (show a*8+b<64 by lia)
    by_cases c:∃x y,pt τ x y
    ·obtain ⟨x,y,hpt⟩:=c
     obtain ⟨cg,hc,rest⟩:=tc x y hpt
     exact ⟨_,fin cg hc,g,τ,a,b,cg,hG,t1,t2,hp,x1,x2,rfl,.inl rest⟩
    ·rcases hst with ⟨x,y,hpt⟩ | ⟨x,y,hne⟩
     ·exact absurd ⟨x,y,hpt⟩ c
     ·rcases R.cause τ x y hτ hne with ⟨c',v,q,y',hpt,_⟩ | ⟨c',hpt,_⟩ | ⟨e',y',_,hy,hlo⟩
      ·exact absurd ⟨x,c',hpt⟩ c
      ·exact absurd ⟨c',y,hpt⟩ c
      ·obtain ⟨l1,l2,l3⟩:=R.lt _ _ _ _ (show τ+1<=T by lia) hy
       obtain ⟨v1,hle1,e1⟩:=kn (τ+1) x y (by lia) (by lia) l1 l2 l3
       rw [hy] at e1
       cases e1
       have hr:(y'+mo).toNat<mo+l+1:=by lia
       refine ⟨_,fin (64*(2*l+1)+((x*8+y)*(mo+l+1)+(y'+mo).toNat)) ?_,g,τ,a,b,_,hG,t1,t2,hp,x1,x2,rfl,.inr ⟨x,y,_,by lia,by lia,hr,by rw [hy];congr 1;lia,hne,rfl⟩⟩
       have:=enc (show x*8+y<64 by lia) hr
       lia
   ·obtain ⟨g,τ,a,b,cg,hG,t1,t2,hp,x1,x2,e1,hcg⟩:=z1
    obtain ⟨g',τ',a',b',cg',hG',t1',t2',hp',y1,y2,e2,hcg'⟩:=z2
    obtain ⟨ec,ek⟩:=dec (show a*8+b<64 by lia) (show a'*8+b'<64 by lia) (e1.symm.trans e2)
    obtain ⟨rfl,rfl⟩:=dec x2 y2 ek
    subst ec
    have hT:gen len g1+j<T:=by lia
    have τT:τ<T:=by have:=hG.2.2;lia
    have τT':τ'<T:=by have:=hG'.2.2;lia
    have eτ:τ=τ':=by
     rcases hcg with ⟨x,y,r,p1,p2,p3,p4,p5,p6⟩ | ⟨x,y,r,p2,p3,p4,p5,pn,p6⟩
     ·rcases hcg' with ⟨x',y',r',q1,q2,q3,q4,q5,q6⟩ | ⟨x',y',r',q2,q3,q4,q5,qn,q6⟩
      ·obtain ⟨ek,rfl⟩:=dec p4 q4 (p6.symm.trans q6)
       obtain ⟨rfl,rfl⟩:=dec p3 q3 ek
       rcases Nat.lt_trichotomy τ τ' with c | c | c
       ·have:=R.drop _ _ _ _ _ _ c τT' p1 q1 p5 q5
        lia
       ·exact c
       ·have:=R.drop _ _ _ _ _ _ c τT q1 p1 q5 p5
        lia
      ·have:=enc (show x*8+y<64 by lia) p4
       lia
     ·rcases hcg' with ⟨x',y',r',q1,q2,q3,q4,q5,q6⟩ | ⟨x',y',r',q2,q3,q4,q5,qn,q6⟩
      ·have:=enc (show x'*8+y'<64 by lia) q4
       lia
      ·obtain ⟨ek,rfl⟩:=dec p4 q4 (show (x*8+y)*(mo+l+1)+r=(x'*8+y')*(mo+l+1)+r' by lia)
       obtain ⟨rfl,rfl⟩:=dec p3 q3 ek
       rcases Nat.lt_trichotomy τ τ' with c | c | c
       ·have:=R.same p5 q5 (s:=τ') (by lia) (by lia) (by lia)
        exact absurd (q5.trans this.symm) qn
       ·exact c
       ·have:=R.same q5 p5 (s:=τ) (by lia) (by lia) (by lia)
        exact absurd (p5.trans this.symm) pn
    subst eτ
    have q1:=R.wonce _ _ _ _ (show gen len g1+i<gen len g1+j by lia) hT hp hp'
    have q2:gen len (g+1)<=len (gen len g1+i):=R.len_mono (hG.1 g (ZAw _)) (by lia)
    have q3:gen len (g'+1)<=gen len (g+1):=by
     refine ZAz fun c=>?_
     have hgg:g<g':=by
      refine ZAz fun d=>?_
      have e0:∀k,k<=g+1->gen len k<=T:=fun k hk'=>by
       by_cases e:k=g+1
       ·rw [e];exact hG.2.2
       ·have:=hG.1 k (by lia);lia
      have:=R.gen_mono e0 (i:=g'+1) (g+1-(g'+1)) (by lia)
      rw [show g'+1+(g+1-(g'+1))=g+1 by lia] at this
      exact c this
     have:=R.gen_up (g:=g+1) hG'.1 (ZBb hT) (by lia)
     lia
    have:=hG'.2.1
    lia
  rw [s0]
  exact ZBg s1 (Nat.add_le_add d1 (ZBg s2 (Nat.add_le_add d2 d3)))
 have m1:=Nat.mul_le_mul_left 26 c1
 have m2:=Nat.mul_le_mul_left 10 c2
 exact ZBg g (Nat.add_le_add (Nat.add_le_add_left m1 _) m2)
theorem Bd.rows (R:Bd n (l:Int) (mo:Int) T len m w pt pw):len T<=len 0+2304*(7*(8*(l+1)+8*(mo+1)+1))+26*(64*(2*l+1))+10*((64*(2*l+1)+64*(mo+l+1))*64+(64*(mo+2*l+1)+64)):=by
 rcases R.gens (7*(8*(l+1)+8*(mo+1)+1)) with ⟨h1,h2⟩ | h
 ·obtain ⟨b,hb,hs⟩:=R.quiet rfl h1
  have hg:∀i,i<=7*b+7->gen len i<=T:=fun i hi=>h1 i (by omega)
  have k:=R.after (g1:=7*b+7) hg (R.narrow hg hs)
  have e:=R.gen_mono h1 (i:=7*b+7) (7*(8*(l+1)+8*(mo+1)+1)-(7*b+7)) (by omega)
  rw [show 7*b+7+(7*(8*(l+1)+8*(mo+1)+1)-(7*b+7))=7*(8*(l+1)+8*(mo+1)+1) by omega] at e
  have k2:=R.len_mono e (h1 _ (ZAw _))
  exact ZBg k (Nat.add_le_add_right (Nat.add_le_add_right (ZBg k2 h2) _) _)
 ·exact ZBg h (ZBg (Nat.le_add_right _ _) (Nat.le_add_right _ _))
end
end MH
namespace MU
variable {n:Nat} {F:zaz} {most:Int} {s0:St}
theorem zi8 (hF:FOk n F most) {s:St} (g:zdq n s) {at_ a b:Nat} {p:zas} (hp:wat s at_=some p) (pa:p.a=a) (pb:p.b=b) (hbar:(zbz n F at_ a b s).bar=none):
 Add (fun w=>(w.tie=true->(w.a=a/\w.b≠b/\∃q,val s (true,b,w.b)=some q/\w.v=p.v+q)\/(w.b=b/\w.a≠a))/\(w.tie=false->w.v<=most-p.v/\∃f,F w.b=some f)) s (zbz n F at_ a b s):=by
 unfold zbz at hbar ⊢
 dsimp only at hbar ⊢
 generalize hC:(fun w:zas=>(w.tie=true->(w.a=a/\w.b≠b/\∃q,val s (true,b,w.b)=some q/\w.v=p.v+q)\/(w.b=b/\w.a≠a))/\(w.tie=false->w.v<=most-p.v/\∃f,F w.b=some f))=C
 have g1:zdq n (za2 (zbh F) .late at_ s):=zd5 g zhp
 have i1:Imp s (za2 (zbh F) .late at_ s):=zdx _ _ _ _
 have T1:Add (fun w=>w.tie=true->w.b=b) s (za2 (zbh F) .late at_ s):=zia hp fun w e ht=>by
  unfold zbh at e
  split at e
  ·cases q:F p.b with
   | none=>rw [q] at e;cases e
   | some f=>rw [q] at e;cases e;cases ht
  ·cases e
 have A1:Add C s (za2 (zbh F) .late at_ s):=zia hp fun w e=>by
  subst hC
  unfold zbh at e
  split at e
  ·cases q:F p.b with
   | none=>rw [q] at e;cases e
   | some f=>
    rw [q] at e
    cases e
    have:=hF.num _ _ q
    exact ⟨nofun,fun _=>⟨by show f.2.2-p.v<=_;lia,f,q⟩⟩
  ·cases e
 generalize za2 (zbh F) .late at_ s=s1 at*
 have hp1:=zax i1.1 hp
 have g2:zdq n (za2 (zbq F) .soon at_ s1):=zd5 g1 (zhl hF)
 have i2:Imp s1 (za2 (zbq F) .soon at_ s1):=zdx _ _ _ _
 have T2:Add (fun w=>w.tie=true->w.b=b) s1 (za2 (zbq F) .soon at_ s1):=zia hp1 fun w e _=>by
  unfold zbq at e
  split at e
  ·cases q:F p.a with
   | none=>rw [q] at e;cases e
   | some f=>rw [q] at e;cases e;exact pb
  ·cases e
 have A2:Add C s1 (za2 (zbq F) .soon at_ s1):=zia hp1 fun w e=>by
  subst hC
  unfold zbq at e
  split at e
  ·cases q:F p.a with
   | none=>rw [q] at e;cases e
   | some f=>
    rw [q] at e
    cases e
    refine ⟨fun _=>.inr ⟨pb,fun z=>?_⟩,nofun⟩
    have z:f.1=a:=z
    have:=hF.own _ _ q
    rw [z,<-pa,q] at this
    cases this
  ·cases e
 generalize za2 (zbq F) .soon at_ s1=s2 at*
 have hp2:=zax i2.1 hp1
 have T12:=T1.trans i2.1 T2
 have keep2:∀z,z≠b->val s2 (true,b,z)=val s (true,b,z):=fun z hz=>ZAz fun hc=>by
  obtain ⟨j,w,hj,hw,hk,_⟩:=zlx g g2 (i1.1.trans i2.1) hc
  obtain ⟨kt,_,kb⟩:=zc4 hk
  have:=T12 j w hj hw kt
  exact hz (kb.symm.trans this)
 have i3:Imp s2 ((za5 n s2 true b).foldl (fun st j=>zar za1 .sum at_ j st) s2):=zbb (fun _ _=>zcn ..) _ _
 have g3:zdq n ((za5 n s2 true b).foldl (fun st j=>zar za1 .sum at_ j st) s2):=zdr (fun _ _ g=>zh9 g zls) _ _ g2
 have i4:=zbb (f:=fun st j=>zar za1 .sum j at_ st) (fun _ _=>zcn ..) (zbx n ((za5 n s2 true b).foldl (fun st j=>zar za1 .sum at_ j st) s2) a) ((za5 n s2 true b).foldl (fun st j=>zar za1 .sum at_ j st) s2)
 have i5:=zbb (f:=fun st j=>zar (zau F) .back j at_ st) (fun _ _=>zcn ..) (za5 n ((zbx n ((za5 n s2 true b).foldl (fun st j=>zar za1 .sum at_ j st) s2) a).foldl (fun st j=>zar za1 .sum j at_ st) ((za5 n s2 true b).foldl (fun st j=>zar za1 .sum at_ j st) s2)) false b) ((zbx n ((za5 n s2 true b).foldl (fun st j=>zar za1 .sum at_ j st) s2) a).foldl (fun st j=>zar za1 .sum j at_ st) ((za5 n s2 true b).foldl (fun st j=>zar za1 .sum at_ j st) s2))
 have b4:=ZAz fun z=>i5.1.bar z hbar
 have b3:=ZAz fun z=>i4.1.bar z b4
 have b2:=ZAz fun z=>i3.1.bar z b3
 have A3:Add C s2 ((za5 n s2 true b).foldl (fun st j=>zar za1 .sum at_ j st) s2):=zdv (f:=fun st j=>zar za1 .sum at_ j st) (fun _ _=>zcn ..) _ s2 s2 (Imp.refl _) fun j hj sx hx=>by
  subst hC
  obtain ⟨c,_,hbest⟩:=zh5 hj
  obtain ⟨q,hq,hk⟩:=g2.at_ _ _ hbest
  obtain ⟨_,qa,qb⟩:=zc4 hk
  have qne:=g2.ne b2 j q hq
  refine zqz (zax hx.1 hp2) (zax hx.1 hq) fun w e=>?_
  unfold za1 at e
  split at e
  ·cases e
   have hcb:c≠b:=fun z=>qne (by rw [qa,qb,z])
   refine ⟨fun _=>.inl ⟨pa,fun z=>qne (by rw [qa];exact z.symm),q.v,?_,rfl⟩,nofun⟩
   show val s (true,b,q.b)=_
   rw [qb,<-keep2 c hcb]
   exact zc1 hbest hq
  ·cases e
 generalize (za5 n s2 true b).foldl (fun st j=>zar za1 .sum at_ j st) s2=s3 at*
 have hp3:=zax i3.1 hp2
 have A4:Add C s3 ((zbx n s3 a).foldl (fun st j=>zar za1 .sum j at_ st) s3):=zdv (f:=fun st j=>zar za1 .sum j at_ st) (fun _ _=>zcn ..) _ s3 s3 (Imp.refl _) fun j hj sx hx=>by
  subst hC
  obtain ⟨c,_,hbest⟩:=zfb hj
  obtain ⟨q,hq,hk⟩:=g3.at_ _ _ hbest
  obtain ⟨_,qa,qb⟩:=zc4 hk
  have qne:=g3.ne b3 j q hq
  refine zqz (zax hx.1 hq) (zax hx.1 hp3) fun w e=>?_
  unfold za1 at e
  split at e
  ·cases e
   exact ⟨fun _=>.inr ⟨pb,fun z=>qne (by rw [qb];exact z)⟩,nofun⟩
  ·cases e
 generalize (zbx n s3 a).foldl (fun st j=>zar za1 .sum j at_ st) s3=s4 at*
 have hp4:=zax i4.1 hp3
 have A5:Add C s4 ((za5 n s4 false b).foldl (fun st j=>zar (zau F) .back j at_ st) s4):=zdv (f:=fun st j=>zar (zau F) .back j at_ st) (fun _ _=>zcn ..) _ s4 s4 (Imp.refl _) fun j hj sx hx=>zee fun w e=>by
  subst hC
  cases e1:wat sx j with
  | none=>rw [e1] at e;cases e
  | some q=>
   rw [e1] at e
   have e:(wat sx at_).bind (fun p=>zau F q p)=some w:=e
   rw [zax hx.1 hp4] at e
   have e:zau F q p=some w:=e
   unfold zau at e
   split at e
   ·cases z:F q.b with
    | none=>rw [z] at e;cases e
    | some f=>
     rw [z] at e
     cases e
     have:=hF.num _ _ z
     exact ⟨nofun,fun _=>⟨by show min q.v f.2.2-p.v<=_;lia,f,z⟩⟩
   ·cases e
 exact (((A1.trans i2.1 A2).trans i3.1 A3).trans i4.1 A4).trans i5.1 A5
theorem zoq {s:St} {at_ a:Nat}:Add (fun w=>w.tie=false->∃f,F w.b=some f) s (za6 n F at_ a s):=by
 unfold za6
 dsimp only
 have A1:Add (fun w:zas=>w.tie=false->∃f,F w.b=some f) s (za2 (zbg F) .sure at_ s):=zee fun w e ht=>by
  cases q:wat s at_ with
  | none=>rw [q] at e;cases e
  | some p=>
   rw [q] at e
   have e:zbg F p=some w:=e
   unfold zbg at e
   split at e
   ·cases z:F p.b with
    | none=>rw [z] at e;cases e
    | some f=>rw [z] at e;cases e;cases ht
   ·cases e
 have i1:Imp s (za2 (zbg F) .sure at_ s):=zdx _ _ _ _
 generalize za2 (zbg F) .sure at_ s=s1 at*
 have A2:Add (fun w:zas=>w.tie=false->∃f,F w.b=some f) s1 (za2 (zay F) .cross at_ s1):=zee fun w e ht=>by
  cases q:wat s1 at_ with
  | none=>rw [q] at e;cases e
  | some p=>
   rw [q] at e
   have e:zay F p=some w:=e
   unfold zay at e
   split at e
   ·cases z:F p.a with
    | none=>rw [z] at e;cases e
    | some o=>
     rw [z] at e
     have e:(F p.b).map (fun f=>(⟨false,o.1,p.b,min p.v f.2.2-o.2.1⟩:zas))=some w:=e
     cases z2:F p.b with
     | none=>rw [z2] at e;cases e
     | some f=>rw [z2] at e;cases e;exact ⟨f,z2⟩
   ·cases e
 have i2:Imp s1 (za2 (zay F) .cross at_ s1):=zdx _ _ _ _
 generalize za2 (zay F) .cross at_ s1=s2 at*
 have A3:Add (fun w:zas=>w.tie=false->∃f,F w.b=some f) s2 ((zbx n s2 a).foldl (fun st j=>zar (zau F) .back at_ j st) s2):=zdv (f:=fun st j=>zar (zau F) .back at_ j st) (fun _ _=>zcn ..) _ s2 s2 (Imp.refl _) fun j _ sx _=>zee fun w e ht=>by
  cases q1:wat sx at_ with
  | none=>rw [q1] at e;cases e
  | some p=>
   rw [q1] at e
   have e:(wat sx j).bind (fun q=>zau F p q)=some w:=e
   cases q2:wat sx j with
   | none=>rw [q2] at e;cases e
   | some q=>
    rw [q2] at e
    have e:zau F p q=some w:=e
    unfold zau at e
    split at e
    ·cases z:F p.b with
     | none=>rw [z] at e;cases e
     | some f=>rw [z] at e;cases e;exact ⟨f,z⟩
    ·cases e
 have i3:Imp s2 ((zbx n s2 a).foldl (fun st j=>zar (zau F) .back at_ j st) s2):=zbb (fun _ _=>zcn ..) _ _
 exact (A1.trans i2.1 A2).trans i3.1 A3
theorem zb9 (st:St) (o:Option zas) (word:Wd) (used:List Nat):(put st o word used).rows.length<=st.rows.length+1:=by
 cases o with
 | none=>exact ZAe _
 | some w=>
  show (take st w word used).rows.length<=_
  by_cases c:zhf st w
  ·rw [(zhj c).2.2];exact ZAw _
  ·rw [zfe c];exact ZAe _
theorem zch {f:St->Nat->St} (hf:∀s j,(f s j).rows.length<=s.rows.length+1):∀(l:List Nat) (s:St),(l.foldl f s).rows.length<=s.rows.length+l.length
 | [],s=>ZAw _
 | j::l,s=>by
  have h1:=zch hf l (f s j)
  have h2:=hf s j
  rw [ZBp]
  show (l.foldl f (f s j)).rows.length<=_
  lia
theorem zgf {tie:Bool} {st:St} {a:Nat}:(za5 n st tie a).length<=n:=by
 have:=List.length_filterMap_le (fun b=>st.best (tie,a,b)) (List.range n)
 rw [List.length_range] at this
 exact this
theorem zfc {st:St} {b:Nat}:(zbx n st b).length<=n:=by
 have:=List.length_filterMap_le (fun a=>st.best (true,a,b)) (List.range n)
 rw [List.length_range] at this
 exact this
theorem zt2 {at_ a b:Nat} {s:St}:(zbz n F at_ a b s).rows.length<=s.rows.length+(2+3*n):=by
 unfold zbz
 dsimp only
 have h1:(za2 (zbh F) .late at_ s).rows.length<=s.rows.length+1:=zb9 _ _ _ _
 generalize za2 (zbh F) .late at_ s=s1 at*
 have h2:(za2 (zbq F) .soon at_ s1).rows.length<=s1.rows.length+1:=zb9 _ _ _ _
 generalize za2 (zbq F) .soon at_ s1=s2 at*
 have h3:=zch (f:=fun st j=>zar za1 .sum at_ j st) (fun _ _=>zb9 _ _ _ _) (za5 n s2 true b) s2
 have k3:=zgf (n:=n) (tie:=true) (st:=s2) (a:=b)
 generalize (za5 n s2 true b).foldl (fun st j=>zar za1 .sum at_ j st) s2=s3 at*
 have h4:=zch (f:=fun st j=>zar za1 .sum j at_ st) (fun _ _=>zb9 _ _ _ _) (zbx n s3 a) s3
 have k4:=zfc (n:=n) (st:=s3) (b:=a)
 generalize (zbx n s3 a).foldl (fun st j=>zar za1 .sum j at_ st) s3=s4 at*
 have h5:=zch (f:=fun st j=>zar (zau F) .back j at_ st) (fun _ _=>zb9 _ _ _ _) (za5 n s4 false b) s4
 have k5:=zgf (n:=n) (tie:=false) (st:=s4) (a:=b)
 lia
theorem zmg {at_ a:Nat} {s:St}:(za6 n F at_ a s).rows.length<=s.rows.length+(2+n):=by
 unfold za6
 dsimp only
 have h1:(za2 (zbg F) .sure at_ s).rows.length<=s.rows.length+1:=zb9 _ _ _ _
 generalize za2 (zbg F) .sure at_ s=s1 at*
 have h2:(za2 (zay F) .cross at_ s1).rows.length<=s1.rows.length+1:=zb9 _ _ _ _
 generalize za2 (zay F) .cross at_ s1=s2 at*
 have h3:=zch (f:=fun st j=>zar (zau F) .back at_ j st) (fun _ _=>zb9 _ _ _ _) (zbx n s2 a) s2
 have k3:=zfc (n:=n) (st:=s2) (b:=a)
 lia
theorem zm6 {at_:Nat} {s:St} (h8:n<=8):(look n F at_ s).rows.length<=s.rows.length+26:=by
 unfold look
 split
 ·split
  ·split
   ·exact ZBg zt2 (by lia)
   ·exact ZBg zmg (by lia)
  ·lia
 ·lia
def pw (n:Nat) (F:zaz) (s0:St) (t a b:Nat):Prop:=∃w,wat (run n F s0 t) t=some w/\w.tie=false/\w.a=a/\w.b=b/\(run n F s0 t).best (false,a,b)=some t
theorem step (n:Nat) (F:zaz) (s0:St) {t:Nat} (hl:t<(run n F s0 t).rows.length):
 (∃p,wat (run n F s0 t) t=some p/\p.tie=true/\pt n F s0 t p.a p.b/\run n F s0 (t+1)=zbz n F t p.a p.b (run n F s0 t))\/
 (∃p,wat (run n F s0 t) t=some p/\p.tie=false/\pw n F s0 t p.a p.b/\run n F s0 (t+1)=za6 n F t p.a (run n F s0 t))\/
 ((∀a b,¬pt n F s0 t a b)/\(∀a b,¬pw n F s0 t a b)/\run n F s0 (t+1)=run n F s0 t):=by
 obtain ⟨p,hp⟩:∃p,wat (run n F s0 t) t=some p:=⟨_,by unfold wat;rw [ZAx hl];rfl⟩
 have hl:run n F s0 (t+1)=look n F t (run n F s0 t):=rfl
 by_cases hb:(run n F s0 t).best p.key=some t
 ·cases pt':p.tie with
  | true=>
   have hb2:(run n F s0 t).best (true,p.a,p.b)=some t:=by rw [<-hb];unfold zas.key;rw [pt']
   exact .inl ⟨p,hp,pt',⟨p,hp,pt',rfl,rfl,hb2⟩,hl.trans (zjp hp pt' rfl rfl hb2)⟩
  | false=>
   have hb2:(run n F s0 t).best (false,p.a,p.b)=some t:=by rw [<-hb];unfold zas.key;rw [pt']
   exact .inr (.inl ⟨p,hp,pt',⟨p,hp,pt',rfl,rfl,hb2⟩,hl.trans (zkv hp pt' hb)⟩)
 ·refine .inr (.inr ⟨fun a b h=>?_,fun a b h=>?_,hl.trans (zkw hp hb)⟩)
  ·obtain ⟨w,h1,h2,h3,h4,h5⟩:=h
   rw [hp] at h1
   cases h1
   exact hb (by unfold zas.key;rw [h2,h3,h4];exact h5)
  ·obtain ⟨w,h1,h2,h3,h4,h5⟩:=h
   rw [hp] at h1
   cases h1
   exact hb (by unfold zas.key;rw [h2,h3,h4];exact h5)
variable {n:Nat} {F:zaz} {most:Int} {s0:St}
theorem zhi {s s':St} (e:Ext s s') {i:Nat} {w:zas} (hi:i<s.rows.length) (h:wat s' i=some w):wat s i=some w:=by
 obtain ⟨p,hp⟩:∃p,wat s i=some p:=⟨_,by unfold wat;rw [ZAx hi];rfl⟩
 rw [zax e hp] at h
 cases h
 exact hp
theorem zmv (hF:FOk n F most) (g0:zdq n s0) (w0:∀a b,val s0 (false,a,b)=none) {T:Nat} (hl:∀t,t<T->t<(run n F s0 t).rows.length) (hb:∀t,t<=T->(run n F s0 t).bar=none):∀t,t<=T->∀i w,wat (run n F s0 t) i=some w->w.tie=false->∃f,F w.b=some f
 | 0,_,i,w,h,ht=>by
  obtain ⟨j,_,hj⟩:=g0.top i w h
  obtain ⟨u,hu,_⟩:=g0.at_ _ _ hj
  have:=zc1 hj hu
  have hk:w.key=(false,w.a,w.b):=by unfold zas.key;rw [ht]
  rw [hk,w0] at this
  cases this
 | t+1,hT,i,w,h,ht=>by
  have ih:=zmv hF g0 w0 hl hb t (by lia)
  have gd:=zhm hF g0 t
  by_cases hi:i<(run n F s0 t).rows.length
  ·exact ih i w (zhi (zd0 n F t (run n F s0 t)).1 hi h) ht
  ·rcases step n F s0 (hl t (by lia)) with ⟨p,hp,_,_,e⟩ | ⟨p,hp,_,_,e⟩ | ⟨_,_,e⟩
   ·have hbar:=hb (t+1) hT
    rw [e] at hbar h
    exact ((zi8 hF gd hp rfl rfl hbar i w (by lia) h).2 ht).2
   ·rw [e] at h
    exact zoq i w (by lia) h ht
   ·rw [e] at h
    exact absurd (zd7 h) (by lia)
theorem zri {s:St} {at_:Nat} {p:zas} (hp:wat s at_=some p):Add (fun w=>w.tie=true->w.a=p.a) s (za6 n F at_ p.a s):=by
 unfold za6
 dsimp only
 have A1:Add (fun w:zas=>w.tie=true->w.a=p.a) s (za2 (zbg F) .sure at_ s):=zia hp fun w e ht=>by
  unfold zbg at e
  split at e
  ·cases z:F p.b with
   | none=>rw [z] at e;cases e
   | some f=>rw [z] at e;cases e;rfl
  ·cases e
 have i1:Imp s (za2 (zbg F) .sure at_ s):=zdx _ _ _ _
 generalize za2 (zbg F) .sure at_ s=s1 at*
 have A2:Add (fun w:zas=>w.tie=true->w.a=p.a) s1 (za2 (zay F) .cross at_ s1):=zee fun w e ht=>by
  cases q:wat s1 at_ with
  | none=>rw [q] at e;cases e
  | some p=>
   rw [q] at e
   have e:zay F p=some w:=e
   unfold zay at e
   split at e
   ·cases z:F p.a with
    | none=>rw [z] at e;cases e
    | some o=>
     rw [z] at e
     have e:(F p.b).map (fun f=>(⟨false,o.1,p.b,min p.v f.2.2-o.2.1⟩:zas))=some w:=e
     cases z2:F p.b with
     | none=>rw [z2] at e;cases e
     | some f=>rw [z2] at e;cases e;cases ht
   ·cases e
 have i2:Imp s1 (za2 (zay F) .cross at_ s1):=zdx _ _ _ _
 generalize za2 (zay F) .cross at_ s1=s2 at*
 have A3:Add (fun w:zas=>w.tie=true->w.a=p.a) s2 ((zbx n s2 p.a).foldl (fun st j=>zar (zau F) .back at_ j st) s2):=zdv (f:=fun st j=>zar (zau F) .back at_ j st) (fun _ _=>zcn ..) _ s2 s2 (Imp.refl _) fun j _ sx _=>zee fun w e ht=>by
  cases q1:wat sx at_ with
  | none=>rw [q1] at e;cases e
  | some p=>
   rw [q1] at e
   have e:(wat sx j).bind (fun q=>zau F p q)=some w:=e
   cases q2:wat sx j with
   | none=>rw [q2] at e;cases e
   | some q=>
    rw [q2] at e
    have e:zau F p q=some w:=e
    unfold zau at e
    split at e
    ·cases z:F p.b with
     | none=>rw [z] at e;cases e
     | some f=>rw [z] at e;cases e;cases ht
    ·cases e
 have i3:Imp s2 ((zbx n s2 p.a).foldl (fun st j=>zar (zau F) .back at_ j st) s2):=zbb (fun _ _=>zcn ..) _ _
 exact (A1.trans i2.1 A2).trans i3.1 A3
theorem zwj {l mo:Nat} (h8:n<=8) (hF:FOk n F (mo:Int)) (g0:zdq n s0) (told:∀i,0<i->i<n->(∃v,v<=(l:Int)/\val s0 (true,0,i)=some v)/\∃v,v<=0/\val s0 (true,i,0)=some v) (w0:∀a b,val s0 (false,a,b)=none)
 {T:Nat} (hl:∀t,t<T->t<(run n F s0 t).rows.length) (hb:∀t,t<=T->(run n F s0 t).bar=none):
 MH.Bd n (l:Int) (mo:Int) T (fun t=>(run n F s0 t).rows.length) (fun t a b=>val (run n F s0 t) (true,a,b)) (fun t a b=>val (run n F s0 t) (false,a,b)) (pt n F s0) (pw n F s0):=by
 have gd:=zhm hF g0
 have goes:∀t a b,pt n F s0 t a b->∃w,wat (run n F s0 t) t=some w/\w.tie=true/\w.a=a/\w.b=b/\val (run n F s0 t) (true,a,b)=some w.v/\run n F s0 (t+1)=zbz n F t a b (run n F s0 t):=fun t a b ⟨w,h1,h2,h3,h4,h5⟩=>⟨w,h1,h2,h3,h4,zc1 h5 h1,zjp h1 h2 h3 h4 h5⟩
 have goew:∀t a b,pw n F s0 t a b->∃w,wat (run n F s0 t) t=some w/\w.tie=false/\w.a=a/\w.b=b/\val (run n F s0 t) (false,a,b)=some w.v/\(run n F s0 t).best (false,a,b)=some t:=fun t a b ⟨w,h1,h2,h3,h4,h5⟩=>⟨w,h1,h2,h3,h4,zc1 h5 h1,h5⟩
 have ends:=zmv hF g0 w0 hl hb
 have wm:∀t a b v,t<T->val (run n F s0 t) (false,a,b)=some v->∃v',v<=v'/\val (run n F s0 (t+1)) (false,a,b)=some v':=fun t a b v ht h=>by
  have hne:=(zf5 (gd t) (hb t (by lia)) h).1
  obtain ⟨u',h1,h2⟩:=(zd0 n F t (run n F s0 t)).2 (false,a,b) v hne h
  refine ⟨u',?_,h1⟩
  unfold zbm at h2
  simp at h2
  exact h2
 have wms:∀t a b v,val (run n F s0 t) (false,a,b)=some v->∀d,t+d<=T->∃v',v<=v'/\val (run n F s0 (t+d)) (false,a,b)=some v':=fun t a b v h d=>by
  induction d with
  | zero=>exact fun _=>⟨v,Int.le_refl _,h⟩
  | succ d ih=>
   intro hd
   obtain ⟨v1,h1,e1⟩:=ih (by lia)
   obtain ⟨v2,h2,e2⟩:=wm (t+d) a b v1 (by lia) e1
   exact ⟨v2,by lia,e2⟩
 have once:∀(k:Key) (t t':Nat) (x x':zas),t<t'->wat (run n F s0 t) t=some x->wat (run n F s0 t') t'=some x'->x'.key=k->(run n F s0 t).best k=some t->(run n F s0 t).rows.length<=t':=fun k t t' x x' htt hx hx' hk hbest=>by
  refine ZAz fun c=>?_
  have h1:=zhi (zff (n:=n) (F:=F) (s:=s0) (ZBb htt)).1 (by lia) hx'
  obtain ⟨j,hj,hbj⟩:=(gd t).top t' x' h1
  rw [hk,hbest] at hbj
  cases hbj
  lia
 exact
 { n8:=h8
   L0:=Int.natCast_nonneg _
   most0:=Int.natCast_nonneg _
   go:=hl
   lenm:=fun t _=>(zd0 n F t (run n F s0 t)).1.len
   lt:=fun t a b v ht h=>by
    obtain ⟨x1,x2,x3⟩:=zf5 (gd t) (hb t ht) h
    exact ⟨x2,x3,x1⟩
   known:=fun t a b _ h=>by
    obtain ⟨w,_,_,_,_,h5,_⟩:=goes t a b h
    exact ⟨w.v,h5⟩
   wknown:=fun t a b ht h=>by
    obtain ⟨w,_,_,_,_,h5,_⟩:=goew t a b h
    obtain ⟨x1,x2,x3⟩:=zf5 (gd t) (hb t (by lia)) h5
    exact ⟨x2,x3,x1,w.v,h5⟩
   mono:=fun t a b v ht h=>by
    have hne:=(zf5 (gd t) (hb t (by lia)) h).1
    obtain ⟨u',h1,h2⟩:=(zd0 n F t (run n F s0 t)).2 (true,a,b) v hne h
    refine ⟨u',?_,h1⟩
    unfold zbm at h2
    simp at h2
    exact h2
   wmono:=wm
   told:=told
   wnone:=w0
   sum:=fun t a b c v u ht h hv hu hac=>by
    obtain ⟨w,h1,h2,h3,h4,h5,h6⟩:=goes t a b h
    have hv:val (run n F s0 t) (true,a,b)=some v:=hv
    rw [hv] at h5
    cases h5
    have hbc:=zf5 (gd t) (hb t (by lia)) hu
    obtain ⟨x,hx,ex⟩:=(zo0 hF (gd t) h1 h2 h3 h4 hu hbc.1 hbc.2.2).1 hac
    refine ⟨x,hx,?_⟩
    show val (run n F s0 (t+1)) _=_
    rw [h6]
    exact ex
   bar:=fun t a b v u ht h hv hu=>by
    obtain ⟨w,h1,h2,h3,h4,h5,h6⟩:=goes t a b h
    have hv:val (run n F s0 t) (true,a,b)=some v:=hv
    rw [hv] at h5
    cases h5
    have hbc:=zf5 (gd t) (hb t (by lia)) hu
    refine ZAz fun hc=>?_
    have:=(zo0 hF (gd t) h1 h2 h3 h4 hu hbc.1 hbc.2.2).2 rfl (by lia)
    rw [<-h6] at this
    exact this (hb (t+1) ht)
   one:=fun t a b a' b' _ h h'=>by
    obtain ⟨w,h1,_,h3,h4,_⟩:=goes t a b h
    obtain ⟨w',h1',_,h3',h4',_⟩:=goes t a' b' h'
    rw [h1] at h1'
    cases h1'
    exact ⟨h3.symm.trans h3',h4.symm.trans h4'⟩
   onew:=fun t a b a' b' _ h h'=>by
    obtain ⟨w,h1,_,h3,h4,_⟩:=goew t a b h
    obtain ⟨w',h1',_,h3',h4',_⟩:=goew t a' b' h'
    rw [h1] at h1'
    cases h1'
    exact ⟨h3.symm.trans h3',h4.symm.trans h4'⟩
   apart:=fun t a b a' b' _ h h'=>by
    obtain ⟨w,h1,h2,_⟩:=goes t a b h
    obtain ⟨w',h1',h2',_⟩:=goew t a' b' h'
    rw [h1] at h1'
    cases h1'
    rw [h2] at h2'
    cases h2'
   cause:=fun t a b ht h=>by
    have h:val (run n F s0 (t+1)) (true,a,b)≠val (run n F s0 t) (true,a,b):=h
    obtain ⟨j,w,hj,hw,hk,hv⟩:=zlx (gd t) (gd (t+1)) (zd0 n F t (run n F s0 t)).1 (k:=(true,a,b)) h
    obtain ⟨kt,ka,kb⟩:=zc4 hk
    have hv:val (run n F s0 (t+1)) (true,a,b)=some w.v:=hv
    have hbar:=hb (t+1) ht
    rcases step n F s0 (hl t ht) with ⟨p,hp,ptie,hpt,e⟩ | ⟨p,hp,ptie,hpw,e⟩ | ⟨_,_,e⟩
    ·have hw:wat (run n F s0 (t+1)) j=some w:=hw
     rw [e] at hw hbar
     rcases (zi8 hF (gd t) hp rfl rfl hbar j w hj hw).1 kt with ⟨h1,h2,q,hq,hwv⟩ | ⟨h1,h2⟩
     ·rw [ka] at h1
      rw [kb] at h2 hq
      subst h1
      obtain ⟨w',k1,_,_,_,k5,_⟩:=goes t _ _ hpt
      rw [hp] at k1
      cases k1
      exact .inl ⟨p.b,p.v,q,w.v,hpt,ZAl h2,k5,hq,hv,by lia⟩
     ·rw [kb] at h1
      rw [ka] at h2
      subst h1
      exact .inr (.inl ⟨p.a,hpt,ZAl h2⟩)
    ·
     have hw:wat (run n F s0 (t+1)) j=some w:=hw
     have g':zdq n (za6 n F t p.a (run n F s0 t)):=by rw [<-e];exact gd (t+1)
     have hbar':=hbar
     rw [e] at hw hbar'
     obtain ⟨B,hB0,hB⟩:∃B:Int,0<=B/\∀x v,val (za6 n F t p.a (run n F s0 t)) (true,x,p.a)=some v->-B<=v:=by
      have:∀k,∃B:Int,0<=B/\∀x v,x<k->val (za6 n F t p.a (run n F s0 t)) (true,x,p.a)=some v->-B<=v:=by
       intro k
       induction k with
       | zero=>exact ⟨0,Int.le_refl _,fun x v hx=>absurd hx (ZB6 _)⟩
       | succ k ih=>
        obtain ⟨B,h0,h1⟩:=ih
        cases q:val (za6 n F t p.a (run n F s0 t)) (true,k,p.a) with
        | none=>
         refine ⟨B,h0,fun x v hx hv=>?_⟩
         by_cases e:x=k
         ·rw [e,q] at hv;cases hv
         ·exact h1 x v (by lia) hv
        | some u=>
         refine ⟨max B (-u),by lia,fun x v hx hv=>?_⟩
         by_cases e:x=k
         ·rw [e,q] at hv;cases hv;lia
         ·have:=h1 x v (by lia) hv
          lia
      obtain ⟨B,h0,h1⟩:=this n
      exact ⟨B,h0,fun x v hv=>h1 x v (zf5 g' hbar' hv).2.1 hv⟩
     have hlo:=(zmh hF (gd t) hp ptie rfl hB hB0 hbar' j w hj hw).1 kt
     have own:w.a=p.a:=by
      have:=zri (F:=F) (n:=n) hp j w hj hw kt
      exact this
     rw [ka] at own
     subst own
     exact .inr (.inr ⟨p.b,w.v,hpw,hv,hlo⟩)
    ·have hw:wat (run n F s0 (t+1)) j=some w:=hw
     rw [e] at hw
     exact absurd (zd7 hw) (by lia)
   late:=fun t a b e v v' ht h hv hte heT hpw hv'=>by
    obtain ⟨w,h1,h2,h3,h4,h5,h6⟩:=goes t a b h
    have hv:val (run n F s0 t) (true,a,b)=some v:=hv
    rw [hv] at h5
    cases h5
    obtain ⟨x,k1,k2,k3,k4,_⟩:=goew e a b hpw
    obtain ⟨f,hf⟩:=ends e (by lia) e x k1 k2
    rw [k4] at hf
    have hne:=(zf5 (gd t) (hb t (by lia)) hv).1
    have hnum:=hF.num _ _ hf
    have hd:za2 (zbh F) .late t (run n F s0 t)=take (run n F s0 t) ⟨false,a,b,f.2.2-w.v⟩ .late [t]:=by
     unfold za2
     rw [h1]
     show put _ (zbh F w) _ _=_
     unfold zbh
     rw [if_pos ⟨h2,by rw [h3,h4];exact hne⟩,h4,hf,h3]
     rfl
    obtain ⟨u,hu,nu⟩:=zgt (st:=run n F s0 t) (word:=.late) (used:=[t]) (w:=⟨false,a,b,f.2.2-w.v⟩) hne
    have iz:Imp (za2 (zbh F) .late t (run n F s0 t)) (zbz n F t a b (run n F s0 t)):=by
     unfold zbz
     dsimp only
     exact (((zdx _ _ _ _).trans (zbb (fun _ _=>zcn ..) _ _)).trans (zbb (fun _ _=>zcn ..) _ _)).trans (zbb (fun _ _=>zcn ..) _ _)
    rw [hd] at iz
    obtain ⟨u2,hu2,nu2⟩:=iz.2 (false,a,b) u hne hu
    rw [<-h6] at hu2
    have hte':t+1<=e\/t=e:=by lia
    rcases hte' with hte' | hte'
    ·obtain ⟨u3,l3,e3⟩:=wms (t+1) a b u2 hu2 (e-(t+1)) (by lia)
     rw [show t+1+(e-(t+1))=e by lia] at e3
     have hv':val (run n F s0 e) (false,a,b)=some v':=hv'
     rw [hv'] at e3
     cases e3
     unfold zbm at nu nu2
     simp at nu nu2
     lia
    ·subst hte'
     rw [h1] at k1
     cases k1
     rw [h2] at k2
     cases k2
   wcause:=fun t a b B ht hB0 hB h=>by
    have h:val (run n F s0 (t+1)) (false,a,b)≠val (run n F s0 t) (false,a,b):=h
    obtain ⟨j,w,hj,hw,hk,hv⟩:=zlx (gd t) (gd (t+1)) (zd0 n F t (run n F s0 t)).1 (k:=(false,a,b)) h
    obtain ⟨kt,ka,kb⟩:=zc4 hk
    have hv:val (run n F s0 (t+1)) (false,a,b)=some w.v:=hv
    have hw:wat (run n F s0 (t+1)) j=some w:=hw
    have hbar:=hb (t+1) ht
    refine ⟨w.v,hv,?_⟩
    rcases step n F s0 (hl t ht) with ⟨p,hp,ptie,hpt,e⟩ | ⟨p,hp,ptie,hpw,e⟩ | ⟨_,_,e⟩
    ·have hpv: -B<=p.v:=by
      obtain ⟨w',k1,_,_,_,k5,_⟩:=goes t _ _ hpt
      rw [hp] at k1
      cases k1
      have hne:=(zf5 (gd t) (hb t (by lia)) k5).1
      obtain ⟨u',q1,q2⟩:=(zd0 n F t (run n F s0 t)).2 (true,p.a,p.b) p.v hne k5
      have:=hB p.a p.b u' q1
      unfold zbm at q2
      simp at q2
      lia
     rw [e] at hw hbar
     have:=((zi8 hF (gd t) hp rfl rfl hbar j w hj hw).2 kt).1
     lia
    ·have hB':∀x v,val (za6 n F t p.a (run n F s0 t)) (true,x,p.a)=some v->-B<=v:=fun x v hx=>by
      rw [<-e] at hx
      exact hB x p.a v hx
     rw [e] at hw hbar
     exact (zmh hF (gd t) hp ptie rfl hB' hB0 hbar j w hj hw).2 kt
    ·rw [e] at hw
     exact absurd (zd7 hw) (by lia)
   grow:=fun t _=>zm6 h8
   growW:=fun t ht hno=>by
    rcases step n F s0 (hl t ht) with ⟨p,hp,_,hpt,_⟩ | ⟨p,hp,_,_,e⟩ | ⟨_,_,e⟩
    ·exact absurd hpt (hno _ _)
    ·show (run n F s0 (t+1)).rows.length<=_
     rw [e]
     exact ZBg zmg (by show (run n F s0 t).rows.length+(2+n)<=(run n F s0 t).rows.length+10;lia)
    ·show (run n F s0 (t+1)).rows.length<=_
     rw [e]
     exact Nat.le_add_right _ _
   grow0:=fun t ht hno hnw=>by
    rcases step n F s0 (hl t ht) with ⟨p,hp,_,hpt,_⟩ | ⟨p,hp,_,hpw,_⟩ | ⟨_,_,e⟩
    ·exact absurd hpt (hno _ _)
    ·exact absurd hpw (hnw _ _)
    ·show (run n F s0 (t+1)).rows.length=_
     rw [e]
   stay:=fun t0 t a b v ht h0 h1 hv hv'=>by
    have hv:val (run n F s0 t0) (true,a,b)=some v:=hv
    have hv':val (run n F s0 t) (true,a,b)=some v:=hv'
    obtain ⟨j,w,hj,hw,hk,hwv⟩:=zht (gd t0) hv
    obtain ⟨j',w',hj',hw',hk',hwv'⟩:=zht (gd t) hv'
    have ejj:j=j':=ZAz fun c=>zma h1 (gd t0) (gd t) (hb t ht) hj hj' c (hv'.trans hv.symm)
    subst ejj
    obtain ⟨kt,ka,kb⟩:=zc4 hk
    have hjl:=zd7 hw
    have hjt:j<t:=by
     have h0:(run n F s0 t0).rows.length<=t:=h0
     lia
    obtain ⟨p,hp⟩:∃p,wat (run n F s0 j) j=some p:=⟨_,by unfold wat;rw [ZAx (hl j (by lia))];rfl⟩
    have hp2:=zax (zff (n:=n) (F:=F) (s:=s0) (ZBb hjt)).1 hp
    rw [hw'] at hp2
    cases hp2
    obtain ⟨kt',ka',kb'⟩:=zc4 hk'
    obtain ⟨i,hi,hb2⟩:=(gd j).top j w' hp
    rw [hk'] at hb2
    have:=zll (ZBb hjt) (gd j) hb2 hj'
    have e:i=j:=by lia
    rw [e] at hb2
    exact ⟨j,hjt,⟨w',hp,kt',ka',kb',hb2⟩,by show val (run n F s0 j) (true,a,b)=some v;rw [zc1 hb2 hp,hwv']⟩
   drop:=fun t t' a b v v' htt hT h h' hv hv'=>by
    obtain ⟨w,h1,h2,h3,h4,h5,_⟩:=goes t a b h
    obtain ⟨w',h1',h2',h3',h4',h5',_⟩:=goes t' a b h'
    have hv:val (run n F s0 t) (true,a,b)=some v:=hv
    have hv':val (run n F s0 t') (true,a,b)=some v':=hv'
    rw [hv] at h5
    rw [hv'] at h5'
    cases h5
    cases h5'
    have:=(gd t').drop (hb t' (by lia)) t t' w w' (zax (zff (ZBb htt)).1 h1) h1' (by unfold zas.key;rw [h2,h3,h4,h2',h3',h4']) htt
    unfold zbm at this
    rw [h2] at this
    simp at this
    exact this
   wdrop:=fun t t' a b v v' htt hT h h' hv hv'=>by
    obtain ⟨w,h1,h2,h3,h4,h5,_⟩:=goew t a b h
    obtain ⟨w',h1',h2',h3',h4',h5',_⟩:=goew t' a b h'
    have hv:val (run n F s0 t) (false,a,b)=some v:=hv
    have hv':val (run n F s0 t') (false,a,b)=some v':=hv'
    rw [hv] at h5
    rw [hv'] at h5'
    cases h5
    cases h5'
    have:=(gd t').drop (hb t' (by lia)) t t' w w' (zax (zff (ZBb htt)).1 h1) h1' (by unfold zas.key;rw [h2,h3,h4,h2',h3',h4']) htt
    unfold zbm at this
    rw [h2] at this
    simp at this
    exact this
   once:=fun t t' a b htt hT h h'=>by
    obtain ⟨w,h1,h2,h3,h4,_,_⟩:=goes t a b h
    obtain ⟨w',h1',h2',h3',h4',_,_⟩:=goes t' a b h'
    obtain ⟨_,_,_,_,_,h5⟩:=h
    exact once (true,a,b) t t' w w' htt h1 h1' (by unfold zas.key;rw [h2',h3',h4']) h5
   wonce:=fun t t' a b htt hT h h'=>by
    obtain ⟨w,h1,h2,h3,h4,_,h5⟩:=goew t a b h
    obtain ⟨w',h1',h2',h3',h4',_,_⟩:=goew t' a b h'
    exact once (false,a,b) t t' w w' htt h1 h1' (by unfold zas.key;rw [h2',h3',h4']) h5 }
variable {n:Nat} {F:zaz} {s0:St}
theorem zl5 (h8:n<=8) (hF:FOk n F ((60:Nat):Int)) (g0:zdq n s0) (told:∀i,0<i->i<n->(∃v,v<=((20:Nat):Int)/\val s0 (true,0,i)=some v)/\∃v,v<=0/\val s0 (true,i,0)=some v) (w0:∀a b,val s0 (false,a,b)=none) (h0:s0.rows.length<=1000):
 ∃T,((run n F s0 T).rows.length<=T\/(run n F s0 T).bar≠none)/\(∀t,t<T->t<(run n F s0 t).rows.length/\(run n F s0 t).bar=none)/\∀t,t<=T->(run n F s0 t).rows.length<=16000000:=by
 have key:∀T,(∀t,t<T->t<(run n F s0 t).rows.length/\(run n F s0 t).bar=none)->(run n F s0 T).rows.length<=15900000+26:=fun T h=>by
  cases T with
  | zero=>exact ZBg h0 (by decide)
  | succ T=>
   have b:=(zwj (l:=20) (mo:=60) h8 hF g0 told w0 (T:=T) (fun t ht=>(h t (by lia)).1) (fun t ht=>(h t (by lia)).2)).rows
   have b:(run n F s0 T).rows.length<=(run n F s0 0).rows.length+2304*(7*(8*(20+1)+8*(60+1)+1))+26*(64*(2*20+1))+10*((64*(2*20+1)+64*(60+20+1))*64+(64*(60+2*20+1)+64)):=b
   have e0:(run n F s0 0).rows.length=s0.rows.length:=rfl
   have l:=zm6 (n:=n) (F:=F) (at_:=T) (s:=run n F s0 T) h8
   have l:(run n F s0 (T+1)).rows.length<=(run n F s0 T).rows.length+26:=l
   rw [e0] at b
   lia
 have hex:∃T,(run n F s0 T).rows.length<=T\/(run n F s0 T).bar≠none:=ZAz fun hn=>by
  have all:∀t,t<(run n F s0 t).rows.length/\(run n F s0 t).bar=none:=fun t=>⟨ZAz fun c=>hn ⟨t,.inl (by lia)⟩,ZAz fun c=>hn ⟨t,.inr c⟩⟩
  have h1:=key 16000000 fun t _=>all t
  have h2:=(all 16000000).1
  lia
 have least:∀N,(∃T,T<=N/\((run n F s0 T).rows.length<=T\/(run n F s0 T).bar≠none)/\∀t,t<T->t<(run n F s0 t).rows.length/\(run n F s0 t).bar=none)\/∀t,t<=N->t<(run n F s0 t).rows.length/\(run n F s0 t).bar=none:=fun N=>by
  induction N with
  | zero=>
   by_cases c:(run n F s0 0).rows.length<=0\/(run n F s0 0).bar≠none
   ·exact .inl ⟨0,ZAw _,c,fun t ht=>absurd ht (ZB6 _)⟩
   ·refine .inr fun t ht=>?_
    rw [show t=0 by lia]
    exact ⟨ZAz fun z=>c (.inl (by lia)),ZAz fun z=>c (.inr z)⟩
  | succ N ih=>
   rcases ih with ⟨T,h1,h2,h3⟩ | h
   ·exact .inl ⟨T,by lia,h2,h3⟩
   ·by_cases c:(run n F s0 (N+1)).rows.length<=N+1\/(run n F s0 (N+1)).bar≠none
    ·exact .inl ⟨N+1,ZAw _,c,fun t ht=>h t (by lia)⟩
    ·refine .inr fun t ht=>?_
     by_cases e:t=N+1
     ·rw [e]
      exact ⟨ZAz fun z=>c (.inl (by lia)),ZAz fun z=>c (.inr z)⟩
     ·exact h t (by lia)
 obtain ⟨T0,hT0⟩:=hex
 rcases least T0 with ⟨T,_,h2,h3⟩ | h
 ·exact ⟨T,h2,h3,fun t ht=>ZBg (key t fun s hs=>h3 s (by lia)) (by lia)⟩
 ·have:=h T0 (ZAw _)
  rcases hT0 with z | z
  ·lia
  ·exact absurd this.2 z
end MU
set_option maxRecDepth 100000
namespace L2
theorem zww {c A B:Prop} [Decidable c] (hc:¬c) (h:A):if (!decide c)=true then A else B:=by
 rw [ZB9 hc]
 exact zft h
end L2
namespace Y0
open PySem L2
def zfz (tie:Bool):Str:=if tie=true then "tie" else "wait"
def zfp (x:MU.zas):List V:=[.str (zfz x.tie),.int (x.a:Int),.int (x.b:Int),.int x.v]
def zcb (H:Hp) (q:Addr) (x:MU.zas):Prop:=H q=some (.tup (zfp x))
theorem zcb.same {H H':Hp} {q:Addr} {x:MU.zas} (h:zcb H q x) (s:zbe H H'):zcb H' q x:=s _ _ h
structure zcx (H:Hp) (d:Addr) (F:MU.zaz):Prop where
 at_:∃kvs:List (Key×V),H d=some (.dK kvs)/\(kvs.length<=100/\∀kv∈kvs,∃e:Nat,kv.1=Sum.inl (e:Int))/\(∀e:Nat,F e=none->zel kvs (.inl (e:Int))=none)/\∀(e:Nat) f,F e=some f->∃p,zel kvs (.inl (e:Int))=some (.ref p)/\H p=some (.tup [.int (f.1:Int),.int f.2.1,.int f.2.2])
theorem zcx.same {H H':Hp} {d:Addr} {F:MU.zaz} (h:zcx H d F) (s:zbe H H'):zcx H' d F:=by
 obtain ⟨kvs,h1,h2,h3,h4⟩:=h.at_
 refine ⟨kvs,s _ _ h1,h2,h3,fun e f hf=>?_⟩
 obtain ⟨p,q1,q2⟩:=h4 e f hf
 exact ⟨p,q1,s _ _ q2⟩
def zgq (H:Hp) (Q:VK) (o:Option MU.zas):Prop:=(o=none->∀H',zbe H H'->Q .non H')/\∀x,o=some x->∀r H',H r=none->zbe H H'->zcb H' r x->Q (.ref r) H'
theorem zgq.no {H:Hp} {Q:VK} {o:Option MU.zas} (h:zgq H Q o) (e:o=none):Q .non H:=h.1 e H (zbe.refl _)
theorem zgq.yes {H:Hp} {Q:VK} {o:Option MU.zas} (h:zgq H Q o) {x:MU.zas} (e:o=some x) {r:Addr} (hr:H r=none):Q (.ref r) (upd H r (.tup (zfp x))):=h.2 x e r _ hr (zag hr) zab
theorem zyf {a b:Int}:decide (V.int a=V.int b)=decide (a=b):=decide_eq_decide.mpr ⟨fun q=>V.int.inj q,fun q=>by rw [q]⟩
theorem zku {a b:Nat}:decide (V.int (a:Int)=V.int (b:Int))=decide (a=b):=decide_eq_decide.mpr ⟨fun q=>Int.ofNat.inj (V.int.inj q),fun q=>by rw [q]⟩
structure zy1 (mg:Str->Option Value):Prop where
 min:mg "min"=none
def zs9:Sp:=fun vs H Q _=>∃d q F x,vs=[.ref d,.ref q]/\zcx H d F/\zcb H q x/\x.tie=true/\zgq H Q (MU.zbh F x)
def zs2:Sp:=fun vs H Q _=>∃d q F x,vs=[.ref d,.ref q]/\zcx H d F/\zcb H q x/\x.tie=true/\zgq H Q (MU.zbq F x)
def zv7:Sp:=fun vs H Q _=>∃p q x y,vs=[.ref p,.ref q]/\zcb H p x/\zcb H q y/\x.tie=true/\y.tie=true/\zgq H Q (MU.za1 x y)
def zs0:Sp:=fun vs H Q _=>∃d q F x fa,vs=[.ref d,.ref q]/\zcx H d F/\zcb H q x/\x.tie=false/\F x.b=some fa/\zgq H Q (MU.zbg F x)
def zte:Sp:=fun vs H Q _=>∃d p q F x y fa,vs=[.ref d,.ref p,.ref q]/\zcx H d F/\zcb H p x/\zcb H q y/\x.tie=false/\y.tie=true/\F x.b=some fa/\zgq H Q (MU.zau F x y)
def zpf:Sp:=fun vs H Q _=>∃d q F x fa,vs=[.ref d,.ref q]/\zcx H d F/\zcb H q x/\x.tie=false/\F x.b=some fa/\zgq H Q (MU.zay F x)
def ztd:Sp:=fun vs H Q _=>∃q x,vs=[.ref q]/\zcb H q x/\Q (.bl (decide (MU.zih x))) H
theorem zzc:zam ["falls","tie","end"] ["falls","tie"] (zae sP_by_late):=scm
theorem ok_late {f:Addr} {fd:FuncData} (F:Fn K mg "by_late" sP_by_late ["falls","tie"] f fd):za3 P w K mg base CX0 1 f fd ["falls","tie"] zs9:=by
 refine F.F.ok zzc (fun _ _ _ _ h=>?_) fun _ A _ s H _ Q E hr h=>?_
 ·obtain ⟨_,_,_,_,rfl,_⟩:=h
  rfl
 ·obtain ⟨d,q,Fa,x,rfl,FA,hw,ht,G⟩:=h
  have hu:=zei hr
  refine ⟨_,zah (za9 2 zzc.nd (ixT (pv 1)))
   (zah (zbn (PW.pt (zii (zg5 (ze0 hu (pv 2) (pv 0)) (by with_unfolding_all rfl)) (zg3 (zcy zcf (ixT (pv 1)) (pv 2))))) (zad (zaq zca)) zap)
   (zad (zaq (zbf (pa4 zbd (ixT (pv 1)) (pv 2) (zba zcm (ixT (zcd hu (pv 0) (pv 2) (fun _ _=>rfl))) (ixT (pv 1)))))))),?_⟩
  obtain ⟨kvs,hd,hl,f0,f1⟩:=FA.at_
  refine ⟨_,rfl,rdT hw rfl ⟨_,rfl,_,rfl,d,_,rfl,zev.k (k:=Sum.inl (x.b:Int)) hd,_,rfl,?_⟩⟩
  cases hf:Fa x.b with
  | none=>
   rw [f0 _ hf]
   refine zft (G.no ?_)
   unfold MU.zbh
   rw [hf]
   split<;>rfl
  | some fa=>
   obtain ⟨p,e1,e2⟩:=f1 _ _ hf
   rw [e1]
   refine zde ⟨_,rfl,rdT hw rfl ⟨_,rfl,rfl,_,rfl,?_⟩⟩
   rw [zku]
   by_cases c:x.a=x.b
   ·refine zep c (G.no ?_)
    unfold MU.zbh
    rw [if_neg fun z=>z.2 c]
   ·refine zct c ?_
    have hg:MU.zbh Fa x=some ⟨false,x.a,x.b,fa.2.2-x.v⟩:=by
     unfold MU.zbh
     rw [if_pos ⟨ht,c⟩,hf]
     rfl
    refine ⟨_,rfl,rdT hw rfl ⟨_,rfl,_,rfl,_,rfl,d,_,rfl,e1▸zev.k (k:=Sum.inl (x.b:Int)) hd,?_⟩⟩
    refine rdT e2 rfl ⟨_,rfl,rdT hw rfl ⟨_,_,rfl,rfl,szl rfl,fun r hr'=>G.yes hg hr'⟩⟩
theorem zwc:zam ["falls","tie","end"] ["falls","tie"] (zae sP_by_soon):=scm
theorem ok_soon {f:Addr} {fd:FuncData} (F:Fn K mg "by_soon" sP_by_soon ["falls","tie"] f fd):za3 P w K mg base CX0 1 f fd ["falls","tie"] zs2:=by
 refine F.F.ok zwc (fun _ _ _ _ h=>?_) fun _ A _ s H _ Q E hr h=>?_
 ·obtain ⟨_,_,_,_,rfl,_⟩:=h
  rfl
 ·obtain ⟨d,q,Fa,x,rfl,FA,hw,ht,G⟩:=h
  have hu:=zei hr
  refine ⟨_,zah (za9 2 zwc.nd (ixT (pv 1)))
   (zah (zbn (PW.pt (zii (zg5 (ze0 hu (pv 2) (pv 0)) (by with_unfolding_all rfl)) (zii (zcy zcf (ixT (pv 1)) (pv 2)) (zg3 (zcy zuy (ixT (pv 1)) zaj))))) (zad (zaq zca)) zap)
   (zad (zaq (zbf (pa4 zbd (ixT (zcd hu (pv 0) (pv 2) (fun _ _=>rfl))) (ixT (pv 1)) (zba zb8 (ixT (zcd hu (pv 0) (pv 2) (fun _ _=>rfl))) (ixT (pv 1)))))))),?_⟩
  obtain ⟨kvs,hd,hl,f0,f1⟩:=FA.at_
  refine ⟨_,rfl,rdT hw rfl ⟨_,rfl,_,rfl,d,_,rfl,zev.k (k:=Sum.inl (x.a:Int)) hd,_,rfl,?_⟩⟩
  cases hf:Fa x.a with
  | none=>
   rw [f0 _ hf]
   refine zft (G.no ?_)
   unfold MU.zbq
   rw [hf]
   split<;>rfl
  | some fa=>
   obtain ⟨p,e1,e2⟩:=f1 _ _ hf
   rw [e1]
   refine zde ⟨_,rfl,rdT hw rfl ⟨_,rfl,rfl,_,rfl,?_⟩⟩
   rw [zku]
   by_cases c:x.b=x.a
   ·refine zep c (G.no ?_)
    unfold MU.zbq
    rw [if_neg fun z=>z.2.1 c.symm]
   ·refine zct c ⟨_,rfl,rdT hw rfl ⟨_,_,rfl,rfl,_,rfl,?_⟩⟩
    by_cases c2:x.v<0
    ·refine zct (by lia) ?_
     have hg:MU.zbq Fa x=some ⟨true,fa.1,x.b,fa.2.1+x.v⟩:=by
      unfold MU.zbq
      rw [if_pos ⟨ht,fun z=>c z.symm,c2⟩,hf]
      rfl
     refine ⟨_,rfl,_,rfl,d,_,rfl,e1▸zev.k (k:=Sum.inl (x.a:Int)) hd,?_⟩
     refine rdT e2 rfl ⟨_,rfl,rdT hw rfl ⟨_,rfl,_,rfl,d,_,rfl,e1▸zev.k (k:=Sum.inl (x.a:Int)) hd,?_⟩⟩
     refine rdT e2 rfl ⟨_,rfl,rdT hw rfl ⟨_,_,rfl,rfl,szl rfl,fun r hr'=>G.yes hg hr'⟩⟩
    ·refine zep (by lia) (G.no ?_)
     unfold MU.zbq
     rw [if_neg fun z=>c2 z.2.2]
theorem zwb:zam ["first","second"] ["first","second"] (zae sP_by_sum):=scm
theorem ok_sum {f:Addr} {fd:FuncData} (F:Fn K mg "by_sum" sP_by_sum ["first","second"] f fd):za3 P w K mg base CX0 1 f fd ["first","second"] zv7:=by
 refine F.F.ok zwb (fun _ _ _ _ h=>?_) fun _ A _ s H _ Q E hr h=>?_
 ·obtain ⟨_,_,_,_,rfl,_⟩:=h
  rfl
 ·obtain ⟨p,q,x,y,rfl,hx,hy,tx,ty,G⟩:=h
  refine ⟨_,zah (zbn (zcy zux (ixT (pv 0)) (ixT (pv 1))) (zad (zaq zca)) zap)
   (zad (zaq (zbf (pa4 zbd (ixT (pv 0)) (ixT (pv 1)) (zba zb8 (ixT (pv 0)) (ixT (pv 1))))))),?_⟩
  refine ⟨_,rfl,rdT hx rfl ⟨_,rfl,rdT hy rfl ⟨rfl,_,rfl,?_⟩⟩⟩
  rw [zku]
  by_cases c:x.b=y.a
  ·refine zk2 c ?_
   have hg:MU.za1 x y=some ⟨true,x.a,y.b,x.v+y.v⟩:=if_pos ⟨tx,ty,c⟩
   exact ⟨_,rfl,rdT hx rfl ⟨_,rfl,rdT hy rfl ⟨_,rfl,rdT hx rfl ⟨_,rfl,rdT hy rfl ⟨_,_,rfl,rfl,szl rfl,fun r hr'=>G.yes hg hr'⟩⟩⟩⟩⟩
  ·exact zww c (G.no (if_neg fun z=>c z.2.2))
theorem zp7 {a b:Int}:(if b<a then b else a)=min a b:=by
 rw [Int.min_def]
 by_cases c:b<a
 ·rw [if_pos c,if_neg (by lia)]
 ·rw [if_neg c,if_pos (by lia)]
theorem zpj:zam ["falls","wait","fall"] ["falls","wait"] (zae sP_by_sure):=scm
theorem ok_sure {f:Addr} {fd:FuncData} (F:Fn K mg "by_sure" sP_by_sure ["falls","wait"] f fd) (T:zy1 mg):za3 P w K mg base CX0 1 f fd ["falls","wait"] zs0:=by
 refine F.F.ok zpj (fun _ _ _ _ h=>?_) fun _ A _ s H _ Q E hr h=>?_
 ·obtain ⟨_,_,_,_,_,rfl,_⟩:=h
  rfl
 ·obtain ⟨d,q,Fa,x,fa,rfl,FA,hw,ht,hf,G⟩:=h
  have hu:=zei hr
  refine ⟨_,zah (za9 2 zpj.nd (zcd hu (pv 0) (ixT (pv 1)) (fun _ _=>rfl)))
   (zad (zaq (zbf (pa4 zbd (ixT (pv 1)) (ixT (pv 2)) (zn1 zim (zbs (ze7 rfl) (by rfl) T.min (by decide+kernel) (pa2 (ixT (pv 1)) (ixT (pv 2))))))))),?_⟩
  obtain ⟨kvs,hd,hl,f0,f1⟩:=FA.at_
  obtain ⟨p,e1,e2⟩:=f1 _ _ hf
  have hg:MU.zbg Fa x=some ⟨true,x.a,fa.1,-min x.v fa.2.1⟩:=by
   unfold MU.zbg
   rw [if_pos ht,hf]
   rfl
  refine ⟨_,rfl,_,rfl,rdT hw rfl ⟨d,_,rfl,e1▸zev.k (k:=Sum.inl (x.b:Int)) hd,?_⟩⟩
  refine ⟨_,rfl,rdT hw rfl ⟨_,rfl,rdT e2 rfl ⟨_,rfl,rdT hw rfl ⟨_,rfl,rdT e2 rfl ⟨_,_,rfl,_,rfl,szl rfl,fun r hr'=>?_⟩⟩⟩⟩⟩
  have:=G.yes hg hr'
  rw [zp7]
  exact this
theorem zpk:zam ["falls","wait","tie","end"] ["falls","wait","tie"] (zae sP_by_back):=scm
theorem ok_back {f:Addr} {fd:FuncData} (F:Fn K mg "by_back" sP_by_back ["falls","wait","tie"] f fd) (T:zy1 mg):za3 P w K mg base CX0 1 f fd ["falls","wait","tie"] zte:=by
 refine F.F.ok zpk (fun _ _ _ _ h=>?_) fun _ A _ s H _ Q E hr h=>?_
 ·obtain ⟨_,_,_,_,_,_,_,rfl,_⟩:=h
  rfl
 ·obtain ⟨d,p,q,Fa,x,y,fa,rfl,FA,hx,hy,tx,ty,hf,G⟩:=h
  have hu:=zei hr
  refine ⟨_,zah (za9 3 zpk.nd (ixT (pv 1)))
   (zah (zbn (PW.pt (zii (zcy zux (ixT (pv 2)) (ixT (pv 1))) (zg3 (zcy zcf (ixT (pv 2)) (pv 3))))) (zad (zaq zca)) zap)
   (zad (zaq (zbf (pa4 zbd (ixT (pv 2)) (pv 3) (zba zcm (zbs (ze7 rfl) (by rfl) T.min (by decide+kernel) (pa2 (ixT (pv 1)) (ixT (zcd hu (pv 0) (pv 3) (fun _ _=>rfl))))) (ixT (pv 2)))))))),?_⟩
  obtain ⟨kvs,hd,hl,f0,f1⟩:=FA.at_
  obtain ⟨pp,e1,e2⟩:=f1 _ _ hf
  refine ⟨_,rfl,rdT hx rfl ⟨_,rfl,rdT hy rfl ⟨_,rfl,rdT hx rfl ⟨rfl,_,rfl,?_⟩⟩⟩⟩
  rw [zku]
  by_cases c:y.b=x.a
  ·refine zk2 c ⟨_,rfl,rdT hy rfl ⟨_,rfl,rfl,_,rfl,?_⟩⟩
   rw [zku]
   by_cases c2:y.a=x.b
   ·exact zep c2 (G.no (if_neg fun z=>z.2.2.2 c2))
   ·refine zct c2 ?_
    have hg:MU.zau Fa x y=some ⟨false,y.a,x.b,min x.v fa.2.2-y.v⟩:=by
     unfold MU.zau
     rw [if_pos ⟨tx,ty,c,c2⟩,hf]
     rfl
    refine ⟨_,rfl,rdT hy rfl ⟨_,rfl,_,rfl,rdT hx rfl ⟨_,rfl,_,rfl,d,_,rfl,e1▸zev.k (k:=Sum.inl (x.b:Int)) hd,?_⟩⟩⟩
    refine rdT e2 rfl ⟨_,_,rfl,_,rfl,rdT hy rfl ⟨_,_,rfl,rfl,szl rfl,fun r hr'=>?_⟩⟩
    have:=G.yes hg hr'
    rw [zp7]
    exact this
  ·exact zww c (G.no (if_neg fun z=>c z.2.2.1))
theorem zje:zam ["falls","wait","end","other"] ["falls","wait"] (zae sP_by_cross):=scm
theorem ok_cross {f:Addr} {fd:FuncData} (F:Fn K mg "by_cross" sP_by_cross ["falls","wait"] f fd) (T:zy1 mg):za3 P w K mg base CX0 1 f fd ["falls","wait"] zpf:=by
 refine F.F.ok zje (fun _ _ _ _ h=>?_) fun _ A _ s H _ Q E hr h=>?_
 ·obtain ⟨_,_,_,_,_,rfl,_⟩:=h
  rfl
 ·obtain ⟨d,q,Fa,x,fa,rfl,FA,hw,ht,hf,G⟩:=h
  have hu:=zei hr
  refine ⟨_,zah (za9 2 zje.nd (ixT (pv 1)))
   (zah (zbn (PW.pt (zii (zg5 (ze0 hu (ixT (pv 1)) (pv 0)) (by with_unfolding_all rfl)) (zii (zcy zcf (ixT (pv 1)) (pv 2)) (zg3 (zcy zeu (ixT (pv 1)) zaj))))) (zad (zaq zca)) zap)
   (zah (za9 3 zje.nd (zcd hu (pv 0) (ixT (pv 1)) (fun _ _=>rfl)))
   (zad (zaq (zbf (pa4 zbd (ixT (pv 3)) (pv 2) (zba zcm (zbs (ze7 rfl) (by rfl) T.min (by decide+kernel) (pa2 (ixT (pv 1)) (ixT (zcd hu (pv 0) (pv 2) (fun _ _=>rfl))))) (ixT (pv 3))))))))),?_⟩
  obtain ⟨kvs,hd,hl,f0,f1⟩:=FA.at_
  obtain ⟨pp,e1,e2⟩:=f1 _ _ hf
  refine ⟨_,rfl,rdT hw rfl ⟨_,rfl,rdT hw rfl ⟨_,rfl,d,_,rfl,zev.k (k:=Sum.inl (x.a:Int)) hd,_,rfl,?_⟩⟩⟩
  cases ho:Fa x.a with
  | none=>
   rw [f0 _ ho]
   refine zft (G.no ?_)
   unfold MU.zay
   rw [ho]
   split<;>rfl
  | some oa=>
   obtain ⟨po,o1,o2⟩:=f1 _ _ ho
   rw [o1]
   refine zde ⟨_,rfl,rdT hw rfl ⟨_,rfl,rfl,_,rfl,?_⟩⟩
   rw [zku]
   by_cases c:x.a=x.b
   ·refine zep c (G.no ?_)
    unfold MU.zay
    rw [if_neg fun z=>z.2.1 c]
   ·refine zct c ⟨_,rfl,rdT hw rfl ⟨_,_,rfl,rfl,_,rfl,?_⟩⟩
    by_cases c2:0<x.v
    ·refine zct (by lia) ?_
     have hg:MU.zay Fa x=some ⟨false,oa.1,x.b,min x.v fa.2.2-oa.2.1⟩:=by
      unfold MU.zay
      rw [if_pos ⟨ht,c,c2⟩,ho,hf]
      rfl
     refine ⟨_,rfl,_,rfl,rdT hw rfl ⟨d,_,rfl,o1▸zev.k (k:=Sum.inl (x.a:Int)) hd,?_⟩⟩
     refine ⟨_,rfl,rdT o2 rfl ⟨_,rfl,_,rfl,rdT hw rfl ⟨_,rfl,_,rfl,d,_,rfl,e1▸zev.k (k:=Sum.inl (x.b:Int)) hd,?_⟩⟩⟩
     refine rdT e2 rfl ⟨_,_,rfl,_,rfl,rdT o2 rfl ⟨_,_,rfl,rfl,szl rfl,fun r hr'=>?_⟩⟩
     have:=G.yes hg hr'
     rw [zp7]
     exact this
    ·refine zep (by lia) (G.no ?_)
     unfold MU.zay
     rw [if_neg fun z=>c2 z.2.2]
theorem zwh:zam ["what"] ["what"] (zae sP_bars_every_hand):=scm
theorem zhq {t:Bool}:decide (V.str (zfz t)=V.str "tie")=t:=by
 cases t
 ·exact ZB9 fun q=>absurd (V.str.inj q) (by decide+kernel)
 ·exact ZB8 rfl
theorem ok_bars {f:Addr} {fd:FuncData} (F:Fn K mg "bars_every_hand" sP_bars_every_hand ["what"] f fd):za3 P w K mg base CX0 1 f fd ["what"] ztd:=by
 refine F.F.ok zwh (fun _ _ _ _ h=>?_) fun _ A _ s H _ Q E hr h=>?_
 ·obtain ⟨_,_,rfl,_⟩:=h
  rfl
 ·obtain ⟨q,x,rfl,hw,k⟩:=h
  refine ⟨_,zad (zaq (zg7 (zlw zcf (ixT (pv 0)) zbd) (zg7 (zlw zcf (ixT (pv 0)) (ixT (pv 0))) (zg6 (zlw zij (ixT (pv 0)) zaj))))),?_⟩
  have eb:∀b:Bool,b=decide (MU.zih x)->Q (.bl b) H:=fun b e=>by rw [e];exact k
  refine ⟨_,rfl,rdT hw rfl ⟨rfl,_,rfl,?_⟩⟩
  rw [zhq]
  cases ht:x.tie with
  | false=>exact zde (eb _ (ZB9 fun z=>by have:=z.1;rw [ht] at this;cases this).symm)
  | true=>
   refine zft ⟨_,rfl,rdT hw rfl ⟨_,rfl,rdT hw rfl ⟨rfl,_,rfl,?_⟩⟩⟩
   rw [zku]
   by_cases c:x.a=x.b
   ·refine zep c ⟨_,rfl,rdT hw rfl ⟨_,_,rfl,rfl,eb _ ?_⟩⟩
    exact decide_eq_decide.mpr ⟨fun z=>⟨ht,c,z⟩,fun z=>z.2.2⟩
   ·exact zct c (eb _ (ZB9 fun z=>c z.2.1).symm)
def zto:List Int->Option (Nat×Int×Int)
 | [a,_,l,m]=>some (a.toNat,l,m)
 | _=>none
def zak (F:List (List Int)):MU.zaz:=fun e=>(F.find? fun r=>decide (r[1]?=some (e:Int))).bind zto
theorem zk9 {F:List (List Int)} {e:Nat} (h:∀r∈F,r[1]?≠some (e:Int)):zak F e=none:=by
 unfold zak
 have:(F.find? fun r=>decide (r[1]?=some (e:Int)))=none:=List.find?_eq_none.mpr fun r hr=>by simpa using h r hr
 rw [this]
 rfl
theorem zb4.find {n la:Int} {T F:List (List Int)} (h:zb4 n la T F) {e:Nat} {f:Nat×Int×Int} (hf:zak F e=some f):∃a l m:Int,[a,(e:Int),l,m]∈F/\f=(a.toNat,l,m)/\0<=a/\a<n/\0<(e:Int)/\(e:Int)<n/\a≠(e:Int)/\1<=l/\l<=m/\m<=60:=by
 unfold zak at hf
 cases q:F.find? fun r=>decide (r[1]?=some (e:Int)) with
 | none=>rw [q] at hf;cases hf
 | some r=>
  rw [q] at hf
  have hf:zto r=some f:=hf
  have hm:=List.mem_of_find?_eq_some q
  have hp:=List.find?_some q
  obtain ⟨a,b,l,m,rfl,x1,x2,x3,x4,x5,x6,x7,x8⟩:=h.f r hm
  have hb:some b=some (e:Int):=of_decide_eq_true hp
  cases hb
  cases hf
  exact ⟨a,l,m,hm,rfl,x1,x2,x3,x4,x5,x6,x7,x8⟩
theorem zb4.falls {n la:Int} {T F:List (List Int)} (h:zb4 n la T F) {a l m:Int} {e:Nat} (hm:[a,(e:Int),l,m]∈F):zak F e=some (a.toNat,l,m):=by
 obtain ⟨i,hi⟩:=ZAm.mp hm
 unfold zak
 cases q:F.find? fun r=>decide (r[1]?=some (e:Int)) with
 | none=>
  have:=List.find?_eq_none.mp q _ hm
  simp at this
 | some r=>
  have hm':=List.mem_of_find?_eq_some q
  obtain ⟨j,hj⟩:=ZAm.mp hm'
  have hp:r[1]?=some (e:Int):=of_decide_eq_true (List.find?_some (p:=fun r=>decide (r[1]?=some (e:Int))) q)
  have ij:=h.one i j _ _ hi hj (by rw [hp];rfl)
  subst ij
  rw [hi] at hj
  cases hj
  rfl
theorem zb4.fok {n:Nat} {la:Int} {T F:List (List Int)} (h:zb4 (n:Int) la T F):MU.FOk n (zak F) ((60:Nat):Int):=by
 refine ⟨fun e f hf=>?_,fun e f hf=>?_,fun e f hf=>?_⟩
 ·obtain ⟨a,l,m,hm,rfl,x1,x2,x3,x4,_⟩:=h.find hf
  exact ⟨by show a.toNat<n;lia,by lia⟩
 ·obtain ⟨a,l,m,hm,rfl,x1,x2,x3,x4,_⟩:=h.find hf
  refine zk9 fun r hr=>?_
  have:=h.own _ hm r hr
  show r[1]?≠some ((a.toNat:Nat):Int)
  rw [show ((a.toNat:Nat):Int)=a by lia]
  exact fun z=>this z.symm
 ·obtain ⟨a,l,m,hm,rfl,x1,x2,x3,x4,x5,x6,x7,x8⟩:=h.find hf
  exact ⟨x6,x7,x8⟩
theorem zr5 {kvs:List (Key×V)} {k:Key} {v:V} {kv:Key×V} (h:kv∈zet kvs k v):kv.1=k\/∃kv0∈kvs,kv.1=kv0.1:=by
 unfold zet at h
 split at h
 ·obtain ⟨kv0,h0,rfl⟩:=ZBr.mp h
  refine .inr ⟨kv0,h0,?_⟩
  split<;>rfl
 ·rcases ZBo.mp h with h | h
  ·exact .inr ⟨kv,h,rfl⟩
  ·rw [ZBd.mp h];exact .inl rfl
def zlt (C:Addr):Sp:=fun vs H Q _=>∃p n la T F,vs=[.ref p]/\ze8 C H p n la T F/\zb4 n la T F/\∀d H',H d=none->zbe H H'->zcx H' d (zak F)->Q (.ref d) H'
abbrev nBe:List Str:=["web","found","one","other","least","most"]
theorem zvp:zam nBe ["web"] (zae sP_falls_by_end):=scm
theorem ok_byEnd {f C fF:Addr} {fd fdF:FuncData} (F:Fn K mg "falls_by_end" sP_falls_by_end ["web"] f fd) (TC:zom K mg C) (mF:zf4 K C "falls" fF) (bF:zb5 K fdF ["self"] []) (GF:za3 P w K mg base CX0 1 fF fdF ["self"] (zpd C fun _ F=>F)):
 za3 P w K mg base CX0 2 f fd ["web"] (zlt C):=by
 refine F.F.ok zvp (fun _ _ _ _ h=>?_) fun _ A _ s H _ Q E hr h=>?_
 ·obtain ⟨_,_,_,_,_,rfl,_⟩:=h
  rfl
 ·obtain ⟨p,n,la,rT,rF,rfl,W0,hok,k⟩:=h
  have hu:=zei hr
  refine ⟨_,zac (za9 1 zvp.nd zm2)
   (zac (zb7 PassesOwn.never rfl (za4 (zdz (pv 0) TC.cl mF GF hr bF .nil zb3))
    (ziz rfl (zaw (zci 2 zvp.nd) (zaw (zci 3 zvp.nd) (zaw (zci 4 zvp.nd) (zaw (zci 5 zvp.nd) zef)))))
    (zad (zjl hu (pv 1) (pv 3) (zbf (pa3 (pv 2) (pv 4) (pv 5))) rfl)))
   (zad (zaq (pv 1)))),?_⟩
  refine fun N1 c1 d hd=>c1 _ _ ?_
  have s1:=zag (o:=.dK []) hd
  have e1:upd H d (.dK []) d=some (.dK []):=zab
  generalize upd H d (.dK [])=H1 at*
  obtain ⟨dx,ta,fa,ep,_,_⟩:=id W0
  have nf:(zgr n la ta fa).lookup ("falls":Str)=none:=zxc _ _ _ _ (by decide+kernel) (by decide+kernel) (by decide+kernel) (by decide+kernel)
  refine fun N2 c2=>⟨_,rfl,p,dx,_,rfl,s1 _ _ ep,nf,p,n,la,rT,rF,rfl,W0.same s1,fun l H2 hl s2 R2=>?_⟩
  obtain ⟨qs,R⟩:=R2
  have R:zc7 H2 l qs rF:=R
  refine ⟨l,rfl,⟨_,SqL.of R.1⟩,?_⟩
  have fl:=hok.fl
  have hdd:H2 d=some (.dK []):=s2 _ _ e1
  have hdH:H d=none:=hd
  refine zbu (K:=K) (a:=l) (xs:=qs.map V.ref) (fun i σ' H'=>∃v1 v2 v3 v4 kvs,σ'=[some (.ref p),some (.ref d),v1,v2,v3,v4]/\H' d=some (.dK kvs)/\(kvs.length<=i/\∀kv∈kvs,∃e:Nat,kv.1=Sum.inl (e:Int))/\(∀e:Nat,(∀r∈rF.take i,r[1]?≠some (e:Int))->zel kvs (.inl (e:Int))=none)/\
   (∀a b le mo:Int,[a,b,le,mo]∈rF.take i->∃q,zel kvs (.inl b)=some (.ref q)/\H' q=some (.tup [.int a,.int le,.int mo]))/\∀b o,H2 b=some o->b≠d->H' b=some o)
   ⟨none,none,none,none,[],rfl,hdd,⟨ZAw _,fun kv h=>nomatch h⟩,(fun e _=>rfl),(fun a b le mo h=>by simp at h),fun b o e _=>e⟩ ?_ ?_ ?_
  ·rintro i σ' H3 _ ⟨v1,v2,v3,v4,kvs,rfl,_,_,_,_,kp⟩
   exact SqL.of (kp _ _ R.1 (zao R.1 hdd nofun))
  ·rintro i x σ' H3 hx ⟨v1,v2,v3,v4,kvs,rfl,ed,⟨hlen,hkey⟩,h0,h1,kp⟩
   obtain ⟨q,r,rfl,hq,hr',hqt⟩:=R.get hx
   obtain ⟨a',b',le,mo,rfl,x1,x2,x3,x4,_⟩:=hok.f r (ZA1 hr')
   have hi:i<rF.length:=(ZAv.mp hr').1
   refine ⟨q,_,rfl,SqT.of (kp _ _ hqt (zao hqt hdd nofun)),rfl,_,_,rfl,_,_,rfl,_,_,rfl,_,_,rfl,rfl,?_⟩
   refine ⟨_,rfl,_,rfl,_,rfl,szl rfl,fun t ht=>?_⟩
   have td:t≠d:=ZAl (zaa ed ht)
   refine ⟨_,rfl,_,rfl,d,_,rfl,zre.k (k:=Sum.inl b') (by rw [zaf (ZAl td)];exact ed) (zan (by lia)),?_⟩
   have tk:rF.take (i+1)=rF.take i++[[a',b',le,mo]]:=by rw [ZBu,hr'];rfl
   refine ⟨_,_,_,_,_,rfl,zab,⟨ZBg (zdb _ _ _) (by lia),fun kv hkv=>?_⟩,fun e he=>?_,fun a b l2 m2 hm=>?_,fun b o e ne=>?_⟩
   ·rcases zr5 hkv with z | ⟨kv0,z0,z⟩
    ·exact ⟨b'.toNat,by rw [z,ZAg (by lia)]⟩
    ·rw [z];exact hkey kv0 z0
   ·rw [tk] at he
    have hne:b'≠(e:Int):=fun z=>he [a',b',le,mo] (ZBn _ ZA5) (by rw [<-z];rfl)
    rw [zf6,if_neg (fun z=>hne (Sum.inl.inj z).symm)]
    exact h0 e fun r hr=>he r (ZAb _ hr)
   ·rw [tk] at hm
    rcases ZBo.mp hm with hm | hm
    ·have hbb:b≠b':=fun z=>by
      obtain ⟨j,hj⟩:=ZAm.mp hm
      have hjl:j<i:=by
       have:=(ZAv.mp hj).1
       rw [ZBl] at this
       lia
      have hj':rF[j]?=some [a,b,l2,m2]:=by
       rw [List.getElem?_take] at hj
       rw [if_pos hjl] at hj
       exact hj
      have:=hok.one j i _ _ hj' hr' (by rw [z];rfl)
      lia
     obtain ⟨q',hq1,hq2⟩:=h1 a b l2 m2 hm
     refine ⟨q',by rw [zf6,if_neg (fun z=>hbb (Sum.inl.inj z))];exact hq1,?_⟩
     rw [zaf (zao hq2 ed nofun),zaf (zaa hq2 ht)]
     exact hq2
    ·have hm:=ZBd.mp hm
     cases hm
     refine ⟨t,by rw [zf6,if_pos rfl],?_⟩
     rw [zaf td,zab]
   ·rw [zaf ne,zaf (zaa (kp _ _ e ne) ht)]
    exact kp _ _ e ne
  ·rintro σ' H3 ⟨v1,v2,v3,v4,kvs,rfl,ed,hlen,h0,h1,kp⟩
   have hle:rF.take (qs.map V.ref).length=rF:=by rw [ZAu,R.len];exact ZBi
   rw [hle] at h0 h1
   rw [ZAu,R.len] at hlen
   refine c2 _ _ ⟨_,rfl,k d H3 hd (fun b o e=>kp _ _ (s2 _ _ (s1 _ _ e)) (zaa e hdH)) ⟨kvs,ed,by lia,fun e he=>h0 e fun r hr z=>?_,fun e f hf=>?_⟩⟩
   ·obtain ⟨a',b',le,mo,rfl,_⟩:=hok.f r hr
    have z:some b'=some (e:Int):=z
    cases z
    rw [hok.falls hr] at he
    cases he
   ·obtain ⟨a,l',m',hm,rfl,x1,_⟩:=hok.find hf
    obtain ⟨q,hq1,hq2⟩:=h1 _ _ _ _ hm
    refine ⟨q,hq1,?_⟩
    rw [hq2]
    show some (HO.tup [.int a,.int l',.int m'])=some (HO.tup [.int ((a.toNat:Nat):Int),.int l',.int m'])
    rw [show ((a.toNat:Nat):Int)=a by lia]
end Y0
namespace L2
open PySem PySem.Spec PyProof.Rows
def zer:List Value->List Str->Bool
 | [],[]=>true
 | .str x _::vs,s::ss=>decide (x=s) && zer vs ss
 | _,_=>false
theorem ziq:∀{vs:List Value} {ss:List Str},zer vs ss=true->zcc (ss.map V.str) vs
 | [],[],_=>.nil
 | .str x t::vs,s::ss,h=>by
  have h:(decide (x=s) && zer vs ss)=true:=h
  rw [Bool.and_eq_true,ZBy] at h
  obtain ⟨e,h2⟩:=h
  subst e
  exact .cons ⟨t,rfl⟩ (ziq h2)
 | [],_::_,h=>by cases h
 | .none::_,_,h=>by simp [zer] at h
 | .bool _::_,_,h=>by simp [zer] at h
 | .int _ _::_,_,h=>by simp [zer] at h
 | .float _ _::_,_,h=>by simp [zer] at h
 | .str _ _::_,[],h=>by simp [zer] at h
 | .bytes _ _::_,_,h=>by simp [zer] at h
 | .ref _::_,_,h=>by simp [zer] at h
 | .builtin _::_,_,h=>by simp [zer] at h
 | .type _::_,_,h=>by simp [zer] at h
 | .ellipsis::_,_,h=>by simp [zer] at h
 | .notImplemented::_,_,h=>by simp [zer] at h
def zox (K:ZCa) (ss:List Str):Value->Bool
 | .ref b=>match K.lookup b with
  | some o=>(o.cls==.type "tuple") && (match o.data with
   | .seq its _=>decide (its.size<=sizeLine) && zer its.toList ss
   | _=>false)
  | none=>false
 | _=>false
theorem zin {K:ZCa} {ss:List Str} {v:Value} (h:zox K ss v=true):∃b,v=.ref b/\∀H,SqT K H b (ss.map V.str):=by
 cases v with
 | ref b=>
  refine ⟨b,rfl,fun H=>.inr ?_⟩
  have h:(match K.lookup b with
   | some o=>(o.cls==.type "tuple") && (match o.data with
    | .seq its _=>decide (its.size<=sizeLine) && zer its.toList ss
    | _=>false)
   | none=>false)=true:=h
  cases q:K.lookup b with
  | none=>rw [q] at h;cases h
  | some o=>
   rw [q] at h
   have h:((o.cls==.type "tuple") && (match o.data with
    | .seq its _=>decide (its.size<=sizeLine) && zer its.toList ss
    | _=>false))=true:=h
   rw [Bool.and_eq_true] at h
   obtain ⟨h1,h2⟩:=h
   cases d:o.data with
   | seq its n=>
    rw [d] at h2
    have h2:(decide (its.size<=sizeLine) && zer its.toList ss)=true:=h2
    rw [Bool.and_eq_true,ZBy] at h2
    exact ⟨o,its,n,rfl,beq_iff_eq.mp h1,d,h2.1,ziq h2.2⟩
   | _=>rw [d] at h2;cases h2
 | _=>cases h
abbrev zy3 (K:ZCa) (a:Addr) (D:List (Str×List Str)):Prop:=KTD.tabLook (fun d v=>zox K d v) (fun b=>List.lookup b K) a D=true
section
variable {prog:Program} {w:World} {A:Around} {E:Value->Shared->Prop} {s:Shared} {a:Addr} {δ:Type} {R:δ->Value->Prop} {D:List (Str×δ)} {k:Str} {tk:Tok}
theorem zl8 {Q:Option Value->Shared->Prop} (T:KTD.TabOf R s.heap a D) (h1:∀d v,KTD.datumAt k D=some d->R d v->Q (some v) { s with toks:=s.toks+1 }) (h2:KTD.datumAt k D=none->Q none { s with toks:=s.toks+1 }):
 wpAny (model prog w) A (dictGet a (.str k tk)) Q E s:=by
 obtain ⟨_,o,es,ep,ho,hc,hd,hr⟩:=T
 unfold dictGet
 try with_reducible refine wpAny_holding ?_
 refine ZAp (wpAny_pyHash_str (ZAp (KTD.kt_dictFind_strs (s:={ s with toks:=s.toks+1 }) ho hd (by obtain ⟨l⟩:=es;simpa using hr.exact) ?_)))
 have hq:Q (findBy (fun k v=>v.isStr k) es k) { s with toks:=s.toks+1 }:=by
  have hf:findBy (fun k v=>v.isStr k) es k=(es.toList.find? fun e=>e.key.isStr k).map (·.val):=by
   obtain ⟨l⟩:=es
   simp [findBy]
  rw [hf]
  cases hat:KTD.datumAt k D with
  | some d=>obtain ⟨v,hv,hfl⟩:=hr.find_some hat;rw [hv];exact h1 d v hat hfl
  | none=>rw [hr.find_none hat];exact h2 hat
 rw [findBy_of_findIdx?] at hq
 cases hi:es.findIdx? fun e=>e.key.isStr k with
 | none=>rw [hi] at hq;exact ZAq hq
 | some i=>rw [hi] at hq;exact ZAp (wpAny_dictEntries (s:={ s with toks:=s.toks+1 }) ho hd (ZAq hq))
theorem zn2:MeetsIn prog w (Builtin.«dict.get» ⟨[.ref a,.str k tk],[]⟩) (fun _ R' s=>KTD.TabOf R s.heap a D/\(∀d v,KTD.datumAt k D=some d->R d v->R' (.ok (.ret v)) { s with toks:=s.toks+1 })/\(KTD.datumAt k D=none->R' (.ok (.ret .none)) { s with toks:=s.toks+1 })):=
 .of_wp fun A R' s ⟨T,h1,h2⟩=>by
  show wpAny _ _ (dictGet a (.str k tk)>>=_) _ _ s
  refine ZAp (zl8 T (fun d v ha hv=>ZAq ⟨v,rfl,h1 d v ha hv⟩) fun hn=>?_)
  show wpAny _ _ (Builtin.Dict.missed a (.str k tk)>>=_) _ _ _
  exact ZAp (wpAny_missed_other T.1 (ZAq ⟨.none,rfl,h2 hn⟩))
end
def zt4 (K:ZCa) (D:List (Str×List Str)) (td ty:TE):TE:=fun σ H Q=>td σ H fun x H1=>∃a,x=.ref a/\zy3 K a D/\ty σ H1 fun y H2=>∃z,y=.str z/\(∀ss,KTD.datumAt z D=some ss->∀b,(∀H',SqT K H' b (ss.map V.str))->Q (.ref b) H2)/\(KTD.datumAt z D=none->Q .non H2)
theorem zpy {X:Cx} {o e:Expr} {apos cpos:Pos} {td ty:TE} {D:List (Str×List Str)} (ho:PE X o td) (he:PE X e ty) (m:M1 X o "get" apos e cpos):PE X (.Call (.Attribute o "get" apos) [e] [] cpos) (zt4 X.K D td ty):=by
 intro pins s σ H Q I h
 refine wpAny_Call_method m.base m.few m.line PySem.F.plainAttrs_dict PySem.F.slot_dict_get PySem.F.type_dict_get (thn (ho pins s σ H _ I h) fun u s1 zz=>?_)
 obtain ⟨x,H1,I1,rx,a,ex,d,q1⟩:=zz
 subst ex
 obtain rfl:u=Value.ref a:=rx
 have T:KTD.TabOf (fun (ss:List Str) v=>∃b,v=Value.ref b/\∀H,SqT X.K H b (ss.map V.str)) s1.heap a D:=KTD.tab_of_look (fun d v z=>zin z) I1.kIn d
 obtain ⟨hsm,ob,es,ep,hob,hc,hdd,hrows⟩:=id T
 refine ⟨⟨ob,hob,hc.1⟩,fun b e=>?_,?_⟩
 ·injection e with e
  subst e
  exact ⟨ob,hob,hc.2.1⟩
 rw [m.trees]
 refine Calls.callWith_builtin rfl (Calls.evalArgs_plain (Calls.spliced_cons (thn (he pins s1 σ H1 _ I1 q1) fun iv s2 zz=>Calls.spliced_nil ?_)))
 obtain ⟨y,H2,I2,ry,z,ey,g1,g2⟩:=zz
 subst ey
 obtain ⟨t,rfl⟩:=ry
 have T2:KTD.TabOf (fun (ss:List Str) v=>∃b,v=Value.ref b/\∀H,SqT X.K H b (ss.map V.str)) s2.heap a D:=KTD.tab_of_look (fun d v z=>zin z) I2.kIn d
 refine call_meetsIn PySem.F.slot_dict_get (show s2.TypeIs (.ref a) "dict" from ?_) PySem.F.entry_dict_get (PySem.F.args_dict_get_2 _ _) (zn2 (D:=D)) ⟨T2,fun ss v ha hv=>?_,fun hn=>?_⟩
 ·obtain ⟨_,ob2,_,_,hob2,hc2,_⟩:=id T2
  exact ⟨ob2,hob2,hc2.1⟩
 ·obtain ⟨b,rfl,hb⟩:=hv
  exact ⟨.ref b,H2,I2.tok _,rfl,g1 ss ha b hb⟩
 ·exact ⟨.non,H2,I2.tok _,rfl,g2 hn⟩
section
variable {X:Cx} {K:ZCa}
end
section
variable {X:Cx} {K:ZCa}
end
def zoa (xs ys:List V):Bool:=((List.range (min xs.length ys.length)).all fun j=>eqV (xs.getD j .non) (ys.getD j .non)) && xs.length==ys.length
theorem zsl:∀{x:V},zdp x=true->eqV x x=true
 | .non,_=>rfl
 | .bl b,_=>(ZB7 b:(b==b)=true)
 | .int i,_=>(ZB7 i:(i==i)=true)
 | .str s,_=>(ZB7 s:(s==s)=true)
 | .byt _,h=>by cases h
 | .flt _,h=>by cases h
 | .ref _,h=>by cases h
 | .ty _,h=>by cases h
theorem zi3 {xs:List V} (f:xs.all zdp=true):zoa xs xs=true:=by
 unfold zoa
 rw [ZB7,Bool.and_true,ZBw]
 intro j hj
 have hj:=List.mem_range.mp hj
 rw [Nat.min_self] at hj
 have g:xs[j]?=some (xs.getD j .non):=by rw [ZB0,ZAx hj];rfl
 exact zsl (zgi f g)
section
variable {X:Cx}
end
def ziy:V->Bool
 | .int _=>true
 | .str _=>true
 | _=>false
theorem znz:∀{xs:List V},xs.all ziy=true->xs.all zdp=true:=fun {xs} h=>ZBw.mpr fun x hx=>by
 have:=ZBw.mp h x hx
 cases x<;>first | rfl | cases this
theorem zvb {x y:V} (h:ziy x=true) (h':ziy y=true):eqV x y=true↔x=y:=by
 cases x with
 | int i=>cases y with
  | int j=>show (i==j)=true↔_;rw [beq_iff_eq,V.int.injEq]
  | str s=>exact ⟨nofun,nofun⟩
  | _=>cases h'
 | str s=>cases y with
  | int j=>exact ⟨nofun,nofun⟩
  | str s'=>show (s==s')=true↔_;rw [beq_iff_eq,V.str.injEq]
  | _=>cases h'
 | _=>cases h
theorem zqp {xs ys:List V} (h:xs.all ziy=true) (h':ys.all ziy=true):zoa xs ys=true↔xs=ys:=by
 refine ⟨fun e=>?_,fun e=>by rw [e];exact zi3 (znz h')⟩
 unfold zoa at e
 rw [Bool.and_eq_true,ZBw,beq_iff_eq] at e
 obtain ⟨e1,e2⟩:=e
 refine List.ext_getElem e2 fun i h1 h2=>?_
 have:=e1 i (List.mem_range.mpr (by omega))
 rw [ZB0,ZB0,ZAx h1,ZAx h2] at this
 exact (zvb (ZBw.mp h _ (ZB3 h1)) (ZBw.mp h' _ (ZB3 h2))).mp this
section
variable {X:Cx} {K:ZCa}
def zx7 (K:ZCa):R2:=fun x y H Q=>∃p q xs ys,x=.ref p/\y=.ref q/\SqT K H p xs/\SqT K H q ys/\xs.all zdp=true/\ys.all zdp=true/\Q (.bl (!zoa xs ys)) H
theorem zuv (hK:X.K=K) (hu:X.A.units+64<cLine):OpR X (compareOp .NotEq) (zx7 K):=by
 subst hK
 intro pins s σ H x y v u Q I rx ry h
 obtain ⟨p,q,xs,ys,rfl,rfl,h1,h2,f1,f2,hq⟩:=h
 cases rx
 cases ry
 obtain ⟨us,r1,p1,_⟩:=I.tuple h1
 obtain ⟨vs,r2,p2,_⟩:=I.tuple h2
 have l1:=r1.length
 have l2:=r2.length
 refine SeqAt.RcNeAt.tuples p1 p2 (by omega) (zqq r1 r2 f1 f2) _ _ _ _ ⟨.bl _,H,I,rfl,?_⟩
 rw [ZA2,ZA2,<-l1,<-l2]
 exact hq
end
open PySem
theorem zsk:∀{x:V},zdp x=true->eqV x x=true
 | .non,_=>rfl
 | .bl b,_=>(ZB7 b:(b==b)=true)
 | .int i,_=>(ZB7 i:(i==i)=true)
 | .str s,_=>(ZB7 s:(s==s)=true)
 | .byt _,h=>by cases h
 | .flt _,h=>by cases h
 | .ref _,h=>by cases h
 | .ty _,h=>by cases h
theorem zoh {xs:List V} (h:xs.all zdp=true):zsr xs xs=true:=by
 unfold zsr
 rw [ZBw]
 intro j hj
 have hj:=List.mem_range.mp hj
 refine zsk (zgi h (j:=j) ?_)
 rw [ZB0,ZAx hj]
 rfl
theorem zgh:∀{ss:List Str},(ss.map V.str).all zdp=true
 | []=>rfl
 | s::r=>by
  rw [ZBf,List.all_cons,zgh (ss:=r)]
  rfl
end L2
namespace Y0
open PySem L2
seal L2.PE L2.PA L2.PT L2.PS L2.PSs L2.PG L2.PGs L2.PI L2.PO
abbrev znt:List (Str×List Str):=[("sum",["tie","tie"]),("late",["tie"]),("soon",["tie"]),("sure",["wait"]),("back",["wait","tie"]),("cross",["wait"])]
structure TxtU (K:ZCa) (mg:Str->Option Value):Prop where
 at_:∃u,mg "USED_KINDS"=some (.ref u)/\zy3 K u znt
 tuple:mg "tuple"=none
def zc9 (xs:List MU.zas):List Str:=xs.map fun x=>zfz x.tie
inductive zhg (F:MU.zaz):Str->List MU.zas->Option MU.zas->Prop
 | sum (x y:MU.zas) (hx:x.tie=true) (hy:y.tie=true):zhg F "sum" [x,y] (MU.za1 x y)
 | late (x:MU.zas) (hx:x.tie=true):zhg F "late" [x] (MU.zbh F x)
 | soon (x:MU.zas) (hx:x.tie=true):zhg F "soon" [x] (MU.zbq F x)
 | sure (x:MU.zas) (fa:Nat×Int×Int) (hx:x.tie=false) (hf:F x.b=some fa):zhg F "sure" [x] (MU.zbg F x)
 | back (x y:MU.zas) (fa:Nat×Int×Int) (hx:x.tie=false) (hy:y.tie=true) (hf:F x.b=some fa):zhg F "back" [x,y] (MU.zau F x y)
 | cross (x:MU.zas) (fa:Nat×Int×Int) (hx:x.tie=false) (hf:F x.b=some fa):zhg F "cross" [x] (MU.zay F x)
theorem zhg.kinds {F:MU.zaz} {word:Str} {xs:List MU.zas} {o:Option MU.zas} (h:zhg F word xs o):PyProof.Rows.KTD.datumAt word znt=some (zc9 xs)/\xs.length<=2:=by
 cases h with
 | sum x y hx hy=>refine ⟨?_,ZAw _⟩;unfold zc9;rw [ZBf,ZBf,List.map_nil,hx,hy];decide+kernel
 | late x hx=>refine ⟨?_,ZAe 1⟩;unfold zc9;rw [ZBf,List.map_nil,hx];decide+kernel
 | soon x hx=>refine ⟨?_,ZAe 1⟩;unfold zc9;rw [ZBf,List.map_nil,hx];decide+kernel
 | sure x fa hx hf=>refine ⟨?_,ZAe 1⟩;unfold zc9;rw [ZBf,List.map_nil,hx];decide+kernel
 | back x y fa hx hy hf=>refine ⟨?_,ZAw _⟩;unfold zc9;rw [ZBf,ZBf,List.map_nil,hx,hy];decide+kernel
 | cross x fa hx hf=>refine ⟨?_,ZAe 1⟩;unfold zc9;rw [ZBf,List.map_nil,hx];decide+kernel
def zvf (H:Hp) (l:Addr) (ps:List Addr) (xs:List MU.zas):Prop:=H l=some (.lst (ps.map V.ref))/\Paired (zcb H) ps xs
def Mis (word:Str) (xs:List MU.zas):Prop:=xs.length<=2/\∃ks,PyProof.Rows.KTD.datumAt word znt=some ks/\ks≠zc9 xs
def zkl:Sp:=fun vs H Q _=>∃d word ul ps F xs o,vs=[.ref d,.str word,.ref ul]/\zcx H d F/\zvf H ul ps xs/\(zhg F word xs o\/o=none/\Mis word xs)/\zgq H Q o
theorem zmn:∀{xs ys:List Str},xs.map V.str=ys.map V.str->xs=ys
 | [],[],_=>rfl
 | x::xs,y::ys,h=>by
  rw [ZBf,ZBf,List.cons.injEq,V.str.injEq] at h
  rw [h.1,zmn h.2]
 | [],_::_,h=>by cases h
 | _::_,[],h=>by cases h
theorem zix {ss:List Str}:(ss.map V.str).all ziy=true:=by rw [List.all_map];exact ZBw.mpr fun _ _=>rfl
theorem zgq.same {H H1:Hp} {Q:VK} {o:Option MU.zas} (g:zgq H Q o) (s:zbe H H1):zgq H1 Q o:=⟨fun e H' s'=>g.1 e H' (s.trans s'),fun x e r H' hr s' h=>g.2 x e r H' (s.free hr) (s.trans s') h⟩
theorem zz2:zam ["falls","word","used"] ["falls","word","used"] (zae sP_what_follows):=scm
theorem zA9:zbw (zae sP_what_follows) ["falls","word","used"] (fsc [(".0",.local),("what",.local)]) ["what"] [none]:=com
theorem zAw:(["what"]:List Str).Nodup:=by decide+kernel
theorem ok_follows {f f1 f2 f3 f4 f5 f6:Addr} {fd d1 d2 d3 d4 d5 d6:FuncData} (F:Fn K mg "what_follows" sP_what_follows ["falls","word","used"] f fd) (T:TxtU K mg)
 (F1:Fn K mg "by_sum" sP_by_sum ["first","second"] f1 d1) (G1:za3 P w K mg base CX0 1 f1 d1 ["first","second"] zv7)
 (F2:Fn K mg "by_late" sP_by_late ["falls","tie"] f2 d2) (G2:za3 P w K mg base CX0 1 f2 d2 ["falls","tie"] zs9)
 (F3:Fn K mg "by_soon" sP_by_soon ["falls","tie"] f3 d3) (G3:za3 P w K mg base CX0 1 f3 d3 ["falls","tie"] zs2)
 (F4:Fn K mg "by_sure" sP_by_sure ["falls","wait"] f4 d4) (G4:za3 P w K mg base CX0 1 f4 d4 ["falls","wait"] zs0)
 (F5:Fn K mg "by_back" sP_by_back ["falls","wait","tie"] f5 d5) (G5:za3 P w K mg base CX0 1 f5 d5 ["falls","wait","tie"] zte)
 (F6:Fn K mg "by_cross" sP_by_cross ["falls","wait"] f6 d6) (G6:za3 P w K mg base CX0 1 f6 d6 ["falls","wait"] zpf):
 za3 P w K mg base CX0 2 f fd ["falls","word","used"] zkl:=by
 obtain ⟨u,mU,tabU⟩:=T.at_
 refine F.F.ok zz2 (fun _ _ _ _ h=>?_) fun _ A _ s H _ Q E hr h=>?_
 ·obtain ⟨_,_,_,_,_,_,_,rfl,_⟩:=h
  rfl
 ·obtain ⟨d,word,ul,ps,Fa,xs,o,rfl,FA,⟨hul,hpx⟩,ask,G⟩:=h
  refine ⟨_,zac (zbn (zcy (zuv (K:=K) rfl hr.units) (zdt zgl (by rfl) T.tuple (by decide+kernel) (pa1 (zcv rfl (za4 (pv 2)) zA9 (fun cl ex s0 H0=>⟨zci 0 zAw,zdn,ixT (pv 0)⟩))))
   (zpy (D:=znt) (zgv (v:=.ref u) rfl mU rfl) (pv 1) ⟨rfl,rfl,rfl,rfl⟩)) (zad (zaq zca)) zap)
   (zac (zbn (zcy zcf (pv 1) zbd) (zad (zaq (pcl G1 hr F1 (pa2 (zbj zal (pv 2) zaj (fun _ _=>rfl)) (zbj zal (pv 2) zaj (fun _ _=>rfl)))))) zap)
   (zac (zbn (zcy zcf (pv 1) zbd) (zad (zaq (pcl G2 hr F2 (pa2 (pv 0) (zbj zal (pv 2) zaj (fun _ _=>rfl)))))) zap)
   (zac (zbn (zcy zcf (pv 1) zbd) (zad (zaq (pcl G3 hr F3 (pa2 (pv 0) (zbj zal (pv 2) zaj (fun _ _=>rfl)))))) zap)
   (zac (zbn (zcy zcf (pv 1) zbd) (zad (zaq (pcl G4 hr F4 (pa2 (pv 0) (zbj zal (pv 2) zaj (fun _ _=>rfl)))))) zap)
   (zac (zbn (zcy zcf (pv 1) zbd) (zad (zaq (pcl G5 hr F5 (pa3 (pv 0) (zbj zal (pv 2) zaj (fun _ _=>rfl)) (zbj zal (pv 2) zaj (fun _ _=>rfl)))))) zap)
   (zad (zaq (pcl G6 hr F6 (pa2 (pv 0) (zbj zal (pv 2) zaj (fun _ _=>rfl))))))))))),?_⟩
  obtain ⟨ks,hk,hl2,ask⟩:∃ks,PyProof.Rows.KTD.datumAt word znt=some ks/\xs.length<=2/\(ks=zc9 xs/\zhg Fa word xs o\/ks≠zc9 xs/\o=none):=by
   rcases ask with a | ⟨rfl,h1,ks,h2,h3⟩
   ·exact ⟨_,a.kinds.1,a.kinds.2,.inl ⟨rfl,a⟩⟩
   ·exact ⟨ks,h2,h1,.inr ⟨h3,rfl⟩⟩
  have hlen:ps.length=xs.length:=Paired.length hpx
  refine fun N1 c1=>⟨_,rfl,ul,rfl,⟨_,SqL.of hul⟩,fun Da hDa=>?_⟩
  refine zbv (xs:=ps.map V.ref) (fun j σ' H'=>∃v,σ'=[v]/\H' Da=some (.lst ((zc9 (xs.take j)).map V.str))/\zbe H H') ⟨none,rfl,zab,zag hDa⟩ ?_ ?_ ?_
  ·rintro j σ' H2 _ ⟨v,rfl,_,s2⟩
   exact SqL.of (s2 _ _ hul)
  ·rintro j x σ' H2 hx ⟨v,rfl,e2,s2⟩
   rw [ZA0] at hx
   cases q:ps[j]? with
   | none=>rw [q] at hx;cases hx
   | some p=>
    rw [q] at hx
    cases hx
    obtain ⟨x,hxj,hw⟩:=paired_get hpx q
    have hj:j<xs.length:=(ZAv.mp hxj).1
    refine ⟨_,rfl,rdT (s2 _ _ hw) rfl ⟨_,e2,?_,_,rfl,?_,fun b o e=>?_⟩⟩
    ·unfold zc9
     rw [ZAu,ZAu,ZBl]
     exact zan (by omega)
    ·unfold zc9
     rw [zab,ZBu,hxj,ZA9,ZA9]
     rfl
    ·rw [zaf (zaa e hDa)]
     exact s2 _ _ e
  rintro σ' H2 ⟨v,rfl,e2,s2⟩
  have hall:xs.take (ps.map V.ref).length=xs:=by rw [ZAu,hlen];exact ZBi
  rw [hall] at e2
  refine ⟨Da,_,rfl,.inl ⟨SqL.of e2,fun t ht=>?_⟩⟩
  have s3:=s2.trans (zag (o:=.tup ((zc9 xs).map V.str)) ht)
  have e3:upd H2 t (.tup ((zc9 xs).map V.str)) t=some (.tup ((zc9 xs).map V.str)):=zab
  generalize upd H2 t (.tup ((zc9 xs).map V.str))=H3 at*
  refine ⟨u,rfl,tabU,_,rfl,word,rfl,fun ss hss b hb=>?_,fun hn=>by rw [hk] at hn;cases hn⟩
  rw [hk] at hss
  cases hss
  refine ⟨t,b,_,_,rfl,rfl,SqT.of e3,hb H3,zgh,zgh,_,rfl,?_⟩
  rcases ask with ⟨rfl,ask⟩ | ⟨ne,rfl⟩
  case inr=>
   refine zgg ?_ ((G.same s3).1 rfl _ (zbe.refl _))
   show (!zoa ((zc9 xs).map V.str) (ks.map V.str))=true
   rw [Bool.not_eq_true']
   exact ZAk.mpr fun z=>ne (zmn ((zqp zix zix).mp z)).symm
  refine zf3 (by rw [zi3 zgh];rfl) (c1 _ _ ?_)
  clear c1 N1
  have FA3:=FA.same s3
  have G3':=G.same s3
  have hul3:=s3 _ _ hul
  have hpx3:Paired (zcb H3) ps xs:=zai hpx fun p x e=>e.same s3
  cases ask with
  | sum x y hx hy=>
   cases hpx3 with
   | cons w1 r=>cases r with
    | cons w2 r=>cases r
                 refine fun N1 c1=>⟨_,rfl,rfl,_,rfl,zgg (by decide+kernel) ?_⟩
                 exact ⟨_,rfl,rdL hul3 (zb1 (j:=0) rfl) ⟨_,rfl,rdL hul3 (zb1 (j:=1) rfl) ⟨_,_,x,y,rfl,w1,w2,hx,hy,G3'⟩⟩⟩
  | late x hx=>
   cases hpx3 with
   | cons w1 r=>cases r
                refine fun N1 c1=>⟨_,rfl,rfl,_,rfl,zf3 (by decide+kernel) (c1 _ _ ?_)⟩
                refine fun N1 c1=>⟨_,rfl,rfl,_,rfl,zgg (by decide+kernel) ?_⟩
                exact ⟨_,rfl,_,rfl,rdL hul3 (zb1 (j:=0) rfl) ⟨d,_,Fa,x,rfl,FA3,w1,hx,G3'⟩⟩
  | soon x hx=>
   cases hpx3 with
   | cons w1 r=>cases r
                refine fun N1 c1=>⟨_,rfl,rfl,_,rfl,zf3 (by decide+kernel) (c1 _ _ ?_)⟩
                refine fun N1 c1=>⟨_,rfl,rfl,_,rfl,zf3 (by decide+kernel) (c1 _ _ ?_)⟩
                refine fun N1 c1=>⟨_,rfl,rfl,_,rfl,zgg (by decide+kernel) ?_⟩
                exact ⟨_,rfl,_,rfl,rdL hul3 (zb1 (j:=0) rfl) ⟨d,_,Fa,x,rfl,FA3,w1,hx,G3'⟩⟩
  | sure x fa hx hf=>
   cases hpx3 with
   | cons w1 r=>cases r
                refine fun N1 c1=>⟨_,rfl,rfl,_,rfl,zf3 (by decide+kernel) (c1 _ _ ?_)⟩
                refine fun N1 c1=>⟨_,rfl,rfl,_,rfl,zf3 (by decide+kernel) (c1 _ _ ?_)⟩
                refine fun N1 c1=>⟨_,rfl,rfl,_,rfl,zf3 (by decide+kernel) (c1 _ _ ?_)⟩
                refine fun N1 c1=>⟨_,rfl,rfl,_,rfl,zgg (by decide+kernel) ?_⟩
                exact ⟨_,rfl,_,rfl,rdL hul3 (zb1 (j:=0) rfl) ⟨d,_,Fa,x,fa,rfl,FA3,w1,hx,hf,G3'⟩⟩
  | back x y fa hx hy hf=>
   cases hpx3 with
   | cons w1 r=>cases r with
    | cons w2 r=>cases r
                 refine fun N1 c1=>⟨_,rfl,rfl,_,rfl,zf3 (by decide+kernel) (c1 _ _ ?_)⟩
                 refine fun N1 c1=>⟨_,rfl,rfl,_,rfl,zf3 (by decide+kernel) (c1 _ _ ?_)⟩
                 refine fun N1 c1=>⟨_,rfl,rfl,_,rfl,zf3 (by decide+kernel) (c1 _ _ ?_)⟩
                 refine fun N1 c1=>⟨_,rfl,rfl,_,rfl,zf3 (by decide+kernel) (c1 _ _ ?_)⟩
                 refine fun N1 c1=>⟨_,rfl,rfl,_,rfl,zgg (by decide+kernel) ?_⟩
                 exact ⟨_,rfl,_,rfl,rdL hul3 (zb1 (j:=0) rfl) ⟨_,rfl,rdL hul3 (zb1 (j:=1) rfl) ⟨d,_,_,Fa,x,y,fa,rfl,FA3,w1,w2,hx,hy,hf,G3'⟩⟩⟩
  | cross x fa hx hf=>
   cases hpx3 with
   | cons w1 r=>cases r
                refine fun N1 c1=>⟨_,rfl,rfl,_,rfl,zf3 (by decide+kernel) (c1 _ _ ?_)⟩
                refine fun N1 c1=>⟨_,rfl,rfl,_,rfl,zf3 (by decide+kernel) (c1 _ _ ?_)⟩
                refine fun N1 c1=>⟨_,rfl,rfl,_,rfl,zf3 (by decide+kernel) (c1 _ _ ?_)⟩
                refine fun N1 c1=>⟨_,rfl,rfl,_,rfl,zf3 (by decide+kernel) (c1 _ _ ?_)⟩
                refine fun N1 c1=>⟨_,rfl,rfl,_,rfl,zf3 (by decide+kernel) (c1 _ _ ?_)⟩
                exact ⟨_,rfl,_,rfl,rdL hul3 (zb1 (j:=0) rfl) ⟨d,_,Fa,x,fa,rfl,FA3,w1,hx,hf,G3'⟩⟩
end Y0
namespace L2
open PySem
theorem zbr {f g:Str} {x v:V} {r:List (Str×V)} (h:¬g=f):zav f v ((g,x)::r)=(g,x)::zav f v r:=if_neg h
theorem zrr {f:Str} {x v:V} {r:List (Str×V)}:zav f v ((f,x)::r)=(f,v)::r:=if_pos rfl
end L2
namespace Y0
open PySem L2
seal L2.PE L2.PA L2.PT L2.PS L2.PSs L2.PG L2.PGs L2.PI L2.PO
structure zhe (K:ZCa) (mg:Str->Option Value) (C:Addr):Prop where
 cl:Cls K C
 nM:zco K C "many"
 nB:zco K C "by_end"
 nR:zco K C "rows"
 nE:zco K C "best"
 nX:zco K C "bar"
 len:mg "len"=none
 range:mg "range"=none
def zdy (n:Nat) (be rl bd:Addr) (bar:V):List (Str×V):=[("many",.int (n:Int)),("by_end",.ref be),("rows",.ref rl),("best",.ref bd),("bar",bar)]
theorem cl1:(("by_end":Str)=="many")=false:=by decide+kernel
theorem cl2:(("rows":Str)=="many")=false:=by decide+kernel
theorem cl3:(("rows":Str)=="by_end")=false:=by decide+kernel
theorem cl4:(("best":Str)=="many")=false:=by decide+kernel
theorem cl5:(("best":Str)=="by_end")=false:=by decide+kernel
theorem cl6:(("best":Str)=="rows")=false:=by decide+kernel
theorem cl7:(("bar":Str)=="many")=false:=by decide+kernel
theorem cl8:(("bar":Str)=="by_end")=false:=by decide+kernel
theorem cl9:(("bar":Str)=="rows")=false:=by decide+kernel
theorem zBj:(("bar":Str)=="best")=false:=by decide+kernel
section
variable {n:Nat} {be rl bd:Addr} {bar:V}
theorem ztu:(zdy n be rl bd bar).lookup ("many":Str)=some (.int (n:Int)):=by unfold zdy;rw [ZA8,ZB7]
theorem zw5:(zdy n be rl bd bar).lookup ("by_end":Str)=some (.ref be):=by unfold zdy;rw [ZA8,cl1,ZA8,ZB7]
theorem zgm:(zdy n be rl bd bar).lookup ("rows":Str)=some (.ref rl):=by unfold zdy;rw [ZA8,cl2,ZA8,cl3,ZA8,ZB7]
theorem zfu:(zdy n be rl bd bar).lookup ("best":Str)=some (.ref bd):=by unfold zdy;rw [ZA8,cl4,ZA8,cl5,ZA8,cl6,ZA8,ZB7]
theorem zsq:(zdy n be rl bd bar).lookup ("bar":Str)=some bar:=by unfold zdy;rw [ZA8,cl7,ZA8,cl8,ZA8,cl9,ZA8,zBj,ZA8,ZB7]
theorem zoe {m:Str} (h1:(m=="many")=false) (h2:(m=="by_end")=false) (h3:(m=="rows")=false) (h4:(m=="best")=false) (h5:(m=="bar")=false):(zdy n be rl bd bar).lookup m=none:=by
 unfold zdy
 rw [ZA8,h1,ZA8,h2,ZA8,h3,ZA8,h4,ZA8,h5]
 rfl
theorem zyx {v:V}:zav "bar" v (zdy n be rl bd bar)=zdy n be rl bd v:=by
 unfold zdy
 rw [zbr (by decide+kernel),zbr (by decide+kernel),zbr (by decide+kernel),zbr (by decide+kernel),zrr]
end
def zy0:Option Nat->V
 | none=>.non
 | some i=>.int (i:Int)
def zfo:MU.Wd->Str
 | .told=>"told"
 | .sum=>"sum"
 | .late=>"late"
 | .soon=>"soon"
 | .sure=>"sure"
 | .back=>"back"
 | .cross=>"cross"
def zc5 (k:MU.Key):List Key:=[.inr (zfz k.1),.inl (k.2.1:Int),.inl (k.2.2:Int)]
theorem zky {a b:Bool} (h:zfz a=zfz b):a=b:=by
 revert h
 cases a<;>cases b<;>decide+kernel
theorem zm8 {k k':MU.Key} (h:zc5 k=zc5 k'):k=k':=by
 obtain ⟨t,a,b⟩:=k
 obtain ⟨t',a',b'⟩:=k'
 unfold zc5 at h
 injection h with h1 h
 injection h with h2 h
 injection h with h3 _
 have e1:=zky (Sum.inr.inj h1)
 have e2:=Int.ofNat.inj (Sum.inl.inj h2)
 have e3:=Int.ofNat.inj (Sum.inl.inj h3)
 have e1:t=t':=e1
 have e2:a=a':=e2
 have e3:b=b':=e3
 rw [e1,e2,e3]
def zif (H:Hp) (q:Addr) (r:MU.Row):Prop:=∃pw pu,H q=some (.tup [.ref pw,.str (zfo r.word),.ref pu])/\zcb H pw r.what/\H pu=some (.tup (r.used.map fun i:Nat=>V.int (i:Int)))
theorem zif.same {H H':Hp} {q:Addr} {r:MU.Row} (h:zif H q r) (s:zbe H H'):zif H' q r:=by
 obtain ⟨pw,pu,h1,h2,h3⟩:=h
 exact ⟨pw,pu,s _ _ h1,s _ _ h2,s _ _ h3⟩
structure Clo (C:Addr) (H:Hp) (p be rl bd:Addr) (n:Nat) (F:MU.zaz) (st:MU.St):Prop where
 ins:∃dx,H p=some (.ins C dx (zdy n be rl bd (zy0 st.bar)))
 falls:zcx H be F
 rows:∃qs,H rl=some (.lst (qs.map V.ref))/\Paired (zif H) qs st.rows
 best:∃kvs,H bd=some (.dT kvs)/\(kvs.length<=st.rows.length/\∀kv∈kvs,∃k:MU.Key,kv.1=zc5 k)/\∀k:MU.Key,zel kvs (zc5 k)=(st.best k).map fun i:Nat=>V.int (i:Int)
theorem Clo.same {C p be rl bd:Addr} {H H':Hp} {n:Nat} {F:MU.zaz} {st:MU.St} (h:Clo C H p be rl bd n F st) (s:zbe H H'):Clo C H' p be rl bd n F st:=by
 obtain ⟨⟨dx,h1⟩,h2,⟨qs,h3,h4⟩,⟨kvs,h5,h6,h7⟩⟩:=h
 exact ⟨⟨dx,s _ _ h1⟩,h2.same s,⟨qs,s _ _ h3,zai h4 fun q r e=>e.same s⟩,⟨kvs,s _ _ h5,h6,h7⟩⟩
def zb2 (p rl bd:Addr) (H H':Hp):Prop:=∀b o,H b=some o->b≠p->b≠rl->b≠bd->H' b=some o
theorem zb2.of {p rl bd:Addr} {H H':Hp} (s:zbe H H'):zb2 p rl bd H H':=fun b o e _ _ _=>s _ _ e
theorem zb2.trans {p rl bd:Addr} {H H1 H2:Hp} (a:zb2 p rl bd H H1) (b:zb2 p rl bd H1 H2):zb2 p rl bd H H2:=fun c o e h1 h2 h3=>b c o (a c o e h1 h2 h3) h1 h2 h3
open Classical in
def zs5 (C:Addr):Sp:=fun vs H Q _=>∃p be rl bd q n F st x,vs=[.ref p,.ref q]/\Clo C H p be rl bd n F st/\MU.zdq n st/\zcb H q x/\∀H',zbe H H'->Q (.bl (decide (MU.zhf st x))) H'
theorem zjf {H:Hp} {qs:List Addr} {rows:List MU.Row} (h:Paired (zif H) qs rows) {i:Nat} {x:MU.zas} (hx:(rows[i]?).map (·.what)=some x):∃q r pw pu,qs[i]?=some q/\rows[i]?=some r/\r.what=x/\H q=some (.tup [.ref pw,.str (zfo r.word),.ref pu])/\zcb H pw x/\H pu=some (.tup (r.used.map fun i:Nat=>V.int (i:Int))):=by
 cases hr:rows[i]? with
 | none=>rw [hr] at hx;cases hx
 | some r=>
  rw [hr] at hx
  have hx:some r.what=some x:=hx
  cases hx
  have hl:=Paired.length h
  have hi:=(ZAv.mp hr).1
  obtain ⟨q,hq⟩:∃q,qs[i]?=some q:=⟨_,ZAx (by lia)⟩
  obtain ⟨r',hr',⟨pw,pu,e1,e2,e3⟩⟩:=paired_get h hq
  rw [hr] at hr'
  cases hr'
  exact ⟨q,r,pw,pu,hq,rfl,rfl,e1,e2,e3⟩
theorem zyo {x:MU.zas}:zoc (zfp x) none (some 3)=(zc5 x.key).map kV:=by
 unfold zoc zfp
 rw [HT.sIx_none,show (some (3:Int))=some ((3:Nat):Int) from rfl,HT.sIx_nat]
 rfl
theorem zp6 {x:MU.zas}:¬(HT.sIx (zfp x).length 0 none=0/\HT.sIx (zfp x).length (zfp x).length (some 3)=(zfp x).length):=fun z=>by
 have h:=z.2
 rw [show (some (3:Int))=some ((3:Nat):Int) from rfl,HT.sIx_nat] at h
 have e:(zfp x).length=4:=rfl
 rw [e] at h
 cases h
theorem zx0:zam ["self","what","key","known"] ["self","what"] (zae sC_Closing_is_news):=scm
theorem ok_news {f C:Addr} {fd:FuncData} (F:Fun K "is_news" "Closing.is_news" sC_Closing_is_news f fd) (T:zhe K mg C):za3 P w K mg base CX0 1 f fd ["self","what"] (zs5 C):=by
 refine F.ok zx0 (fun _ _ _ _ h=>?_) fun _ A _ s H _ Q E hr h=>?_
 ·obtain ⟨_,_,_,_,_,_,_,_,_,rfl,_⟩:=h
  rfl
 ·obtain ⟨p,be,rl,bd,q,n,Fa,st,x,rfl,c,g,hw,k⟩:=h
  have hu:=zei hr
  refine ⟨_,zac (zbn (PW.pt (zdg (zcy zcf (ixT (pv 1)) zbd) (zdk (zcy zcf (ixT (pv 1)) (ixT (pv 1))))))
   (zad (zaq (zlw zij (ixT (pv 1)) zaj))) zap)
   (zac (za9 2 zx0.nd (zf9 zms (pv 1) zhx (zhw zaj)))
   (zac (zbn (zg5 (ze0 hu (pv 2) (zat (pv 0) rfl)) (by with_unfolding_all rfl)) (zad (zaq zhz)) zap)
   (zac (za9 3 zx0.nd (ixT (zbj zal (zat (pv 0) rfl) (zcd hu (zat (pv 0) rfl) (pv 2) (fun _ _=>rfl)) (fun _ _=>rfl))))
   (zad (zaq (zrw (zcy zcf (ixT (pv 1)) zbd) (zlw zij (ixT (pv 1)) (ixT (pv 3))) (zlw zr2 (ixT (pv 1)) (ixT (pv 3))))))))),?_⟩
  obtain ⟨dx,hp⟩:=c.ins
  obtain ⟨qs,hrl,hrows⟩:=c.rows
  obtain ⟨kvs,hbd,hkl,hkv⟩:=c.best
  have kb:∀(H':Hp) (b:Bool),zbe H H'->(b=true↔MU.zhf st x)->Q (.bl b) H':=fun H' b s' e=>by
   have:=k H' s'
   have e2:b=decide (MU.zhf st x):=by
    by_cases z:MU.zhf st x
    ·rw [e.mpr z];simp [z]
    ·cases b with
     | true=>exact absurd (e.mp rfl) z
     | false=>simp [z]
   rw [e2]
   exact this
  refine fun N1 c1=>⟨_,rfl,rdT hw rfl ⟨rfl,_,rfl,?_⟩⟩
  rw [zhq]
  have rest:¬(x.tie=true/\x.a=x.b)->N1 (L2.zes ["self","what","key","known"] [.ref p,.ref q]) H:=fun hno=>by
   refine c1 _ _ ?_
   refine fun N2 c2=>⟨_,rfl,_,rfl,q,_,rfl,SqT.of hw,zp6,fun kt hkt=>c2 _ _ ?_⟩
   rw [zyo]
   have s1:=zag (o:=.tup ((zc5 x.key).map kV)) hkt
   have e1:upd H kt (.tup ((zc5 x.key).map kV)) kt=some (.tup ((zc5 x.key).map kV)):=zab
   generalize upd H kt (.tup ((zc5 x.key).map kV))=H1 at*
   have dg:=zev.t (k:=zc5 x.key) (s1 _ _ hbd) e1
   rw [hkv] at dg
   refine fun N3 c3=>⟨_,rfl,_,rfl,p,C,dx,_,_,rfl,s1 _ _ hp,T.cl,T.nE,zfu,bd,_,rfl,dg,_,rfl,?_⟩
   have nw:MU.zhf st x↔∀u,MU.val st x.key=some u->MU.zbm x.tie x.v u:=by
    unfold MU.zhf
    rw [if_neg hno]
   cases hb:st.best x.key with
   | none=>
    refine zft (kb H1 true s1 ⟨fun _=>nw.mpr fun u hu'=>?_,fun _=>rfl⟩)
    unfold MU.val at hu'
    rw [hb] at hu'
    cases hu'
   | some i=>
    rw [hb] at dg
    refine zde (c3 _ _ ?_)
    obtain ⟨u,hu1,hu2⟩:=g.at_ _ _ hb
    obtain ⟨q',r,pw,pu,g1,g2,g3,g4,g5,g6⟩:=zjf hrows hu1
    have hat:atI (qs.map V.ref) (i:Int)=some (.ref q'):=zb1 (by rw [ZA0,g1];rfl)
    refine fun N4 c4=>⟨_,rfl,p,C,dx,_,_,rfl,s1 _ _ hp,T.cl,T.nR,zgm,_,rfl,p,C,dx,_,_,rfl,s1 _ _ hp,T.cl,T.nE,zfu,_,rfl,bd,_,rfl,dg,?_⟩
    refine ⟨rl,_,_,_,rfl,rfl,s1 _ _ hrl,hat,rdT (s1 _ _ g4) rfl (c4 _ _ ?_)⟩
    have hv:=MU.zc1 hb hu1
    refine ⟨_,rfl,rdT (s1 _ _ hw) rfl ⟨rfl,_,rfl,?_⟩⟩
    rw [zhq]
    have nw2:MU.zhf st x↔MU.zbm x.tie x.v u.v:=nw.trans ⟨fun z=>z _ hv,fun z u' hu'=>by rw [hv] at hu';cases hu';exact z⟩
    cases ht:x.tie with
    | true=>
     refine zft ⟨_,rfl,rdT (s1 _ _ hw) rfl ⟨_,rfl,rdT (s1 _ _ g5) rfl ⟨_,_,rfl,rfl,kb _ _ s1 ?_⟩⟩⟩
     rw [nw2,ht,ZBy]
     unfold MU.zbm
     rw [if_pos rfl]
    | false=>
     refine zde ⟨_,rfl,rdT (s1 _ _ hw) rfl ⟨_,rfl,rdT (s1 _ _ g5) rfl ⟨_,_,rfl,rfl,kb _ _ s1 ?_⟩⟩⟩
     rw [nw2,ht,ZBy]
     unfold MU.zbm
     rw [if_neg (by decide)]
  cases ht:x.tie with
  | false=>exact zde (zde (rest fun z=>by rw [ht] at z;cases z.1))
  | true=>
   refine zft ⟨_,rfl,rdT hw rfl ⟨_,rfl,rdT hw rfl ⟨rfl,_,rfl,?_⟩⟩⟩
   rw [zku]
   by_cases e:x.a=x.b
   ·refine zep e ⟨_,rfl,rdT hw rfl ⟨_,_,rfl,rfl,kb H _ (zbe.refl _) ?_⟩⟩
    rw [ZBy]
    unfold MU.zhf
    rw [if_pos ⟨ht,e⟩]
   ·exact zct e (rest fun z=>e z.2)
def zo5 (C:Addr):Sp:=fun vs H Q _=>∃p be rl bd q pu n F st x wd us,vs=[.ref p,.ref q,.str (zfo wd),.ref pu]/\Clo C H p be rl bd n F st/\MU.zdq n st/\zcb H q x/\H pu=some (.tup (us.map fun i:Nat=>V.int (i:Int)))/\st.rows.length<=16500000/\
 ∀H',Clo C H' p be rl bd n F (MU.take st x wd us)->zb2 p rl bd H H'->Q .non H'
theorem zq6 {o:Option Nat}:decide (zy0 o=V.non)=decide (o=none):=by
 cases o with
 | none=>rfl
 | some i=>exact (ZB9 fun z=>nomatch z).trans (ZB9 fun z=>nomatch z).symm
theorem zrk {st:MU.St} {x:MU.zas} {wd:MU.Wd} {us:List Nat} (h:MU.zhf st x):MU.take st x wd us={ rows:=st.rows++[⟨x,wd,us⟩],best:=fun k=>if k=x.key then some st.rows.length else st.best k,bar:=if st.bar=none/\MU.zih x then some st.rows.length else st.bar }:=by
 unfold MU.take
 rw [if_pos h]
theorem zr6 {kvs:List (List Key×V)} {k:List Key} {v:V} {kv:List Key×V} (h:kv∈zet kvs k v):kv.1=k\/∃kv0∈kvs,kv.1=kv0.1:=by
 unfold zet at h
 split at h
 ·obtain ⟨kv0,h0,rfl⟩:=ZBr.mp h
  refine .inr ⟨kv0,h0,?_⟩
  split<;>rfl
 ·rcases ZBo.mp h with h | h
  ·exact .inr ⟨kv,h,rfl⟩
  ·rw [ZBd.mp h];exact .inl rfl
theorem zkn {n:Nat} (h:n<=16500000):n<sizeLine:=Nat.lt_of_le_of_lt h (by decide)
theorem zz5:zam ["self","what","word","used"] ["self","what","word","used"] (zae sC_Closing_take):=scm
theorem ok_take {f C fN fB:Addr} {fd fdN fdB:FuncData} (F:Fun K "take" "Closing.take" sC_Closing_take f fd) (T:zhe K mg C)
 (mN:zf4 K C "is_news" fN) (bN:zb5 K fdN ["self","what"] []) (GN:za3 P w K mg base CX0 1 fN fdN ["self","what"] (zs5 C))
 (FB:Fn K mg "bars_every_hand" sP_bars_every_hand ["what"] fB fdB) (GB:za3 P w K mg base CX0 1 fB fdB ["what"] ztd):za3 P w K mg base CX0 2 f fd ["self","what","word","used"] (zo5 C):=by
 refine F.ok zz5 (fun _ _ _ _ h=>?_) fun _ A _ s H _ Q E hr h=>?_
 ·obtain ⟨_,_,_,_,_,_,_,_,_,_,_,_,rfl,_⟩:=h
  rfl
 ·obtain ⟨p,be,rl,bd,q,pu,n,Fa,st,x,wd,us,rfl,c,g,hw,hpu,hlen,k⟩:=h
  have hu:=zei hr
  refine ⟨_,zad (zbn (zfr (za8 (pv 0) T.cl mN GN hr bN .nil zb3 (pa1 (pv 1))))
   (zac (zjl hu (zat (pv 0) rfl) (zf9 zms (pv 1) zhx (zhw zaj)) (zbs zcz (by rfl) T.len ZAn (pa1 (zat (pv 0) rfl))) rfl)
   (zac (ziw (zbn (PW.pt (zdg (zcy zga (zat (pv 0) rfl) zca) (zdk (zfr (pcl GB hr FB (pa1 (pv 1))))))) (zad (zdm (pv 0) (zbs zcz (by rfl) T.len ZAn (pa1 (zat (pv 0) rfl))) rfl)) zap))
   (zad (za7 (zhy ZAr ZAs ZAt zcg (zat (pv 0) rfl) (pa1 (zbf (pa3 (pv 1) (pv 2) (pv 3))))))))) zap),?_⟩
  obtain ⟨dx,hp⟩:=c.ins
  refine ⟨_,rfl,p,dx,_,rfl,hp,zoe (by decide+kernel) (by decide+kernel) (by decide+kernel) (by decide+kernel) (by decide+kernel),_,rfl,p,be,rl,bd,q,n,Fa,st,x,rfl,c,g,hw,fun H1 s1=>⟨_,rfl,?_⟩⟩
  by_cases hn:MU.zhf st x
  ·refine zgg (by simp [hn]) ?_
   have c1:=c.same s1
   have hw1:=s1 _ _ hw
   have hpu1:=s1 _ _ hpu
   obtain ⟨dx1,hp1⟩:=c1.ins
   obtain ⟨qs,hrl,hrows⟩:=c1.rows
   obtain ⟨kvs,hbd,hkl,hkv⟩:=c1.best
   have hql:qs.length=st.rows.length:=Paired.length hrows
   refine fun N2 c2=>⟨_,rfl,p,C,dx1,_,_,rfl,hp1,T.cl,T.nR,zgm,rl,_,rfl,.inl (SqL.of hrl),_,rfl,p,C,dx1,_,_,rfl,hp1,T.cl,T.nE,zfu,_,rfl,_,rfl,q,_,rfl,SqT.of hw1,zp6,fun kt hkt=>?_⟩
   rw [zyo,ZAu,hql]
   have s2:=zag (o:=.tup ((zc5 x.key).map kV)) hkt
   have e2:upd H1 kt (.tup ((zc5 x.key).map kV)) kt=some (.tup ((zc5 x.key).map kV)):=zab
   generalize upd H1 kt (.tup ((zc5 x.key).map kV))=H2 at*
   refine ⟨bd,_,rfl,zre.t (k:=zc5 x.key) (s2 _ _ hbd) e2 (zkn (by have:=hkl.1;lia)),c2 _ _ ?_⟩
   have k3:∀b o,H1 b=some o->b≠bd->upd H2 bd (.dT (zet kvs (zc5 x.key) (.int (st.rows.length:Int)))) b=some o:=fun b o e ne=>by
    rw [zaf ne]
    exact s2 _ _ e
   have e3:upd H2 bd (.dT (zet kvs (zc5 x.key) (.int (st.rows.length:Int)))) bd=some (.dT (zet kvs (zc5 x.key) (.int (st.rows.length:Int)))):=zab
   generalize upd H2 bd (.dT (zet kvs (zc5 x.key) (.int (st.rows.length:Int))))=H3 at*
   clear c2 N2
   have pbd:p≠bd:=zao hp1 hbd nofun
   have rbd:rl≠bd:=zao hrl hbd nofun
   have prl:p≠rl:=zao hp1 hrl nofun
   have hp3:=k3 _ _ hp1 pbd
   have hrl3:=k3 _ _ hrl rbd
   have hw3:=k3 _ _ hw1 (zao hw1 hbd nofun)
   refine fun N4 c4=>⟨fun σ' H'=>σ'=L2.zes ["self","what","word","used"] [.ref p,.ref q,.str (zfo wd),.ref pu]/\(∃dx',H' p=some (.ins C dx' (zdy n be rl bd (zy0 (if st.bar=none/\MU.zih x then some st.rows.length else st.bar)))))/\∀b o,H3 b=some o->b≠p->H' b=some o,?_,?_⟩
   ·refine ⟨_,rfl,p,C,dx1,_,_,rfl,hp3,T.cl,T.nX,zsq,rfl,_,rfl,?_⟩
    rw [zq6]
    by_cases hb:st.bar=none
    ·refine zep hb ⟨_,rfl,q,x,rfl,hw3,_,rfl,?_⟩
     by_cases hB:MU.zih x
     ·refine zep hB ?_
      refine ⟨_,rfl,p,C,dx1,_,_,rfl,hp3,T.cl,T.nR,zgm,rl,_,rfl,.inl (SqL.of hrl3),_,rfl,p,C,dx1,_,rfl,hp3,T.cl,T.nX,by show 5<1000;decide,rfl,⟨dx1,?_⟩,fun b o e ne=>?_⟩
      ·rw [zab,zyx,if_pos ⟨hb,hB⟩,ZAu,hql]
       rfl
      ·rw [zaf ne];exact e
     ·refine zct hB ⟨rfl,⟨dx1,?_⟩,fun b o e _=>e⟩
      rw [if_neg fun z=>hB z.2]
      exact hp3
    ·refine zct hb (zde ⟨rfl,⟨dx1,?_⟩,fun b o e _=>e⟩)
     rw [if_neg fun z=>hb z.1]
     exact hp3
   ·rintro σ' H4 ⟨rfl,⟨dx4,hp4⟩,k4⟩
    refine c4 _ _ ?_
    have hrl4:=k4 _ _ hrl3 (ZAl prl)
    have hw4:=k4 _ _ hw3 (zao hw3 hp3 nofun)
    have hpu3:=k3 _ _ hpu1 (zao hpu1 hbd nofun)
    have hpu4:=k4 _ _ hpu3 (zao hpu3 hp3 nofun)
    refine ⟨_,rfl,p,C,dx4,_,_,rfl,hp4,T.cl,T.nR,zgm,.inl ⟨rfl,_,SqL.of hrl4⟩,_,rfl,_,rfl,_,rfl,szl rfl,fun rt hrt=>?_⟩
    have s5:=zag (o:=.tup [.ref q,.str (zfo wd),.ref pu]) hrt
    have e5:upd H4 rt (.tup [.ref q,.str (zfo wd),.ref pu]) rt=some (.tup [.ref q,.str (zfo wd),.ref pu]):=zab
    generalize upd H4 rt (.tup [.ref q,.str (zfo wd),.ref pu])=H5 at*
    refine ⟨rl,_,_,rfl,rfl,s5 _ _ hrl4,by rw [ZAu,hql];exact zkn (by lia),?_⟩
    have k6:∀b o,H5 b=some o->b≠rl->upd H5 rl (.lst (qs.map V.ref++[.ref rt])) b=some o:=fun b o e ne=>by rw [zaf ne];exact e
    have e6:upd H5 rl (.lst (qs.map V.ref++[.ref rt])) rl=some (.lst ((qs++[rt]).map V.ref)):=by rw [zab,ZA9];rfl
    generalize upd H5 rl (.lst (qs.map V.ref++[.ref rt]))=H6 at*
    have all:∀b o,H1 b=some o->b≠p->b≠rl->b≠bd->H6 b=some o:=fun b o e n1 n2 n3=>k6 _ _ (s5 _ _ (k4 _ _ (k3 _ _ e n3) n1)) n2
    have tup:∀b xs,H1 b=some (.tup xs)->H6 b=some (.tup xs):=fun b xs e=>all _ _ e (zao e hp1 nofun) (zao e hrl nofun) (zao e hbd nofun)
    refine k H6 ?_ fun b o e n1 n2 n3=>all _ _ (s1 _ _ e) n1 n2 n3
    rw [zrk hn]
    refine ⟨⟨dx4,k6 _ _ (s5 _ _ hp4) prl⟩,?_,⟨qs++[rt],e6,?_⟩,⟨_,k6 _ _ (s5 _ _ (k4 _ _ e3 (ZAl pbd))) (ZAl rbd),?_,fun kk=>?_⟩⟩
    ·obtain ⟨fkv,f1,f2,f3,f4⟩:=c1.falls.at_
     refine ⟨fkv,all _ _ f1 (zao f1 hp1 nofun) (zao f1 hrl nofun) (zao f1 hbd nofun),f2,f3,fun e f hf=>?_⟩
     obtain ⟨pp,q1,q2⟩:=f4 e f hf
     exact ⟨pp,q1,tup _ _ q2⟩
    ·refine zcj (zai hrows fun qq r e=>?_) (.cons ?_ .nil)
     ·obtain ⟨pw,pu',r1,r2,r3⟩:=e
      exact ⟨pw,pu',tup _ _ r1,tup _ _ r2,tup _ _ r3⟩
     ·exact ⟨q,pu,k6 _ _ e5 (zao e5 (s5 _ _ hrl4) nofun),tup _ _ hw1,tup _ _ hpu1⟩
    ·refine ⟨?_,fun kv hkv'=>?_⟩
     ·show (zet kvs (zc5 x.key) _).length<=(st.rows++[_]).length
      have:=zdb kvs (zc5 x.key) (.int (st.rows.length:Int))
      have:=hkl.1
      rw [ZA3]
      show _<=st.rows.length+1
      lia
     ·rcases zr6 hkv' with z | z
      ·exact ⟨x.key,z⟩
      ·obtain ⟨kv0,h0,e0⟩:=z
       obtain ⟨k0,e1⟩:=hkl.2 kv0 h0
       exact ⟨k0,e0.trans e1⟩
    ·show zel (zet kvs (zc5 x.key) _) (zc5 kk)=(if kk=x.key then some st.rows.length else st.best kk).map _
     rw [zf6]
     by_cases ek:kk=x.key
     ·rw [if_pos (by rw [ek]),if_pos ek]
      rfl
     ·rw [if_neg fun z=>ek (zm8 z),if_neg ek]
      exact hkv kk
  ·refine zf3 (by simp [hn]) (k H1 ?_ (zb2.of s1))
   rw [MU.zfe hn]
   exact c.same s1
end Y0
namespace L2
open PySem PySem.Spec PyProof.Rows
theorem zni {js:List (Option Nat)} {g:TG} {tc:TT} {te:TE} {σ:St} {H:Hp} {D:Addr} {Q:VK} {K:ZCa} {a:Addr} {xs:List V} (Pv:Nat->St->Hp->Prop) (h0:Pv 0 (zfq js σ) (upd H D (.lst []))) (hl:∀i σ' H',i<=xs.length->Pv i σ' H'->SqT K H' a xs)
 (hs:∀i x σ' H',xs[i]?=some x->Pv i σ' H'->g x σ' H' fun σ3 H3=>tc σ3 H3 fun ok H4=>if ok=true then te σ3 H4 fun y H5=>∃ys,H5 D=some (.lst ys)/\ys.length<sizeLine/\Pv (i+1) σ3 (upd H5 D (.lst (ys++[y]))) else Pv (i+1) σ3 H4)
 (hd:∀σ' H',Pv xs.length σ' H'->Q (.ref D) H'):
 zg0 js g tc te σ Q (Itt K a) H D:=by
 refine ⟨fun i m σ H=>m=xs.length-i/\i<=xs.length/\Pv i σ H,⟨xs.length,by simp,ZBa _,h0⟩,?_⟩
 rintro i m σ' H' ⟨rfl,hi,p⟩
 by_cases hlt:i<xs.length
 ·refine .inr ⟨⟨xs,_,hl i σ' H' hi p,ZAx hlt⟩,Pv (i+1),fun σ2 H2 p'=>⟨xs.length-(i+1),by lia,rfl,hlt,p'⟩,fun x H2 y=>?_⟩
  obtain ⟨e,y⟩:=y
  subst e
  exact hs i x σ' _ (y xs (hl i σ' _ hi p)) p
 ·have e:i=xs.length:=by lia
  subst e
  exact .inl ⟨⟨xs,hl _ σ' H' hi p,ZAw _⟩,hd σ' H' p⟩
theorem zeg {Y:Cx} {K:ZCa} {e:Expr} {f:Str} {pos:Pos} {ta:TE} (hK:Y.K=K) (he:PE Y e ta) (hb:attributeBase e f Y.env (eval e Y.env)=eval e Y.env):PE Y (.Attribute e f pos) (zy9 K ta f):=by
 subst hK
 exact zat he hb
end L2
namespace Y0
open PySem L2
seal L2.PE L2.PA L2.PT L2.PS L2.PSs L2.PG L2.PGs L2.PI L2.PO
def zmp (C:Addr):Sp:=fun vs H Q _=>∃p be rl bd pu n F st wd us xs o,vs=[.ref p,.str (zfo wd),.ref pu]/\Clo C H p be rl bd n F st/\MU.zdq n st/\H pu=some (.tup (us.map fun i:Nat=>V.int (i:Int)))/\Paired (fun i x=>MU.wat st i=some x) us xs/\zhg F (zfo wd) xs o/\st.rows.length<=16500000/\
 ∀H',Clo C H' p be rl bd n F (MU.put st o wd us)->zb2 p rl bd H H'->Q .non H'
theorem zzh:zam ["self","word","used","what"] ["self","word","used"] (zae sC_Closing_draw):=scm
theorem zBg:zbw (zae sC_Closing_draw) ["self","word","used","what"] (fsc [(".0",.local),("number",.local),("self",.free)]) ["number","self"] [none,some 0]:=com
theorem zAu:(["number","self"]:List Str).Nodup:=by decide+kernel
theorem ok_draw {f C fT fW:Addr} {fd fdT fdW:FuncData} (F:Fun K "draw" "Closing.draw" sC_Closing_draw f fd) (T:zhe K mg C)
 (mT:zf4 K C "take" fT) (bT:zb5 K fdT ["self","what","word","used"] []) (GT:za3 P w K mg base CX0 2 fT fdT ["self","what","word","used"] (zo5 C))
 (FW:Fn K mg "what_follows" sP_what_follows ["falls","word","used"] fW fdW) (GW:za3 P w K mg base CX0 2 fW fdW ["falls","word","used"] zkl):za3 P w K mg base CX0 3 f fd ["self","word","used"] (zmp C):=by
 refine F.ok zzh (fun _ _ _ _ h=>?_) fun _ A _ s H _ Q E hr h=>?_
 ·obtain ⟨_,_,_,_,_,_,_,_,_,_,_,_,rfl,_⟩:=h
  rfl
 ·obtain ⟨p,be,rl,bd,pu,n,Fa,st,wd,us,xs,o,rfl,c,g,hpu,hux,ask,hlen,k⟩:=h
  refine ⟨_,zac (za9 3 zzh.nd (pcl GW hr FW (pa3 (zat (pv 0) rfl) (pv 1) (zcv rfl (zpt (pv 2)) zBg (fun cl ex s0 H0=>⟨zci 0 zAu,zdn,ixT (zbj zal (zeg (K:=K) rfl (pv 1) rfl) (pv 0) (fun _ _=>rfl))⟩)))))
   (zad (zbn (zcy ze2 (pv 3) zca) (zad (za7 (za8 (pv 0) T.cl mT GT hr bT .nil zb3 (pa3 (pv 3) (pv 1) (pv 2))))) zap)),?_⟩
  obtain ⟨dx,hp⟩:=c.ins
  obtain ⟨qs,hrl,hrows⟩:=c.rows
  obtain ⟨hk,hx2⟩:=ask.kinds
  have hul:us.length=xs.length:=Paired.length hux
  refine fun N1 c1=>⟨_,rfl,p,C,dx,_,_,rfl,hp,T.cl,T.nB,zw5,_,rfl,_,rfl,pu,rfl,⟨_,SqT.of hpu⟩,fun Da hDa=>?_⟩
  refine zni (xs:=us.map fun i:Nat=>V.int (i:Int)) (fun j σ' H'=>∃v ps,σ'=[v,some (.ref p)]/\H' Da=some (.lst (ps.map V.ref))/\Paired (zcb H') ps (xs.take j)/\zbe H H') ⟨none,[],rfl,zab,.nil,zag hDa⟩ ?_ ?_ ?_
  ·rintro j σ' H2 _ ⟨v,ps,rfl,_,_,s2⟩
   exact SqT.of (s2 _ _ hpu)
  ·rintro j x σ' H2 hx ⟨v,ps,rfl,e2,hps,s2⟩
   rw [ZA0] at hx
   cases q:us[j]? with
   | none=>rw [q] at hx;cases hx
   | some i=>
    rw [q] at hx
    cases hx
    obtain ⟨y,hyj,hy⟩:=paired_get hux q
    obtain ⟨q',r,pw,pu',g1,g2,g3,g4,g5,g6⟩:=zjf hrows hy
    have hat:atI (qs.map V.ref) (i:Int)=some (.ref q'):=zb1 (by rw [ZA0,g1];rfl)
    have hj:j<xs.length:=(ZAv.mp hyj).1
    have hpl:ps.length=min j xs.length:=by rw [Paired.length hps,ZBl]
    refine ⟨_,rfl,p,C,dx,_,_,rfl,s2 _ _ hp,T.cl,T.nR,zgm,zvq rfl (s2 _ _ hrl) hat (rdT (s2 _ _ g4) rfl ⟨_,e2,?_,_,ps++[pw],rfl,?_,?_,fun b o e=>?_⟩)⟩
    ·rw [ZAu,hpl]
     exact zan (by lia)
    ·rw [zab,ZA9]
     rfl
    ·have et:xs.take (j+1)=xs.take j++[y]:=by rw [ZBu,hyj];rfl
     rw [et]
     have keep:∀b x,zcb H2 b x->zcb (upd H2 Da (.lst (ps.map V.ref++[.ref pw]))) b x:=fun b x e=>by
      unfold zcb
      rw [zaf (zao e e2 nofun)]
      exact e
     exact zcj (zai hps fun b x e=>keep b x e) (.cons (keep _ _ (s2 _ _ g5)) .nil)
    ·rw [zaf (zaa e hDa)]
     exact s2 _ _ e
  rintro σ' H2 ⟨v,ps,rfl,e2,hps,s2⟩
  have hall:xs.take (us.map fun i:Nat=>V.int (i:Int)).length=xs:=by rw [ZAu,hul];exact ZBi
  rw [hall] at hps
  have c2:=c.same s2
  refine ⟨be,_,Da,ps,Fa,xs,o,rfl,c2.falls,⟨e2,hps⟩,.inl ask,fun ho H3 s3=>c1 _ _ ?_,fun x ho r H3 hr' s3 hw=>c1 _ _ ?_⟩
  ·refine ⟨_,rfl,rfl,_,rfl,zf3 rfl ?_⟩
   refine k H3 ?_ (zb2.of (s2.trans s3))
   rw [ho]
   exact c2.same s3
  ·refine ⟨_,rfl,rfl,_,rfl,zgg rfl ?_⟩
   have c3:=c2.same s3
   have s03:=s2.trans s3
   refine ⟨_,rfl,p,dx,_,rfl,s03 _ _ hp,zoe (by decide+kernel) (by decide+kernel) (by decide+kernel) (by decide+kernel) (by decide+kernel),_,rfl,_,rfl,_,rfl,p,be,rl,bd,r,pu,n,Fa,st,x,wd,us,rfl,c3,g,hw,s03 _ _ hpu,hlen,fun H4 c4 k4=>?_⟩
   refine k H4 ?_ ((zb2.of s03).trans k4)
   rw [ho]
   exact c4
def zcp (l:List Nat):List V:=l.map fun i:Nat=>V.int (i:Int)
def zpa (C:Addr):Sp:=fun vs H Q _=>∃(p be rl bd:Addr) (n:Nat) (F:MU.zaz) (st:MU.St) (t:Bool) (a:Nat),vs=[.ref p,.str (zfz t),.int (a:Int)]/\Clo C H p be rl bd n F st/\n<=8/\∀l H',H l=none->zbe H H'->H' l=some (.lst (zcp (MU.za5 n st t a)))->Q (.ref l) H'
def zxx (C:Addr):Sp:=fun vs H Q _=>∃(p be rl bd:Addr) (n:Nat) (F:MU.zaz) (st:MU.St) (b:Nat),vs=[.ref p,.int (b:Int)]/\Clo C H p be rl bd n F st/\n<=8/\∀l H',H l=none->zbe H H'->H' l=some (.lst (zcp (MU.zbx n st b)))->Q (.ref l) H'
theorem zdf {α:Type} {f:Nat->Option α} {n:Nat}:(List.range (n+1)).filterMap f=(List.range n).filterMap f++(f n).toList:=by
 rw [List.range_succ,List.filterMap_append]
 cases h:f n with
 | none=>simp [h]
 | some x=>simp [h]
theorem zz7:zam ["self","kind","a"] ["self","kind","a"] (zae sC_Closing_known_of):=scm
theorem zBe:zbw (zae sC_Closing_known_of) ["self","kind","a"] (fsc [(".0",.local),("b",.local),("a",.free),("kind",.free),("self",.free)]) ["b","a","kind","self"] [none,some 2,some 1,some 0]:=com
theorem zAs:(["b","a","kind","self"]:List Str).Nodup:=by decide+kernel
theorem ok_known {f C:Addr} {fd:FuncData} (F:Fun K "known_of" "Closing.known_of" sC_Closing_known_of f fd) (T:zhe K mg C):za3 P w K mg base CX0 1 f fd ["self","kind","a"] (zpa C):=by
 refine F.ok zz7 (fun _ _ _ _ h=>?_) fun _ A _ s H _ Q E hr h=>?_
 ·obtain ⟨_,_,_,_,_,_,_,_,_,rfl,_⟩:=h
  rfl
 ·obtain ⟨p,be,rl,bd,n,Fa,st,t,a,rfl,c,h8,k⟩:=h
  have hu:=zei hr
  refine ⟨_,zad (zaq (zcv rfl (zcs rfl T.range (pa1 (zat (pv 0) rfl))) zBe (fun cl ex s0 H0=>⟨zci 0 zAs,zda (zg5 (zp0 hu (zbf (pa3 (pv 2) (pv 1) (pv 0))) (zeg (K:=K) rfl (pv 3) rfl)) (by with_unfolding_all rfl)),zcd hu (zeg (K:=K) rfl (pv 3) rfl) (zbf (pa3 (pv 2) (pv 1) (pv 0))) (fun _ _=>rfl)⟩))),?_⟩
  obtain ⟨dx,hp⟩:=c.ins
  obtain ⟨kvs,hbd,hkl,hkv⟩:=c.best
  refine ⟨_,rfl,p,C,dx,_,_,rfl,hp,T.cl,T.nM,ztu,_,rfl,by lia,by lia,fun Da hDa=>?_⟩
  refine zeb (n:=((n:Int)).toNat) (fun i σ' H'=>∃v,σ'=[v,some (.int (a:Int)),some (.str (zfz t)),some (.ref p)]/\H' Da=some (.lst (zcp ((List.range i).filterMap fun b=>st.best (t,a,b))))/\zbe H H') ⟨none,rfl,zab,zag hDa⟩ ?_ ?_
  ·rintro i σ' H2 hi ⟨v,rfl,e2,s2⟩
   have hin:i<n:=by lia
   have ei:((0:Int)+(i:Int))=(i:Int):=by lia
   refine ⟨_,rfl,_,rfl,_,rfl,szl rfl,fun kt hkt=>?_⟩
   rw [ei]
   have s3:=zag (o:=.tup ((zc5 (t,a,i)).map kV)) hkt
   have e3:upd H2 kt (.tup ((zc5 (t,a,i)).map kV)) kt=some (.tup ((zc5 (t,a,i)).map kV)):=zab
   have ek:(HO.tup [V.str (zfz t),V.int (a:Int),V.int (i:Int)])=.tup ((zc5 (t,a,i)).map kV):=rfl
   rw [ek]
   generalize upd H2 kt (.tup ((zc5 (t,a,i)).map kV))=H3 at*
   have s03:=s2.trans s3
   have dg:=zev.t (k:=zc5 (t,a,i)) (s03 _ _ hbd) e3
   rw [hkv] at dg
   refine ⟨_,rfl,p,C,dx,_,_,rfl,s03 _ _ hp,T.cl,T.nE,zfu,bd,_,rfl,dg,_,rfl,?_⟩
   have fl:((List.range i).filterMap fun b=>st.best (t,a,b)).length<=i:=by
    have:=List.length_filterMap_le (fun b=>st.best (t,a,b)) (List.range i)
    rw [List.length_range] at this
    exact this
   cases hb:st.best (t,a,i) with
   | none=>
    refine zde ⟨_,rfl,?_,s03⟩
    rw [zdf,hb]
    show H3 Da=some (.lst (zcp (_++[])))
    rw [List.append_nil]
    exact s3 _ _ e2
   | some j=>
    rw [hb] at dg
    refine zft ?_
    refine ⟨_,rfl,p,C,dx,_,_,rfl,s03 _ _ hp,T.cl,T.nE,zfu,_,rfl,_,rfl,_,rfl,szl rfl,fun kt2 hkt2=>?_⟩
    have s4:=zag (o:=.tup ((zc5 (t,a,i)).map kV)) hkt2
    have e4:upd H3 kt2 (.tup ((zc5 (t,a,i)).map kV)) kt2=some (.tup ((zc5 (t,a,i)).map kV)):=zab
    rw [ek]
    generalize upd H3 kt2 (.tup ((zc5 (t,a,i)).map kV))=H4 at*
    have s04:=s03.trans s4
    have dg4:=zev.t (k:=zc5 (t,a,i)) (s04 _ _ hbd) e4
    rw [hkv,hb] at dg4
    refine ⟨bd,_,rfl,dg4,_,s4 _ _ (s3 _ _ e2),?_,_,rfl,?_,fun b o e=>?_⟩
    ·unfold zcp
     rw [ZAu]
     exact zan (by lia)
    ·rw [zab,zdf,hb]
     unfold zcp
     rw [ZA9]
     rfl
    ·rw [zaf (zaa e hDa)]
     exact s04 _ _ e
  ·rintro σ' H2 ⟨v,rfl,e2,s2⟩
   exact k Da H2 hDa s2 e2
theorem zz3:zam ["self","b"] ["self","b"] (zae sC_Closing_ties_to):=scm
theorem zBa:zbw (zae sC_Closing_ties_to) ["self","b"] (fsc [(".0",.local),("a",.local),("b",.free),("self",.free)]) ["a","b","self"] [none,some 1,some 0]:=com
theorem zAo:(["a","b","self"]:List Str).Nodup:=by decide+kernel
theorem ok_tiesTo {f C:Addr} {fd:FuncData} (F:Fun K "ties_to" "Closing.ties_to" sC_Closing_ties_to f fd) (T:zhe K mg C):za3 P w K mg base CX0 1 f fd ["self","b"] (zxx C):=by
 refine F.ok zz3 (fun _ _ _ _ h=>?_) fun _ A _ s H _ Q E hr h=>?_
 ·obtain ⟨_,_,_,_,_,_,_,_,rfl,_⟩:=h
  rfl
 ·obtain ⟨p,be,rl,bd,n,Fa,st,b0,rfl,c,h8,k⟩:=h
  have hu:=zei hr
  refine ⟨_,zad (zaq (zcv rfl (zcs rfl T.range (pa1 (zat (pv 0) rfl))) zBa (fun cl ex s0 H0=>⟨zci 0 zAo,zda (zg5 (zp0 hu (zbf (pa3 zbd (pv 0) (pv 1))) (zeg (K:=K) rfl (pv 2) rfl)) (by with_unfolding_all rfl)),zcd hu (zeg (K:=K) rfl (pv 2) rfl) (zbf (pa3 zbd (pv 0) (pv 1))) (fun _ _=>rfl)⟩))),?_⟩
  obtain ⟨dx,hp⟩:=c.ins
  obtain ⟨kvs,hbd,hkl,hkv⟩:=c.best
  refine ⟨_,rfl,p,C,dx,_,_,rfl,hp,T.cl,T.nM,ztu,_,rfl,by lia,by lia,fun Da hDa=>?_⟩
  refine zeb (n:=((n:Int)).toNat) (fun i σ' H'=>∃v,σ'=[v,some (.int (b0:Int)),some (.ref p)]/\H' Da=some (.lst (zcp ((List.range i).filterMap fun a=>st.best (true,a,b0))))/\zbe H H') ⟨none,rfl,zab,zag hDa⟩ ?_ ?_
  ·rintro i σ' H2 hi ⟨v,rfl,e2,s2⟩
   have hin:i<n:=by lia
   have ei:((0:Int)+(i:Int))=(i:Int):=by lia
   refine ⟨_,rfl,_,rfl,szl rfl,fun kt hkt=>?_⟩
   rw [ei]
   have s3:=zag (o:=.tup ((zc5 (true,i,b0)).map kV)) hkt
   have e3:upd H2 kt (.tup ((zc5 (true,i,b0)).map kV)) kt=some (.tup ((zc5 (true,i,b0)).map kV)):=zab
   have ek:(HO.tup [V.str "tie",V.int (i:Int),V.int (b0:Int)])=.tup ((zc5 (true,i,b0)).map kV):=rfl
   rw [ek]
   generalize upd H2 kt (.tup ((zc5 (true,i,b0)).map kV))=H3 at*
   have s03:=s2.trans s3
   have dg:=zev.t (k:=zc5 (true,i,b0)) (s03 _ _ hbd) e3
   rw [hkv] at dg
   refine ⟨_,rfl,p,C,dx,_,_,rfl,s03 _ _ hp,T.cl,T.nE,zfu,bd,_,rfl,dg,_,rfl,?_⟩
   have fl:((List.range i).filterMap fun a=>st.best (true,a,b0)).length<=i:=by
    have:=List.length_filterMap_le (fun a=>st.best (true,a,b0)) (List.range i)
    rw [List.length_range] at this
    exact this
   cases hb:st.best (true,i,b0) with
   | none=>
    refine zde ⟨_,rfl,?_,s03⟩
    rw [zdf,hb]
    show H3 Da=some (.lst (zcp (_++[])))
    rw [List.append_nil]
    exact s3 _ _ e2
   | some j=>
    rw [hb] at dg
    refine zft ?_
    refine ⟨_,rfl,p,C,dx,_,_,rfl,s03 _ _ hp,T.cl,T.nE,zfu,_,rfl,_,rfl,szl rfl,fun kt2 hkt2=>?_⟩
    have s4:=zag (o:=.tup ((zc5 (true,i,b0)).map kV)) hkt2
    have e4:upd H3 kt2 (.tup ((zc5 (true,i,b0)).map kV)) kt2=some (.tup ((zc5 (true,i,b0)).map kV)):=zab
    rw [ek]
    generalize upd H3 kt2 (.tup ((zc5 (true,i,b0)).map kV))=H4 at*
    have s04:=s03.trans s4
    have dg4:=zev.t (k:=zc5 (true,i,b0)) (s04 _ _ hbd) e4
    rw [hkv,hb] at dg4
    refine ⟨bd,_,rfl,dg4,_,s4 _ _ (s3 _ _ e2),?_,_,rfl,?_,fun b o e=>?_⟩
    ·unfold zcp
     rw [ZAu]
     exact zan (by lia)
    ·rw [zab,zdf,hb]
     unfold zcp
     rw [ZA9]
     rfl
    ·rw [zaf (zaa e hDa)]
     exact s04 _ _ e
  ·rintro σ' H2 ⟨v,rfl,e2,s2⟩
   exact k Da H2 hDa s2 e2
end Y0
namespace MU
def zxb (F:zaz) (st:St):Prop:=∀i w,wat st i=some w->w.tie=false->∃f,F w.b=some f
structure Sta (n:Nat) (F:zaz) (st:St):Prop where
 good:zdq n st
 ends:zxb F st
def zvl (n:Nat) (F:zaz) (w:zas):Prop:=Fit n w/\(w.tie=false->∃f,F w.b=some f)
variable {n:Nat} {F:zaz} {most:Int} {st:St}
theorem Sta.put (h:Sta n F st) {o:Option zas} {wd:Wd} {us:List Nat} (ho:∀w,o=some w->zvl n F w):Sta n F (put st o wd us):=by
 refine ⟨zjj h.good fun w e=>(ho w e).1,fun i w hw ht=>?_⟩
 by_cases hi:i<st.rows.length
 ·exact h.ends i w (zhi (zed _ _ _ _) hi hw) ht
 ·exact (zee (C:=fun w=>w.tie=false->∃f,F w.b=some f) (fun w e=>(ho w e).2) i w (by lia) hw) ht
theorem zsw {p q w:zas} (h1:p.a<n) (h2:q.b<n) (h:za1 p q=some w):zvl n F w:=by
 unfold za1 at h
 split at h
 ·cases h;exact ⟨⟨h1,h2,fun z=>nomatch z⟩,fun z=>nomatch z⟩
 ·cases h
theorem zu4 {p w:zas} (h1:p.a<n) (h2:p.b<n) (h:zbh F p=some w):zvl n F w:=by
 refine ⟨zhp p w h1 h2 h,fun _=>?_⟩
 unfold zbh at h
 split at h
 ·cases q:F p.b with
  | none=>rw [q] at h;cases h
  | some f=>rw [q] at h;cases h;exact ⟨f,q⟩
 ·cases h
theorem zuc (hF:FOk n F most) {p w:zas} (h1:p.a<n) (h2:p.b<n) (h:zbq F p=some w):zvl n F w:=by
 refine ⟨zhl hF p w h1 h2 h,fun ht=>?_⟩
 unfold zbq at h
 split at h
 ·cases q:F p.a with
  | none=>rw [q] at h;cases h
  | some f=>rw [q] at h;cases h;cases ht
 ·cases h
theorem zt9 (hF:FOk n F most) {p w:zas} (h1:p.a<n) (h2:p.b<n) (h:zbg F p=some w):zvl n F w:=by
 refine ⟨zi9 hF p w h1 h2 h,fun ht=>?_⟩
 unfold zbg at h
 split at h
 ·cases q:F p.b with
  | none=>rw [q] at h;cases h
  | some f=>rw [q] at h;cases h;cases ht
 ·cases h
theorem zq7 {p q w:zas} (h1:p.a<n) (h2:p.b<n) (h3:q.a<n) (h4:q.b<n) (h:zau F p q=some w):zvl n F w:=by
 refine ⟨zj1 p q w h1 h2 h3 h4 h,fun _=>?_⟩
 unfold zau at h
 split at h
 ·cases e:F p.b with
  | none=>rw [e] at h;cases h
  | some f=>rw [e] at h;cases h;exact ⟨f,e⟩
 ·cases h
theorem zsp (hF:FOk n F most) {p w:zas} (h1:p.a<n) (h2:p.b<n) (h:zay F p=some w):zvl n F w:=by
 refine ⟨zic hF p w h1 h2 h,fun _=>?_⟩
 unfold zay at h
 split at h
 ·cases e:F p.a with
  | none=>rw [e] at h;cases h
  | some o=>
   rw [e] at h
   have h:(F p.b).map (fun f=>(⟨false,o.1,p.b,min p.v f.2.2-o.2.1⟩:zas))=some w:=h
   cases e2:F p.b with
   | none=>rw [e2] at h;cases h
   | some f=>rw [e2] at h;cases h;exact ⟨f,e2⟩
 ·cases h
theorem zso {f:zas->Option zas} {wd:Wd} {i:Nat} {x:zas} (h:wat st i=some x):za2 f wd i st=put st (f x) wd [i]:=by
 unfold za2
 rw [h]
 rfl
theorem zsn {f:zas->zas->Option zas} {wd:Wd} {i j:Nat} {x y:zas} (h:wat st i=some x) (h':wat st j=some y):zar f wd i j st=put st (f x y) wd [i,j]:=by
 unfold zar
 rw [h]
 show put st ((wat st j).bind fun q=>f x q) wd [i,j]=_
 rw [h']
 rfl
theorem zfl {f:St->Nat->St} {l:List Nat} {i j:Nat} (h:l[i]?=some j):(l.take (i+1)).foldl f st=f ((l.take i).foldl f st) j:=by
 rw [ZBu,h,List.foldl_append]
 rfl
end MU
namespace Y0
open PySem L2
seal L2.PE L2.PA L2.PT L2.PS L2.PSs L2.PG L2.PGs L2.PI L2.PO
section
variable {C p be rl bd:Addr} {n:Nat} {F:MU.zaz} {st:MU.St} {σ:L2.St} {H:Hp} {Q:VK} {E:XK}
theorem zxe {at_:Nat} {i:Nat} {R:List V->Hp->Prop} (h1:σ[i]?=some (some (.int (at_:Int)))) (k:∀t,H t=none->R [.ref t] (upd H t (.tup ([at_].map fun i:Nat=>V.int (i:Int))))):zex (zxm (zex (zt3 i) zrb)) zrb σ H R:=
 ⟨_,h1,szl rfl,fun t ht=>k t ht⟩
theorem zxd {a b:Nat} {i j:Nat} {R:List V->Hp->Prop} (h1:σ[i]?=some (some (.int (a:Int)))) (h2:σ[j]?=some (some (.int (b:Int)))) (k:∀t,H t=none->R [.ref t] (upd H t (.tup ([a,b].map fun i:Nat=>V.int (i:Int))))):zex (zxm (zex (zt3 i) (zex (zt3 j) zrb))) zrb σ H R:=
 ⟨_,h1,_,h2,szl rfl,fun t ht=>k t ht⟩
theorem zez {us:List Nat} {xs:List MU.zas} {wd:MU.Wd} {o:Option MU.zas} {tu:TA} {word:Str} (hw:word=zfo wd) (h0:σ[0]?=some (some (.ref p))) (c:Clo C H p be rl bd n F st) (g:MU.zdq n st)
 (hu:∀R:List V->Hp->Prop,(∀t,H t=none->R [.ref t] (upd H t (.tup (us.map fun i:Nat=>V.int (i:Int)))))->tu σ H R) (hx:Paired (fun i x=>MU.wat st i=some x) us xs) (ask:zhg F (zfo wd) xs o) (hlen:st.rows.length<=16500000)
 (k:∀H',Clo C H' p be rl bd n F (MU.put st o wd us)->zb2 p rl bd H H'->Q .non H'):zt6 C "draw" (zmp C) [] E (zt3 0) (zex (tC (.str word)) tu) σ H Q:=by
 subst hw
 obtain ⟨dx,hp⟩:=c.ins
 refine ⟨_,h0,p,dx,_,rfl,hp,zoe (by decide+kernel) (by decide+kernel) (by decide+kernel) (by decide+kernel) (by decide+kernel),?_⟩
 refine hu _ fun t ht=>?_
 have s1:=zag (o:=.tup (us.map fun i:Nat=>V.int (i:Int))) ht
 exact ⟨p,be,rl,bd,t,n,F,st,wd,us,xs,o,rfl,c.same s1,g,zab,hx,ask,hlen,fun H' c' k'=>k H' c' ((zb2.of s1).trans k')⟩
end
theorem Clo.apart {C p be rl bd la:Addr} {H:Hp} {n:Nat} {F:MU.zaz} {st:MU.St} (c:Clo C H p be rl bd n F st) (h:H la=none):la≠p/\la≠rl/\la≠bd:=by
 obtain ⟨dx,hp⟩:=c.ins
 obtain ⟨qs,hrl,_⟩:=c.rows
 obtain ⟨kvs,hbd,_⟩:=c.best
 exact ⟨ZAl (zaa hp h),ZAl (zaa hrl h),ZAl (zaa hbd h)⟩
def zkk (C:Addr):Sp:=fun vs H Q _=>∃(p be rl bd:Addr) (n:Nat) (F:MU.zaz) (st:MU.St) (at_:Nat) (x:MU.zas),vs=[.ref p,.int (at_:Int),.int (x.a:Int),.int (x.b:Int)]/\Clo C H p be rl bd n F st/\MU.Sta n F st/\MU.FOk n F ((60:Nat):Int)/\MU.wat st at_=some x/\x.tie=true/\n<=8/\st.rows.length<=16000000/\
 ∀H',Clo C H' p be rl bd n F (MU.zbz n F at_ x.a x.b st)->MU.Sta n F (MU.zbz n F at_ x.a x.b st)->zb2 p rl bd H H'->Q .non H'
def zis (C:Addr):Sp:=fun vs H Q _=>∃(p be rl bd:Addr) (n:Nat) (F:MU.zaz) (st:MU.St) (at_:Nat) (x:MU.zas),vs=[.ref p,.int (at_:Int),.int (x.a:Int)]/\Clo C H p be rl bd n F st/\MU.Sta n F st/\MU.FOk n F ((60:Nat):Int)/\MU.wat st at_=some x/\x.tie=false/\n<=8/\st.rows.length<=16000000/\
 ∀H',Clo C H' p be rl bd n F (MU.za6 n F at_ x.a st)->MU.Sta n F (MU.za6 n F at_ x.a st)->zb2 p rl bd H H'->Q .non H'
abbrev nFt:List Str:=["self","at","a","b","number"]
theorem zxh:zam nFt ["self","at","a","b"] (zae sC_Closing_draw_from_tie):=scm
abbrev nFw:List Str:=["self","at","a","number"]
theorem zzg:zam nFw ["self","at","a"] (zae sC_Closing_draw_from_wait):=scm
theorem ok_fromWait {f C fD fZ:Addr} {fd fdD fdZ:FuncData} (F:Fun K "draw_from_wait" "Closing.draw_from_wait" sC_Closing_draw_from_wait f fd) (T:zhe K mg C)
 (mD:zf4 K C "draw" fD) (bD:zb5 K fdD ["self","word","used"] []) (GD:za3 P w K mg base CX0 3 fD fdD ["self","word","used"] (zmp C))
 (mZ:zf4 K C "ties_to" fZ) (bZ:zb5 K fdZ ["self","b"] []) (GZ:za3 P w K mg base CX0 1 fZ fdZ ["self","b"] (zxx C)):za3 P w K mg base CX0 4 f fd ["self","at","a"] (zis C):=by
 refine F.ok zzg (fun _ _ _ _ h=>?_) fun _ A _ s H _ Q E hr h=>?_
 ·obtain ⟨_,_,_,_,_,_,_,_,_,rfl,_⟩:=h
  rfl
 ·obtain ⟨p,be,rl,bd,n,Fa,st,at_,x,rfl,c,S,hF,hx,ht,h8,hlen,k⟩:=h
  have hr1:zd2 1 _:=hr.mono (by decide)
  refine ⟨_,zac (za7 (za8 (pv 0) T.cl mD GD hr bD .nil zb3 (pa2 zbd (zbf (pa1 (pv 1))))))
   (zac (za7 (za8 (pv 0) T.cl mD GD hr bD .nil zb3 (pa2 zbd (zbf (pa1 (pv 1))))))
   (zad (zb7 PassesOwn.never rfl (za4 (za8 (pv 0) T.cl mZ GZ hr1 bZ .nil zb3 (pa1 (pv 2)))) (zci 3 zzg.nd)
    (zad (za7 (za8 (pv 0) T.cl mD GD hr bD .nil zb3 (pa2 zbd (zbf (pa2 (pv 1) (pv 3)))))))))),?_⟩
  obtain ⟨xa,xb⟩:=S.good.lt _ _ hx
  obtain ⟨fa,hfa⟩:=S.ends _ _ hx ht
  have d1:MU.za2 (MU.zbg Fa) .sure at_ st=MU.put st (MU.zbg Fa x) .sure [at_]:=MU.zso hx
  have S1:MU.Sta n Fa (MU.put st (MU.zbg Fa x) .sure [at_]):=S.put fun w e=>MU.zt9 hF xa xb e
  have hx1:MU.wat (MU.put st (MU.zbg Fa x) .sure [at_]) at_=some x:=MU.zax (MU.zed _ _ _ _) hx
  have l1:=MU.zb9 st (MU.zbg Fa x) .sure [at_]
  have goal:MU.za6 n Fa at_ x.a st=(MU.zbx n (MU.za2 (MU.zay Fa) .cross at_ (MU.za2 (MU.zbg Fa) .sure at_ st)) x.a).foldl (fun st j=>MU.zar (MU.zau Fa) .back at_ j st) (MU.za2 (MU.zay Fa) .cross at_ (MU.za2 (MU.zbg Fa) .sure at_ st)):=rfl
  rw [d1] at goal
  refine fun N1 c1=>zez (wd:=.sure) rfl rfl c S.good (fun R z=>zxe rfl z) (.cons hx .nil) (.sure x fa ht hfa) (by lia) fun H1 C1 k1=>c1 _ _ ?_
  generalize MU.put st (MU.zbg Fa x) .sure [at_]=st1 at*
  clear c1 N1
  have d2:MU.za2 (MU.zay Fa) .cross at_ st1=MU.put st1 (MU.zay Fa x) .cross [at_]:=MU.zso hx1
  have S2:MU.Sta n Fa (MU.put st1 (MU.zay Fa x) .cross [at_]):=S1.put fun w e=>MU.zsp hF xa xb e
  have hx2:MU.wat (MU.put st1 (MU.zay Fa x) .cross [at_]) at_=some x:=MU.zax (MU.zed _ _ _ _) hx1
  have l2:=MU.zb9 st1 (MU.zay Fa x) .cross [at_]
  rw [d2] at goal
  refine fun N2 c2=>zez (wd:=.cross) rfl rfl C1 S1.good (fun R z=>zxe rfl z) (.cons hx1 .nil) (.cross x fa ht hfa) (by lia) fun H2 C2 k2=>c2 _ _ ?_
  generalize MU.put st1 (MU.zay Fa x) .cross [at_]=st2 at*
  clear c2 N2
  have k02:=k1.trans k2
  obtain ⟨dx,hp⟩:=C2.ins
  refine ⟨_,rfl,p,dx,_,rfl,hp,zoe (by decide+kernel) (by decide+kernel) (by decide+kernel) (by decide+kernel) (by decide+kernel),_,rfl,p,be,rl,bd,n,Fa,st2,x.a,rfl,C2,h8,fun la H3 hla s3 e3=>?_⟩
  obtain ⟨n1,n2,n3⟩:=C2.apart hla
  have C3:=C2.same s3
  refine ⟨la,rfl,⟨_,SqL.of e3⟩,?_⟩
  have hmem:∀j∈MU.zbx n st2 x.a,∃y,MU.wat st2 j=some y/\y.tie=true/\y.a<n/\y.b<n:=fun j hj=>by
   obtain ⟨cc,_,hb⟩:=MU.zfb hj
   obtain ⟨y,hy,hk⟩:=S2.good.at_ _ _ hb
   obtain ⟨q1,q2,q3⟩:=MU.zc4 hk
   exact ⟨y,hy,q1,S2.good.lt _ _ hy⟩
  have tl:=MU.zfc (n:=n) (st:=st2) (b:=x.a)
  generalize MU.zbx n st2 x.a=L at*
  refine zbu (K:=K) (a:=la) (xs:=zcp L) (fun i σ' H'=>∃v,σ'=[some (.ref p),some (.int (at_:Int)),some (.int (x.a:Int)),v]/\Clo C H' p be rl bd n Fa ((L.take i).foldl (fun st j=>MU.zar (MU.zau Fa) .back at_ j st) st2)/\MU.Sta n Fa ((L.take i).foldl (fun st j=>MU.zar (MU.zau Fa) .back at_ j st) st2)/\MU.Ext st2 ((L.take i).foldl (fun st j=>MU.zar (MU.zau Fa) .back at_ j st) st2)/\zb2 p rl bd H3 H') ⟨none,rfl,C3,S2,MU.Ext.refl _,zb2.of (zbe.refl _)⟩ ?_ ?_ ?_
  ·rintro i σ' H4 _ ⟨v,rfl,_,_,_,k4⟩
   exact SqL.of (k4 _ _ e3 n1 n2 n3)
  ·rintro i y σ' H4 hy ⟨v,rfl,C4,S4,x4,k4⟩
   unfold zcp at hy
   rw [ZA0] at hy
   cases q:L[i]? with
   | none=>rw [q] at hy;cases hy
   | some j=>
    rw [q] at hy
    cases hy
    obtain ⟨y,hyj,yt,ya,yb⟩:=hmem j (ZA1 q)
    have fl:=MU.zch (f:=fun st j=>MU.zar (MU.zau Fa) .back at_ j st) (fun _ _=>MU.zb9 _ _ _ _) (L.take i) st2
    rw [ZBl] at fl
    rw [MU.zfl q]
    have hx4:=MU.zax x4 hx2
    have hy4:=MU.zax x4 hyj
    have e4:MU.zar (MU.zau Fa) .back at_ j ((L.take i).foldl (fun st j=>MU.zar (MU.zau Fa) .back at_ j st) st2)=MU.put ((L.take i).foldl (fun st j=>MU.zar (MU.zau Fa) .back at_ j st) st2) (MU.zau Fa x y) .back [at_,j]:=MU.zsn hx4 hy4
    rw [e4]
    generalize (L.take i).foldl (fun st j=>MU.zar (MU.zau Fa) .back at_ j st) st2=st4 at*
    refine zez (wd:=.back) rfl rfl C4 S4.good (fun R z=>zxd rfl rfl z) (.cons hx4 (.cons hy4 .nil)) (.back x y fa ht yt hfa) (by lia) fun H5 C5 k5=>⟨_,rfl,C5,S4.put fun w e=>MU.zq7 xa xb ya yb e,x4.trans (MU.zed _ _ _ _),k4.trans k5⟩
  ·rintro σ' H4 ⟨v,rfl,C4,S4,x4,k4⟩
   have hall:L.take (zcp L).length=L:=by unfold zcp;rw [ZAu];exact ZBi
   rw [hall,<-goal] at C4 S4
   exact k H4 C4 S4 ((k02.trans (zb2.of s3)).trans k4)
theorem ok_fromTie {f C fD fZ fK:Addr} {fd fdD fdZ fdK:FuncData} (F:Fun K "draw_from_tie" "Closing.draw_from_tie" sC_Closing_draw_from_tie f fd) (T:zhe K mg C)
 (mD:zf4 K C "draw" fD) (bD:zb5 K fdD ["self","word","used"] []) (GD:za3 P w K mg base CX0 3 fD fdD ["self","word","used"] (zmp C))
 (mZ:zf4 K C "ties_to" fZ) (bZ:zb5 K fdZ ["self","b"] []) (GZ:za3 P w K mg base CX0 1 fZ fdZ ["self","b"] (zxx C))
 (mK:zf4 K C "known_of" fK) (bK:zb5 K fdK ["self","kind","a"] []) (GK:za3 P w K mg base CX0 1 fK fdK ["self","kind","a"] (zpa C)):za3 P w K mg base CX0 4 f fd ["self","at","a","b"] (zkk C):=by
 refine F.ok zxh (fun _ _ _ _ h=>?_) fun _ A _ s H _ Q E hr h=>?_
 ·obtain ⟨_,_,_,_,_,_,_,_,_,rfl,_⟩:=h
  rfl
 ·obtain ⟨p,be,rl,bd,n,Fa,st,at_,x,rfl,c,S,hF,hx,ht,h8,hlen,k⟩:=h
  have hr1:zd2 1 _:=hr.mono (by decide)
  refine ⟨_,zac (za7 (za8 (pv 0) T.cl mD GD hr bD .nil zb3 (pa2 zbd (zbf (pa1 (pv 1))))))
   (zac (za7 (za8 (pv 0) T.cl mD GD hr bD .nil zb3 (pa2 zbd (zbf (pa1 (pv 1))))))
   (zac (zb7 PassesOwn.never rfl (za4 (za8 (pv 0) T.cl mK GK hr1 bK .nil zb3 (pa2 zbd (pv 3)))) (zci 4 zxh.nd)
    (zad (za7 (za8 (pv 0) T.cl mD GD hr bD .nil zb3 (pa2 zbd (zbf (pa2 (pv 1) (pv 4))))))))
   (zac (zb7 PassesOwn.never rfl (za4 (za8 (pv 0) T.cl mZ GZ hr1 bZ .nil zb3 (pa1 (pv 2)))) (zci 4 zxh.nd)
    (zad (za7 (za8 (pv 0) T.cl mD GD hr bD .nil zb3 (pa2 zbd (zbf (pa2 (pv 4) (pv 1))))))))
   (zad (zb7 PassesOwn.never rfl (za4 (za8 (pv 0) T.cl mK GK hr1 bK .nil zb3 (pa2 zbd (pv 3)))) (zci 4 zxh.nd)
    (zad (za7 (za8 (pv 0) T.cl mD GD hr bD .nil zb3 (pa2 zbd (zbf (pa2 (pv 4) (pv 1)))))))))))),?_⟩
  obtain ⟨xa,xb⟩:=S.good.lt _ _ hx
  have d1:MU.za2 (MU.zbh Fa) .late at_ st=MU.put st (MU.zbh Fa x) .late [at_]:=MU.zso hx
  have S1:MU.Sta n Fa (MU.put st (MU.zbh Fa x) .late [at_]):=S.put fun w e=>MU.zu4 xa xb e
  have hx1:MU.wat (MU.put st (MU.zbh Fa x) .late [at_]) at_=some x:=MU.zax (MU.zed _ _ _ _) hx
  have l1:=MU.zb9 st (MU.zbh Fa x) .late [at_]
  generalize hgoal:MU.zbz n Fa at_ x.a x.b st=fin at*
  unfold MU.zbz at hgoal
  dsimp only at hgoal
  rw [d1] at hgoal
  refine fun N1 c1=>zez (wd:=.late) rfl rfl c S.good (fun R z=>zxe rfl z) (.cons hx .nil) (.late x ht) (by lia) fun H1 C1 k1=>c1 _ _ ?_
  generalize MU.put st (MU.zbh Fa x) .late [at_]=st1 at*
  clear c1 N1
  have d2:MU.za2 (MU.zbq Fa) .soon at_ st1=MU.put st1 (MU.zbq Fa x) .soon [at_]:=MU.zso hx1
  have S2:MU.Sta n Fa (MU.put st1 (MU.zbq Fa x) .soon [at_]):=S1.put fun w e=>MU.zuc hF xa xb e
  have hx2:MU.wat (MU.put st1 (MU.zbq Fa x) .soon [at_]) at_=some x:=MU.zax (MU.zed _ _ _ _) hx1
  have l2:=MU.zb9 st1 (MU.zbq Fa x) .soon [at_]
  rw [d2] at hgoal
  refine fun N2 c2=>zez (wd:=.soon) rfl rfl C1 S1.good (fun R z=>zxe rfl z) (.cons hx1 .nil) (.soon x ht) (by lia) fun H2 C2 k2=>c2 _ _ ?_
  generalize MU.put st1 (MU.zbq Fa x) .soon [at_]=st2 at*
  clear c2 N2
  have kA:=k1.trans k2
  clear k1 k2
  have v4:∃v:Option V,(none:Option V)=v:=⟨_,rfl⟩
  obtain ⟨v4,hv4⟩:=v4
  have lenA:st2.rows.length<=st.rows.length+2:=by lia
  refine fun N3 c3=>?_
  obtain ⟨dx,hp⟩:=C2.ins
  refine ⟨_,rfl,p,dx,_,rfl,hp,zoe (by decide+kernel) (by decide+kernel) (by decide+kernel) (by decide+kernel) (by decide+kernel),_,rfl,p,be,rl,bd,n,Fa,st2,true,x.b,rfl,C2,h8,fun la H3 hla s3 e3=>?_⟩
  obtain ⟨n1,n2,n3⟩:=C2.apart hla
  have C3:=C2.same s3
  refine ⟨la,rfl,⟨_,SqL.of e3⟩,?_⟩
  have hmem:∀j∈MU.za5 n st2 true x.b,∃y,MU.wat st2 j=some y/\y.tie=true/\y.a<n/\y.b<n:=fun j hj=>by
   obtain ⟨cc,_,hb⟩:=MU.zh5 hj
   obtain ⟨y,hy,hk⟩:=S2.good.at_ _ _ hb
   obtain ⟨q1,q2,q3⟩:=MU.zc4 hk
   exact ⟨y,hy,q1,S2.good.lt _ _ hy⟩
  have tl:(MU.za5 n st2 true x.b).length<=n:=MU.zgf
  generalize MU.za5 n st2 true x.b=L at*
  refine zbu (K:=K) (a:=la) (xs:=zcp L) (fun i σ' H'=>∃v,σ'=[some (.ref p),some (.int (at_:Int)),some (.int (x.a:Int)),some (.int (x.b:Int)),v]/\Clo C H' p be rl bd n Fa ((L.take i).foldl (fun st j=>MU.zar MU.za1 .sum at_ j st) st2)/\MU.Sta n Fa ((L.take i).foldl (fun st j=>MU.zar MU.za1 .sum at_ j st) st2)/\MU.Ext st2 ((L.take i).foldl (fun st j=>MU.zar MU.za1 .sum at_ j st) st2)/\zb2 p rl bd H3 H') ⟨_,rfl,C3,S2,MU.Ext.refl _,zb2.of (zbe.refl _)⟩ ?_ ?_ ?_
  ·rintro i σ' H4 _ ⟨v,rfl,_,_,_,k4⟩
   exact SqL.of (k4 _ _ e3 n1 n2 n3)
  ·rintro i y σ' H4 hy ⟨v,rfl,C4,S4,x4,k4⟩
   unfold zcp at hy
   rw [ZA0] at hy
   cases q:L[i]? with
   | none=>rw [q] at hy;cases hy
   | some j=>
    rw [q] at hy
    cases hy
    obtain ⟨y,hyj,yt,ya,yb⟩:=hmem j (ZA1 q)
    have fl:=MU.zch (f:=fun st j=>MU.zar MU.za1 .sum at_ j st) (fun _ _=>MU.zb9 _ _ _ _) (L.take i) st2
    rw [ZBl] at fl
    rw [MU.zfl q]
    have hx4:=MU.zax x4 hx2
    have hy4:=MU.zax x4 hyj
    have e4:MU.zar MU.za1 .sum at_ j ((L.take i).foldl (fun st j=>MU.zar MU.za1 .sum at_ j st) st2)=MU.put ((L.take i).foldl (fun st j=>MU.zar MU.za1 .sum at_ j st) st2) (MU.za1 x y) .sum [at_,j]:=MU.zsn hx4 hy4
    rw [e4]
    generalize (L.take i).foldl (fun st j=>MU.zar MU.za1 .sum at_ j st) st2=st4 at*
    refine zez (wd:=.sum) rfl rfl C4 S4.good (fun R z=>zxd rfl rfl z) (.cons hx4 (.cons hy4 .nil)) (.sum x y ht yt) (by lia) fun H5 C5 k5=>⟨_,rfl,C5,S4.put fun w e=>MU.zsw xa yb e,x4.trans (MU.zed _ _ _ _),k4.trans k5⟩
  rintro σ' H4 ⟨v1,rfl,C5,S5,x1,k4⟩
  have hall:L.take (zcp L).length=L:=by unfold zcp;rw [ZAu];exact ZBi
  rw [hall] at C5 S5 x1
  refine c3 _ _ ?_
  have kB:=(kA.trans (zb2.of s3)).trans k4
  have hx3:=MU.zax x1 hx2
  have lenB:(L.foldl (fun st j=>MU.zar MU.za1 .sum at_ j st) st2).rows.length<=st.rows.length+(2+1*n):=by
   have:=MU.zch (f:=fun st j=>MU.zar MU.za1 .sum at_ j st) (fun _ _=>MU.zb9 _ _ _ _) L st2
   lia
  generalize L.foldl (fun st j=>MU.zar MU.za1 .sum at_ j st) st2=st3 at*
  clear hmem tl e3 n1 n2 n3 C3 hla s3 k4 hall x1 hp c3 N3
  refine fun N4 c4=>?_
  obtain ⟨dx,hp⟩:=C5.ins
  refine ⟨_,rfl,p,dx,_,rfl,hp,zoe (by decide+kernel) (by decide+kernel) (by decide+kernel) (by decide+kernel) (by decide+kernel),_,rfl,p,be,rl,bd,n,Fa,st3,x.a,rfl,C5,h8,fun la H3 hla s3 e3=>?_⟩
  obtain ⟨n1,n2,n3⟩:=C5.apart hla
  have C3:=C5.same s3
  refine ⟨la,rfl,⟨_,SqL.of e3⟩,?_⟩
  have hmem:∀j∈MU.zbx n st3 x.a,∃y,MU.wat st3 j=some y/\y.tie=true/\y.a<n/\y.b<n:=fun j hj=>by
   obtain ⟨cc,_,hb⟩:=MU.zfb hj
   obtain ⟨y,hy,hk⟩:=S5.good.at_ _ _ hb
   obtain ⟨q1,q2,q3⟩:=MU.zc4 hk
   exact ⟨y,hy,q1,S5.good.lt _ _ hy⟩
  have tl:(MU.zbx n st3 x.a).length<=n:=MU.zfc
  generalize MU.zbx n st3 x.a=L at*
  refine zbu (K:=K) (a:=la) (xs:=zcp L) (fun i σ' H'=>∃v,σ'=[some (.ref p),some (.int (at_:Int)),some (.int (x.a:Int)),some (.int (x.b:Int)),v]/\Clo C H' p be rl bd n Fa ((L.take i).foldl (fun st j=>MU.zar MU.za1 .sum j at_ st) st3)/\MU.Sta n Fa ((L.take i).foldl (fun st j=>MU.zar MU.za1 .sum j at_ st) st3)/\MU.Ext st3 ((L.take i).foldl (fun st j=>MU.zar MU.za1 .sum j at_ st) st3)/\zb2 p rl bd H3 H') ⟨_,rfl,C3,S5,MU.Ext.refl _,zb2.of (zbe.refl _)⟩ ?_ ?_ ?_
  ·rintro i σ' H4 _ ⟨v,rfl,_,_,_,k4⟩
   exact SqL.of (k4 _ _ e3 n1 n2 n3)
  ·rintro i y σ' H4 hy ⟨v,rfl,C4,S4,x4,k4⟩
   unfold zcp at hy
   rw [ZA0] at hy
   cases q:L[i]? with
   | none=>rw [q] at hy;cases hy
   | some j=>
    rw [q] at hy
    cases hy
    obtain ⟨y,hyj,yt,ya,yb⟩:=hmem j (ZA1 q)
    have fl:=MU.zch (f:=fun st j=>MU.zar MU.za1 .sum j at_ st) (fun _ _=>MU.zb9 _ _ _ _) (L.take i) st3
    rw [ZBl] at fl
    rw [MU.zfl q]
    have hx4:=MU.zax x4 hx3
    have hy4:=MU.zax x4 hyj
    have e4:MU.zar MU.za1 .sum j at_ ((L.take i).foldl (fun st j=>MU.zar MU.za1 .sum j at_ st) st3)=MU.put ((L.take i).foldl (fun st j=>MU.zar MU.za1 .sum j at_ st) st3) (MU.za1 y x) .sum [j,at_]:=MU.zsn hy4 hx4
    rw [e4]
    generalize (L.take i).foldl (fun st j=>MU.zar MU.za1 .sum j at_ st) st3=st4 at*
    refine zez (wd:=.sum) rfl rfl C4 S4.good (fun R z=>zxd rfl rfl z) (.cons hy4 (.cons hx4 .nil)) (.sum y x yt ht) (by lia) fun H5 C5 k5=>⟨_,rfl,C5,S4.put fun w e=>MU.zsw ya xb e,x4.trans (MU.zed _ _ _ _),k4.trans k5⟩
  rintro σ' H4 ⟨v2,rfl,C6,S6,x2,k4⟩
  have hall:L.take (zcp L).length=L:=by unfold zcp;rw [ZAu];exact ZBi
  rw [hall] at C6 S6 x2
  refine c4 _ _ ?_
  have kC:=(kB.trans (zb2.of s3)).trans k4
  have hx4z:=MU.zax x2 hx3
  have lenC:(L.foldl (fun st j=>MU.zar MU.za1 .sum j at_ st) st3).rows.length<=st.rows.length+(2+2*n):=by
   have:=MU.zch (f:=fun st j=>MU.zar MU.za1 .sum j at_ st) (fun _ _=>MU.zb9 _ _ _ _) L st3
   lia
  generalize L.foldl (fun st j=>MU.zar MU.za1 .sum j at_ st) st3=st4z at*
  clear hmem tl e3 n1 n2 n3 C3 hla s3 k4 hall x2 hp c4 N4
  obtain ⟨dx,hp⟩:=C6.ins
  refine ⟨_,rfl,p,dx,_,rfl,hp,zoe (by decide+kernel) (by decide+kernel) (by decide+kernel) (by decide+kernel) (by decide+kernel),_,rfl,p,be,rl,bd,n,Fa,st4z,false,x.b,rfl,C6,h8,fun la H3 hla s3 e3=>?_⟩
  obtain ⟨n1,n2,n3⟩:=C6.apart hla
  have C3:=C6.same s3
  refine ⟨la,rfl,⟨_,SqL.of e3⟩,?_⟩
  have hmem:∀j∈MU.za5 n st4z false x.b,∃y,MU.wat st4z j=some y/\y.tie=false/\y.a<n/\y.b<n:=fun j hj=>by
   obtain ⟨cc,_,hb⟩:=MU.zh5 hj
   obtain ⟨y,hy,hk⟩:=S6.good.at_ _ _ hb
   obtain ⟨q1,q2,q3⟩:=MU.zc4 hk
   exact ⟨y,hy,q1,S6.good.lt _ _ hy⟩
  have tl:(MU.za5 n st4z false x.b).length<=n:=MU.zgf
  generalize MU.za5 n st4z false x.b=L at*
  refine zbu (K:=K) (a:=la) (xs:=zcp L) (fun i σ' H'=>∃v,σ'=[some (.ref p),some (.int (at_:Int)),some (.int (x.a:Int)),some (.int (x.b:Int)),v]/\Clo C H' p be rl bd n Fa ((L.take i).foldl (fun st j=>MU.zar (MU.zau Fa) .back j at_ st) st4z)/\MU.Sta n Fa ((L.take i).foldl (fun st j=>MU.zar (MU.zau Fa) .back j at_ st) st4z)/\MU.Ext st4z ((L.take i).foldl (fun st j=>MU.zar (MU.zau Fa) .back j at_ st) st4z)/\zb2 p rl bd H3 H') ⟨_,rfl,C3,S6,MU.Ext.refl _,zb2.of (zbe.refl _)⟩ ?_ ?_ ?_
  ·rintro i σ' H4 _ ⟨v,rfl,_,_,_,k4⟩
   exact SqL.of (k4 _ _ e3 n1 n2 n3)
  ·rintro i y σ' H4 hy ⟨v,rfl,C4,S4,x4,k4⟩
   unfold zcp at hy
   rw [ZA0] at hy
   cases q:L[i]? with
   | none=>rw [q] at hy;cases hy
   | some j=>
    rw [q] at hy
    cases hy
    obtain ⟨y,hyj,yt,ya,yb⟩:=hmem j (ZA1 q)
    have fl:=MU.zch (f:=fun st j=>MU.zar (MU.zau Fa) .back j at_ st) (fun _ _=>MU.zb9 _ _ _ _) (L.take i) st4z
    rw [ZBl] at fl
    rw [MU.zfl q]
    have hx4:=MU.zax x4 hx4z
    have hy4:=MU.zax x4 hyj
    have e4:MU.zar (MU.zau Fa) .back j at_ ((L.take i).foldl (fun st j=>MU.zar (MU.zau Fa) .back j at_ st) st4z)=MU.put ((L.take i).foldl (fun st j=>MU.zar (MU.zau Fa) .back j at_ st) st4z) ((MU.zau Fa) y x) .back [j,at_]:=MU.zsn hy4 hx4
    rw [e4]
    obtain ⟨yf,hyf⟩:=S4.ends _ _ hy4 yt
    generalize (L.take i).foldl (fun st j=>MU.zar (MU.zau Fa) .back j at_ st) st4z=st4 at*
    refine zez (wd:=.back) rfl rfl C4 S4.good (fun R z=>zxd rfl rfl z) (.cons hy4 (.cons hx4 .nil)) (.back y x yf yt ht hyf) (by lia) fun H5 C5 k5=>⟨_,rfl,C5,S4.put fun w e=>MU.zq7 ya yb xa xb e,x4.trans (MU.zed _ _ _ _),k4.trans k5⟩
  ·rintro σ' H4 ⟨v,rfl,C4,S4,x4,k4⟩
   have hall:L.take (zcp L).length=L:=by unfold zcp;rw [ZAu];exact ZBi
   rw [hall,hgoal] at C4 S4
   exact k H4 C4 S4 ((kC.trans (zb2.of s3)).trans k4)
structure zsu (n:Nat) (F:MU.zaz) (s0:MU.St) (T:Nat):Prop where
 end_:(MU.run n F s0 T).rows.length<=T\/(MU.run n F s0 T).bar≠none
 first:∀t,t<T->t<(MU.run n F s0 t).rows.length/\(MU.run n F s0 t).bar=none
 few:∀t,t<=T->(MU.run n F s0 t).rows.length<=16000000
def zwa (C:Addr):Sp:=fun vs H Q _=>∃(p be rl bd:Addr) (n:Nat) (F:MU.zaz) (s0:MU.St) (T:Nat),vs=[.ref p]/\Clo C H p be rl bd n F s0/\MU.Sta n F s0/\MU.FOk n F ((60:Nat):Int)/\n<=8/\zsu n F s0 T/\
 ∀H',Clo C H' p be rl bd n F (MU.run n F s0 T)->MU.Sta n F (MU.run n F s0 T)->zb2 p rl bd H H'->Q .non H'
theorem zxj:zam ["self","at","what"] ["self"] (zae sC_Closing_draw_all):=scm
theorem ok_drawAll {f C fT fW:Addr} {fd fdT fdW:FuncData} (F:Fun K "draw_all" "Closing.draw_all" sC_Closing_draw_all f fd) (T:zhe K mg C)
 (mT:zf4 K C "draw_from_tie" fT) (bT:zb5 K fdT ["self","at","a","b"] []) (GT:za3 P w K mg base CX0 4 fT fdT ["self","at","a","b"] (zkk C))
 (mW:zf4 K C "draw_from_wait" fW) (bW:zb5 K fdW ["self","at","a"] []) (GW:za3 P w K mg base CX0 4 fW fdW ["self","at","a"] (zis C)):za3 P w K mg base CX0 5 f fd ["self"] (zwa C):=by
 refine F.ok zxj (fun _ _ _ _ h=>?_) fun _ A _ s H _ Q E hr h=>?_
 ·obtain ⟨_,_,_,_,_,_,_,_,rfl,_⟩:=h
  rfl
 ·obtain ⟨p,be,rl,bd,n,Fa,s0,Te,rfl,c,S,hF,h8,hE,k⟩:=h
  have hu:=zei hr
  refine ⟨_,zac (za9 1 zxj.nd zaj)
   (zad (zm1 PassesOwn.never (PW.pt (zdg (zcy zij (pv 1) (zbs zcz (by rfl) T.len ZAn (pa1 (zat (pv 0) rfl)))) (zdk (zcy zga (zat (pv 0) rfl) zca))))
    (zac (za9 2 zxj.nd (ixT (zbj zal (zat (pv 0) rfl) (pv 1) (fun _ _=>rfl))))
    (zac (ziw (zbn (zcy zcf (zcd hu (zat (pv 0) rfl) (zf9 zms (pv 2) zhx (zhw zaj)) (fun _ _=>rfl)) (pv 1))
     (zad (zbn (zcy zcf (ixT (pv 2)) zbd)
      (zad (za7 (za8 (pv 0) T.cl mT GT hr bT .nil zb3 (pa3 (pv 1) (ixT (pv 2)) (ixT (pv 2))))))
      (zad (za7 (za8 (pv 0) T.cl mW GW hr bW .nil zb3 (pa2 (pv 1) (ixT (pv 2)))))))) zap))
    (zad (zpr (i:=1) zxj.nd rfl (Or.inl rfl) zaj zqf)))))),?_⟩
  refine fun N1 c1=>c1 _ _ ?_
  refine ⟨fun m σ' H'=>∃t v,t+m=Te/\σ'=[some (.ref p),some (.int (t:Int)),v]/\Clo C H' p be rl bd n Fa (MU.run n Fa s0 t)/\MU.Sta n Fa (MU.run n Fa s0 t)/\zb2 p rl bd H H',⟨Te,0,none,by lia,rfl,c,S,zb2.of (zbe.refl _)⟩,?_⟩
  rintro m σ' H1 ⟨t,v,htm,rfl,C1,S1,k1⟩
  obtain ⟨dx,hp⟩:=C1.ins
  obtain ⟨qs,hrl,hrows⟩:=C1.rows
  obtain ⟨kvs,hbd,hkl,hkv⟩:=C1.best
  have hql:qs.length=(MU.run n Fa s0 t).rows.length:=Paired.length hrows
  refine ⟨_,rfl,_,rfl,p,C,dx,_,_,rfl,hp,T.cl,T.nR,zgm,rl,_,rfl,.inl (SqL.of hrl),_,_,rfl,rfl,_,rfl,?_⟩
  rw [ZAu,hql]
  have ending:∀b,(MU.run n Fa s0 t).rows.length<=t\/(MU.run n Fa s0 t).bar≠none->b=false->if b=true then (∃N:L2.St->Hp->Prop,(∀σ' H',N σ' H'->∃m',m'<m/\∃t v,t+m'=Te/\σ'=[some (.ref p),some (.int (t:Int)),v]/\Clo C H' p be rl bd n Fa (MU.run n Fa s0 t)/\MU.Sta n Fa (MU.run n Fa s0 t)/\zb2 p rl bd H H')/\False) else Q .non H1:=fun b hst hb=>by
   have e:t=Te:=ZAz fun z=>by
    have:=hE.first t (by lia)
    rcases hst with y | y
    ·lia
    ·exact y this.2
   rw [if_neg (by rw [hb];decide)]
   rw [e] at C1 S1
   exact k H1 C1 S1 k1
  by_cases hlt:t<(MU.run n Fa s0 t).rows.length
  ·refine zep (by lia) ⟨_,rfl,p,C,dx,_,_,rfl,hp,T.cl,T.nX,zsq,rfl,_,rfl,?_⟩
   rw [zq6]
   by_cases hb:(MU.run n Fa s0 t).bar=none
   ·refine zep hb ?_
    have htT:t<Te:=ZAz fun z=>by
     have e:t=Te:=by lia
     rcases hE.end_ with y | y
     ·rw [<-e] at y;lia
     ·rw [<-e] at y;exact y hb
    refine ⟨fun σ' H'=>∃m',m'<m/\∃t v,t+m'=Te/\σ'=[some (.ref p),some (.int (t:Int)),v]/\Clo C H' p be rl bd n Fa (MU.run n Fa s0 t)/\MU.Sta n Fa (MU.run n Fa s0 t)/\zb2 p rl bd H H',fun σ' H' z=>z,?_⟩
    obtain ⟨x,hx⟩:∃x,MU.wat (MU.run n Fa s0 t) t=some x:=⟨_,by unfold MU.wat;rw [ZAx hlt];rfl⟩
    obtain ⟨q',r,pw,pu,g1,g2,g3,g4,g5,g6⟩:=zjf hrows hx
    have hat:atI (qs.map V.ref) (t:Int)=some (.ref q'):=zb1 (by rw [ZA0,g1];rfl)
    refine fun N2 c2=>⟨_,rfl,p,C,dx,_,_,rfl,hp,T.cl,T.nR,zgm,zvq rfl hrl hat (rdT g4 rfl (c2 _ _ ?_))⟩
    clear c2 N2
    refine fun N3 c3=>⟨fun σ' H'=>σ'=[some (.ref p),some (.int (t:Int)),some (.ref pw)]/\Clo C H' p be rl bd n Fa (MU.run n Fa s0 (t+1))/\MU.Sta n Fa (MU.run n Fa s0 (t+1))/\zb2 p rl bd H1 H',?_,?_⟩
    ·refine ⟨_,rfl,p,C,dx,_,_,rfl,hp,T.cl,T.nE,zfu,_,rfl,_,rfl,pw,_,rfl,SqT.of g5,zp6,fun kt hkt=>?_⟩
     rw [zyo]
     have s3:=zag (o:=.tup ((zc5 x.key).map kV)) hkt
     have e3:upd H1 kt (.tup ((zc5 x.key).map kV)) kt=some (.tup ((zc5 x.key).map kV)):=zab
     generalize upd H1 kt (.tup ((zc5 x.key).map kV))=H3 at*
     obtain ⟨j,hj,hbj⟩:=S1.good.top t x hx
     have dg:=zev.t (k:=zc5 x.key) (s3 _ _ hbd) e3
     rw [hkv,hbj] at dg
     have C3:=C1.same s3
     have few:=hE.few t (by lia)
     have hl:MU.run n Fa s0 (t+1)=MU.look n Fa t (MU.run n Fa s0 t):=rfl
     refine ⟨bd,_,rfl,dg,_,rfl,rfl,_,rfl,?_⟩
     rw [zku]
     by_cases e:j=t
     ·rw [e] at hbj
      refine zep e ⟨_,rfl,rdT (s3 _ _ g5) rfl ⟨rfl,_,rfl,?_⟩⟩
      rw [zhq]
      cases ht:x.tie with
      | true=>
       have el:=MU.zjp (n:=n) (F:=Fa) hx ht rfl rfl (by rw [<-hbj];unfold MU.zas.key;rw [ht])
       rw [hl,el]
       refine zft ⟨_,rfl,p,dx,_,rfl,s3 _ _ hp,zoe (by decide+kernel) (by decide+kernel) (by decide+kernel) (by decide+kernel) (by decide+kernel),_,rfl,_,rfl,rdT (s3 _ _ g5) rfl ⟨_,rfl,rdT (s3 _ _ g5) rfl ?_⟩⟩
       exact ⟨p,be,rl,bd,n,Fa,_,t,x,rfl,C3,S1,hF,hx,ht,h8,few,fun H4 C4 S4 k4=>⟨rfl,C4,S4,(zb2.of s3).trans k4⟩⟩
      | false=>
       have el:=MU.zkv (n:=n) (F:=Fa) hx ht hbj
       rw [hl,el]
       refine zde ⟨_,rfl,p,dx,_,rfl,s3 _ _ hp,zoe (by decide+kernel) (by decide+kernel) (by decide+kernel) (by decide+kernel) (by decide+kernel),_,rfl,_,rfl,rdT (s3 _ _ g5) rfl ?_⟩
       exact ⟨p,be,rl,bd,n,Fa,_,t,x,rfl,C3,S1,hF,hx,ht,h8,few,fun H4 C4 S4 k4=>⟨rfl,C4,S4,(zb2.of s3).trans k4⟩⟩
     ·have el:=MU.zkw (n:=n) (F:=Fa) hx (by rw [hbj];exact fun z=>e (ZA7 z))
      rw [hl,el]
      exact zct e ⟨rfl,C3,S1,zb2.of s3⟩
    ·rintro σ' H4 ⟨rfl,C4,S4,k4⟩
     refine c3 _ _ ⟨_,rfl,_,_,rfl,rfl,m-1,by lia,t+1,some (.ref pw),by lia,?_,C4,S4,k1.trans k4⟩
     show [some (V.ref p),some (V.int ((t:Int)+1)),some (V.ref pw)]=[some (V.ref p),some (V.int ((t+1:Nat):Int)),some (V.ref pw)]
     rfl
   ·have:=ending false (.inr hb) rfl
    exact zct hb this
  ·have:=ending false (.inl (by lia)) rfl
   exact zct (by lia) (zde this)
end Y0
namespace MU
def empty:St:=⟨[],fun _=>none,none⟩
def zf7 (rows:List zas) (st:St):St:=rows.foldl (fun st w=>take st w .told []) st
variable {n:Nat} {F:zaz} {st:St}
theorem zgy:zdq n empty:=by
 have nw:∀i w,wat empty i≠some w:=fun i w h=>by
  unfold wat empty at h
  simp at h
 exact ⟨fun k i h=>(nomatch h),fun i w h=>absurd h (nw i w),fun i w h=>absurd h (nw i w),fun _ i w h=>absurd h (nw i w),fun _ i j w w' h=>absurd h (nw i w)⟩
def zy2 (n:Nat) (w:zas):Prop:=w.a<n/\w.b<n/\w.tie=true
theorem zfd:∀(rows:List zas) (st:St),zdq n st->(∀w∈rows,zy2 n w)->zdq n (zf7 rows st)
 | [],_,g,_=>g
 | w::r,st,g,h=>zfd r _ (zkd g (h w ZA5).1 (h w ZA5).2.1 fun z=>by rw [(h w ZA5).2.2] at z;cases z) fun w' hw'=>h w' (ZA4 _ hw')
theorem zkb:∀(rows:List zas) (st:St),Imp st (zf7 rows st)
 | [],st=>Imp.refl st
 | w::r,st=>(zml st w _ _).trans (zkb r _)
theorem zhv:∀(rows:List zas) (st:St),(zf7 rows st).rows.length<=st.rows.length+rows.length
 | [],st=>ZAw _
 | w::r,st=>by
  have h1:=zhv r (take st w .told [])
  have h2:=zb9 st (some w) .told []
  have h2:(take st w .told []).rows.length<=st.rows.length+1:=h2
  rw [ZBp]
  show (zf7 r (take st w .told [])).rows.length<=_
  lia
theorem zgs:∀(rows:List zas) (st:St),(∀i w,wat st i=some w->w.tie=true)->(∀w∈rows,zy2 n w)->∀i w,wat (zf7 rows st) i=some w->w.tie=true
 | [],_,h,_=>h
 | w::r,st,h,hw=>zgs r _ (fun i u hu=>by
  by_cases hi:i<st.rows.length
  ·exact h i u (zhi (zhk _ _ _ _) hi hu)
  ·exact zmm (C:=fun u=>u.tie=true) (hw w ZA5).2.2 i u (by lia) hu) fun w' hw'=>hw w' (ZA4 _ hw')
theorem zfv:∀(rows:List zas) (st:St) (w:zas),w∈rows->w.a≠w.b->∃u,val (zf7 rows st) w.key=some u/\¬zbm w.tie w.v u
 | [],_,w,h,_=>nomatch h
 | x::r,st,w,h,hne=>by
  rcases ZBe.mp h with e | h
  ·subst e
   obtain ⟨u,hu,nu⟩:=zgt (st:=st) (w:=w) (word:=.told) (used:=[]) hne
   obtain ⟨u',hu',nu'⟩:=(zkb r (take st w .told [])).2 w.key u hne hu
   exact ⟨u',hu',zgb nu nu'⟩
  ·exact zfv r _ w h hne
theorem zi4:∀i w,wat empty i=some w->w.tie=true:=fun i w h=>by
 unfold wat empty at h
 simp at h
theorem zu0 (g:zdq n st) (h:∀i w,wat st i=some w->w.tie=true) (a b:Nat):val st (false,a,b)=none:=by
 unfold val
 cases q:st.best (false,a,b) with
 | none=>rfl
 | some i=>
  obtain ⟨w,hw,hk⟩:=g.at_ _ _ q
  have:=h i w hw
  have e:=(zc4 hk).1
  rw [this] at e
  cases e
end MU
namespace Y0
open PySem L2
seal L2.PE L2.PA L2.PT L2.PS L2.PSs L2.PG L2.PGs L2.PI L2.PO
def zka:List Int->MU.zas
 | [a,b,v]=>⟨true,a.toNat,b.toNat,v⟩
 | _=>⟨true,0,0,0⟩
def zxl (n:Int) (rows:List (List Int)):Prop:=∀r∈rows,∃a b v:Int,r=[a,b,v]/\0<=a/\a<n/\0<=b/\b<n/\a≠b
theorem zko {la:Int}:∀{k:Nat} {n:Int},(k:Int)+1<=n->zxl n (zgu la k)
 | 0,_,_=>fun r hr=>nomatch hr
 | k+1,n,h=>fun r hr=>by
  unfold zgu at hr
  rcases ZBo.mp hr with hr | hr
  ·exact zko (k:=k) (by lia) r hr
  ·rcases ZBe.mp hr with rfl | hr
   ·exact ⟨0,(k:Int)+1,la,rfl,by lia,by lia,by lia,by lia,by lia⟩
   ·rw [ZBd.mp hr]
    exact ⟨(k:Int)+1,0,0,rfl,by lia,by lia,by lia,by lia,by lia⟩
theorem zkg {n:Int} {rows:List (List Int)} (h:∀r∈rows,∃a b l m:Int,r=[a,b,l,m]/\0<=a/\a<n/\0<=b/\b<n/\a≠b):zxl n (zhb rows):=fun r hr=>by
 unfold zhb at hr
 obtain ⟨x,hx,hrx⟩:=List.mem_flatten.mp hr
 obtain ⟨y,hy,rfl⟩:=ZBr.mp hx
 obtain ⟨a,b,l,m,rfl,h1,h2,h3,h4,h5⟩:=h y hy
 rcases ZBe.mp hrx with rfl | hrx
 ·exact ⟨a,b,m,rfl,h1,h2,h3,h4,h5⟩
 ·rw [ZBd.mp hrx]
  exact ⟨b,a,-l,rfl,h3,h4,h1,h2,ZAl h5⟩
theorem zb4.idxN {n la:Int} {T F:List (List Int)} (h:zb4 n la T F):zxl n (znn n la T F):=fun r hr=>by
 unfold znn at hr
 have n1:=h.n1
 rcases ZBo.mp hr with hr | hr
 ·rcases ZBo.mp hr with hr | hr
  ·exact zko (by lia) r hr
  ·exact zkg (fun r hr=>by obtain ⟨a,b,l,m,e,x1,x2,x3,x4,x5,_⟩:=h.t r hr;exact ⟨a,b,l,m,e,x1,x2,x3,x4,x5⟩) r hr
 ·exact zkg (fun r hr=>by obtain ⟨a,b,l,m,e,x1,x2,x3,x4,x5,_⟩:=h.f r hr;exact ⟨a,b,l,m,e,x1,x2,by lia,x4,x5⟩) r hr
theorem zi7 {n la:Int} {T F:List (List Int)} (h:zb4 n la T F):(znn n la T F).length<=100:=by
 unfold znn
 rw [ZA3,ZA3,zey,zd8 h.fourT,zd8 h.fourF]
 have:=h.tl
 have:=h.fl
 have:=h.n2
 lia
def zhd (n la:Int) (T F:List (List Int)):MU.St:=MU.zf7 ((znn n la T F).map zka) MU.empty
theorem zoz {n:Nat} {rows:List (List Int)} (h:zxl (n:Int) rows):∀w∈rows.map zka,MU.zy2 n w:=fun w hw=>by
 obtain ⟨r,hr,rfl⟩:=ZBr.mp hw
 obtain ⟨a,b,v,rfl,h1,h2,h3,h4,_⟩:=h r hr
 exact ⟨by show a.toNat<n;lia,by show b.toNat<n;lia,rfl⟩
theorem zlm {n:Nat} {la:Int} {T F:List (List Int)} (h:zb4 (n:Int) la T F):MU.Sta n (zak F) (zhd n la T F):=by
 have g:=MU.zfd ((znn (n:Int) la T F).map zka) MU.empty MU.zgy (zoz h.idxN)
 refine ⟨g,fun i w hw ht=>?_⟩
 have:=MU.zgs (n:=n) _ _ MU.zi4 (zoz h.idxN) i w hw
 rw [ht] at this
 cases this
theorem zmw {la:Int} {i:Nat}:∀{k:Nat},i<k->[0,(i:Int)+1,la]∈zgu la k/\[(i:Int)+1,0,0]∈zgu la k
 | 0,h=>absurd h (ZB6 _)
 | k+1,h=>by
  unfold zgu
  by_cases e:i=k
  ·subst e
   exact ⟨ZBn _ ZA5,ZBn _ (ZA4 _ ZA5)⟩
  ·obtain ⟨h1,h2⟩:=zmw (la:=la) (i:=i) (k:=k) (by lia)
   exact ⟨ZAb _ h1,ZAb _ h2⟩
theorem zog {n:Nat} {la:Int} {T F:List (List Int)} (h:zb4 (n:Int) la T F) (hla:la<=20):∃Te,zsu n (zak F) (zhd n la T F) Te:=by
 have g:=MU.zfd ((znn (n:Int) la T F).map zka) MU.empty MU.zgy (zoz h.idxN)
 have ties:=MU.zgs (n:=n) _ _ MU.zi4 (zoz h.idxN)
 have n1:=h.n1
 have n2:=h.n2
 have hl:=MU.zhv ((znn (n:Int) la T F).map zka) MU.empty
 have hs:=zi7 h
 rw [ZAu] at hl
 have hl:(zhd n la T F).rows.length<=0+(znn (n:Int) la T F).length:=hl
 have told:∀i,0<i->i<n->(∃v,v<=((20:Nat):Int)/\MU.val (zhd n la T F) (true,0,i)=some v)/\∃v,v<=0/\MU.val (zhd n la T F) (true,i,0)=some v:=fun i h1 h2=>by
  have hk:i-1<((n:Int)-1).toNat:=by lia
  obtain ⟨m1,m2⟩:=zmw (la:=la) hk
  have ei:((i-1:Nat):Int)+1=(i:Int):=by lia
  rw [ei] at m1 m2
  have in1:(⟨true,0,i,la⟩:MU.zas)∈(znn (n:Int) la T F).map zka:=ZBr.mpr ⟨_,ZAb _ (ZAb _ m1),rfl⟩
  have in2:(⟨true,i,0,0⟩:MU.zas)∈(znn (n:Int) la T F).map zka:=ZBr.mpr ⟨_,ZAb _ (ZAb _ m2),rfl⟩
  obtain ⟨u1,v1,w1⟩:=MU.zfv _ MU.empty _ in1 (by show 0≠i;lia)
  obtain ⟨u2,v2,w2⟩:=MU.zfv _ MU.empty _ in2 (by show i≠0;lia)
  unfold MU.zbm at w1 w2
  simp at w1 w2
  exact ⟨⟨u1,by lia,v1⟩,⟨u2,w2,v2⟩⟩
 obtain ⟨Te,e1,e2,e3⟩:=MU.zl5 (n:=n) (F:=zak F) (s0:=zhd n la T F) (by lia) h.fok g told (MU.zu0 g ties) (by lia)
 exact ⟨Te,e1,e2,e3⟩
def zpg (C CW:Addr):Sp:=fun vs H Q _=>∃(p wb dx:Addr) (n:Nat) (la:Int) (T F:List (List Int)),vs=[.ref p,.ref wb]/\H p=some (.ins C dx [])/\ze8 CW H wb (n:Int) la T F/\zb4 (n:Int) la T F/\
 ∀H' be rl bd,Clo C H' p be rl bd n (zak F) (zhd n la T F)->H be=none->H rl=none->H bd=none->zcw p H H'->Q .non H'
abbrev nCi:List Str:=["self","web","a","b","most"]
theorem zxi:zam nCi ["self","web"] (zae sC_Closing_init):=scm
theorem km1:¬(("many":Str)="by_end"):=by decide+kernel
theorem km2:¬(("many":Str)="rows"):=by decide+kernel
theorem km3:¬(("by_end":Str)="rows"):=by decide+kernel
theorem km4:¬(("many":Str)="best"):=by decide+kernel
theorem km5:¬(("by_end":Str)="best"):=by decide+kernel
theorem km6:¬(("rows":Str)="best"):=by decide+kernel
theorem km7:¬(("many":Str)="bar"):=by decide+kernel
theorem km8:¬(("by_end":Str)="bar"):=by decide+kernel
theorem km9:¬(("rows":Str)="bar"):=by decide+kernel
theorem km0:¬(("best":Str)="bar"):=by decide+kernel
theorem zyy {n:Nat} {be rl bd:Addr} {v:V}:zav "bar" v (zav "best" (.ref bd) (zav "rows" (.ref rl) (zav "by_end" (.ref be) (zav "many" (.int (n:Int)) []))))=zdy n be rl bd v:=by
 have s1:zav "by_end" (V.ref be) [(("many":Str),V.int (n:Int))]=[(("many":Str),V.int (n:Int)),("by_end",.ref be)]:=by rw [zbr km1];rfl
 have s2:zav "rows" (V.ref rl) [(("many":Str),V.int (n:Int)),("by_end",.ref be)]=[(("many":Str),V.int (n:Int)),("by_end",.ref be),("rows",.ref rl)]:=by rw [zbr km2,zbr km3];rfl
 have s3:zav "best" (V.ref bd) [(("many":Str),V.int (n:Int)),("by_end",.ref be),("rows",.ref rl)]=[(("many":Str),V.int (n:Int)),("by_end",.ref be),("rows",.ref rl),("best",.ref bd)]:=by rw [zbr km4,zbr km5,zbr km6];rfl
 have s4:zav "bar" v [(("many":Str),V.int (n:Int)),("by_end",.ref be),("rows",.ref rl),("best",.ref bd)]=zdy n be rl bd v:=by rw [zbr km7,zbr km8,zbr km9,zbr km0];rfl
 show zav "bar" v (zav "best" (.ref bd) (zav "rows" (.ref rl) (zav "by_end" (.ref be) [(("many":Str),V.int (n:Int))])))=_
 rw [s1,s2,s3,s4]
theorem ok_cinit {f C CW fT fE fB:Addr} {fd fdT fdE fdB:FuncData} (F:Fun K "__init__" "Closing.__init__" sC_Closing_init f fd) (T:zhe K mg C) (TC:zom K mg CW)
 (mT:zf4 K C "take" fT) (bT:zb5 K fdT ["self","what","word","used"] []) (GT:za3 P w K mg base CX0 2 fT fdT ["self","what","word","used"] (zo5 C))
 (FE:Fn K mg "falls_by_end" sP_falls_by_end ["web"] fE fdE) (GE:za3 P w K mg base CX0 2 fE fdE ["web"] (zlt CW))
 (FB:Fn K mg "told_bounds" sP_told_bounds ["web"] fB fdB) (GB:za3 P w K mg base CX0 3 fB fdB ["web"] (zsy CW)):za3 P w K mg base CX0 4 f fd ["self","web"] (zpg C CW):=by
 refine F.ok zxi (fun _ _ _ _ h=>?_) fun _ A _ s H _ Q E hr h=>?_
 ·obtain ⟨_,_,_,_,_,_,_,rfl,_⟩:=h
  rfl
 ·obtain ⟨p,wb,dx,n,la,rT,rF,rfl,hp,W0,hok,k⟩:=h
  have hr2:zd2 2 _:=hr.mono (by decide)
  have hr3:zd2 3 _:=hr
  refine ⟨_,zac (zdm (pv 0) (zat (pv 1) rfl) rfl)
   (zac (zdm (pv 0) (pcl GE hr2 FE (pa1 (pv 1))) rfl)
   (zac (zdm (pv 0) (zen zfs) rfl)
   (zac (zdm (pv 0) zrx rfl)
   (zac (zdm (pv 0) zca rfl)
   (zad (zb7 PassesOwn.never rfl (za4 (pcl GB hr3 FB (pa1 (pv 1))))
    (ziz rfl (zaw (zci 2 zxi.nd) (zaw (zci 3 zxi.nd) (zaw (zci 4 zxi.nd) zef))))
    (zad (za7 (za8 (pv 0) T.cl mT GT hr2 bT .nil zb3 (pa3 (zbf (pa4 zbd (pv 2) (pv 3) (pv 4))) zbd (zbf zfs))))))))))),?_⟩
  obtain ⟨wdx,wta,wfa,hwb,wr1,wr2⟩:=id W0
  have pw:p≠wb:=fun z=>by
   rw [z,hwb] at hp
   have:=HO.ins.inj (ZA7 hp)
   exact absurd this.2.2 (fun z=>by unfold zgr zav at z;cases z)
  refine fun N1 c1=>⟨_,rfl,wb,CW,wdx,_,_,rfl,hwb,TC.cl,TC.nM,zmi _ _ _ _,_,rfl,p,C,dx,_,rfl,hp,T.cl,T.nM,by show 0<1000;decide,c1 _ _ ?_⟩
  have kp:∀{Hx:Hp} {fs:List (Str×V)} {o:HO},Hx p=some (.ins C dx fs)->zcw p Hx (upd Hx p o):=fun {Hx fs o} e b o' e' ne=>by rw [zaf ne];exact e'
  have k1:zcw p H (upd H p (.ins C dx (zav "many" (.int (n:Int)) []))):=kp hp
  have p1:upd H p (.ins C dx (zav "many" (.int (n:Int)) [])) p=some (.ins C dx (zav "many" (.int (n:Int)) [])):=zab
  generalize upd H p (.ins C dx (zav "many" (.int (n:Int)) []))=H1 at*
  clear c1 N1
  have W1:ze8 CW H1 wb (n:Int) la rT rF:=⟨wdx,wta,wfa,k1 _ _ hwb (ZAl pw),by
   obtain ⟨ps,R⟩:=wr1
   exact ⟨ps,k1 _ _ R.1 (zao R.1 hp nofun),zai R.2 fun _ _ e=>k1 _ _ e (zao e hp nofun)⟩,by
   obtain ⟨ps,R⟩:=wr2
   exact ⟨ps,k1 _ _ R.1 (zao R.1 hp nofun),zai R.2 fun _ _ e=>k1 _ _ e (zao e hp nofun)⟩⟩
  refine fun N2 c2=>⟨_,rfl,wb,(n:Int),la,rT,rF,rfl,W1,hok,fun be H2 hbe s2 FA2=>⟨_,rfl,p,C,dx,_,rfl,s2 _ _ p1,T.cl,T.nB,by show 1<1000;decide,c2 _ _ ?_⟩⟩
  have k2:zcw p H2 (upd H2 p (.ins C dx (zav "by_end" (.ref be) (zav "many" (.int (n:Int)) [])))):=kp (s2 _ _ p1)
  have p2:upd H2 p (.ins C dx (zav "by_end" (.ref be) (zav "many" (.int (n:Int)) []))) p=some (.ins C dx (zav "by_end" (.ref be) (zav "many" (.int (n:Int)) []))):=zab
  have p2':=s2 _ _ p1
  have FA3:zcx (upd H2 p (.ins C dx (zav "by_end" (.ref be) (zav "many" (.int (n:Int)) [])))) be (zak rF):=by
   obtain ⟨fkv,f1,f2,f3,f4⟩:=FA2.at_
   refine ⟨fkv,k2 _ _ f1 (zao f1 p2' nofun),f2,f3,fun e f hf=>?_⟩
   obtain ⟨pp,q1,q2⟩:=f4 e f hf
   exact ⟨pp,q1,k2 _ _ q2 (zao q2 p2' nofun)⟩
  generalize upd H2 p (.ins C dx (zav "by_end" (.ref be) (zav "many" (.int (n:Int)) [])))=H3 at*
  clear c2 N2
  have K3:zcw p H H3:=fun b o e ne=>k2 _ _ (s2 _ _ (k1 _ _ e ne)) ne
  have free:∀{Hx:Hp} {b:Addr},zcw p H Hx->Hx b=none->b≠p->H b=none:=fun {Hx b} kk e ne=>by
   cases q:H b with
   | none=>rfl
   | some o=>rw [kk _ _ q ne] at e;cases e
  have beH:H be=none:=free k1 hbe (ZAl (zaa p1 hbe))
  refine fun N3 c3=>⟨ZBa _,fun rl hrl=>⟨_,rfl,p,C,dx,_,rfl,zag hrl _ _ p2,T.cl,T.nR,by show 2<1000;decide,c3 _ _ ?_⟩⟩
  have s4:=zag (o:=.lst []) hrl
  have r4:upd H3 rl (.lst []) rl=some (.lst []):=zab
  have FA4:=FA3.same s4
  have p4:=s4 _ _ p2
  generalize upd H3 rl (.lst [])=H4 at*
  have prl:p≠rl:=zaa p2 hrl
  have rlH:H rl=none:=free K3 hrl (ZAl prl)
  have k5:zcw p H4 (upd H4 p (.ins C dx (zav "rows" (.ref rl) (zav "by_end" (.ref be) (zav "many" (.int (n:Int)) []))))):=kp p4
  have p5:upd H4 p (.ins C dx (zav "rows" (.ref rl) (zav "by_end" (.ref be) (zav "many" (.int (n:Int)) [])))) p=some (.ins C dx (zav "rows" (.ref rl) (zav "by_end" (.ref be) (zav "many" (.int (n:Int)) [])))):=zab
  have r5:=k5 _ _ r4 (ZAl prl)
  generalize upd H4 p (.ins C dx (zav "rows" (.ref rl) (zav "by_end" (.ref be) (zav "many" (.int (n:Int)) []))))=H5 at*
  clear c3 N3
  have K5:zcw p H H5:=fun b o e ne=>k5 _ _ (s4 _ _ (K3 _ _ e ne)) ne
  refine fun N4 c4 bd hbd=>⟨_,rfl,p,C,dx,_,rfl,zag hbd _ _ p5,T.cl,T.nE,by show 3<1000;decide,c4 _ _ ?_⟩
  have s6:=zag (o:=.dT []) hbd
  have b6:upd H5 bd (.dT []) bd=some (.dT []):=zab
  have p6:=s6 _ _ p5
  have r6:=s6 _ _ r5
  generalize upd H5 bd (.dT [])=H6 at*
  have pbd:p≠bd:=zaa p5 hbd
  have bdH:H bd=none:=free K5 hbd (ZAl pbd)
  have k7:zcw p H6 (upd H6 p (.ins C dx (zav "best" (.ref bd) (zav "rows" (.ref rl) (zav "by_end" (.ref be) (zav "many" (.int (n:Int)) [])))))):=kp p6
  have p7:upd H6 p (.ins C dx (zav "best" (.ref bd) (zav "rows" (.ref rl) (zav "by_end" (.ref be) (zav "many" (.int (n:Int)) []))))) p=some (.ins C dx (zav "best" (.ref bd) (zav "rows" (.ref rl) (zav "by_end" (.ref be) (zav "many" (.int (n:Int)) []))))):=zab
  have r7:=k7 _ _ r6 (ZAl prl)
  have b7:=k7 _ _ b6 (ZAl pbd)
  generalize upd H6 p (.ins C dx (zav "best" (.ref bd) (zav "rows" (.ref rl) (zav "by_end" (.ref be) (zav "many" (.int (n:Int)) [])))))=H7 at*
  clear c4 N4
  refine fun N5 c5=>⟨_,rfl,p,C,dx,_,rfl,p7,T.cl,T.nX,by show 4<1000;decide,c5 _ _ ?_⟩
  rw [zyy]
  have k8:zcw p H7 (upd H7 p (.ins C dx (zdy n be rl bd .non))):=kp p7
  have p8:upd H7 p (.ins C dx (zdy n be rl bd .non)) p=some (.ins C dx (zdy n be rl bd .non)):=zab
  have r8:=k8 _ _ r7 (ZAl prl)
  have b8:=k8 _ _ b7 (ZAl pbd)
  generalize upd H7 p (.ins C dx (zdy n be rl bd .non))=H8 at*
  clear c5 N5
  have k38:zcw p H4 H8:=fun b o e ne=>k8 _ _ (k7 _ _ (s6 _ _ (k5 _ _ e ne)) ne) ne
  have K8:zcw p H H8:=fun b o e ne=>k38 _ _ (s4 _ _ (K3 _ _ e ne)) ne
  have FA8:zcx H8 be (zak rF):=by
   obtain ⟨fkv,f1,f2,f3,f4⟩:=FA4.at_
   refine ⟨fkv,k38 _ _ f1 (zao f1 p4 nofun),f2,f3,fun e f hf=>?_⟩
   obtain ⟨pp,q1,q2⟩:=f4 e f hf
   exact ⟨pp,q1,k38 _ _ q2 (zao q2 p4 nofun)⟩
  have C8:Clo C H8 p be rl bd n (zak rF) MU.empty:=⟨⟨dx,p8⟩,FA8,⟨[],r8,.nil⟩,⟨[],b8,⟨ZAw _,fun _ z=>nomatch z⟩,fun k=>rfl⟩⟩
  have W8:ze8 CW H8 wb (n:Int) la rT rF:=⟨wdx,wta,wfa,K8 _ _ hwb (ZAl pw),by
   obtain ⟨ps,R⟩:=wr1
   exact ⟨ps,K8 _ _ R.1 (zao R.1 hp nofun),zai R.2 fun _ _ e=>K8 _ _ e (zao e hp nofun)⟩,by
   obtain ⟨ps,R⟩:=wr2
   exact ⟨ps,K8 _ _ R.1 (zao R.1 hp nofun),zai R.2 fun _ _ e=>K8 _ _ e (zao e hp nofun)⟩⟩
  refine ⟨_,rfl,wb,(n:Int),la,rT,rF,rfl,W8,hok,fun l H9 hl s9 R9=>?_⟩
  obtain ⟨qs,R⟩:=R9
  have C9:=C8.same s9
  obtain ⟨n1,n2,n3⟩:=C8.apart hl
  have idx:=hok.idxN
  have sh:=zi7 hok
  refine ⟨l,rfl,⟨_,SqL.of R.1⟩,?_⟩
  have stays:∀{H':Hp},zb2 p rl bd H9 H'->H' l=some (.lst (qs.map V.ref)):=fun kk=>kk _ _ R.1 n1 n2 n3
  obtain ⟨dx9,p9⟩:=C9.ins
  obtain ⟨q9,r9,_⟩:=C9.rows
  obtain ⟨kv9,b9,_⟩:=C9.best
  have tups:∀{H':Hp} {b:Addr} {xs:List V},zb2 p rl bd H9 H'->H9 b=some (.tup xs)->H' b=some (.tup xs):=fun kk e=>kk _ _ e (zao e p9 nofun) (zao e r9 nofun) (zao e b9 nofun)
  generalize hB:znn (n:Int) la rT rF=B at*
  refine zbu (K:=K) (a:=l) (xs:=qs.map V.ref) (fun i σ' H'=>∃v2 v3 v4,σ'=[some (.ref p),some (.ref wb),v2,v3,v4]/\Clo C H' p be rl bd n (zak rF) (MU.zf7 ((B.take i).map zka) MU.empty)/\zb2 p rl bd H9 H') ⟨none,none,none,rfl,C9,zb2.of (zbe.refl _)⟩ ?_ ?_ ?_
  ·rintro i σ' H' _ ⟨v2,v3,v4,rfl,_,kk⟩
   exact SqL.of (stays kk)
  ·rintro i y σ' H10 hy ⟨v2,v3,v4,rfl,C10,kk⟩
   obtain ⟨q,r,rfl,hq,hr',hqt⟩:=R.get hy
   obtain ⟨a,b,v,rfl,x1,x2,x3,x4,x5⟩:=idx r (ZA1 hr')
   have hi:i<B.length:=(ZAv.mp hr').1
   refine ⟨q,_,rfl,SqT.of (tups kk hqt),rfl,_,_,rfl,_,_,rfl,_,_,rfl,rfl,?_⟩
   obtain ⟨dx10,p10⟩:=C10.ins
   have gi:=MU.zfd ((B.take i).map zka) MU.empty (MU.zgy (n:=n)) (zoz fun r hr=>idx r (List.mem_of_mem_take hr))
   have li:=MU.zhv ((B.take i).map zka) MU.empty
   rw [ZAu,ZBl] at li
   have li:(MU.zf7 ((B.take i).map zka) MU.empty).rows.length<=0+min i B.length:=li
   have et:MU.zf7 ((B.take (i+1)).map zka) MU.empty=MU.take (MU.zf7 ((B.take i).map zka) MU.empty) (zka [a,b,v]) .told []:=by
    unfold MU.zf7
    rw [ZBu,hr',ZA9,List.foldl_append]
    rfl
   rw [et]
   generalize MU.zf7 ((B.take i).map zka) MU.empty=sti at*
   refine ⟨_,rfl,p,dx10,_,rfl,p10,zoe (by decide+kernel) (by decide+kernel) (by decide+kernel) (by decide+kernel) (by decide+kernel),_,rfl,_,rfl,_,rfl,szl rfl,fun t ht=>⟨ZBa _,fun u hu'=>?_⟩⟩
   have s11:=zag (o:=.tup [V.str "tie",V.int a,V.int b,V.int v]) ht
   have w11:zcb (upd H10 t (.tup [V.str "tie",V.int a,V.int b,V.int v])) t (zka [a,b,v]):=by
    unfold zcb
    rw [zab]
    show some (HO.tup [V.str "tie",V.int a,V.int b,V.int v])=some (HO.tup [V.str "tie",V.int ((a.toNat:Nat):Int),V.int ((b.toNat:Nat):Int),V.int v])
    rw [show ((a.toNat:Nat):Int)=a by lia,show ((b.toNat:Nat):Int)=b by lia]
   generalize upd H10 t (.tup [V.str "tie",V.int a,V.int b,V.int v])=H11 at*
   have s12:=zag (o:=.tup []) hu'
   refine ⟨p,be,rl,bd,t,u,n,_,_,zka [a,b,v],.told,[],rfl,(C10.same s11).same s12,gi,w11.same s12,zab,by lia,fun H13 C13 k13=>⟨_,_,_,rfl,C13,?_⟩⟩
   exact (kk.trans (zb2.of (s11.trans s12))).trans k13
  ·rintro σ' H10 ⟨v2,v3,v4,rfl,C10,kk⟩
   have hall:B.take (qs.map V.ref).length=B:=by rw [ZAu,R.len];exact ZBi
   rw [hall] at C10
   refine k H10 be rl bd ?_ beH rlH bdH fun b o e ne=>kk _ _ (s9 _ _ (K8 _ _ e ne)) ne (zaa e rlH) (zaa e bdH)
   unfold zhd
   rw [hB]
   exact C10
end Y0
namespace L2
open PySem PySem.Spec PyProof.Rows
section
variable {prog:Program} {w:World} {A:Around} {E:Value->Shared->Prop} {s:Shared}
theorem zmy {d:Addr} {o:Obj} {es:Array DictEntry} {ep:Nat} {Q:Value->Shared->Prop} (hd:(d==sysModules)=false) (ho:s.heap.get? d=some o) (hc:o.ExactDict) (hdat:o.data=.dict es ep)
 (hQ:Q (.ref s.heap.objs.size) { s with heap:=s.heap.push { cls:=.type "dict_keyiterator",data:=.fields #[.ref d,.int 0 0,.int es.size 0,.int ep 0] } }):
 wpAny (model prog w) A (pyIter (.ref d)) Q E s:=by
 have hT:s.TypeIs (.ref d) "dict":=⟨o,ho,hc.1⟩
 refine wpAny_pyIter_slot hT F.slot_dict_iter (wpAny_call_entry F.slot_dict_iter hT F.entry_dict_iter ?_ (F.args_dict_iter_1 _))
 unfold Builtin.«dict.__iter__» Builtin.Dict.dictSlotNone
 refine ZAp (ZAp (wpAny_notOrdered_dict hT (show wpAny _ _ (pure (Value.ref d)) _ _ s from ZAq ?_)))
 refine (show wpAny _ _ (Builtin.Dict.showsAll d>>=_) _ _ s from ?_)
 unfold Builtin.Dict.showsAll
 rw [if_neg (by rw [hd];exact ZA6)]
 refine ZAp (ZAq (ZAp (wpAny_dictEntries ho hdat (ZAp (wpAny_dictEpoch ho hdat (ZAp (wpAny_newObj_type (ZAq ⟨_,rfl,"dict_keyiterator",_,⟨_,ZBh _ rfl,rfl⟩,F.slot_dict_keyiterator_next.lookup,?_⟩))))))))
 simpa [rawInt] using hQ
theorem zmx {it d:Addr} {i ep:Nat} {od:Obj} {es:Array DictEntry} {e:DictEntry} {Q:Option Value->Shared->Prop} (hit:s.heap.IsKeyIter it d i es.size ep) (hod:s.heap.get? d=some od) (hdd:od.data=.dict es ep) (hx:es[i]?=some e)
 (hQ:∀h',h'.IsKeyIter it d (i+1) es.size ep->Heap.SameBut it s.heap h'->Q (some e.key) { s with heap:=h' }):wpAny (model prog w) A (pyNext (.ref it)) Q E s:=by
 obtain ⟨o,ho,hc,hd⟩:=id hit
 unfold pyNext
 refine ZAp (wpAny_attempt (wpAny_callSpecial?_slot (name:=Str.ofString "__next__") hit.typeIs F.slot_dict_keyiterator_next (wpAny_call_entry F.slot_dict_keyiterator_next hit.typeIs F.entry_dict_keyiterator_next ?_ (F.args_dict_keyiterator_next_1 _))))
 refine ZAp (ZAq (ZAp (ZAp ?_)))
 first | refine ZAp (wpAny_typeNameOfWhole_keyiter hit.typeIs (ZAq (ZAp (wpAny_fieldsOf ho hd ?_)))) | refine ZAp (wpAny_typeNameOf_keyiter hit.typeIs (ZAq (ZAp (wpAny_fieldsOf ho hd ?_))))
 simp only [show Builtin.Dict_items.ownsTuple "dict_keyiterator"=false by decide,Bool.false_eq_true,if_false]
 refine (show wpAny _ _ (if (Value.ref d==Value.none)=true then _ else _) _ _ s from ?_)
 rw [if_neg (show ¬((Value.ref d==Value.none)=true) from ZA6)]
 refine ZAp (ZAq (ZAp (wpAny_dictEntries hod hdd ?_)))
 rw [if_neg (by simp)]
 refine ZAp (ZAq (ZAp (wpAny_dictEpoch hod hdd ?_)))
 rw [if_neg (by simp)]
 refine ZAq ?_
 simp only [show ¬((i:Int)<0) from by lia,if_false,ZBx,hx]
 refine ZAp ?_
 first | refine ZAp (wpAny_typeNameOfWhole_keyiter hit.typeIs (ZAq (ZAp (wpAny_isOneOf_keyiter hit.typeIs ?_)))) | refine ZAp (wpAny_typeNameOf_keyiter hit.typeIs (ZAq (ZAp (wpAny_isOneOf_keyiter hit.typeIs ?_))))
 refine (show wpAny _ _ (setField (.ref it) 1 (rawInt ((i:Int)+1))>>=_) _ _ s from ZAp (wpAny_setField ho hd (by simp) ?_))
 have hit':(s.heap.update it (Obj.mapFields (·.setIfInBounds 1 (rawInt ((i:Int)+1))))).IsKeyIter it d (i+1) es.size ep:=
  ⟨_,Heap.get?_update_self _ ho (Obj.isFreed_of_fields (Obj.data_mapFields hd _)),(Obj.cls_mapFields ..).trans hc,by rw [Obj.data_mapFields hd];simp [rawInt]⟩
 refine ZAp (wpAny_holding (ZAp (wpAny_isOneOf_keyiter (s:={ s with heap:=s.heap.update it (Obj.mapFields (·.setIfInBounds 1 (rawInt ((i:Int)+1)))) }) hit'.typeIs (show wpAny _ _ (pure e.key) _ _ _ from ZAq (ZAq ⟨_,rfl,ZAq (hQ _ hit' (Heap.SameBut.update ..))⟩)))))
theorem zpo {it d:Addr} {i ep:Nat} {od:Obj} {es:Array DictEntry} {Q:Option Value->Shared->Prop} (q:Hd A s.heap) (hit:s.heap.IsKeyIter it d i es.size ep) (hod:s.heap.get? d=some od) (hdd:od.data=.dict es ep) (hx:es.size<=i)
 (hQ:∀h',Heap.ExtBut it s.heap h'->Q none { s with heap:=h' }):wpAny (model prog w) A (pyNext (.ref it)) Q E s:=by
 obtain ⟨o,ho,hc,hd⟩:=id hit
 unfold pyNext
 refine ZAp (wpAny_attempt (wpAny_callSpecial?_slot (name:=Str.ofString "__next__") hit.typeIs F.slot_dict_keyiterator_next (wpAny_call_entry F.slot_dict_keyiterator_next hit.typeIs F.entry_dict_keyiterator_next ?_ (F.args_dict_keyiterator_next_1 _))))
 refine ZAp (ZAq (ZAp (ZAp ?_)))
 first | refine ZAp (wpAny_typeNameOfWhole_keyiter hit.typeIs (ZAq (ZAp (wpAny_fieldsOf ho hd ?_)))) | refine ZAp (wpAny_typeNameOf_keyiter hit.typeIs (ZAq (ZAp (wpAny_fieldsOf ho hd ?_))))
 simp only [show Builtin.Dict_items.ownsTuple "dict_keyiterator"=false by decide,Bool.false_eq_true,if_false]
 refine (show wpAny _ _ (if (Value.ref d==Value.none)=true then _ else _) _ _ s from ?_)
 rw [if_neg (show ¬((Value.ref d==Value.none)=true) from ZA6)]
 refine ZAp (ZAq (ZAp (wpAny_dictEntries hod hdd ?_)))
 rw [if_neg (by simp)]
 refine ZAp (ZAq (ZAp (wpAny_dictEpoch hod hdd ?_)))
 rw [if_neg (by simp)]
 refine ZAq ?_
 simp only [show ¬((i:Int)<0) from by lia,if_false,ZBx,Array.getElem?_eq_none hx]
 refine ZAp ?_
 first | refine ZAp (wpAny_typeNameOfWhole_keyiter hit.typeIs (ZAq ?_)) | refine ZAp (wpAny_typeNameOf_keyiter hit.typeIs (ZAq ?_))
 refine (show wpAny _ _ (setField (.ref it) 0 .none>>=_) _ _ s from ZAp (wpAny_setField ho hd (by simp) ?_))
 have other:∀b o,b≠it->s.heap.get? b=some o->(s.heap.update it (Obj.mapFields (·.setIfInBounds 0 Value.none))).get? b=some o:=fun b o hb e=>(Heap.get?_update_other _ _ (ZAl hb)).trans e
 refine zjb (A:=A.in1) (s:={ s with heap:=s.heap.update it (Obj.mapFields (·.setIfInBounds 0 Value.none)) }) (Hd.keep (A:=A.in1) q fun b C dx t tb e=>other b _ (fun z=>?_) e) fun e h' kk te=>?_
 ·rw [z,ho] at e
  cases e
  cases hc
 ·refine ZAp (wpAny_mono (zjz (s0:=s) (fun b o hb z=>kk b o (other b o hb z)) te hQ) (fun b s' z=>?_) fun _ _ z=>z)
  obtain ⟨rfl,z⟩:=z
  exact ZAq z
end
section
variable {X:Cx} {pins:List (Addr×Obj)} {σ:St} {H:Hp} {s:Shared} {a:Addr} {o:Obj} {u:HO}
theorem Inv.freeze (I:Inv X pins σ H s) (hu:H a=some u) (mu:Mut (some u)) (ho:s.heap.get? a=some o):Inv X pins σ (upd H a (.frz o u)) s:=by
 have ntup:∀b xs,H b=some (.tup xs)->b≠a:=fun b xs r z=>by subst z;rw [hu] at r;cases r;exact mu
 have nown:∀b y,H b=some (.own y)->b≠a:=fun b y r z=>by subst z;rw [hu] at r;cases r;exact mu
 exact I.write (h':=s.heap) (t':=s.toks) (x:=a) (e:=a) (by rw [hu];exact mu) (.inl rfl) (fun b v _ e=>e) ⟨o,ho⟩
  ⟨ho,(I.hok a u hu).stay (fun b v _ e=>e) (fun b e=>by rw [zaf (nown b a e)];exact e) fun b xs e=>by rw [zaf (ntup b xs e)];exact e⟩
theorem Inv.thaw (I:Inv X pins σ H s) (hu:H a=some (.frz o u)) (h0:∀o u,X.H₀ a≠some (.frz o u)):Inv X pins σ (upd H a u) s:=by
 have ne:∀{b:Addr} {x:Option HO},H b=x->(∀o u,x≠some (.frz o u))->b≠a:=fun {b x} e hx z=>by subst z;rw [hu] at e;exact hx _ _ e.symm
 have st:∀b v,zcl X.prog X.w H s.heap b v->zcl X.prog X.w (upd H a u) s.heap b v:=fun b v x=>
  x.stay (fun c v _ e=>e) (fun c e=>by rw [zaf (ne e fun _ _ z=>nomatch z)];exact e) fun c xs e=>by rw [zaf (ne e fun _ _ z=>nomatch z)];exact e
 refine ⟨I.ok,I.os,I.bare,⟨I.base.keep,I.base.slot,fun b v q n hx=>?_,I.base.there,fun b xs q=>?_,fun b ob v q=>?_,fun b ps q=>?_⟩,I.loc,I.cell,?_,fun x c e=>?_,fun p hp=>?_,fun b v q=>?_,I.len⟩
 ·have e:=I.base.free b v q n hx
  rw [zaf (ne e fun _ _ z=>nomatch z)];exact e
 ·have e:=I.base.tups b xs q
  rw [zaf (ne e fun _ _ z=>nomatch z)];exact e
 ·have e:=I.base.frzs b ob v q
  rw [zaf (fun z=>by subst z;exact h0 ob v q)];exact e
 ·obtain ⟨more,e⟩:=I.base.tbls b ps q
  exact ⟨more,by rw [zaf (ne e fun _ _ z=>nomatch z)];exact e⟩
 ·rw [zaf (ne I.free fun _ _ z=>nomatch z)];exact I.free
 ·rw [zaf (ne (I.freeC x c e) fun _ _ z=>nomatch z)];exact I.freeC x c e
 ·obtain ⟨p1,p2,p3⟩:=I.pin p hp
  exact ⟨p1,by rw [zaf (ne p2 fun _ _ z=>nomatch z)];exact p2,p3⟩
 ·by_cases hb:b=a
  ·subst hb
   rw [zab] at q
   cases q
   exact st b u (I.hok b _ hu).2
  ·rw [zaf hb] at q
   exact st b v (I.hok b v q)
end
def zxn (H₀:Hp) (t:TE):TE:=fun σ H Q=>t σ H fun x H1=>∃a o u,H1 a=some (.frz o u)/\(∀o u,H₀ a≠some (.frz o u))/\Q x (upd H1 a u)
theorem zpx {X:Cx} {e:Expr} {t:TE} (he:PE X e t):PE X e (zxn X.H₀ t):=by
 intro pins s σ H Q I h
 refine thn (he pins s σ H _ I h) fun v s1 zz=>?_
 obtain ⟨x,H1,I1,r1,q1⟩:=zz
 obtain ⟨a,o,u,e1,e2,q⟩:=q1
 exact ⟨x,_,I1.thaw e1 e2,r1,q⟩
def Itk (a:Addr) (o:Obj) (kvs:List (List Key×V)):It:=
 ⟨fun i H=>H a=some (.frz o (.dT kvs))/\i<kvs.length,fun i H x H'=>H'=H/\∃q k v,x=.ref q/\kvs[i]?=some (k,v)/\H q=some (.tup (k.map kV)),fun i H=>H a=some (.frz o (.dT kvs))/\kvs.length<=i⟩
theorem zh0 {α β:Type} {F:α->β->Prop} {l:List α} {m:List β} (h:Paired F l m) {i:Nat} {x:α} (hx:l[i]?=some x):∃y,m[i]?=some y/\F x y:=by
 induction h generalizing i with
 | nil=>simp at hx
 | cons r _ ih=>
  cases i with
  | zero=>simp at hx;subst hx;exact ⟨_,rfl,r⟩
  | succ i=>simpa using ih (by simpa using hx)
theorem zfy {α β γ:Type} {F:α×β->α×γ->Prop}:∀{l:List (α×β)} {m:List (α×γ)},Paired F l m->(∀p q,F p q->p.1=q.1)->l.map (·.1)=m.map (·.1)
 | _,_,.nil,_=>rfl
 | _,_,.cons r t,h=>by rw [ZBf,ZBf,zfy t h,h _ _ r]
theorem znd {X:Cx} {pins:List (Addr×Obj)} {σ:St} {H:Hp} {s:Shared} {a:Addr} {o:Obj} {kvs:List (List Key×V)} {es:Array DictEntry} {ep:Nat} (I:Inv X pins σ H s) (h:H a=some (.frz o (.dT kvs))) (hd:o.data=.dict es ep):
 s.heap.get? a=some o/\es.size=kvs.length/\∀(i:Nat) (k:List Key) (v:V),kvs[i]?=some (k,v)->∃(e:DictEntry) (q:Addr),es[i]?=some e/\e.key=Value.ref q/\H q=some (.tup (k.map kV)):=by
 obtain ⟨ho,_,_,xs,hp,o',es',ep',ho',hc,hd',he,hn⟩:=(show zcl X.prog X.w H s.heap a (.frz o (.dT kvs)) from I.hok a _ h)
 rw [ho] at ho'
 cases ho'
 rw [hd] at hd'
 cases hd'
 refine ⟨ho,?_,fun i k v hx=>?_⟩
 ·rw [<-ZAj,he,ZAu,Paired.length hp]
 ·obtain ⟨x,hx',r1,r2,r3⟩:=zh0 hp hx
  refine ⟨_,x.2.1,by rw [<-Array.getElem?_toList,he,ZA0,hx'];rfl,rfl,?_⟩
  exact r2
theorem zov {P:Program} {w:World} {K:ZCa} {tg:Expr} (a it:Addr) (o:Obj) (kvs:List (List Key×V)) {es:Array DictEntry} {ep:Nat} (hd:o.data=.dict es ep):
 ztv P w K tg (Itk a o kvs) [it] it (fun i h=>h.IsKeyIter it a i es.size ep) where
 mem:=by simp
 obj:=fun i h st b hb=>by
  have e:b=it:=by simpa using hb
  subst e
  obtain ⟨o,e,c,d⟩:=st
  exact ⟨o,e,fun v z=>by rw [d] at z;cases z⟩
 keep:=fun i h h' st k=>st.at fun o e=>k it (by simp) o e
 item:=by
  intro X hP hw hK hc i pins s σ H E I hf st hg
  subst hP hw hK
  obtain ⟨hfz,hi⟩:=hg
  obtain ⟨ho,hsz,hat⟩:=znd I hfz hd
  obtain ⟨⟨k,v⟩,hx⟩:∃p,kvs[i]?=some p:=⟨kvs[i],by simp [hi]⟩
  obtain ⟨e,q,he,hk,hq⟩:=hat i k v hx
  obtain ⟨f0,f1,f2,f3,f4,f5⟩:=hf it (by simp)
  refine zmx st ho hd he fun h' st' sb=>?_
  have I1:Inv X pins σ H { s with heap:=h' }:=I.turned (t':=s.toks) (fun b o hb e=>(sb.2 b hb).trans e) f0 f1 f3 f4 f5
  rw [hk]
  exact ⟨_,rfl,letGo_keyiter (s':={ s with heap:=h' }) st' ⟨.ref q,H,I1,rfl,⟨rfl,q,k,v,rfl,hx,hq⟩,st',fun b hb=>(hf b hb).1⟩⟩
 done:=by
  intro X hP hw hK hc i pins s σ H E I hf st hg
  subst hP hw hK
  obtain ⟨hfz,hi⟩:=hg
  obtain ⟨ho,hsz,_⟩:=znd I hfz hd
  obtain ⟨f0,f1,f2,f3,f4,f5⟩:=hf it (by simp)
  exact zpo (zn8 hc I) st ho hd (by omega) fun h' eb=>⟨rfl,I.turned (t':=s.toks) (fun b o hb e=>eb b o hb e) f0 f1 f3 f4 f5⟩
 self:=fun _ _ _ _ _ st h=>wpAny_pyIter_keyiter st h
section
variable {X:Cx} {tg:Expr}
def zyj (td:TE):TI:=fun σ H R=>td σ H fun x H1=>∃a kvs,x=.ref a/\H1 a=some (.dT kvs)/\((kvs.map (·.1)).Nodup->∀o,R (Itk a o kvs) (upd H1 a (.frz o (.dT kvs))))
theorem zuq {d:Expr} {td:TE} (hl:PE X d td):PI X tg d (zyj td):=by
 intro pins s σ H R I h
 refine thn (hl pins s σ H _ I h) fun v s1 zz=>?_
 obtain ⟨x,H1,I1,r1,q1⟩:=zz
 obtain ⟨a,kvs,e,hq,q⟩:=q1
 subst e
 cases r1
 obtain ⟨_,hs,xs,hp,o,es,ep,ho,hc,hd,he,hn⟩:=(show zcl X.prog X.w H1 s1.heap a (.dT kvs) from I1.hok a _ hq)
 have hnd:(kvs.map (·.1)).Nodup:=by rw [zfy hp fun _ _ z=>z.1];exact hn
 refine zmy hs ho hc hd ?_
 have I2:=I1.freeze hq trivial ho
 refine ⟨s1.heap.objs.size,[s1.heap.objs.size],_,_,_,rfl,I2.kept (t':=s1.toks) fun b o e=>ZAy _ e,zov a _ o kvs hd,⟨_,ZBh _ rfl,rfl,rfl⟩,fun b hb=>?_,q hnd o⟩
 have e:b=s1.heap.objs.size:=by simpa using hb
 subst e
 exact I2.fpOk (ZAw _) (I2.hok.fresh (ZAw _))
end
theorem zq0 {js:List (Option Nat)} {g:TG} {tc:TT} {te:TE} {σ:St} {H:Hp} {D:Addr} {Q:VK} {a:Addr} {o:Obj} {kvs:List (List Key×V)} (Pv:Nat->St->Hp->Prop) (h0:Pv 0 (zfq js σ) (upd H D (.lst [])))
 (hl:∀i σ' H',i<=kvs.length->Pv i σ' H'->H' a=some (.frz o (.dT kvs)))
 (hs:∀i k v q σ' H',kvs[i]?=some (k,v)->H' q=some (.tup (k.map kV))->Pv i σ' H'->g (.ref q) σ' H' fun σ3 H3=>tc σ3 H3 fun ok H4=>if ok=true then te σ3 H4 fun y H5=>∃ys,H5 D=some (.lst ys)/\ys.length<sizeLine/\Pv (i+1) σ3 (upd H5 D (.lst (ys++[y]))) else Pv (i+1) σ3 H4)
 (hd:∀σ' H',Pv kvs.length σ' H'->Q (.ref D) H'):
 zg0 js g tc te σ Q (Itk a o kvs) H D:=by
 refine ⟨fun i m σ H=>m=kvs.length-i/\i<=kvs.length/\Pv i σ H,⟨kvs.length,by simp,ZBa _,h0⟩,?_⟩
 rintro i m σ' H' ⟨rfl,hi,p⟩
 by_cases hlt:i<kvs.length
 ·refine .inr ⟨⟨hl i σ' H' hi p,hlt⟩,Pv (i+1),fun σ2 H2 p'=>⟨kvs.length-(i+1),by omega,rfl,hlt,p'⟩,fun x H2 y=>?_⟩
  obtain ⟨e,q,k,v,rfl,hx,hq⟩:=y
  subst e
  exact hs i k v q σ' _ hx hq p
 ·have e:i=kvs.length:=by omega
  subst e
  exact .inl ⟨⟨hl _ σ' H' hi p,ZAw _⟩,hd σ' H' p⟩
end L2
namespace TS
open PySem PyProof PyProof.Rows
def gal:Bool->Keyed->Array Keyed->Nat->Nat->Nat->StateT SortSt Sem (Option Nat):=sortPriv% PySem.Builtin.gallop
class SK where
 num:Keyed->Int
 ok:Keyed->Prop
 kind:SortKind
def N [SK] (p:Keyed):Int:=SK.num p
def isN [SK] (p:Keyed):Prop:=SK.ok p
def Kk [SK] (xs:Array Keyed) (i:Nat):Int:=match xs[i]? with
 | some p=>N p
 | none=>0
class LtOk [SK] (prog:Program) (w:World) (A:Around) (E:Value->Shared->Prop) (s:Shared):Prop where
 lt:∀{st:SortSt} {p q:Keyed} {Q:Option Bool->SortSt->Prop},kindOf st=SK.kind->isN p->isN q->Q (some (decide (N p<N q))) st->wpS (model prog w) A E s (lt' p q) Q st
section
variable [SK]
theorem zf2 {xs ys:Array Keyed} {i j:Nat} (h:xs[i]?=ys[j]?):Kk xs i=Kk ys j:=by unfold Kk;rw [h]
theorem zst {xs:Array Keyed} {src d:Nat} (hs:src<xs.size) (hd:d<=src) (k:Nat):
 Kk (bubble xs src d) k=if k=src-d then Kk xs src else if src-d<k/\k<=src then Kk xs (k-1) else Kk xs k:=by
 have e:=getElem?_bubble hs d hd k
 by_cases h1:k=src-d
 ·rw [if_pos h1] at*;exact zf2 e
 rw [if_neg h1] at*
 by_cases h2:src-d<k/\k<=src
 ·rw [if_pos h2] at*;exact zf2 e
 ·rw [if_neg h2] at*;exact zf2 e
theorem zhu {xs:Array Keyed} {i j:Nat} (hj:j<=xs.size) (k:Nat):Kk (mirror xs i j ((j-i) / 2)) k=if i<=k/\k<j then Kk xs (i+j-1-k) else Kk xs k:=by
 have e:=getElem?_mirror_all (i:=i) hj k
 by_cases h1:i<=k/\k<j
 ·rw [if_pos h1] at*;exact zf2 e
 ·rw [if_neg h1] at*;exact zf2 e
theorem zd6 {xs:Array Keyed} {i j:Nat} (hj:j<=xs.size) (he:∀k,i<=k->k<j->Kk xs k=Kk xs (j-1)) (k:Nat):Kk (mirror xs i j ((j-i) / 2)) k=Kk xs k:=by
 rw [zhu hj];split
 ·rename_i h;rw [he k h.1 h.2,he (i+j-1-k) (by omega) (by omega)]
 ·rfl
end
def Bey (left:Bool) (kv x:Int):Bool:=if left then decide (x<kv) else !decide (kv<x)
theorem zgn {l:Bool} {kv x y:Int} (h:x<=y) (hy:Bey l kv y=true):Bey l kv x=true:=by
 unfold Bey at*;cases l<;>simp_all<;>lia
theorem zq5 {l:Bool} {kv x y:Int} (h:x<=y) (hy:Bey l kv x=false):Bey l kv y=false:=by
 cases e:Bey l kv y with
 | false=>rfl
 | true=>rw [zgn h e] at hy;exact hy
section
variable [SK] {prog:Program} {w:World} {A:Around} {E:Value->Shared->Prop} {s:Shared} [LtOk prog w A E s] {st:SortSt}
theorem zbo {a:Array Keyed} {i:Nat} {p:Keyed} {Q:Keyed->SortSt->Prop} (he:a[i]?=some p) (h:Q p st):
 wpS (model prog w) A E s (elem' a i) Q st:=by
 rw [elem'_eq,he];exact wpS_pure h
theorem zop {p q:Keyed} {Q:Option Bool->SortSt->Prop} (hk:kindOf st=SK.kind) (hp:isN p) (hq:isN q)
 (h:Q (some (decide (N p<N q))) st):wpS (model prog w) A E s (lt' p q) Q st:=LtOk.lt hk hp hq h
theorem zj4 {l:Bool} {key p:Keyed} {a:Array Keyed} {i:Nat} {Q:Option Bool->SortSt->Prop} (hk:kindOf st=SK.kind)
 (he:a[i]?=some p) (hp:isN p) (hq:isN key) (h:Q (some (Bey l (N key) (N p))) st):
 wpS (model prog w) A E s (do
  let x <-elem' a i
  if l=true then lt' x key else do
   let r <-lt' key x
   pure (Option.map (fun x=> !x) r)) Q st:=by
 refine wpS_bind (zbo he ?_)
 cases l
 ·exact wpS_bind (zop hk hq hp (wpS_pure h))
 ·exact zop hk hp hq h
theorem zej {a:Array Keyed} (hI:∀p,p∈a.toList->isN p) {i:Nat} (hi:i<a.size):∃p,a[i]?=some p/\isN p/\Kk a i=N p:=
 ⟨a[i],getElem?_pos _ i hi,hI _ (by simp),by unfold Kk;rw [getElem?_pos a i hi]⟩
abbrev BSt:=Option (Option Nat)×Nat×Nat
theorem zil {P:Nat->Bool} {n lo hi:Nat} {f:Nat->BSt->StateT SortSt Sem (ForInStep BSt)}
 (hP:∀i j,i<=j->j<n->P j=true->P i=true)
 (hf:∀x lo hi,hi<=n->∀Q:ForInStep BSt->SortSt->Prop,(hi<=lo->Q (.done (none,lo,hi)) st)->
  (lo<hi->P (lo+(hi-lo) / 2)=true->Q (.yield (none,lo+(hi-lo) / 2+1,hi)) st)->
  (lo<hi->P (lo+(hi-lo) / 2)=false->Q (.yield (none,lo,lo+(hi-lo) / 2)) st)->
  wpS (model prog w) A E s (f x (none,lo,hi)) Q st)
 (hlo:lo<=hi) (hhi:hi<=n) (h1:∀i,i<lo->P i=true) (h2:∀i,hi<=i->i<n->P i=false):
 wpS (model prog w) A E s (forIn [:n] ((none,lo,hi):BSt) f)
  (fun c st'=>st'=st/\∃k,c=(none,k,k)/\k<=n/\(∀i,i<k->P i=true)/\(∀i,k<=i->i<n->P i=false)) st:=by
 refine wpS_forRange
  (I:=fun x c st'=>st'=st/\∃lo hi,c=(none,lo,hi)/\lo<=hi/\hi<=n/\hi-lo<=n-x/\
   (∀i,i<lo->P i=true)/\(∀i,hi<=i->i<n->P i=false))
  ?_ ?_ ⟨rfl,lo,hi,rfl,hlo,hhi,by lia,h1,h2⟩
 ·rintro x c st' _ hx ⟨rfl,lo,hi,rfl,a1,a2,a3,a4,a5⟩
  refine hf x lo hi a2 _ (fun hge=>?_) (fun hlt hm=>?_) (fun hlt hm=>?_)
  ·obtain rfl:lo=hi:=by lia
   exact ⟨rfl,lo,rfl,a2,a4,a5⟩
  ·exact ⟨rfl,_,hi,rfl,by lia,a2,by lia,fun i hi'=>hP i _ (by lia) (by lia) hm,a5⟩
  ·refine ⟨rfl,lo,_,rfl,by lia,by lia,by lia,a4,fun i hi' hin=>?_⟩
   cases e:P i with
   | false=>rfl
   | true=>rw [hP _ i hi' hin e] at hm;exact hm
 ·rintro c st' ⟨rfl,lo,hi,rfl,a1,a2,a3,a4,a5⟩
  obtain rfl:lo=hi:=by simp at a3;lia
  exact ⟨rfl,lo,rfl,a2,a4,a5⟩
theorem zmf {l:Bool} {key:Keyed} {a:Array Keyed} {b n hint:Nat} {Q:Option Nat->SortSt->Prop} (hk:kindOf st=SK.kind)
 (hI:∀p,p∈a.toList->isN p) (hq:isN key) (hn:b+n<=a.size) (hs:∀i j,i<=j->j<n->Kk a (b+i)<=Kk a (b+j)) (hh:hint<n)
 (h:∀k,k<=n->(∀i,i<k->Bey l (N key) (Kk a (b+i))=true)->(∀i,k<=i->i<n->Bey l (N key) (Kk a (b+i))=false)->Q (some k) st):
 wpS (model prog w) A E s (gal l key a b n hint) Q st:=by
 refine wpS_bind ?_
 obtain ⟨p,e1,e2,e3⟩:=zej hI (i:=b+hint) (by omega)
 refine zj4 hk e1 e2 hq ?_
 rw [<-e3]
 cases e:Bey l (N key) (Kk a (b+hint)) with
 | true=>
  dsimp only
  rw [if_pos rfl]
  refine wpS_bind (wpS_mono (wpS_forRange
   (I:=fun x c st'=>st'=st/\∃lo ofs,c=(none,lo,ofs)/\lo<ofs/\x<ofs/\hint+lo<n/\Bey l (N key) (Kk a (b+(hint+lo)))=true)
   (Q:=fun c st'=>st'=st/\∃lo ofs,c=(none,lo,ofs)/\lo<ofs/\hint+lo<n/\Bey l (N key) (Kk a (b+(hint+lo)))=true/\
    (hint+ofs<n->Bey l (N key) (Kk a (b+(hint+ofs)))=false))
   ?_ ?_ ⟨rfl,0,1,rfl,by omega,by omega,by omega,e⟩) ?_)
  ·rintro x c st' _ hx ⟨rfl,lo,ofs,rfl,a1,a2,a3,a4⟩
   dsimp only
   by_cases hge:ofs>=n-hint
   ·rw [if_pos hge]
    exact wpS_pure ⟨rfl,lo,ofs,rfl,a1,a3,a4,fun h=>absurd h (by omega)⟩
   ·rw [if_neg hge]
    obtain ⟨p,e1,e2,e3⟩:=zej hI (i:=b+(hint+ofs)) (by omega)
    refine wpS_bind (zj4 hk e1 e2 hq ?_)
    rw [<-e3]
    cases e':Bey l (N key) (Kk a (b+(hint+ofs))) with
    | true=>exact wpS_pure ⟨rfl,ofs,2*ofs+1,rfl,by omega,by omega,by omega,e'⟩
    | false=>exact wpS_pure ⟨rfl,lo,ofs,rfl,a1,a3,a4,fun _=>e'⟩
  ·rintro c st' ⟨rfl,lo,ofs,rfl,a1,a2,a3,a4⟩
   exact ⟨rfl,lo,ofs,rfl,a1,a3,a4,fun h=>absurd h (by simp at a2;omega)⟩
  ·rintro c st' ⟨rfl,lo,ofs,rfl,a1,a3,a4,a5⟩
   dsimp only
   refine wpS_bind (wpS_mono (zil (P:=fun i=>Bey l (N key) (Kk a (b+i))) (fun i j hij hj e=>zgn (hs i j hij hj) e)
    ?_ (by omega) (by omega) (fun i hi=>?_) (fun i hi hin=>?_)) ?_)
   ·intro x lo hi hhn Q' c1 c2 c3
    dsimp only
    by_cases hge:lo>=hi
    ·rw [if_pos hge];exact wpS_pure (c1 hge)
    ·rw [if_neg hge]
     obtain ⟨p,e1,e2,e3⟩:=zej hI (i:=b+(lo+(hi-lo) / 2)) (by omega)
     refine wpS_bind (zj4 hk e1 e2 hq ?_)
     rw [<-e3]
     cases e':Bey l (N key) (Kk a (b+(lo+(hi-lo) / 2))) with
     | true=>exact wpS_pure (c2 (by omega) e')
     | false=>exact wpS_pure (c3 (by omega) e')
   ·exact zgn (hs i (hint+lo) (by omega) (by omega)) a4
   ·exact zq5 (hs (hint+ofs) i (by omega) (by omega)) (a5 (by omega))
   ·rintro c st' ⟨rfl,k,rfl,b1,b2,b3⟩
    exact wpS_pure (h k b1 b2 b3)
 | false=>
  dsimp only
  rw [if_neg (by decide)]
  refine wpS_bind (wpS_mono (wpS_forRange
   (I:=fun x c st'=>st'=st/\∃lo ofs,c=(none,lo,ofs)/\lo<ofs/\x<ofs/\lo<=hint/\Bey l (N key) (Kk a (b+(hint-lo)))=false)
   (Q:=fun c st'=>st'=st/\∃lo ofs,c=(none,lo,ofs)/\lo<ofs/\lo<=hint/\Bey l (N key) (Kk a (b+(hint-lo)))=false/\
    (ofs<=hint->Bey l (N key) (Kk a (b+(hint-ofs)))=true))
   ?_ ?_ ⟨rfl,0,1,rfl,by omega,by omega,by omega,e⟩) ?_)
  ·rintro x c st' _ hx ⟨rfl,lo,ofs,rfl,a1,a2,a3,a4⟩
   dsimp only
   by_cases hge:ofs>=hint+1
   ·rw [if_pos hge]
    exact wpS_pure ⟨rfl,lo,ofs,rfl,a1,a3,a4,fun h=>absurd h (by omega)⟩
   ·rw [if_neg hge]
    obtain ⟨p,e1,e2,e3⟩:=zej hI (i:=b+(hint-ofs)) (by omega)
    refine wpS_bind (zj4 hk e1 e2 hq ?_)
    rw [<-e3]
    cases e':Bey l (N key) (Kk a (b+(hint-ofs))) with
    | true=>exact wpS_pure ⟨rfl,lo,ofs,rfl,a1,a3,a4,fun _=>e'⟩
    | false=>exact wpS_pure ⟨rfl,ofs,2*ofs+1,rfl,by omega,by omega,by omega,e'⟩
  ·rintro c st' ⟨rfl,lo,ofs,rfl,a1,a2,a3,a4⟩
   exact ⟨rfl,lo,ofs,rfl,a1,a3,a4,fun h=>absurd h (by simp at a2;omega)⟩
  ·rintro c st' ⟨rfl,lo,ofs,rfl,a1,a3,a4,a5⟩
   dsimp only
   refine wpS_bind (wpS_mono (zil (P:=fun i=>Bey l (N key) (Kk a (b+i))) (fun i j hij hj e=>zgn (hs i j hij hj) e)
    ?_ (by omega) (by omega) (fun i hi=>?_) (fun i hi hin=>?_)) ?_)
   ·intro x lo hi hhn Q' c1 c2 c3
    dsimp only
    by_cases hge:lo>=hi
    ·rw [if_pos hge];exact wpS_pure (c1 hge)
    ·rw [if_neg hge]
     obtain ⟨p,e1,e2,e3⟩:=zej hI (i:=b+(lo+(hi-lo) / 2)) (by omega)
     refine wpS_bind (zj4 hk e1 e2 hq ?_)
     rw [<-e3]
     cases e':Bey l (N key) (Kk a (b+(lo+(hi-lo) / 2))) with
     | true=>exact wpS_pure (c2 (by omega) e')
     | false=>exact wpS_pure (c3 (by omega) e')
   ·exact zgn (hs i (hint-ofs) (by omega) (by omega)) (a5 (by omega))
   ·exact zq5 (hs (hint-lo) i (by omega) (by omega)) a4
   ·rintro c st' ⟨rfl,k,rfl,b1,b2,b3⟩
    exact wpS_pure (h k b1 b2 b3)
end
structure Iv (r:Keyed->Keyed->Prop) (W O X Y:List Keyed):Prop where
 perm:(O++(X++Y)).Perm W
 srt:O.Pairwise r
 sx:X.Pairwise r
 sy:Y.Pairwise r
 lx:∀p∈O,∀q∈X,r p q
 ly:∀p∈O,∀q∈Y,r p q
def Out (r:Keyed->Keyed->Prop) (W R:List Keyed):Prop:=R.Perm W/\R.Pairwise r
theorem Iv.symm {r W O X Y} (h:Iv r W O X Y):Iv r W O Y X:=
 ⟨((List.perm_append_comm (l₁:=Y) (l₂:=X)).append_left O).trans h.perm,h.srt,h.sy,h.sx,h.ly,h.lx⟩
theorem Iv.stepX {r W O u v Y} (h:Iv r W O (u++v) Y) (hc:∀p∈u,∀q∈Y,r p q):Iv r W (O++u) v Y:=by
 have hp:=List.pairwise_append.mp h.sx
 refine ⟨by simpa [List.append_assoc] using h.perm,?_,hp.2.1,h.sy,?_,?_⟩
 ·exact List.pairwise_append.mpr ⟨h.srt,hp.1,fun p hp' q hq=>h.lx p hp' q (ZAb _ hq)⟩
 ·intro p hp' q hq
  rcases ZBo.mp hp' with h' | h'
  ·exact h.lx p h' q (ZBn _ hq)
  ·exact hp.2.2 p h' q hq
 ·intro p hp' q hq
  rcases ZBo.mp hp' with h' | h'
  ·exact h.ly p h' q hq
  ·exact hc p h' q hq
theorem Iv.stepY {r W O X u v} (h:Iv r W O X (u++v)) (hc:∀p∈u,∀q∈X,r p q):Iv r W (O++u) X v:=(h.symm.stepX hc).symm
theorem Iv.fin {r W O X Y R} (h:Iv r W O X Y) (hp:R.Perm (X++Y)) (hs:R.Pairwise r):Out r W (O++R):=by
 refine ⟨(hp.append_left O).trans h.perm,List.pairwise_append.mpr ⟨h.srt,hs,fun p hp' q hq=>?_⟩⟩
 rcases ZBo.mp (hp.mem_iff.mp hq) with h' | h'
 ·exact h.lx p hp' q h'
 ·exact h.ly p hp' q h'
section
variable [SK]
def le (p q:Keyed):Prop:=N p<=N q
def ge (p q:Keyed):Prop:=N q<=N p
theorem zds {a:Array Keyed} {i k:Nat} (h:i+k<=a.size):a.toList.drop i=(a.extract i (i+k)).toList++a.toList.drop (i+k):=by
 rw [Array.toList_extract,List.extract_eq_take_drop,Nat.add_sub_cancel_left,<-List.drop_drop,List.take_append_drop]
theorem zla {a:Array Keyed} {i:Nat} {p:Keyed} (h:a[i]?=some p):a.toList.drop i=[p]++a.toList.drop (i+1):=by
 obtain ⟨hi,rfl⟩:=Array.getElem?_eq_some_iff.mp h
 rw [List.drop_eq_getElem_cons (by simpa using hi)];simp
theorem zh3 {a:Array Keyed} {i j:Nat} {p:Keyed} (h:p∈(a.extract i j).toList):∃m,i<=m/\m<j/\m<a.size/\Kk a m=N p:=by
 obtain ⟨m,hm,e⟩:=ZBs h
 simp only [ZAj,Array.size_extract] at hm
 refine ⟨i+m,by omega,by omega,by omega,?_⟩
 have:a[i+m]?=some p:=by
  rw [getElem?_pos a (i+m) (by omega)]
  simp only [Array.getElem_toList,Array.getElem_extract] at e
  rw [e]
 unfold Kk;rw [this]
theorem zgo {a:Array Keyed} {i:Nat} {p:Keyed} (h:a[i]?=some p):Kk a i=N p:=by unfold Kk;rw [h]
theorem zno {a:Array Keyed} (hs:a.toList.Pairwise le) {i j:Nat} (hij:i<=j) (hj:j<a.size):Kk a i<=Kk a j:=by
 rcases Nat.lt_or_eq_of_le hij with h | rfl
 ·have e1:=getElem?_pos a i (by omega)
  have e2:=getElem?_pos a j hj
  rw [zgo e1,zgo e2]
  have:=ZBt.mp hs i j (by simp;omega) (by simp;omega) h
  exact (by simpa using this:le a[i] a[j])
 ·exact Int.le_refl _
theorem zdo {a:Array Keyed} {i:Nat} {p:Keyed} (h:p∈a.toList.drop i):∃m,i<=m/\m<a.size/\Kk a m=N p:=by
 obtain ⟨m,hm,e⟩:=ZBs h
 simp only [ZAd,ZAj] at hm
 refine ⟨i+m,by lia,by lia,zgo ?_⟩
 rw [getElem?_pos a (i+m) (by lia)]
 simpa using e
theorem zcu {a:Array Keyed} {i:Nat} {p:Keyed} (h:p∈a.toList.take i):∃m,m<i/\m<a.size/\Kk a m=N p:=by
 obtain ⟨m,hm,e⟩:=ZBs h
 simp only [ZBl,ZAj] at hm
 refine ⟨m,by lia,by lia,zgo ?_⟩
 rw [getElem?_pos a m (by lia)]
 simpa using e
section lo
variable {a b out:Array Keyed} {ia ib:Nat} {W:List Keyed}
abbrev Fv (W:List Keyed) (a b out:Array Keyed) (ia ib:Nat):Prop:=Iv le W out.toList (a.toList.drop ia) (b.toList.drop ib)
theorem Fv.runA (h:Fv W a b out ia ib) {k:Nat} (hk:ia+k<=a.size) (hc:∀p∈(a.extract ia (ia+k)).toList,∀q∈b.toList.drop ib,le p q):
 Fv W a b (out++a.extract ia (ia+k)) (ia+k) ib:=by
 unfold Fv at*;rw [zds hk] at h;rw [ZAc];exact h.stepX hc
theorem Fv.runB (h:Fv W a b out ia ib) {k:Nat} (hk:ib+k<=b.size) (hc:∀p∈(b.extract ib (ib+k)).toList,∀q∈a.toList.drop ia,le p q):
 Fv W a b (out++b.extract ib (ib+k)) ia (ib+k):=by
 unfold Fv at*;rw [zds hk] at h;rw [ZAc];exact h.stepY hc
theorem Fv.oneA (h:Fv W a b out ia ib) {p:Keyed} (e:a[ia]?=some p) (hc:∀q∈b.toList.drop ib,le p q):Fv W a b (out.push p) (ia+1) ib:=by
 unfold Fv at*;rw [zla e] at h;rw [Array.toList_push];exact h.stepX (by simpa using hc)
theorem Fv.oneB (h:Fv W a b out ia ib) {p:Keyed} (e:b[ib]?=some p) (hc:∀q∈a.toList.drop ia,le p q):Fv W a b (out.push p) ia (ib+1):=by
 unfold Fv at*;rw [zla e] at h;rw [Array.toList_push];exact h.stepY (by simpa using hc)
theorem zjg (a:Array Keyed) (i:Nat):(a.extract i a.size).toList=a.toList.drop i:=by
 rw [Array.toList_extract,List.extract_eq_take_drop];exact List.take_of_length_le (by simp)
theorem Fv.end1 (h:Fv W a b out ia ib) (he:ia=a.size\/ib=b.size):Out le W (out++a.extract ia a.size++b.extract ib b.size).toList:=by
 rw [ZAc,ZAc,zjg,zjg,List.append_assoc]
 refine h.fin (List.Perm.refl _) ?_
 rcases he with rfl | rfl
 ·rw [List.drop_of_length_le (by simp)];exact h.sy
 ·rw [show b.toList.drop b.size=[] from List.drop_of_length_le (by simp),List.append_nil];exact h.sx
theorem Fv.end2 (h:Fv W a b out ia ib) (hc:∀p∈b.toList.drop ib,∀q∈a.toList.drop ia,le p q):Out le W (out++b.extract ib b.size++a.extract ia a.size).toList:=by
 rw [ZAc,ZAc,zjg,zjg,List.append_assoc]
 exact h.fin List.perm_append_comm (List.pairwise_append.mpr ⟨h.sy,h.sx,hc⟩)
end lo
section hi
variable {a b out:Array Keyed} {na nb:Nat} {W:List Keyed}
abbrev Bv (W:List Keyed) (a b out:Array Keyed) (na nb:Nat):Prop:=Iv ge W out.toList (a.toList.take na).reverse (b.toList.take nb).reverse
theorem zio {a:Array Keyed} {i n:Nat} (h:i<=n):(a.toList.take n).reverse=(a.extract i n).reverse.toList++(a.toList.take i).reverse:=by
 rw [Array.toList_reverse,Array.toList_extract,List.extract_eq_take_drop,<-List.reverse_append]
 congr 1
 rw [<-List.drop_take,]
 conv=>lhs;rw [<-List.take_append_drop i (a.toList.take n)]
 rw [List.take_take,Nat.min_eq_left h]
theorem zke {a:Array Keyed} {i:Nat} {p:Keyed} (h:a[i]?=some p):(a.toList.take (i+1)).reverse=[p]++(a.toList.take i).reverse:=by
 obtain ⟨hi,rfl⟩:=Array.getElem?_eq_some_iff.mp h
 rw [List.take_succ_eq_append_getElem (by simpa using hi),List.reverse_append];simp
theorem Bv.runA (h:Bv W a b out na nb) {i:Nat} (hi:i<=na) (hc:∀p∈(a.extract i na).toList,∀q∈b.toList.take nb,ge p q):
 Bv W a b (out++(a.extract i na).reverse) i nb:=by
 unfold Bv at*;rw [zio hi] at h;rw [ZAc];exact h.stepX (by simpa using hc)
theorem Bv.runB (h:Bv W a b out na nb) {i:Nat} (hi:i<=nb) (hc:∀p∈(b.extract i nb).toList,∀q∈a.toList.take na,ge p q):
 Bv W a b (out++(b.extract i nb).reverse) na i:=by
 unfold Bv at*;rw [zio hi] at h;rw [ZAc];exact h.stepY (by simpa using hc)
theorem Bv.oneA (h:Bv W a b out (na+1) nb) {p:Keyed} (e:a[na]?=some p) (hc:∀q∈b.toList.take nb,ge p q):Bv W a b (out.push p) na nb:=by
 unfold Bv at*;rw [zke e] at h;rw [Array.toList_push];exact h.stepX (by simpa using hc)
theorem Bv.oneB (h:Bv W a b out na (nb+1)) {p:Keyed} (e:b[nb]?=some p) (hc:∀q∈a.toList.take na,ge p q):Bv W a b (out.push p) na nb:=by
 unfold Bv at*;rw [zke e] at h;rw [Array.toList_push];exact h.stepY (by simpa using hc)
theorem zhs (a:Array Keyed) (i:Nat):(a.extract 0 i).toList=a.toList.take i:=by
 rw [Array.toList_extract,List.extract_eq_take_drop];simp
theorem Out.rev {R:List Keyed} (h:Out ge W R):Out le W R.reverse:=⟨(List.reverse_perm R).trans h.1,List.pairwise_reverse.mpr h.2⟩
theorem Bv.end1 (h:Bv W a b out na nb) (he:na=0\/nb=0):Out le W (a.extract 0 na++b.extract 0 nb++out.reverse).toList:=by
 have:(a.extract 0 na++b.extract 0 nb++out.reverse).toList=(out.toList++((b.toList.take nb).reverse++(a.toList.take na).reverse)).reverse:=by
  rw [ZAc,ZAc,zhs,zhs,Array.toList_reverse];simp
 rw [this]
 refine (h.fin List.perm_append_comm ?_).rev
 rcases he with rfl | rfl
 ·simpa using h.sy
 ·simpa using h.sx
theorem Bv.end2 (h:Bv W a b out na nb) (hc:∀p∈a.toList.take na,∀q∈b.toList.take nb,ge p q):Out le W (b.extract 0 nb++a.extract 0 na++out.reverse).toList:=by
 have:(b.extract 0 nb++a.extract 0 na++out.reverse).toList=(out.toList++((a.toList.take na).reverse++(b.toList.take nb).reverse)).reverse:=by
  rw [ZAc,ZAc,zhs,zhs,Array.toList_reverse];simp
 rw [this]
 exact (h.fin (List.Perm.refl _) (List.pairwise_append.mpr ⟨h.sx,h.sy,by simpa using hc⟩)).rev
end hi
end
def mlo:Array Keyed->Array Keyed->StateT SortSt Sem (Array Keyed):=sortPriv% PySem.Builtin.mergeLo
def mhi:Array Keyed->Array Keyed->StateT SortSt Sem (Array Keyed):=sortPriv% PySem.Builtin.mergeHi
structure Sm (st st':SortSt):Prop where
 kind:kindOf st'=kindOf st
 arr:arrOf st'=arrOf st
 pend:pendingOf st'=pendingOf st
 fail:failedOf st'=failedOf st
theorem Sm.refl (st:SortSt):Sm st st:=⟨rfl,rfl,rfl,rfl⟩
def smg:Nat->StateT SortSt Sem Unit:=sortPriv% PySem.Builtin.setMinGallop
section
variable [SK] {prog:Program} {w:World} {A:Around} {E:Value->Shared->Prop} {s:Shared} [LtOk prog w A E s] {st st₀:SortSt} {a b:Array Keyed}
theorem zbc {α:Type} {c:Prop} {inst:Decidable c} {m n:StateT SortSt Sem α} {Q:α->SortSt->Prop} (hc:c) (h:wpS (model prog w) A E s m Q st):
 wpS (model prog w) A E s (@ite _ c inst m n) Q st:=by rw [if_pos hc];exact h
theorem zce {α:Type} {c:Prop} {inst:Decidable c} {m n:StateT SortSt Sem α} {Q:α->SortSt->Prop} (hc:¬c) (h:wpS (model prog w) A E s n Q st):
 wpS (model prog w) A E s (@ite _ c inst m n) Q st:=by rw [if_neg hc];exact h
theorem zme {g:Nat} {Q:Unit->SortSt->Prop} (hm:Sm st₀ st) (h:∀st',Sm st₀ st'->Q () st'):wpS (model prog w) A E s (smg g) Q st:=
 wpS_modify (h _ ⟨hm.kind,hm.arr,hm.pend,hm.fail⟩)
theorem zzm {l:Bool} {key:Keyed} {i:Nat} {Q:Option Nat->SortSt->Prop} (hk:kindOf st=SK.kind)
 (hI:∀p,p∈a.toList->isN p) (hs:a.toList.Pairwise le) (hq:isN key) (hi:i<a.size)
 (h:∀k,i+k<=a.size->(∀m,i<=m->m<i+k->Bey l (N key) (Kk a m)=true)->(∀m,i+k<=m->m<a.size->Bey l (N key) (Kk a m)=false)->Q (some k) st):
 wpS (model prog w) A E s (gal l key a i (a.size-i) 0) Q st:=by
 refine zmf hk hI hq (by lia) (fun x y hxy hy=>zno hs (by lia) (by lia)) (by lia) fun k h1 h2 h3=>?_
 refine h k (by lia) (fun m m1 m2=>?_) (fun m m1 m2=>?_)
 ·have:=h2 (m-i) (by lia);rwa [show i+(m-i)=m by lia] at this
 ·have:=h3 (m-i) (by lia) (by lia);rwa [show i+(m-i)=m by lia] at this
def SQ {β:Type} (Q I:β->SortSt->Prop):ForInStep β->SortSt->Prop
 | .done c,st=>Q c st
 | .yield c,st=>I c st
theorem zd3 {β:Type} {n:Nat} {f:Nat->β->StateT SortSt Sem (ForInStep β)} (I:Nat->β->SortSt->Prop) {Q:β->SortSt->Prop}
 (hstep:∀i c st,i<n->I i c st->wpS (model prog w) A E s (f i c) (SQ Q (I (i+1))) st)
 (hend:∀c st,I n c st->Q c st) {c:β} {st:SortSt} (h:I 0 c st):wpS (model prog w) A E s (forIn [:n] c f) Q st:=
 wpS_forRange I (fun i c st _ hi hI=>wpS_mono (hstep i c st hi hI) fun r st' h'=>by cases r<;>exact h')
  (fun c st h'=>hend c st (by rwa [Nat.max_eq_right (ZBa _)] at h')) h
theorem zvt {Q:Array Keyed->SortSt->Prop} {W:List Keyed} (hW:W=a.toList++b.toList) (hk:kindOf st=SK.kind)
 (ha:∀p,p∈a.toList->isN p) (hb:∀p,p∈b.toList->isN p) (sa:a.toList.Pairwise le) (sb:b.toList.Pairwise le)
 (na:0<a.size) (nb:0<b.size) (h0:Kk b 0<=Kk a 0) (hl:Kk b (b.size-1)<=Kk a (a.size-1))
 (h:∀r st',Sm st st'->Out le W r.toList->Q r st'):wpS (model prog w) A E s (mlo a b) Q st:=by
 have hlast:∀{i j:Nat},i+1=a.size->∀p∈b.toList.drop j,∀q∈a.toList.drop i,le p q:=by
  intro i j hi p hp q hq
  obtain ⟨x,x1,x2,x3⟩:=zdo hp
  obtain ⟨y,y1,y2,y3⟩:=zdo hq
  unfold le
  rw [<-x3,<-y3,show y=a.size-1 by lia]
  exact ZAa (zno sb (by lia) (by lia)) hl
 let J:Array Keyed->Nat->Nat->SortSt->Prop:=fun out ia ib st'=>Fv W a b out ia ib/\ia+1<a.size/\ib<b.size/\Sm st st'
 let F:Array Keyed->SortSt->Prop:=fun r st'=>Out le W r.toList/\Sm st st'
 refine wpS_bind (wpS_lift (wpAny_rule ⟨rfl,?_⟩))
 obtain ⟨y0,e0,i0,k0⟩:=zej hb (i:=0) nb
 refine wpS_bind (zbo e0 ?_)
 have zes:Fv W a b #[y0] 0 1:=by
  have:Fv W a b #[] 0 0:=⟨by simp [hW],List.Pairwise.nil,sa,sb,by simp,by simp⟩
  refine this.oneB e0 fun q hq=>?_
  obtain ⟨m,m1,m2,m3⟩:=zdo hq
  unfold le;rw [<-m3,<-k0]
  exact ZAa h0 (zno sa (ZBa _) m2)
 by_cases c1:1=b.size
 ·refine zbc (c:=(1==b.size)=true) (by simpa using c1) ?_
  exact wpS_pure (h _ _ (Sm.refl st) (zes.end1 (.inr c1)))
 refine zce (c:=(1==b.size)=true) (by simpa using c1) ?_
 by_cases c2:0+1=a.size
 ·refine zbc (c:=(0+1==a.size)=true) (by simpa using c2) ?_
  exact wpS_pure (h _ _ (Sm.refl st) (zes.end2 (hlast c2)))
 refine zce (c:=(0+1==a.size)=true) (by simpa using c2) ?_
 refine wpS_bind (wpS_get ?_)
 refine wpS_bind (wpS_mono (zd3
  (I:=fun x c st'=>∃out ia ib mg,c=(none,out,ia,ib,mg)/\J out ia ib st'/\x<=ia+ib)
  (Q:=fun c st'=>∃r,c.1=some r/\F r st') ?outer ?oend ⟨_,_,_,_,rfl,⟨zes,by lia,by lia,Sm.refl st⟩,by lia⟩) ?post)
 case post=>
  rintro ⟨c1,c2⟩ st' ⟨r,rfl,hF⟩
  exact wpS_pure (h r st' hF.2 hF.1)
 case oend=>
  rintro c st' ⟨out,ia,ib,mg,rfl,⟨_,j2,j3,_⟩,hx⟩
  exfalso
  lia
 case outer=>
  rintro x c st' hx ⟨out,ia,ib,mg,rfl,hJ,hxx⟩
  generalize ht0:ia+ib=t0 at hxx
  refine wpS_bind (wpS_mono (zd3
   (I:=fun x c st'=>∃out ia ib ac bc,c=(none,out,ia,ib,ac,bc)/\J out ia ib st'/\t0+x<=ia+ib)
   (Q:=fun c st'=>(∃r,c.1=some r/\F r st')\/∃out ia ib ac bc,c=(none,out,ia,ib,ac,bc)/\J out ia ib st'/\t0+1<=ia+ib)
   ?one ?oneEnd ⟨out,ia,ib,0,0,rfl,hJ,by lia⟩) ?two)
  case oneEnd=>
   rintro c st' ⟨out,ia,ib,ac,bc,rfl,j,hx'⟩
   exact .inr ⟨out,ia,ib,ac,bc,rfl,j,by lia⟩
  case one=>
   rintro x' c st' _ ⟨out,ia,ib,ac,bc,rfl,⟨j1,j2,j3,j4⟩,hx'⟩
   obtain ⟨y,ey,iy,ky⟩:=zej hb (i:=ib) j3
   obtain ⟨z,ez,iz,kz⟩:=zej ha (i:=ia) (by lia)
   refine wpS_bind (zbo ey (wpS_bind (zbo ez (wpS_bind (zop (j4.kind.trans hk) iy iz ?_)))))
   by_cases hlt:N y<N z
   ·rw [ZB8 hlt]
    refine wpS_bind (zbo ey ?_)
    have j1':=j1.oneB ey (fun q hq=>by
     obtain ⟨m,m1,m2,m3⟩:=zdo hq
     unfold le;rw [<-m3]
     exact ZAa (ZAf hlt) (kz▸zno sa m1 m2))
    by_cases c3:ib+1=b.size
    ·refine zbc (c:=(ib+1==b.size)=true) (by simpa using c3) ?_
     exact wpS_pure (.inl ⟨_,rfl,j1'.end1 (.inr c3),j4⟩)
    refine zce (c:=(ib+1==b.size)=true) (by simpa using c3) ?_
    have jj:J (out.push y) ia (ib+1) st':=⟨j1',j2,by lia,j4⟩
    by_cases c4:bc+1>=mg
    ·refine zbc c4 ?_
     exact wpS_pure (.inr ⟨_,ia,ib+1,_,_,rfl,jj,by lia⟩)
    ·refine zce c4 ?_
     exact wpS_pure ⟨_,ia,ib+1,_,_,rfl,jj,by lia⟩
   ·rw [ZB9 hlt]
    refine wpS_bind (zbo ez ?_)
    have j1':=j1.oneA ez (fun q hq=>by
     obtain ⟨m,m1,m2,m3⟩:=zdo hq
     unfold le;rw [<-m3]
     exact ZAa (Int.not_lt.mp hlt) (ky▸zno sb m1 m2))
    by_cases c3:ia+1+1=a.size
    ·refine zbc (c:=(ia+1+1==a.size)=true) (by simpa using c3) ?_
     exact wpS_pure (.inl ⟨_,rfl,j1'.end2 (hlast c3),j4⟩)
    refine zce (c:=(ia+1+1==a.size)=true) (by simpa using c3) ?_
    have jj:J (out.push z) (ia+1) ib st':=⟨j1',by lia,j3,j4⟩
    by_cases c4:ac+1>=mg
    ·refine zbc c4 ?_
     exact wpS_pure (.inr ⟨_,ia+1,ib,_,_,rfl,jj,by lia⟩)
    ·refine zce c4 ?_
     exact wpS_pure ⟨_,ia+1,ib,_,_,rfl,jj,by lia⟩
  case two=>
   rintro ⟨c1,c2⟩ st2 (⟨r,rfl,hF⟩ | ⟨out,ia,ib,ac,bc,e,hJ',ht⟩)
   ·exact wpS_pure ⟨r,rfl,hF⟩
   cases e
   refine wpS_bind (wpS_lift (wpAny_rule ⟨rfl,?_⟩))
   refine wpS_bind (wpS_mono (zd3
    (I:=fun x c st'=>∃out ia ib mg ac bc,c=(none,out,ia,ib,mg,ac,bc)/\J out ia ib st'/\t0+1<=ia+ib)
    (Q:=fun c st'=>(∃r,c.1=some r/\F r st')\/∃out ia ib mg ac bc,c=(none,out,ia,ib,mg,ac,bc)/\J out ia ib st'/\t0+1<=ia+ib)
    ?gal ?galEnd ⟨_,_,_,_,_,_,rfl,hJ',ht⟩) ?three)
   case galEnd=>exact fun c st' hh=>.inr hh
   case three=>
    rintro ⟨c1,c2⟩ st3 (⟨r,rfl,hF⟩ | ⟨out,ia,ib,mg,ac,bc,e,⟨j1,j2,j3,j4⟩,ht⟩)
    ·exact wpS_pure ⟨r,rfl,hF⟩
    cases e
    exact wpS_bind (zme j4 fun st4 j4'=>wpS_pure ⟨out,ia,ib,_,rfl,⟨j1,j2,j3,j4'⟩,by lia⟩)
   case gal=>
    rintro x' c st3 _ ⟨out,ia,ib,mg,ac,bc,rfl,⟨j1,j2,j3,j4⟩,ht⟩
    extract_lets-underBinder+onlyGivenNames s1 out1 s2 ia1 s3 ib1 s4 mg1 s5 ac1 bc1 jp
    let R:ForInStep (Option (Array Keyed)×Array Keyed×Nat×Nat×Nat×Nat×Nat)->SortSt->Prop:=
     SQ (fun c st'=>(∃r,c.1=some r/\F r st')\/∃out ia ib mg ac bc,c=(none,out,ia,ib,mg,ac,bc)/\J out ia ib st'/\t0+1<=ia+ib)
      (fun c st'=>∃out ia ib mg ac bc,c=(none,out,ia,ib,mg,ac,bc)/\J out ia ib st'/\t0+1<=ia+ib)
    have hjp:∀(u:Unit) (g:Nat),wpS (model prog w) A E s (jp u g) R st3:=by
     intro u g
     refine wpS_bind (zme j4 fun st4 j4'=>?_)
     obtain ⟨y,ey,iy,ky⟩:=zej hb (i:=ib) j3
     refine wpS_bind (zbo ey (wpS_bind (zzm (j4'.kind.trans hk) ha sa iy (i:=ia) (by lia) fun k g1 g2 g3=>?_)))
     dsimp-zeta only
     extract_lets-underBinder+onlyGivenNames ac2 jp2
     have hrun:=j1.runA g1 (fun p hp q hq=>by
      obtain ⟨m,m1,m2,m3,m4⟩:=zh3 hp
      obtain ⟨m',n1,n2,n3⟩:=zdo hq
      have:=g2 m m1 m2
      unfold le;rw [<-m4,<-n3]
      exact ZAa (by simpa [Bey] using this) (ky▸zno sb n1 n2))
     have hjp2:∀(u:Unit) (out:Array Keyed) (i:Nat),Fv W a b out i ib->i+1<a.size->ia<=i->(∀m,i<=m->m<a.size->N y<Kk a m)->
      wpS (model prog w) A E s (jp2 u out i) R st4:=by
      intro u out i f1 f2 f3 f4
      refine wpS_bind (zbo ey ?_)
      have f5:=f1.oneB ey (fun q hq=>by
       obtain ⟨m',n1,n2,n3⟩:=zdo hq
       unfold le;rw [<-n3];exact ZAf (f4 m' n1 n2))
      by_cases c3:ib+1=b.size
      ·refine zbc (c:=(ib+1==b.size)=true) (by simpa using c3) ?_
       exact wpS_pure (.inl ⟨_,rfl,f5.end1 (.inr c3),j4'⟩)
      refine zce (c:=(ib+1==b.size)=true) (by simpa using c3) ?_
      obtain ⟨z,ez,iz,kz⟩:=zej ha (i:=i) (by lia)
      refine wpS_bind (zbo ez (wpS_bind (zzm (j4'.kind.trans hk) hb sb iz (i:=ib+1) (by lia) fun k' g1' g2' g3'=>?_)))
      dsimp-zeta only
      extract_lets-underBinder+onlyGivenNames bc2 jp3
      have hrun':=f5.runB g1' (fun p hp q hq=>by
       obtain ⟨m,m1,m2,m3,m4⟩:=zh3 hp
       obtain ⟨m',n1,n2,n3⟩:=zdo hq
       have:=g2' m m1 m2
       unfold le;rw [<-m4,<-n3]
       exact ZAa (ZAf (by simpa [Bey] using this)) (kz▸zno sa n1 n2))
      have hjp3:∀(u:Unit) (out:Array Keyed) (j:Nat),Fv W a b out i j->j<b.size->ib+1<=j->(∀m,j<=m->m<b.size->N z<=Kk b m)->
       wpS (model prog w) A E s (jp3 u out j) R st4:=by
       intro u out j d1 d2 d3 d4
       refine wpS_bind (zbo ez ?_)
       have d5:=d1.oneA ez (fun q hq=>by
        obtain ⟨m',n1,n2,n3⟩:=zdo hq
        unfold le;rw [<-n3];exact d4 m' n1 n2)
       by_cases c4:i+1+1=a.size
       ·refine zbc (c:=(i+1+1==a.size)=true) (by simpa using c4) ?_
        exact wpS_pure (.inl ⟨_,rfl,d5.end2 (hlast c4),j4'⟩)
       refine zce (c:=(i+1+1==a.size)=true) (by simpa using c4) ?_
       have jj:J (out.push z) (i+1) j st4:=⟨d5,by lia,d2,j4'⟩
       by_cases c5:(decide (k<7) && decide (k'<7))=true
       ·refine zbc c5 ?_
        exact wpS_pure (.inr ⟨_,i+1,j,_,_,_,rfl,jj,by lia⟩)
       ·refine zce c5 ?_
        exact wpS_pure ⟨_,i+1,j,_,_,_,rfl,jj,by lia⟩
      by_cases c4:k'>0
      ·refine zbc c4 ?_
       by_cases c5:ib+1+k'=b.size
       ·refine zbc (c:=(ib+1+k'==b.size)=true) (by simpa using c5) ?_
        exact wpS_pure (.inl ⟨_,rfl,hrun'.end1 (.inr c5),j4'⟩)
       refine zce (c:=(ib+1+k'==b.size)=true) (by simpa using c5) ?_
       exact hjp3 () _ (ib+1+k') hrun' (by lia) (by lia) fun m m1 m2=>by simpa [Bey] using g3' m m1 m2
      ·refine zce c4 ?_
       obtain rfl:k'=0:=by lia
       exact hjp3 () _ (ib+1) f5 (by lia) (by lia) fun m m1 m2=>by simpa [Bey] using g3' m m1 m2
     by_cases c4:k>0
     ·refine zbc c4 ?_
      by_cases c5:ia+k+1=a.size
      ·refine zbc (c:=(ia+k+1==a.size)=true) (by simpa using c5) ?_
       exact wpS_pure (.inl ⟨_,rfl,hrun.end2 (hlast c5),j4'⟩)
      refine zce (c:=(ia+k+1==a.size)=true) (by simpa using c5) ?_
      by_cases c6:ia+k=a.size
      ·refine zbc (c:=(ia+k==a.size)=true) (by simpa using c6) ?_
       exact wpS_pure (.inl ⟨_,rfl,hrun.end1 (.inl c6),j4'⟩)
      refine zce (c:=(ia+k==a.size)=true) (by simpa using c6) ?_
      exact hjp2 () _ (ia+k) hrun (by lia) (by lia) fun m m1 m2=>by simpa [Bey] using g3 m m1 m2
     ·refine zce c4 ?_
      obtain rfl:k=0:=by lia
      exact hjp2 () _ ia j1 (by lia) (by lia) fun m m1 m2=>by simpa [Bey] using g3 m m1 m2
    by_cases c5:mg>1
    ·refine zbc c5 ?_
     exact hjp () (mg-1)
    ·refine zce c5 ?_
     exact hjp () mg
end
section
variable [SK] {prog:Program} {w:World} {A:Around} {E:Value->Shared->Prop} {s:Shared} [LtOk prog w A E s] {st st₀:SortSt} {a b:Array Keyed}
theorem zzl {l:Bool} {key:Keyed} {n:Nat} {Q:Option Nat->SortSt->Prop} (hk:kindOf st=SK.kind)
 (hI:∀p,p∈a.toList->isN p) (hs:a.toList.Pairwise le) (hq:isN key) (hn:n<=a.size) (h0:0<n)
 (h:∀k,k<=n->(∀m,m<k->Bey l (N key) (Kk a m)=true)->(∀m,k<=m->m<n->Bey l (N key) (Kk a m)=false)->Q (some k) st):
 wpS (model prog w) A E s (gal l key a 0 n (n-1)) Q st:=by
 refine zmf hk hI hq (by lia) (fun x y hxy hy=>zno hs (by lia) (by lia)) (by lia) fun k h1 h2 h3=>?_
 refine h k h1 (fun m m1=>?_) (fun m m1 m2=>?_)
 ·have:=h2 m m1;rwa [Nat.zero_add] at this
 ·have:=h3 m m1 m2;rwa [Nat.zero_add] at this
theorem zvu {Q:Array Keyed->SortSt->Prop} {W:List Keyed} (hW:W=a.toList++b.toList) (hk:kindOf st=SK.kind)
 (ha:∀p,p∈a.toList->isN p) (hb:∀p,p∈b.toList->isN p) (sa:a.toList.Pairwise le) (sb:b.toList.Pairwise le)
 (pa:0<a.size) (pb:0<b.size) (h0:Kk b 0<=Kk a 0) (hl:Kk b (b.size-1)<=Kk a (a.size-1))
 (h:∀r st',Sm st st'->Out le W r.toList->Q r st'):wpS (model prog w) A E s (mhi a b) Q st:=by
 have hfirst:∀{i j:Nat},j=1->∀p∈a.toList.take i,∀q∈b.toList.take j,ge p q:=by
  intro i j hj p hp q hq
  obtain ⟨x,x1,x2,x3⟩:=zcu hp
  obtain ⟨y,y1,y2,y3⟩:=zcu hq
  unfold ge
  rw [<-x3,<-y3,show y=0 by omega]
  exact ZAa h0 (zno sa (by omega) (by omega))
 let J:Array Keyed->Nat->Nat->SortSt->Prop:=fun out na nb st'=>Bv W a b out na nb/\0<na/\na<=a.size/\1<nb/\nb<=b.size/\Sm st st'
 let F:Array Keyed->SortSt->Prop:=fun r st'=>Out le W r.toList/\Sm st st'
 refine wpS_bind (wpS_lift (wpAny_rule ⟨rfl,?_⟩))
 obtain ⟨y0,e0,i0,k0⟩:=zej ha (i:=a.size-1) (by omega)
 refine wpS_bind (zbo e0 ?_)
 have zes:Bv W a b #[y0] (a.size-1) b.size:=by
  have:Bv W a b #[] (a.size-1+1) b.size:=by
   rw [show a.size-1+1=a.size by omega]
   unfold Bv
   rw [List.take_of_length_le (by simp),List.take_of_length_le (by simp)]
   refine ⟨?_,List.Pairwise.nil,List.pairwise_reverse.mpr sa,List.pairwise_reverse.mpr sb,by simp,by simp⟩
   rw [hW]
   exact (List.reverse_perm _).append (List.reverse_perm _)
  refine this.oneA e0 fun q hq=>?_
  obtain ⟨m,m1,m2,m3⟩:=zcu hq
  unfold ge;rw [<-m3,<-k0]
  exact ZAa (zno sb (by omega) (by omega)) hl
 by_cases c1:a.size-1=0
 ·refine zbc (c:=(a.size-1==0)=true) (by simpa using c1) ?_
  exact wpS_pure (h _ _ (Sm.refl st) (zes.end1 (.inl c1)))
 refine zce (c:=(a.size-1==0)=true) (by simpa using c1) ?_
 by_cases c2:b.size=1
 ·refine zbc (c:=(b.size==1)=true) (by simpa using c2) ?_
  exact wpS_pure (h _ _ (Sm.refl st) (zes.end2 (hfirst c2)))
 refine zce (c:=(b.size==1)=true) (by simpa using c2) ?_
 refine wpS_bind (wpS_get ?_)
 refine wpS_bind (wpS_mono (zd3
  (I:=fun x c st'=>∃na nb out mg,c=(none,na,nb,out,mg)/\J out na nb st'/\na+nb+x<=a.size+b.size)
  (Q:=fun c st'=>∃r,c.1=some r/\F r st') ?outer ?oend ⟨a.size-1,b.size,_,_,rfl,⟨zes,by omega,by omega,by omega,by omega,Sm.refl st⟩,by omega⟩) ?post)
 case post=>
  rintro ⟨c1,c2⟩ st' ⟨r,rfl,hF⟩
  exact wpS_pure (h r st' hF.2 hF.1)
 case oend=>
  rintro c st' ⟨na,nb,out,mg,rfl,⟨_,j2,j3,j4,j5,_⟩,hx⟩
  exfalso
  omega
 case outer=>
  rintro x c st' hx ⟨na,nb,out,mg,rfl,hJ,hxx⟩
  obtain ⟨t0,ht0⟩:∃t0,na+nb=t0:=⟨_,rfl⟩
  refine wpS_bind (wpS_mono (zd3
   (I:=fun x c st'=>∃na nb out ac bc,c=(none,na,nb,out,ac,bc)/\J out na nb st'/\na+nb+x<=t0)
   (Q:=fun c st'=>(∃r,c.1=some r/\F r st')\/∃na nb out ac bc,c=(none,na,nb,out,ac,bc)/\J out na nb st'/\na+nb+1<=t0)
   ?one ?oneEnd ⟨na,nb,out,0,0,rfl,hJ,by omega⟩) ?two)
  case oneEnd=>
   rintro c st' ⟨na,nb,out,ac,bc,rfl,j,hx'⟩
   exact .inr ⟨na,nb,out,ac,bc,rfl,j,by omega⟩
  case one=>
   rintro x' c st' _ ⟨na,nb,out,ac,bc,rfl,⟨j1,j2,j3,j4,j5,j6⟩,hx'⟩
   obtain ⟨y,ey,iy,ky⟩:=zej hb (i:=nb-1) (by omega)
   obtain ⟨z,ez,iz,kz⟩:=zej ha (i:=na-1) (by omega)
   refine wpS_bind (zbo ey (wpS_bind (zbo ez (wpS_bind (zop (j6.kind.trans hk) iy iz ?_)))))
   by_cases hlt:N y<N z
   ·rw [ZB8 hlt]
    refine wpS_bind (zbo ez ?_)
    have j1':Bv W a b (out.push z) (na-1) nb:=Bv.oneA (by rwa [show na-1+1=na by omega]) ez (fun q hq=>by
     obtain ⟨m,m1,m2,m3⟩:=zcu hq
     unfold ge;rw [<-m3]
     exact ZAa (ky▸zno sb (by omega) (by omega)) (ZAf hlt))
    by_cases c3:na-1=0
    ·refine zbc (c:=(na-1==0)=true) (by simpa using c3) ?_
     exact wpS_pure (.inl ⟨_,rfl,j1'.end1 (.inl c3),j6⟩)
    refine zce (c:=(na-1==0)=true) (by simpa using c3) ?_
    have jj:J (out.push z) (na-1) nb st':=⟨j1',by omega,by omega,j4,j5,j6⟩
    by_cases c4:ac+1>=mg
    ·refine zbc c4 ?_
     exact wpS_pure (.inr ⟨na-1,nb,_,_,_,rfl,jj,by omega⟩)
    ·refine zce c4 ?_
     exact wpS_pure ⟨na-1,nb,_,_,_,rfl,jj,by omega⟩
   ·rw [ZB9 hlt]
    refine wpS_bind (zbo ey ?_)
    have j1':Bv W a b (out.push y) na (nb-1):=Bv.oneB (by rwa [show nb-1+1=nb by omega]) ey (fun q hq=>by
     obtain ⟨m,m1,m2,m3⟩:=zcu hq
     unfold ge;rw [<-m3]
     exact ZAa (kz▸zno sa (by omega) (by omega)) (Int.not_lt.mp hlt))
    by_cases c3:nb-1=1
    ·refine zbc (c:=(nb-1==1)=true) (by simpa using c3) ?_
     exact wpS_pure (.inl ⟨_,rfl,j1'.end2 (hfirst c3),j6⟩)
    refine zce (c:=(nb-1==1)=true) (by simpa using c3) ?_
    have jj:J (out.push y) na (nb-1) st':=⟨j1',j2,j3,by omega,by omega,j6⟩
    by_cases c4:bc+1>=mg
    ·refine zbc c4 ?_
     exact wpS_pure (.inr ⟨na,nb-1,_,_,_,rfl,jj,by omega⟩)
    ·refine zce c4 ?_
     exact wpS_pure ⟨na,nb-1,_,_,_,rfl,jj,by omega⟩
  case two=>
   rintro ⟨c1,c2⟩ st2 (⟨r,rfl,hF⟩ | ⟨na,nb,out,ac,bc,e,hJ',ht⟩)
   ·exact wpS_pure ⟨r,rfl,hF⟩
   cases e
   refine wpS_bind (wpS_lift (wpAny_rule ⟨rfl,?_⟩))
   refine wpS_bind (wpS_mono (zd3
    (I:=fun x c st'=>∃na nb out mg ac bc,c=(none,na,nb,out,mg,ac,bc)/\J out na nb st'/\na+nb+1<=t0)
    (Q:=fun c st'=>(∃r,c.1=some r/\F r st')\/∃na nb out mg ac bc,c=(none,na,nb,out,mg,ac,bc)/\J out na nb st'/\na+nb+1<=t0)
    ?gal ?galEnd ⟨_,_,_,_,_,_,rfl,hJ',ht⟩) ?three)
   case galEnd=>exact fun c st' hh=>.inr hh
   case three=>
    rintro ⟨c1,c2⟩ st3 (⟨r,rfl,hF⟩ | ⟨na,nb,out,mg,ac,bc,e,⟨j1,j2,j3,j4,j5,j6⟩,ht⟩)
    ·exact wpS_pure ⟨r,rfl,hF⟩
    cases e
    exact wpS_bind (zme j6 fun st4 j6'=>wpS_pure ⟨na,nb,out,_,rfl,⟨j1,j2,j3,j4,j5,j6'⟩,by omega⟩)
   case gal=>
    rintro x' c st3 _ ⟨na,nb,out,mg,ac,bc,rfl,⟨j1,j2,j3,j4,j5,j6⟩,ht⟩
    extract_lets-underBinder+onlyGivenNames s1 na1 s2 nb1 s3 out1 s4 mg1 s5 ac1 bc1 jp
    let R:ForInStep (Option (Array Keyed)×Nat×Nat×Array Keyed×Nat×Nat×Nat)->SortSt->Prop:=
     SQ (fun c st'=>(∃r,c.1=some r/\F r st')\/∃na nb out mg ac bc,c=(none,na,nb,out,mg,ac,bc)/\J out na nb st'/\na+nb+1<=t0)
      (fun c st'=>∃na nb out mg ac bc,c=(none,na,nb,out,mg,ac,bc)/\J out na nb st'/\na+nb+1<=t0)
    have hjp:∀(u:Unit) (g:Nat),wpS (model prog w) A E s (jp u g) R st3:=by
     intro u g
     refine wpS_bind (zme j6 fun st4 j6'=>?_)
     obtain ⟨y,ey,iy,ky⟩:=zej hb (i:=nb-1) (by omega)
     refine wpS_bind (zbo ey (wpS_bind (zzl (j6'.kind.trans hk) ha sa iy (n:=na) j3 j2 fun k g1 g2 g3=>?_)))
     dsimp-zeta only
     extract_lets-underBinder+onlyGivenNames kk ac2 jp2
     have hrun:=j1.runA g1 (fun p hp q hq=>by
      obtain ⟨m,m1,m2,m3,m4⟩:=zh3 hp
      obtain ⟨m',n1,n2,n3⟩:=zcu hq
      have:=g3 m m1 m2
      unfold ge;rw [<-m4,<-n3]
      exact ZAa (ky▸zno sb (i:=m') (j:=nb-1) (by omega) (by omega)) (ZAf (by simpa [Bey] using this)))
     have hjp2:∀(u:Unit) (i:Nat) (out:Array Keyed),Bv W a b out i nb->0<i->i<=na->(∀m,m<i->Kk a m<=N y)->
      wpS (model prog w) A E s (jp2 u i out) R st4:=by
      intro u i out f1 f2 f3 f4
      refine wpS_bind (zbo ey ?_)
      have f5:Bv W a b (out.push y) i (nb-1):=Bv.oneB (by rwa [show nb-1+1=nb by omega]) ey (fun q hq=>by
       obtain ⟨m',n1,n2,n3⟩:=zcu hq
       unfold ge;rw [<-n3];exact f4 m' n1)
      by_cases c3:nb-1=1
      ·refine zbc (c:=(nb-1==1)=true) (by simpa using c3) ?_
       exact wpS_pure (.inl ⟨_,rfl,f5.end2 (hfirst c3),j6'⟩)
      refine zce (c:=(nb-1==1)=true) (by simpa using c3) ?_
      obtain ⟨z,ez,iz,kz⟩:=zej ha (i:=i-1) (by omega)
      refine wpS_bind (zbo ez (wpS_bind (zzl (j6'.kind.trans hk) hb sb iz (n:=nb-1) (by omega) (by omega) fun k' g1' g2' g3'=>?_)))
      dsimp-zeta only
      extract_lets-underBinder+onlyGivenNames kk2 bc2 jp3
      have hrun':=f5.runB g1' (fun p hp q hq=>by
       obtain ⟨m,m1,m2,m3,m4⟩:=zh3 hp
       obtain ⟨m',n1,n2,n3⟩:=zcu hq
       have:=g3' m m1 m2
       unfold ge;rw [<-m4,<-n3]
       exact ZAa (kz▸zno sa (i:=m') (j:=i-1) (by omega) (by omega)) (by simpa [Bey] using this))
      have hjp3:∀(u:Unit) (j:Nat) (out:Array Keyed),Bv W a b out i j->1<j->j<=nb-1->(∀m,m<j->Kk b m<=N z)->
       wpS (model prog w) A E s (jp3 u j out) R st4:=by
       intro u j out d1 d2 d3 d4
       refine wpS_bind (zbo ez ?_)
       have d5:Bv W a b (out.push z) (i-1) j:=Bv.oneA (by rwa [show i-1+1=i by omega]) ez (fun q hq=>by
        obtain ⟨m',n1,n2,n3⟩:=zcu hq
        unfold ge;rw [<-n3];exact d4 m' n1)
       by_cases c4:i-1=0
       ·refine zbc (c:=(i-1==0)=true) (by simpa using c4) ?_
        exact wpS_pure (.inl ⟨_,rfl,d5.end1 (.inl c4),j6'⟩)
       refine zce (c:=(i-1==0)=true) (by simpa using c4) ?_
       have jj:J (out.push z) (i-1) j st4:=⟨d5,by omega,by omega,d2,by omega,j6'⟩
       by_cases c5:(decide (na-k<7) && decide (nb-1-k'<7))=true
       ·refine zbc c5 ?_
        exact wpS_pure (.inr ⟨i-1,j,_,_,_,_,rfl,jj,by omega⟩)
       ·refine zce c5 ?_
        exact wpS_pure ⟨i-1,j,_,_,_,_,rfl,jj,by omega⟩
      have hz:∀m,m<k'->Kk b m<=N z:=fun m m1=>ZAf (by simpa [Bey] using g2' m m1)
      by_cases c4:nb-1-k'>0
      ·refine zbc c4 ?_
       by_cases c5:k'=1
       ·refine zbc (c:=(k'==1)=true) (by simpa using c5) ?_
        exact wpS_pure (.inl ⟨_,rfl,hrun'.end2 (hfirst c5),j6'⟩)
       refine zce (c:=(k'==1)=true) (by simpa using c5) ?_
       by_cases c6:k'=0
       ·refine zbc (c:=(k'==0)=true) (by simpa using c6) ?_
        exact wpS_pure (.inl ⟨_,rfl,hrun'.end1 (.inr c6),j6'⟩)
       refine zce (c:=(k'==0)=true) (by simpa using c6) ?_
       exact hjp3 () k' _ hrun' (by omega) (by omega) hz
      ·refine zce c4 ?_
       obtain rfl:k'=nb-1:=by omega
       exact hjp3 () (nb-1) _ f5 (by omega) (by omega) hz
     have hy:∀m,m<k->Kk a m<=N y:=fun m m1=>by simpa [Bey] using g2 m m1
     by_cases c4:na-k>0
     ·refine zbc c4 ?_
      by_cases c5:k=0
      ·refine zbc (c:=(k==0)=true) (by simpa using c5) ?_
       exact wpS_pure (.inl ⟨_,rfl,hrun.end1 (.inl c5),j6'⟩)
      refine zce (c:=(k==0)=true) (by simpa using c5) ?_
      exact hjp2 () k _ hrun (by omega) (by omega) hy
     ·refine zce c4 ?_
      obtain rfl:k=na:=by omega
      exact hjp2 () k _ j1 (by omega) (by omega) hy
    by_cases c5:mg>1
    ·refine zbc c5 ?_
     exact hjp () (mg-1)
    ·refine zce c5 ?_
     exact hjp () mg
end
section
variable [SK]
def Srt (xs:Array Keyed) (a b:Nat):Prop:=∀i j,a<=i->i<=j->j<b->Kk xs i<=Kk xs j
theorem zj3 (sa:Nat):∀(l:List Keyed) (n:Nat) (xs:Array Keyed),sa+n+l.length<=xs.size->
 ((l.zipIdx n).foldl (fun a (pj:Keyed×Nat)=>a.setIfInBounds (sa+pj.2) pj.1) xs).toList
   =xs.toList.take (sa+n)++(l++xs.toList.drop (sa+n+l.length))
 | [],n,xs,_=>by simp
 | p::t,n,xs,h=>by
  simp only [ZBp] at h
  rw [List.zipIdx_cons,List.foldl_cons,zj3 sa t (n+1) _ (by simp;lia)]
  simp only [Array.toList_setIfInBounds]
  rw [show sa+(n+1)=sa+n+1 by lia,List.drop_set_of_lt (by lia),ZBp,
   show sa+n+1+t.length=sa+n+(t.length+1) by lia]
  have:(xs.toList.set (sa+n) p).take (sa+n+1)=xs.toList.take (sa+n)++[p]:=by
   rw [List.take_succ_eq_append_getElem (by simp;lia),List.take_set_of_le (ZAw _)]
   simp
  rw [this];simp
section seg
variable {xs ys:Array Keyed} {a b:Nat} {M:List Keyed}
theorem zxy (h:ys.toList=xs.toList.take a++(M++xs.toList.drop (a+M.length))) (hs:a+M.length<=xs.size):
 (∀m,m<a\/a+M.length<=m->Kk ys m=Kk xs m)/\∀m,(hm:m<M.length)->Kk ys (a+m)=N M[m]:=by
 have hl:(xs.toList.take a).length=a:=by simp;lia
 refine ⟨fun m hm=>?_,fun m hm=>?_⟩
 ·refine zf2 ?_
  rw [<-Array.getElem?_toList,<-Array.getElem?_toList,h]
  rcases hm with hm | hm
  ·rw [ZBq (by lia),List.getElem?_take_of_lt hm]
  ·rw [ZBk (by lia),hl,ZBk (by lia),List.getElem?_drop]
   congr 1;lia
 ·refine zgo ?_
  rw [<-Array.getElem?_toList,h,ZBk (by lia),hl,Nat.add_sub_cancel_left,ZBq hm,ZAx hm]
theorem zro (h:ys.toList=xs.toList.take a++(M++xs.toList.drop (a+M.length))) (hM:M.Perm (xs.extract a b).toList) (hb:b<=xs.size) (hab:a<=b):ys.Perm xs:=by
 have hl:M.length=b-a:=by rw [hM.length_eq];simp;lia
 refine Array.perm_iff_toList_perm.mpr ?_
 rw [h]
 have e:xs.toList=xs.toList.take a++((xs.extract a b).toList++xs.toList.drop (a+M.length)):=by
  conv=>lhs;rw [<-List.take_append_drop a xs.toList]
  congr 1
  have:=zds (a:=xs) (i:=a) (k:=b-a) (by lia)
  rw [show a+(b-a)=b by lia] at this
  rw [this,show a+M.length=b by lia]
 conv=>rhs;rw [e]
 exact (hM.append_right _).append_left _
end seg
structure Bs (a₀:Array Keyed) (st:SortSt):Prop where
 perm:(arrOf st).Perm a₀
 kind:kindOf st=SK.kind
 fail:failedOf st=none
theorem Bs.size {a₀:Array Keyed} {st:SortSt} (h:Bs a₀ st):(arrOf st).size=a₀.size:=h.perm.size_eq
theorem Bs.nums {a₀:Array Keyed} {st:SortSt} (h:Bs a₀ st) (h0:∀p,p∈a₀.toList->isN p):∀p,p∈(arrOf st).toList->isN p:=
 fun p hp=>h0 p ((Array.perm_iff_toList_perm.mp h.perm).mem_iff.mp hp)
theorem zm3 {xs:Array Keyed} {a b:Nat} (hs:Srt xs a b) (hb:b<=xs.size):(xs.extract a b).toList.Pairwise le:=by
 rw [ZBt]
 intro i j hi hj hij
 simp only [ZAj,Array.size_extract] at hi hj
 simp only [Array.getElem_toList,Array.getElem_extract]
 have:=hs (a+i) (a+j) (by lia) (by lia) (by lia)
 rw [zgo (getElem?_pos xs (a+i) (by lia)),zgo (getElem?_pos xs (a+j) (by lia))] at this
 exact this
theorem zss {xs:Array Keyed} {a b m:Nat} (hm:a+m<b) (_hb:b<=xs.size):Kk (xs.extract a b) m=Kk xs (a+m):=by
 refine zf2 ?_
 rw [Array.getElem?_extract,if_pos (by lia)]
end
section
variable [SK] {prog:Program} {w:World} {A:Around} {E:Value->Shared->Prop} {s:Shared} [LtOk prog w A E s] {st:SortSt} {a₀:Array Keyed}
theorem zty {st':SortSt} {Q:PUnit->SortSt->Prop} (h:Q ⟨⟩ st'):wpS (model prog w) A E s (set st':StateT SortSt Sem PUnit) Q st:=by
 unfold wpS;rw [StateT.run_set];exact ZAq ⟨rfl,h⟩
theorem zvv {i:Nat} {L T:List (Nat×Nat×Nat)} {sa na p sb nb p':Nat} {Q:Bool->SortSt->Prop} (h0:∀p,p∈a₀.toList->isN p) (hB:Bs a₀ st)
 (hp:pendingOf st=(L++(sa,na,p)::(sb,nb,p')::T).toArray) (hi:i=L.length) (hadj:sb=sa+na) (hna:1<=na) (hnb:1<=nb)
 (hsz:sb+nb<=a₀.size) (s1:Srt (arrOf st) sa sb) (s2:Srt (arrOf st) sb (sb+nb))
 (h:∀st',Bs a₀ st'->pendingOf st'=(L++(sa,na+nb,p)::T).toArray->Srt (arrOf st') sa (sb+nb)->
  (∀m,m<sa\/sb+nb<=m->Kk (arrOf st') m=Kk (arrOf st) m)->Q true st'):
 wpS (model prog w) A E s (mergeAt' i) Q st:=by
 subst hi
 have hI:=hB.nums h0
 have hsize:=hB.size
 refine wpS_bind (wpS_get ?_)
 have g1:(pendingOf st)[L.length]?=some (sa,na,p):=by rw [hp];simp
 have g2:(pendingOf st)[L.length+1]?=some (sb,nb,p'):=by rw [hp];simp
 have g3:((pendingOf st).setIfInBounds L.length (sa,na+nb,p)).eraseIdxIfInBounds (L.length+1)=(L++(sa,na+nb,p)::T).toArray:=by
  rw [hp]
  apply Array.toList_inj.mp
  simp [List.eraseIdx_append_of_length_le]
 refine (show ((pendingOf st)[L.length]?,(pendingOf st)[L.length+1]?)=(some (sa,na,p),some (sb,nb,p')) by rw [g1,g2]).symm▸?_
 refine wpS_bind (zty (g3.symm▸?_))
 refine (fun (H:∀st1:SortSt,st1=SortSt.mk' (kindOf st) (arrOf st) ((L++(sa,na+nb,p)::T).toArray) (gallopOf st) (failedOf st)->
  wpS (model prog w) A E s _ Q st1)=>H _ rfl) ?_
 intro st1 e1
 have b1:Bs a₀ st1:=by rw [e1];exact ⟨hB.perm,hB.kind,hB.fail⟩
 have x1:arrOf st1=arrOf st:=by rw [e1]
 have p1:pendingOf st1=(L++(sa,na+nb,p)::T).toArray:=by rw [e1]
 have keep:Srt (arrOf st) sa (sb+nb)->Q true st1:=fun hs=>h st1 b1 p1 (by rw [x1];exact hs) (fun m _=>by rw [x1])
 clear e1
 obtain ⟨y,ey,iy,ky⟩:=zej hI (i:=sb) (by lia)
 refine wpS_bind (zbo ey (wpS_bind (zmf (a:=arrOf st) b1.kind hI iy (n:=na) (by lia) (fun i j hij hj=>s1 _ _ (by lia) (by lia) (by lia)) (by lia)
  fun k k1 k2 k3=>?_)))
 have k2':∀m,sa<=m->m<sa+k->Kk (arrOf st) m<=Kk (arrOf st) sb:=fun m m1 m2=>by
  have:=k2 (m-sa) (by lia);rw [show sa+(m-sa)=m by lia] at this
  rw [ky];simpa [Bey] using this
 have k3':∀m,sa+k<=m->m<sb->Kk (arrOf st) sb<Kk (arrOf st) m:=fun m m1 m2=>by
  have:=k3 (m-sa) (by lia) (by lia);rw [show sa+(m-sa)=m by lia] at this
  rw [ky];simpa [Bey] using this
 dsimp-zeta only
 by_cases c1:na-k=0
 ·refine zbc (c:=(na-k==0)=true) (by simpa using c1) ?_
  refine wpS_pure (keep fun i j h1 h2 h3=>?_)
  by_cases hj:j<sb
  ·exact s1 i j h1 h2 hj
  by_cases hi:sb<=i
  ·exact s2 i j hi h2 h3
  exact ZAa (k2' i h1 (by lia)) (s2 sb j (ZAw _) (by lia) h3)
 refine zce (c:=(na-k==0)=true) (by simpa using c1) ?_
 obtain ⟨z,ez,iz,kz⟩:=zej hI (i:=sa+k+(na-k)-1) (by lia)
 have esb:sa+k+(na-k)-1=sb-1:=by lia
 refine wpS_bind (zbo ez (wpS_bind (zmf (a:=arrOf st) b1.kind hI iz (b:=sb) (n:=nb) (by lia) (fun i j hij hj=>s2 _ _ (by lia) (by lia) (by lia)) (by lia)
  fun nb' q1 q2 q3=>?_)))
 rw [esb] at kz
 have q2':∀m,sb<=m->m<sb+nb'->Kk (arrOf st) m<Kk (arrOf st) (sb-1):=fun m m1 m2=>by
  have:=q2 (m-sb) (by lia);rw [show sb+(m-sb)=m by lia] at this
  rw [kz];simpa [Bey] using this
 have q3':∀m,sb+nb'<=m->m<sb+nb->Kk (arrOf st) (sb-1)<=Kk (arrOf st) m:=fun m m1 m2=>by
  have:=q3 (m-sb) (by lia) (by lia);rw [show sb+(m-sb)=m by lia] at this
  rw [kz];simpa [Bey] using this
 dsimp-zeta only
 by_cases c2:nb'=0
 ·refine zbc (c:=(nb'==0)=true) (by simpa using c2) ?_
  refine wpS_pure (keep fun i j h1 h2 h3=>?_)
  by_cases hj:j<sb
  ·exact s1 i j h1 h2 hj
  by_cases hi:sb<=i
  ·exact s2 i j hi h2 h3
  exact ZAa (s1 i (sb-1) h1 (by lia) (by lia)) (q3' j (by lia) h3)
 refine zce (c:=(nb'==0)=true) (by simpa using c2) ?_
 extract_lets-underBinder+onlyGivenNames x y' jp
 have szx:x.size=na-k:=by show ((arrOf st).extract (sa+k) sb).size=_;rw [Array.size_extract];lia
 have szy:y'.size=nb':=by show ((arrOf st).extract sb (sb+nb')).size=_;rw [Array.size_extract];lia
 have hx:∀q,q∈x.toList->isN q:=fun q hq=>hI q (by
  have:q∈((arrOf st).extract (sa+k) sb).toList:=hq
  rw [Array.toList_extract,List.extract_eq_take_drop] at this
  exact List.mem_of_mem_drop (List.mem_of_mem_take this))
 have hy:∀q,q∈y'.toList->isN q:=fun q hq=>hI q (by
  have:q∈((arrOf st).extract sb (sb+nb')).toList:=hq
  rw [Array.toList_extract,List.extract_eq_take_drop] at this
  exact List.mem_of_mem_drop (List.mem_of_mem_take this))
 have ox:x.toList.Pairwise le:=zm3 (xs:=arrOf st) (fun i j h1 h2 h3=>s1 i j (by lia) h2 h3) (by lia)
 have oy:y'.toList.Pairwise le:=zm3 (xs:=arrOf st) (fun i j h1 h2 h3=>s2 i j h1 h2 (by lia)) (by lia)
 have hf:Kk y' 0<=Kk x 0:=by
  show Kk ((arrOf st).extract sb (sb+nb')) 0<=Kk ((arrOf st).extract (sa+k) sb) 0
  rw [zss (by lia) (by lia),zss (by lia) (by lia)]
  exact ZAf (k3' _ (by lia) (by lia))
 have hl:Kk y' (y'.size-1)<=Kk x (x.size-1):=by
  rw [szx,szy]
  show Kk ((arrOf st).extract sb (sb+nb')) _<=Kk ((arrOf st).extract (sa+k) sb) _
  rw [zss (by lia) (by lia),zss (by lia) (by lia),show sa+k+(na-k-1)=sb-1 by lia]
  exact ZAf (q2' _ (by lia) (by lia))
 have hW:x.toList++y'.toList=((arrOf st).extract (sa+k) (sb+nb')).toList:=by
  have e1:=zds (a:=(arrOf st)) (i:=sa+k) (k:=na-k) (by lia)
  have e2:=zds (a:=(arrOf st)) (i:=sb) (k:=nb') (by lia)
  have e3:=zds (a:=(arrOf st)) (i:=sa+k) (k:=na-k+nb') (by lia)
  rw [show sa+k+(na-k)=sb by lia] at e1
  rw [show sa+k+(na-k+nb')=sb+nb' by lia] at e3
  rw [e2] at e1
  rw [e3,<-List.append_assoc] at e1
  exact (List.append_cancel_right e1).symm
 have hjp:∀r st2,Sm st1 st2->Out le (x.toList++y'.toList) r.toList->wpS (model prog w) A E s (jp r) Q st2:=by
  intro r st2 hm hO
  rw [hW] at hO
  have rl:r.toList.length=na-k+nb':=by rw [hO.1.length_eq];simp;lia
  refine wpS_bind (wpS_modify (wpS_bind (wpS_get (wpS_pure ?_))))
  have hY:=zj3 (sa+k) r.toList 0 (arrOf st2) (by rw [hm.arr,x1];lia)
  rw [hm.arr,x1,Nat.add_zero] at hY
  have hKs:=zxy hY (by lia)
  have hP:=zro hY hO.1 (by lia) (by lia)
  have hmem:∀m,sa+k<=m->m<sb+nb'->∀v,v=Kk (List.foldl (fun a (pj:Keyed×Nat)=>a.setIfInBounds (sa+k+pj.2) pj.1) (arrOf st) (r.toList.zipIdx 0)) m->Kk (arrOf st) sb<=v/\v<=Kk (arrOf st) (sb-1):=by
   rintro m m1 m2 v rfl
   have:=hKs.2 (m-(sa+k)) (by lia)
   rw [show sa+k+(m-(sa+k))=m by lia] at this
   rw [this]
   obtain ⟨m',n1,n2,n3,n4⟩:=zh3 (hO.1.mem_iff.mp (ZB3 (l:=r.toList) (n:=m-(sa+k)) (by lia)))
   rw [<-n4]
   by_cases hc:m'<sb
   ·exact ⟨ZAf (k3' m' n1 hc),s1 _ _ (by lia) (by lia) (by lia)⟩
   ·exact ⟨s2 _ _ (by lia) (by lia) (by lia),ZAf (q2' m' (by lia) n2)⟩
  have hfail:(failedOf st2).isNone=true:=by rw [hm.fail,b1.fail];rfl
  have hfold:List.foldl (fun a x=>match x with | (p,j)=>a.setIfInBounds (sa+k+j) p) (arrOf st2) r.toList.zipIdx
   =List.foldl (fun a (pj:Keyed×Nat)=>a.setIfInBounds (sa+k+pj.2) pj.1) (arrOf st) (r.toList.zipIdx 0):=by rw [hm.arr,x1]
  generalize List.foldl (fun a (pj:Keyed×Nat)=>a.setIfInBounds (sa+k+pj.2) pj.1) (arrOf st) (r.toList.zipIdx 0)=Y at hfold hY hKs hP hmem
  refine (show Q (failedOf st2).isNone (SortSt.mk' (kindOf st2) (List.foldl (fun a x=>match x with | (p,j)=>a.setIfInBounds (sa+k+j) p) (arrOf st2) r.toList.zipIdx) (pendingOf st2) (gallopOf st2) (failedOf st2)) from ?_)
  rw [hfold,hfail]
  refine h _ ⟨hP.trans hB.perm,hm.kind.trans b1.kind,hm.fail.trans b1.fail⟩ (hm.pend.trans p1) ?_ ?_
  ·show Srt Y sa (sb+nb)
   have out1:∀m,m<sa+k->Kk Y m=Kk (arrOf st) m:=fun m m1=>hKs.1 m (.inl m1)
   have out2:∀m,sb+nb'<=m->Kk Y m=Kk (arrOf st) m:=fun m m1=>hKs.1 m (.inr (by lia))
   intro i j h1 h2 h3
   by_cases i1:i<sa+k
   ·rw [out1 i i1]
    by_cases j1:j<sa+k
    ·rw [out1 j j1];exact s1 i j h1 h2 (by lia)
    have:=k2' i h1 i1
    by_cases j2:j<sb+nb'
    ·exact ZAa this (hmem j (by lia) j2 _ rfl).1
    ·rw [out2 j (by lia)];exact ZAa this (s2 _ _ (ZAw _) (by lia) h3)
   by_cases i2:i<sb+nb'
   ·by_cases j2:j<sb+nb'
    ·rcases Nat.lt_or_eq_of_le h2 with hij | rfl
     ·have e1:=hKs.2 (i-(sa+k)) (by lia)
      have e2:=hKs.2 (j-(sa+k)) (by lia)
      rw [show sa+k+(i-(sa+k))=i by lia] at e1
      rw [show sa+k+(j-(sa+k))=j by lia] at e2
      rw [e1,e2]
      exact ZBt.mp hO.2 _ _ _ _ (by lia)
     ·exact Int.le_refl _
    ·rw [out2 j (by lia)]
     exact ZAa (hmem i (by lia) i2 _ rfl).2 (q3' j (by lia) h3)
   ·rw [out2 i (by lia),out2 j (by lia)];exact s2 i j (by lia) h2 h3
  ·intro m hm'
   exact hKs.1 m (by lia)
 by_cases c3:na-k<=nb'
 ·refine zbc c3 ?_
  exact wpS_bind (zvt rfl b1.kind hx hy ox oy (by lia) (by lia) hf hl fun r st2 hm hO=>hjp r st2 hm hO)
 ·refine zce c3 ?_
  exact wpS_bind (zvu rfl b1.kind hx hy ox oy (by lia) (by lia) hf hl fun r st2 hm hO=>hjp r st2 hm hO)
end
section
variable [SK]
def Dec (xs:Array Keyed) (a b:Nat):Prop:=∀i j,a<=i->i<=j->j<b->Kk xs j<=Kk xs i
structure Go (a₀:Array Keyed) (lo:Nat) (st st':SortSt):Prop where
 base:Bs a₀ st'
 pend:pendingOf st'=pendingOf st
 low:∀m,m<lo->Kk (arrOf st') m=Kk (arrOf st) m
theorem Go.refl {a₀:Array Keyed} {lo:Nat} {st:SortSt} (h:Bs a₀ st):Go a₀ lo st st:=⟨h,rfl,fun _ _=>rfl⟩
theorem Go.put {a₀:Array Keyed} {lo:Nat} {st st':SortSt} (h:Go a₀ lo st st') {xs:Array Keyed} (hp:xs.Perm (arrOf st')) (hl:∀m,m<lo->Kk xs m=Kk (arrOf st') m):
 Go a₀ lo st (setArr st' xs):=⟨⟨hp.trans h.base.perm,h.base.kind,h.base.fail⟩,h.pend,fun m hm=>(hl m hm).trans (h.low m hm)⟩
theorem Srt.snoc {xs:Array Keyed} {a b:Nat} (h:Srt xs a b) (hl:a<b->Kk xs (b-1)<=Kk xs b):Srt xs a (b+1):=by
 intro i j h1 h2 h3
 by_cases hj:j<b
 ·exact h i j h1 h2 hj
 obtain rfl:j=b:=by lia
 by_cases hi:i=j
 ·rw [hi];exact Int.le_refl _
 ·exact ZAa (h i (j-1) h1 (by lia) (by lia)) (hl (by lia))
theorem Dec.snoc {xs:Array Keyed} {a b:Nat} (h:Dec xs a b) (hl:a<b->Kk xs b<=Kk xs (b-1)):Dec xs a (b+1):=by
 intro i j h1 h2 h3
 by_cases hj:j<b
 ·exact h i j h1 h2 hj
 obtain rfl:j=b:=by lia
 by_cases hi:i=j
 ·rw [hi];exact Int.le_refl _
 ·exact ZAa (hl (by lia)) (h i (j-1) h1 (by lia) (by lia))
theorem Srt.one (xs:Array Keyed) (a:Nat):Srt xs a (a+1):=fun i j h1 h2 h3=>by
 obtain rfl:i=j:=by lia
 exact Int.le_refl _
theorem Dec.rev {xs:Array Keyed} {a b:Nat} (h:Dec xs a b) (hb:b<=xs.size):Srt (mirror xs a b ((b-a) / 2)) a b:=by
 intro i j h1 h2 h3
 rw [zhu hb,zhu hb,if_pos ⟨h1,by omega⟩,if_pos ⟨by omega,h3⟩]
 exact h _ _ (by omega) (by omega) (by omega)
end
section
variable [SK] {prog:Program} {w:World} {A:Around} {E:Value->Shared->Prop} {s:Shared} [LtOk prog w A E s] {st:SortSt} {a₀:Array Keyed}
theorem zhh {β:Type} {a n:Nat} {f:Nat->β->StateT SortSt Sem (ForInStep β)} (I:Nat->β->SortSt->Prop) {Q:β->SortSt->Prop} (han:a<=n)
 (hstep:∀i c st,a<=i->i<n->I i c st->wpS (model prog w) A E s (f i c) (SQ Q (I (i+1))) st)
 (hend:∀c st,I n c st->Q c st) {c:β} {st:SortSt} (h:I a c st):wpS (model prog w) A E s (forIn [a:n] c f) Q st:=
 wpS_forRange I (fun i c st hai hi hI=>wpS_mono (hstep i c st hai hi hI) fun r st' h'=>by cases r<;>exact h')
  (fun c st h'=>hend c st (by rwa [Nat.max_eq_right han] at h')) h
theorem znq {i j:Nat} {Q:Option Bool->SortSt->Prop} (h0:∀p,p∈a₀.toList->isN p) (hB:Bs a₀ st) (hi:i<a₀.size) (hj:j<a₀.size)
 (h:Q (some (decide (Kk (arrOf st) i<Kk (arrOf st) j))) st):wpS (model prog w) A E s (ltAt' i j) Q st:=by
 have hI:=hB.nums h0
 obtain ⟨p,e1,i1,k1⟩:=zej hI (i:=i) (by rw [hB.size];exact hi)
 obtain ⟨q,e2,i2,k2⟩:=zej hI (i:=j) (by rw [hB.size];exact hj)
 rw [ltAt'_eq]
 refine wpS_bind (wpS_get (wpS_bind (zbo e1 (wpS_bind (zbo e2 (zop hB.kind i1 i2 ?_))))))
 rwa [k1,k2] at h
theorem zrf {lo nrem:Nat} {Q:Option Nat->SortSt->Prop} (h0:∀p,p∈a₀.toList->isN p) (hB:Bs a₀ st) (hn:lo+nrem<=a₀.size) (h1:1<=nrem)
 (h:∀m st',1<=m->m<=nrem->Go a₀ lo st st'->Srt (arrOf st') lo (lo+m)->Q (some m) st'):
 wpS (model prog w) A E s (countRun' lo nrem) Q st:=by
 refine wpS_bind (wpS_mono (zhh
  (I:=fun x c st'=>st'=st/\c=(none,x)/\Srt (arrOf st) lo (lo+x))
  (Q:=fun c st'=>st'=st/\∃n,c=(none,n)/\1<=n/\n<=nrem/\Srt (arrOf st) lo (lo+n)/\(n=nrem\/Kk (arrOf st) (lo+n)<Kk (arrOf st) (lo+n-1)))
  h1 ?_ ?_ ⟨rfl,rfl,Srt.one _ _⟩) ?_)
 ·rintro x c st' hx1 hx2 ⟨rfl,rfl,hs⟩
  refine wpS_bind (znq h0 hB (by show lo+x<_;lia) (by show lo+x-1<_;lia) ?_)
  by_cases hlt:Kk (arrOf st') (lo+x)<Kk (arrOf st') (lo+x-1)
  ·rw [ZB8 hlt]
   exact wpS_pure ⟨rfl,x,rfl,hx1,by lia,hs,.inr hlt⟩
  ·rw [ZB9 hlt]
   exact wpS_pure ⟨rfl,rfl,hs.snoc fun _=>Int.not_lt.mp hlt⟩
 ·rintro c st' ⟨rfl,rfl,hs⟩
  exact ⟨rfl,nrem,rfl,h1,ZAw _,hs,.inl rfl⟩
 rintro c st' ⟨rfl,n,rfl,n1,n2,hs,hor⟩
 refine (fun (H:wpS (model prog w) A E s (ite ((n==nrem)=true) _ _) Q st')=>H) ?_
 by_cases c1:n=nrem
 ·rw [if_pos (by simpa using c1)]
  exact wpS_pure (h n _ n1 n2 (Go.refl hB) hs)
 rw [if_neg (by simpa using c1)]
 have hlt:=hor.resolve_left c1
 extract_lets-underBinder+onlyGivenNames jp
 have hjp:∀u st2,Go a₀ lo st' st2->Dec (arrOf st2) lo (lo+(n+1))->wpS (model prog w) A E s (jp u) Q st2:=by
  intro u st2 hg hd
  refine wpS_bind (wpS_lift (wpAny_rule ⟨rfl,?_⟩))
  refine wpS_bind (wpS_mono (zhh
   (I:=fun x c st3=>∃neq,c=(none,x,neq)/\Go a₀ lo st' st3/\Dec (arrOf st3) lo (lo+x)/\neq+1<=x/\∀i,lo+x-(neq+1)<=i->i<lo+x->Kk (arrOf st3) i=Kk (arrOf st3) (lo+x-1))
   (Q:=fun c st3=>∃x neq,c=(none,x,neq)/\n+1<=x/\x<=nrem/\Go a₀ lo st' st3/\Dec (arrOf st3) lo (lo+x)/\neq+1<=x/\∀i,lo+x-(neq+1)<=i->i<lo+x->Kk (arrOf st3) i=Kk (arrOf st3) (lo+x-1))
   (show n+1<=nrem by lia) ?_ ?_ ⟨0,rfl,hg,hd,by lia,fun i i1 i2=>by congr 1;lia⟩) ?_)
  ·rintro x c st3 x1 x2 ⟨neq,rfl,hg,hd,hq,he⟩
   have hsz:lo+x<=(arrOf st3).size:=by rw [hg.base.size];lia
   refine wpS_bind (znq h0 hg.base (by show lo+x<_;lia) (by show lo+x-1<_;lia) ?_)
   by_cases hlt:Kk (arrOf st3) (lo+x)<Kk (arrOf st3) (lo+x-1)
   ·rw [ZB8 hlt]
    dsimp only
    rw [if_pos rfl]
    by_cases hneq:neq>0
    ·rw [if_pos hneq]
     have hK:=zd6 (i:=lo+x-(neq+1)) hsz he
     refine wpS_bind (wpS_reverse (wpS_pure ⟨0,rfl,hg.put (mirror_perm _ _ _ _) (fun m _=>hK m),?_,by lia,fun i i1 i2=>by congr 1;lia⟩))
     intro i j i1 i2 i3
     show Kk (mirror (arrOf st3) _ _ _) j<=Kk (mirror (arrOf st3) _ _ _) i
     rw [hK,hK]
     exact (hd.snoc fun _=>ZAf hlt) i j i1 i2 (by lia)
    ·rw [if_neg hneq]
     exact wpS_pure ⟨0,rfl,hg,hd.snoc fun _=>ZAf hlt,by lia,fun i i1 i2=>by congr 1;lia⟩
   ·rw [ZB9 hlt]
    dsimp only
    rw [if_neg (by decide)]
    refine wpS_bind (znq h0 hg.base (by lia) (by lia) ?_)
    by_cases hgt:Kk (arrOf st3) (lo+x-1)<Kk (arrOf st3) (lo+x)
    ·rw [ZB8 hgt]
     exact wpS_pure ⟨x,neq,rfl,by lia,by lia,hg,hd,hq,he⟩
    ·rw [ZB9 hgt]
     have heq:Kk (arrOf st3) (lo+x)=Kk (arrOf st3) (lo+x-1):=by lia
     refine wpS_pure ⟨neq+1,rfl,hg,hd.snoc fun _=>by lia,by lia,fun i i1 i2=>?_⟩
     rw [show lo+(x+1)-1=lo+x by lia]
     by_cases hi:i=lo+x
     ·rw [hi]
     ·rw [heq];exact he i (by lia) (by lia)
  ·rintro c st3 ⟨neq,rfl,hg,hd,hq,he⟩
   exact ⟨nrem,neq,rfl,by lia,ZAw _,hg,hd,hq,he⟩
  rintro c st3 ⟨x,neq,rfl,x1,x2,hg,hd,hq,he⟩
  have hsz:lo+x<=(arrOf st3).size:=by rw [hg.base.size];lia
  refine (fun (H:wpS (model prog w) A E s _ Q st3)=>H) ?_
  extract_lets-underBinder+onlyGivenNames r0 s0 xx nn
  dsimp-zeta only [r0]
  extract_lets-underBinder+onlyGivenNames jp2
  have hjp2:∀u st4,Go a₀ lo st' st4->Dec (arrOf st4) lo (lo+x)->wpS (model prog w) A E s (jp2 u) Q st4:=by
   intro u st4 hg hd
   have hsz:lo+x<=(arrOf st4).size:=by rw [hg.base.size];lia
   refine wpS_bind (wpS_reverse ?_)
   have hg5:Go a₀ lo st' (setArr st4 (mirror (arrOf st4) lo (lo+x) ((lo+x-lo) / 2))):=
    hg.put (mirror_perm _ _ _ _) (fun m hm=>by rw [zhu hsz,if_neg (by lia)])
   have hs5:Srt (arrOf (setArr st4 (mirror (arrOf st4) lo (lo+x) ((lo+x-lo) / 2)))) lo (lo+x):=hd.rev hsz
   refine (fun (H:∀st5,Go a₀ lo st' st5->Srt (arrOf st5) lo (lo+x)->wpS (model prog w) A E s _ Q st5)=>H _ hg5 hs5) ?_
   intro st5 hg5 hs5
   refine wpS_bind (wpS_mono (zhh
    (I:=fun y c st6=>st6=st5/\c=(none,y)/\Srt (arrOf st5) lo (lo+y))
    (Q:=fun c st6=>st6=st5/\∃y,c=(none,y)/\1<=y/\y<=nrem/\Srt (arrOf st5) lo (lo+y)) x2 ?_ ?_ ⟨rfl,rfl,hs5⟩) ?_)
   ·rintro y c st6 y1 y2 ⟨rfl,rfl,hs⟩
    refine wpS_bind (znq h0 hg5.base (by show lo+y<_;lia) (by show lo+y-1<_;lia) ?_)
    by_cases hlt:Kk (arrOf st6) (lo+y)<Kk (arrOf st6) (lo+y-1)
    ·rw [ZB8 hlt]
     exact wpS_pure ⟨rfl,y,rfl,by lia,by lia,hs⟩
    ·rw [ZB9 hlt]
     exact wpS_pure ⟨rfl,rfl,hs.snoc fun _=>Int.not_lt.mp hlt⟩
   ·rintro c st6 ⟨rfl,rfl,hs⟩
    exact ⟨rfl,nrem,rfl,h1,ZAw _,hs⟩
   ·rintro c st6 ⟨rfl,y,rfl,y1,y2,hs⟩
    exact wpS_pure (h y _ y1 y2 hg5 hs)
  by_cases hneq:neq>0
  ·refine zbc (c:=neq>0) hneq ?_
   have hK:=zd6 (i:=lo+x-(neq+1)) hsz he
   refine wpS_bind (wpS_reverse (hjp2 () _ (hg.put (mirror_perm _ _ _ _) (fun m _=>hK m)) ?_))
   intro i j i1 i2 i3
   show Kk (mirror (arrOf st3) _ _ _) j<=Kk (mirror (arrOf st3) _ _ _) i
   rw [hK,hK]
   exact hd i j i1 i2 i3
  ·refine zce (c:=neq>0) hneq ?_
   exact hjp2 () _ hg hd
 have hsz:lo+n<=(arrOf st').size:=by rw [hB.size];lia
 by_cases c2:n>1
 ·refine zbc (c:=n>1) c2 ?_
  refine wpS_bind (znq h0 hB (by lia) (by show lo+n-1<_;lia) ?_)
  by_cases hr:Kk (arrOf st') lo<Kk (arrOf st') (lo+n-1)
  ·rw [ZB8 hr]
   exact wpS_pure (h n _ n1 n2 (Go.refl hB) hs)
  ·rw [ZB9 hr]
   have hall:∀k,lo<=k->k<lo+n->Kk (arrOf st') k=Kk (arrOf st') (lo+n-1):=fun k k1 k2=>by
    have a1:=hs lo k (ZAw _) k1 k2
    have a2:=hs k (lo+n-1) k1 (by lia) (by lia)
    lia
   have hK:=zd6 hsz hall
   refine wpS_bind (wpS_reverse (hjp () _ ((Go.refl hB).put (mirror_perm _ _ _ _) (fun m _=>hK m)) ?_))
   have hd:Dec (arrOf st') lo (lo+n):=fun i j i1 i2 i3=>by rw [hall i i1 (by lia),hall j (by lia) i3];exact Int.le_refl _
   intro i j i1 i2 i3
   show Kk (mirror (arrOf st') _ _ _) j<=Kk (mirror (arrOf st') _ _ _) i
   rw [hK,hK]
   exact (hd.snoc fun _=>ZAf hlt) i j i1 i2 (by lia)
 ·refine zce (c:=n>1) c2 ?_
  obtain rfl:n=1:=by lia
  have hd:Dec (arrOf st') lo (lo+1):=fun i j i1 i2 i3=>by
   obtain rfl:i=j:=by lia
   exact Int.le_refl _
  exact hjp () _ (Go.refl hB) (hd.snoc fun _=>ZAf hlt)
end
section
variable [SK] {prog:Program} {w:World} {A:Around} {E:Value->Shared->Prop} {s:Shared} [LtOk prog w A E s] {st:SortSt} {a₀:Array Keyed}
theorem ztx {lo n ok:Nat} {Q:Bool->SortSt->Prop} (h0:∀p,p∈a₀.toList->isN p) (hB:Bs a₀ st) (hn:lo+n<=a₀.size) (h1:1<=ok) (hok:ok<=n)
 (hs:Srt (arrOf st) lo (lo+ok)) (h:∀st',Go a₀ lo st st'->Srt (arrOf st') lo (lo+n)->Q true st'):
 wpS (model prog w) A E s (binarySort' lo n ok) Q st:=by
 refine wpS_bind (wpS_mono (zhh
  (I:=fun k c st'=>c=(none,())/\Go a₀ lo st st'/\Srt (arrOf st') lo (lo+k))
  (Q:=fun c st'=>c=(none,())/\Go a₀ lo st st'/\Srt (arrOf st') lo (lo+n)) (show max ok 1<=n by omega) ?_ ?_
  ⟨rfl,Go.refl hB,by rw [Nat.max_eq_left h1];exact hs⟩) ?_)
 ·rintro k c st' k1 k2 ⟨rfl,hg,hs'⟩
  have hsz:lo+k<(arrOf st').size:=by rw [hg.base.size];omega
  refine wpS_bind (wpS_mono (zd3
   (I:=fun x c st2=>st2=st'/\∃l r,c=(none,l,r)/\l<=r/\r<=k/\r-l<=k-x/\(∀i,i<l->Kk (arrOf st') (lo+i)<=Kk (arrOf st') (lo+k))/\
    ∀i,r<=i->i<k->Kk (arrOf st') (lo+k)<=Kk (arrOf st') (lo+i))
   (Q:=fun c st2=>st2=st'/\∃l,c=(none,l,l)/\l<=k/\(∀i,i<l->Kk (arrOf st') (lo+i)<=Kk (arrOf st') (lo+k))/\
    ∀i,l<=i->i<k->Kk (arrOf st') (lo+k)<=Kk (arrOf st') (lo+i)) ?_ ?_ ⟨rfl,0,k,rfl,by omega,by omega,by omega,fun i hi=>by omega,fun i i1 i2=>by omega⟩) ?_)
  ·rintro x c st2 hx ⟨rfl,l,r,rfl,a1,a2,a3,a4,a5⟩
   dsimp only
   by_cases hge:l>=r
   ·rw [if_pos hge]
    obtain rfl:l=r:=by omega
    exact wpS_pure ⟨rfl,l,rfl,a2,a4,a5⟩
   rw [if_neg hge]
   generalize hm:(l+r) / 2=m
   refine wpS_bind (znq h0 hg.base (i:=lo+k) (j:=lo+m) (by omega) (by omega) ?_)
   by_cases hlt:Kk (arrOf st2) (lo+k)<Kk (arrOf st2) (lo+m)
   ·rw [ZB8 hlt]
    refine wpS_pure ⟨rfl,l,m,rfl,by omega,by omega,by omega,a4,fun i i1 i2=>?_⟩
    exact ZAa (ZAf hlt) (hs' _ _ (by omega) (by omega) (by omega))
   ·rw [ZB9 hlt]
    refine wpS_pure ⟨rfl,m+1,r,rfl,by omega,by omega,by omega,fun i i1=>?_,a5⟩
    exact ZAa (hs' _ (lo+m) (by omega) (by omega) (by omega)) (Int.not_lt.mp hlt)
  ·rintro c st2 ⟨rfl,l,r,rfl,a1,a2,a3,a4,a5⟩
   obtain rfl:l=r:=by omega
   exact ⟨rfl,l,rfl,a2,a4,a5⟩
  ·rintro c st2 ⟨rfl,l,rfl,a2,a4,a5⟩
   refine (fun (H:wpS (model prog w) A E s (do moveDown' (lo+k) (lo+l);pure (ForInStep.yield (none,()))) _ st2)=>H) ?_
   rw [moveDown'_eq]
   have hKb:=fun m=>zst (d:=lo+k-(lo+l)) hsz (by omega) m
   refine wpS_bind (wpS_modify (wpS_pure ⟨rfl,hg.put (bubble_perm _ _ _) (fun m hm=>?_),?_⟩))
   ·rw [hKb,if_neg (by omega),if_neg (by omega)]
   ·intro i j i1 i2 i3
    show Kk (bubble (arrOf st2) (lo+k) (lo+k-(lo+l))) i<=Kk (bubble (arrOf st2) (lo+k) (lo+k-(lo+l))) j
    have low:∀m,lo<=m->m<lo+l->Kk (arrOf st2) m<=Kk (arrOf st2) (lo+k):=fun m m1 m2=>by
     have:=a4 (m-lo) (by omega);rwa [show lo+(m-lo)=m by omega] at this
    have high:∀m,lo+l<=m->m<lo+k->Kk (arrOf st2) (lo+k)<=Kk (arrOf st2) m:=fun m m1 m2=>by
     have:=a5 (m-lo) (by omega) (by omega);rwa [show lo+(m-lo)=m by omega] at this
    rw [hKb,hKb]
    repeat' split
    all_goals first
     | (exfalso;omega)
     | exact Int.le_refl _
     | exact low _ (by omega) (by omega)
     | exact high _ (by omega) (by omega)
     | exact hs' _ _ (by omega) (by omega) (by omega)
 ·rintro c st' ⟨hc,hg,hs'⟩
  exact ⟨hc,hg,hs'⟩
 ·rintro c st' ⟨rfl,hg,hs'⟩
  exact wpS_pure (h st' hg hs')
end
def Run [SK] (xs:Array Keyed):Nat->List (Nat×Nat×Nat)->Nat->Prop
 | s,[],e=>s=e
 | s,r::t,e=>r.1=s/\1<=r.2.1/\Srt xs s (s+r.2.1)/\Run xs (s+r.2.1) t e
section run
variable [SK] {X Y:Array Keyed}
theorem Run.le:∀{rs s e},Run X s rs e->s+rs.length<=e
 | [],s,e,h=>by unfold Run at h;simp;lia
 | r::t,s,e,⟨_,h1,_,h2⟩=>by have:=h2.le;simp only [ZBp];lia
theorem Run.congr:∀{rs s e},Run X s rs e->(∀m,s<=m->m<e->Kk Y m=Kk X m)->Run Y s rs e
 | [],_,_,h,_=>h
 | r::t,s,e,⟨h0,h1,h2,h3⟩,hk=>by
  have:=h3.le
  refine ⟨h0,h1,fun i j a1 a2 a3=>?_,h3.congr fun m m1 m2=>hk m (by lia) m2⟩
  rw [hk i a1 (by lia),hk j (by lia) (by lia)]
  exact h2 i j a1 a2 a3
theorem Run.app:∀{l r s e},Run X s (l++r) e↔∃m,Run X s l m/\Run X m r e
 | [],r,s,e=>⟨fun h=>⟨s,rfl,h⟩,fun ⟨m,h1,h2⟩=>by unfold Run at h1;subst h1;exact h2⟩
 | a::l,r,s,e=>⟨fun ⟨h0,h1,h2,h3⟩=>by
  obtain ⟨m,a1,a2⟩:=Run.app.mp h3
  exact ⟨m,⟨h0,h1,h2,a1⟩,a2⟩,fun ⟨m,⟨h0,h1,h2,h3⟩,h4⟩=>⟨h0,h1,h2,Run.app.mpr ⟨m,h3,h4⟩⟩⟩
theorem Run.same:∀{rs rs' s e},Run X s rs e->rs.map (fun r=>(r.1,r.2.1))=rs'.map (fun r=>(r.1,r.2.1))->Run X s rs' e
 | [],[],_,_,h,_=>h
 | a::t,b::t',s,e,⟨h0,h1,h2,h3⟩,hm=>by
  simp only [ZBf,List.cons.injEq,Prod.mk.injEq] at hm
  obtain ⟨⟨e1,e2⟩,e3⟩:=hm
  refine ⟨e1▸h0,e2▸h1,e2▸h2,?_⟩
  rw [<-e2];exact h3.same e3
 | [],_::_,_,_,_,hm=>by simp at hm
 | _::_,[],_,_,_,hm=>by simp at hm
end run
theorem zh2 {α β:Type} {f:α->α} {g:α->β} (h:∀x,g (f x)=g x):∀(l:List α) (i:Nat),(l.modify i f).map g=l.map g
 | [],i=>by simp
 | a::t,0=>by simp [h]
 | a::t,i+1=>by simp [zh2 h t i]
section
variable [SK] {prog:Program} {w:World} {A:Around} {E:Value->Shared->Prop} {s:Shared} [LtOk prog w A E s] {st:SortSt} {a₀:Array Keyed}
structure Pd (a₀:Array Keyed) (lo:Nat) (rs:List (Nat×Nat×Nat)) (st:SortSt):Prop where
 base:Bs a₀ st
 pend:pendingOf st=rs.toArray
 run:Run (arrOf st) 0 rs lo
 top:lo<=a₀.size
theorem zoo {lo i:Nat} {rs:List (Nat×Nat×Nat)} {Q:Bool->SortSt->Prop} (h0:∀p,p∈a₀.toList->isN p) (hP:Pd a₀ lo rs st) (hi:i+1<rs.length)
 (h:∀rs' st',Pd a₀ lo rs' st'->rs'.length+1=rs.length->(∀m,lo<=m->Kk (arrOf st') m=Kk (arrOf st) m)->Q true st'):
 wpS (model prog w) A E s (mergeAt' i) Q st:=by
 obtain ⟨L,r1,r2,T,e,hL⟩:∃L r1 r2 T,rs=L++r1::r2::T/\i=L.length:=by
  refine ⟨rs.take i,rs[i],rs[i+1],rs.drop (i+2),?_,by simp;lia⟩
  rw [<-List.drop_eq_getElem_cons,<-List.drop_eq_getElem_cons,List.take_append_drop]
 obtain ⟨sa,na,p⟩:=r1
 obtain ⟨sb,nb,p'⟩:=r2
 have hr:=hP.run
 rw [e] at hr
 obtain ⟨m,hl,rfl,b1,b2,rfl,c1,c2,ht⟩:=Run.app.mp hr
 dsimp only at b1 b2 c1 c2 ht
 have t1:=ht.le
 have t2:=hP.top
 refine zvv h0 hP.base (e▸hP.pend) hL rfl b1 c1 (by lia) b2 c2 fun st' d1 d2 d3 d4=>?_
 refine h _ st' ⟨d1,d2,Run.app.mpr ⟨sa,hl.congr fun m _ m2=>d4 m (.inl m2),rfl,by show 1<=na+nb;lia,?_,?_⟩,t2⟩ (by rw [e];simp;lia)
  (fun m m1=>d4 m (.inr (by lia)))
 ·show Srt _ sa (sa+(na+nb));rw [<-Nat.add_assoc];exact d3
 ·show Run _ (sa+(na+nb)) T lo;rw [<-Nat.add_assoc];exact ht.congr fun m m1 _=>d4 m (.inr m1)
theorem ztw {Q:Unit->SortSt->Prop} (h0:∀p,p∈a₀.toList->isN p) (hB:Bs a₀ st) (hp:pendingOf st= #[]) (h2:2<=a₀.size)
 (h:∀st',(arrOf st').Perm a₀->failedOf st'=none->Srt (arrOf st') 0 a₀.size->Q () st'):wpS (model prog w) A E s sortRuns' Q st:=by
 refine wpS_bind (wpS_get ?_)
 have hsize:=hB.size
 refine wpS_bind (wpS_mono (zd3
  (I:=fun x c st'=>∃lo rs,c=(none,lo)/\Pd a₀ lo rs st'/\(x<=lo\/lo=a₀.size))
  (Q:=fun c st'=>∃rs,c=(none,a₀.size)/\Pd a₀ a₀.size rs st') ?big ?bigEnd ⟨0,[],rfl,⟨hB,hp,rfl,ZBa _⟩,.inl (ZAw _)⟩) ?after)
 case bigEnd=>
  rintro c st' ⟨lo,rs,rfl,hP,hx⟩
  have:=hP.top
  change (arrOf st).size<=lo\/lo=a₀.size at hx
  obtain rfl:lo=a₀.size:=by lia
  exact ⟨rs,rfl,hP⟩
 case big=>
  rintro x c st' hx ⟨lo,rs,rfl,hP,hxx⟩
  refine (fun (H:wpS (model prog w) A E s (ite (lo>=(arrOf st).size) _ _) _ st')=>H) ?_
  by_cases c1:lo>=(arrOf st).size
  ·rw [if_pos c1]
   have:=hP.top
   obtain rfl:lo=a₀.size:=by lia
   exact wpS_pure ⟨rs,rfl,hP⟩
  rw [if_neg c1]
  refine wpS_bind (zrf h0 hP.base (by show lo+((arrOf st).size-lo)<=_;lia) (by show 1<=(arrOf st).size-lo;lia) fun m st2 m1 m2 hg hs=>?_)
  change m<=(arrOf st).size-lo at m2
  change Go a₀ lo st' st2 at hg
  change Srt (arrOf st2) lo (lo+m) at hs
  have hP2:Pd a₀ lo rs st2:=⟨hg.base,hg.pend.trans hP.pend,hP.run.congr fun m _ m2=>hg.low m m2,hP.top⟩
  refine (fun (H:wpS (model prog w) A E s _ _ st2)=>H) ?_
  dsimp-zeta only
  extract_lets-underBinder+onlyGivenNames n0 jp
  have hjp:∀(u:Unit) n st3,1<=n->lo+n<=a₀.size->Pd a₀ lo rs st3->Srt (arrOf st3) lo (lo+n)->
   wpS (model prog w) A E s (jp u n) (SQ (fun c st'=>∃rs,c=(none,a₀.size)/\Pd a₀ a₀.size rs st')
    (fun c st'=>∃lo rs,c=(none,lo)/\Pd a₀ lo rs st'/\(x+1<=lo\/lo=a₀.size))) st3:=by
   intro u n st3 n1 n2 hP3 hs3
   refine wpS_bind (wpS_get ?_)
   extract_lets-underBinder+onlyGivenNames jp2
   have hjp2:∀(u:Unit) st4 rs',Pd a₀ lo rs' st4->Srt (arrOf st4) lo (lo+n)->
    wpS (model prog w) A E s (jp2 u) (SQ (fun c st'=>∃rs,c=(none,a₀.size)/\Pd a₀ a₀.size rs st')
     (fun c st'=>∃lo rs,c=(none,lo)/\Pd a₀ lo rs st'/\(x+1<=lo\/lo=a₀.size))) st4:=by
    intro u st4 rs' hP4 hs4
    refine wpS_bind (wpS_modify (wpS_pure ⟨lo+n,rs'++[(lo,n,0)],rfl,⟨⟨hP4.base.perm,hP4.base.kind,hP4.base.fail⟩,?_,?_,n2⟩,by lia⟩))
    ·show (pendingOf st4).push (lo,n,0)=_
     rw [hP4.pend];simp
    ·exact Run.app.mpr ⟨lo,hP4.run,rfl,n1,hs4,rfl⟩
   cases hb:(pendingOf st3).back? with
   | none=>
    exact hjp2 () st3 rs hP3 hs3
   | some r=>
    obtain ⟨s1,l1,p1⟩:=r
    refine wpS_bind (wpS_mono (zd3
     (I:=fun x c st4=>c=(none,())/\∃rs',Pd a₀ lo rs' st4/\Srt (arrOf st4) lo (lo+n))
     (Q:=fun c st4=>c=(none,())/\∃rs',Pd a₀ lo rs' st4/\Srt (arrOf st4) lo (lo+n)) ?_ (fun c st4 hh=>hh) ⟨rfl,rs,hP3,hs3⟩) ?_)
    ·rintro x' c st4 _ ⟨rfl,rs',hP4,hs4⟩
     refine wpS_bind (wpS_get ?_)
     have hsz:(pendingOf st4).size=rs'.length:=by rw [hP4.pend];simp
     dsimp only
     by_cases c2:(pendingOf st4).size>1
     ·rw [if_pos c2]
      cases hq:(pendingOf st4)[(pendingOf st4).size-2]? with
      | none=>exact wpS_pure ⟨rfl,rs',hP4,hs4⟩
      | some r=>
       obtain ⟨x1,x2,older⟩:=r
       dsimp only
       split
       ·exact wpS_pure ⟨rfl,rs',hP4,hs4⟩
       ·refine wpS_bind (zoo h0 hP4 (by show (pendingOf st4).size-2+1<_;lia) fun rs5 st5 hP5 _ hk=>?_)
        refine wpS_pure ⟨rfl,rs5,hP5,fun i j i1 i2 i3=>?_⟩
        rw [hk i i1,hk j (by lia)];exact hs4 i j i1 i2 i3
     ·rw [if_neg c2]
      exact wpS_pure ⟨rfl,rs',hP4,hs4⟩
    ·rintro c st4 ⟨rfl,rs',hP4,hs4⟩
     refine wpS_bind (wpS_modify (hjp2 () _ (rs'.modify (rs'.length-1) fun r=>(r.1,r.2.1,power' (arrOf st).size (2*s1+l1) (2*s1+l1+l1+n) (arrOf st).size)) ⟨⟨hP4.base.perm,hP4.base.kind,hP4.base.fail⟩,?_,?_,hP4.top⟩ hs4))
     ·refine (fun (H:(pendingOf st4).modify ((pendingOf st4).size-1) (fun r=>(r.1,r.2.1,power' (arrOf st).size (2*s1+l1) (2*s1+l1+l1+n) (arrOf st).size))=_)=>H) ?_
      rw [hP4.pend]
      apply Array.toList_inj.mp
      simp
     ·exact hP4.run.same (zh2 (f:=fun r=>(r.1,r.2.1,power' (arrOf st).size (2*s1+l1) (2*s1+l1+l1+n) (arrOf st).size)) (fun _=>rfl) _ _).symm
  by_cases c2:m<minRun' (arrOf st).size (arrOf st).size 0
  ·refine zbc (c:=m<minRun' (arrOf st).size (arrOf st).size 0) c2 ?_
   refine wpS_bind (wpS_lift (wpAny_rule ⟨rfl,?_⟩))
   refine wpS_bind (ztx h0 hg.base (n:=min ((arrOf st).size-lo) (minRun' (arrOf st).size (arrOf st).size 0)) (by lia) m1 (by lia) hs fun st3 hg3 hs3=>?_)
   exact hjp () (min ((arrOf st).size-lo) (minRun' (arrOf st).size (arrOf st).size 0)) st3 (by lia) (by lia) ⟨hg3.base,hg3.pend.trans hP2.pend,hP2.run.congr fun m _ m2=>hg3.low m m2,hP2.top⟩ hs3
  ·refine zce (c:=m<minRun' (arrOf st).size (arrOf st).size 0) c2 ?_
   exact hjp () m st2 m1 (by lia) hP2 hs
 case after=>
  rintro c st' ⟨rs,rfl,hP⟩
  refine (fun (H:wpS (model prog w) A E s _ Q st')=>H) ?_
  dsimp only
  have hlen:=hP.run.le
  refine wpS_bind (wpS_mono (zd3
   (I:=fun x c st4=>c=(none,())/\∃rs',Pd a₀ a₀.size rs' st4/\(rs'.length+x<=a₀.size\/rs'.length<=1))
   (Q:=fun c st4=>c=(none,())/\∃rs',Pd a₀ a₀.size rs' st4/\rs'.length<=1) ?_ ?_ ⟨rfl,rs,hP,.inl (by lia)⟩) ?_)
  ·rintro x' c st4 _ ⟨rfl,rs',hP4,hl4⟩
   refine wpS_bind (wpS_get ?_)
   have hsz:(pendingOf st4).size=rs'.length:=by rw [hP4.pend];simp
   by_cases c2:(pendingOf st4).size<=1
   ·rw [if_pos c2]
    exact wpS_pure ⟨rfl,rs',hP4,by lia⟩
   rw [if_neg c2]
   refine wpS_bind (zoo h0 hP4 ?_ fun rs5 st5 hP5 hl5 _=>wpS_pure ⟨rfl,rs5,hP5,by lia⟩)
   have key:∀j,j<=(pendingOf st4).size-2->j+1<rs'.length:=by lia
   refine key _ ?_
   repeat' split
   all_goals first
    | exact ZAw _
    | exact Nat.sub_le _ _
  ·rintro c st4 ⟨rfl,rs',hP4,hl4⟩
   change rs'.length+(arrOf st).size<=a₀.size\/rs'.length<=1 at hl4
   exact ⟨rfl,rs',hP4,by lia⟩
  ·rintro c st4 ⟨rfl,rs',hP4,hl4⟩
   refine wpS_pure (h st4 hP4.base.perm hP4.base.fail ?_)
   have hr:=hP4.run
   match rs',hl4,hr with
   | [],_,hr=>unfold Run at hr;lia
   | [r],_,⟨_,_,e1,e2⟩=>
    unfold Run at e2
    intro i j i0 i1 i2
    exact e1 i j i0 i1 (by lia)
end
section
variable {prog:Program} {w:World} {k:Type} [DecidableEq k] {knd:KeyKind prog w k} {A:Around} {E:Value->Shared->Prop} {s:Shared}
theorem zlb {d:Addr} {kvs:List (k×Value)} {ep:Nat} {Q:List Value->Shared->Prop} (hh:A.handled=none) (hd:(d==sysModules)=false) (hm:s.heap.DictAt knd d kvs ep) (hn:kvs.length<=sizeLine)
 (hQ:∀s' acc,(∀b o,s.heap.get? b=some o->s'.heap.get? b=some o)->s'.gens=s.gens->s'.drawn=s.drawn->s'.os=s.os->s.toks<=s'.toks->
  ItemsOf (fun i v=>∃key x,kvs[i]?=some (key,x)/\knd.is key v=true) acc kvs.length->Q acc.toList s'):wpAny (model prog w) A (collect (.ref d)) Q E s:=by
 let L:Obj:={ cls:=.type "list",data:=.seq ([]:List Value).toArray }
 have hdlt:=hm.lt_size
 have hSd:s.heap.objs.size≠d:=Nat.ne_of_gt hdlt
 unfold collect
 refine ZAp (wpAny_runValue (codeAny_builtin F.entry_proto_collect ?_))
 rw [Around.under_plainId F.plain_proto_collect _]
 refine (show wpAny _ A.in1 (newList []>>=fun l=>again (.builtin "list.__iadd__" ⟨[l,.ref d],[]⟩)) _ _ s from ZAp (wpAny_newObj_type (ZAq ⟨plainId_quiet F.plain_list_iadd _,codeAny_builtin F.entry_list_iadd ?_⟩)))
 rw [Around.under_plainId F.plain_list_iadd _]
 have hm1:(s.heap.push L).DictAt knd d kvs ep:=hm.push _
 have hT:({ s with heap:=s.heap.push L }:Shared).TypeIs (.ref d) "dict":=hm1.dictOf.typeIs (s:={ s with heap:=s.heap.push L })
 have hS:(s.heap.push L).get? s.heap.objs.size=some L:=ZBh _ rfl
 refine (show wpAny _ A.in1 (Builtin.List.listExtendWith (.ref s.heap.objs.size) (.ref d) (.ref s.heap.objs.size)) _ _ { s with heap:=s.heap.push L } from ?_)
 unfold Builtin.List.listExtendWith
 refine ZAp (wpAny_typeOf hT ?_)
 rw [if_neg (by rw [show Builtin.List.listSameRef (.ref s.heap.objs.size) (.ref d)=false by simp [Builtin.List.listSameRef,hSd]];decide)]
 refine ZAp (wpAny_pyIter_dict hd hm1 (ZAp (wpAny_holding ?_)))
 unfold Builtin.List.listLengthHint
 let I:Addr:=(s.heap.push L).objs.size
 let h2:Heap:=(s.heap.push L).push { cls:=.type "dict_keyiterator",data:=.fields #[.ref d,.int 0 0,.int kvs.length 0,.int ep 0] }
 have hm2:h2.DictAt knd d kvs ep:=hm1.push _
 have hT2:({ s with heap:=h2 }:Shared).TypeIs (.ref d) "dict":=hm2.dictOf.typeIs (s:={ s with heap:=h2 })
 refine ZAp (wpAny_specialOf (name:=Str.ofString "__len__") hT2 F.slot_dict_len.lookup ?_)
 generalize hid:("dict.__len__":String)=id0
 (fail_if_success (clear hid id0))
 wp_delta
 rw [show splitId id0=some ("dict","__len__") from by subst hid;decide+kernel]
 subst hid
 refine ZAp (wpAny_isInstance (b:=true) hT2 (by rw [isSubtype_type];kernel_rfl) ?_)
 rw [if_neg (by decide)]
 refine (fun (H:wpAny (model prog w) A.in1 (ite _ _ _) _ _ _)=>H) ?_
 rw [if_pos (by decide+kernel)]
 refine ZAp (wpAny_typeOf hT2 (ZAq ?_))
 rw [if_pos (by decide+kernel)]
 let S:Addr:=s.heap.objs.size
 have hSI:S≠I:=ZBj (show s.heap.objs.size<(s.heap.push L).objs.size by rw [size_push'];exact Nat.lt_succ_self _)
 have hdI:d≠I:=ZBj (show d<(s.heap.push L).objs.size by rw [size_push'];exact Nat.lt_succ_of_lt hdlt)
 have hS2:h2.get? S=some L:=ZAy _ hS
 have hS3:=Heap.get?_update_self (Obj.mapSeq (·.push Value.none)) hS2 rfl
 have hS4:=Heap.get?_update_self (Obj.mapSeq (·.pop)) hS3 rfl
 have oth:∀b o,b≠S->h2.get? b=some o->((h2.update S (Obj.mapSeq (·.push Value.none))).update S (Obj.mapSeq (·.pop))).get? b=some o:=
  fun b o hb e=>(Heap.get?_update_other _ _ (ZAl hb)).trans ((Heap.get?_update_other _ _ (ZAl hb)).trans e)
 have W:=(Walks.dictKeys (knd:=knd) (prog:=prog) (w:=w) (A:=A.in1) hh I d hdI kvs ep).toS
 have hit2:h2.IsKeyIter I d 0 kvs.length ep:=⟨_,ZBh _ rfl,rfl,rfl⟩
 refine ZAp (wpAny_rule (ZAp (show wpAny _ A.in1 (updateSeq S (·.push .none)>>=fun _=>updateSeq S (·.pop)) _ _ { s with heap:=h2 } from ZAp (wpAny_updateSeq (s:={ s with heap:=h2 }) hS2 rfl (wpAny_updateSeq (s:={ s with heap:=h2.update S (Obj.mapSeq (·.push Value.none)) }) hS3 rfl ?_)))))
 refine ZAq ⟨plainId_quiet F.plain_extend_loop _,codeAny_extend_loopS W hn S (fun z=>(ZBe.mp z).elim hSI fun z=>hSd (ZBd.mp z)) _ kvs.length 0 _ _ _ rfl (ZBa _)
  ⟨hit2.at fun o e=>oth _ _ (ZAl hSI) e,hm2.at' fun o e=>oth _ _ (ZAl hSd) e⟩ hS4 (ItemsOf.nil _) fun s' acc c hmv hS' hacc=>?_⟩
 refine (show wpAny _ A (load S>>=_) _ _ s' from ZAp (wpAny_load hS' (ZAq (hQ s' acc (fun b o e=>?_) hmv.gens hmv.drawn hmv.os hmv.toks hacc))))
 have hb:b<s.heap.objs.size:=ZBc e
 refine hmv.heap b o (fun z=>?_) (oth b o (ZBj hb) (ZAy _ (ZAy _ e)))
 rcases ZBe.mp z with z | z
 ·exact ZBj hb z
 ·have z:=ZBd.mp z
  have e2:I=s.heap.objs.size+1:=size_push' _ _
  exact ZB2 _ (ZBm hb (by rw [z,e2];exact ZAe _))
end
theorem zmd (vs:List Value):(vs.toArray.zip vs.toArray).toList=vs.map fun v=>(v,v):=by
 rw [Array.toList_zip]
 show vs.zip vs=_
 induction vs with
 | nil=>rfl
 | cons v r ih=>simp [ih]
section
variable [SK] {prog:Program} {w:World} {A:Around} {E:Value->Shared->Prop} {s:Shared}
theorem zwn {vs:List Value} {X:Array Keyed} (hp:X.Perm (vs.toArray.zip vs.toArray)) (hs:Srt X 0 (vs.toArray.zip vs.toArray).size):
 (X.map (·.2)).toList.Perm vs/\(X.map (·.2)).toList.Pairwise fun u v=>N (u,u)<=N (v,v):=by
 have hpl:=Array.perm_iff_toList_perm.mp hp
 rw [zmd] at hpl
 have hsz:X.size=(vs.toArray.zip vs.toArray).size:=hp.size_eq
 have hdiag:∀p∈X.toList,p=(p.2,p.2):=fun p hm=>by
  obtain ⟨v,_,rfl⟩:=ZBr.mp (hpl.mem_iff.mp hm)
  rfl
 rw [Array.toList_map]
 refine ⟨by simpa [List.map_map,Function.comp_def] using hpl.map (·.2),?_⟩
 rw [List.pairwise_map,ZBt]
 intro i j hi hj hij
 have hi':i<X.size:=by simpa using hi
 have hj':j<X.size:=by simpa using hj
 have:=hs i j (ZBa _) (ZBb hij) (hsz▸hj')
 rw [zgo (getElem?_pos X i hi'),zgo (getElem?_pos X j hj')] at this
 rw [<-hdiag _ (ZB3 hi),<-hdiag _ (ZB3 hj)]
 exact this
theorem zjq {a:Addr} {vs:List Value} {n:Nat} {P:PySem.Fin->Shared->Prop} (ho:s.heap.get? a=some (seqObj "list" vs.toArray n)) (hz:vs.length<=sizeLine)
 (hkind:2<=vs.length->∀(h':Heap) (Q:SortKind->Shared->Prop),(∀b o,b≠a->s.heap.get? b=some o->h'.get? b=some o)->Q SK.kind { s with heap:=h' }->
  wpAny (model prog w) A (keyKind' vs.toArray) Q E { s with heap:=h' })
 (hlt:∀h':Heap,(∀b o,b≠a->s.heap.get? b=some o->h'.get? b=some o)->LtOk prog w A E { s with heap:=h' })
 (hok:∀v∈vs,isN (v,v))
 (h:∀out:Array Value,out.toList.Perm vs->(out.toList.Pairwise fun u v=>N (u,u)<=N (v,v))->P (.done (.ret .none)) { s with heap:=sortedHeap s.heap a vs out }):
 wpAny (model prog w) A (Builtin.«list.sort» ⟨[.ref a],[]⟩) P E s:=by
 rw [list_sort_plain]
 have ha:a<s.heap.objs.size:=ZBc ho
 obtain ⟨e1,ho1⟩:∃e1,(s.heap.update a (Obj.mapSeq fun _=> #[])).get? a=some (seqObj "list" #[] e1):=⟨_,get?_update_seq ho (fun _=> #[])⟩
 let h3:Heap:=((s.heap.update a (Obj.mapSeq fun _=> #[])).push (seqObj "tuple" vs.toArray 0)).push (seqObj "list" #[] 0)
 have keep:∀b o,b≠a->s.heap.get? b=some o->h3.get? b=some o:=fun b o hb e=>
  ZAy _ (ZAy _ ((Heap.get?_update_other _ _ (ZAl hb)).trans e))
 have ho3:h3.get? a=some (seqObj "list" #[] e1):=ZAy _ (ZAy _ ho1)
 have hsz:vs.toArray.size=vs.length:=by simp
 refine ZAp (listItems_at ho rfl (ZAp (listUpdate_at ho rfl (ZAp (seqEpoch_at ho1 rfl (ZAp (wpAny_newTuple (ZAp (wpAny_newList (wpAny_holding ?_) (ZBa _))) hz)))) (by rw [hsz];exact hz) (ZBa _))))
 have fin:∀st':SortSt,(arrOf st').Perm (vs.toArray.zip vs.toArray)->failedOf st'=none->Srt (arrOf st') 0 (vs.toArray.zip vs.toArray).size->
  wpAny (model prog w) A (do
   let touched:=(<-seqEpoch a) !=e1
   Builtin.List.listUpdate (.ref a) fun _=>(arrOf st').map (·.2)
   if let some e:=failedOf st' then rule "list.sort.comparison-raised";throw e
   if touched then rule "list.sort.modified";raiseError "ValueError" "list modified during sort"
   ret .none) P E { s with heap:=h3 }:=by
  intro st' hp hf hs
  obtain ⟨o1,o2⟩:=zwn hp hs
  refine ZAp (seqEpoch_at ho3 rfl (ZAp (listUpdate_at ho3 rfl ?_ (ZBa _) ?_)))
  ·rw [hf]
   simp only [bne_self_eq_false,Bool.false_eq_true,if_false]
   exact ZAq (h _ o1 o2)
  ·have:=o1.length_eq
   rw [ZAj] at this
   exact Nat.le_succ_of_le (this▸hz)
 refine (show wpAny (model prog w) A _ P E { s with heap:=h3 } from ?_)
 by_cases h2:vs.toArray.size<2
 ·dsimp only
  rw [if_pos h2,if_pos h2]
  refine ZAp (ZAq ?_)
  rw [StateT.run_pure]
  refine ZAp (ZAq (fin (SortSt.mk' general' (vs.toArray.zip vs.toArray) #[] 7 none) (Array.Perm.refl _) rfl ?_))
  intro i j _ hij hj
  obtain rfl:i=j:=by simp at hj;omega
  exact Int.le_refl _
 ·dsimp only
  rw [if_neg h2,if_neg h2]
  refine ZAp (hkind (by omega) h3 _ keep ?_)
  have:=hlt h3 keep
  refine ZAp (wpAny_mono (ztw (s:={ s with heap:=h3 }) (a₀:=vs.toArray.zip vs.toArray) (st:=SortSt.mk' SK.kind (vs.toArray.zip vs.toArray) #[] 7 none)
   (Q:=fun _ st'=>(arrOf st').Perm (vs.toArray.zip vs.toArray)/\failedOf st'=none/\Srt (arrOf st') 0 (vs.toArray.zip vs.toArray).size)
   (fun p hp=>?_) ⟨Array.Perm.refl _,rfl,rfl⟩ rfl (by simp;omega) fun st' a1 a2 a3=>⟨a1,a2,a3⟩) ?_ fun _ _ e=>e)
  ·rw [zmd] at hp
   obtain ⟨v,hv,rfl⟩:=ZBr.mp hp
   exact hok v hv
  ·rintro ⟨⟨⟩,st'⟩ s' ⟨rfl,hp,hf,hs⟩
   exact fin st' hp hf hs
end
section
variable {prog:Program} {w:World} {A:Around} {E:Value->Shared->Prop} {s:Shared}
theorem zit {x:Value} {Q:Value->Shared->Prop} {R:Shared->List Value->Prop}
 (hc:wpAny (model prog w) A.in1 (collect x) (fun vs s1=>R s1 vs) E s)
 (h:∀s1 vs,R s1 vs->wpAny (model prog w) A.in1 (newList vs>>=fun l=>holding [l] (call (.builtin "list.sort") [l])>>=fun _=>ret l) (fun fin s'=>∃r,fin=.done (.ret r)/\Q r s') E s1):
 wpAny (model prog w) A (call (.builtin "sorted") [x]) Q E s:=by
 refine Calls.call_function_entry kind_sorted plain_sorted entry_sorted (args_sorted1 _) ?_
 unfold Builtin.«sorted»
 refine ZAp (m:=checkCount "sorted" 1 1 _) (ZAq ?_)
 refine ZAp (wpAny_mono hc (fun vs s1 hr=>h s1 vs hr) fun _ _ e=>e)
end
@[reducible] noncomputable def skI:SK:=⟨fun p=>numOf p.1,fun p=>∃n t,p.1=.int n t,oneType'⟩
theorem ltI {prog:Program} {w:World} {A:Around} {E:Value->Shared->Prop} {s:Shared}: @LtOk skI prog w A E s:=by
 refine @LtOk.mk skI prog w A E s ?_
 rintro st p q Q hk ⟨n,t,hp⟩ ⟨n',t',hq⟩ h
 have e1: @N skI p=n:=by show numOf p.1=n;rw [hp];rfl
 have e2: @N skI q=n':=by show numOf q.1=n';rw [hq];rfl
 rw [e1,e2] at h
 rw [lt'_eq,hp,hq]
 refine wpS_bind (wpS_get ?_)
 rw [show kindOf st=oneType' from hk,keyLt'_oneType]
 exact wpS_bind (wpS_lift (wpAny_attempt (oneLt_int ⟨rfl,wpS_pure h⟩)))
theorem zyd {prog:Program} {w:World} {A:Around} {E:Value->Shared->Prop} {s:Shared} {vs:List Value} {ns:List Int} {Q:SortKind->Shared->Prop} (hI:IntsAre vs ns) (h2:2<=vs.length) (h:Q oneType' s):wpAny (model prog w) A (keyKind' vs.toArray) Q E s:=by
 match vs,h2,hI with
 | v₁::v₂::r,_,hI=>rw [keyKind_ints hI];exact ZAq h
section
variable [SK] {prog:Program} {w:World} {A:Around} {E:Value->Shared->Prop} {s:Shared}
theorem zmr {vs:List Value} {Q:Value->Shared->Prop} (hz:vs.length<=sizeLine)
 (hkind:2<=vs.length->∀(A:Around) (E:Value->Shared->Prop) (h':Heap) (Q:SortKind->Shared->Prop),(∀b o,s.heap.get? b=some o->h'.get? b=some o)->Q SK.kind { s with heap:=h' }->
  wpAny (model prog w) A (keyKind' vs.toArray) Q E { s with heap:=h' })
 (hlt:∀(A:Around) (E:Value->Shared->Prop) (h':Heap),(∀b o,s.heap.get? b=some o->h'.get? b=some o)->LtOk prog w A E { s with heap:=h' })
 (hok:∀v∈vs,isN (v,v))
 (h:∀(out:Array Value) (h':Heap),out.toList.Perm vs->(out.toList.Pairwise fun u v=>N (u,u)<=N (v,v))->(∀b o,s.heap.get? b=some o->h'.get? b=some o)->
  (∃e,h'.get? s.heap.objs.size=some (seqObj "list" out e))->Q (.ref s.heap.objs.size) { s with heap:=h' }):
 wpAny (model prog w) A (newList vs>>=fun l=>holding [l] (call (.builtin "list.sort") [l])>>=fun _=>ret l) (fun fin s'=>∃r,fin=.done (.ret r)/\Q r s') E s:=by
 let h1:Heap:=s.heap.push (seqObj "list" vs.toArray 0)
 have hoL:h1.get? s.heap.objs.size=some (seqObj "list" vs.toArray 0):=ZBh _ rfl
 have up:∀(h':Heap),(∀b o,b≠s.heap.objs.size->h1.get? b=some o->h'.get? b=some o)->∀b o,s.heap.get? b=some o->h'.get? b=some o:=fun h' hk b o e=>
  hk b o (ZBj (ZBc e)) (ZAy _ e)
 refine ZAp (wpAny_newList ?_ hz)
 refine ZAp (wpAny_holding (wpAny_call_entry (s:={ s with heap:=h1 }) slot_list_sort ⟨_,hoL,rfl⟩ entry_list_sort (zjq hoL hz (fun h2 h' Q hk hq=>hkind h2 _ _ h' Q (up h' hk) hq) (fun h' hk=>hlt _ _ h' (up h' hk)) hok fun out o1 o2=>⟨_,rfl,?_⟩) (args_list_sort _)))
 refine ZAq ⟨_,rfl,h out _ o1 o2 (fun b o e=>?_) (sortedHeap_at hoL)⟩
 have hb:b<s.heap.objs.size:=ZBc e
 rw [sortedHeap_old (ZBj hb) (show b<h1.objs.size by show b<(s.heap.push _).objs.size;rw [size_push'];exact Nat.lt_succ_of_lt hb)]
 exact ZAy _ e
end
end TS
namespace L2
open PySem PySem.Spec PyProof.Rows TS
theorem znc:∀{us:List Value} {ns:List Int},us.length=ns.length->(∀(j:Nat) v i,us[j]?=some v->ns[j]?=some i->∃t,v=.int i t)->IntsAre us ns
 | [],[],_,_=>.nil
 | u::us,n::ns,hl,h=>by
  obtain ⟨t,rfl⟩:=h 0 u n rfl rfl
  exact .cons _ _ (znc (by simpa using hl) fun j v i e1 e2=>h (j+1) v i (by simpa using e1) (by simpa using e2))
 | [],_::_,hl,_=>by simp at hl
 | _::_,[],hl,_=>by simp at hl
theorem ze4:∀{us:List Value} {ns:List Int},IntsAre us ns->us.map numOf=ns/\∀u∈us,∃n t,u=.int n t
 | _,_,.nil=>⟨rfl,fun _ h=>nomatch h⟩
 | _,_,.cons n t h=>by
  obtain ⟨a,b⟩:=ze4 h
  refine ⟨by rw [ZBf,a];rfl,fun u hu=>?_⟩
  rcases ZBe.mp hu with rfl | hu
  ·exact ⟨n,t,rfl⟩
  ·exact b u hu
theorem zj6:∀{us:List Value},(∀u∈us,∃n t,u=.int n t)->zcc ((us.map numOf).map V.int) us
 | [],_=>.nil
 | u::us,h=>by
  obtain ⟨n,t,rfl⟩:=h u ZA5
  exact .cons ⟨t,rfl⟩ (zj6 fun v hv=>h v (ZA4 _ hv))
theorem Inv.at_ {X:Cx} {pins:List (Addr×Obj)} {σ:St} {H:Hp} {s s1:Shared} (I:Inv X pins σ H s) (k:∀b o,s.heap.get? b=some o->s1.heap.get? b=some o) (hg:s1.gens=s.gens) (hd:s1.drawn=s.drawn) (ho:s1.os=s.os):Inv X pins σ H s1:=by
 have e:s1={ s with heap:=s1.heap,toks:=s1.toks }:=by
  obtain ⟨h1,g1,d1,t1,o1⟩:=s1
  cases hg;cases hd;cases ho
  rfl
 rw [e]
 exact I.kept (t':=s1.toks) k
section
variable {X:Cx}
theorem zld (hc:X.calm=true):zik X (.builtin "sorted") (fun xs H Q=>∃(p:Addr) (kvs:List (Key×V)) (ns:List Int),xs=[.ref p]/\H p=some (.dK kvs)/\kvs.map (·.1)=ns.map Sum.inl/\
 ∀(l:Addr) (ns':List Int),H l=none->ns'.Perm ns->ns'.Pairwise (·<=·)->Q (.ref l) (upd H l (.lst (ns'.map V.int)))):=by
 intro pins s σ H xs us Q I r h
 obtain ⟨p,kvs,ns,rfl,hp,hns,q⟩:=h
 obtain ⟨u,rfl,ru⟩:=znr r
 cases ru
 obtain ⟨hz,hs,vs,hv,hD⟩:=(show zcl X.prog X.w H s.heap p (.dK kvs) from I.hok p _ hp)
 obtain ⟨ep,hat⟩:=hD.dictAt
 have hlv:kvs.length=vs.length:=Paired.length hv
 have hln:kvs.length=ns.length:=by have:=congrArg List.length hns;simpa using this
 refine zit (R:=fun s1 us=>Inv X pins σ H s1/\(∀b o,s.heap.get? b=some o->s1.heap.get? b=some o)/\IntsAre us ns) (zlb (I.ok.hd hc) hs hat (by omega) fun s1 acc k hg hd ho ht hi=>?_) ?_
 ·refine ⟨I.at_ k hg hd ho,k,znc (by rw [ZAj,hi.1];omega) fun j v i e1 e2=>?_⟩
  obtain ⟨key,x,g1,g2⟩:=hi.2 j v (by simpa using e1)
  have hk:(kvs.map (·.1))[j]?=some (Sum.inl i):=by rw [hns,ZA0,e2];rfl
  rw [ZA0] at hk
  cases hkv:kvs[j]? with
  | none=>rw [hkv] at hk;cases hk
  | some kv=>
   rw [hkv] at hk
   obtain ⟨y,hy,ey,_⟩:=zh0 hv hkv
   rw [g1] at hy
   cases hy
   have e:kv.1=Sum.inl i:=ZA7 hk
   rw [e] at ey
   subst ey
   rcases zbp (show zk0 (Sum.inl i) v=true from g2) with ⟨i',t,e3,rfl⟩ | ⟨x',t,e3,rfl⟩
   ·cases e3;exact ⟨t,rfl⟩
   ·cases e3
 ·rintro s1 us ⟨I1,k1,hI⟩
  have hul:us.length=ns.length:=by rw [<-(ze4 hI).1];simp
  refine @zmr skI X.prog X.w _ _ s1 us _ (by omega) (fun h2 A E h' Q hk hq=>zyd (s:={ s1 with heap:=h' }) hI h2 hq) (fun A E h' hk=>ltI) (fun v hv=>?_) fun out h' o1 o2 k2 he=>?_
  ·obtain ⟨n,t,e⟩:=(ze4 hI).2 v hv
   exact ⟨n,t,e⟩
  ·obtain ⟨e,he⟩:=he
   have hall:∀u∈out.toList,∃n t,u=Value.int n t:=fun u hu=>(ze4 hI).2 u (o1.mem_iff.mp hu)
   have fr:H s1.heap.objs.size=none:=I1.hok.fresh (ZAw _)
   have hpm:(out.toList.map numOf).Perm ns:=by rw [<-(ze4 hI).1];exact o1.map numOf
   refine ⟨.ref s1.heap.objs.size,_,I1.laid (t':=s1.toks) k2 (ZAw _) (show zcl X.prog X.w _ h' _ (.lst ((out.toList.map numOf).map V.int)) from ⟨?_,out.toList,e,zj6 hall,by rw [he]⟩),rfl,q _ _ fr hpm ?_⟩
   ·rw [ZAu,hpm.length_eq];omega
   ·rw [List.pairwise_map];exact o2
end
def tri (a b m:Int):HO:=.tup [.int a,.int b,.int m]
def cod (H:Hp):Value->Int
 | .ref q=>match H q with
  | some (.tup [.int a,.int b,_])=>a*64+b
  | _=>0
 | _=>0
@[reducible] noncomputable def skT (H:Hp) (g:Int->Int->Int):SK:=
 ⟨fun p=>cod H p.1,fun p=>∃q a b,p.1=.ref q/\H q=some (tri a b (g a b))/\0<=a/\a<64/\0<=b/\b<64,tuples' true⟩
theorem zj0 {H:Hp} {q:Addr} {a b m:Int} (h:H q=some (tri a b m)):cod H (.ref q)=a*64+b:=by
 show (match H q with | some (.tup [.int a,.int b,_])=>a*64+b | _=>0)=_
 rw [h];rfl
section
variable {prog:Program} {w:World} {A:Around} {E:Value->Shared->Prop} {s:Shared} {H:Hp} {g:Int->Int->Int}
def zvg (H:Hp) (h:Heap):Prop:=∀q a b m,H q=some (tri a b m)->∃t1 t2 t3 o n,h.get? q=some o/\o.cls=.type "tuple"/\o.data=.seq #[.int a t1,.int b t2,.int m t3] n
theorem zvg.keep {h h':Heap} (x:zvg H h) (k:∀b o,h.get? b=some o->h'.get? b=some o):zvg H h':=fun q a b m e=>
 let ⟨t1,t2,t3,o,n,e1,e2⟩:=x q a b m e;⟨t1,t2,t3,o,n,k _ _ e1,e2⟩
theorem zt1 {P:Program} {w:World} {h:Heap} (ok:HOk P w H h):zvg H h:=fun q a b m e=>by
 obtain ⟨_,its,hv,o,e1,e2,n,e3⟩:=(show zcl P w H h q (tri a b m) from ok q _ e)
 rcases hv with _ | ⟨⟨t1,rfl⟩,hv⟩
 rcases hv with _ | ⟨⟨t2,rfl⟩,hv⟩
 rcases hv with _ | ⟨⟨t3,rfl⟩,hv⟩
 cases hv
 exact ⟨t1,t2,t3,o,n,e1,e2,e3⟩
theorem ltT (ht:zvg H s.heap): @LtOk (skT H g) prog w A E s:=by
 refine @LtOk.mk (skT H g) prog w A E s ?_
 rintro st p q Q hk ⟨x,a,b,hp,hx,a0,a1,b0,b1⟩ ⟨y,a',b',hq,hy,a0',a1',b0',b1'⟩ h
 have e1: @N (skT H g) p=a*64+b:=by show cod H p.1=_;rw [hp,zj0 hx]
 have e2: @N (skT H g) q=a'*64+b':=by show cod H q.1=_;rw [hq,zj0 hy]
 rw [e1,e2] at h
 obtain ⟨t1,t2,t3,ox,n,ox1,_,ox2⟩:=ht x _ _ _ hx
 obtain ⟨u1,u2,u3,oy,n',oy1,_,oy2⟩:=ht y _ _ _ hy
 rw [lt'_eq,hp,hq]
 refine wpS_bind (wpS_get ?_)
 rw [show kindOf st=tuples' true from hk]
 refine wpS_bind (wpS_lift (wpAny_attempt (PySem.W.kat_lt ox1 ox2 oy1 oy2 ?_)))
 show PySem.W.KatLex prog w A true (decide (3<3)) _ [(.int a t1,.int a' u1),(.int b t2,.int b' u2),(.int (g a b) t3,.int (g a' b') u3)] 0 s
 refine PySem.W.kat_cons (wpAny_eqBool_int (PySem.W.kat_go (fun e=>PySem.W.kat_yes ?_) fun e=>PySem.W.kat_no ?_))
 ·have ea:a=a':=by simpa using e
  subst ea
  refine PySem.W.kat_cons (wpAny_eqBool_int (PySem.W.kat_go (fun e=>PySem.W.kat_yes ?_) fun e=>PySem.W.kat_no ?_))
  ·have eb:b=b':=by simpa using e
   subst eb
   refine PySem.W.kat_cons (wpAny_eqBool_int (PySem.W.kat_go (fun e=>PySem.W.kat_yes (PySem.W.kat_nil ⟨rfl,wpS_pure ?_⟩)) fun e=>absurd e (by simp)))
   have:decide (a*64+b<a*64+b)=decide (3<3):=by simp
   rw [<-this];exact h
  ·have:decide (a*64+b<a*64+b')=decide (b<b'):=by
    by_cases hb:b<b'
    ·rw [ZB8 hb,ZB8 (by lia)]
    ·rw [ZB9 hb,ZB9 (by lia)]
   rw [this] at h
   exact PySem.W.kat_one _ _ (lt_int (show _ from ⟨rfl,wpS_pure h⟩))
 ·have ea:a≠a':=by simpa using e
  have:decide (a*64+b<a'*64+b')=decide (a<a'):=by
   by_cases hb:a<a'
   ·rw [ZB8 hb,ZB8 (by lia)]
   ·rw [ZB9 hb,ZB9 (by lia)]
  rw [this] at h
  exact oneLt_int ⟨rfl,wpS_pure h⟩
theorem zyc (ht:zvg H s.heap) {vs:List Value} {Q:SortKind->Shared->Prop} (hv:∀v∈vs,@isN (skT H g) (v,v)) (h2:2<=vs.length) (h:Q (tuples' true) s):wpAny (model prog w) A (keyKind' vs.toArray) Q E s:=by
 have key:∀l:List Value,(∀v∈l,@isN (skT H g) (v,v))->∃fs,PySem.W.KatTups s.heap l fs/\fs.length=l.length/\∀f∈fs,∃n t,f=Value.int n t:=by
  intro l
  induction l with
  | nil=>exact fun _=>⟨[],PySem.W.KatTups.nil,rfl,fun _ h=>nomatch h⟩
  | cons v r ih=>
   intro hl
   obtain ⟨fs,k1,k2,k3⟩:=ih fun v hv=>hl v (ZA4 _ hv)
   obtain ⟨q,a,b,e,hq,_⟩:=hl v ZA5
   obtain rfl:v=.ref q:=e
   obtain ⟨t1,t2,t3,o,n,e1,e2,e3⟩:=ht q _ _ _ hq
   refine ⟨.int a t1::fs,PySem.W.KatTups.cons e1 e2 e3 rfl k1,by simp [k2],fun f hf=>?_⟩
   rcases ZBe.mp hf with rfl | hf
   ·exact ⟨a,t1,rfl⟩
   ·exact k3 f hf
 obtain ⟨fs,k1,k2,k3⟩:=key vs hv
 exact PySem.W.kat_kind (T:=.type "int") k1 (by lia) (fun v hv=>by obtain ⟨n,t,rfl⟩:=k3 v hv;exact PySem.W.Looks.of_pure rfl) (by decide) h
end
section
variable {X:Cx}
theorem zpn:∀{ps:List Addr} {us:List Value},zcc (ps.map V.ref) us->us=ps.map Value.ref
 | [],_,.nil=>rfl
 | p::ps,_,.cons r t=>by
  have e:=zpn t
  cases r
  rw [ZBf,e]
theorem zj5:∀(ps:List Addr),zcc (ps.map V.ref) (ps.map Value.ref)
 | []=>.nil
 | p::ps=>.cons rfl (zj5 ps)
theorem zlc:zik X (.builtin "sorted") (fun xs H Q=>∃(p:Addr) (ps:List Addr) (g:Int->Int->Int),xs=[.ref p]/\H p=some (.lst (ps.map V.ref))/\
 (∀q∈ps,∃a b,H q=some (tri a b (g a b))/\0<=a/\a<64/\0<=b/\b<64)/\
 ∀(l:Addr) (ps':List Addr),H l=none->ps'.Perm ps->(ps'.Pairwise fun x y=>cod H (.ref x)<=cod H (.ref y))->Q (.ref l) (upd H l (.lst (ps'.map V.ref)))):=by
 intro pins s σ H xs us Q I r h
 obtain ⟨p,ps,g,rfl,hp,hps,q⟩:=h
 obtain ⟨u,rfl,ru⟩:=znr r
 cases ru
 obtain ⟨hz,its,n,rv,e0⟩:=(show zcl X.prog X.w H s.heap p (.lst (ps.map V.ref)) from I.hok p _ hp)
 rw [ZAu] at hz
 obtain rfl:=zpn rv
 refine zit (R:=fun s1 us=>Inv X pins σ H s1/\us=ps.map Value.ref) (collect_list (vs:=ps.map Value.ref) ⟨_,e0,rfl,n,rfl⟩ ⟨I.at_ (s1:={ s with heap:=_ }) (fun b o e=>?_) rfl rfl rfl,rfl⟩ (by simpa using hz)) ?_
 ·have hb:b<s.heap.objs.size:=ZBc e
  rw [Heap.get?_update_ne _ _ _ _ (ZBj hb)]
  exact ZAy _ e
 ·rintro s1 us ⟨I1,rfl⟩
  have ht:zvg H s1.heap:=zt1 I1.hok
  have hok:∀v∈ps.map Value.ref,@isN (skT H g) (v,v):=fun v hv=>by
   obtain ⟨x,hx,rfl⟩:=ZBr.mp hv
   obtain ⟨a,b,h1,h2⟩:=hps x hx
   exact ⟨x,a,b,rfl,h1,h2⟩
  refine @zmr (skT H g) X.prog X.w _ _ s1 _ _ (by simpa using hz) (fun h2 A E h' Q hk hq=>zyc (s:={ s1 with heap:=h' }) (ht.keep hk) hok h2 hq) (fun A E h' hk=>ltT (s:={ s1 with heap:=h' }) (ht.keep hk)) hok fun out h' o1 o2 k2 he=>?_
  obtain ⟨e,he⟩:=he
  obtain ⟨ps',hps'⟩:∃ps':List Addr,out.toList=ps'.map Value.ref:=by
   have:∀l:List Value,(∀v∈l,v∈ps.map Value.ref)->∃ps':List Addr,l=ps'.map Value.ref:=by
    intro l
    induction l with
    | nil=>exact fun _=>⟨[],rfl⟩
    | cons v r ih=>
     intro hl
     obtain ⟨ps',e⟩:=ih fun v hv=>hl v (ZA4 _ hv)
     obtain ⟨x,_,e1⟩:=ZBr.mp (hl v ZA5)
     exact ⟨x::ps',by rw [ZBf,e,e1]⟩
   exact this _ fun v hv=>o1.mem_iff.mp hv
  rw [hps'] at o1 o2
  have hinj:Function.Injective Value.ref:=fun a b e=>by cases e;rfl
  have hpm:ps'.Perm ps:=by
   have:=o1.map (fun v:Value=>match v with | .ref a=>a | _=>0)
   simpa [List.map_map,Function.comp_def] using this
  have fr:H s1.heap.objs.size=none:=I1.hok.fresh (ZAw _)
  refine ⟨.ref s1.heap.objs.size,_,I1.laid (t':=s1.toks) k2 (ZAw _) (show zcl X.prog X.w _ h' _ (.lst (ps'.map V.ref)) from ⟨?_,out.toList,e,by rw [hps'];exact zj5 ps',by rw [he]⟩),rfl,q _ _ fr hpm ?_⟩
  ·rw [ZAu,hpm.length_eq];exact hz
  ·rw [List.pairwise_map] at o2;exact o2
end
open PySem PySem.Spec PyProof.Rows
def zx5:V->Option Int->Option Int->Hp->VK->Prop:=fun x lo hi H Q=>∃a xs,x=.ref a/\H a=some (.tup xs)/\
 ¬(HT.sIx xs.length 0 lo=0/\HT.sIx xs.length xs.length hi=xs.length)/\∀p,H p=none->Q (.ref p) (upd H p (.tup (zoc xs lo hi)))
theorem zud {X:Cx}:SlR X zx5:=by
 intro pins s σ H x v vl vu lo hi sl Q I rx hs pl pu h
 obtain ⟨a,xs,e,h1,h2,q⟩:=h
 exact zms pins s σ H x v vl vu lo hi sl Q I rx hs pl pu ⟨a,xs,e,SqT.of h1,h2,q⟩
end L2
namespace Y0
open PySem L2
seal L2.PE L2.PA L2.PT L2.PS L2.PSs L2.PG L2.PGs L2.PI L2.PO
abbrev Tri:=Nat×Nat×Int
def zdc (H:Hp) (q:Addr) (x:Tri):Prop:=H q=some (tri x.1 x.2.1 x.2.2)
theorem zdc.same {H H':Hp} {q:Addr} {x:Tri} (h:zdc H q x) (s:zbe H H'):zdc H' q x:=s _ _ h
def ztt (H:Hp) (q:Addr):Tri:=match H q with
 | some (.tup [.int a,.int b,.int v])=>(a.toNat,b.toNat,v)
 | _=>(0,0,0)
theorem zqw {H:Hp} {q:Addr} {x:Tri} (h:zdc H q x):ztt H q=x:=by
 unfold ztt
 rw [h]
 obtain ⟨a,b,v⟩:=x
 rfl
theorem zmk {H:Hp}:∀{ps:List Addr} {L:List Tri},Paired (zdc H) ps L->L=ps.map (ztt H)
 | _,_,.nil=>rfl
 | _,_,.cons r t=>by rw [ZBf,<-zmk t,zqw r]
theorem zoy {H:Hp}:∀{ps:List Addr},(∀q∈ps,zdc H q (ztt H q))->Paired (zdc H) ps (ps.map (ztt H))
 | [],_=>.nil
 | q::ps,h=>.cons (h q ZA5) (zoy fun r hr=>h r (ZA4 _ hr))
theorem zi0 {α β:Type} {F:α->β->Prop}:∀{l:List α} {m:List β},Paired F l m->∀x∈l,∃y∈m,F x y
 | _,_,.nil,_,h=>nomatch h
 | _,_,.cons r t,x,h=>by
  rcases ZBe.mp h with rfl | h
  ·exact ⟨_,ZA5,r⟩
  ·obtain ⟨y,hy,ry⟩:=zi0 t x h
   exact ⟨y,ZA4 _ hy,ry⟩
def zup (st:MU.St) (t:Bool) (k:MU.Key):Option Tri:=if k.1=t then (MU.val st k).map fun v=>(k.2.1,k.2.2,v) else none
structure zon (st:MU.St) (t:Bool) (L:List Tri):Prop where
 up:L.Pairwise fun x y=>((x.1:Int)*64+x.2.1)<=((y.1:Int)*64+y.2.1)
 has:∀a b v,(a,b,v)∈L↔MU.val st (t,a,b)=some v
 once:(L.map fun x=>(x.1,x.2.1)).Nodup
def ztc (C:Addr):Sp:=fun vs H Q _=>∃(p be rl bd:Addr) (n:Nat) (F:MU.zaz) (st:MU.St) (t:Bool),vs=[.ref p,.str (zfz t)]/\Clo C H p be rl bd n F st/\MU.zdq n st/\n<=8/\st.rows.length<=16500000/\
 ∀l H' ps L,H l=none->zbe H H'->H' l=some (.lst (ps.map V.ref))->Paired (zdc H') ps L->zon st t L->Q (.ref l) H'
theorem zu5 {kvs:List (List Key×V)} (h:∀kv∈kvs,∃k:MU.Key,kv.1=zc5 k):∃ks:List MU.Key,kvs.map (·.1)=ks.map zc5:=by
 induction kvs with
 | nil=>exact ⟨[],rfl⟩
 | cons kv r ih=>
  obtain ⟨ks,e⟩:=ih fun kv hkv=>h kv (ZA4 _ hkv)
  obtain ⟨k,e1⟩:=h kv ZA5
  exact ⟨k::ks,by rw [ZBf,ZBf,e,e1]⟩
theorem zA8 {x:MU.zas}:zoc (zfp x) (some 1) none=[V.int (x.a:Int),V.int (x.b:Int),V.int x.v]:=by
 unfold zoc zfp
 rw [HT.sIx_none,show (some (1:Int))=some ((1:Nat):Int) from rfl,HT.sIx_nat]
 rfl
theorem zwq {x:MU.zas}:¬(HT.sIx (zfp x).length 0 (some 1)=0/\HT.sIx (zfp x).length (zfp x).length none=(zfp x).length):=fun z=>by
 have h:=z.1
 rw [show (some (1:Int))=some ((1:Nat):Int) from rfl,HT.sIx_nat] at h
 have e:(zfp x).length=4:=rfl
 rw [e] at h
 cases h
theorem zg8 {α β:Type} {f:α->β}:∀{l:List α},(l.map f).Nodup->l.Nodup
 | [],_=>List.nodup_nil
 | a::l,h=>by
  rw [ZBf,List.nodup_cons] at h
  exact List.nodup_cons.mpr ⟨fun z=>h.1 (List.mem_map_of_mem z),zg8 h.2⟩
theorem zye {a b:Bool}:decide (V.str (zfz a)=V.str (zfz b))=decide (a=b):=decide_eq_decide.mpr ⟨fun q=>zky (V.str.inj q),fun q=>by rw [q]⟩
theorem zAe:zam ["self","kind"] ["self","kind"] (zae sC_Closing_best_drawn):=scm
theorem zBh:zbw (zae sC_Closing_best_drawn) ["self","kind"] (fsc [(".0",.local),("key",.local),("kind",.free),("self",.free)]) ["key","kind","self"] [none,some 1,some 0]:=com
theorem zAv:(["key","kind","self"]:List Str).Nodup:=by decide+kernel
theorem ok_best {f C:Addr} {fd:FuncData} (F:Fun K "best_drawn" "Closing.best_drawn" sC_Closing_best_drawn f fd) (T:zhe K mg C) (hS:mg "sorted"=none):za3 P w K mg base CX0 1 f fd ["self","kind"] (ztc C):=by
 refine F.ok zAe (fun _ _ _ _ h=>?_) fun _ A _ s H _ Q E hr h=>?_
 ·obtain ⟨_,_,_,_,_,_,_,_,rfl,_⟩:=h
  rfl
 ·obtain ⟨p,be,rl,bd,n,Fa,st,t,rfl,c,g,h8,hlen,k⟩:=h
  have hu:=zei hr
  refine ⟨_,zad (zaq (zbs zlc (by rfl) hS PyProof.Rows.boot_sorted (pa1 (zpx (zcv rfl (zuq (zat (pv 0) rfl)) zBh (fun cl ex s0 H0=>⟨zci 0 zAv,zda (zcy zcf (ixT (pv 0)) (pv 1)),zf9 zud (ixT (zbj zal (zeg (K:=K) rfl (pv 2) rfl) (zcd hu (zeg (K:=K) rfl (pv 2) rfl) (pv 0) (fun _ _=>rfl)) (fun _ _=>rfl))) (zhw zaj) zhx⟩)))))),?_⟩
  obtain ⟨dx,hp⟩:=c.ins
  obtain ⟨qs,hrl,hrows⟩:=c.rows
  obtain ⟨kvs,hbd,hkl,hkv⟩:=c.best
  obtain ⟨ks,hks⟩:=zu5 hkl.2
  have hkn:kvs.length=ks.length:=by have:=congrArg List.length hks;simpa using this
  refine ⟨_,rfl,p,C,dx,_,_,rfl,hp,T.cl,T.nE,zfu,bd,kvs,rfl,hbd,fun hnd o Da hDa=>?_⟩
  rw [hks] at hnd
  have knd:ks.Nodup:=zg8 hnd
  have known:∀kk∈ks,∃j x,st.best kk=some j/\MU.wat st j=some x/\x.key=kk:=fun kk hk=>by
   have:(zel kvs (zc5 kk)).isSome=true:=by
    rw [<-zec]
    have hm:zc5 kk∈kvs.map (·.1):=by rw [hks];exact List.mem_map_of_mem hk
    obtain ⟨kv,h1,h2⟩:=ZBr.mp hm
    exact List.any_eq_true.mpr ⟨kv,h1,by simpa using h2⟩
   rw [hkv] at this
   cases hb:st.best kk with
   | none=>rw [hb] at this;cases this
   | some j=>
    obtain ⟨x,h1,h2⟩:=g.at_ _ _ hb
    exact ⟨j,x,rfl,h1,h2⟩
  have bdp:bd≠p:=zao hbd hp nofun
  have bdr:bd≠rl:=zao hbd hrl nofun
  have Dbd:Da≠bd:=fun z=>by rw [z,zab] at hDa;cases hDa
  have hDH:H Da=none:=by rwa [zaf Dbd] at hDa
  refine zq0 (a:=bd) (o:=o) (kvs:=kvs) (fun i σ' H'=>∃v ps L,σ'=[v,some (.str (zfz t)),some (.ref p)]/\H' Da=some (.lst (ps.map V.ref))/\Paired (zdc H') ps L/\L=(ks.take i).filterMap (zup st t)/\ps.length<=i/\H' bd=some (.frz o (.dT kvs))/\∀b x,H b=some x->b≠bd->H' b=some x)
   ⟨none,[],[],rfl,zab,.nil,rfl,ZBa _,by rw [zaf (ZAl Dbd),zab],fun b x e ne=>by rw [zaf (zaa e hDH),zaf ne];exact e⟩ ?_ ?_ ?_
  ·rintro i σ' H2 _ ⟨v,ps,L,rfl,_,_,_,_,e,_⟩
   exact e
  ·rintro i kx vx q σ' H2 hi hq ⟨v,ps,L,rfl,e2,hps,hL,hpl,eb,kp⟩
   obtain ⟨kk,hkk,rfl⟩:∃kk,ks[i]?=some kk/\kx=zc5 kk:=by
    have:=congrArg (fun l=>l[i]?) hks
    simp only [ZA0,hi] at this
    cases hk:ks[i]? with
    | none=>rw [hk] at this;cases this
    | some kk=>rw [hk] at this;exact ⟨kk,rfl,ZA7 this⟩
   have hil:i<ks.length:=(ZAv.mp hkk).1
   have et:ks.take (i+1)=ks.take i++[kk]:=by rw [ZBu,hkk];rfl
   obtain ⟨tt,a,b⟩:=kk
   obtain ⟨j,x,hbj,hx,hxk⟩:=known _ (ZA1 hkk)
   have hval:MU.val st (tt,a,b)=some x.v:=by unfold MU.val;rw [hbj];show (MU.wat st j).map _=_;rw [hx];rfl
   refine ⟨_,rfl,rdT hq rfl ⟨_,rfl,rfl,_,rfl,?_⟩⟩
   refine (show if decide (V.str (zfz tt)=V.str (zfz t))=true then _ else _ from ?_)
   rw [zye]
   by_cases ht:tt=t
   ·refine zep ht ?_
    obtain ⟨q',r,pw,pu,g1,g2,g3,g4,g5,g6⟩:=zjf hrows hx
    have hat:atI (qs.map V.ref) (j:Int)=some (.ref q'):=zb1 (by rw [ZA0,g1];rfl)
    have dg:zev H2 bd (.ref q) (some (.int (j:Int))):=.inr ⟨kvs,_,q,.inr ⟨o,eb⟩,rfl,hq,by rw [hkv,hbj];rfl⟩
    have tupk:∀{b:Addr} {xs:List V},H b=some (.tup xs)->H2 b=some (.tup xs):=fun e=>kp _ _ e (zao e hbd nofun)
    refine ⟨_,rfl,p,C,dx,_,_,rfl,kp _ _ hp (ZAl bdp),T.cl,T.nR,zgm,_,rfl,p,C,dx,_,_,rfl,kp _ _ hp (ZAl bdp),T.cl,T.nE,zfu,_,rfl,bd,_,rfl,dg,rl,_,_,_,rfl,rfl,kp _ _ hrl (ZAl bdr),hat,rdT (tupk g4) rfl ⟨_,rfl,pw,_,rfl,tupk g5,zwq,fun kt hkt=>?_⟩⟩
    rw [zA8]
    have hk2:=MU.zc4 hxk
    have e3:upd H2 kt (.tup [V.int (x.a:Int),V.int (x.b:Int),V.int x.v]) kt=some (.tup [V.int (x.a:Int),V.int (x.b:Int),V.int x.v]):=zab
    have s3:=zag (o:=.tup [V.int (x.a:Int),V.int (x.b:Int),V.int x.v]) hkt
    generalize upd H2 kt (.tup [V.int (x.a:Int),V.int (x.b:Int),V.int x.v])=H3 at*
    have e2':=s3 _ _ e2
    have nD:∀{b:Addr} {o:HO},H3 b=some o->o≠.lst (ps.map V.ref)->upd H3 Da (.lst (ps.map V.ref++[.ref kt])) b=some o:=fun {b o} e ne=>by rw [zaf (zao e e2' ne)];exact e
    have keep:∀b y,zdc H2 b y->zdc (upd H3 Da (.lst (ps.map V.ref++[.ref kt]))) b y:=fun b y e=>nD (s3 _ _ e) nofun
    refine ⟨_,e2',?_,_,ps++[kt],L++[(a,b,x.v)],rfl,?_,?_,?_,?_,?_,fun b' y e ne=>?_⟩
    ·rw [ZAu]
     have:=hkl.1
     exact Nat.lt_of_le_of_lt (show ps.length<=16500000 by lia) (by decide)
    ·rw [zab,ZA9]
     rfl
    ·refine zcj (zai hps keep) (.cons ?_ .nil)
     have:zdc H3 kt (a,b,x.v):=by
      unfold zdc tri
      rw [e3,hk2.2.1,hk2.2.2]
     exact nD this nofun
    ·rw [et,List.filterMap_append,hL]
     have:zup st t (tt,a,b)=some (a,b,x.v):=by
      unfold zup
      rw [if_pos ht,hval]
      rfl
     simp [this]
    ·rw [ZA3];show ps.length+1<=i+1;lia
    ·exact nD (s3 _ _ eb) nofun
    ·rw [zaf (zaa e hDH)]
     exact s3 _ _ (kp _ _ e ne)
   ·refine zct ht ⟨_,ps,L,rfl,e2,hps,?_,by lia,eb,kp⟩
    rw [et,List.filterMap_append,hL]
    have:zup st t (tt,a,b)=none:=if_neg ht
    simp [this]
  ·rintro σ' H2 ⟨v,ps,L,rfl,e2,hps,hL,hpl,eb,kp⟩
   refine ⟨bd,o,_,eb,fun o u z=>?_,?_⟩
   ·have z:H bd=some (.frz o u):=z
    rw [hbd] at z
    cases z
   have s3:zbe H (upd H2 bd (.dT kvs)):=fun b x e=>by
    by_cases hb:b=bd
    ·subst hb;rw [hbd] at e;cases e;exact zab
    ·rw [zaf hb];exact kp _ _ e hb
   have nb:∀{b:Addr} {x:HO},H2 b=some x->x≠.frz o (.dT kvs)->upd H2 bd (.dT kvs) b=some x:=fun {b x} e ne=>by rw [zaf (zao e eb ne)];exact e
   have e3:=nb e2 nofun
   have hps3:Paired (zdc (upd H2 bd (.dT kvs))) ps L:=zai hps fun b y e=>nb e nofun
   generalize upd H2 bd (.dT kvs)=H3 at*
   have hall:ks.take kvs.length=ks:=by rw [hkn];exact ZBi
   rw [hall] at hL
   have inL:∀a b v,(a,b,v)∈L↔MU.val st (t,a,b)=some v:=fun a b v=>by
    rw [hL,List.mem_filterMap]
    constructor
    ·rintro ⟨kk,hk,e⟩
     unfold zup at e
     by_cases hkt:kk.1=t
     ·rw [if_pos hkt] at e
      cases hv:MU.val st kk with
      | none=>rw [hv] at e;cases e
      | some v'=>
       rw [hv] at e
       cases e
       obtain ⟨t',a',b'⟩:=kk
       cases hkt
       exact hv
     ·rw [if_neg hkt] at e;cases e
    ·intro hv
     have hb:∃j,st.best (t,a,b)=some j:=by
      unfold MU.val at hv
      cases hq:st.best (t,a,b) with
      | none=>rw [hq] at hv;cases hv
      | some j=>exact ⟨j,rfl⟩
     obtain ⟨j,hj⟩:=hb
     have:(zel kvs (zc5 (t,a,b))).isSome=true:=by rw [hkv,hj];rfl
     rw [<-zec] at this
     obtain ⟨kv,h1,h2⟩:=List.any_eq_true.mp this
     have hm:zc5 (t,a,b)∈ks.map zc5:=by rw [<-hks];exact ZBr.mpr ⟨kv,h1,by simpa using h2⟩
     obtain ⟨kk,h3,h4⟩:=ZBr.mp hm
     refine ⟨(t,a,b),zm8 h4▸h3,?_⟩
     unfold zup
     rw [if_pos rfl,hv]
     rfl
   have small:∀q∈ps,∃x∈L,zdc H3 q x/\x.1<8/\x.2.1<8:=fun q hq=>by
    obtain ⟨x,hx,hqx⟩:=zi0 hps3 q hq
    refine ⟨x,hx,hqx,?_⟩
    obtain ⟨a,b,v⟩:=x
    have hv:=(inL a b v).mp hx
    unfold MU.val at hv
    cases hq:st.best (t,a,b) with
    | none=>rw [hq] at hv;cases hv
    | some j=>
     obtain ⟨w',h1,h2⟩:=g.at_ _ _ hq
     have h3:=g.lt _ _ h1
     have h4:=MU.zc4 h2
     exact ⟨by show a<8;have:=h4.2.1;lia,by show b<8;have:=h4.2.2;lia⟩
   refine ⟨Da,ps,fun a b=>(MU.val st (t,a.toNat,b.toNat)).getD 0,rfl,e3,fun q hq=>?_,fun l ps' hl hpm hup=>?_⟩
   ·obtain ⟨⟨a,b,v⟩,hx,hqx,ha,hb⟩:=small q hq
    have ha:a<8:=ha
    have hb:b<8:=hb
    refine ⟨a,b,?_,by lia,by lia,by lia,by lia⟩
    show H3 q=some (tri a b ((MU.val st (t,((a:Int)).toNat,((b:Int)).toNat)).getD 0))
    rw [ZBx,ZBx,(inL a b v).mp hx]
    exact hqx
   ·have hlH:H l=none:=by
     cases q:H l with
     | none=>rfl
     | some x=>rw [s3 _ _ q] at hl;cases hl
    have s4:=zag (o:=.lst (ps'.map V.ref)) hl
    have hdec:∀q∈ps',zdc H3 q (ztt H3 q):=fun q hq=>by
     obtain ⟨x,_,hqx,_⟩:=small q (hpm.mem_iff.mp hq)
     rw [zqw hqx]
     exact hqx
    have hLp:(ps'.map (ztt H3)).Perm L:=by rw [zmk hps3];exact hpm.map _
    refine k l _ ps' (ps'.map (ztt H3)) hlH (s3.trans s4) zab (zai (zoy hdec) fun q x e=>e.same s4) ⟨?_,fun a b v=>?_,?_⟩
    ·rw [List.pairwise_map]
     refine List.Pairwise.imp_of_mem (fun {x y} hx hy e=>?_) hup
     rw [zj0 (hdec x hx),zj0 (hdec y hy)] at e
     exact e
    ·rw [hLp.mem_iff]
     exact inL a b v
    ·refine ((hLp.map _).nodup_iff).mpr ?_
     rw [hL]
     unfold List.Nodup
     rw [List.pairwise_map]
     refine List.Pairwise.filterMap _ (fun a a' hne b hb b' hb' e=>hne ?_) knd
     unfold zup at hb hb'
     by_cases h1:a.1=t
     ·by_cases h2:a'.1=t
      ·rw [if_pos h1] at hb
       rw [if_pos h2] at hb'
       cases hv:MU.val st a with
       | none=>rw [hv] at hb;cases hb
       | some v1=>
        cases hv':MU.val st a' with
        | none=>rw [hv'] at hb';cases hb'
        | some v2=>
         rw [hv] at hb
         rw [hv'] at hb'
         cases hb
         cases hb'
         have e:(a.2.1,a.2.2)=(a'.2.1,a'.2.2):=e
         exact Prod.ext (h1.trans h2.symm) e
      ·rw [if_neg h2] at hb';cases hb'
     ·rw [if_neg h1] at hb;cases hb
end Y0
namespace L2
open PySem PySem.Spec PyProof.Rows
theorem zq4:∀{bs:List Bool} {us:List Value} {i:Nat} {v:Value},zcc (bs.map V.bl) us->us[i]?=some v->∃b,bs[i]?=some b/\v=.bool b
 | [],_,i,v,h,e=>by cases h;simp at e
 | b::r,_,0,v,h,e=>by
  cases h with
  | cons q tl=>simp at e;subst e;exact ⟨b,rfl,q⟩
 | b::r,_,i+1,v,h,e=>by
  cases h with
  | cons q tl=>simp at e;simpa using zq4 tl e
section
variable {X:Cx}
theorem zlf (hc:X.calm=true):zik X (.builtin "all") (fun xs H Q=>∃(p:Addr) (bs:List Bool),xs=[.ref p]/\H p=some (.lst (bs.map V.bl))/\Q (.bl (bs.all id)) H):=by
 intro pins s σ H xs us Q I r h
 obtain ⟨p,bs,rfl,hp,q⟩:=h
 obtain ⟨u,rfl,ru⟩:=znr r
 obtain rfl:u=Value.ref p:=ru
 obtain ⟨hz,its,n,rv,e⟩:=I.hok p _ hp
 have hl:s.heap.IsList p its.toArray:=⟨_,e,rfl,n,rfl⟩
 have hlt:p<s.heap.objs.size:=ZBc e
 have hh:=I.ok.hd hc
 have hlen:its.length=bs.length:=by rw [<-rv.length,ZAu]
 refine call_all_walk (wpAny_pyIter_list hl ?_)
 refine ⟨s.heap.objs.size,[s.heap.objs.size,p],[s.heap.objs.size],its.toArray.size,_,_,fun i=>(bs[i]?).getD true,rfl,Walks.list (A:=X.A.in1) hh _ p (ZBj hlt) its.toArray,
  ⟨⟨_,ZBh _ rfl,rfl,rfl⟩,hl.push _⟩,fun i v s' Q' E' hP hQ=>?_,fun h' tk hk=>?_⟩
 ·obtain ⟨b,e,rfl⟩:=zq4 rv (by simpa using hP)
  simp only [e,Option.getD_some] at hQ
  exact wpAny_truthy_bool hQ
 ·have e:((List.range its.toArray.size).all fun i=>(bs[i]?).getD true)=bs.all id:=by
   rw [ZA2,hlen];exact PyProof.Rows.LSm.range_all bs
  rw [e]
  exact ⟨.bl (bs.all id),H,I.kept (PyProof.Rows.LSm.kept_iter hk),rfl,q⟩
end
end L2
namespace Y0
open PySem L2
def zr1 (N:Nat) (F:List (List Int)):List Int:=((List.range N).filter fun (i:Nat)=>decide (¬(i:Int)∈F.map zl6)).map fun (i:Nat)=>(i:Int)
def zv8 (C:Addr):Sp:=fun vs H Q _=>∃(p:Addr) (N:Nat) (la:Int) (T F:List (List Int)),vs=[.ref p]/\ze8 C H p (N:Int) la T F/\zb4 (N:Int) la T F/\∀l H',H l=none->zbe H H'->H' l=some (.lst ((zr1 N F).map V.int))->Q (.ref l) H'
theorem zzb:zam ["self","ends"] ["self"] (zae sC_Web_own):=scm
theorem zyq:zbw (zae sC_Web_own) ["self","ends"] (fsc [(".0",.local),("fall",.local)]) ["fall"] [none]:=com
theorem zyp:zbw (zae sC_Web_own) ["self","ends"] (fsc [(".0",.local),("moment",.local),("ends",.free)]) ["moment","ends"] [none,some 1]:=com
theorem zAq:(["moment","ends"]:List Str).Nodup:=by decide+kernel
theorem zr0 {j:Nat} {F:List (List Int)}:zr1 (j+1) F=zr1 j F++(if (j:Int)∈F.map zl6 then [] else [(j:Int)]):=by
 unfold zr1
 rw [List.range_succ,List.filter_append,ZA9]
 by_cases e:(j:Int)∈F.map zl6
 ·rw [if_pos e,List.filter_cons_of_neg (by simpa using e)]
  rfl
 ·rw [if_neg e,List.filter_cons_of_pos (by simpa using e)]
  rfl
theorem zuu {j:Nat} {F:List (List Int)}:(zr1 j F).length<=j:=by
 unfold zr1
 rw [ZAu]
 exact ZBg (List.length_filter_le _ _) (Nat.le_of_eq List.length_range)
theorem ok_own {f C:Addr} {fd:FuncData} (F:Fun K "own" "Web.own" sC_Web_own f fd) (range:mg "range"=none) (TC:zom K mg C):za3 P w K mg base CX0 1 f fd ["self"] (zv8 C):=by
 refine F.ok zzb (fun _ _ _ _ h=>?_) fun _ A _ s H _ Q E hr h=>?_
 ·obtain ⟨p,_,_,_,_,rfl,_⟩:=h
  rfl
 ·obtain ⟨p,N,la,rT,rF,rfl,⟨dx,ta,fa,hp,_,⟨qs,R⟩⟩,hok,k⟩:=h
  have n8:=hok.n2
  refine ⟨_,zah (zem (i:=1) zzb.nd rfl (Or.inr rfl) (zcv rfl (za4 (zat (pv 0) rfl)) zyq (fun cl ex s0 H0=>⟨zci 0 nd1,zdn,zbj (zu6 (K:=K) rfl) (pv 0) zaj (fun _ _=>rfl)⟩)))
   (zad (zaq (zcv rfl (zcs rfl range (pa1 (zat (pv 0) rfl))) zyp (fun cl ex s0 H0=>⟨zci 0 zAq,zda (zfw (zkt (K:=K) rfl) (pv 0) (pv 1) (by with_unfolding_all rfl)),pv 0⟩)))),?_⟩
  refine ⟨_,rfl,p,C,dx,_,_,rfl,hp,TC.cl,TC.nF,zor _ _ _ _,fa,rfl,⟨_,SqL.of R.1⟩,fun Da hDa=>?_⟩
  refine zbv (xs:=qs.map V.ref) (fun j σ' H'=>∃v,σ'=[v]/\H' Da=some (.lst (((rF.take j).map zl6).map V.int))/\zbe H H') ⟨none,rfl,zab,zag hDa⟩ ?_ ?_ ?_
  ·rintro j σ' H1 _ ⟨v,rfl,_,s1⟩
   exact SqL.of (s1 _ _ R.1)
  ·rintro j x σ' H1 hx ⟨v,rfl,e1,s1⟩
   obtain ⟨q,r,rfl,hq,hr',hqt⟩:=R.get hx
   obtain ⟨a',b',l,m,rfl,_⟩:=hok.f r (ZA1 hr')
   refine ⟨_,rfl,_,_,_,_,rfl,rfl,SqT.of (s1 _ _ hqt),rfl,_,e1,?_,_,rfl,?_,fun b o e=>?_⟩
   ·rw [ZAu,ZAu,ZBl]
    have:=hok.fl
    exact zan (by lia)
   ·rw [zab,ZBu,hr',ZA9,ZA9]
    rfl
   ·rw [zaf (zaa e hDa)]
    exact s1 _ _ e
  ·rintro σ' H1 ⟨v,rfl,e1,s1⟩
   have hl:rF.take (qs.map V.ref).length=rF:=by
    rw [ZAu,R.len]
    exact ZBi
   rw [hl] at e1
   refine ⟨_,rfl,p,C,dx,_,_,rfl,s1 _ _ hp,TC.cl,TC.nM,zmi _ _ _ _,(N:Int),rfl,by lia,by lia,fun Db hDb=>?_⟩
   refine zeb (n:=((N:Nat):Int).toNat) (fun j σ' H'=>∃v,σ'=[v,some (.ref Da)]/\H' Db=some (.lst ((zr1 j rF).map V.int))/\zbe H1 H') ⟨none,rfl,zab,zag hDb⟩ ?_ ?_
   ·rintro j σ' H2 hj ⟨v,rfl,e2,s2⟩
    rw [ZBx] at hj
    have z0:(0:Int)+(j:Int)=(j:Int):=by lia
    rw [z0]
    refine ⟨_,rfl,_,rfl,Da,_,rfl,.inl (SqL.of (s2 _ _ e1)),rfl,ze5,_,rfl,?_⟩
    show if (!inV (V.int (j:Int)) ((rF.map zl6).map V.int))=true then _ else _
    rw [zfk,zr0]
    refine znb (fun hc=>?_) (fun hc=>?_)
    ·have hc':¬(j:Int)∈rF.map zl6:=by simpa using hc
     refine ⟨_,rfl,_,e2,?_,_,rfl,?_,fun b o e=>?_⟩
     ·rw [ZAu]
      exact zan (by have:=zuu (j:=j) (F:=rF);lia)
     ·rw [zab,if_neg hc',ZA9];rfl
     ·rw [zaf (zaa e hDb)];exact s2 _ _ e
    ·have hc':(j:Int)∈rF.map zl6:=by simpa using hc
     refine ⟨_,rfl,?_,s2⟩
     rw [if_pos hc',List.append_nil]
     exact e2
   ·rintro σ' H2 ⟨v,rfl,e2,s2⟩
    rw [ZBx] at e2
    exact k Db _ (s1.free hDb) (s1.trans s2) e2
end Y0
namespace HD
abbrev Tr:=Nat×Nat×Int
def cm (c:List (Option Int)) (i:Nat):Option Int:=(c[i]?).getD none
def tieL (c:List (Option Int)) (now:Int) (co:List Nat) (b:Nat) (v:Int):Bool:=match cm c b with
 | some t=>decide (t<=now+v)
 | none=>decide (0<v) || (decide (v=0) && decide (b∈co))
def waitL (c:List (Option Int)) (now:Int) (F:MU.zaz) (e:Nat) (v:Int):Bool:=(cm c e).isSome || match F e with
 | some f=>match cm c f.1 with
  | some t=>decide (v<=now-t)
  | none=>false
 | none=>false
def lets (T M:List Tr) (F:MU.zaz) (c:List (Option Int)) (now:Int) (m:Nat) (co:List Nat):Bool:=
 (T.filter fun x=>decide (x.1=m)).all (fun x=>tieL c now co x.2.1 x.2.2) && (M.filter fun x=>decide (x.1=m)).all fun x=>waitL c now F x.2.1 x.2.2
def step (T M:List Tr) (F:MU.zaz) (c:List (Option Int)) (now:Int) (l:List Nat):List Nat:=l.filter fun m=>lets T M F c now m l
def iter (f:List Nat->List Nat):Nat->List Nat->List Nat
 | 0,l=>l
 | k+1,l=>iter f k (f l)
theorem iter_succ (f:List Nat->List Nat):∀(k:Nat) (l:List Nat),iter f (k+1) l=f (iter f k l)
 | 0,_=>rfl
 | k+1,l=>iter_succ f k (f l)
theorem zjt (f:List Nat->List Nat):∀(j k:Nat) (l:List Nat),iter f (j+k) l=iter f j (iter f k l)
 | j,0,l=>rfl
 | j,k+1,l=>zjt f j k (f l)
theorem zhr {f:List Nat->List Nat} {l:List Nat} (h:f l=l):∀k,iter f k l=l
 | 0=>rfl
 | k+1=>by rw [iter_succ,zhr h k,h]
section
variable {T M:List Tr} {F:MU.zaz} {c:List (Option Int)} {now:Int}
theorem step_len (l:List Nat):(step T M F c now l).length<=l.length:=List.length_filter_le _ _
theorem step_same {l:List Nat} (h:(step T M F c now l).length=l.length):step T M F c now l=l:=List.filter_sublist.eq_of_length h
theorem fix_at:∀(k:Nat) (l:List Nat),l.length<=k->step T M F c now (iter (step T M F c now) k l)=iter (step T M F c now) k l
 | 0,l,h=>by
  have e:l=[]:=List.length_eq_zero_iff.mp (by lia)
  subst e
  rfl
 | k+1,l,h=>by
  show step T M F c now (iter (step T M F c now) k (step T M F c now l))=iter (step T M F c now) k (step T M F c now l)
  by_cases e:(step T M F c now l).length=l.length
  ·have e:=step_same e
   rw [e,zhr e k,e]
  ·have:=step_len (T:=T) (M:=M) (F:=F) (c:=c) (now:=now) l
   exact fix_at k _ (by lia)
theorem fix_any {j k:Nat} {l:List Nat} (hj:step T M F c now (iter (step T M F c now) j l)=iter (step T M F c now) j l) (hk:step T M F c now (iter (step T M F c now) k l)=iter (step T M F c now) k l):iter (step T M F c now) j l=iter (step T M F c now) k l:=by
 have h1:iter (step T M F c now) (j+k) l=iter (step T M F c now) k l:=by rw [zjt,zhr hk]
 have h2:iter (step T M F c now) (k+j) l=iter (step T M F c now) j l:=by rw [zjt,zhr hj]
 rw [<-h2,Nat.add_comm,h1]
theorem mem_iter:∀(k:Nat) (l:List Nat),∀m∈iter (step T M F c now) k l,m∈l
 | 0,_,_,h=>h
 | k+1,l,m,h=>(List.mem_filter.mp (mem_iter k _ m h)).1
end
def setAll (l:List Nat) (t:Int) (c:List (Option Int)):List (Option Int):=l.foldl (fun c e=>c.set e (some t)) c
theorem setAll_len (t:Int):∀(l:List Nat) (c:List (Option Int)),(setAll l t c).length=c.length
 | [],_=>rfl
 | e::l,c=>by
  show (setAll l t (c.set e (some t))).length=_
  rw [setAll_len t l,List.length_set]
theorem setAll_append {l m:List Nat} {t:Int} {c:List (Option Int)}:setAll (l++m) t c=setAll m t (setAll l t c):=List.foldl_append
theorem zw4 {c:List (Option Int)} {e i:Nat} {o:Option Int} (h:e<c.length):cm (c.set e o) i=if i=e then o else cm c i:=by
 unfold cm
 by_cases c1:i=e
 ·subst c1
  rw [if_pos rfl,List.getElem?_set_self h]
  rfl
 ·rw [if_neg c1,List.getElem?_set_ne (fun z=>c1 z.symm)]
theorem cm_setAll {t:Int} {i:Nat}:∀{l:List Nat} {c:List (Option Int)},(∀e∈l,e<c.length)->cm (setAll l t c) i=if i∈l then some t else cm c i
 | [],_,_=>by rw [if_neg nofun];rfl
 | e::l,c,h=>by
  show cm (setAll l t (c.set e (some t))) i=_
  rw [cm_setAll fun x hx=>by rw [List.length_set];exact h x (ZA4 _ hx),zw4 (h e ZA5)]
  by_cases c1:i∈l
  ·rw [if_pos c1,if_pos (ZA4 _ c1)]
  ·rw [if_neg c1]
   by_cases c2:i=e
   ·rw [if_pos c2,if_pos (by rw [c2];exact ZA5)]
   ·rw [if_neg c2,if_neg fun z=>by rcases ZBe.mp z with y | y;exact c2 y;exact c1 y]
end HD
namespace L2
open PySem PySem.Spec PyProof.Rows
def Itm (a:Addr) (o:Obj) (kvs:List (Key×V)):It:=
 ⟨fun i H=>H a=some (.frz o (.dK kvs))/\i<kvs.length,fun i H x H'=>H'=H/\∃k v,x=kV k/\kvs[i]?=some (k,v),fun i H=>H a=some (.frz o (.dK kvs))/\kvs.length<=i⟩
theorem zrz {P:Program} {w:World} {es:List DictEntry} {vs:List (Key×Value)} (h:Pairs (zcq P w) es vs):∀{i:Nat} {x:Key×Value},vs[i]?=some x->∃e,es[i]?=some e/\zk0 x.1 e.key=true:=by
 induction h with
 | nil=>intro i x hx;simp at hx
 | cons h1 h2 _ ih=>
  intro i x hx
  cases i with
  | zero=>simp at hx;subst hx;exact ⟨_,rfl,h1⟩
  | succ i=>simpa using ih (by simpa using hx)
theorem zk4 {X:Cx} {pins:List (Addr×Obj)} {σ:St} {H:Hp} {s:Shared} {a:Addr} {o:Obj} {kvs:List (Key×V)} {es:Array DictEntry} {ep:Nat} (I:Inv X pins σ H s) (h:H a=some (.frz o (.dK kvs))) (hd:o.data=.dict es ep):
 s.heap.get? a=some o/\es.size=kvs.length/\∀(i:Nat) (k:Key) (v:V),kvs[i]?=some (k,v)->∃(e:DictEntry),es[i]?=some e/\zcr (kV k) e.key:=by
 obtain ⟨ho,_,_,vs,hp,o',es',ep',ho',hc,hd',he,hpr,hn⟩:=(show zcl X.prog X.w H s.heap a (.frz o (.dK kvs)) from I.hok a _ h)
 rw [ho] at ho'
 cases ho'
 rw [hd] at hd'
 cases hd'
 refine ⟨ho,?_,fun i k v hx=>?_⟩
 ·rw [<-ZAj,hpr.length,<-Paired.length hp]
 ·obtain ⟨x,hx',r1,r2⟩:=zh0 hp hx
  obtain ⟨e,he,hk⟩:=zrz hpr hx'
  refine ⟨e,by rw [<-Array.getElem?_toList];exact he,?_⟩
  have r1:k=x.1:=r1
  rw [<-r1] at hk
  rcases zbp hk with ⟨i,t,rfl,e⟩ | ⟨y,t,rfl,e⟩
  ·exact ⟨t,e⟩
  ·exact ⟨t,e⟩
theorem znw {P:Program} {w:World} {K:ZCa} {tg:Expr} (a it:Addr) (o:Obj) (kvs:List (Key×V)) {es:Array DictEntry} {ep:Nat} (hd:o.data=.dict es ep):
 ztv P w K tg (Itm a o kvs) [it] it (fun i h=>h.IsKeyIter it a i es.size ep) where
 mem:=by simp
 obj:=fun i h st b hb=>by
  have e:b=it:=by simpa using hb
  subst e
  obtain ⟨o,e,c,d⟩:=st
  exact ⟨o,e,fun v z=>by rw [d] at z;cases z⟩
 keep:=fun i h h' st k=>st.at fun o e=>k it (by simp) o e
 item:=by
  intro X hP hw hK hc i pins s σ H E I hf st hg
  subst hP hw hK
  obtain ⟨hfz,hi⟩:=hg
  obtain ⟨ho,hsz,hat⟩:=zk4 I hfz hd
  obtain ⟨⟨k,v⟩,hx⟩:∃p,kvs[i]?=some p:=⟨kvs[i],by simp [hi]⟩
  obtain ⟨e,he,hk⟩:=hat i k v hx
  obtain ⟨f0,f1,f2,f3,f4,f5⟩:=hf it (by simp)
  refine zmx st ho hd he fun h' st' sb=>?_
  have I1:Inv X pins σ H { s with heap:=h' }:=I.turned (t':=s.toks) (fun b o hb e=>(sb.2 b hb).trans e) f0 f1 f3 f4 f5
  exact ⟨_,rfl,letGo_keyiter (s':={ s with heap:=h' }) st' ⟨kV k,H,I1,hk,⟨rfl,k,v,rfl,hx⟩,st',fun b hb=>(hf b hb).1⟩⟩
 done:=by
  intro X hP hw hK hc i pins s σ H E I hf st hg
  subst hP hw hK
  obtain ⟨hfz,hi⟩:=hg
  obtain ⟨ho,hsz,_⟩:=zk4 I hfz hd
  obtain ⟨f0,f1,f2,f3,f4,f5⟩:=hf it (by simp)
  exact zpo (zn8 hc I) st ho hd (by omega) fun h' eb=>⟨rfl,I.turned (t':=s.toks) (fun b o hb e=>eb b o hb e) f0 f1 f3 f4 f5⟩
 self:=fun _ _ _ _ _ st h=>wpAny_pyIter_keyiter st h
section
variable {X:Cx} {tg:Expr}
def zwz (td:TE):TI:=fun σ H R=>td σ H fun x H1=>∃a kvs,x=.ref a/\H1 a=some (.dK kvs)/\((kvs.map (·.1)).Nodup->∀o,R (Itm a o kvs) (upd H1 a (.frz o (.dK kvs))))
theorem zrv {d:Expr} {td:TE} (hl:PE X d td):PI X tg d (zwz td):=by
 intro pins s σ H R I h
 refine thn (hl pins s σ H _ I h) fun v s1 zz=>?_
 obtain ⟨x,H1,I1,r1,q1⟩:=zz
 obtain ⟨a,kvs,e,hq,q⟩:=q1
 subst e
 cases r1
 obtain ⟨_,hs,vs,hp,o,es,ep,ho,hc,hd,he,hpr,hn⟩:=(show zcl X.prog X.w H1 s1.heap a (.dK kvs) from I1.hok a _ hq)
 have hnd:(kvs.map (·.1)).Nodup:=by rw [zfy hp fun _ _ z=>z.1];exact hn
 refine zmy hs ho hc hd ?_
 have I2:=I1.freeze hq trivial ho
 refine ⟨s1.heap.objs.size,[s1.heap.objs.size],_,_,_,rfl,I2.kept (t':=s1.toks) fun b o e=>ZAy _ e,znw a _ o kvs hd,⟨_,ZBh _ rfl,rfl,rfl⟩,fun b hb=>?_,q hnd o⟩
 have e:b=s1.heap.objs.size:=by simpa using hb
 subst e
 exact I2.fpOk (ZAw _) (I2.hok.fresh (ZAw _))
end
theorem zqo {a:Addr} {o:Obj} {kvs:List (Key×V)} {g:TG} {tb:TS} {D:zrd} {σ:St} {H:Hp} (Pv:Nat->St->Hp->Prop) (h0:Pv 0 σ H) (hl:∀i σ H,i<=kvs.length->Pv i σ H->H a=some (.frz o (.dK kvs)))
 (hs:∀i k v σ H,kvs[i]?=some (k,v)->Pv i σ H->g (kV k) σ H fun σ2 H2=>tb { D with nx:=Pv (i+1),ct:=Pv (i+1),bk:=D.nx } σ2 H2) (hd:∀σ H,Pv kvs.length σ H->D.nx σ H):
 ∃W:Nat->Nat->St->Hp->Prop,(∃m,W 0 m σ H)/\∀i m σ H,W i m σ H->
  ((Itm a o kvs).stop i H/\D.nx σ H)\/((Itm a o kvs).go i H/\∃N:St->Hp->Prop,(∀σ' H',N σ' H'->∃m',m'<m/\W (i+1) m' σ' H')/\∀x H',(Itm a o kvs).yld i H x H'->g x σ H' fun σ2 H2=>tb { D with nx:=N,ct:=N,bk:=D.nx } σ2 H2):=by
 refine ⟨fun i m σ H=>m=kvs.length-i/\i<=kvs.length/\Pv i σ H,⟨kvs.length,by simp,ZBa _,h0⟩,?_⟩
 rintro i m σ H ⟨rfl,hi,p⟩
 have q:=hl i σ H hi p
 by_cases hlt:i<kvs.length
 ·refine .inr ⟨⟨q,hlt⟩,Pv (i+1),fun σ' H' p'=>⟨kvs.length-(i+1),by lia,rfl,hlt,p'⟩,fun x H' y=>?_⟩
  obtain ⟨e,k,v,rfl,hx⟩:=y
  subst e
  exact hs i k v σ _ hx p
 ·have e:i=kvs.length:=by lia
  subst e
  exact .inl ⟨⟨q,ZAw _⟩,hd σ H p⟩
def Itd (hi:Int) (n:Nat):It:=⟨fun i _=>i<n,fun i H x H'=>H'=H/\x=.int (hi-i),fun i _=>n<=i⟩
theorem zji {prog:Program} {w:World} {A:Around} {E:Value->Shared->Prop} {s:Shared} {it:Addr} {lo:Int} {i n:Nat} {Q:Option Value->Shared->Prop} (hi:i<n) (st:IsRangeIter s.heap it (lo-(i:Nat)) ((n:Int)-(i:Nat)) (-1))
 (hQ:∀(t:Tok) h' tk,IsRangeIter h' it (lo-((i+1:Nat):Int)) ((n:Int)-((i+1:Nat):Int)) (-1)->(∀b o,b∉[it]->s.heap.get? b=some o->h'.get? b=some o)->Q (some (.int (lo-(i:Nat)) t)) { s with heap:=h',toks:=tk }):
 wpAny (model prog w) A (pyNext (.ref it)) Q E s:=by
 refine wpAny_pyNext_range_item st (by lia) fun h' st' sb=>?_
 refine hQ _ h' _ ?_ fun b o hb e=>sb.extBut b o (fun z=>hb (by simp [z])) e
 have e1:lo-((i+1:Nat):Int)=lo-(i:Int)+ -1:=by lia
 have e2:(n:Int)-((i+1:Nat):Int)=(n:Int)-(i:Int)-1:=by lia
 rw [e1,e2]
 exact st'
theorem zow {P:Program} {w:World} {K:ZCa} {tg:Expr} (it:Addr) (lo:Int) (n:Nat):ztv P w K tg (Itd lo n) [it] it (fun i h=>IsRangeIter h it (lo-(i:Nat)) ((n:Int)-(i:Nat)) (-1)) where
 mem:=by simp
 obj:=fun i h st b hb=>by
  have e:b=it:=by simpa using hb
  subst e
  exact ⟨_,st,fun v z=>by
   have z':Data.fields _=Data.cell v:=z
   cases z'⟩
 keep:=fun i h h' st k=>k it (by simp) _ st
 item:=by
  intro X hP hw hK hc i pins s σ H E I hf st hg
  subst hP hw hK
  obtain ⟨f0,f1,f2,f3,f4,f5⟩:=hf it (by simp)
  refine zji hg st fun t h' tk st' kk=>?_
  have I1:Inv X pins σ H { s with heap:=h',toks:=tk }:=I.turned (fun b o hb e=>kk b o (by simpa using hb) e) f0 f1 f3 f4 f5
  exact ⟨_,rfl,zsf (s:={ s with heap:=h',toks:=tk }) (n:="range_iterator") st' rfl rfl (by decide) ⟨.int (lo-i),H,I1,⟨t,rfl⟩,⟨rfl,rfl⟩,st',fun b hb=>(hf b hb).1⟩⟩
 done:=by
  intro X hP hw hK hc i pins s σ H E I hf st hg
  subst hP hw hK
  obtain ⟨f0,f1,f2,f3,f4,f5⟩:=hf it (by simp)
  exact zg2 (zn8 hc I) st (by have:n<=i:=hg;lia) fun h' eb=>⟨rfl,I.turned (t':=s.toks) (fun b o hb e=>eb b o hb e) f0 f1 f3 f4 f5⟩
 self:=fun _ _ _ _ _ st h=>wpAny_pyIter_rangeiter st h
theorem zsh {lo:Int} {n:Nat} {g:TG} {tb:TS} {D:zrd} {σ:St} {H:Hp} (Pv:Nat->St->Hp->Prop) (h0:Pv 0 σ H)
 (hs:∀i σ H,i<n->Pv i σ H->g (.int (lo-i)) σ H fun σ2 H2=>tb { D with nx:=Pv (i+1),ct:=Pv (i+1),bk:=D.nx } σ2 H2) (hd:∀σ H,Pv n σ H->D.nx σ H):
 ∃W:Nat->Nat->St->Hp->Prop,(∃m,W 0 m σ H)/\∀i m σ H,W i m σ H->
  ((Itd lo n).stop i H/\D.nx σ H)\/((Itd lo n).go i H/\∃N:St->Hp->Prop,(∀σ' H',N σ' H'->∃m',m'<m/\W (i+1) m' σ' H')/\∀x H',(Itd lo n).yld i H x H'->g x σ H' fun σ2 H2=>tb { D with nx:=N,ct:=N,bk:=D.nx } σ2 H2):=by
 refine ⟨fun i m σ H=>m=n-i/\i<=n/\Pv i σ H,⟨n,by simp,ZBa _,h0⟩,?_⟩
 rintro i m σ H ⟨rfl,hi,p⟩
 by_cases hlt:i<n
 ·refine .inr ⟨hlt,Pv (i+1),fun σ' H' p'=>⟨n-(i+1),by lia,rfl,hlt,p'⟩,fun x H' y=>?_⟩
  obtain ⟨e,y⟩:=y
  subst e y
  exact hs i σ _ hlt p
 ·have e:i=n:=by lia
  subst e
  exact .inl ⟨ZAw _,hd σ H p⟩
theorem zph (n:Nat):Builtin.Range.rangeSize ((n:Int)-1) (-1) (-1)=(n:Int):=by
 unfold Builtin.Range.rangeSize
 rw [if_neg (by decide)]
 by_cases h:0<n
 ·rw [if_pos (by lia)]
  show ((n:Int)-1- -1-1) / 1+1=n
  rw [Int.ediv_one]
  lia
 ·rw [if_neg (by lia)]
  lia
theorem zrn {n:Nat} (h:n<=20000000):Builtin.Range.small ((n:Int)-1) (-1) (-1)=true:=by
 unfold Builtin.Range.small
 rw [zph]
 simp [Builtin.Range.rangeFitsLong]
 lia
section
variable {X:Cx} {tg:Expr}
def iDn (ta:TA):TI:=fun σ H R=>ta σ H fun vs H1=>∃n:Nat,vs=[.int ((n:Int)-1),.int (-1),.int (-1)]/\n<=20000000/\R (Itd ((n:Int)-1) n) H1
theorem zpu {a b c:Expr} {ta:TA} {p pos:Pos} (hg:Gl X "range") (hm:X.mg "range"=none) (ha:PA X [a,b,c] ta) (hs:starEach [a,b,c] X.env=[(false,eval a X.env),(false,eval b X.env),(false,eval c X.env)]:=by rfl) (hs2:starEach [b,c] X.env=[(false,eval b X.env),(false,eval c X.env)]:=by rfl):
 PI X tg (.Call (.Name "range" p) [a,b,c] [] pos) (iDn ta):=by
 intro pins s σ H R I h
 refine Call_ (zkx I hg hm boot_range (PyProof.Rows.callWith_type1 (thn (ha pos pins s σ H _ I h) fun us s1 zz=>?_) (by rw [hs,hs2]) (by rw [hs2];rfl)))
 obtain ⟨vs,H1,I1,r1,q1⟩:=zz
 obtain ⟨n,e,hn,q⟩:=q1
 subst e
 cases r1 with
 | cons r rr=>
  cases rr with
  | cons r' rr=>
   cases rr with
   | cons r'' rr=>
    cases rr
    obtain ⟨t,rfl⟩:=r
    obtain ⟨t',rfl⟩:=r'
    obtain ⟨t'',rfl⟩:=r''
    refine call_range_3 (by decide) ?_ (Or.inl (PyProof.noPylong_small (by lia)))
    refine wpAny_pyIter_range (IsRange.new ..) (zrn hn) ?_
    have I2:Inv X pins σ H1 { s1 with heap:=s1.heap.push { cls:=.type "range",data:=.fields #[.int ((n:Int)-1) t,.int (-1) t',.int (-1) t''] },toks:=s1.toks }:=I1.kept fun b o e=>ZAy _ e
    refine ⟨(s1.heap.push { cls:=.type "range",data:=.fields #[.int ((n:Int)-1) t,.int (-1) t',.int (-1) t''] }).objs.size,[(s1.heap.push { cls:=.type "range",data:=.fields #[.int ((n:Int)-1) t,.int (-1) t',.int (-1) t''] }).objs.size],_,_,H1,rfl,
     I2.kept (t':=s1.toks) fun b o e=>ZAy _ e,zow _ ((n:Int)-1) n,?_,fun b hb=>?_,q⟩
    ·show IsRangeIter _ _ (((n:Int)-1)-((0:Nat):Int)) ((n:Int)-((0:Nat):Int)) (-1)
     rw [show ((n:Int)-1)-((0:Nat):Int)=(n:Int)-1 by lia,show (n:Int)-((0:Nat):Int)=Builtin.Range.rangeSize ((n:Int)-1) (-1) (-1) by rw [zph];lia]
     exact ZBh _ rfl
    ·have e:b=(s1.heap.push { cls:=.type "range",data:=.fields #[.int ((n:Int)-1) t,.int (-1) t',.int (-1) t''] }).objs.size:=by simpa using hb
     subst e
     exact I2.fpOk (ZAw _) (I2.hok.fresh (ZAw _))
end
section
variable {prog:Program} {w:World} {A:Around} {E:Value->Shared->Prop} {s:Shared}
end
section
variable {X:Cx} {tg:Expr}
theorem zha:∀{ns:List Int} {us:List Value},zcc (ns.map V.int) us->IntsAre us ns
 | [],us,h=>by cases h;exact .nil
 | n::r,us,h=>by
  cases h with
  | cons q tl=>
   obtain ⟨tk,rfl⟩:=q
   exact .cons _ _ (zha tl)
end
theorem zr4 {X:Cx}:MtM X "list.count" (fun x vs H Q=>∃(p:Addr) (ns:List Int) (k:Int),x=.ref p/\vs=[.int k]/\H p=some (.lst (ns.map V.int))/\Q (.int (ns.count k:Nat)) H):=by
 intro pins s σ H x vs v us Q I rx rv h
 obtain ⟨p,ns,k,rfl,rfl,hp,q⟩:=h
 cases rx
 obtain ⟨u,rfl,t,rfl⟩:=rv.one
 obtain ⟨its,r,pl,_⟩:=I.list (SqL.of hp)
 exact count_list_ints pl.isList (zha r) ⟨.int _,H,I.tok _,⟨_,rfl⟩,q⟩
end L2
namespace Y0
open PySem L2
seal L2.PE L2.PA L2.PT L2.PS L2.PSs L2.PG L2.PGs L2.PI L2.PO
structure zol (K:ZCa) (mg:Str->Option Value) (C:Addr):Prop where
 cl:Cls K C
 nT:zco K C "rule_ties"
 nW:zco K C "rule_waits"
 nB:zco K C "by_end"
 nO:zco K C "own_moments"
 nC:zco K C "came"
 nN:zco K C "now"
def zf0 (lt lw be ow ca:Addr) (now:Int):List (Str×V):=[("rule_ties",.ref lt),("rule_waits",.ref lw),("by_end",.ref be),("own_moments",.ref ow),("came",.ref ca),("now",.int now)]
section
variable {lt lw be ow ca:Addr} {now:Int}
theorem h_t:(zf0 lt lw be ow ca now).lookup ("rule_ties":Str)=some (.ref lt):=by with_unfolding_all rfl
theorem h_w:(zf0 lt lw be ow ca now).lookup ("rule_waits":Str)=some (.ref lw):=by with_unfolding_all rfl
theorem h_b:(zf0 lt lw be ow ca now).lookup ("by_end":Str)=some (.ref be):=by with_unfolding_all rfl
theorem h_o:(zf0 lt lw be ow ca now).lookup ("own_moments":Str)=some (.ref ow):=by with_unfolding_all rfl
theorem h_c:(zf0 lt lw be ow ca now).lookup ("came":Str)=some (.ref ca):=by with_unfolding_all rfl
theorem h_n:(zf0 lt lw be ow ca now).lookup ("now":Str)=some (.int now):=by with_unfolding_all rfl
theorem zyk {v:Int}:zav "now" (.int v) (zf0 lt lw be ow ca now)=zf0 lt lw be ow ca v:=by with_unfolding_all rfl
end
def znp (H:Hp) (d:Addr) (F:MU.zaz):Prop:=∃kvs:List (Key×V),Rd H d (.dK kvs)/\(kvs.length<=100/\∀kv∈kvs,∃e:Nat,kv.1=Sum.inl (e:Int))/\(∀e:Nat,F e=none->zel kvs (.inl (e:Int))=none)/\∀(e:Nat) f,F e=some f->∃p,zel kvs (.inl (e:Int))=some (.ref p)/\H p=some (.tup [.int (f.1:Int),.int f.2.1,.int f.2.2])
theorem Rd.same {H H':Hp} {a:Addr} {u:HO} (h:Rd H a u) (s:zbe H H'):Rd H' a u:=by
 rcases h with h | ⟨o,h⟩
 ·exact .inl (s _ _ h)
 ·exact .inr ⟨o,s _ _ h⟩
theorem znp.same {H H':Hp} {d:Addr} {F:MU.zaz} (h:znp H d F) (s:zbe H H'):znp H' d F:=by
 obtain ⟨kvs,h1,h2,h3,h4⟩:=h
 refine ⟨kvs,Rd.same h1 s,h2,h3,fun e f hf=>?_⟩
 obtain ⟨p,q1,q2⟩:=h4 e f hf
 exact ⟨p,q1,s _ _ q2⟩
def ov:Option Int->V
 | none=>.non
 | some t=>.int t
structure zc0 (C:Addr) (H:Hp) (p lt lw be ow ca:Addr) (F:MU.zaz) (T M:List Tri) (own:List Nat) (c:List (Option Int)) (now:Int):Prop where
 ins:∃dx,H p=some (.ins C dx (zf0 lt lw be ow ca now))
 ties:∃ps,H lt=some (.lst (ps.map V.ref))/\Paired (zdc H) ps T
 waits:∃ps,H lw=some (.lst (ps.map V.ref))/\Paired (zdc H) ps M
 falls:znp H be F
 own:H ow=some (.lst (own.map fun i:Nat=>V.int (i:Int)))
 came:H ca=some (.lst (c.map ov))
theorem zc0.same {C p lt lw be ow ca:Addr} {H H':Hp} {F:MU.zaz} {T M:List Tri} {own:List Nat} {c:List (Option Int)} {now:Int} (h:zc0 C H p lt lw be ow ca F T M own c now) (s:zbe H H'):zc0 C H' p lt lw be ow ca F T M own c now:=by
 obtain ⟨⟨dx,h1⟩,⟨ps,h2,h3⟩,⟨qs,h4,h5⟩,h6,h7,h8⟩:=h
 exact ⟨⟨dx,s _ _ h1⟩,⟨ps,s _ _ h2,zai h3 fun q r e=>e.same s⟩,⟨qs,s _ _ h4,zai h5 fun q r e=>e.same s⟩,h6.same s,s _ _ h7,s _ _ h8⟩
theorem zc6 {c:List (Option Int)} {i:Nat} (h:i<c.length):atI (c.map ov) (i:Int)=some (ov (HD.cm c i)):=by
 refine zb1 ?_
 rw [ZA0,ZAx h]
 unfold HD.cm
 rw [ZAx h]
 rfl
theorem zeo {o:Option Int}:decide (ov o=V.non)=o.isNone:=by
 cases o with
 | none=>rfl
 | some t=>exact ZB9 fun z=>nomatch z
structure zc8 where
 p:Addr
 lt:Addr
 lw:Addr
 be:Addr
 ow:Addr
 ca:Addr
 F:MU.zaz
 T:List Tri
 M:List Tri
 own:List Nat
 c:List (Option Int)
 now:Int
def zc8.At (C:Addr) (H:Hp) (a:zc8):Prop:=zc0 C H a.p a.lt a.lw a.be a.ow a.ca a.F a.T a.M a.own a.c a.now
theorem zc8.At.same {C:Addr} {H H':Hp} {a:zc8} (h:a.At C H) (s:zbe H H'):a.At C H':=zc0.same h s
def zo4 (C:Addr):Sp:=fun vs H Q _=>∃a:zc8,vs=[.ref a.p]/\a.At C H/\∀l H',H l=none->zbe H H'->H' l=some (.lst (a.c.map ov))->Q (.ref l) H'
def zjc (C:Addr):Sp:=fun vs H Q _=>∃(a:zc8) (e:Nat) (f:Nat×Int×Int),vs=[.ref a.p,.int (e:Int)]/\a.At C H/\a.F e=some f/\e<a.c.length/\f.1<a.c.length/\Q (.bl ((HD.cm a.c e).isNone && (HD.cm a.c f.1).isSome)) H
def zkj (C:Addr):Sp:=fun vs H Q _=>∃(a:zc8) (e:Nat) (f:Nat×Int×Int) (t:Int),vs=[.ref a.p,.int (e:Int)]/\a.At C H/\a.F e=some f/\e<a.c.length/\f.1<a.c.length/\HD.cm a.c e=none/\HD.cm a.c f.1=some t/\f.2.1<=a.now-t/\a.now-t<=f.2.2/\Q .non H
def zkh (C:Addr):Sp:=fun vs H Q _=>∃(a:zc8) (b:Nat) (v:Int) (cl:Addr) (co:List Nat),vs=[.ref a.p,.int (b:Int),.int v,.ref cl]/\a.At C H/\b<a.c.length/\H cl=some (.lst (co.map fun i:Nat=>V.int (i:Int)))/\Q (.bl (HD.tieL a.c a.now co b v)) H
def zir (C:Addr):Sp:=fun vs H Q _=>∃(a:zc8) (e:Nat) (v:Int) (f:Nat×Int×Int),vs=[.ref a.p,.int (e:Int),.int v]/\a.At C H/\a.F e=some f/\e<a.c.length/\f.1<a.c.length/\Q (.bl (HD.waitL a.c a.now a.F e v)) H
theorem zz8:zam ["self"] ["self"] (zae sC_Hand_times):=scm
theorem zAa:zam ["self","end"] ["self","end"] (zae sC_Hand_is_in_fall):=scm
theorem zx2:zam ["self","end","now","fall"] ["self","end"] (zae sC_Hand_look_over_end):=scm
theorem zz9:zam ["self","b","most","coming"] ["self","b","most","coming"] (zae sC_Hand_tie_lets):=scm
theorem zze:zam ["self","end","least","begun"] ["self","end","least"] (zae sC_Hand_wait_lets):=scm
theorem ok_times {f C:Addr} {fd:FuncData} (F:Fun K "times" "Hand.times" sC_Hand_times f fd) (T:zol K mg C) (hlist:mg "list"=none):za3 P w K mg base CX0 1 f fd ["self"] (zo4 C):=by
 refine F.ok zz8 (fun _ _ _ _ h=>?_) fun _ A _ s H _ Q E hr h=>?_
 ·obtain ⟨_,rfl,_⟩:=h
  rfl
 ·obtain ⟨a,rfl,hA,k⟩:=h
  refine ⟨_,zad (zaq (zdt zdj (by rfl) hlist (by decide+kernel) (pa1 (zat (pv 0) rfl)))),?_⟩
  obtain ⟨dx,hp⟩:=hA.ins
  exact ⟨_,rfl,a.p,C,dx,_,_,rfl,hp,T.cl,T.nC,h_c,a.ca,_,rfl,.inl (SqL.of hA.came),fun l hl=>k l _ hl (zag hl) zab⟩
theorem ok_inFall {f C:Addr} {fd:FuncData} (F:Fun K "is_in_fall" "Hand.is_in_fall" sC_Hand_is_in_fall f fd) (T:zol K mg C):za3 P w K mg base CX0 1 f fd ["self","end"] (zjc C):=by
 refine F.ok zAa (fun _ _ _ _ h=>?_) fun _ A _ s H _ Q E hr h=>?_
 ·obtain ⟨_,_,_,rfl,_⟩:=h
  rfl
 ·obtain ⟨a,e,fa,rfl,hA,hf,he,hb,k⟩:=h
  have hu:=zei hr
  refine ⟨_,zad (zaq (zg7 (zlw zga (zbj zal (zat (pv 0) rfl) (pv 1) (fun _ _=>rfl)) zca)
   (zg6 (zlw ze2 (zbj zal (zat (pv 0) rfl) (ixT (zcd hu (zat (pv 0) rfl) (pv 1) (fun _ _=>rfl))) (fun _ _=>rfl)) zca)))),?_⟩
  obtain ⟨dx,hp⟩:=hA.ins
  obtain ⟨kvs,r1,r2,r3,r4⟩:=hA.falls
  obtain ⟨q,q1,q2⟩:=r4 e fa hf
  have dg:zev H a.be (.int (e:Int)) (some (.ref q)):=.inl ⟨kvs,.inl (e:Int),r1,rfl,q1.symm⟩
  refine ⟨_,rfl,a.p,C,dx,_,_,rfl,hp,T.cl,T.nC,h_c,_,rfl,a.ca,_,_,_,rfl,rfl,hA.came,zc6 he,rfl,_,rfl,?_⟩
  rw [zeo]
  cases hc:HD.cm a.c e with
  | some t=>exact zde (zgz k (by rw [hc];rfl))
  | none=>
   refine zft ⟨_,rfl,a.p,C,dx,_,_,rfl,hp,T.cl,T.nC,h_c,_,rfl,a.p,C,dx,_,_,rfl,hp,T.cl,T.nB,h_b,_,rfl,a.be,_,rfl,dg,rdT q2 rfl ⟨a.ca,_,_,_,rfl,rfl,hA.came,zc6 hb,rfl,?_⟩⟩
   rw [zeo]
   refine zgz k ?_
   rw [hc]
   cases HD.cm a.c fa.1<;>rfl
theorem ok_lookEnd {f C fI:Addr} {fd fdI:FuncData} (F:Fun K "look_over_end" "Hand.look_over_end" sC_Hand_look_over_end f fd) (T:zol K mg C)
 (mI:zf4 K C "is_in_fall" fI) (bI:zb5 K fdI ["self","end"] []) (GI:za3 P w K mg base CX0 1 fI fdI ["self","end"] (zjc C)):za3 P w K mg base CX0 2 f fd ["self","end"] (zkj C):=by
 refine F.ok zx2 (fun _ _ _ _ h=>?_) fun _ A _ s H _ Q E hr h=>?_
 ·obtain ⟨_,_,_,_,rfl,_⟩:=h
  rfl
 ·obtain ⟨a,e,fa,t,rfl,hA,hf,he,hb,h1,h2,h3,h4,k⟩:=h
  have hu:=zei hr
  refine ⟨_,zah (za9 2 zx2.nd (zat (pv 0) rfl))
   (zah (zbn (zg5 (ze0 hu (pv 1) (zat (pv 0) rfl)) (by with_unfolding_all rfl)) zby zap)
   (zah (zbn (zg4 (zfr (za8 (pv 0) T.cl mI GI hr bI .nil zb3 (pa1 (pv 1))))) zby zap)
   (zah (za9 3 zx2.nd (zcd hu (zat (pv 0) rfl) (pv 1) (fun _ _=>rfl)))
   (zad (zbn (zg4 (zjk zeu zeu (ixT (pv 3)) (zba zcm (pv 2) (zbj zal (zat (pv 0) rfl) (ixT (pv 3)) (fun _ _=>rfl))) (ixT (pv 3)))) zby zap))))),?_⟩
  obtain ⟨dx,hp⟩:=hA.ins
  obtain ⟨kvs,r1,r2,r3,r4⟩:=hA.falls
  obtain ⟨q,q1,q2⟩:=r4 e fa hf
  have dg:zev H a.be (.int (e:Int)) (some (.ref q)):=.inl ⟨kvs,.inl (e:Int),r1,rfl,q1.symm⟩
  refine ⟨_,rfl,a.p,C,dx,_,_,rfl,hp,T.cl,T.nN,h_n,?_⟩
  refine ⟨_,rfl,_,rfl,a.p,C,dx,_,_,rfl,hp,T.cl,T.nB,h_b,a.be,_,rfl,dg,_,rfl,zde ?_⟩
  refine ⟨_,rfl,a.p,dx,_,rfl,hp,by with_unfolding_all rfl,_,rfl,a,e,fa,rfl,hA,hf,he,hb,?_⟩
  rw [h1,h2]
  refine ⟨_,rfl,zde ?_⟩
  refine ⟨_,rfl,a.p,C,dx,_,_,rfl,hp,T.cl,T.nB,h_b,_,rfl,a.be,_,rfl,dg,?_⟩
  have hat:=zc6 hb
  rw [h2] at hat
  refine ⟨_,rfl,rdT q2 rfl ⟨_,rfl,_,rfl,a.p,C,dx,_,_,rfl,hp,T.cl,T.nC,h_c,_,rfl,rdT q2 rfl ⟨a.ca,_,_,_,rfl,rfl,hA.came,hat,_,_,rfl,rfl,_,_,rfl,rfl,_,rfl,zep h3 ⟨_,rfl,rdT q2 rfl ⟨_,_,rfl,rfl,_,rfl,zf3 ?_ k⟩⟩⟩⟩⟩
  show (!decide (a.now-t<=fa.2.2))=false
  rw [ZB8 h4]
  rfl
theorem zfh {co:List Nat}:(co.map fun i:Nat=>V.int (i:Int))=(co.map fun i:Nat=>(i:Int)).map V.int:=by rw [List.map_map];rfl
theorem zju {b:Nat} {co:List Nat}:inV (V.int (b:Int)) (co.map fun i:Nat=>V.int (i:Int))=decide (b∈co):=by
 rw [zfh,zfk]
 refine decide_eq_decide.mpr ⟨fun h=>?_,fun h=>List.mem_map_of_mem h⟩
 obtain ⟨x,hx,e⟩:=ZBr.mp h
 have e:x=b:=by lia
 exact e▸hx
theorem zh8 {co:List Nat}:(co.map fun i:Nat=>V.int (i:Int)).all zdp=true:=by rw [List.all_map];exact ZBw.mpr fun _ _=>rfl
theorem ok_tieLets {f C:Addr} {fd:FuncData} (F:Fun K "tie_lets" "Hand.tie_lets" sC_Hand_tie_lets f fd) (T:zol K mg C):za3 P w K mg base CX0 1 f fd ["self","b","most","coming"] (zkh C):=by
 refine F.ok zz9 (fun _ _ _ _ h=>?_) fun _ A _ s H _ Q E hr h=>?_
 ·obtain ⟨_,_,_,_,_,rfl,_⟩:=h
  rfl
 ·obtain ⟨a,b,v,cl,co,rfl,hA,hb,hcl,k⟩:=h
  refine ⟨_,zac (zbn (zcy ze2 (zbj zal (zat (pv 0) rfl) (pv 1) (fun _ _=>rfl)) zca) (zad (zaq (zlw zeu (zbj zal (zat (pv 0) rfl) (pv 1) (fun _ _=>rfl)) (zba zb8 (zat (pv 0) rfl) (pv 2))))) zap)
   (zad (zaq (zwm (zlw zr2 (pv 2) zaj) (zg6 (zg7 (zlw zcf (pv 2) zaj) (zg6 (zpz zh1 (pv 1) (pv 3) (by with_unfolding_all rfl)))))))),?_⟩
  obtain ⟨dx,hp⟩:=hA.ins
  have hat:=zc6 hb
  unfold HD.tieL at k
  refine fun N1 c1=>⟨_,rfl,a.p,C,dx,_,_,rfl,hp,T.cl,T.nC,h_c,_,rfl,a.ca,_,_,_,rfl,rfl,hA.came,hat,rfl,_,rfl,?_⟩
  rw [zeo]
  cases hc:HD.cm a.c b with
  | some t=>
   rw [hc] at hat k
   exact zft ⟨_,rfl,a.p,C,dx,_,_,rfl,hp,T.cl,T.nC,h_c,_,rfl,a.ca,_,_,_,rfl,rfl,hA.came,hat,_,rfl,a.p,C,dx,_,_,rfl,hp,T.cl,T.nN,h_n,_,rfl,_,_,rfl,rfl,_,_,rfl,rfl,k⟩
  | none=>
   rw [hc] at k
   refine zde (c1 _ _ ?_)
   refine ⟨_,rfl,_,_,rfl,rfl,_,rfl,?_⟩
   by_cases h0:0<v
   ·exact zep h0 (zgz k (by rw [ZB8 h0];rfl))
   ·refine zct h0 ⟨_,rfl,rfl,_,rfl,?_⟩
    rw [zyf]
    by_cases h1:v=0
    ·refine zep h1 ⟨_,rfl,_,rfl,cl,_,rfl,.inl (SqL.of hcl),rfl,zh8,?_⟩
     refine zgz k ?_
     rw [ZB9 h0,ZB8 h1,zju]
     rfl
    ·exact zct h1 (zgz k (by rw [ZB9 h0,ZB9 h1];rfl))
theorem ok_waitLets {f C:Addr} {fd:FuncData} (F:Fun K "wait_lets" "Hand.wait_lets" sC_Hand_wait_lets f fd) (T:zol K mg C):za3 P w K mg base CX0 1 f fd ["self","end","least"] (zir C):=by
 refine F.ok zze (fun _ _ _ _ h=>?_) fun _ A _ s H _ Q E hr h=>?_
 ·obtain ⟨_,_,_,_,rfl,_⟩:=h
  rfl
 ·obtain ⟨a,e,v,fa,rfl,hA,hf,he,hb,k⟩:=h
  have hu:=zei hr
  refine ⟨_,zah (za9 3 zze.nd (zbj zal (zat (pv 0) rfl) (ixT (zcd hu (zat (pv 0) rfl) (pv 1) (fun _ _=>rfl))) (fun _ _=>rfl)))
   (zad (zaq (zwm (zlw ze2 (zbj zal (zat (pv 0) rfl) (pv 1) (fun _ _=>rfl)) zca) (zg6 (zg7 (zlw ze2 (pv 3) zca) (zg6 (zlw zuy (zba zcm (zat (pv 0) rfl) (pv 3)) (pv 2)))))))),?_⟩
  obtain ⟨dx,hp⟩:=hA.ins
  obtain ⟨kvs,r1,r2,r3,r4⟩:=hA.falls
  obtain ⟨q,q1,q2⟩:=r4 e fa hf
  have dg:zev H a.be (.int (e:Int)) (some (.ref q)):=.inl ⟨kvs,.inl (e:Int),r1,rfl,q1.symm⟩
  unfold HD.waitL at k
  rw [hf] at k
  have k:Q (.bl ((HD.cm a.c e).isSome || match HD.cm a.c fa.1 with | some t=>decide (v<=a.now-t) | none=>false)) H:=k
  refine ⟨_,rfl,a.p,C,dx,_,_,rfl,hp,T.cl,T.nC,h_c,_,rfl,a.p,C,dx,_,_,rfl,hp,T.cl,T.nB,h_b,_,rfl,a.be,_,rfl,dg,rdT q2 rfl ⟨a.ca,_,_,_,rfl,rfl,hA.came,zc6 hb,?_⟩⟩
  refine ⟨_,rfl,a.p,C,dx,_,_,rfl,hp,T.cl,T.nC,h_c,_,rfl,a.ca,_,_,_,rfl,rfl,hA.came,zc6 he,rfl,_,rfl,?_⟩
  rw [zeo]
  cases hc:HD.cm a.c e with
  | some t=>rw [hc] at k;exact zft (zgz k rfl)
  | none=>
   rw [hc] at k
   refine zde ⟨_,rfl,rfl,_,rfl,?_⟩
   rw [zeo]
   cases hd:HD.cm a.c fa.1 with
   | none=>rw [hd] at k;exact zde (zgz k rfl)
   | some t=>
    rw [hd] at k
    exact zft ⟨_,rfl,a.p,C,dx,_,_,rfl,hp,T.cl,T.nN,h_n,_,rfl,_,_,rfl,rfl,_,rfl,_,_,rfl,rfl,k⟩
structure HOk (a:zc8):Prop where
 t:∀x∈a.T,x.2.1<a.c.length
 m:∀x∈a.M,∃f,a.F x.2.1=some f/\x.2.1<a.c.length/\f.1<a.c.length
 tl:a.T.length<=100
 ml:a.M.length<=100
 own:∀m∈a.own,m<a.c.length
 ol:a.own.length<=100
def zs8 (C:Addr):Sp:=fun vs H Q _=>∃(a:zc8) (m:Nat) (cl:Addr) (co:List Nat),vs=[.ref a.p,.int (m:Int),.ref cl]/\a.At C H/\HOk a/\H cl=some (.lst (co.map fun i:Nat=>V.int (i:Int)))/\∀H',zbe H H'->Q (.bl (HD.lets a.T a.M a.F a.c a.now m co)) H'
abbrev nHL:List Str:=["self","moment","coming","ties","waits"]
theorem zx3:zam nHL ["self","moment","coming"] (zae sC_Hand_lets):=scm
theorem zyw:zbw (zae sC_Hand_lets) nHL (fsc [(".0",.local),("a",.local),("b",.local),("most",.local),("coming",.free),("moment",.free),("self",.free)]) ["a","b","most","coming","moment","self"] [none,none,none,some 2,some 1,some 0]:=com
theorem zyv:zbw (zae sC_Hand_lets) nHL (fsc [(".0",.local),("a",.local),("end",.local),("least",.local),("moment",.free),("self",.free)]) ["a","end","least","moment","self"] [none,none,none,some 1,some 0]:=com
theorem zu2:(["a","b","most","coming","moment","self"]:List Str).Nodup:=by decide+kernel
theorem zu1:(["a","end","least","moment","self"]:List Str).Nodup:=by decide+kernel
theorem ok_lets {f C fT fW:Addr} {fd fdT fdW:FuncData} (F:Fun K "lets" "Hand.lets" sC_Hand_lets f fd) (T:zol K mg C) (hall:mg "all"=none)
 (mT:zf4 K C "tie_lets" fT) (bT:zb5 K fdT ["self","b","most","coming"] []) (GT:za3 P w K mg base CX0 1 fT fdT ["self","b","most","coming"] (zkh C))
 (mW:zf4 K C "wait_lets" fW) (bW:zb5 K fdW ["self","end","least"] []) (GW:za3 P w K mg base CX0 1 fW fdW ["self","end","least"] (zir C)):za3 P w K mg base CX0 2 f fd ["self","moment","coming"] (zs8 C):=by
 refine F.ok zx3 (fun _ _ _ _ h=>?_) fun _ A _ s H _ Q E hr h=>?_
 ·obtain ⟨_,_,_,_,rfl,_⟩:=h
  rfl
 ·obtain ⟨a,m,cl,co,rfl,hA,hok,hcl,k⟩:=h
  refine ⟨_,zac (zfx (i:=3) zx3.nd rfl rfl rfl (za4 (zat (pv 0) rfl)) zyw (fun cl ex s0 H0=>⟨zjm (K:=K) (n:=3) rfl rfl (zaw (zci 0 zu2) (zaw (zci 1 zu2) (zaw (zci 2 zu2) zef))),zda (zcy zcf (pv 0) (pv 4)),za8 (pv 5) T.cl mT GT hr bT .nil zb3 (pa3 (pv 1) (pv 2) (pv 3))⟩))
   (zac (zfx (i:=4) zx3.nd rfl rfl rfl (za4 (zat (pv 0) rfl)) zyv (fun cl ex s0 H0=>⟨zjm (K:=K) (n:=3) rfl rfl (zaw (zci 0 zu1) (zaw (zci 1 zu1) (zaw (zci 2 zu1) zef))),zda (zcy zcf (pv 0) (pv 3)),za8 (pv 4) T.cl mW GW hr bW .nil zb3 (pa2 (pv 1) (pv 2))⟩))
   (zad (zaq (zg7 (zbs (zlf rfl) (by rfl) hall (by decide+kernel) (pa1 (pv 3))) (zg6 (zbs (zlf rfl) (by rfl) hall (by decide+kernel) (pa1 (pv 4)))))))),?_⟩
  obtain ⟨dx,hp⟩:=hA.ins
  obtain ⟨ps,ht1,ht2⟩:=hA.ties
  obtain ⟨qs,hw1,hw2⟩:=hA.waits
  refine fun N1 c1=>⟨_,rfl,a.p,C,dx,_,_,rfl,hp,T.cl,T.nT,h_t,a.lt,rfl,⟨_,SqL.of ht1⟩,fun Da hDa=>?_⟩
  refine zbv (K:=K) (a:=a.lt) (xs:=ps.map V.ref) (fun j σ' H'=>∃v0 v1 v2,σ'=[v0,v1,v2,some (.ref cl),some (.int (m:Int)),some (.ref a.p)]/\H' Da=some (.lst ((((a.T.take j).filter fun x=>decide (x.1=m)).map fun x=>HD.tieL a.c a.now co x.2.1 x.2.2).map V.bl))/\zbe H H') ⟨none,none,none,rfl,zab,zag hDa⟩ ?_ ?_ ?_
  ·rintro j σ' H1 _ ⟨v0,v1,v2,rfl,_,s1⟩
   exact SqL.of (s1 _ _ ht1)
  ·rintro j y σ' H1 hy ⟨v0,v1,v2,rfl,e1,s1⟩
   rw [ZA0] at hy
   cases hq:ps[j]? with
   | none=>rw [hq] at hy;cases hy
   | some q=>
    rw [hq] at hy
    cases hy
    obtain ⟨x,hx,hqx⟩:=paired_get ht2 hq
    have hqx:H1 q=some (.tup [.int (x.1:Int),.int (x.2.1:Int),.int x.2.2]):=s1 _ _ hqx
    have et:a.T.take (j+1)=a.T.take j++[x]:=by rw [ZBu,hx];rfl
    refine ⟨q,_,rfl,SqT.of hqx,rfl,_,_,rfl,_,_,rfl,_,_,rfl,rfl,_,rfl,_,rfl,rfl,_,rfl,?_⟩
    rw [zku]
    by_cases c:x.1=m
    ·refine zep c ⟨_,rfl,a.p,dx,_,rfl,s1 _ _ hp,by with_unfolding_all rfl,_,rfl,_,rfl,_,rfl,a,x.2.1,x.2.2,cl,co,rfl,hA.same s1,hok.t x (ZA1 hx),s1 _ _ hcl,_,e1,?_,_,_,_,rfl,?_,fun b o e=>?_⟩
     ·rw [ZAu,ZAu]
      have:=List.length_filter_le (fun x:Tri=>decide (x.1=m)) (a.T.take j)
      rw [ZBl] at this
      have:=hok.tl
      exact zan (by lia)
     ·rw [zab,et,List.filter_append,List.filter_cons_of_pos (by exact ZB8 c),List.filter_nil,ZA9,ZA9]
      rfl
     ·rw [zaf (zaa e hDa)];exact s1 _ _ e
    ·refine zct c ⟨_,_,_,rfl,?_,s1⟩
     rw [et,List.filter_append,List.filter_cons_of_neg (by rw [ZBy];exact c),List.filter_nil,List.append_nil]
     exact e1
  rintro σ' H1 ⟨v0,v1,v2,rfl,e1,s1⟩
  rw [ZAu,Paired.length ht2,ZBi] at e1
  refine c1 _ _ ?_
  clear c1 N1
  refine fun N1 c1=>⟨_,rfl,a.p,C,dx,_,_,rfl,s1 _ _ hp,T.cl,T.nW,h_w,a.lw,rfl,⟨_,SqL.of (s1 _ _ hw1)⟩,fun Db hDb=>?_⟩
  refine zbv (K:=K) (a:=a.lw) (xs:=qs.map V.ref) (fun j σ' H'=>∃v0 v1 v2,σ'=[v0,v1,v2,some (.int (m:Int)),some (.ref a.p)]/\H' Db=some (.lst ((((a.M.take j).filter fun x=>decide (x.1=m)).map fun x=>HD.waitL a.c a.now a.F x.2.1 x.2.2).map V.bl))/\zbe H1 H') ⟨none,none,none,rfl,zab,zag hDb⟩ ?_ ?_ ?_
  ·rintro j σ' H2 _ ⟨v0,v1,v2,rfl,_,s2⟩
   exact SqL.of (s2 _ _ (s1 _ _ hw1))
  ·rintro j y σ' H2 hy ⟨v0,v1,v2,rfl,e2,s2⟩
   rw [ZA0] at hy
   cases hq:qs[j]? with
   | none=>rw [hq] at hy;cases hy
   | some q=>
    rw [hq] at hy
    cases hy
    obtain ⟨x,hx,hqx⟩:=paired_get hw2 hq
    have s12:=s1.trans s2
    have hqx:H2 q=some (.tup [.int (x.1:Int),.int (x.2.1:Int),.int x.2.2]):=s12 _ _ hqx
    have et:a.M.take (j+1)=a.M.take j++[x]:=by rw [ZBu,hx];rfl
    obtain ⟨fx,f1,f2,f3⟩:=hok.m x (ZA1 hx)
    refine ⟨q,_,rfl,SqT.of hqx,rfl,_,_,rfl,_,_,rfl,_,_,rfl,rfl,_,rfl,_,rfl,rfl,_,rfl,?_⟩
    rw [zku]
    by_cases c:x.1=m
    ·refine zep c ⟨_,rfl,a.p,dx,_,rfl,s12 _ _ hp,by with_unfolding_all rfl,_,rfl,_,rfl,a,x.2.1,x.2.2,fx,rfl,hA.same s12,f1,f2,f3,_,e2,?_,_,_,_,rfl,?_,fun b o e=>?_⟩
     ·rw [ZAu,ZAu]
      have:=List.length_filter_le (fun x:Tri=>decide (x.1=m)) (a.M.take j)
      rw [ZBl] at this
      have:=hok.ml
      exact zan (by lia)
     ·rw [zab,et,List.filter_append,List.filter_cons_of_pos (by exact ZB8 c),List.filter_nil,ZA9,ZA9]
      rfl
     ·rw [zaf (zaa e hDb)];exact s2 _ _ e
    ·refine zct c ⟨_,_,_,rfl,?_,s2⟩
     rw [et,List.filter_append,List.filter_cons_of_neg (by rw [ZBy];exact c),List.filter_nil,List.append_nil]
     exact e2
  rintro σ' H2 ⟨v0,v1,v2,rfl,e2,s2⟩
  rw [ZAu,Paired.length hw2,ZBi] at e2
  refine c1 _ _ ?_
  clear c1 N1
  have k:=k H2 (s1.trans s2)
  unfold HD.lets at k
  refine ⟨_,rfl,Da,_,rfl,s2 _ _ e1,_,rfl,?_⟩
  rw [List.all_map]
  cases hc:((a.T.filter fun x=>decide (x.1=m)).all fun x=>HD.tieL a.c a.now co x.2.1 x.2.2) with
  | false=>
   rw [hc] at k
   exact zf3 hc (zgz k rfl)
  | true=>
   rw [hc] at k
   refine zgg hc ⟨_,rfl,Db,_,rfl,e2,?_⟩
   rw [List.all_map]
   exact zgz k (Bool.true_and _)
abbrev zc8.S (a:zc8):List Nat->List Nat:=HD.step a.T a.M a.F a.c a.now
def zc8.l0 (a:zc8):List Nat:=a.own.filter fun m=>(HD.cm a.c m).isNone
def zmq (C:Addr):Sp:=fun vs H Q _=>∃a:zc8,vs=[.ref a.p]/\a.At C H/\HOk a/\∀l H' r j,H l=none->zbe H H'->H' l=some (.lst (r.map fun i:Nat=>V.int (i:Int)))->r=HD.iter a.S j a.l0->a.S r=r->Q (.ref l) H'
theorem zdi {p:Nat->Bool} {l:List Nat} {j:Nat} {m:Nat} (h:l[j]?=some m):(l.take (j+1)).filter p=(l.take j).filter p++if p m=true then [m] else []:=by
 rw [ZBu,h,List.filter_append]
 show _++[m].filter p=_
 by_cases c:p m=true
 ·rw [if_pos c,List.filter_cons_of_pos c];rfl
 ·rw [if_neg c,List.filter_cons_of_neg c];rfl
theorem zna {a:zc8} (h:HOk a) (j:Nat):(HD.iter a.S j a.l0).length<=100:=by
 have h1:a.l0.length<=100:=ZBg (List.length_filter_le _ _) h.ol
 induction j with
 | zero=>exact h1
 | succ j ih=>rw [HD.iter_succ];exact ZBg (HD.step_len _) ih
abbrev nHa:List Str:=["self","coming","left"]
theorem zwg:zam nHa ["self"] (zae sC_Hand_all_let):=scm
theorem zyu:zbw (zae sC_Hand_all_let) nHa (fsc [(".0",.local),("moment",.local),("self",.free)]) ["moment","self"] [none,some 0]:=com
theorem zw2:zbw (zae sC_Hand_all_let) nHa (fsc [(".0",.local),("moment",.local),("coming",.free),("self",.free)]) ["moment","coming","self"] [none,some 1,some 0]:=com
theorem zyb:(["moment","self"]:List Str).Nodup:=by decide+kernel
theorem zwr:(["moment","coming","self"]:List Str).Nodup:=by decide+kernel
theorem ok_allLet {f C fL:Addr} {fd fdL:FuncData} (F:Fun K "all_let" "Hand.all_let" sC_Hand_all_let f fd) (T:zol K mg C)
 (mL:zf4 K C "lets" fL) (bL:zb5 K fdL ["self","moment","coming"] []) (GL:za3 P w K mg base CX0 2 fL fdL ["self","moment","coming"] (zs8 C)):za3 P w K mg base CX0 3 f fd ["self"] (zmq C):=by
 refine F.ok zwg (fun _ _ _ _ h=>?_) fun _ A _ s H _ Q E hr h=>?_
 ·obtain ⟨_,rfl,_⟩:=h
  rfl
 ·obtain ⟨a,rfl,hA,hok,k⟩:=h
  refine ⟨_,zac (zem (i:=1) zwg.nd rfl (Or.inr rfl) (zcv rfl (za4 (zat (pv 0) rfl)) zyu (fun cl ex s0 H0=>⟨zci 0 zyb,zda (zcy zga (zbj zal (zeg (K:=K) rfl (pv 1) rfl) (pv 0) (fun _ _=>rfl)) zca),pv 0⟩)))
   (zac (zfx (i:=2) zwg.nd rfl rfl rfl (za4 (pv 1)) zw2 (fun cl ex s0 H0=>⟨zci 0 zwr,zda (zfr (za8 (pv 2) T.cl mL GL hr bL .nil zb3 (pa2 (pv 0) (pv 1)))),pv 0⟩))
   (zac (zm1 PassesOwn.never (zcy (zti hr.units) (pv 2) (pv 1))
    (zac (zem (i:=1) zwg.nd rfl (Or.inr rfl) (pv 2))
    (zad (zfx (i:=2) zwg.nd rfl rfl rfl (za4 (pv 1)) zw2 (fun cl ex s0 H0=>⟨zci 0 zwr,zda (zfr (za8 (pv 2) T.cl mL GL hr bL .nil zb3 (pa2 (pv 0) (pv 1)))),pv 0⟩)))))
   (zad (zaq (pv 2))))),?_⟩
  obtain ⟨dx,hp⟩:=hA.ins
  refine fun N1 c1=>⟨_,rfl,a.p,C,dx,_,_,rfl,hp,T.cl,T.nO,h_o,a.ow,rfl,⟨_,SqL.of hA.own⟩,fun Da hDa=>?_⟩
  refine zbv (K:=K) (a:=a.ow) (xs:=a.own.map fun i:Nat=>V.int (i:Int)) (fun j σ' H'=>∃v,σ'=[v,some (.ref a.p)]/\H' Da=some (.lst (((a.own.take j).filter fun m=>(HD.cm a.c m).isNone).map fun i:Nat=>V.int (i:Int)))/\zbe H H') ⟨none,rfl,zab,zag hDa⟩ ?_ ?_ ?_
  ·rintro j σ' H1 _ ⟨v,rfl,_,s1⟩
   exact SqL.of (s1 _ _ hA.own)
  ·rintro j y σ' H1 hy ⟨v,rfl,e1,s1⟩
   rw [ZA0] at hy
   cases hq:a.own[j]? with
   | none=>rw [hq] at hy;cases hy
   | some m=>
    rw [hq] at hy
    cases hy
    have hj:=(ZAv.mp hq).1
    have hm:=hok.own m (ZA1 hq)
    have hol:=hok.ol
    refine ⟨_,rfl,a.p,C,dx,_,_,rfl,s1 _ _ hp,T.cl,T.nC,h_c,_,rfl,a.ca,_,_,_,rfl,rfl,s1 _ _ hA.came,zc6 hm,rfl,_,rfl,?_⟩
    rw [zeo]
    cases hc:(HD.cm a.c m).isNone with
    | true=>
     refine zft ⟨_,rfl,_,e1,?_,_,rfl,?_,fun b o e=>?_⟩
     ·rw [ZAu]
      have:=List.length_filter_le (fun m=>(HD.cm a.c m).isNone) (a.own.take j)
      rw [ZBl] at this
      exact zan (by lia)
     ·rw [zab,zdi hq,if_pos hc,ZA9];rfl
     ·rw [zaf (zaa e hDa)];exact s1 _ _ e
    | false=>
     refine zde ⟨_,rfl,?_,s1⟩
     rw [zdi hq,if_neg (by rw [hc];exact ZA6),List.append_nil]
     exact e1
  rintro σ' H1 ⟨v,rfl,e1,s1⟩
  rw [ZAu,ZBi] at e1
  have e1:H1 Da=some (.lst (a.l0.map fun i:Nat=>V.int (i:Int))):=e1
  have hDa0:=hDa
  refine c1 _ _ ?_
  clear c1 N1
  have ll0:a.l0.length<=100:=zna hok 0
  refine fun N1 c1=>⟨_,rfl,Da,rfl,⟨_,SqL.of e1⟩,fun Db hDb=>?_⟩
  refine zbv (K:=K) (a:=Da) (xs:=a.l0.map fun i:Nat=>V.int (i:Int)) (fun j σ' H'=>∃v,σ'=[v,some (.ref Da),some (.ref a.p)]/\H' Db=some (.lst (((a.l0.take j).filter fun m=>HD.lets a.T a.M a.F a.c a.now m a.l0).map fun i:Nat=>V.int (i:Int)))/\zbe H1 H') ⟨none,rfl,zab,zag hDb⟩ ?_ ?_ ?_
  ·rintro j σ' H2 _ ⟨v,rfl,_,s2⟩
   exact SqL.of (s2 _ _ e1)
  ·rintro j y σ' H2 hy ⟨v,rfl,e2,s2⟩
   rw [ZA0] at hy
   cases hq:a.l0[j]? with
   | none=>rw [hq] at hy;cases hy
   | some m=>
    rw [hq] at hy
    cases hy
    have hj:=(ZAv.mp hq).1
    have s02:=s1.trans s2
    refine ⟨_,rfl,a.p,dx,_,rfl,s02 _ _ hp,by with_unfolding_all rfl,_,rfl,_,rfl,a,m,Da,a.l0,rfl,hA.same s02,hok,s2 _ _ e1,fun H3 s3=>⟨_,rfl,?_⟩⟩
    have e3:=s3 _ _ e2
    cases hc:HD.lets a.T a.M a.F a.c a.now m a.l0 with
    | true=>
     refine zft ⟨_,rfl,_,e3,?_,_,rfl,?_,fun b o e=>?_⟩
     ·rw [ZAu]
      have:=List.length_filter_le (fun m=>HD.lets a.T a.M a.F a.c a.now m a.l0) (a.l0.take j)
      rw [ZBl] at this
      exact zan (by lia)
     ·rw [zab,zdi hq,if_pos hc,ZA9];rfl
     ·rw [zaf (zaa e hDb)];exact s3 _ _ (s2 _ _ e)
    | false=>
     refine zde ⟨_,rfl,?_,s2.trans s3⟩
     rw [zdi hq,if_neg (by rw [hc];exact ZA6),List.append_nil]
     exact e3
  rintro σ' H2 ⟨v,rfl,e2,s2⟩
  rw [ZAu,ZBi] at e2
  have e2:H2 Db=some (.lst ((a.S a.l0).map fun i:Nat=>V.int (i:Int))):=e2
  refine c1 _ _ ?_
  clear c1 N1
  refine fun N1 c1=>⟨fun n σ' H'=>∃j cl ll,n=(HD.iter a.S j a.l0).length/\σ'=[some (.ref a.p),some (.ref cl),some (.ref ll)]/\H' cl=some (.lst ((HD.iter a.S j a.l0).map fun i:Nat=>V.int (i:Int)))/\H' ll=some (.lst ((HD.iter a.S (j+1) a.l0).map fun i:Nat=>V.int (i:Int)))/\H ll=none/\zbe H H',
   ⟨_,0,Da,Db,rfl,rfl,s2 _ _ e1,e2,s1.free hDb,s1.trans s2⟩,?_⟩
  rintro n σ' H3 ⟨j,cl,ll,rfl,rfl,e3,e4,hll,s3⟩
  rw [zfh] at e3 e4
  refine ⟨_,rfl,_,rfl,ll,cl,_,_,rfl,rfl,SqL.of e4,SqL.of e3,_,rfl,?_⟩
  rw [<-zfh] at e3 e4
  by_cases hs:HD.iter a.S (j+1) a.l0=HD.iter a.S j a.l0
  ·refine zf3 (show (!decide _)=false by rw [hs,ZB8 rfl];rfl) (c1 _ _ ⟨_,rfl,k ll H3 _ (j+1) hll s3 e4 rfl ?_⟩)
   rw [hs]
   exact (HD.iter_succ a.S j a.l0).symm.trans hs
  ·have hlt:(HD.iter a.S (j+1) a.l0).length<(HD.iter a.S j a.l0).length:=ZAz fun z=>hs (by
    rw [HD.iter_succ] at z ⊢
    exact HD.step_same (Nat.le_antisymm (HD.step_len _) (ZB5 z)))
   refine zgg (show (!decide _)=true by
    rw [ZB9 fun z=>hs ?_];rfl
    have z:=congrArg (List.map Int.toNat) z
    rw [List.map_map,List.map_map,show (Int.toNat ∘ fun i:Nat=>(i:Int))=id from funext fun i=>ZBx i,List.map_id,List.map_id] at z
    exact z) ⟨fun σ' H'=>∃n',n'<(HD.iter a.S j a.l0).length/\∃j cl ll,n'=(HD.iter a.S j a.l0).length/\σ'=[some (.ref a.p),some (.ref cl),some (.ref ll)]/\H' cl=some (.lst ((HD.iter a.S j a.l0).map fun i:Nat=>V.int (i:Int)))/\H' ll=some (.lst ((HD.iter a.S (j+1) a.l0).map fun i:Nat=>V.int (i:Int)))/\H ll=none/\zbe H H',fun σ' H' z=>z,?_⟩
   have lj:=zna hok (j+1)
   refine fun N2 c2=>⟨_,rfl,c2 _ _ ?_⟩
   clear c2 N2
   refine ⟨_,rfl,ll,rfl,⟨_,SqL.of e4⟩,fun Dc hDc=>?_⟩
   refine zbv (K:=K) (a:=ll) (xs:=(HD.iter a.S (j+1) a.l0).map fun i:Nat=>V.int (i:Int)) (fun i σ' H'=>∃v,σ'=[v,some (.ref ll),some (.ref a.p)]/\H' Dc=some (.lst ((((HD.iter a.S (j+1) a.l0).take i).filter fun m=>HD.lets a.T a.M a.F a.c a.now m (HD.iter a.S (j+1) a.l0)).map fun i:Nat=>V.int (i:Int)))/\zbe H3 H') ⟨none,rfl,zab,zag hDc⟩ ?_ ?_ ?_
   ·rintro i σ' H2 _ ⟨v,rfl,_,s2⟩
    exact SqL.of (s2 _ _ e4)
   ·rintro i y σ' H2 hy ⟨v,rfl,e2,s2⟩
    rw [ZA0] at hy
    cases hq:(HD.iter a.S (j+1) a.l0)[i]? with
    | none=>rw [hq] at hy;cases hy
    | some m=>
     rw [hq] at hy
     cases hy
     have hj:=(ZAv.mp hq).1
     have s02:=s3.trans s2
     refine ⟨_,rfl,a.p,dx,_,rfl,s02 _ _ hp,by with_unfolding_all rfl,_,rfl,_,rfl,a,m,ll,(HD.iter a.S (j+1) a.l0),rfl,hA.same s02,hok,s2 _ _ e4,fun H3 s3=>⟨_,rfl,?_⟩⟩
     have e3:=s3 _ _ e2
     cases hc:HD.lets a.T a.M a.F a.c a.now m (HD.iter a.S (j+1) a.l0) with
     | true=>
      refine zft ⟨_,rfl,_,e3,?_,_,rfl,?_,fun b o e=>?_⟩
      ·rw [ZAu]
       have:=List.length_filter_le (fun m=>HD.lets a.T a.M a.F a.c a.now m (HD.iter a.S (j+1) a.l0)) ((HD.iter a.S (j+1) a.l0).take i)
       rw [ZBl] at this
       exact zan (by lia)
      ·rw [zab,zdi hq,if_pos hc,ZA9];rfl
      ·rw [zaf (zaa e hDc)];exact s3 _ _ (s2 _ _ e)
     | false=>
      refine zde ⟨_,rfl,?_,s2.trans s3⟩
      rw [zdi hq,if_neg (by rw [hc];exact ZA6),List.append_nil]
      exact e3
   rintro σ' H4 ⟨v,rfl,e5,s4⟩
   rw [ZAu,ZBi] at e5
   refine ⟨_,hlt,j+1,ll,Dc,rfl,rfl,s4 _ _ e4,?_,s3.free hDc,s3.trans s4⟩
   rw [HD.iter_succ a.S (j+1)]
   exact e5
theorem zot {kvs:List (Key×V)} {k:Key} {v:V} {i:Nat} (h:kvs[i]?=some (k,v)):zel kvs k≠none:=fun z=>by
 unfold zel at z
 rw [Option.map_eq_none_iff,List.find?_eq_none] at z
 exact z (k,v) (ZA1 h) (ZB8 rfl)
theorem zc0.frz {C p lt lw be ow ca:Addr} {H H':Hp} {F:MU.zaz} {T M:List Tri} {own:List Nat} {c:List (Option Int)} {now:Int} {kvs:List (Key×V)} (h:zc0 C H p lt lw be ow ca F T M own c now) (hb:H be=some (.dK kvs)) (hr:Rd H' be (.dK kvs)) (k:∀b u,H b=some u->b≠be->H' b=some u):zc0 C H' p lt lw be ow ca F T M own c now:=by
 obtain ⟨⟨dx,h1⟩,⟨ps,h2,h3⟩,⟨qs,h4,h5⟩,⟨kvs',r1,r2,r3,r4⟩,h7,h8⟩:=h
 have tup:∀{q xs},H q=some (.tup xs)->H' q=some (.tup xs):=fun e=>k _ _ e (zao e hb nofun)
 have e:kvs'=kvs:=by
  rcases r1 with r1 | ⟨o,r1⟩
  ·rw [hb] at r1;cases r1;rfl
  ·rw [hb] at r1;cases r1
 subst e
 refine ⟨⟨dx,k _ _ h1 (zao h1 hb nofun)⟩,⟨ps,k _ _ h2 (zao h2 hb nofun),zai h3 fun q r e=>tup e⟩,⟨qs,k _ _ h4 (zao h4 hb nofun),zai h5 fun q r e=>tup e⟩,⟨kvs',hr,r2,r3,fun e f hf=>?_⟩,k _ _ h7 (zao h7 hb nofun),k _ _ h8 (zao h8 hb nofun)⟩
 obtain ⟨q,q1,q2⟩:=r4 e f hf
 exact ⟨q,q1,tup q2⟩
structure zmc (a:zc8) (fs:List Nat):Prop where
 nd:fs.Nodup
 ok:∀e∈fs,∃f t,a.F e=some f/\HD.cm a.c e=none/\HD.cm a.c f.1=some t/\f.2.1<=a.now-t/\a.now-t<=f.2.2
 all:∀e f t,a.F e=some f->HD.cm a.c e=none->HD.cm a.c f.1=some t->f.2.2<=a.now-t->e∈fs
 lt:∀e f,a.F e=some f->e<a.c.length/\f.1<a.c.length
def zs7 (C:Addr):Sp:=fun vs H Q _=>∃(a:zc8) (fl:Addr) (fs:List Nat),vs=[.ref a.p,.ref fl]/\a.At C H/\H fl=some (.lst (fs.map fun i:Nat=>V.int (i:Int)))/\zmc a fs/\(∃kvs,H a.be=some (.dK kvs))/\
 ∀o kvs H',H a.be=some (.dK kvs)->H' a.be=some (.frz o (.dK kvs))->(∀b u,H b=some u->b≠a.be->H' b=some u)->Q .non H'
abbrev nHo:List Str:=["self","fallen","now","end","fall"]
theorem zwf:zam nHo ["self","fallen"] (zae sC_Hand_look_over):=scm
theorem ok_lookOver {f C fE fI:Addr} {fd fdE fdI:FuncData} (F:Fun K "look_over" "Hand.look_over" sC_Hand_look_over f fd) (T:zol K mg C)
 (mE:zf4 K C "look_over_end" fE) (bE:zb5 K fdE ["self","end"] []) (GE:za3 P w K mg base CX0 2 fE fdE ["self","end"] (zkj C))
 (mI:zf4 K C "is_in_fall" fI) (bI:zb5 K fdI ["self","end"] []) (GI:za3 P w K mg base CX0 1 fI fdI ["self","end"] (zjc C)):za3 P w K mg base CX0 3 f fd ["self","fallen"] (zs7 C):=by
 refine F.ok zwf (fun _ _ _ _ h=>?_) fun _ A _ s H _ Q E hr h=>?_
 ·obtain ⟨_,_,_,rfl,_⟩:=h
  rfl
 ·obtain ⟨a,fl,fs,rfl,hA,hfl,hF,⟨kvs,hbe⟩,k⟩:=h
  have hu:=zei hr
  have hr1:zd2 1 _:=hr.mono (by decide)
  refine ⟨_,zac (za9 2 zwf.nd (zat (pv 0) rfl))
   (zac (zb7 PassesOwn.never rfl (za4 (pv 1)) (zci 3 zwf.nd)
    (zah (za7 (za8 (pv 0) T.cl mE GE hr bE .nil zb3 (pa1 (pv 3))))
    (zad (zbn (zcy zr2 (zhy ZAr PySem.F.slot_list_count PySem.F.type_list_count zr4 (pv 1) (pa1 (pv 3))) zaj) zby zap))))
   (zad (zb7 PassesOwn.never rfl (zrv (zat (pv 0) rfl)) (zci 3 zwf.nd)
    (zac (za9 4 zwf.nd (zcd hu (zat (pv 0) rfl) (pv 3) (fun _ _=>rfl)))
    (zad (zbn (PW.pt (zdg (zfr (za8 (pv 0) T.cl mI GI hr1 bI .nil zb3 (pa1 (pv 3)))) (zdg (zcy zuy (zba zcm (pv 2) (zbj zal (zat (pv 0) rfl) (ixT (pv 4)) (fun _ _=>rfl))) (ixT (pv 4))) (zdk (zfw ze3 (pv 3) (pv 1) (by with_unfolding_all rfl)))))) zby zap)))))),?_⟩
  obtain ⟨dx,hp⟩:=hA.ins
  refine fun N1 c1=>⟨_,rfl,a.p,C,dx,_,_,rfl,hp,T.cl,T.nN,h_n,c1 _ _ ?_⟩
  clear c1 N1
  refine fun N1 c1=>⟨_,rfl,fl,rfl,⟨_,SqL.of hfl⟩,?_⟩
  refine zbu (K:=K) (a:=fl) (xs:=fs.map fun i:Nat=>V.int (i:Int)) (fun i σ' H'=>∃v3,σ'=[some (.ref a.p),some (.ref fl),some (.int a.now),v3,none]/\H'=H) ⟨none,rfl,rfl⟩ ?_ ?_ ?_
  ·rintro i σ' H1 _ ⟨v3,rfl,rfl⟩
   exact SqL.of hfl
  ·rintro i y σ' H1 hy ⟨v3,rfl,rfl⟩
   rw [ZA0] at hy
   cases hq:fs[i]? with
   | none=>rw [hq] at hy;cases hy
   | some e=>
    rw [hq] at hy
    cases hy
    have he:=ZA1 hq
    obtain ⟨fa,t,f1,f2,f3,f4,f5⟩:=hF.ok e he
    obtain ⟨l1,l2⟩:=hF.lt e fa f1
    refine ⟨_,rfl,a.p,dx,_,rfl,hp,by with_unfolding_all rfl,_,rfl,a,e,fa,t,rfl,hA,f1,l1,l2,f2,f3,f4,f5,?_⟩
    rw [zfh] at hfl
    refine ⟨_,rfl,.inl ⟨rfl,_,SqL.of hfl⟩,_,rfl,fl,_,_,rfl,rfl,hfl,_,_,rfl,rfl,_,rfl,zct ?_ ⟨_,rfl,rfl⟩⟩
    have h1:(fs.map fun i:Nat=>(i:Int)).Nodup:=by
     unfold List.Nodup
     rw [List.pairwise_map]
     exact hF.nd.imp fun h z=>h (by lia)
    have:=List.nodup_iff_count.mp h1 (e:Int)
    lia
  rintro σ' H1 ⟨v3,rfl,rfl⟩
  refine c1 _ _ ?_
  clear c1 N1
  refine ⟨_,rfl,a.p,C,dx,_,_,rfl,hp,T.cl,T.nB,h_b,a.be,kvs,rfl,hbe,fun _ o=>?_⟩
  have hfz:upd H1 a.be (.frz o (.dK kvs)) a.be=some (.frz o (.dK kvs)):=zab
  have kp:∀b u,H1 b=some u->b≠a.be->upd H1 a.be (.frz o (.dK kvs)) b=some u:=fun b u e n=>by rw [zaf n];exact e
  have hA2:a.At C (upd H1 a.be (.frz o (.dK kvs))):=zc0.frz hA hbe (.inr ⟨o,hfz⟩) kp
  have kk:=k o kvs _ hbe hfz kp
  have hfl2:=kp _ _ hfl (zao hfl hbe nofun)
  generalize upd H1 a.be (.frz o (.dK kvs))=H2 at*
  obtain ⟨dx2,hp2⟩:=hA2.ins
  obtain ⟨kvs',r1,r2,r3,r4⟩:=hA2.falls
  have ek:kvs'=kvs:=by
   rcases r1 with r1 | ⟨o',r1⟩
   ·rw [hfz] at r1;cases r1
   ·rw [hfz] at r1;cases r1;rfl
  subst ek
  refine zqo (a:=a.be) (o:=o) (kvs:=kvs') (fun i σ' H'=>∃v3 v4,σ'=[some (.ref a.p),some (.ref fl),some (.int a.now),v3,v4]/\H'=H2) ⟨_,_,rfl,rfl⟩ ?_ ?_ ?_
  ·rintro i σ' H3 _ ⟨v3,v4,rfl,rfl⟩
   exact hfz
  ·rintro i key v σ' H3 hkv ⟨v3,v4,rfl,rfl⟩
   obtain ⟨e,he⟩:=r2.2 _ (ZA1 hkv)
   have he:key=Sum.inl (e:Int):=he
   subst he
   obtain ⟨fa,hf⟩:∃fa,a.F e=some fa:=by
    cases h:a.F e with
    | none=>exact absurd (r3 e h) (zot hkv)
    | some fa=>exact ⟨fa,rfl⟩
   obtain ⟨l1,l2⟩:=hF.lt e fa hf
   obtain ⟨q,q1,q2⟩:=r4 e fa hf
   have dg:zev H3 a.be (.int (e:Int)) (some (.ref q)):=.inl ⟨kvs',.inl (e:Int),r1,rfl,q1.symm⟩
   refine fun N2 c2=>⟨_,rfl,a.p,C,dx2,_,_,rfl,hp2,T.cl,T.nB,h_b,_,rfl,a.be,_,rfl,dg,c2 _ _ ?_⟩
   clear c2 N2
   refine ⟨_,rfl,a.p,dx2,_,rfl,hp2,by with_unfolding_all rfl,_,rfl,a,e,fa,rfl,hA2,hf,l1,l2,_,rfl,?_⟩
   cases h1:HD.cm a.c e with
   | some t=>exact zde (zde ⟨_,_,rfl,rfl⟩)
   | none=>
    cases h2:HD.cm a.c fa.1 with
    | none=>exact zde (zde ⟨_,_,rfl,rfl⟩)
    | some t=>
     have hat:=zc6 l2
     rw [h2] at hat
     refine zft ⟨_,rfl,_,rfl,a.p,C,dx2,_,_,rfl,hp2,T.cl,T.nC,h_c,_,rfl,rdT q2 rfl ⟨a.ca,_,_,_,rfl,rfl,hA2.came,hat,_,_,rfl,rfl,_,rfl,rdT q2 rfl ⟨_,_,rfl,rfl,_,rfl,?_⟩⟩⟩
     by_cases h3:fa.2.2<=a.now-t
     case neg=>exact zct h3 (zde ⟨_,_,rfl,rfl⟩)
     refine zep h3 ⟨_,rfl,_,rfl,fl,_,rfl,.inl (SqL.of hfl2),rfl,zh8,_,rfl,zf3 ?_ ⟨_,_,rfl,rfl⟩⟩
     show (!inV (V.int (e:Int)) _)=false
     rw [zju,ZB8 (hF.all e fa t hf h1 h2 h3)]
     rfl
  ·rintro σ' H3 ⟨v3,v4,rfl,rfl⟩
   exact kk
end Y0
namespace MU
def zid (st:St):Prop:=(∀(i:Nat) (r:Row),st.rows[i]?=some r->r.used.length<=2/\∀j∈r.used,j<i)/\∀b,st.bar=some b->∃r,st.rows[b]?=some r/\zih r.what
theorem zkc {st:St} {w:zas} {word:Wd} {us:List Nat} (h:zid st) (hu:us.length<=2/\∀j∈us,j<st.rows.length):zid (take st w word us):=by
 unfold take
 split
 ·refine ⟨fun i r hr=>?_,fun b hb=>?_⟩
  ·have hr:(st.rows++[⟨w,word,us⟩])[i]?=some r:=hr
   by_cases hi:i<st.rows.length
   ·rw [ZBq hi] at hr
    exact h.1 i r hr
   ·rw [ZBk (by lia)] at hr
    cases hk:i-st.rows.length with
    | zero=>
     rw [hk] at hr
     cases hr
     exact ⟨hu.1,fun j hj=>by have:=hu.2 j hj;lia⟩
    | succ k=>rw [hk] at hr;cases hr
  ·have hb:(if st.bar=none/\zih w then some st.rows.length else st.bar)=some b:=hb
   show ∃r,(st.rows++[(⟨w,word,us⟩:Row)])[b]?=some r/\zih r.what
   by_cases hc:st.bar=none/\zih w
   ·rw [if_pos hc] at hb
    cases hb
    exact ⟨_,by rw [ZBk (ZAw _),Nat.sub_self];rfl,hc.2⟩
   ·rw [if_neg hc] at hb
    obtain ⟨r,hr,hB⟩:=h.2 b hb
    exact ⟨r,by rw [ZBq (ZAv.mp hr).1];exact hr,hB⟩
 ·exact h
theorem zm0 {st:St} {o:Option zas} {word:Wd} {us:List Nat} (h:zid st) (hu:∀x,o=some x->us.length<=2/\∀j∈us,j<st.rows.length):zid (put st o word us):=by
 cases o with
 | none=>exact h
 | some x=>exact zkc h (hu x rfl)
theorem zfn {f:zas->Option zas} {word:Wd} {i:Nat} {st:St} (h:zid st):zid (za2 f word i st):=by
 refine zm0 h fun x hx=>⟨by show 1<=2;lia,fun j hj=>?_⟩
 cases hw:wat st i with
 | none=>rw [hw] at hx;cases hx
 | some y=>rw [ZBd.mp hj];exact zd7 hw
theorem zfm {f:zas->zas->Option zas} {word:Wd} {i j:Nat} {st:St} (h:zid st):zid (zar f word i j st):=by
 refine zm0 h fun x hx=>⟨ZAw 2,fun k hk=>?_⟩
 cases hw:wat st i with
 | none=>rw [hw] at hx;cases hx
 | some y=>
  rw [hw] at hx
  cases hw':wat st j with
  | none=>rw [show ((some y).bind fun p=>(wat st j).bind fun q=>f p q)=(wat st j).bind fun q=>f y q from rfl,hw'] at hx;cases hx
  | some z=>
   rcases ZBe.mp hk with rfl | hk
   ·exact zd7 hw
   ·rw [ZBd.mp hk];exact zd7 hw'
theorem zea {α:Type} {g:St->α->St} (hg:∀st a,zid st->zid (g st a)):∀(l:List α) (st:St),zid st->zid (l.foldl g st)
 | [],_,h=>h
 | a::l,st,h=>zea hg l _ (hg st a h)
theorem zny (rows:List zas) (st:St) (h:zid st):zid (zf7 rows st):=zea (fun st w h=>zkc h ⟨ZBa _,fun j hj=>absurd hj (by simp)⟩) rows st h
theorem zob:zid empty:=⟨fun i r h=>by simp [empty] at h,fun b h=>by simp [empty] at h⟩
theorem zk6 {n:Nat} {F:zaz} {at_ a b:Nat} {st:St} (h:zid st):zid (zbz n F at_ a b st):=
 zea (fun _ _ h=>zfm h) _ _ (zea (fun _ _ h=>zfm h) _ _ (zea (fun _ _ h=>zfm h) _ _ (zfn (zfn h))))
theorem zjw {n:Nat} {F:zaz} {at_ a:Nat} {st:St} (h:zid st):zid (za6 n F at_ a st):=
 zea (fun _ _ h=>zfm h) _ _ (zfn (zfn h))
theorem zmu {n:Nat} {F:zaz} {st:St} (h:zid st):∀t,zid (run n F st t)
 | 0=>h
 | t+1=>by
  have ih:=zmu (n:=n) (F:=F) h t
  show zid (look n F t (run n F st t))
  unfold look
  split
  ·split
   ·split
    ·exact zk6 ih
    ·exact zjw ih
   ·exact ih
  ·exact ih
end MU
namespace Y0
open PySem L2
seal L2.PE L2.PA L2.PT L2.PS L2.PSs L2.PG L2.PGs L2.PI L2.PO
def zw6 (rows:List MU.Row):Prop:=∀(i:Nat) (r:MU.Row),rows[i]?=some r->r.used.length<=2/\∀j∈r.used,j<i
structure zy5 (rows:List MU.Row) (last:Nat) (ns:List Nat):Prop where
 up:ns.Pairwise (·<·)
 le:∀i∈ns,i<=last
 has:last∈ns
 uses:∀i∈ns,∀r,rows[i]?=some r->∀j∈r.used,j∈ns
 why:∀i∈ns,i=last\/∃k∈ns,∃r,rows[k]?=some r/\i∈r.used
structure NI (rows:List MU.Row) (last:Nat) (P:Nat->Prop) (ks:List Nat):Prop where
 once:ks.Nodup
 le:∀k∈ks,k<=last
 has:last∈ks
 why:∀i∈ks,i=last\/∃k∈ks,∃r,rows[k]?=some r/\i∈r.used
 fin:∀k∈ks,P k->∀r,rows[k]?=some r->∀j∈r.used,j∈ks
def zve (ks:List Nat) (j:Nat):List Nat:=if j∈ks then ks else ks++[j]
theorem zdd {ks:List Nat} {j k:Nat}:k∈zve ks j↔k∈ks\/k=j:=by
 unfold zve
 split
 ·exact ⟨.inl,fun h=>h.elim id fun e=>e▸‹j∈ks›⟩
 ·simp
theorem NI.add {rows:List MU.Row} {last m j:Nat} {P:Nat->Prop} {ks:List Nat} {r:MU.Row} (h:NI rows last P ks) (hm:m∈ks) (hr:rows[m]?=some r) (hj:j∈r.used) (hjm:j<=m) (hP:¬P j):NI rows last P (zve ks j):=by
 refine ⟨?_,fun k hk=>?_,zdd.mpr (.inl h.has),fun i hi=>?_,fun k hk hp r' hr' j' hj'=>?_⟩
 ·unfold zve
  split
  ·exact h.once
  ·rename_i hn
   exact List.nodup_append.mpr ⟨h.once,List.nodup_cons.mpr ⟨nofun,List.nodup_nil⟩,fun a ha b hb e=>hn (by rw [ZBd.mp hb] at e;rw [<-e];exact ha)⟩
 ·rcases zdd.mp hk with hk | rfl
  ·exact h.le k hk
  ·have:=h.le m hm
   lia
 ·rcases zdd.mp hi with hi | rfl
  ·rcases h.why i hi with e | ⟨k,hk,r',h1,h2⟩
   ·exact .inl e
   ·exact .inr ⟨k,zdd.mpr (.inl hk),r',h1,h2⟩
  ·exact .inr ⟨m,zdd.mpr (.inl hm),r,hr,hj⟩
 ·rcases zdd.mp hk with hk | rfl
  ·exact zdd.mpr (.inl (h.fin k hk hp r' hr' j' hj'))
  ·exact absurd hp hP
def zsa (ks:List Nat):List Key:=ks.map fun i:Nat=>Sum.inl (i:Int)
theorem zjr {ks:List Nat} {j:Nat}:(Sum.inl (j:Int):Key)∈zsa ks↔j∈ks:=by
 unfold zsa
 rw [ZBr]
 constructor
 ·rintro ⟨k,hk,e⟩
  have:=Int.ofNat.inj (Sum.inl.inj e)
  exact this▸hk
 ·exact fun h=>⟨j,h,rfl⟩
theorem zr9 {kvs:List (Key×V)} {ks:List Nat} {j:Nat} {v:V} (h:kvs.map (·.1)=zsa ks):(zet kvs (Sum.inl (j:Int)) v).map (·.1)=zsa (zve ks j):=by
 have hm:(kvs.any fun kv=>decide (kv.1=Sum.inl (j:Int)))=true↔j∈ks:=by
  rw [List.any_eq_true,<-zjr,<-h,ZBr]
  constructor
  ·rintro ⟨kv,h1,h2⟩
   exact ⟨kv,h1,by simpa using h2⟩
  ·rintro ⟨kv,h1,h2⟩
   exact ⟨kv,h1,by simpa using h2⟩
 unfold zet zve
 by_cases hj:j∈ks
 ·rw [if_pos (hm.mpr hj),if_pos hj,<-h,List.map_map]
  refine List.map_congr_left fun kv _=>?_
  show (if kv.1=Sum.inl (j:Int) then (kv.1,v) else kv).1=kv.1
  split<;>rfl
 ·rw [if_neg (fun z=>hj (hm.mp z)),if_neg hj,ZA9,h]
  unfold zsa
  rw [ZA9]
  rfl
theorem zns {kvs:List (Key×V)} {ks:List Nat} {j:Nat} (h:kvs.map (·.1)=zsa ks):(zel kvs (Sum.inl (j:Int))).isSome=decide (j∈ks):=by
 rw [<-zec]
 by_cases hj:j∈ks
 ·rw [ZB8 hj]
  have:(Sum.inl (j:Int):Key)∈kvs.map (·.1):=by rw [h];exact zjr.mpr hj
  obtain ⟨kv,h1,h2⟩:=ZBr.mp this
  exact List.any_eq_true.mpr ⟨kv,h1,by simpa using h2⟩
 ·rw [ZB9 hj]
  refine List.any_eq_false.mpr fun kv h1=>?_
  intro z
  have:(Sum.inl (j:Int):Key)∈kvs.map (·.1):=ZBr.mpr ⟨kv,h1,by simpa using z⟩
  rw [h] at this
  exact hj (zjr.mp this)
def zs6:Sp:=fun vs H Q _=>∃(rl:Addr) (qs:List Addr) (rows:List MU.Row) (last:Nat),vs=[.ref rl,.int (last:Int)]/\H rl=some (.lst (qs.map V.ref))/\Paired (zif H) qs rows/\zw6 rows/\last<rows.length/\rows.length<=16500000/\
 ∀l H' ns,H l=none->zbe H H'->H' l=some (.lst (zcp ns))->zy5 rows last ns->Q (.ref l) H'
abbrev nNn:List Str:=["rows","last","needed","at","number"]
theorem zxf:zam nNn ["rows","last"] (zae sP_numbers_needed):=scm
theorem ok_needed {f:Addr} {fd:FuncData} (F:Fn K mg "numbers_needed" sP_numbers_needed ["rows","last"] f fd) (hR:mg "range"=none) (hS:mg "sorted"=none):za3 P w K mg base CX0 1 f fd ["rows","last"] zs6:=by
 refine F.F.ok zxf (fun _ _ _ _ h=>?_) fun _ A _ s H _ Q E hr h=>?_
 ·obtain ⟨_,_,_,_,rfl,_⟩:=h
  rfl
 ·obtain ⟨rl,qs,rows,last,rfl,hrl,hrows,hU,hlast,hlen,k⟩:=h
  have hu:=zei hr
  refine ⟨_,zac (za9 2 zxf.nd (zur (zrt (pv 1) zhz zuo) rfl rfl (by simp) (by simp)))
   (zac (zb7 PassesOwn.never rfl (zpu rfl hR (pa3 (pv 1) (zn1 zim zaj) (zn1 zim zaj))) (zci 3 zxf.nd)
    (zad (zbn (zg5 (zp0 hu (pv 3) (pv 2)) (by with_unfolding_all rfl))
     (zad (zb7 PassesOwn.never rfl (zpt (ixT (zbj zal (pv 0) (pv 3) (fun _ _=>rfl)))) (zci 4 zxf.nd)
      (zad (zjl hu (pv 2) (pv 4) zhz rfl)))) zap)))
   (zad (zaq (zbs (zld rfl) (by rfl) hS PyProof.Rows.boot_sorted (pa1 (pv 2)))))),?_⟩
  refine fun N1 c1 d hd=>⟨_,rfl,zab,[(Sum.inl (last:Int),.bl true)],rfl,by simp,c1 _ _ ?_⟩
  rw [zlr]
  have hql:qs.length=rows.length:=Paired.length hrows
  have e1:upd H d (.dK (zg9 [] [(Sum.inl (last:Int),.bl true)])) d=some (.dK [(Sum.inl (last:Int),.bl true)]):=zab
  have s1:=zag (o:=.dK (zg9 [] [(Sum.inl (last:Int),.bl true)])) hd
  generalize upd H d (.dK (zg9 [] [(Sum.inl (last:Int),.bl true)]))=H1 at*
  clear c1 N1
  have ev:[V.int (last:Int),V.int (-1),V.int (-1)]=[V.int (((last+1:Nat):Int)-1),V.int (-1),V.int (-1)]:=by rw [show ((last+1:Nat):Int)-1=(last:Int) by lia]
  have dr:d≠rl:=ZAl (zaa hrl hd)
  refine fun N2 c2=>⟨_,rfl,_,rfl,_,rfl,last+1,ev,by lia,?_⟩
  refine zsh (fun i σ' H'=>∃v3 v4 kvs ks,σ'=[some (.ref rl),some (.int (last:Int)),some (.ref d),v3,v4]/\H' d=some (.dK kvs)/\kvs.map (·.1)=zsa ks/\NI rows last (fun k=>last<k+i) ks/\∀b o,H b=some o->H' b=some o)
   ⟨none,none,_,[last],rfl,e1,rfl,⟨List.nodup_cons.mpr ⟨nofun,List.nodup_nil⟩,fun k hk=>by rw [ZBd.mp hk];exact ZAw _,ZBd.mpr rfl,fun k hk=>.inl (ZBd.mp hk),fun k hk hp=>by have:=ZBd.mp hk;lia⟩,fun b o e=>s1 _ _ e⟩ ?_ ?_
  ·rintro i σ' H2 hi ⟨v3,v4,kvs,ks,rfl,ed,hkv,hN,kp⟩
   obtain ⟨at_,hat⟩:∃at_,at_+i=last:=⟨last-i,by lia⟩
   have ex:V.int ((((last+1:Nat):Int)-1)-(i:Int))=V.int (at_:Int):=by rw [show (((last+1:Nat):Int)-1)-(i:Int)=(at_:Int) by lia]
   rw [ex]
   have dg:zev H2 d (.int (at_:Int)) (zel kvs (Sum.inl (at_:Int))):=zev.k (k:=Sum.inl (at_:Int)) ed
   refine ⟨_,rfl,_,rfl,d,_,rfl,dg,_,rfl,?_⟩
   rw [zns hkv]
   by_cases hin:at_∈ks
   ·refine zep hin ?_
    obtain ⟨q,hq⟩:∃q,qs[at_]?=some q:=⟨_,ZAx (by lia)⟩
    obtain ⟨r,hr',pw,pu,g4,g5,g6⟩:=paired_get hrows hq
    have hatI:atI (qs.map V.ref) (at_:Int)=some (.ref q):=zb1 (by rw [ZA0,hq];rfl)
    refine ⟨_,rfl,zvq rfl (kp _ _ hrl) hatI (rdT (kp _ _ g4) rfl ⟨pu,rfl,⟨_,SqT.of (kp _ _ g6)⟩,?_⟩)⟩
    refine zu9 (K:=K) (a:=pu) (xs:=r.used.map fun i:Nat=>V.int (i:Int)) (fun m σ' H'=>∃v4 kvs ks,σ'=[some (.ref rl),some (.int (last:Int)),some (.ref d),some (.int (at_:Int)),v4]/\H' d=some (.dK kvs)/\kvs.map (·.1)=zsa ks/\NI rows last (fun k=>last<k+i) ks/\at_∈ks/\(∀j∈r.used.take m,j∈ks)/\∀b o,H b=some o->H' b=some o)
     ⟨v4,kvs,ks,rfl,ed,hkv,hN,hin,fun j hj=>by simp at hj,kp⟩ ?_ ?_ ?_
    ·rintro m σ' H3 _ ⟨_,_,_,rfl,_,_,_,_,_,kp3⟩
     exact SqT.of (kp3 _ _ g6)
    ·rintro m x σ' H3 hx ⟨v4,kvs,ks,rfl,ed,hkv,hN,hin,hm,kp3⟩
     rw [ZA0] at hx
     cases hj:r.used[m]? with
     | none=>rw [hj] at hx;cases hx
     | some j=>
      rw [hj] at hx
      cases hx
      have hjm:=ZA1 hj
      have hja:=(hU at_ r hr').2 j hjm
      have hl:kvs.length<=last+1:=by
       have h1:=congrArg List.length hkv
       unfold zsa at h1
       rw [ZAu,ZAu] at h1
       have:=MH.zeh (last+1) ks hN.once fun z hz=>by have:=hN.le z hz;lia
       lia
      refine ⟨_,rfl,_,rfl,d,_,rfl,zre.k (k:=Sum.inl (j:Int)) ed (zkn (by lia)),?_⟩
      refine ⟨_,_,zve ks j,rfl,zab,zr9 hkv,hN.add hin hr' hjm (ZBb hja) (by lia),zdd.mpr (.inl hin),fun j' hj'=>?_,fun b o e=>?_⟩
      ·rw [ZBu,hj] at hj'
       rcases ZBo.mp hj' with hj' | hj'
       ·exact zdd.mpr (.inl (hm j' hj'))
       ·exact zdd.mpr (.inr (by simpa using hj'))
      ·rw [zaf (zaa e hd)]
       exact kp3 _ _ e
    ·rintro σ' H3 ⟨v4,kvs,ks,rfl,ed,hkv,hN,hin,hm,kp3⟩
     have hall:r.used.take (r.used.map fun i:Nat=>V.int (i:Int)).length=r.used:=by rw [ZAu];exact ZBi
     rw [hall] at hm
     refine ⟨_,_,kvs,ks,rfl,ed,hkv,⟨hN.once,hN.le,hN.has,hN.why,fun k hk hp r' hr2 j hj=>?_⟩,kp3⟩
     by_cases e:k=at_
     ·subst e
      rw [hr'] at hr2
      cases hr2
      exact hm j hj
     ·exact hN.fin k hk (by lia) r' hr2 j hj
   ·refine zct hin ⟨_,_,kvs,ks,rfl,ed,hkv,⟨hN.once,hN.le,hN.has,hN.why,fun k hk hp r' hr2 j hj=>?_⟩,kp⟩
    exact hN.fin k hk (by have:k≠at_:=fun e=>hin (e▸hk);lia) r' hr2 j hj
  ·rintro σ' H2 ⟨v3,v4,kvs,ks,rfl,ed,hkv,hN,kp⟩
   refine c2 _ _ ⟨_,rfl,d,kvs,ks.map fun i:Nat=>(i:Int),rfl,ed,by rw [hkv,List.map_map];rfl,fun l ns' hl hpm hup=>?_⟩
   have hlH:H l=none:=by
    cases q:H l with
    | none=>rfl
    | some x=>rw [kp _ _ q] at hl;cases hl
   have hback:∀{l:List Int},(∀z∈l,0<=z)->(l.map Int.toNat).map (fun i:Nat=>(i:Int))=l:=fun {l} h=>by
    rw [List.map_map]
    conv=>rhs;rw [<-List.map_id l]
    exact List.map_congr_left fun z hz=>ZAg (h z hz)
   have hnn:∀z∈ns',0<=z:=fun z hz=>by
    obtain ⟨k,_,rfl⟩:=ZBr.mp (hpm.mem_iff.mp hz)
    lia
   have hpn:(ns'.map Int.toNat).Perm ks:=by
    have:=hpm.map Int.toNat
    rw [List.map_map] at this
    have e:ks.map (Int.toNat ∘ fun i:Nat=>(i:Int))=ks:=by
     conv=>rhs;rw [<-List.map_id ks]
     exact List.map_congr_left fun z _=>ZBx z
    rw [e] at this
    exact this
   have s3:zbe H (upd H2 l (.lst (ns'.map V.int))):=fun b o e=>by rw [zaf (zaa (kp _ _ e) hl)];exact kp _ _ e
   refine k l _ (ns'.map Int.toNat) hlH s3 ?_ ⟨?_,fun i hi=>hN.le i (hpn.mem_iff.mp hi),hpn.mem_iff.mpr hN.has,fun i hi r' hr' j hj=>?_,fun i hi=>?_⟩
   ·rw [zab]
    unfold zcp
    have e:ns'.map V.int=(ns'.map Int.toNat).map fun i:Nat=>V.int (i:Int):=by
     conv=>lhs;rw [<-hback hnn]
     rw [List.map_map]
     rfl
    rw [e]
   ·have hnd:(ns'.map Int.toNat).Nodup:=hpn.nodup_iff.mpr hN.once
    have h1:(ns'.map Int.toNat).Pairwise (·<=·):=by
     rw [List.pairwise_map]
     exact hup.imp fun h=>Int.toNat_le_toNat h
    exact h1.imp₂ (fun a b h h'=>Nat.lt_of_le_of_ne h h') hnd
   ·have hi':=hpn.mem_iff.mp hi
    have:=hN.le i hi'
    exact hpn.mem_iff.mpr (hN.fin i hi' (by lia) r' hr' j hj)
   ·rcases hN.why i (hpn.mem_iff.mp hi) with e | ⟨k',hk',r',h1,h2⟩
    ·exact .inl e
    ·exact .inr ⟨k',hpn.mem_iff.mpr hk',r',h1,h2⟩
def zfg (rows:List MU.Row) (ns:List Nat) (i:Nat):Option MU.Row:=(rows[i]?).map fun r=>⟨r.what,r.word,r.used.map fun j=>ns.idxOf j⟩
def zp1 (rows:List MU.Row) (ns:List Nat):List MU.Row:=ns.filterMap (zfg rows ns)
theorem zwy {ns:List Nat} {m x:Nat} (hn:ns.Nodup) (h:ns[m]?=some x):ns.idxOf x=m:=by
 obtain ⟨hm,rfl⟩:=ZAv.mp h
 exact List.Nodup.idxOf_getElem hn m hm
theorem zrj {ns:List Nat} (h:ns.Pairwise (·<·)):ns.Nodup:=h.imp fun h=>ZBj h
theorem zt0 {ns:List Nat} (h:ns.Pairwise (·<·)) {m x j:Nat} (hx:ns[m]?=some x) (hj:j∈ns) (hlt:j<x):j∈ns.take m:=by
 obtain ⟨i,hi,e⟩:=ZBs hj
 obtain ⟨hm,e'⟩:=ZAv.mp hx
 have him:i<m:=ZAz fun z=>by
  rcases Nat.lt_or_eq_of_le (ZB5 z) with z | z
  ·have:=ZBt.mp h m i hm hi z
   lia
  ·subst z
   lia
 rw [<-e]
 exact List.mem_take_iff_getElem.mpr ⟨i,by lia,rfl⟩
def zo6:Sp:=fun vs H Q _=>∃(rl:Addr) (qs:List Addr) (rows:List MU.Row) (last:Nat),vs=[.ref rl,.int (last:Int)]/\H rl=some (.lst (qs.map V.ref))/\Paired (zif H) qs rows/\zw6 rows/\last<rows.length/\rows.length<=16500000/\
 ∀l H' ns ps,H l=none->zbe H H'->zy5 rows last ns->H' l=some (.lst (ps.map V.ref))->Paired (zif H') ps (zp1 rows ns)->Q (.ref l) H'
abbrev nPu:List Str:=["rows","last","places","paper","number","row"]
theorem zwd:zam nPu ["rows","last"] (zae sP_paper_up_to):=scm
theorem zBb:zbw (zae sP_paper_up_to) nPu (fsc [(".0",.local),("used",.local),("places",.free)]) ["used","places"] [none,some 2]:=com
theorem zAp:(["used","places"]:List Str).Nodup:=by decide+kernel
theorem ok_paperUp {f fN:Addr} {fd fdN:FuncData} (F:Fn K mg "paper_up_to" sP_paper_up_to ["rows","last"] f fd) (hL:mg "len"=none) (hT:mg "tuple"=none)
 (FN:Fn K mg "numbers_needed" sP_numbers_needed ["rows","last"] fN fdN) (GN:za3 P w K mg base CX0 1 fN fdN ["rows","last"] zs6):za3 P w K mg base CX0 2 f fd ["rows","last"] zo6:=by
 refine F.F.ok zwd (fun _ _ _ _ h=>?_) fun _ A _ s H _ Q E hr h=>?_
 ·obtain ⟨_,_,_,_,rfl,_⟩:=h
  rfl
 ·obtain ⟨rl,qs,rows,last,rfl,hrl,hrows,hU,hlast,hlen,k⟩:=h
  have hu:=zei hr
  refine ⟨_,zac (zem (i:=2) zwd.nd rfl (Or.inr rfl) zm2)
   (zac (za9 3 zwd.nd (zen zfs))
   (zac (zb7 PassesOwn.never rfl (za4 (pcl GN hr FN (pa2 (pv 0) (pv 1)))) (zci 4 zwd.nd)
    (zac (za9 5 zwd.nd (zbj zal (pv 0) (pv 4) (fun _ _=>rfl)))
    (zac (zjl hu (pv 2) (pv 4) (zbs zcz (by rfl) hL ZAn (pa1 (pv 3))) rfl)
    (zad (za7 (zhy ZAr ZAs ZAt zcg (pv 3) (pa1 (zbf (pa3 (ixT (pv 5)) (ixT (pv 5)) (zdt zgl (by rfl) hT (by decide+kernel) (pa1 (zcv rfl (zpt (ixT (pv 5))) zBb (fun cl ex s0 H0=>⟨zci 0 zAp,zdn,zcd hu (pv 1) (pv 0) (fun _ _=>rfl)⟩)))))))))))))
   (zad (zaq (pv 3))))),?_⟩
  refine fun N1 c1 d hd=>c1 _ _ ?_
  have s1:=zag (o:=.dK []) hd
  have e1:upd H d (.dK []) d=some (.dK []):=zab
  generalize upd H d (.dK [])=H1 at*
  clear c1 N1
  refine fun N2 c2=>⟨ZBa _,fun pl hpl=>c2 _ _ ?_⟩
  have s2:=zag (o:=.lst []) hpl
  have e2:upd H1 pl (.lst []) pl=some (.lst []):=zab
  have plH:H pl=none:=by
   cases q:H pl with
   | none=>rfl
   | some x=>rw [s1 _ _ q] at hpl;cases hpl
  have dpl:d≠pl:=zaa e1 hpl
  generalize upd H1 pl (.lst [])=H2 at*
  clear c2 N2
  have s02:=s1.trans s2
  have hql:qs.length=rows.length:=Paired.length hrows
  refine fun N3 c3=>⟨_,rfl,_,rfl,rl,qs,rows,last,rfl,s02 _ _ hrl,zai hrows fun q r e=>e.same s02,hU,hlast,hlen,fun l H3 ns hl s3 el hN=>?_⟩
  have hnd:=zrj hN.up
  have hnl:ns.length<=last+1:=MH.zeh (last+1) ns hnd fun z hz=>by have:=hN.le z hz;lia
  have s03:=s02.trans s3
  have ed3:=s3 _ _ (s2 _ _ e1)
  have ep3:=s3 _ _ e2
  have lH:H l=none:=by
   cases q:H l with
   | none=>rfl
   | some x=>rw [s02 _ _ q] at hl;cases hl
  have ld:l≠d:=ZAl (zaa (s2 _ _ e1) hl)
  have lp:l≠pl:=ZAl (zaa e2 hl)
  refine ⟨l,rfl,⟨_,SqL.of el⟩,?_⟩
  refine zbu (K:=K) (a:=l) (xs:=zcp ns) (fun m σ' H'=>∃v4 v5 kvs ps,σ'=[some (.ref rl),some (.int (last:Int)),some (.ref d),some (.ref pl),v4,v5]/\H' d=some (.dK kvs)/\kvs.length<=m/\
   (∀j:Nat,j∈ns.take m->zel kvs (Sum.inl (j:Int))=some (.int (ns.idxOf j:Int)))/\H' pl=some (.lst (ps.map V.ref))/\ps.length=m/\Paired (zif H') ps ((ns.take m).filterMap (zfg rows ns))/\H' l=some (.lst (zcp ns))/\zbe H H')
   ⟨none,none,[],[],rfl,ed3,ZAw _,fun j hj=>by simp at hj,ep3,rfl,.nil,el,s03⟩ ?_ ?_ ?_
  ·rintro m σ' H4 _ ⟨_,_,_,_,rfl,_,_,_,_,_,_,e,_⟩
   exact SqL.of e
  ·rintro m x σ' H4 hx ⟨v4,v5,kvs,ps,rfl,ed,hkl,hkv,ep,hpl',hps,el4,s4⟩
   unfold zcp at hx
   rw [ZA0] at hx
   cases hj:ns[m]? with
   | none=>rw [hj] at hx;cases hx
   | some num=>
    rw [hj] at hx
    cases hx
    have hmn:m<ns.length:=(ZAv.mp hj).1
    have hnum:=hN.le num (ZA1 hj)
    obtain ⟨q,hq⟩:∃q,qs[num]?=some q:=⟨_,ZAx (by lia)⟩
    obtain ⟨r,hr',pw,pu,g4,g5,g6⟩:=paired_get hrows hq
    have hat:atI (qs.map V.ref) (num:Int)=some (.ref q):=zb1 (by rw [ZA0,hq];rfl)
    refine fun N5 c5=>⟨_,rfl,zvq rfl (s4 _ _ hrl) hat (c5 _ _ ?_)⟩
    clear c5 N5
    refine fun N6 c6=>⟨_,rfl,pl,_,rfl,.inl (SqL.of ep),_,rfl,_,rfl,d,_,rfl,zre.k (k:=Sum.inl (num:Int)) ed (zkn (by lia)),c6 _ _ ?_⟩
    rw [ZAu,hpl']
    clear c6 N6
    have kd:∀{b:Addr} {o:HO},H4 b=some o->b≠d->upd H4 d (.dK (zet kvs (Sum.inl (num:Int)) (.int (m:Int)))) b=some o:=fun e ne=>by rw [zaf ne];exact e
    have ed5:upd H4 d (.dK (zet kvs (Sum.inl (num:Int)) (.int (m:Int)))) d=some (.dK (zet kvs (Sum.inl (num:Int)) (.int (m:Int)))):=zab
    have s5:zbe H (upd H4 d (.dK (zet kvs (Sum.inl (num:Int)) (.int (m:Int))))):=fun b o e=>kd (s4 _ _ e) (zaa e hd)
    have ep5:=kd ep (ZAl dpl)
    have el5:=kd el4 ld
    have hps5:Paired (zif (upd H4 d (.dK (zet kvs (Sum.inl (num:Int)) (.int (m:Int)))))) ps ((ns.take m).filterMap (zfg rows ns)):=zai hps fun q r ⟨pw,pu,h1,h2,h3⟩=>
     ⟨pw,pu,kd h1 (zao h1 ed nofun),kd h2 (zao h2 ed nofun),kd h3 (zao h3 ed nofun)⟩
    generalize upd H4 d (.dK (zet kvs (Sum.inl (num:Int)) (.int (m:Int))))=H5 at*
    have et:ns.take (m+1)=ns.take m++[num]:=by rw [ZBu,hj];rfl
    have hkv5:∀j:Nat,j∈ns.take (m+1)->zel (zet kvs (Sum.inl (num:Int)) (.int (m:Int))) (Sum.inl (j:Int))=some (.int (ns.idxOf j:Int)):=fun j hj'=>by
     rw [zf6]
     by_cases e:j=num
     ·subst e
      rw [if_pos rfl,zwy hnd hj]
     ·rw [if_neg (show ¬((Sum.inl (j:Int):Key)=Sum.inl (num:Int)) from fun z=>e (Int.ofNat.inj (Sum.inl.inj z)))]
      rw [et] at hj'
      rcases ZBo.mp hj' with h | h
      ·exact hkv j h
      ·exact absurd (ZBd.mp h) e
    have hu2:=hU num r hr'
    refine ⟨_,rfl,.inl ⟨rfl,_,SqL.of ep5⟩,_,rfl,rdT (s5 _ _ g4) rfl ⟨_,rfl,rdT (s5 _ _ g4) rfl ⟨_,rfl,rdT (s5 _ _ g4) rfl ⟨pu,rfl,⟨_,SqT.of (s5 _ _ g6)⟩,fun Da hDa=>?_⟩⟩⟩⟩
    refine zni (xs:=r.used.map fun i:Nat=>V.int (i:Int)) (fun a σ' H'=>∃v,σ'=[v,some (.ref d)]/\H' Da=some (.lst (((r.used.take a).map fun j=>ns.idxOf j).map fun i:Nat=>V.int (i:Int)))/\zbe H5 H') ⟨none,rfl,zab,zag hDa⟩ ?_ ?_ ?_
    ·rintro a σ' H6 _ ⟨v,rfl,_,s6⟩
     exact SqT.of (s6 _ _ (s5 _ _ g6))
    ·rintro a x σ' H6 hx ⟨v,rfl,e6,s6⟩
     rw [ZA0] at hx
     cases hj2:r.used[a]? with
     | none=>rw [hj2] at hx;cases hx
     | some j=>
      rw [hj2] at hx
      cases hx
      have hjm:=ZA1 hj2
      have hjn:=hN.uses num (ZA1 hj) r hr' j hjm
      have hin:j∈ns.take (m+1):=by rw [et];exact ZAb _ (zt0 hN.up hj hjn (hu2.2 j hjm))
      have dg:zev H6 d (.int (j:Int)) (some (.int (ns.idxOf j:Int))):=by
       have:=zev.k (k:=Sum.inl (j:Int)) (s6 _ _ ed5)
       rw [hkv5 j hin] at this
       exact this
      refine ⟨_,rfl,_,rfl,d,_,rfl,dg,_,e6,?_,_,rfl,?_,fun b o e=>?_⟩
      ·rw [ZAu,ZAu,ZBl]
       exact zan (by lia)
      ·rw [zab,ZBu,hj2,ZA9,ZA9]
       rfl
      ·rw [zaf (zaa e hDa)]
       exact s6 _ _ e
    ·rintro σ' H6 ⟨v,rfl,e6,s6⟩
     have hall:r.used.take (r.used.map fun i:Nat=>V.int (i:Int)).length=r.used:=by rw [ZAu];exact ZBi
     rw [hall] at e6
     refine ⟨Da,_,rfl,.inl ⟨SqL.of e6,fun tu htu=>⟨szl rfl,fun rt hrt=>?_⟩⟩⟩
     have s7:=zag (o:=.tup ((r.used.map fun j=>ns.idxOf j).map fun i:Nat=>V.int (i:Int))) htu
     have e7:upd H6 tu (.tup ((r.used.map fun j=>ns.idxOf j).map fun i:Nat=>V.int (i:Int))) tu=some (.tup ((r.used.map fun j=>ns.idxOf j).map fun i:Nat=>V.int (i:Int))):=zab
     generalize upd H6 tu (.tup ((r.used.map fun j=>ns.idxOf j).map fun i:Nat=>V.int (i:Int)))=H7 at*
     have s8:=zag (o:=.tup [.ref pw,.str (zfo r.word),.ref tu]) hrt
     have e8:upd H7 rt (.tup [.ref pw,.str (zfo r.word),.ref tu]) rt=some (.tup [.ref pw,.str (zfo r.word),.ref tu]):=zab
     generalize upd H7 rt (.tup [.ref pw,.str (zfo r.word),.ref tu])=H8 at*
     have s58:=(s6.trans s7).trans s8
     have ep8:=s58 _ _ ep5
     refine ⟨pl,_,_,rfl,rfl,ep8,by rw [ZAu,hpl'];exact zkn (by lia),?_⟩
     have kp:∀{b:Addr} {o:HO},H8 b=some o->b≠pl->upd H8 pl (.lst (ps.map V.ref++[.ref rt])) b=some o:=fun e ne=>by rw [zaf ne];exact e
     have tup:∀{b:Addr} {xs:List V},H8 b=some (.tup xs)->upd H8 pl (.lst (ps.map V.ref++[.ref rt])) b=some (.tup xs):=fun e=>kp e (zao e ep8 nofun)
     refine ⟨_,_,_,ps++[rt],rfl,kp (s58 _ _ ed5) dpl,ZBg (zdb _ _ _) (by lia),hkv5,?_,by rw [ZA3,hpl'];rfl,?_,kp (s58 _ _ el5) lp,fun b o e=>kp (s58 _ _ (s5 _ _ e)) (zaa e plH)⟩
     ·rw [zab,ZA9]
      rfl
     ·rw [et,List.filterMap_append]
      refine zcj (zai hps5 fun q r' ⟨pw',pu',h1,h2,h3⟩=>⟨pw',pu',tup (s58 _ _ h1),tup (s58 _ _ h2),tup (s58 _ _ h3)⟩) ?_
      have er:zfg rows ns num=some ⟨r.what,r.word,r.used.map fun j=>ns.idxOf j⟩:=by unfold zfg;rw [hr'];rfl
      rw [show [num].filterMap (zfg rows ns)=[⟨r.what,r.word,r.used.map fun j=>ns.idxOf j⟩] by simp [er]]
      exact .cons ⟨pw,tu,tup e8,tup (s58 _ _ (s5 _ _ g5)),tup (s8 _ _ e7)⟩ .nil
  ·rintro σ' H4 ⟨v4,v5,kvs,ps,rfl,ed,hkl,hkv,ep,hpl',hps,el4,s4⟩
   have hall:ns.take (zcp ns).length=ns:=by unfold zcp;rw [ZAu];exact ZBi
   rw [hall] at hps
   exact c3 _ _ ⟨_,rfl,k pl H4 ns ps plH s4 hN ep hps⟩
def zb6 (F:MU.zaz) (x:Tri):Bool:=match F x.2.1 with
 | some f=>decide (f.2.1<x.2.2) && decide (x.2.2<=f.2.2)
 | none=>false
def zo3:Sp:=fun vs H Q _=>∃(d q:Addr) (F:MU.zaz) (x:Tri) (f:Nat×Int×Int),vs=[.ref d,.ref q]/\zcx H d F/\zdc H q x/\F x.2.1=some f/\Q (.bl (zb6 F x)) H
theorem zzd:zam ["by_end","wait","fall"] ["by_end","wait"] (zae sP_is_told):=scm
theorem ok_isTold {f:Addr} {fd:FuncData} (F:Fn K mg "is_told" sP_is_told ["by_end","wait"] f fd):za3 P w K mg base CX0 1 f fd ["by_end","wait"] zo3:=by
 refine F.F.ok zzd (fun _ _ _ _ h=>?_) fun _ A _ s H _ Q E hr h=>?_
 ·obtain ⟨_,_,_,_,_,rfl,_⟩:=h
  rfl
 ·obtain ⟨d,q,Fa,x,fa,rfl,FA,hw,hf,k⟩:=h
  have hu:=zei hr
  refine ⟨_,zah (za9 2 zzd.nd (zcd hu (pv 0) (ixT (pv 1)) (fun _ _=>rfl)))
   (zad (zaq (zjn zij zeu (ixT (pv 2)) (ixT (pv 1)) (ixT (pv 2))))),?_⟩
  obtain ⟨kvs,hd,hl,f0,f1⟩:=FA.at_
  obtain ⟨p,e1,e2⟩:=f1 _ _ hf
  have ev:zb6 Fa x=(decide (fa.2.1<x.2.2) && decide (x.2.2<=fa.2.2)):=by unfold zb6;rw [hf]
  rw [ev] at k
  refine ⟨_,rfl,_,rfl,rdT hw rfl ⟨d,_,rfl,e1▸zev.k (k:=Sum.inl (x.2.1:Int)) hd,?_⟩⟩
  refine ⟨_,rfl,rdT e2 rfl ⟨_,rfl,rdT hw rfl ⟨_,_,rfl,rfl,_,rfl,?_⟩⟩⟩
  by_cases c:fa.2.1<x.2.2
  ·rw [ZB8 c] at k
   refine zep c ⟨_,rfl,rdT e2 rfl ⟨_,_,rfl,rfl,?_⟩⟩
   exact k
  ·rw [ZB9 c] at k
   exact zct c k
def zw7 (H:Hp) (r:Addr) (st:MU.St) (F:MU.zaz):Prop:=∃lt lw ps qs L M,H r=some (.tup [.str "rule",.ref lt,.ref lw])/\H lt=some (.lst (ps.map V.ref))/\Paired (zdc H) ps L/\zon st true L/\
 H lw=some (.lst (qs.map V.ref))/\Paired (zdc H) qs (M.filter (zb6 F))/\zon st false M
def zvj (H:Hp) (r:Addr) (st:MU.St) (b:Nat):Prop:=∃l ns ps,H r=some (.tup [.str "paper",.ref l])/\H l=some (.lst (ps.map V.ref))/\Paired (zif H) ps (zp1 st.rows ns)/\zy5 st.rows b ns
def zeq (n:Nat) (la:Int) (T F:List (List Int)) (Te:Nat):MU.St:=MU.run n (zak F) (zhd n la T F) Te
def zpb (CW:Addr):Sp:=fun vs H Q _=>∃(wb:Addr) (n:Nat) (la:Int) (T F:List (List Int)) (Te:Nat),vs=[.ref wb]/\ze8 CW H wb (n:Int) la T F/\zb4 (n:Int) la T F/\zsu n (zak F) (zhd n la T F) Te/\
 ∀r H',H r=none->zbe H H'->(∀b,(zeq n la T F Te).bar=some b->zvj H' r (zeq n la T F Te) b->Q (.ref r) H')/\((zeq n la T F Te).bar=none->zw7 H' r (zeq n la T F Te) (zak F)->Q (.ref r) H')
theorem zx1:zam ["web","closing","waits"] ["web"] (zae sP_kept):=scm
theorem zBf:zbw (zae sP_kept) ["web","closing","waits"] (fsc [(".0",.local),("wait",.local),("is_told",.globalImplicit),("closing",.free)]) ["wait","closing"] [none,some 1]:=com
theorem zAt:(["wait","closing"]:List Str).Nodup:=by decide+kernel
theorem ok_kept {f C CW fI fA fB fP fT:Addr} {fd fdI fdA fdB fdP fdT:FuncData} (F:Fn K mg "kept" sP_kept ["web"] f fd) (T:zhe K mg C) (M:Mk K C fI) (hC:mg "Closing"=some (.ref C))
 (bI:zb5 K fdI ["self","web"] []) (GI:za3 P w K mg base CX0 4 fI fdI ["self","web"] (zpg C CW))
 (mA:zf4 K C "draw_all" fA) (bA:zb5 K fdA ["self"] []) (GA:za3 P w K mg base CX0 5 fA fdA ["self"] (zwa C))
 (mB:zf4 K C "best_drawn" fB) (bB:zb5 K fdB ["self","kind"] []) (GB:za3 P w K mg base CX0 1 fB fdB ["self","kind"] (ztc C))
 (FP:Fn K mg "paper_up_to" sP_paper_up_to ["rows","last"] fP fdP) (GP:za3 P w K mg base CX0 2 fP fdP ["rows","last"] zo6)
 (FT:Fn K mg "is_told" sP_is_told ["by_end","wait"] fT fdT) (GT:za3 P w K mg base CX0 1 fT fdT ["by_end","wait"] zo3):za3 P w K mg base CX0 6 f fd ["web"] (zpb CW):=by
 refine F.F.ok zx1 (fun _ _ _ _ h=>?_) fun _ A _ s H _ Q E hr h=>?_
 ·obtain ⟨_,_,_,_,_,_,rfl,_⟩:=h
  rfl
 ·obtain ⟨wb,n,la,rT,rF,Te,rfl,W0,hok,hE,k⟩:=h
  have hr1:zd2 1 _:=hr.mono (by decide)
  have hr2:zd2 2 _:=hr.mono (by decide)
  refine ⟨_,zac (zem (i:=1) zx1.nd rfl (Or.inr rfl) (zlv M GI hr rfl hC bI .nil zb3 (pa1 (pv 0))))
   (zac (za7 (zdz (pv 1) T.cl mA GA hr bA .nil zb3))
   (zac (zbn (zcy ze2 (zat (pv 1) rfl) zca) (zad (zaq (zbf (pa2 zbd (pcl GP hr2 FP (pa2 (zat (pv 1) rfl) (zat (pv 1) rfl))))))) zap)
   (zac (zfx (i:=2) zx1.nd rfl rfl rfl (za4 (za8 (pv 1) T.cl mB GB hr1 bB .nil zb3 (pa1 zbd))) zBf (fun cl ex s0 H0=>⟨zci 0 zAt,zda (zfr (pcl GT hr1 FT (pa2 (zeg (K:=K) rfl (pv 1) rfl) (pv 0)))),pv 0⟩))
   (zad (zaq (zbf (pa3 zbd (za8 (pv 1) T.cl mB GB hr1 bB .nil zb3 (pa1 zbd)) (pv 2)))))))),?_⟩
  have n1:=hok.n1
  have n2:=hok.n2
  refine fun N1 c1=>⟨_,rfl,fun p dx hp hdx hne=>?_⟩
  have W1:ze8 CW (upd (upd H dx (.own p)) p (.ins C dx [])) wb (n:Int) la rT rF:=W0.same fun b o e=>by rw [zaf (zaa e hp),zaf (zaa e hdx)];exact e
  have keep0:∀b o,H b=some o->upd (upd H dx (.own p)) p (.ins C dx []) b=some o:=fun b o e=>by rw [zaf (zaa e hp),zaf (zaa e hdx)];exact e
  refine ⟨p,wb,dx,n,la,rT,rF,rfl,zab,W1,hok,fun H2 be rl bd c2 hbe hrl hbd k2=>⟨rfl,c1 _ _ ?_⟩⟩
  have s2:zbe H H2:=fun b o e=>k2 _ _ (keep0 _ _ e) (zaa e hp)
  have none0:∀{b:Addr},upd (upd H dx (.own p)) p (.ins C dx []) b=none->H b=none:=fun {b} e=>by
   cases q:H b with
   | none=>rfl
   | some x=>rw [keep0 _ _ q] at e;cases e
  have rlH:=none0 hrl
  have bdH:=none0 hbd
  clear c1 N1
  obtain ⟨dx2,hp2⟩:=c2.ins
  refine fun N2 c2'=>⟨_,rfl,p,dx2,_,rfl,hp2,zoe (by decide+kernel) (by decide+kernel) (by decide+kernel) (by decide+kernel) (by decide+kernel),p,be,rl,bd,n,_,_,Te,rfl,c2,zlm hok,hok.fok,by lia,hE,fun H3 c3 S3 k3=>c2' _ _ ?_⟩
  clear c2'
  have hcl:MU.run n (zak rF) (zhd n la rT rF) Te=zeq n la rT rF Te:=rfl
  rw [hcl] at c3 S3
  have s3:zbe H H3:=fun b o e=>k3 _ _ (s2 _ _ e) (zaa e hp) (zaa e rlH) (zaa e bdH)
  have hU:MU.zid (zeq n la rT rF Te):=MU.zmu (MU.zny _ _ MU.zob) Te
  have few:(zeq n la rT rF Te).rows.length<=16000000:=hE.few Te (ZAw _)
  generalize zeq n la rT rF Te=st at*
  obtain ⟨dx3,hp3⟩:=c3.ins
  obtain ⟨qs,hrl3,hrows⟩:=c3.rows
  refine fun N3 c3'=>⟨_,rfl,p,C,dx3,_,_,rfl,hp3,T.cl,T.nX,zsq,rfl,_,rfl,?_⟩
  have lastH:∀{H':Hp} {b:Addr},zbe H H'->H' b=none->H b=none:=fun {H' b} ss e=>by
   cases q:H b with
   | none=>rfl
   | some x=>rw [ss _ _ q] at e;cases e
  cases hbar:st.bar with
  | some b=>
   obtain ⟨r0,hr0,_⟩:=hU.2 b hbar
   have hb:=(ZAv.mp hr0).1
   refine zgg rfl ⟨_,rfl,p,C,dx3,_,_,rfl,hp3,T.cl,T.nR,zgm,_,rfl,p,C,dx3,_,_,rfl,hp3,T.cl,T.nX,zsq,rl,qs,st.rows,b,by rw [hbar];rfl,hrl3,hrows,hU.1,hb,by lia,fun l H4 ns ps hl s4 hN el hps=>⟨szl rfl,fun r hr'=>?_⟩⟩
   have s5:=zag (o:=.tup [.str "paper",.ref l]) hr'
   have s35:=(s3.trans s4).trans s5
   exact (k r _ (lastH (s3.trans s4) hr') s35).1 b hbar ⟨l,ns,ps,zab,s5 _ _ el,zai hps fun q r e=>e.same s5,hN⟩
  | none=>
   refine zf3 rfl (c3' _ _ ?_)
   clear c3' N3
   have inB:∀{tt:Bool} {L:List Tri},zon st tt L->L.length<=64/\∀x∈L,∃w',w'.tie=tt/\w'.b=x.2.1/\∃j,MU.wat st j=some w':=fun {tt L} hB=>by
    have mem:∀x∈L,∃w',w'.tie=tt/\w'.a=x.1/\w'.b=x.2.1/\∃j,MU.wat st j=some w':=fun x hx=>by
     obtain ⟨a,b,v⟩:=x
     have hv:=(hB.has a b v).mp hx
     unfold MU.val at hv
     cases hq:st.best (tt,a,b) with
     | none=>rw [hq] at hv;cases hv
     | some j=>
      obtain ⟨w',h1,h2⟩:=S3.good.at_ _ _ hq
      have h4:=MU.zc4 h2
      exact ⟨w',h4.1,h4.2.1,h4.2.2,j,h1⟩
    refine ⟨?_,fun x hx=>?_⟩
    ·have hnd:(L.map fun x=>x.1*8+x.2.1).Nodup:=by
      have h0:=hB.once
      unfold List.Nodup at h0 ⊢
      rw [List.pairwise_map] at h0 ⊢
      refine List.Pairwise.imp_of_mem (fun {x y} hx hy e z=>e ?_) h0
      obtain ⟨w1,_,a1,b1,j1,e1⟩:=mem x hx
      obtain ⟨w2,_,a2,b2,j2,e2⟩:=mem y hy
      have l1:=S3.good.lt _ _ e1
      have l2:=S3.good.lt _ _ e2
      exact Prod.ext (by show x.1=y.1;lia) (by show x.2.1=y.2.1;lia)
     have:=MH.zeh 64 _ hnd fun z hz=>by
      obtain ⟨x,hx,rfl⟩:=ZBr.mp hz
      obtain ⟨w1,_,a1,b1,j1,e1⟩:=mem x hx
      have l1:=S3.good.lt _ _ e1
      show x.1*8+x.2.1<64
      lia
     rwa [ZAu] at this
    ·obtain ⟨w1,h1,_,h2,h3⟩:=mem x hx
     exact ⟨w1,h1,h2,h3⟩
   refine fun N4 c4=>⟨_,rfl,p,dx3,_,rfl,hp3,zoe (by decide+kernel) (by decide+kernel) (by decide+kernel) (by decide+kernel) (by decide+kernel),p,be,rl,bd,n,_,st,false,rfl,c3,S3.good,by lia,by lia,fun l H4 ps M hl s4 el hps hM=>⟨l,rfl,⟨_,SqL.of el⟩,fun Da hDa=>?_⟩⟩
   obtain ⟨hM64,hMw⟩:=inB hM
   have hpl:ps.length=M.length:=Paired.length hps
   have c4s:=c3.same s4
   refine zbv (K:=K) (a:=l) (xs:=ps.map V.ref) (fun i σ' H'=>∃v ps',σ'=[v,some (.ref p)]/\H' Da=some (.lst (ps'.map V.ref))/\Paired (zdc H') ps' ((M.take i).filter (zb6 (zak rF)))/\ps'.length<=i/\zbe H4 H') ⟨none,[],rfl,zab,.nil,ZAw _,zag hDa⟩ ?_ ?_ ?_
   ·rintro i σ' H5 _ ⟨v,ps',rfl,_,_,_,s5⟩
    exact SqL.of (s5 _ _ el)
   ·rintro i y σ' H5 hy ⟨v,ps',rfl,e5,hps',hl',s5⟩
    rw [ZA0] at hy
    cases hq:ps[i]? with
    | none=>rw [hq] at hy;cases hy
    | some q=>
     rw [hq] at hy
     cases hy
     obtain ⟨x,hx,hqx⟩:=paired_get hps hq
     have hi:i<M.length:=(ZAv.mp hx).1
     obtain ⟨w1,t1,b1,j1,g1⟩:=hMw x (ZA1 hx)
     obtain ⟨fa,hfa⟩:=S3.ends j1 w1 g1 t1
     rw [b1] at hfa
     have c5:=c4s.same s5
     obtain ⟨dx5,hp5⟩:=c5.ins
     have et:M.take (i+1)=M.take i++[x]:=by rw [ZBu,hx];rfl
     refine ⟨_,rfl,p,C,dx5,_,_,rfl,hp5,T.cl,T.nB,zw5,_,rfl,be,q,_,x,fa,rfl,c5.falls,hqx.same s5,hfa,_,rfl,?_⟩
     cases ht:zb6 (zak rF) x with
     | true=>
      refine zft ⟨_,rfl,_,e5,?_,_,ps'++[q],rfl,?_,?_,?_,fun b o e=>?_⟩
      ·rw [ZAu];exact zan (by lia)
      ·rw [zab,ZA9];rfl
      ·rw [et,List.filter_append]
       have kp:∀b y,zdc H5 b y->zdc (upd H5 Da (.lst (ps'.map V.ref++[.ref q]))) b y:=fun b y e=>by
        unfold zdc
        rw [zaf (zao e e5 nofun)]
        exact e
       refine zcj (zai hps' kp) ?_
       rw [show [x].filter (zb6 (zak rF))=[x] by simp [ht]]
       exact .cons (kp _ _ (hqx.same s5)) .nil
      ·rw [ZA3];show ps'.length+1<=i+1;lia
      ·rw [zaf (zaa e hDa)];exact s5 _ _ e
     | false=>
      refine zde ⟨_,ps',rfl,e5,?_,by lia,s5⟩
      rw [et,List.filter_append]
      rw [show [x].filter (zb6 (zak rF))=[] by simp [ht],List.append_nil]
      exact hps'
   ·rintro σ' H5 ⟨v,ps',rfl,e5,hps',hl',s5⟩
    have hall:M.take (ps.map V.ref).length=M:=by rw [ZAu,hpl];exact ZBi
    rw [hall] at hps'
    refine c4 _ _ ?_
    have c5:=c4s.same s5
    obtain ⟨dx5,hp5⟩:=c5.ins
    have s35:=(s3.trans s4).trans s5
    refine ⟨_,rfl,p,dx5,_,rfl,hp5,zoe (by decide+kernel) (by decide+kernel) (by decide+kernel) (by decide+kernel) (by decide+kernel),p,be,rl,bd,n,_,st,true,rfl,c5,S3.good,by lia,by lia,fun l6 H6 ps6 L hl6 s6 el6 hps6 hL=>⟨_,rfl,szl rfl,fun r hr'=>?_⟩⟩
    have s7:=zag (o:=.tup [.str "rule",.ref l6,.ref Da]) hr'
    have s67:=s6.trans s7
    exact (k r _ (lastH (s35.trans s6) hr') (s35.trans s67)).2 hbar ⟨l6,Da,ps6,ps',L,M,zab,s7 _ _ el6,zai hps6 fun q x e=>e.same s7,hL,s67 _ _ e5,zai hps' fun q x e=>e.same s67,hM⟩
theorem zjs {n i:Nat} (h:i<n):ixN n (i:Int)=some i:=by
 unfold ixN
 rw [if_pos (by lia)]
 first
 | rw [if_pos (by lia)];simp
 | simp [h]
def zc8.with (a:zc8) (c:List (Option Int)) (now:Int):zc8:={ a with c:=c,now:=now }
def zw9 (p ca:Addr) (H H':Hp):Prop:=∀b u,H b=some u->b≠p->b≠ca->H' b=some u
def ztb (C:Addr):Sp:=fun vs H Q _=>∃(a:zc8) (fl:Addr) (fs:List Nat),vs=[.ref a.p,.ref fl]/\a.At C H/\HOk a/\H fl=some (.lst (fs.map fun i:Nat=>V.int (i:Int)))/\fl≠a.ca/\zmc a fs/\(∃kvs,H a.be=some (.dK kvs))/\a.lt≠a.ca/\a.lw≠a.ca/\a.ow≠a.ca/\
 ∀l H' r j,H l=none->zw9 a.p a.ca H H'->H' l=some (.lst (r.map fun i:Nat=>V.int (i:Int)))->r=HD.iter (a.with (HD.setAll fs a.now a.c) a.now).S j (a.with (HD.setAll fs a.now a.c) a.now).l0->(a.with (HD.setAll fs a.now a.c) a.now).S r=r->
  (a.with (HD.setAll r a.now (HD.setAll fs a.now a.c)) (a.now+1)).At C H'->Q (.ref l) H'
theorem HOk.with {a:zc8} {c:List (Option Int)} {now:Int} (h:HOk a) (e:c.length=a.c.length):HOk (a.with c now):=
 ⟨fun x hx=>e▸h.t x hx,fun x hx=>by obtain ⟨f,h1,h2,h3⟩:=h.m x hx;exact ⟨f,h1,e▸h2,e▸h3⟩,h.tl,h.ml,fun m hm=>e▸h.own m hm,h.ol⟩
theorem zc0.came_put {C p lt lw be ow ca:Addr} {H:Hp} {F:MU.zaz} {T M:List Tri} {own:List Nat} {c c':List (Option Int)} {now:Int} (h:zc0 C H p lt lw be ow ca F T M own c now) (hb:∃kvs,H be=some (.dK kvs)) (n1:lt≠ca) (n2:lw≠ca) (n3:ow≠ca):zc0 C (upd H ca (.lst (c'.map ov))) p lt lw be ow ca F T M own c' now:=by
 obtain ⟨⟨dx,h1⟩,⟨ps,h2,h3⟩,⟨qs,h4,h5⟩,⟨kvs',r1,r2,r3,r4⟩,h7,h8⟩:=h
 obtain ⟨kvs,hb⟩:=hb
 have kp:∀b u,H b=some u->b≠ca->upd H ca (.lst (c'.map ov)) b=some u:=fun b u e n=>by rw [zaf n];exact e
 have tup:∀{q xs},H q=some (.tup xs)->upd H ca (.lst (c'.map ov)) q=some (.tup xs):=fun e=>kp _ _ e (zao e h8 nofun)
 refine ⟨⟨dx,kp _ _ h1 (zao h1 h8 nofun)⟩,⟨ps,kp _ _ h2 n1,zai h3 fun q r e=>tup e⟩,⟨qs,kp _ _ h4 n2,zai h5 fun q r e=>tup e⟩,⟨kvs',?_,r2,r3,fun e f hf=>?_⟩,kp _ _ h7 n3,zab⟩
 ·rcases r1 with r1 | ⟨o,r1⟩
  ·exact .inl (kp _ _ r1 (zao r1 h8 nofun))
  ·exact .inr ⟨o,kp _ _ r1 (zao r1 h8 nofun)⟩
 ·obtain ⟨q,q1,q2⟩:=r4 e f hf
  exact ⟨q,q1,tup q2⟩
theorem zc0.now_put {C p lt lw be ow ca:Addr} {H:Hp} {F:MU.zaz} {T M:List Tri} {own:List Nat} {c:List (Option Int)} {now v:Int} {dx:Addr} (h:zc0 C H p lt lw be ow ca F T M own c now) (hp:∃fs,H p=some (.ins C dx fs)):zc0 C (upd H p (.ins C dx (zf0 lt lw be ow ca v))) p lt lw be ow ca F T M own c v:=by
 obtain ⟨_,⟨ps,h2,h3⟩,⟨qs,h4,h5⟩,⟨kvs',r1,r2,r3,r4⟩,h7,h8⟩:=h
 obtain ⟨fs,hp⟩:=hp
 have kp:∀b u,H b=some u->b≠p->upd H p (.ins C dx (zf0 lt lw be ow ca v)) b=some u:=fun b u e n=>by rw [zaf n];exact e
 have tup:∀{q xs},H q=some (.tup xs)->upd H p (.ins C dx (zf0 lt lw be ow ca v)) q=some (.tup xs):=fun e=>kp _ _ e (zao e hp nofun)
 refine ⟨⟨dx,zab⟩,⟨ps,kp _ _ h2 (zao h2 hp nofun),zai h3 fun q r e=>tup e⟩,⟨qs,kp _ _ h4 (zao h4 hp nofun),zai h5 fun q r e=>tup e⟩,⟨kvs',?_,r2,r3,fun e f hf=>?_⟩,kp _ _ h7 (zao h7 hp nofun),kp _ _ h8 (zao h8 hp nofun)⟩
 ·rcases r1 with r1 | ⟨o,r1⟩
  ·exact .inl (kp _ _ r1 (zao r1 hp nofun))
  ·exact .inr ⟨o,kp _ _ r1 (zao r1 hp nofun)⟩
 ·obtain ⟨q,q1,q2⟩:=r4 e f hf
  exact ⟨q,q1,tup q2⟩
abbrev nHg:List Str:=["self","fallen","end","coming","moment"]
theorem zxg:zam nHg ["self","fallen"] (zae sC_Hand_goes):=scm
theorem ok_goes {f C fL fA:Addr} {fd fdL fdA:FuncData} (F:Fun K "goes" "Hand.goes" sC_Hand_goes f fd) (T:zol K mg C)
 (mL:zf4 K C "look_over" fL) (bL:zb5 K fdL ["self","fallen"] []) (GL:za3 P w K mg base CX0 3 fL fdL ["self","fallen"] (zs7 C))
 (mA:zf4 K C "all_let" fA) (bA:zb5 K fdA ["self"] []) (GA:za3 P w K mg base CX0 3 fA fdA ["self"] (zmq C)):za3 P w K mg base CX0 4 f fd ["self","fallen"] (ztb C):=by
 refine F.ok zxg (fun _ _ _ _ h=>?_) fun _ A _ s H _ Q E hr h=>?_
 ·obtain ⟨_,_,_,rfl,_⟩:=h
  rfl
 ·obtain ⟨a,fl,fs,rfl,hA,hok,hfl,flca,hF,⟨kvs,hbe⟩,n1,n2,n3,k⟩:=h
  refine ⟨_,zac (za7 (zpx (za8 (pv 0) T.cl mL GL hr bL .nil zb3 (pa1 (pv 1)))))
   (zac (zb7 PassesOwn.never rfl (za4 (pv 1)) (zci 2 zxg.nd)
    (zad (zkq (zat (pv 0) rfl) (zks (zat (pv 0) rfl) (pv 2) zf8))))
   (zac (za9 3 zxg.nd (zdz (pv 0) T.cl mA GA hr bA .nil zb3))
   (zac (zb7 PassesOwn.never rfl (za4 (pv 3)) (zci 4 zxg.nd)
    (zad (zkq (zat (pv 0) rfl) (zks (zat (pv 0) rfl) (pv 4) zf8))))
   (zac (zpq (pv 0) zaj zwx)
   (zad (zaq (pv 3))))))),?_⟩
  obtain ⟨dx,hp⟩:=hA.ins
  refine fun N1 c1=>⟨_,rfl,a.p,dx,_,rfl,hp,by with_unfolding_all rfl,_,rfl,a,fl,fs,rfl,hA,hfl,hF,⟨kvs,hbe⟩,fun o kvs2 H1 e1 e2 kp=>⟨a.be,o,_,e2,fun o u z=>?_,c1 _ _ ?_⟩⟩
  ·have z:H a.be=some (.frz o u):=z
   rw [hbe] at z
   cases z
  clear c1 N1
  rw [hbe] at e1
  cases e1
  have s1:zbe H (upd H1 a.be (.dK kvs)):=fun b u e=>by
   by_cases c:b=a.be
   ·subst c
    rw [hbe] at e
    cases e
    exact zab
   ·rw [zaf c];exact kp _ _ e c
  generalize upd H1 a.be (.dK kvs)=H2 at*
  clear kp e2
  have lt_:∀e∈fs,e<a.c.length:=fun e he=>by
   obtain ⟨f,t,h1,_⟩:=hF.ok e he
   exact (hF.lt e f h1).1
  have step:∀{l:List Nat} {c:List (Option Int)} {i e:Nat},l[i]?=some e->(HD.setAll (l.take i) a.now c).set e (some a.now)=HD.setAll (l.take (i+1)) a.now c:=fun {l c i e} h=>by
   rw [ZBu,h,HD.setAll_append]
   rfl
  refine fun N1 c1=>⟨_,rfl,fl,rfl,⟨_,SqL.of (s1 _ _ hfl)⟩,?_⟩
  refine zbu (K:=K) (a:=fl) (xs:=fs.map fun i:Nat=>V.int (i:Int)) (fun i σ' H'=>∃v2,σ'=[some (.ref a.p),some (.ref fl),v2,none,none]/\(a.with (HD.setAll (fs.take i) a.now a.c) a.now).At C H'/\∀b u,H b=some u->b≠a.ca->H' b=some u) ⟨none,rfl,zc8.At.same hA s1,fun b u e _=>s1 _ _ e⟩ ?_ ?_ ?_
  ·rintro i σ' H3 _ ⟨v2,rfl,hA3,k3⟩
   exact SqL.of (k3 _ _ hfl flca)
  ·rintro i y σ' H3 hy ⟨v2,rfl,hA3,k3⟩
   rw [ZA0] at hy
   cases hq:fs[i]? with
   | none=>rw [hq] at hy;cases hy
   | some e=>
    rw [hq] at hy
    cases hy
    have he:=lt_ e (ZA1 hq)
    obtain ⟨dx3,hp3⟩:=hA3.ins
    have hl3:(((a.with (HD.setAll (fs.take i) a.now a.c) a.now).c).map ov).length=a.c.length:=by rw [ZAu];exact HD.setAll_len _ _ _
    refine ⟨_,rfl,a.p,C,dx3,_,_,rfl,hp3,T.cl,T.nN,h_n,_,rfl,a.p,C,dx3,_,_,rfl,hp3,T.cl,T.nC,h_c,_,rfl,a.ca,_,_,e,rfl,rfl,hA3.came,by rw [hl3];exact zjs he,?_⟩
    have ec:(((a.with (HD.setAll (fs.take i) a.now a.c) a.now).c).map ov).set e (.int (a.with (HD.setAll (fs.take i) a.now a.c) a.now).now)=(HD.setAll (fs.take (i+1)) a.now a.c).map ov:=by
     rw [<-step hq,List.map_set]
     rfl
    rw [ec]
    exact ⟨_,rfl,zc0.came_put hA3 ⟨kvs,k3 _ _ hbe (zao hbe hA.came nofun)⟩ n1 n2 n3,fun b u e n=>by rw [zaf n];exact k3 _ _ e n⟩
  rintro σ' H3 ⟨v2,rfl,hA3,k3⟩
  rw [ZAu,ZBi] at hA3
  refine c1 _ _ ?_
  clear c1 N1
  obtain ⟨dx3,hp3⟩:=hA3.ins
  have hok3:HOk (a.with (HD.setAll fs a.now a.c) a.now):=hok.with (HD.setAll_len _ _ _)
  refine fun N1 c1=>⟨_,rfl,a.p,dx3,_,rfl,hp3,by with_unfolding_all rfl,a.with (HD.setAll fs a.now a.c) a.now,rfl,hA3,hok3,fun l H4 r j hl s4 el er es=>c1 _ _ ?_⟩
  clear c1 N1
  have hca3:=hA3.came
  have lca:l≠a.ca:=(zaa hca3 hl).symm
  have lH:H l=none:=by
   cases h:H l with
   | none=>rfl
   | some u=>have:=k3 _ _ h lca;rw [hl] at this;cases this
  have hA4:=hA3.same s4
  have k4:∀b u,H b=some u->b≠a.ca->H4 b=some u:=fun b u e n=>s4 _ _ (k3 b u e n)
  have ltr:∀m∈r,m<a.c.length:=fun m hm=>by
   rw [er] at hm
   have:=hok3.own m (List.mem_filter.mp (HD.mem_iter _ _ m hm)).1
   have e:(a.with (HD.setAll fs a.now a.c) a.now).c.length=a.c.length:=HD.setAll_len _ _ _
   lia
  refine fun N1 c1=>⟨_,rfl,l,rfl,⟨_,SqL.of el⟩,?_⟩
  refine zbu (K:=K) (a:=l) (xs:=r.map fun i:Nat=>V.int (i:Int)) (fun i σ' H'=>∃v4,σ'=[some (.ref a.p),some (.ref fl),v2,some (.ref l),v4]/\(a.with (HD.setAll (r.take i) a.now (HD.setAll fs a.now a.c)) a.now).At C H'/\H' l=some (.lst (r.map fun i:Nat=>V.int (i:Int)))/\∀b u,H b=some u->b≠a.ca->H' b=some u) ⟨none,rfl,hA4,el,k4⟩ ?_ ?_ ?_
  ·rintro i σ' H5 _ ⟨v4,rfl,_,e5,_⟩
   exact SqL.of e5
  ·rintro i y σ' H5 hy ⟨v4,rfl,hA5,e5,k5⟩
   rw [ZA0] at hy
   cases hq:r[i]? with
   | none=>rw [hq] at hy;cases hy
   | some e=>
    rw [hq] at hy
    cases hy
    have he:=ltr e (ZA1 hq)
    obtain ⟨dx5,hp5⟩:=hA5.ins
    have hl5:(((a.with (HD.setAll (r.take i) a.now (HD.setAll fs a.now a.c)) a.now).c).map ov).length=a.c.length:=by rw [ZAu];exact (HD.setAll_len _ _ _).trans (HD.setAll_len _ _ _)
    refine ⟨_,rfl,a.p,C,dx5,_,_,rfl,hp5,T.cl,T.nN,h_n,_,rfl,a.p,C,dx5,_,_,rfl,hp5,T.cl,T.nC,h_c,_,rfl,a.ca,_,_,e,rfl,rfl,hA5.came,by rw [hl5];exact zjs he,?_⟩
    have ec:(((a.with (HD.setAll (r.take i) a.now (HD.setAll fs a.now a.c)) a.now).c).map ov).set e (.int (a.with (HD.setAll (r.take i) a.now (HD.setAll fs a.now a.c)) a.now).now)=(HD.setAll (r.take (i+1)) a.now (HD.setAll fs a.now a.c)).map ov:=by
     rw [<-step hq,List.map_set]
     rfl
    rw [ec]
    exact ⟨_,rfl,zc0.came_put hA5 ⟨kvs,k5 _ _ hbe (zao hbe hA.came nofun)⟩ n1 n2 n3,by rw [zaf lca];exact e5,fun b u e n=>by rw [zaf n];exact k5 _ _ e n⟩
  rintro σ' H5 ⟨v4,rfl,hA5,e5,k5⟩
  rw [ZAu,ZBi] at hA5
  refine c1 _ _ ?_
  clear c1 N1
  obtain ⟨dx5,hp5⟩:=hA5.ins
  refine fun N1 c1=>⟨_,rfl,a.p,C,dx5,_,_,rfl,hp5,T.cl,T.nN,h_n,_,_,rfl,rfl,dx5,_,hp5,by show 6<1000;decide,c1 _ _ ⟨_,rfl,?_⟩⟩
  have ep:zav "now" (.int (a.now+1)) (zf0 a.lt a.lw a.be a.ow a.ca a.now)=zf0 a.lt a.lw a.be a.ow a.ca (a.now+1):=zyk
  have hA6:zc0 C (upd H5 a.p (.ins C dx5 (zf0 a.lt a.lw a.be a.ow a.ca (a.now+1)))) a.p a.lt a.lw a.be a.ow a.ca a.F a.T a.M a.own (HD.setAll r a.now (HD.setAll fs a.now a.c)) (a.now+1):=zc0.now_put hA5 ⟨_,hp5⟩
  rw [<-ep] at hA6
  refine k l _ r j lH (fun b u e n1 n2=>?_) ?_ er es hA6
  ·rw [zaf n1];exact k5 _ _ e n2
  ·have lp:l≠a.p:=zao e5 hp5 nofun
   rw [zaf lp];exact e5
def zp2 (N:Nat) (F:List (List Int)):List Nat:=(List.range N).filter fun (i:Nat)=>decide (¬(i:Int)∈F.map zl6)
theorem zut {N:Nat} {F:List (List Int)}:(zr1 N F).map V.int=(zp2 N F).map fun i:Nat=>V.int (i:Int):=by
 unfold zr1 zp2
 rw [List.map_map]
 rfl
theorem zuj {n:Nat}:(List.replicate ((n:Nat):Int).toNat [V.non]).flatten=(List.replicate n (none:Option Int)).map ov:=by
 rw [ZBx,List.map_replicate]
 induction n with
 | zero=>rfl
 | succ n ih=>rw [List.replicate_succ,List.flatten_cons,ih,List.replicate_succ];rfl
def zpc (C CW:Addr):Sp:=fun vs H Q _=>∃(p wb dx:Addr) (n:Nat) (la:Int) (T F:List (List Int)) (Te:Nat),vs=[.ref p,.ref wb]/\H p=some (.ins C dx [])/\ze8 CW H wb (n:Int) la T F/\zb4 (n:Int) la T F/\zsu n (zak F) (zhd n la T F) Te/\(zeq n la T F Te).bar=none/\
 ∀H' lt lw be ow ca L M,zc0 C H' p lt lw be ow ca (zak F) L (M.filter (zb6 (zak F))) (zp2 n F) (List.replicate n none) 0->zon (zeq n la T F Te) true L->zon (zeq n la T F Te) false M->H ca=none->(∃kvs,H' be=some (.dK kvs))->lt≠ca->lw≠ca->ow≠ca->zcw p H H'->Q .non H'
abbrev nHi:List Str:=["self","web","answer"]
theorem zzf:zam nHi ["self","web"] (zae sC_Hand_init):=scm
theorem ok_hinit {f C CW fK fE fO:Addr} {fd fdK fdE fdO:FuncData} (F:Fun K "__init__" "Hand.__init__" sC_Hand_init f fd) (T:zol K mg C) (TC:zom K mg CW)
 (FK:Fn K mg "kept" sP_kept ["web"] fK fdK) (GK:za3 P w K mg base CX0 6 fK fdK ["web"] (zpb CW))
 (FE:Fn K mg "falls_by_end" sP_falls_by_end ["web"] fE fdE) (GE:za3 P w K mg base CX0 2 fE fdE ["web"] (zlt CW))
 (mO:zf4 K CW "own" fO) (bO:zb5 K fdO ["self"] []) (GO:za3 P w K mg base CX0 1 fO fdO ["self"] (zv8 CW)):za3 P w K mg base CX0 7 f fd ["self","web"] (zpc C CW):=by
 refine F.ok zzf (fun _ _ _ _ h=>?_) fun _ A _ s H _ Q E hr h=>?_
 ·obtain ⟨_,_,_,_,_,_,_,_,rfl,_⟩:=h
  rfl
 ·obtain ⟨p,wb,dx,n,la,rT,rF,Te,rfl,hp,W0,hok,hE,hbar,k⟩:=h
  have hr1:zd2 1 _:=hr.mono (by decide)
  have hr2:zd2 2 _:=hr.mono (by decide)
  refine ⟨_,zac (za9 2 zzf.nd (pcl GK hr FK (pa1 (pv 1))))
   (zac (zbn (zcy zcf (ixT (pv 2)) zbd) zby zap)
   (zac (zdm (pv 0) (ixT (pv 2)) rfl)
   (zac (zdm (pv 0) (ixT (pv 2)) rfl)
   (zac (zdm (pv 0) (pcl GE hr2 FE (pa1 (pv 1))) rfl)
   (zac (zdm (pv 0) (zdz (pv 1) TC.cl mO GO hr1 bO .nil zb3) rfl)
   (zac (zdm (pv 0) (zba zwo (zen (pa1 zca)) (zat (pv 1) rfl)) rfl)
   (zad (zdm (pv 0) zaj rfl)))))))),?_⟩
  refine fun N1 c1=>⟨_,rfl,wb,n,la,rT,rF,Te,rfl,W0,hok,hE,fun r H1 hr1 s1=>⟨fun b hb _=>?_,fun _ hR=>c1 _ _ ?_⟩⟩
  ·rw [hbar] at hb;cases hb
  clear c1 N1
  obtain ⟨lt,lw,ps,qs,L,MM,g1,g2,g3,hL,g4,g5,hM⟩:=hR
  have n8:=hok.n2
  refine fun N1 c1=>⟨_,rfl,rdT g1 rfl ⟨rfl,_,rfl,zf3 (by decide+kernel) (c1 _ _ ?_)⟩⟩
  clear c1 N1
  have hp1:=s1 _ _ hp
  refine fun N1 c1=>⟨_,rfl,rdT g1 rfl ⟨_,rfl,p,C,dx,_,rfl,hp1,T.cl,T.nT,by show 0<1000;decide,c1 _ _ ?_⟩⟩
  clear c1 N1
  have k2:zcw p H1 (upd H1 p (.ins C dx (zav "rule_ties" (.ref lt) []))):=fun b o e ne=>by rw [zaf ne];exact e
  have hp2:upd H1 p (.ins C dx (zav "rule_ties" (.ref lt) [])) p=some (.ins C dx (zav "rule_ties" (.ref lt) [])):=zab
  generalize upd H1 p (.ins C dx (zav "rule_ties" (.ref lt) []))=H2 at*
  have pt:∀{q xs},H1 q=some (.tup xs)->q≠p:=fun e=>zao e hp1 nofun
  have pl:∀{q xs},H1 q=some (.lst xs)->q≠p:=fun e=>zao e hp1 nofun
  refine fun N1 c1=>⟨_,rfl,rdT (k2 _ _ g1 (pt g1)) rfl ⟨_,rfl,p,C,dx,_,rfl,hp2,T.cl,T.nW,by show 1<1000;decide,c1 _ _ ?_⟩⟩
  clear c1 N1
  have k3:zcw p H1 (upd H2 p (.ins C dx (zav "rule_waits" (.ref lw) (zav "rule_ties" (.ref lt) [])))):=fun b o e ne=>by rw [zaf ne];exact k2 _ _ e ne
  have hp3:upd H2 p (.ins C dx (zav "rule_waits" (.ref lw) (zav "rule_ties" (.ref lt) []))) p=some (.ins C dx (zav "rule_waits" (.ref lw) (zav "rule_ties" (.ref lt) []))):=zab
  generalize upd H2 p (.ins C dx (zav "rule_waits" (.ref lw) (zav "rule_ties" (.ref lt) [])))=H3 at*
  have web:∀{H':Hp},zcw p H1 H'->ze8 CW H' wb (n:Int) la rT rF:=fun {H'} kk=>by
   obtain ⟨dw,ta,fa,w1,⟨ts,w2,w3⟩,⟨fs,w4,w5⟩⟩:=W0.same s1
   have wp:wb≠p:=fun e=>by subst e;rw [hp1] at w1;cases w1
   exact ⟨dw,ta,fa,kk _ _ w1 wp,⟨ts,kk _ _ w2 (pl w2),zai w3 fun q r e=>kk _ _ e (pt e)⟩,⟨fs,kk _ _ w4 (pl w4),zai w5 fun q r e=>kk _ _ e (pt e)⟩⟩
  refine fun N1 c1=>⟨_,rfl,wb,_,la,rT,rF,rfl,web k3,hok,fun be H4 hbe s4 FA=>⟨_,rfl,p,C,dx,_,rfl,s4 _ _ hp3,T.cl,T.nB,by show 2<1000;decide,c1 _ _ ?_⟩⟩
  clear c1 N1
  have k4:zcw p H1 (upd H4 p (.ins C dx (zav "by_end" (.ref be) (zav "rule_waits" (.ref lw) (zav "rule_ties" (.ref lt) []))))):=fun b o e ne=>by rw [zaf ne];exact s4 _ _ (k3 _ _ e ne)
  have hp4:upd H4 p (.ins C dx (zav "by_end" (.ref be) (zav "rule_waits" (.ref lw) (zav "rule_ties" (.ref lt) [])))) p=some (.ins C dx (zav "by_end" (.ref be) (zav "rule_waits" (.ref lw) (zav "rule_ties" (.ref lt) [])))):=zab
  have FR:zcx (upd H4 p (.ins C dx (zav "by_end" (.ref be) (zav "rule_waits" (.ref lw) (zav "rule_ties" (.ref lt) []))))) be (zak rF):=by
   have hq:=s4 _ _ hp3
   obtain ⟨kvs,f1,f2,f3,f4⟩:=FA.at_
   refine ⟨kvs,by rw [zaf (zao f1 hq nofun)];exact f1,f2,f3,fun e f hf=>?_⟩
   obtain ⟨q,q1,q2⟩:=f4 e f hf
   exact ⟨q,q1,by rw [zaf (zao q2 hq nofun)];exact q2⟩
  generalize upd H4 p (.ins C dx (zav "by_end" (.ref be) (zav "rule_waits" (.ref lw) (zav "rule_ties" (.ref lt) []))))=H5 at*
  obtain ⟨dw,ta,fa,w1,_,_⟩:=id (web k4)
  refine fun N1 c1=>⟨_,rfl,wb,dw,_,rfl,w1,zxc _ _ _ _ (by decide+kernel) (by decide+kernel) (by decide+kernel) (by decide+kernel),wb,n,la,rT,rF,rfl,web k4,hok,fun ow H6 how s6 hO=>⟨_,rfl,p,C,dx,_,rfl,s6 _ _ hp4,T.cl,T.nO,by show 3<1000;decide,c1 _ _ ?_⟩⟩
  clear c1 N1
  rw [zut] at hO
  have hp6:=s6 _ _ hp4
  have k6:zcw p H1 (upd H6 p (.ins C dx (zav "own_moments" (.ref ow) (zav "by_end" (.ref be) (zav "rule_waits" (.ref lw) (zav "rule_ties" (.ref lt) [])))))):=fun b o e ne=>by rw [zaf ne];exact s6 _ _ (k4 _ _ e ne)
  have up6:∀{b u},H6 b=some u->b≠p->upd H6 p (.ins C dx (zav "own_moments" (.ref ow) (zav "by_end" (.ref be) (zav "rule_waits" (.ref lw) (zav "rule_ties" (.ref lt) []))))) b=some u:=fun e ne=>by rw [zaf ne];exact e
  have hO7:=up6 hO (zao hO hp6 nofun)
  obtain ⟨kvs,f1,f2,f3,f4⟩:=(FR.same s6).at_
  have f17:=up6 f1 (zao f1 hp6 nofun)
  have f47:∀(e:Nat) f,zak rF e=some f->∃p',zel kvs (.inl (e:Int))=some (.ref p')/\upd H6 p (.ins C dx (zav "own_moments" (.ref ow) (zav "by_end" (.ref be) (zav "rule_waits" (.ref lw) (zav "rule_ties" (.ref lt) []))))) p'=some (.tup [.int (f.1:Int),.int f.2.1,.int f.2.2]):=fun e f hf=>by
   obtain ⟨q,q1,q2⟩:=f4 e f hf
   exact ⟨q,q1,up6 q2 (zao q2 hp6 nofun)⟩
  have hp7:upd H6 p (.ins C dx (zav "own_moments" (.ref ow) (zav "by_end" (.ref be) (zav "rule_waits" (.ref lw) (zav "rule_ties" (.ref lt) []))))) p=some (.ins C dx (zav "own_moments" (.ref ow) (zav "by_end" (.ref be) (zav "rule_waits" (.ref lw) (zav "rule_ties" (.ref lt) []))))):=zab
  generalize upd H6 p (.ins C dx (zav "own_moments" (.ref ow) (zav "by_end" (.ref be) (zav "rule_waits" (.ref lw) (zav "rule_ties" (.ref lt) [])))))=H7 at*
  obtain ⟨dw,ta,fa,w1,_,_⟩:=id (web k6)
  refine fun N1 c1=>⟨szl rfl,fun l0 hl0=>?_⟩
  have s8:=zag (o:=.lst [.non]) hl0
  refine ⟨_,rfl,wb,CW,dw,_,_,rfl,s8 _ _ w1,TC.cl,TC.nM,zmi _ _ _ _,l0,_,_,rfl,rfl,zab,by lia,by lia,?_,fun ca hca=>⟨_,rfl,p,C,dx,_,rfl,zag hca _ _ (s8 _ _ hp7),T.cl,T.nC,by show 4<1000;decide,c1 _ _ ?_⟩⟩
  ·show 1*((n:Nat):Int).toNat<=sizeLine
   exact ZBb (zan (by lia))
  clear c1 N1
  have eca:=zuj (n:=n)
  rw [eca] at*
  have s9:=s8.trans (zag (o:=.lst ((List.replicate n (none:Option Int)).map ov)) hca)
  have hca9:upd (upd H7 l0 (.lst [.non])) ca (.lst ((List.replicate n (none:Option Int)).map ov)) ca=some (.lst ((List.replicate n (none:Option Int)).map ov)):=zab
  have hca0:H ca=none:=by
   cases h:H ca with
   | none=>rfl
   | some u=>
    have h1:=s1 _ _ h
    by_cases e:ca=p
    ·subst e;have:=s8 _ _ hp7;rw [hca] at this;cases this
    ·have:=s8 _ _ (k6 _ _ h1 e);rw [hca] at this;cases this
  generalize upd (upd H7 l0 (.lst [.non])) ca (.lst ((List.replicate n (none:Option Int)).map ov))=H9 at*
  have hp9:=s9 _ _ hp7
  refine ⟨_,rfl,p,C,dx,_,rfl,zab,T.cl,T.nN,by show 5<1000;decide,?_⟩
  rw [zlr]
  have lastp:∀{b u},H7 b=some u->b≠p->upd H9 p (.ins C dx (zav "now" (.int 0) (zav "came" (.ref ca) (zav "own_moments" (.ref ow) (zav "by_end" (.ref be) (zav "rule_waits" (.ref lw) (zav "rule_ties" (.ref lt) []))))))) b=some u:=fun e ne=>by rw [zaf ne];exact s9 _ _ e
  have first:∀{b u},H1 b=some u->b≠p->upd H9 p (.ins C dx (zav "now" (.int 0) (zav "came" (.ref ca) (zav "own_moments" (.ref ow) (zav "by_end" (.ref be) (zav "rule_waits" (.ref lw) (zav "rule_ties" (.ref lt) []))))))) b=some u:=fun e ne=>lastp (k6 _ _ e ne) ne
  have nca:∀{b u},H7 b=some u->b≠ca:=fun {b u} e=>zaa (s8 _ _ e) hca
  refine k _ lt lw be ow ca L MM ⟨⟨dx,?_⟩,⟨ps,first g2 (pl g2),zai g3 fun q x e=>first e (pt e)⟩,⟨qs,first g4 (pl g4),zai g5 fun q x e=>first e (pt e)⟩,⟨kvs,.inl (lastp f17 (zao f17 hp7 nofun)),f2,f3,fun e f hf=>?_⟩,lastp hO7 (zao hO7 hp7 nofun),?_⟩ hL hM hca0 ⟨kvs,lastp f17 (zao f17 hp7 nofun)⟩ (nca (k6 _ _ g2 (pl g2))) (nca (k6 _ _ g4 (pl g4))) (nca hO7) (fun b u e ne=>first (s1 _ _ e) ne)
  ·rw [zab]
   with_unfolding_all rfl
  ·obtain ⟨q,q1,q2⟩:=f47 e f hf
   exact ⟨q,q1,lastp q2 (zao q2 hp7 nofun)⟩
  ·rw [zaf (zao hca9 hp9 nofun)];exact hca9
structure ze9 (H:Hp) (wp ta fa:Addr) (n la:Int) (T F:List (List Int)):Prop where
 tup:H wp=some (.tup [.int n,.int la,.ref ta,.ref fa])
 t:zbi H ta T
 f:zbi H fa F
theorem ze9.same {H H':Hp} {wp ta fa:Addr} {n la:Int} {T F:List (List Int)} (h:ze9 H wp ta fa n la T F) (k:zbe H H'):ze9 H' wp ta fa n la T F:=⟨k _ _ h.tup,h.t.same k,h.f.same k⟩
theorem zn9 {n la:Int} {T F:List (List Int)} (hok:zb4 n la T F) {e:Nat} {f:Nat×Int×Int} (h:zak F e=some f):∃t,(F.filter fun r=>decide (r[1]?=some (e:Int)))=[(f.1:Int),(e:Int),f.2.1,f.2.2]::t:=by
 unfold zak at h
 cases q:F.find? fun r=>decide (r[1]?=some (e:Int)) with
 | none=>rw [q] at h;cases h
 | some r=>
  rw [q] at h
  have hm:=List.mem_of_find?_eq_some q
  have hp:=List.find?_some q
  obtain ⟨a,b,l,m,rfl,h0,_⟩:=hok.f r hm
  have hp:decide ((some b:Option Int)=some (e:Int))=true:=hp
  rw [ZBy,Option.some.injEq] at hp
  subst hp
  have h:some (a.toNat,l,m)=some f:=h
  cases h
  rw [<-List.head?_filter] at q
  cases hf:F.filter fun r=>decide (r[1]?=some (e:Int)) with
  | nil=>rw [hf] at q;cases q
  | cons x t=>
   rw [hf] at q
   have q:some x=some [a,(e:Int),l,m]:=q
   cases q
   refine ⟨t,?_⟩
   show _=[((a.toNat:Nat):Int),(e:Int),l,m]::t
   rw [ZAg h0]
structure zoj (H:Hp) (r tl:Addr) (n:Nat) (F:MU.zaz) (T M:List Tri) (c:List (Option Int)):Prop where
 r:∃lt lw ps qs,H r=some (.tup [.str "rule",.ref lt,.ref lw])/\H lt=some (.lst (ps.map V.ref))/\Paired (zdc H) ps T/\H lw=some (.lst (qs.map V.ref))/\Paired (zdc H) qs M
 t:H tl=some (.lst (c.map ov))
 len:c.length=n
 tb:∀x∈T,x.2.1<n
 mb:∀x∈M,∃f,F x.2.1=some f/\x.2.1<n/\f.1<n
theorem zoj.same {H H':Hp} {r tl:Addr} {n:Nat} {F:MU.zaz} {T M:List Tri} {c:List (Option Int)} (h:zoj H r tl n F T M c) (s:zbe H H'):zoj H' r tl n F T M c:=by
 obtain ⟨⟨lt,lw,ps,qs,h1,h2,h3,h4,h5⟩,h6,h7,h8,h9⟩:=h
 exact ⟨⟨lt,lw,ps,qs,s _ _ h1,s _ _ h2,zai h3 fun q x e=>e.same s,s _ _ h4,zai h5 fun q x e=>e.same s⟩,s _ _ h6,h7,h8,h9⟩
def zo9:Sp:=fun vs H Q _=>∃(wp ta fa r tl bl:Addr) (n:Nat) (la now:Int) (rT rF:List (List Int)) (T M:List Tri) (c:List (Option Int)) (m:Nat) (co:List Nat),vs=[.ref wp,.ref r,.ref tl,.int now,.int (m:Int),.ref bl]/\ze9 H wp ta fa (n:Int) la rT rF/\zb4 (n:Int) la rT rF/\zoj H r tl n (zak rF) T M c/\
 H bl=some (.lst (co.map fun i:Nat=>V.int (i:Int)))/\∀H',zbe H H'->Q (.bl (HD.lets T M (zak rF) c now m co)) H'
theorem zgd {T M:List Tri} {F:MU.zaz} {c:List (Option Int)} {now:Int} {m:Nat} {co:List Nat}:HD.lets T M F c now m co=true↔(∀x∈T,x.1=m->HD.tieL c now co x.2.1 x.2.2=true)/\∀x∈M,x.1=m->HD.waitL c now F x.2.1 x.2.2=true:=by
 unfold HD.lets
 rw [Bool.and_eq_true,ZBw,ZBw]
 refine ⟨fun h=>⟨fun x hx e=>h.1 x (List.mem_filter.mpr ⟨hx,ZB8 e⟩),fun x hx e=>h.2 x (List.mem_filter.mpr ⟨hx,ZB8 e⟩)⟩,fun h=>⟨fun x hx=>?_,fun x hx=>?_⟩⟩
 ·have hx:=List.mem_filter.mp hx
  exact h.1 x hx.1 (of_decide_eq_true hx.2)
 ·have hx:=List.mem_filter.mp hx
  exact h.2 x hx.1 (of_decide_eq_true hx.2)
theorem zcu {α:Type} {l:List α} {i:Nat} {x y:α} (h:l[i]?=some y) (hx:x∈l.take (i+1)):x∈l.take i\/x=y:=by
 rw [ZBu,h] at hx
 rcases ZBo.mp hx with h | h
 ·exact .inl h
 ·exact .inr (ZBd.mp h)
abbrev nLl:List Str:=["_law_w","_law_rule","_law_times","_law_now","_law_moment","_law_beside","_law_one","_law_other","_law_most","_law_end","_law_long","_law_began"]
theorem ztf:zam nLl ["_law_w","_law_rule","_law_times","_law_now","_law_moment","_law_beside"] (zae sL_lets):=scm
theorem zBc:zbw (zae sL_lets) nLl (fsc [(".0",.local),("_law_fall",.local),("_law_end",.free),("_law_times",.free)]) ["_law_fall","_law_end","_law_times"] [none,some 9,some 2]:=com
theorem zAr:(["_law_fall","_law_end","_law_times"]:List Str).Nodup:=by decide+kernel
theorem ok_llets {f:Addr} {fd:FuncData} (Fn0:Fn K mg "_law_lets" sL_lets ["_law_w","_law_rule","_law_times","_law_now","_law_moment","_law_beside"] f fd):za3 P w K mg base CX0 1 f fd ["_law_w","_law_rule","_law_times","_law_now","_law_moment","_law_beside"] zo9:=by
 refine Fn0.F.ok ztf (fun _ _ _ _ h=>?_) fun _ A _ s H _ Q E hr h=>?_
 ·obtain ⟨_,_,_,_,_,_,_,_,_,_,_,_,_,_,_,_,rfl,_⟩:=h
  rfl
 ·obtain ⟨wp,ta,fa,r,tl,bl,n,la,now,rT,rF,T,M,c,m,co,rfl,D0,hok,hR,hbl,k⟩:=h
  refine ⟨_,zac (zb7 PassesOwn.never rfl (za4 (ixT (pv 1))) (zjm (K:=K) (n:=3) rfl rfl (zaw (zci 6 ztf.nd) (zaw (zci 7 ztf.nd) (zaw (zci 8 ztf.nd) zef))))
   (zac (zbn (PW.pt (zdg (zcy zcf (pv 6) (pv 4)) (zdg (zcy zga (zbj zal (pv 2) (pv 7) (fun _ _=>rfl)) zca) (zdg (zcy zeu (pv 8) zaj) (zdk (PW.pt (zii (zcy zij (pv 8) zaj) (zg3 (zfw ze3 (pv 7) (pv 5) (by with_unfolding_all rfl)))))))))) (zad (zaq zhz)) zap)
   (zad (zbn (PW.pt (zdg (zcy zcf (pv 6) (pv 4)) (zdg (zcy ze2 (zbj zal (pv 2) (pv 7) (fun _ _=>rfl)) zca) (zdk (zcy zij (pv 3) (zba zcm (zbj zal (pv 2) (pv 7) (fun _ _=>rfl)) (pv 8))))))) (zad (zaq zhz)) zap))))
   (zac (zb7 PassesOwn.never rfl (za4 (ixT (pv 1))) (zjm (K:=K) (n:=3) rfl rfl (zaw (zci 6 ztf.nd) (zaw (zpw (i:=9) ztf.nd rfl (Or.inr rfl)) (zaw (zci 10 ztf.nd) zef))))
    (zad (zbn (PW.pt (zdg (zcy zcf (pv 6) (pv 4)) (zdk (zcy zga (zbj zal (pv 2) (pv 9) (fun _ _=>rfl)) zca))))
     (zac (za9 11 ztf.nd (zbj zal (zcv rfl (za4 (ixT (pv 0))) zBc (fun cl ex s0 H0=>⟨zci 0 zAr,zda (zcy zcf (ixT (pv 0)) (pv 1)),zbj zal (pv 2) (ixT (pv 0)) (fun _ _=>rfl)⟩)) zaj (fun _ _=>rfl)))
     (zad (zbn (PW.pt (zii (zcy zga (pv 11) zca) (zg3 (zcy zij (pv 3) (zba zb8 (pv 11) (pv 10)))))) (zad (zaq zhz)) zap))) zap)))
   (zad (zaq zhz))),?_⟩
  obtain ⟨lt,lw,ps,qs,g1,g2,g3,g4,g5⟩:=hR.r
  have hlen:=hR.len
  have no:(¬HD.lets T M (zak rF) c now m co=true)->∀H',zbe H H'->Q (.bl false) H':=fun h H' s'=>zgz (k H' s') (ZAk.mpr h)
  refine fun N1 c1=>⟨_,rfl,rdT g1 rfl ⟨lt,rfl,⟨_,SqL.of g2⟩,?_⟩⟩
  refine zbu (K:=K) (a:=lt) (xs:=ps.map V.ref) (fun i σ' H'=>∃v6 v7 v8,σ'=[some (.ref wp),some (.ref r),some (.ref tl),some (.int now),some (.int (m:Int)),some (.ref bl),v6,v7,v8,none,none,none]/\H'=H/\∀x∈T.take i,x.1=m->HD.tieL c now co x.2.1 x.2.2=true) ⟨none,none,none,rfl,rfl,fun x hx=>by simp at hx⟩ ?_ ?_ ?_
  ·rintro i σ' H1 _ ⟨v6,v7,v8,rfl,rfl,_⟩
   exact SqL.of g2
  ·rintro i y σ' H1 hy ⟨v6,v7,v8,rfl,rfl,ok1⟩
   rw [ZA0] at hy
   cases hq:ps[i]? with
   | none=>rw [hq] at hy;cases hy
   | some q=>
    rw [hq] at hy
    cases hy
    obtain ⟨x,hx,hqx⟩:=paired_get g3 hq
    have hxm:=ZA1 hx
    have hb:=hR.tb x hxm
    have hat:=zc6 (c:=c) (i:=x.2.1) (by lia)
    have hqx:H1 q=some (.tup [.int (x.1:Int),.int (x.2.1:Int),.int x.2.2]):=hqx
    refine ⟨q,_,rfl,SqT.of hqx,rfl,_,_,rfl,_,_,rfl,_,_,rfl,rfl,?_⟩
    have bad:x.1=m->HD.tieL c now co x.2.1 x.2.2=false->Q (.bl false) H1:=fun e1 e2=>no (fun z=>by have:=(zgd.mp z).1 x hxm e1;rw [e2] at this;cases this) _ (zbe.refl _)
    have good:(x.1=m->HD.tieL c now co x.2.1 x.2.2=true)->∀y∈T.take (i+1),y.1=m->HD.tieL c now co y.2.1 y.2.2=true:=fun h y hy e=>by
     rcases zcu hx hy with z | z
     ·exact ok1 y z e
     ·subst z;exact h e
    by_cases hm:x.1=m
    case neg=>
     refine fun N2 c2=>⟨_,rfl,_,rfl,rfl,_,rfl,?_⟩
     rw [zku]
     refine zct hm (zde (c2 _ _ ⟨_,rfl,_,rfl,rfl,_,rfl,?_⟩))
     rw [zku]
     exact zct hm (zde ⟨_,_,_,rfl,rfl,good fun z=>absurd z hm⟩)
    have tv:HD.tieL c now co x.2.1 x.2.2=match HD.cm c x.2.1 with
     | some t=>decide (t<=now+x.2.2)
     | none=>decide (0<x.2.2) || (decide (x.2.2=0) && decide (x.2.1∈co)):=rfl
    refine fun N2 c2=>⟨_,rfl,_,rfl,rfl,_,rfl,?_⟩
    rw [zku]
    refine zep hm ⟨_,rfl,_,rfl,tl,_,_,_,rfl,rfl,hR.t,hat,rfl,_,rfl,?_⟩
    rw [zeo]
    cases hc:HD.cm c x.2.1 with
    | none=>
     rw [hc] at tv hat
     have second:N2 [some (.ref wp),some (.ref r),some (.ref tl),some (.int now),some (.int (m:Int)),some (.ref bl),some (.int (x.1:Int)),some (.int (x.2.1:Int)),some (.int x.2.2),none,none,none] H1\/HD.tieL c now co x.2.1 x.2.2=false:=by
      by_cases z:HD.tieL c now co x.2.1 x.2.2=true
      ·refine .inl (c2 _ _ ⟨_,rfl,_,rfl,rfl,_,rfl,?_⟩)
       rw [zku]
       exact zep hm ⟨_,rfl,_,rfl,tl,_,_,_,rfl,rfl,hR.t,hat,rfl,_,rfl,zde (zde ⟨_,_,_,rfl,rfl,good fun _=>z⟩)⟩
      ·exact .inr (ZAk.mpr z)
     refine zft ⟨_,rfl,_,_,rfl,rfl,_,rfl,?_⟩
     by_cases h0:x.2.2<=0
     case neg=>
      refine zct h0 (zde (second.resolve_right fun z=>?_))
      rw [tv,ZB8 (show 0<x.2.2 by lia)] at z
      cases z
     refine zep h0 ⟨_,rfl,_,_,rfl,rfl,_,rfl,?_⟩
     by_cases h1:x.2.2<0
     ·refine zep h1 (zft (bad hm ?_))
      have tv:HD.tieL c now co x.2.1 x.2.2=(decide (0<x.2.2) || (decide (x.2.2=0) && decide (x.2.1∈co))):=tv
      rw [tv,ZB9 (show ¬0<x.2.2 by lia),ZB9 (show ¬x.2.2=0 by lia)]
      rfl
     ·have tv:HD.tieL c now co x.2.1 x.2.2=(decide (0<x.2.2) || (decide (x.2.2=0) && decide (x.2.1∈co))):=tv
      rw [ZB9 (show ¬0<x.2.2 by lia),ZB8 (show x.2.2=0 by lia)] at tv
      refine zct h1 ⟨_,rfl,_,rfl,bl,_,rfl,.inl (SqL.of hbl),rfl,zh8,_,rfl,?_⟩
      have tv:HD.tieL c now co x.2.1 x.2.2=decide (x.2.1∈co):=tv
      by_cases h2:x.2.1∈co
      ·refine zf3 (show (!inV _ _)=false by rw [zju,ZB8 h2];rfl) (second.resolve_right fun z=>?_)
       rw [tv,ZB8 h2] at z
       cases z
      ·exact zgg (show (!inV _ _)=true by rw [zju,ZB9 h2];rfl) (bad hm (by rw [tv];exact ZB9 h2))
    | some t=>
     rw [hc] at tv hat
     have tv:HD.tieL c now co x.2.1 x.2.2=decide (t<=now+x.2.2):=tv
     refine zde (zde (c2 _ _ ⟨_,rfl,_,rfl,rfl,_,rfl,?_⟩))
     rw [zku]
     refine zep hm ⟨_,rfl,_,rfl,tl,_,_,_,rfl,rfl,hR.t,hat,rfl,_,rfl,zft ⟨_,rfl,_,rfl,_,rfl,tl,_,_,_,rfl,rfl,hR.t,hat,_,rfl,_,_,rfl,rfl,_,_,rfl,rfl,_,rfl,?_⟩⟩
     by_cases h1:now<t-x.2.2
     ·exact zep h1 (bad hm (by rw [tv];exact ZB9 (by lia)))
     ·exact zct h1 ⟨_,_,_,rfl,rfl,good fun _=>by rw [tv];exact ZB8 (by lia)⟩
  rintro σ' H1 ⟨v6,v7,v8,rfl,rfl,ok1⟩
  rw [ZAu,Paired.length g3,ZBi] at ok1
  refine c1 _ _ ?_
  clear c1 N1
  refine fun N1 c1=>⟨_,rfl,rdT g1 rfl ⟨lw,rfl,⟨_,SqL.of g4⟩,?_⟩⟩
  refine zbu (K:=K) (a:=lw) (xs:=qs.map V.ref) (fun i σ' H'=>∃v6 v9 v10 v11,σ'=[some (.ref wp),some (.ref r),some (.ref tl),some (.int now),some (.int (m:Int)),some (.ref bl),v6,v7,v8,v9,v10,v11]/\zbe H1 H'/\∀x∈M.take i,x.1=m->HD.waitL c now (zak rF) x.2.1 x.2.2=true) ⟨_,none,none,none,rfl,zbe.refl _,fun x hx=>by simp at hx⟩ ?_ ?_ ?_
  ·rintro i σ' H2 _ ⟨v6,v9,v10,v11,rfl,s2,_⟩
   exact SqL.of (s2 _ _ g4)
  ·rintro i y σ' H2 hy ⟨v6,v9,v10,v11,rfl,s2,ok2⟩
   rw [ZA0] at hy
   cases hq:qs[i]? with
   | none=>rw [hq] at hy;cases hy
   | some q=>
    rw [hq] at hy
    cases hy
    obtain ⟨x,hx,hqx⟩:=paired_get g5 hq
    have hxm:=ZA1 hx
    obtain ⟨f,hf,hb,hfb⟩:=hR.mb x hxm
    have hat:=zc6 (c:=c) (i:=x.2.1) (by lia)
    have hqx:H2 q=some (.tup [.int (x.1:Int),.int (x.2.1:Int),.int x.2.2]):=s2 _ _ hqx
    refine ⟨q,_,rfl,SqT.of hqx,rfl,_,_,rfl,_,_,rfl,_,_,rfl,rfl,?_⟩
    have bad:x.1=m->HD.waitL c now (zak rF) x.2.1 x.2.2=false->∀H',zbe H1 H'->Q (.bl false) H':=fun e1 e2=>no (fun z=>by have:=(zgd.mp z).2 x hxm e1;rw [e2] at this;cases this)
    have good:(x.1=m->HD.waitL c now (zak rF) x.2.1 x.2.2=true)->∀y∈M.take (i+1),y.1=m->HD.waitL c now (zak rF) y.2.1 y.2.2=true:=fun h y hy e=>by
     rcases zcu hx hy with z | z
     ·exact ok2 y z e
     ·subst z;exact h e
    refine ⟨_,rfl,_,rfl,rfl,_,rfl,?_⟩
    rw [zku]
    by_cases hm:x.1=m
    case neg=>exact zct hm (zde ⟨_,_,_,_,rfl,s2,good fun z=>absurd z hm⟩)
    have tv:HD.waitL c now (zak rF) x.2.1 x.2.2=((HD.cm c x.2.1).isSome || match HD.cm c f.1 with | some t=>decide (x.2.2<=now-t) | none=>false):=by
     unfold HD.waitL
     rw [hf]
     try rfl
    refine zep hm ⟨_,rfl,_,rfl,tl,_,_,_,rfl,rfl,s2 _ _ hR.t,hat,rfl,_,rfl,?_⟩
    rw [zeo]
    cases hc:HD.cm c x.2.1 with
    | some t=>exact zde ⟨_,_,_,_,rfl,s2,good fun _=>by rw [tv,hc];rfl⟩
    | none=>
     rw [hc] at tv
     refine zft ?_
     obtain ⟨fs,hfa⟩:=D0.f
     refine fun N2 c2=>⟨_,rfl,rdT (s2 _ _ D0.tup) rfl ⟨fa,rfl,⟨_,SqL.of (s2 _ _ hfa.1)⟩,fun DA hDA=>?_⟩⟩
     refine zbv (K:=K) (a:=fa) (xs:=fs.map V.ref) (fun j σ' H'=>∃v,σ'=[v,some (.int (x.2.1:Int)),some (.ref tl)]/\H' DA=some (.lst (((rF.take j).filter fun r=>decide (r[1]?=some (x.2.1:Int))).map fun r=>ov (HD.cm c (r.getD 0 0).toNat)))/\zbe H2 H') ⟨none,rfl,zab,zag hDA⟩ ?_ ?_ ?_
     ·rintro j σ' H3 _ ⟨v,rfl,_,s3⟩
      exact SqL.of (s3 _ _ (s2 _ _ hfa.1))
     ·rintro j y σ' H3 hy ⟨v,rfl,e3,s3⟩
      rw [ZA0] at hy
      cases hq2:fs[j]? with
      | none=>rw [hq2] at hy;cases hy
      | some q2=>
       rw [hq2] at hy
       cases hy
       obtain ⟨r2,hr2,hqr2⟩:=paired_get hfa.2 hq2
       have hj:j<rF.length:=(ZAv.mp hr2).1
       obtain ⟨a1,b1,l1,m1,er,h0,h1,_⟩:=hok.f r2 (ZA1 hr2)
       subst er
       have hqr2:=s3 _ _ (s2 _ _ hqr2)
       have et:rF.take (j+1)=rF.take j++[[a1,b1,l1,m1]]:=by rw [ZBu,hr2];rfl
       have hfl:([[a1,b1,l1,m1]]:List (List Int)).filter (fun r=>decide (r[1]?=some (x.2.1:Int)))=if b1=(x.2.1:Int) then [[a1,b1,l1,m1]] else []:=by
        by_cases c:b1=(x.2.1:Int)
        ·rw [if_pos c,List.filter_cons_of_pos (by show decide (some b1=some (x.2.1:Int))=true;rw [c];exact ZB8 rfl)];rfl
        ·rw [if_neg c,List.filter_cons_of_neg (by show ¬decide (some b1=some (x.2.1:Int))=true;rw [ZBy,Option.some.injEq];exact c)];rfl
       refine ⟨_,rfl,rdT hqr2 rfl ⟨_,rfl,rfl,_,rfl,?_⟩⟩
       rw [zyf]
       by_cases c3:b1=(x.2.1:Int)
       ·have ha:atI (c.map ov) a1=some (ov (HD.cm c a1.toNat)):=by
         have:=zc6 (c:=c) (i:=a1.toNat) (by lia)
         rw [ZAg h0] at this
         exact this
        refine zep c3 ⟨_,rfl,_,rfl,rdT hqr2 rfl ⟨tl,_,_,_,rfl,rfl,s3 _ _ (s2 _ _ hR.t),ha,_,e3,?_,_,rfl,?_,fun b o e=>?_⟩⟩
        ·rw [ZAu]
         have:=List.length_filter_le (fun r=>decide (r[1]?=some (x.2.1:Int))) (rF.take j)
         rw [ZBl] at this
         have:=hok.fl
         exact zan (by lia)
        ·rw [zab,et,List.filter_append,hfl,if_pos c3,ZA9];rfl
        ·rw [zaf (zaa e hDA)];exact s3 _ _ e
       ·refine zct c3 ⟨_,rfl,?_,s3⟩
        rw [et,List.filter_append,hfl,if_neg c3,List.append_nil]
        exact e3
     rintro σ' H3 ⟨v,rfl,e3,s3⟩
     rw [ZAu,Paired.length hfa.2,ZBi] at e3
     obtain ⟨t2,et⟩:=zn9 hok hf
     rw [et] at e3
     have e3:H3 DA=some (.lst (ov (HD.cm c (((f.1:Nat):Int)).toNat)::t2.map fun r=>ov (HD.cm c (r.getD 0 0).toNat))):=e3
     rw [ZBx] at e3
     refine ⟨DA,_,_,_,rfl,rfl,e3,zb1 (j:=0) rfl,c2 _ _ ?_⟩
     clear c2 N2
     have s23:=s2.trans s3
     refine ⟨_,rfl,rfl,_,rfl,?_⟩
     rw [zeo]
     cases hd:HD.cm c f.1 with
     | none=>exact zft (zft (bad hm (by rw [tv,hd];rfl) _ s23))
     | some t=>
      rw [hd] at tv
      have tv:HD.waitL c now (zak rF) x.2.1 x.2.2=decide (x.2.2<=now-t):=tv
      refine zde ⟨_,rfl,_,rfl,_,rfl,_,_,rfl,rfl,_,_,rfl,rfl,_,rfl,?_⟩
      by_cases h1:now<t+x.2.2
      ·exact zep h1 (bad hm (by rw [tv];exact ZB9 (by lia)) _ s23)
      ·exact zct h1 ⟨_,_,_,_,rfl,s23,good fun _=>by rw [tv];exact ZB8 (by lia)⟩
  rintro σ' H2 ⟨v6,v9,v10,v11,rfl,s2,ok2⟩
  rw [ZAu,Paired.length g5,ZBi] at ok2
  exact c1 _ _ (zgz (k H2 s2) (zgd.mpr ⟨ok1,ok2⟩))
def dl0 (n:Nat) (F:List (List Int)) (c:List (Option Int)):List Nat:=(zp2 n F).filter fun m=>(HD.cm c m).isNone
def zv9:Sp:=fun vs H Q _=>∃(wp ta fa r tl:Addr) (n:Nat) (la now:Int) (rT rF:List (List Int)) (T M:List Tri) (c:List (Option Int)),vs=[.ref wp,.ref r,.ref tl,.int now]/\ze9 H wp ta fa (n:Int) la rT rF/\zb4 (n:Int) la rT rF/\zoj H r tl n (zak rF) T M c/\
 ∀l H',H l=none->zbe H H'->H' l=some (.lst ((HD.iter (HD.step T M (zak rF) c now) (n+1) (dl0 n rF c)).map fun i:Nat=>V.int (i:Int)))->Q (.ref l) H'
abbrev nLd:List Str:=["_law_w","_law_rule","_law_times","_law_now","_law_ends","_law_due_here","_law_turn"]
theorem zwe:zam nLd ["_law_w","_law_rule","_law_times","_law_now"] (zae sL_due):=scm
theorem zyt:zbw (zae sL_due) nLd (fsc [(".0",.local),("_law_fall",.local)]) ["_law_fall"] [none]:=com
theorem zys:zbw (zae sL_due) nLd (fsc [(".0",.local),("_law_k",.local),("_law_ends",.free),("_law_times",.free)]) ["_law_k","_law_ends","_law_times"] [none,some 4,some 2]:=com
theorem zyr:zbw (zae sL_due) nLd (fsc [(".0",.local),("_law_k",.local),("_law_lets",.globalImplicit),("_law_due_here",.free),("_law_now",.free),("_law_rule",.free),("_law_times",.free),("_law_w",.free)]) ["_law_k","_law_due_here","_law_now","_law_rule","_law_times","_law_w"] [none,some 5,some 3,some 1,some 2,some 0]:=com
theorem zya:(["_law_fall"]:List Str).Nodup:=by decide+kernel
theorem zx9:(["_law_k","_law_ends","_law_times"]:List Str).Nodup:=by decide+kernel
theorem zx8:(["_law_k","_law_due_here","_law_now","_law_rule","_law_times","_law_w"]:List Str).Nodup:=by decide+kernel
theorem ok_due {f fL:Addr} {fd fdL:FuncData} (Fn0:Fn K mg "_law_due" sL_due ["_law_w","_law_rule","_law_times","_law_now"] f fd) (hrange:mg "range"=none)
 (FL:Fn K mg "_law_lets" sL_lets ["_law_w","_law_rule","_law_times","_law_now","_law_moment","_law_beside"] fL fdL) (GL:za3 P w K mg base CX0 1 fL fdL ["_law_w","_law_rule","_law_times","_law_now","_law_moment","_law_beside"] zo9):za3 P w K mg base CX0 2 f fd ["_law_w","_law_rule","_law_times","_law_now"] zv9:=by
 refine Fn0.F.ok zwe (fun _ _ _ _ h=>?_) fun _ A _ s H _ Q E hr h=>?_
 ·obtain ⟨_,_,_,_,_,_,_,_,_,_,_,_,_,rfl,_⟩:=h
  rfl
 ·obtain ⟨wp,ta,fa,r,tl,n,la,now,rT,rF,T,M,c,rfl,D0,hok,hR,k⟩:=h
  refine ⟨_,zac (zem (i:=4) zwe.nd rfl (Or.inr rfl) (zcv rfl (za4 (ixT (pv 0))) zyt (fun cl ex s0 H0=>⟨zci 0 zya,zdn,ixT (pv 0)⟩)))
   (zac (zem (i:=5) zwe.nd rfl (Or.inr rfl) (zcv rfl (zcs (by rfl) hrange (pa1 (ixT (pv 0)))) zys (fun cl ex s0 H0=>⟨zci 0 zx9,zda (PW.pt (zdg (zcy zga (zbj zal (pv 2) (pv 0) (fun _ _=>rfl)) zca) (zdk (zfw (zkt (K:=K) rfl) (pv 0) (pv 1) (by with_unfolding_all rfl))))),pv 0⟩)))
   (zac (zb7 PassesOwn.never rfl (zcs (by rfl) hrange (pa1 (zba zb8 (ixT (pv 0)) zaj))) (zci 6 zwe.nd)
    (zad (zem (i:=5) zwe.nd rfl (Or.inr rfl) (zcv rfl (za4 (pv 5)) zyr (fun cl ex s0 H0=>⟨zci 0 zx8,zda (zfr (pcl GL hr FL (ze1 (pv 5) (ze1 (pv 3) (pa4 (pv 4) (pv 2) (pv 0) (pv 1)))))),pv 0⟩)))))
   (zad (zaq (pv 5))))),?_⟩
  have n8:=hok.n2
  have n1:=hok.n1
  have hlen:=hR.len
  obtain ⟨fs,hfa⟩:=D0.f
  refine fun N1 c1=>⟨_,rfl,rdT D0.tup rfl ⟨fa,rfl,⟨_,SqL.of hfa.1⟩,fun Da hDa=>?_⟩⟩
  refine zbv (K:=K) (a:=fa) (xs:=fs.map V.ref) (fun j σ' H'=>∃v,σ'=[v]/\H' Da=some (.lst (((rF.take j).map zl6).map V.int))/\zbe H H') ⟨none,rfl,zab,zag hDa⟩ ?_ ?_ ?_
  ·rintro j σ' H1 _ ⟨v,rfl,_,s1⟩
   exact SqL.of (s1 _ _ hfa.1)
  ·rintro j y σ' H1 hy ⟨v,rfl,e1,s1⟩
   rw [ZA0] at hy
   cases hq:fs[j]? with
   | none=>rw [hq] at hy;cases hy
   | some q=>
    rw [hq] at hy
    cases hy
    obtain ⟨r2,hr2,hqr⟩:=paired_get hfa.2 hq
    obtain ⟨a1,b1,l1,m1,er,_⟩:=hok.f r2 (ZA1 hr2)
    subst er
    refine ⟨_,rfl,rdT (s1 _ _ hqr) rfl ⟨_,e1,?_,_,rfl,?_,fun b o e=>?_⟩⟩
    ·rw [ZAu,ZAu,ZBl]
     have:=hok.fl
     exact zan (by lia)
    ·rw [zab,ZBu,hr2,ZA9,ZA9]
     rfl
    ·rw [zaf (zaa e hDa)];exact s1 _ _ e
  rintro σ' H1 ⟨v,rfl,e1,s1⟩
  rw [ZAu,Paired.length hfa.2,ZBi] at e1
  refine c1 _ _ ?_
  clear c1 N1
  refine fun N1 c1=>⟨_,rfl,rdT (s1 _ _ D0.tup) rfl ⟨_,rfl,by lia,by lia,fun Db hDb=>?_⟩⟩
  refine zeb (n:=((n:Nat):Int).toNat) (fun j σ' H'=>∃v,σ'=[v,some (.ref Da),some (.ref tl)]/\H' Db=some (.lst ((dl0 j rF c).map fun i:Nat=>V.int (i:Int)))/\zbe H1 H') ⟨none,rfl,zab,zag hDb⟩ ?_ ?_
  ·rintro j σ' H2 hj ⟨v,rfl,e2,s2⟩
   rw [ZBx] at hj
   have z0:(0:Int)+(j:Int)=(j:Int):=by lia
   rw [z0]
   have hsucc:dl0 (j+1) rF c=dl0 j rF c++if (HD.cm c j).isNone=true/\¬(j:Int)∈rF.map zl6 then [j] else []:=by
    unfold dl0 zp2
    rw [List.range_succ,List.filter_append,List.filter_append]
    by_cases c1:(j:Int)∈rF.map zl6
    ·rw [if_neg (fun z=>z.2 c1),List.filter_cons_of_neg (by simpa using c1)]
     rfl
    ·rw [List.filter_cons_of_pos (by simpa using c1)]
     show _++[j].filter _=_
     by_cases c2:(HD.cm c j).isNone=true
     ·rw [if_pos ⟨c2,c1⟩,List.filter_cons_of_pos (p:=fun m=>(HD.cm c m).isNone) (a:=j) c2];rfl
     ·rw [if_neg (fun z=>c2 z.1),List.filter_cons_of_neg (p:=fun m=>(HD.cm c m).isNone) (a:=j) c2];rfl
   have dlen:(dl0 j rF c).length<=j:=by
    unfold dl0 zp2
    exact ZBg (List.length_filter_le _ _) (ZBg (List.length_filter_le _ _) (Nat.le_of_eq List.length_range))
   refine ⟨_,rfl,_,rfl,tl,_,_,_,rfl,rfl,s2 _ _ (s1 _ _ hR.t),zc6 (by lia),rfl,_,rfl,?_⟩
   rw [zeo]
   cases hc:(HD.cm c j).isNone with
   | false=>
    refine zde (zde ⟨_,rfl,?_,s2⟩)
    rw [hsucc,if_neg (fun z=>by rw [hc] at z;cases z.1),List.append_nil]
    exact e2
   | true=>
    refine zft ⟨_,rfl,_,rfl,Da,_,rfl,.inl (SqL.of (s2 _ _ e1)),rfl,ze5,_,rfl,?_⟩
    show if (!inV (V.int (j:Int)) ((rF.map zl6).map V.int))=true then _ else _
    rw [zfk]
    by_cases c1:(j:Int)∈rF.map zl6
    ·refine zf3 (by rw [ZB8 c1];rfl) ⟨_,rfl,?_,s2⟩
     rw [hsucc,if_neg (fun z=>z.2 c1),List.append_nil]
     exact e2
    ·refine zgg (by rw [ZB9 c1];rfl) ⟨_,rfl,_,e2,?_,_,rfl,?_,fun b o e=>?_⟩
     ·rw [ZAu];exact zan (by lia)
     ·rw [zab,hsucc,if_pos ⟨hc,c1⟩,ZA9];rfl
     ·rw [zaf (zaa e hDb)];exact s2 _ _ e
  rintro σ' H2 ⟨v,rfl,e2,s2⟩
  rw [ZBx] at e2
  refine c1 _ _ ?_
  clear c1 N1
  have s02:=s1.trans s2
  have dlen:∀j,(HD.iter (HD.step T M (zak rF) c now) j (dl0 n rF c)).length<=100:=fun j=>by
   induction j with
   | zero=>
    show (dl0 n rF c).length<=100
    unfold dl0 zp2
    exact ZBg (List.length_filter_le _ _) (ZBg (List.length_filter_le _ _) (by rw [List.length_range];lia))
   | succ j ih=>rw [HD.iter_succ];exact ZBg (HD.step_len _) ih
  refine fun N1 c1=>⟨_,rfl,rdT (s02 _ _ D0.tup) rfl ⟨_,_,rfl,rfl,_,rfl,by lia,by lia,?_⟩⟩
  have en:((n:Int)+1).toNat=n+1:=by lia
  refine zd9 (n:=n+1) (fun j σ' H'=>∃v6 l,σ'=[some (.ref wp),some (.ref r),some (.ref tl),some (.int now),some (.ref Da),some (.ref l),v6]/\H' l=some (.lst ((HD.iter (HD.step T M (zak rF) c now) j (dl0 n rF c)).map fun i:Nat=>V.int (i:Int)))/\H l=none/\zbe H H') ⟨none,Db,rfl,e2,s1.free hDb,s02⟩ ?_ ?_
  ·rintro j σ' H3 hj ⟨v6,l,rfl,e3,hl,s3⟩
   have lj:=dlen j
   generalize hX:HD.iter (HD.step T M (zak rF) c now) j (dl0 n rF c)=X at*
   refine ⟨_,rfl,l,rfl,⟨_,SqL.of e3⟩,fun Dc hDc=>?_⟩
   refine zbv (K:=K) (a:=l) (xs:=X.map fun i:Nat=>V.int (i:Int)) (fun i σ' H'=>∃v,σ'=[v,some (.ref l),some (.int now),some (.ref r),some (.ref tl),some (.ref wp)]/\H' Dc=some (.lst (((X.take i).filter fun m=>HD.lets T M (zak rF) c now m X).map fun i:Nat=>V.int (i:Int)))/\zbe H3 H') ⟨none,rfl,zab,zag hDc⟩ ?_ ?_ ?_
   ·rintro i σ' H4 _ ⟨v,rfl,_,s4⟩
    exact SqL.of (s4 _ _ e3)
   ·rintro i y σ' H4 hy ⟨v,rfl,e4,s4⟩
    rw [ZA0] at hy
    cases hq:X[i]? with
    | none=>rw [hq] at hy;cases hy
    | some m=>
     rw [hq] at hy
     cases hy
     have hi:=(ZAv.mp hq).1
     have s04:=s3.trans s4
     refine ⟨_,rfl,_,rfl,_,rfl,_,rfl,_,rfl,_,rfl,wp,ta,fa,r,tl,l,n,la,now,rT,rF,T,M,c,m,X,rfl,D0.same s04,hok,hR.same s04,s4 _ _ e3,fun H5 s5=>⟨_,rfl,?_⟩⟩
     have e5:=s5 _ _ e4
     cases hc:HD.lets T M (zak rF) c now m X with
     | true=>
      refine zft ⟨_,rfl,_,e5,?_,_,rfl,?_,fun b o e=>?_⟩
      ·rw [ZAu]
       have:=List.length_filter_le (fun m=>HD.lets T M (zak rF) c now m X) (X.take i)
       rw [ZBl] at this
       exact zan (by lia)
      ·rw [zab,zdi hq,if_pos hc,ZA9];rfl
      ·rw [zaf (zaa e hDc)];exact s5 _ _ (s4 _ _ e)
     | false=>
      refine zde ⟨_,rfl,?_,s4.trans s5⟩
      rw [zdi hq,if_neg (by rw [hc];exact ZA6),List.append_nil]
      exact e5
   rintro σ' H4 ⟨v,rfl,e4,s4⟩
   rw [ZAu,ZBi] at e4
   refine ⟨_,Dc,rfl,?_,s3.free hDc,s3.trans s4⟩
   rw [HD.iter_succ,hX]
   exact e4
  ·rintro σ' H3 ⟨v6,l,rfl,e3,hl,s3⟩
   exact c1 _ _ ⟨_,rfl,k l H3 hl s3 e3⟩
def zgj (c:List (Option Int)) (now:Int) (outs:List Int) (F:List (List Int)) (k:Nat):Bool:=match F[k]? with
 | some [b,e,_,_]=>(HD.cm c e.toNat).isNone && match HD.cm c b.toNat with
  | some t=>decide (now=t+outs.getD k 0)
  | none=>false
 | _=>false
def zw0 (F:List (List Int)) (k:Nat):Nat:=(((F[k]?).getD []).getD 1 0).toNat
def fsK (c:List (Option Int)) (now:Int) (outs:List Int) (F:List (List Int)) (k:Nat):List Nat:=((List.range k).filter (zgj c now outs F)).map (zw0 F)
section
variable {c:List (Option Int)} {now:Int} {outs:List Int} {n:Nat} {la:Int} {T F:List (List Int)}
theorem zjv {k:Nat}:fsK c now outs F (k+1)=fsK c now outs F k++if zgj c now outs F k=true then [zw0 F k] else []:=by
 unfold fsK
 rw [List.range_succ,List.filter_append,ZA9]
 by_cases h:zgj c now outs F k=true
 ·rw [if_pos h,List.filter_cons_of_pos h];rfl
 ·rw [if_neg h,List.filter_cons_of_neg h];rfl
theorem zgx {k e:Nat}:e∈fsK c now outs F k↔∃j,j<k/\zgj c now outs F j=true/\zw0 F j=e:=by
 unfold fsK
 rw [ZBr]
 refine ⟨fun ⟨j,h,e⟩=>?_,fun ⟨j,h1,h2,h3⟩=>⟨j,List.mem_filter.mpr ⟨List.mem_range.mpr h1,h2⟩,h3⟩⟩
 have h:=List.mem_filter.mp h
 exact ⟨j,List.mem_range.mp h.1,h.2,e⟩
theorem ze6 (hok:zb4 (n:Int) la T F) {k:Nat} (h:zgj c now outs F k=true):∃b e l m,F[k]?=some [b,e,l,m]/\HD.cm c e.toNat=none/\∃t,HD.cm c b.toNat=some t/\now=t+outs.getD k 0:=by
 unfold zgj at h
 split at h
 ·rename_i b e l m hk
  rw [Bool.and_eq_true] at h
  obtain ⟨h1,h2⟩:=h
  refine ⟨b,e,l,m,hk,Option.isNone_iff_eq_none.mp h1,?_⟩
  cases ht:HD.cm c b.toNat with
  | none=>rw [ht] at h2;cases h2
  | some t=>rw [ht] at h2;exact ⟨t,rfl,of_decide_eq_true h2⟩
 ·cases h
theorem zne {k:Nat} {b e l m t:Int} (h:F[k]?=some [b,e,l,m]) (h1:HD.cm c e.toNat=none) (h2:HD.cm c b.toNat=some t) (h3:now=t+outs.getD k 0):zgj c now outs F k=true:=by
 unfold zgj
 rw [h]
 show ((HD.cm c e.toNat).isNone && match HD.cm c b.toNat with | some t=>decide (now=t+outs.getD k 0) | none=>false)=true
 rw [h1,h2]
 exact ZB8 h3
theorem zd1 {k:Nat} {b e l m:Int} (h:F[k]?=some [b,e,l,m]):zw0 F k=e.toNat:=by unfold zw0;rw [h];rfl
theorem zg1 (hok:zb4 (n:Int) la T F) {k:Nat} {r:List Int} (h:F[k]?=some r):∃b e l m,r=[b,e,l,m]/\0<=b/\b<n/\0<e/\e<n/\1<=l:=by
 obtain ⟨b,e,l,m,rfl,h1,h2,h3,h4,h5,h6,_⟩:=hok.f r (ZA1 h)
 exact ⟨b,e,l,m,rfl,h1,h2,by omega,h4,by omega⟩
theorem ztn (hok:zb4 (n:Int) la T F) {k e:Nat} (h:e∈fsK c now outs F k):e<n:=by
 obtain ⟨j,_,h2,rfl⟩:=zgx.mp h
 obtain ⟨b,e,l,m,hj,_⟩:=ze6 hok h2
 obtain ⟨_,_,_,_,er,_,_,h5,h6,_⟩:=zg1 hok hj
 cases er
 rw [zd1 hj]
 omega
theorem zqm (hok:zb4 (n:Int) la T F) {k i:Nat} {b e l m:Int} (h:F[i]?=some [b,e,l,m]):b.toNat∉fsK c now outs F k:=fun z=>by
 obtain ⟨j,_,h2,h3⟩:=zgx.mp z
 obtain ⟨b',e',l',m',hj,_⟩:=ze6 hok h2
 obtain ⟨_,_,_,_,er,h4,_,h5,_⟩:=zg1 hok hj
 cases er
 obtain ⟨_,_,_,_,er,h6,_,h7,_⟩:=zg1 hok h
 cases er
 rw [zd1 hj] at h3
 have e1:b=e':=by lia
 exact hok.own _ (ZA1 h) _ (ZA1 hj) (by rw [e1];rfl)
theorem zui (hok:zb4 (n:Int) la T F) {i j:Nat} {b e l m b' e' l' m':Int} (h:F[i]?=some [b,e,l,m]) (h':F[j]?=some [b',e',l',m']) (he:e.toNat=e'.toNat):i=j:=by
 obtain ⟨_,_,_,_,er,_,_,h5,_⟩:=zg1 hok h
 cases er
 obtain ⟨_,_,_,_,er,_,_,h6,_⟩:=zg1 hok h'
 cases er
 exact hok.one i j _ _ h h' (by show some e=some e';rw [show e=e' by lia])
theorem zqn (hok:zb4 (n:Int) la T F) {k:Nat} {b e l m:Int} (h:F[k]?=some [b,e,l,m]):e.toNat∉fsK c now outs F k:=fun z=>by
 obtain ⟨j,h1,h2,h3⟩:=zgx.mp z
 obtain ⟨b',e',l',m',hj,_⟩:=ze6 hok h2
 rw [zd1 hj] at h3
 have:=zui hok hj h h3
 lia
theorem zk3 (hok:zb4 (n:Int) la T F):∀k,k<=F.length->(fsK c now outs F k).Nodup
 | 0,_=>List.nodup_nil
 | k+1,hk=>by
  rw [zjv]
  have ih:=zk3 hok k (by lia)
  by_cases h:zgj c now outs F k=true
  ·rw [if_pos h]
   obtain ⟨b,e,l,m,hj,_⟩:=ze6 hok h
   refine List.nodup_append.mpr ⟨ih,List.nodup_cons.mpr ⟨nofun,List.nodup_nil⟩,fun x hx y hy z=>?_⟩
   rw [ZBd.mp hy,zd1 hj] at z
   exact zqn hok hj (z▸hx)
  ·rw [if_neg h,List.append_nil]
   exact ih
structure zra (F:List (List Int)) (outs:List Int):Prop where
 len:outs.length=F.length
 at_:∀k b e l m,F[k]?=some [b,e,l,m]->l<=outs.getD k 0/\outs.getD k 0<=m
def Jt (F:List (List Int)) (outs:List Int) (c:List (Option Int)) (now:Int):Prop:=∀k b e l m t,F[k]?=some [b,e,l,m]->HD.cm c e.toNat=none->HD.cm c b.toNat=some t->now<=t+outs.getD k 0
theorem zjx (hok:zb4 (n:Int) la T F) {e:Nat} {f:Nat×Int×Int} (h:zak F e=some f):∃(k:Nat) (b:Int),F[k]?=some [b,(e:Int),f.2.1,f.2.2]/\f.1=b.toNat/\e<n/\f.1<n:=by
 obtain ⟨a,l,m,hm,rfl,h1,h2,h3,h4,_⟩:=hok.find h
 obtain ⟨k,hk⟩:=ZAm.mp hm
 exact ⟨k,a,hk,rfl,by lia,by show a.toNat<n;lia⟩
theorem zsj (hok:zb4 (n:Int) la T F) (ho:zra F outs) (hJ:Jt F outs c now) (a:zc8) (e1:a.F=zak F) (e2:a.c=c) (e3:a.now=now) (e4:c.length=n):zmc a (fsK c now outs F F.length):=by
 refine ⟨zk3 hok _ (ZAw _),fun e he=>?_,fun e f t h1 h2 h3 h4=>?_,fun e f h=>?_⟩
 ·obtain ⟨j,h1,h2,h3⟩:=zgx.mp he
  obtain ⟨b,e',l,m,hj,g1,t,g2,g3⟩:=ze6 hok h2
  obtain ⟨_,_,_,_,er,_,_,h5,_⟩:=zg1 hok hj
  cases er
  rw [zd1 hj] at h3
  have hf:=hok.falls (ZA1 (show F[j]?=some [b,((e:Nat):Int),l,m] by rw [hj,show e'=(e:Int) by lia]))
  have ob:=ho.at_ j _ _ _ _ hj
  rw [e1,e2,e3]
  refine ⟨_,t,hf,by rw [<-h3];exact g1,g2,?_,?_⟩
  ·show l<=now-t
   lia
  ·show now-t<=m
   lia
 ·rw [e1] at h1
  rw [e2] at h2 h3
  rw [e3] at h4
  obtain ⟨k,b,hk,hb,_⟩:=zjx hok h1
  have ob:=ho.at_ k _ _ _ _ hk
  rw [hb] at h3
  have:=hJ k _ _ _ _ t hk h2 h3
  refine zgx.mpr ⟨k,(ZAv.mp hk).1,zne hk h2 h3 (by lia),by rw [zd1 hk];rfl⟩
 ·rw [e1] at h
  rw [e2,e4]
  obtain ⟨k,b,hk,hb,h1,h2⟩:=zjx hok h
  exact ⟨h1,h2⟩
theorem Jt.next (hok:zb4 (n:Int) la T F) (ho:zra F outs) (hJ:Jt F outs c now) {r:List Nat} (hr:∀m∈r,m<c.length) (hc:c.length=n):Jt F outs (HD.setAll r now (HD.setAll (fsK c now outs F F.length) now c)) (now+1):=by
 intro k b e l m t hk h1 h2
 have lt1:∀x∈fsK c now outs F F.length,x<c.length:=fun x hx=>by rw [hc];exact ztn hok hx
 have lt2:∀x∈r,x<(HD.setAll (fsK c now outs F F.length) now c).length:=fun x hx=>by rw [HD.setAll_len];exact hr x hx
 rw [HD.cm_setAll lt2,HD.cm_setAll lt1] at h1 h2
 have ob:=ho.at_ k _ _ _ _ hk
 obtain ⟨_,_,_,_,er,_,_,_,_,hl⟩:=zg1 hok hk
 cases er
 by_cases c1:b.toNat∈r
 ·rw [if_pos c1] at h2
  cases h2
  lia
 rw [if_neg c1] at h2
 by_cases c2:b.toNat∈fsK c now outs F F.length
 ·exact absurd c2 (zqm hok hk)
 rw [if_neg c2] at h2
 by_cases c3:e.toNat∈r
 ·rw [if_pos c3] at h1;cases h1
 rw [if_neg c3] at h1
 by_cases c4:e.toNat∈fsK c now outs F F.length
 ·rw [if_pos c4] at h1;cases h1
 rw [if_neg c4] at h1
 have:=hJ k _ _ _ _ t hk h1 h2
 have ne:now≠t+outs.getD k 0:=fun z=>c4 (zgx.mpr ⟨k,(ZAv.mp hk).1,zne hk h1 h2 z,zd1 hk⟩)
 lia
end
end Y0
namespace L2
open PySem PySem.Spec PyProof.Rows
theorem zuw {X:Cx} (hu:X.A.units+64<cLine):OpR X (compareOp .NotEq) (fun x y H Q=>∃(p q:Addr) (xs:List V),x=.ref p/\y=.ref q/\H p=some (.lst xs)/\H q=some (.lst xs)/\xs.all zdp=true/\Q (.bl false) H):=by
 intro pins s σ H x y v u Q I rx ry h
 obtain ⟨p,q,xs,rfl,rfl,h1,h2,f,hq⟩:=h
 cases rx
 cases ry
 obtain ⟨us,r1,p1,_⟩:=I.list (SqL.of h1)
 obtain ⟨vs,r2,p2,_⟩:=I.list (SqL.of h2)
 have l1:=r1.length
 have l2:=r2.length
 refine SeqAt.RcNeAt.lists p1.isList p2.isList (by rw [ZA2,ZA2];lia) (by lia) (zqq r1 r2 f f) _ _ _ _ ⟨.bl _,H,I,rfl,?_⟩
 rw [ZA2,<-l1]
 have e:zsr xs xs=true:=zoh f
 unfold zsr at e
 rw [e]
 exact hq
end L2
namespace Y0
open PySem L2
seal L2.PE L2.PA L2.PT L2.PS L2.PSs L2.PG L2.PGs L2.PI L2.PO
theorem zva {c:List (Option Int)}:(c.map ov).all zdp=true:=by
 rw [List.all_map]
 exact ZBw.mpr fun x _=>by cases x<;>rfl
theorem scr_of {K:ZCa} {H:Hp} {a:Addr} {ns:List Int} (o:zw8 H) (h:SqL K H a (ns.map V.int)):zie K H a ns:=by
 rcases h with (h | h) | h
 ·rcases o a with z | ⟨ob,xs,z⟩
  ·rw [z] at h;cases h
  ·rw [z] at h;cases h
 ·exact .inl h
 ·exact .inr h
def spLaw (K:ZCa):Sp:=fun vs H Q _=>∃a ns,vs=[.ref a]/\zie K H a ns/\∀H',Q (.bl true) H'
theorem zon.lt {n:Nat} {st:MU.St} {t:Bool} {L:List Tri} (h:zon st t L) (g:MU.zdq n st):∀x∈L,x.1<n/\x.2.1<n:=fun x hx=>by
 obtain ⟨a,b,v⟩:=x
 have hv:=(h.has a b v).mp hx
 unfold MU.val at hv
 cases hq:st.best (t,a,b) with
 | none=>rw [hq] at hv;cases hv
 | some j=>
  obtain ⟨w',h1,h2⟩:=g.at_ _ _ hq
  have h4:=MU.zc4 h2
  have h5:=g.lt _ _ h1
  have e1:=h4.2.1
  have e2:=h4.2.2
  show a<n/\b<n
  lia
theorem zon.len {n:Nat} {st:MU.St} {t:Bool} {L:List Tri} (h:zon st t L) (g:MU.zdq n st) (h8:n<=8):L.length<=64:=by
 have hl:=h.lt g
 have hnd:(L.map fun x=>x.1*8+x.2.1).Nodup:=by
  have h0:=h.once
  unfold List.Nodup at h0 ⊢
  rw [List.pairwise_map] at h0 ⊢
  refine List.Pairwise.imp_of_mem (fun {x y} hx hy e z=>e ?_) h0
  have l1:=hl x hx
  have l2:=hl y hy
  exact Prod.ext (by show x.1=y.1;lia) (by show x.2.1=y.2.1;lia)
 have:=MH.zeh 64 _ hnd fun z hz=>by
  obtain ⟨x,hx,rfl⟩:=ZBr.mp hz
  have l1:=hl x hx
  show x.1*8+x.2.1<64
  lia
 rwa [ZAu] at this
theorem zn6 {T T' M M':List Tri} {F:MU.zaz} {c:List (Option Int)} {now:Int} (h1:∀x,x∈T↔x∈T') (h2:∀x,x∈M↔x∈M'):HD.step T M F c now=HD.step T' M' F c now:=by
 funext l
 unfold HD.step
 refine congrArg (fun p=>l.filter p) (funext fun m=>Bool.eq_iff_iff.mpr ?_)
 rw [zgd,zgd]
 exact ⟨fun h=>⟨fun x hx=>h.1 x ((h1 x).mpr hx),fun x hx=>h.2 x ((h2 x).mpr hx)⟩,fun h=>⟨fun x hx=>h.1 x ((h1 x).mp hx),fun x hx=>h.2 x ((h2 x).mp hx)⟩⟩
theorem znm {st:MU.St} {t:Bool} {L L':List Tri} (h:zon st t L) (h':zon st t L') (x:Tri):x∈L↔x∈L':=(h.has x.1 x.2.1 x.2.2).trans (h'.has x.1 x.2.1 x.2.2).symm
theorem zsi {L L':List Tri} {p:Tri->Bool} (h:∀x,x∈L↔x∈L') (x:Tri):x∈L.filter p↔x∈L'.filter p:=by
 rw [List.mem_filter,List.mem_filter,h x]
theorem zj9 {n:Nat} {la:Int} {T F:List (List Int)} (hok:zb4 (n:Int) la T F) {x:Tri} (h:zb6 (zak F) x=true):∃f,zak F x.2.1=some f/\x.2.1<n/\f.1<n:=by
 unfold zb6 at h
 cases hf:zak F x.2.1 with
 | none=>rw [hf] at h;cases h
 | some f=>
  obtain ⟨k,b,_,_,h1,h2⟩:=zjx hok hf
  exact ⟨f,rfl,h1,h2⟩
theorem zlu {K:ZCa} {sa d a:Addr} {H:Hp} {qs:List Addr} (D:zew K sa H d) (h:H a=some (.lst (qs.map V.ref))):a≠d:=fun e=>by
 obtain ⟨p,hd⟩:=D.at_
 subst e
 rw [h] at hd
 match qs,hd with
 | [],hd=>cases hd
 | [_],hd=>cases hd
 | _::_::_,hd=>cases hd
abbrev ztl (y lt lw be ow ca:Addr) (N:Nat) (rF:List (List Int)) (L M:List Tri) (c:List (Option Int)) (now:Int):zc8:=⟨y,lt,lw,be,ow,ca,zak rF,L,M,zp2 N rF,c,now⟩
theorem zth {N:Nat} {F:List (List Int)}:∀m∈zp2 N F,m<N:=fun m hm=>List.mem_range.mp (List.mem_filter.mp hm).1
theorem zm4 {N:Nat} {F:List (List Int)}:(zp2 N F).length<=N:=ZBg (List.length_filter_le _ _) (Nat.le_of_eq List.length_range)
theorem zse {tl CH:Addr} {H H':Hp} {a:zc8} {xs:List V} (h:a.At CH H) (ht:H tl=some (.lst xs)) (k:∀b u,H b=some u->b≠tl->H' b=some u) (n1:a.lt≠tl) (n2:a.lw≠tl) (n3:a.ow≠tl) (n4:a.ca≠tl):a.At CH H':=by
 obtain ⟨⟨dx,h1⟩,⟨ps,h2,h3⟩,⟨qs,h4,h5⟩,⟨kvs',r1,r2,r3,r4⟩,h7,h8⟩:=h
 have tup:∀{q xs},H q=some (.tup xs)->H' q=some (.tup xs):=fun e=>k _ _ e (zao e ht nofun)
 refine ⟨⟨dx,k _ _ h1 (zao h1 ht nofun)⟩,⟨ps,k _ _ h2 n1,zai h3 fun q r e=>tup e⟩,⟨qs,k _ _ h4 n2,zai h5 fun q r e=>tup e⟩,⟨kvs',?_,r2,r3,fun e f hf=>?_⟩,k _ _ h7 n3,k _ _ h8 n4⟩
 ·rcases r1 with r1 | ⟨o,r1⟩
  ·exact .inl (k _ _ r1 (zao r1 ht nofun))
  ·exact .inr ⟨o,k _ _ r1 (zao r1 ht nofun)⟩
 ·obtain ⟨q,q1,q2⟩:=r4 e f hf
  exact ⟨q,q1,tup q2⟩
theorem zql {K:ZCa} {sa d CH:Addr} {H H':Hp} {a:zc8} (h:a.At CH H) (D:zew K sa H d) (k:zcw d H H'):a.At CH H':=by
 obtain ⟨⟨dx,h1⟩,⟨ps,h2,h3⟩,⟨qs,h4,h5⟩,⟨kvs',r1,r2,r3,r4⟩,h7,h8⟩:=h
 obtain ⟨pp,hd⟩:=id D.at_
 have tup:∀{q xs},H q=some (.tup xs)->H' q=some (.tup xs):=fun e=>k _ _ e (zao e hd nofun)
 refine ⟨⟨dx,k _ _ h1 (zao h1 hd nofun)⟩,⟨ps,k _ _ h2 (zlu D h2),zai h3 fun q r e=>tup e⟩,⟨qs,k _ _ h4 (zlu D h4),zai h5 fun q r e=>tup e⟩,⟨kvs',?_,r2,r3,fun e f hf=>?_⟩,k _ _ h7 fun e=>?_,k _ _ h8 fun e=>?_⟩
 ·rcases r1 with r1 | ⟨o,r1⟩
  ·exact .inl (k _ _ r1 (zao r1 hd nofun))
  ·exact .inr ⟨o,k _ _ r1 (zao r1 hd nofun)⟩
 ·obtain ⟨q,q1,q2⟩:=r4 e f hf
  exact ⟨q,q1,tup q2⟩
 ·rw [e,hd] at h7
  cases ho:a.own with
  | nil=>rw [ho] at h7;cases h7
  | cons x t=>rw [ho] at h7;cases h7
 ·rw [e,hd] at h8
  cases ho:a.c with
  | nil=>rw [ho] at h8;cases h8
  | cons x t=>
   rw [ho] at h8
   cases x with
   | none=>cases h8
   | some v=>cases h8
abbrev n14:List Str:=["_law_script","_law_d","_law_w","_law_web_here","_law_rule","_law_hand","_law_out","_law_now","_law_times","_law_fallen","_law_k","_law_began","_law_due_here","_law_moment"]
theorem zmt:zam n14 ["_law_script"] (zae sLaw):=scm
theorem zBi:zbw (zae sLaw) n14 (fsc [(".0",.local),("_law_fall",.local),("_law_next",.globalImplicit),("_law_d",.free)]) ["_law_fall","_law_d"] [none,some 1]:=com
theorem zAx:(["_law_fall","_law_d"]:List Str).Nodup:=by decide+kernel
theorem ok_law {f C CH fW fI fK fH fN fT fG fD:Addr} {fd fdW fdI fdK fdH fdN fdT fdG fdD:FuncData} (Fn0:Fn K mg "law" sLaw ["_law_script"] f fd) (hrange:mg "range"=none) (hlen:mg "len"=none) (TC:zom K mg C) (TH:zol K mg CH) (gH:mg "Hand"=some (.ref CH))
 (FW:Fn K mg "_law_web" sWeb ["_law_d","_law_most","_law_last","_law_wide"] fW fdW) (GW:za3 P w K mg base CX0 3 fW fdW ["_law_d","_law_most","_law_last","_law_wide"] (zv6 K))
 (M:Mk K C fI) (bI:zb5 K fdI ["self","many","last","ties","falls"] []) (GI:za3 P w K mg base CX0 3 fI fdI ["self","many","last","ties","falls"] (zta C))
 (FK:Fn K mg "kept" sP_kept ["web"] fK fdK) (GK:za3 P w K mg base CX0 6 fK fdK ["web"] (zpb C))
 (MH:Mk K CH fH) (bH:zb5 K fdH ["self","web"] []) (GH:za3 P w K mg base CX0 7 fH fdH ["self","web"] (zpc CH C))
 (FN:Fn K mg "_law_next" sNext ["_law_dice","_law_many"] fN fdN) (GN:za3 P w K mg base CX0 1 fN fdN ["_law_dice","_law_many"] (zki K))
 (mT:zf4 K CH "times" fT) (bT:zb5 K fdT ["self"] []) (GT:za3 P w K mg base CX0 1 fT fdT ["self"] (zo4 CH))
 (mG:zf4 K CH "goes" fG) (bG:zb5 K fdG ["self","fallen"] []) (GG:za3 P w K mg base CX0 4 fG fdG ["self","fallen"] (ztb CH))
 (FD:Fn K mg "_law_due" sL_due ["_law_w","_law_rule","_law_times","_law_now"] fD fdD) (GD:za3 P w K mg base CX0 2 fD fdD ["_law_w","_law_rule","_law_times","_law_now"] zv9):
 za3 P w K mg base CX0 9 f fd ["_law_script"] (spLaw K):=by
 refine Fn0.F.ok zmt (fun _ _ _ _ h=>?_) fun _ A _ s H _ Q E hr h=>?_
 ·obtain ⟨a,ns,rfl,_⟩:=h
  rfl
 ·obtain ⟨a,ns,rfl,hS0,k⟩:=h
  have hr1:zd2 1 _:=hr.mono (by decide)
  have hr2:zd2 2 _:=hr.mono (by decide)
  have hr3:zd2 3 _:=hr.mono (by decide)
  have hr4:zd2 4 _:=hr.mono (by decide)
  have hr6:zd2 6 _:=hr.mono (by decide)
  refine ⟨_,zac (zem (i:=1) zmt.nd rfl (Or.inr rfl) (zen (pa2 (pv 0) zaj)))
   (zac (za9 2 zmt.nd (pcl GW hr3 FW (pa4 (pv 1) zaj zaj zaj)))
   (zac (za9 3 zmt.nd (zlv M GI hr4 rfl TC.mgC bI .nil zb3 (pa4 (ixT (pv 2)) (ixT (pv 2)) (ixT (pv 2)) (ixT (pv 2)))))
   (zac (za9 4 zmt.nd (pcl GK hr6 FK (pa1 (pv 3))))
   (zac (zbn (zcy zcf (ixT (pv 4)) zbd) (zad (zaq zhz)) zap)
   (zac (za9 5 zmt.nd (zlv MH GH hr rfl gH bH .nil zb3 (pa1 (pv 3))))
   (zac (zfx (i:=6) zmt.nd rfl rfl rfl (za4 (ixT (pv 2))) zBi (fun cl ex s0 H0=>⟨zci 0 zAx,zdn,zba zb8 (ixT (pv 0)) (pcl GN hr1 FN (pa2 (pv 1) (zba zb8 (zba zcm (ixT (pv 0)) (ixT (pv 0))) zaj)))⟩))
   (zac (zb7 PassesOwn.never rfl (zcs (by rfl) hrange (pa1 (zba zb8 (ixT (pv 2)) zaj))) (zci 7 zmt.nd)
    (zac (za9 8 zmt.nd (zdz (pv 5) TH.cl mT GT hr1 bT .nil zb3))
    (zac (za9 9 zmt.nd (zen zfs))
    (zac (zb7 PassesOwn.never rfl (zcs (by rfl) hrange (pa1 (zbs zcz (by rfl) hlen ZAn (pa1 (ixT (pv 2)))))) (zci 10 zmt.nd)
     (zac (za9 11 zmt.nd (zbj zal (pv 8) (ixT (zbj zal (ixT (pv 2)) (pv 10) (fun _ _=>rfl))) (fun _ _=>rfl)))
     (zad (zbn (PW.pt (zdg (zcy ze2 (pv 11) zca) (zdg (zcy zga (zbj zal (pv 8) (ixT (zbj zal (ixT (pv 2)) (pv 10) (fun _ _=>rfl))) (fun _ _=>rfl)) zca) (zdk (zcy zcf (pv 7) (zba zb8 (pv 11) (zbj zal (pv 6) (pv 10) (fun _ _=>rfl))))))))
      (zac (za7 (zhy ZAr ZAs ZAt zcg (pv 9) (pa1 (ixT (zbj zal (ixT (pv 2)) (pv 10) (fun _ _=>rfl))))))
      (zad (zkq (pv 7) (zks (pv 8) (ixT (zbj zal (ixT (pv 2)) (pv 10) (fun _ _=>rfl))) zf8)))) zap))))
    (zac (za9 12 zmt.nd (pcl GD hr2 FD (pa4 (pv 2) (pv 4) (pv 8) (pv 7))))
    (zac (zbn (zcy (zti hr.units) (za8 (pv 5) TH.cl mG GG hr4 bG .nil zb3 (pa1 (pv 9))) (pv 12)) (zad (zaq zhz)) zap)
    (zac (zb7 PassesOwn.never rfl (za4 (pv 12)) (zci 13 zmt.nd) (zad (zkq (pv 7) (zks (pv 8) (pv 13) zf8))))
    (zad (zbn (zcy (zuw hr.units) (zdz (pv 5) TH.cl mT GT hr1 bT .nil zb3) (pv 8)) (zad (zaq zhz)) zap)))))))))
   (zad (zaq zhz))))))))),?_⟩
  refine fun N1 c1=>⟨_,rfl,szl rfl,fun d hd=>c1 _ _ ?_⟩
  have D1:zew K a (upd H d (.lst [.ref a,.int 0])) d:=⟨⟨0,zab⟩,⟨ns,hS0.same (zag hd)⟩⟩
  generalize upd H d (.lst [.ref a,.int 0])=H1 at*
  clear c1 N1
  refine fun N1 c1=>⟨_,rfl,d,a,8,20,8,rfl,D1,by decide,by decide,by decide,by decide,by decide,by decide,fun wp ta fa n la rT rF H2 etup RT RF hok n2 nm lm D2 k2 tad fad few=>c1 _ _ ?_⟩
  clear c1 N1
  obtain ⟨N,rfl⟩:∃N:Nat,n=N:=⟨n.toNat,by lia⟩
  refine fun N1 c1=>⟨_,rfl,rdT etup rfl ⟨_,rfl,rdT etup rfl ⟨_,rfl,rdT etup rfl ⟨_,rfl,rdT etup rfl fun x dx nx ndx nex=>?_⟩⟩⟩⟩
  have s3:zbe H2 (upd (upd H2 dx (.own x)) x (.ins C dx [])):=fun b o e=>by
   rw [zaf (zaa e nx),zaf (zaa e ndx)]
   exact e
  refine ⟨x,dx,_,la,ta,fa,rT,rF,rfl,zab,RT.same s3,RF.same s3,hok,fun H4 W4 k4=>⟨rfl,c1 _ _ ?_⟩⟩
  clear c1 N1
  have s4:zbe H2 H4:=fun b o e=>k4 b o (s3 b o e) (zaa e nx)
  have DA4:ze9 H4 wp ta fa (N:Int) la rT rF:=ze9.same ⟨etup,RT,RF⟩ s4
  have D4:=D2.same s4
  obtain ⟨Te,hE⟩:=zog hok (by lia)
  have n8:=hok.n2
  have l1:=hok.l1
  have good:MU.zdq N (zeq N la rT rF Te):=MU.zhm hok.fok (zlm hok).good Te
  refine fun N1 c1=>⟨_,rfl,x,N,la,rT,rF,Te,rfl,W4,hok,hE,fun r H5 hr5 s5=>⟨fun b hb hP=>c1 _ _ ?_,fun hbar hRu=>c1 _ _ ?_⟩⟩
  ·clear c1 N1
   obtain ⟨l,nn,ps,g1,_⟩:=hP
   exact fun N2 c2=>⟨_,rfl,rdT g1 rfl ⟨rfl,_,rfl,zgg (by decide+kernel) (k _)⟩⟩
  clear c1 N1
  have D5:=D4.same s5
  have W5:=W4.same s5
  have DA5:=DA4.same s5
  obtain ⟨lt,lw,ps,qs,L,MM,g1,g2,g3,hL,g4,g5,hM⟩:=hRu
  refine fun N1 c1=>⟨_,rfl,rdT g1 rfl ⟨rfl,_,rfl,zf3 (by decide+kernel) (c1 _ _ ?_)⟩⟩
  clear c1 N1
  refine fun N1 c1=>⟨_,rfl,fun y dy ny ndy ney=>?_⟩
  have s6:zbe H5 (upd (upd H5 dy (.own y)) y (.ins CH dy [])):=fun b o e=>by
   rw [zaf (zaa e ny),zaf (zaa e ndy)]
   exact e
  refine ⟨y,x,dy,N,la,rT,rF,Te,rfl,zab,W5.same s6,hok,hE,hbar,fun H7 lt2 lw2 be ow ca L2 M2 hA hL2 hM2 hca hbe n1 n2' n3 kp=>⟨rfl,c1 _ _ ?_⟩⟩
  clear c1 N1
  have s7:zbe H5 H7:=fun b o e=>kp b o (s6 b o e) (zaa e ny)
  have hca5:H5 ca=none:=s6.free hca
  have D7:=D5.same s7
  obtain ⟨fs,hfa5⟩:=DA5.f
  have hy7:∃dx fs,H7 y=some (.ins CH dx fs):=by obtain ⟨dx,h⟩:=hA.ins;exact ⟨_,_,h⟩
  refine fun N1 c1=>⟨_,rfl,rdT (s7 _ _ DA5.tup) rfl ⟨fa,rfl,⟨_,SqL.of (s7 _ _ hfa5.1)⟩,fun Do hDo=>?_⟩⟩
  obtain ⟨_,hd7⟩:=id D7.at_
  have Dod:Do≠d:=(zaa hd7 hDo).symm
  refine zbv (K:=K) (a:=fa) (xs:=fs.map V.ref) (fun j σ' H'=>∃v,∃outs:List Int,σ'=[v,some (.ref d)]/\H' Do=some (.lst (outs.map V.int))/\outs.length=j/\(∀k b e l m,k<j->rF[k]?=some [b,e,l,m]->l<=outs.getD k 0/\outs.getD k 0<=m)/\zew K a H' d/\zcw d H7 H') ⟨none,[],rfl,zab,rfl,(fun k _ _ _ _ h=>absurd h (ZB6 _)),D7.new hDo,(zag hDo).keep⟩ ?_ ?_ ?_
  ·rintro j σ' H8 _ ⟨v,outs,rfl,_,_,_,D8,k8⟩
   exact SqL.of (k8 _ _ (s7 _ _ hfa5.1) fad)
  ·rintro j z σ' H8 hz ⟨v,outs,rfl,e8,hol,hout,D8,k8⟩
   rw [ZA0] at hz
   cases hq:fs[j]? with
   | none=>rw [hq] at hz;cases hz
   | some q=>
    rw [hq] at hz
    cases hz
    obtain ⟨row,hrow,hqr⟩:=paired_get hfa5.2 hq
    have hj:=(ZAv.mp hrow).1
    obtain ⟨b1,e1,l1,m1,er,_,_,_,_,_,hl1,hlm,_⟩:=hok.f row (ZA1 hrow)
    subst er
    have hq8:=k8 _ _ (s7 _ _ hqr) (zao (s7 _ _ hqr) hd7 nofun)
    refine ⟨_,rfl,rdT hq8 rfl ⟨_,rfl,_,rfl,rdT hq8 rfl ⟨_,rfl,rdT hq8 rfl ⟨_,_,rfl,rfl,_,_,rfl,rfl,d,a,_,rfl,D8,by lia,fun e H9 e0 e1' D9 k9=>⟨_,_,rfl,rfl,?_⟩⟩⟩⟩⟩
    have e9:=k9 _ _ e8 Dod
    have fl:=hok.fl
    refine ⟨_,e9,?_,_,outs++[l1+e],rfl,?_,by rw [ZA3,hol];rfl,fun k b e' l m hk hr=>?_,D9.upd e9 Dod,fun b o eb hb=>?_⟩
    ·rw [ZAu];exact zan (by lia)
    ·rw [zab,ZA9];rfl
    ·by_cases c:k=j
     ·subst c
      rw [hrow] at hr
      cases hr
      have:(outs++[l1+e]).getD k 0=l1+e:=by
       rw [ZB0,ZBk (by lia),hol,Nat.sub_self]
       rfl
      rw [this]
      lia
     ·have:(outs++[l1+e]).getD k 0=outs.getD k 0:=by
       rw [ZB0,ZB0,ZBq (by lia)]
      rw [this]
      exact hout k b e' l m (by lia) hr
    ·rw [zaf (zaa eb hDo)];exact k9 _ _ (k8 _ _ eb hb) hb
  rintro σ' H8 ⟨v,outs,rfl,e8,hol,hout,D8,k8⟩
  rw [ZAu,Paired.length hfa5.2] at hol hout
  have ho:zra rF outs:=⟨hol,fun k b e l m hr=>hout k b e l m (ZAv.mp hr).1 hr⟩
  refine c1 _ _ ?_
  clear c1 N1
  have hA8:(ztl y lt2 lw2 be ow ca N rF L2 (M2.filter (zb6 (zak rF))) (List.replicate N none) 0).At CH H8:=zql (a:=ztl y lt2 lw2 be ow ca N rF L2 (M2.filter (zb6 (zak rF))) (List.replicate N none) 0) hA D7 k8
  have kt:∀{b xs},H5 b=some (.tup xs)->H8 b=some (.tup xs)/\b≠y/\b≠ca:=fun e=>⟨k8 _ _ (s7 _ _ e) (zao (s7 _ _ e) hd7 nofun),zaa e ny,zaa e hca5⟩
  have kr:∀{b:Addr} {qs:List Addr},H5 b=some (.lst (qs.map V.ref))->H8 b=some (.lst (qs.map V.ref))/\b≠y/\b≠ca:=fun e=>⟨k8 _ _ (s7 _ _ e) (zlu D7 (s7 _ _ e)),zaa e ny,zaa e hca5⟩
  obtain ⟨kvs,hbe7⟩:=hbe
  have hbe8:=k8 _ _ hbe7 (zao hbe7 hd7 nofun)
  have hca7:=hA.came
  have Doca:Do≠ca:=(zaa hca7 hDo).symm
  obtain ⟨dxy,fsy,hy7⟩:=hy7
  have Doy:Do≠y:=(zaa hy7 hDo).symm
  have wp8:=kt DA5.tup
  have r8:=kt g1
  have lt8:=kr g2
  have lw8:=kr g4
  have fa8:=kr hfa5.1
  have L100:L2.length<=100:=ZBg (hL2.len good (by lia)) (by decide)
  have M100:(M2.filter (zb6 (zak rF))).length<=100:=ZBg (List.length_filter_le _ _) (ZBg (hM2.len good (by lia)) (by decide))
  have hok_:∀{c:List (Option Int)} {now:Int},c.length=N->HOk (ztl y lt2 lw2 be ow ca N rF L2 (M2.filter (zb6 (zak rF))) c now):=fun {c now} hc=>
   ⟨fun x hx=>by show _<c.length;rw [hc];exact (hL2.lt good x hx).2,fun x hx=>by show ∃f,_/\_<c.length/\_<c.length;rw [hc];exact zj9 hok (List.mem_filter.mp hx).2,L100,M100,fun m hm=>by show m<c.length;rw [hc];exact zth m hm,by show (zp2 N rF).length<=100;have:=zm4 (N:=N) (F:=rF);lia⟩
  refine fun N1 c1=>⟨_,rfl,rdT wp8.1 rfl ⟨_,_,rfl,rfl,_,rfl,by lia,by lia,?_⟩⟩
  refine zd9 (n:=(la+1).toNat) (fun i σ' H'=>∃(c:List (Option Int)) (v7 v8 v9 v10 v11 v12 v13:Option V),σ'=[some (.ref a),some (.ref d),some (.ref wp),some (.ref x),some (.ref r),some (.ref y),some (.ref Do),v7,v8,v9,v10,v11,v12,v13]/\(ztl y lt2 lw2 be ow ca N rF L2 (M2.filter (zb6 (zak rF))) c (i:Int)).At CH H'/\zw9 y ca H8 H'/\Jt rF outs c (i:Int)/\c.length=N)
   ⟨_,none,none,none,none,none,none,none,rfl,hA8,fun b u e _ _=>e,fun k b e l m t _ _ ht=>?_,List.length_replicate⟩ ?_ ?_
  ·exfalso
   have:HD.cm (List.replicate N (none:Option Int)) b.toNat=none:=by
    unfold HD.cm
    rw [List.getElem?_replicate]
    split<;>rfl
   rw [this] at ht
   cases ht
  ·rintro i σ' H9 hi ⟨c,v7,v8,v9,v10,v11,v12,v13,rfl,hA9,k9,hJ,hc⟩
   have z0:(0:Int)+(i:Int)=(i:Int):=by lia
   rw [z0]
   obtain ⟨dx9,hy9⟩:=hA9.ins
   refine fun N2 c2=>⟨_,rfl,y,dx9,_,rfl,hy9,by with_unfolding_all rfl,ztl y lt2 lw2 be ow ca N rF L2 (M2.filter (zb6 (zak rF))) c (i:Int),rfl,hA9,fun tl H10 htl s10 etl=>c2 _ _ ?_⟩
   clear c2 N2
   refine fun N2 c2=>⟨ZBa _,fun fl hfl=>c2 _ _ ?_⟩
   clear c2 N2
   have s11:=zag (o:=.lst []) hfl
   have efl:upd H10 fl (.lst []) fl=some (.lst []):=zab
   have flH9:H9 fl=none:=s10.free hfl
   have s911:=s10.trans s11
   have etl:=s11 _ _ etl
   have tlfl:tl≠fl:=zaa (show H10 tl=some _ by assumption) hfl
   generalize upd H10 fl (.lst [])=H11 at*
   have ca9:=hA9.came
   have tlca:tl≠ca:=(zaa ca9 htl).symm
   have flca:fl≠ca:=(zaa ca9 flH9).symm
   have up:∀{H':Hp},(∀b u,H11 b=some u->b≠tl->b≠fl->H' b=some u)->∀{b u},H8 b=some u->b≠y->b≠ca->H' b=some u:=by
    intro H' kk b u e n1 n2
    have e9:=k9 _ _ e n1 n2
    exact kk _ _ (s911 _ _ e9) (zaa e9 htl) (zaa e9 flH9)
   have rows:∀{k:Nat} {row:List Int},rF[k]?=some row->∃q,fs[k]?=some q/\H8 q=some (.tup (row.map V.int))/\q≠y/\q≠ca:=fun {k row} h=>by
    have hk:=(ZAv.mp h).1
    have hk':k<fs.length:=by rw [Paired.length hfa5.2];exact hk
    obtain ⟨row',h',hq⟩:=paired_get hfa5.2 (ZAx hk')
    rw [h] at h'
    cases h'
    obtain ⟨q1,q2,q3⟩:=kt hq
    exact ⟨_,ZAx hk',q1,q2,q3⟩
   have clt:∀k,∀e∈fsK c (i:Int) outs rF k,e<c.length:=fun k e he=>by rw [hc];exact ztn hok he
   refine fun N2 c2=>⟨_,rfl,rdT (up (fun b u e _ _=>e) wp8.1 wp8.2.1 wp8.2.2) rfl ⟨fa,_,rfl,.inl (SqL.of (up (fun b u e _ _=>e) fa8.1 fa8.2.1 fa8.2.2)),_,rfl,by rw [ZAu];lia,by rw [ZAu,Paired.length hfa5.2];have:=hok.fl;lia,?_⟩⟩
   have hfl_:fs.length=rF.length:=Paired.length hfa5.2
   refine zd9 (n:=(((fs.map V.ref).length:Nat):Int).toNat) (fun k σ' H'=>∃v10 v11:Option V,σ'=[some (.ref a),some (.ref d),some (.ref wp),some (.ref x),some (.ref r),some (.ref y),some (.ref Do),some (.int (i:Int)),some (.ref tl),some (.ref fl),v10,v11,v12,v13]/\
    H' tl=some (.lst ((HD.setAll (fsK c (i:Int) outs rF k) (i:Int) c).map ov))/\H' fl=some (.lst ((fsK c (i:Int) outs rF k).map fun i:Nat=>V.int (i:Int)))/\∀b u,H11 b=some u->b≠tl->b≠fl->H' b=some u) ⟨_,_,rfl,etl,efl,fun b u e _ _=>e⟩ ?_ ?_
   ·rintro kk σ' H12 hk ⟨v10,v11,rfl,et12,ef12,k12⟩
    rw [ZBx,ZAu] at hk
    have z1:(0:Int)+(kk:Int)=(kk:Int):=by lia
    rw [z1]
    obtain ⟨row,hrow⟩:∃row,rF[kk]?=some row:=⟨_,ZAx (by lia)⟩
    obtain ⟨b1,e1,l1',m1,er,hb0,hb1,he0,he1,_⟩:=zg1 hok hrow
    subst er
    obtain ⟨q,hq,hq8,hqy,hqc⟩:=rows hrow
    have wp12:=up k12 wp8.1 wp8.2.1 wp8.2.2
    have fa12:=up k12 fa8.1 fa8.2.1 fa8.2.2
    have q12:=up k12 hq8 hqy hqc
    have Do12:=up k12 e8 Doy Doca
    have hatq:atI (fs.map V.ref) (kk:Int)=some (.ref q):=zb1 (by rw [ZA0,hq];rfl)
    have slen:(HD.setAll (fsK c (i:Int) outs rF kk) (i:Int) c).length=N:=by rw [HD.setAll_len];exact hc
    have cb:HD.cm (HD.setAll (fsK c (i:Int) outs rF kk) (i:Int) c) b1.toNat=HD.cm c b1.toNat:=by rw [HD.cm_setAll (clt kk),if_neg (zqm hok hrow)]
    have ce:HD.cm (HD.setAll (fsK c (i:Int) outs rF kk) (i:Int) c) e1.toNat=HD.cm c e1.toNat:=by rw [HD.cm_setAll (clt kk),if_neg (zqn hok hrow)]
    have atb:atI ((HD.setAll (fsK c (i:Int) outs rF kk) (i:Int) c).map ov) b1=some (ov (HD.cm c b1.toNat)):=by
     have:=zc6 (c:=HD.setAll (fsK c (i:Int) outs rF kk) (i:Int) c) (i:=b1.toNat) (by lia)
     rw [ZAg hb0,cb] at this
     exact this
    have ate:atI ((HD.setAll (fsK c (i:Int) outs rF kk) (i:Int) c).map ov) e1=some (ov (HD.cm c e1.toNat)):=by
     have:=zc6 (c:=HD.setAll (fsK c (i:Int) outs rF kk) (i:Int) c) (i:=e1.toNat) (by lia)
     rw [ZAg (by lia),ce] at this
     exact this
    have ato:atI (outs.map V.int) (kk:Int)=some (.int (outs.getD kk 0)):=zb1 (by
     rw [ZA0,ZB0,ZAx (show kk<outs.length by lia)]
     rfl)
    have stay:zgj c (i:Int) outs rF kk=false->fsK c (i:Int) outs rF (kk+1)=fsK c (i:Int) outs rF kk:=fun h=>by rw [zjv,if_neg (by rw [h];exact ZA6),List.append_nil]
    have fc:zgj c (i:Int) outs rF kk=((HD.cm c e1.toNat).isNone && match HD.cm c b1.toNat with | some t=>decide ((i:Int)=t+outs.getD kk 0) | none=>false):=by
     unfold zgj
     rw [hrow]
     try rfl
    refine fun N3 c3=>⟨_,rfl,_,rfl,rdT wp12 rfl ⟨_,rfl,fa,_,_,_,rfl,rfl,fa12,hatq,rdT q12 rfl ⟨tl,_,_,_,rfl,rfl,et12,atb,c3 _ _ ?_⟩⟩⟩
    clear c3 N3
    refine ⟨_,rfl,rfl,_,rfl,?_⟩
    rw [zeo]
    cases htb:HD.cm c b1.toNat with
    | none=>
     rw [htb] at fc
     have fc:zgj c (i:Int) outs rF kk=false:=by rw [fc];exact Bool.and_false _
     refine zde (zde ⟨_,_,rfl,?_,?_,k12⟩)
     ·rw [stay fc];exact et12
     ·rw [stay fc];exact ef12
    | some t=>
     rw [htb] at fc
     refine zft ⟨_,rfl,_,rfl,rdT wp12 rfl ⟨_,rfl,fa,_,_,_,rfl,rfl,fa12,hatq,rdT q12 rfl ⟨tl,_,_,_,rfl,rfl,et12,ate,rfl,_,rfl,?_⟩⟩⟩
     rw [zeo]
     cases hte:HD.cm c e1.toNat with
     | some t'=>
      rw [hte] at fc
      refine zde (zde ⟨_,_,rfl,?_,?_,k12⟩)
      ·rw [stay fc];exact et12
      ·rw [stay fc];exact ef12
     | none=>
      rw [hte] at fc
      have fc:zgj c (i:Int) outs rF kk=decide ((i:Int)=t+outs.getD kk 0):=fc
      refine zft ⟨_,rfl,_,rfl,_,rfl,_,rfl,Do,_,_,_,rfl,rfl,Do12,ato,_,_,rfl,rfl,rfl,_,rfl,?_⟩
      rw [zyf]
      by_cases hnow:(i:Int)=t+outs.getD kk 0
      ·rw [ZB8 hnow] at fc
       have hs:fsK c (i:Int) outs rF (kk+1)=fsK c (i:Int) outs rF kk++[e1.toNat]:=by rw [zjv,if_pos fc,zd1 hrow]
       have e1n:((e1.toNat:Nat):Int)=e1:=ZAg (by lia)
       have flen:(fsK c (i:Int) outs rF kk).length<=kk:=by
        unfold fsK
        rw [ZAu]
        exact ZBg (List.length_filter_le _ _) (Nat.le_of_eq List.length_range)
       have:=hok.fl
       refine zep hnow ?_
       refine fun N3 c3=>⟨_,rfl,.inl ⟨rfl,_,SqL.of ef12⟩,_,rfl,rdT wp12 rfl ⟨_,rfl,fa,_,_,_,rfl,rfl,fa12,hatq,rdT q12 rfl ⟨fl,_,_,rfl,rfl,ef12,by rw [ZAu];exact zan (by lia),c3 _ _ ?_⟩⟩⟩
       clear c3 N3
       have ne:∀{b u},H8 b=some u->b≠y->b≠ca->b≠fl:=fun {_ _} e n1 n2=>zaa (k9 _ _ e n1 n2) flH9
       have u13:∀{b u},H12 b=some u->b≠fl->upd H12 fl (.lst ((fsK c (i:Int) outs rF kk).map (fun i:Nat=>V.int (i:Int))++[.int e1])) b=some u:=fun {_ _} e n=>by rw [zaf n];exact e
       refine ⟨_,rfl,_,rfl,_,rfl,rdT (u13 wp12 (ne wp8.1 wp8.2.1 wp8.2.2)) rfl ⟨_,rfl,fa,_,_,_,rfl,rfl,u13 fa12 (ne fa8.1 fa8.2.1 fa8.2.2),hatq,rdT (u13 q12 (ne hq8 hqy hqc)) rfl ⟨tl,_,_,e1.toNat,rfl,rfl,u13 et12 tlfl,?_,?_⟩⟩⟩
       ·rw [ZAu,slen,<-e1n]
        exact zjs (by lia)
       refine ⟨_,_,rfl,?_,?_,fun b u e n1 n2=>?_⟩
       ·rw [zab,hs,HD.setAll_append]
        show some (HO.lst ((List.map ov (HD.setAll (fsK c (i:Int) outs rF kk) (i:Int) c)).set e1.toNat (.int (i:Int))))=some (HO.lst (((HD.setAll (fsK c (i:Int) outs rF kk) (i:Int) c).set e1.toNat (some (i:Int))).map ov))
        rw [List.map_set]
        rfl
       ·rw [zaf tlfl.symm,zab,hs,ZA9,<-e1n]
        rfl
       ·rw [zaf n1,zaf n2];exact k12 _ _ e n1 n2
      ·rw [ZB9 hnow] at fc
       refine zct hnow ⟨_,_,rfl,?_,?_,k12⟩
       ·rw [stay fc];exact et12
       ·rw [stay fc];exact ef12
   rintro σ' H12 ⟨v10',v11',rfl,et12,ef12,k12⟩
   rw [ZBx,ZAu,hfl_] at et12 ef12
   refine c2 _ _ ?_
   clear c2 N2
   have s912:zbe H9 H12:=fun b u e=>k12 _ _ (s911 _ _ e) (zaa e htl) (zaa e flH9)
   have upt:∀{b xs},H5 b=some (.tup xs)->H12 b=some (.tup xs):=fun e=>up k12 (kt e).1 (kt e).2.1 (kt e).2.2
   have upr:∀{b:Addr} {qs:List Addr},H5 b=some (.lst (qs.map V.ref))->H12 b=some (.lst (qs.map V.ref)):=fun e=>up k12 (kr e).1 (kr e).2.1 (kr e).2.2
   have DA12:ze9 H12 wp ta fa (N:Int) la rT rF:=by
    obtain ⟨ts,hts⟩:=DA5.t
    exact ⟨upt DA5.tup,⟨ts,upr hts.1,zai hts.2 fun q r e=>upt e⟩,⟨fs,upr hfa5.1,zai hfa5.2 fun q r e=>upt e⟩⟩
   have hc1:(HD.setAll (fsK c (i:Int) outs rF rF.length) (i:Int) c).length=N:=by rw [HD.setAll_len];exact hc
   have RX:zoj H12 r tl N (zak rF) L (MM.filter (zb6 (zak rF))) (HD.setAll (fsK c (i:Int) outs rF rF.length) (i:Int) c):=
    ⟨⟨lt,lw,ps,qs,upt g1,upr g2,zai g3 fun q x e=>upt e,upr g4,zai g5 fun q x e=>upt e⟩,et12,hc1,fun x hx=>(hL.lt good x hx).2,fun x hx=>zj9 hok (List.mem_filter.mp hx).2⟩
   refine fun N2 c2=>⟨_,rfl,_,rfl,_,rfl,_,rfl,wp,ta,fa,r,tl,N,la,(i:Int),rT,rF,_,_,_,rfl,DA12,hok,RX,fun l H13 hl s13 el=>c2 _ _ ?_⟩
   clear c2 N2
   have hS:HD.step L2 (M2.filter (zb6 (zak rF))) (zak rF) (HD.setAll (fsK c (i:Int) outs rF rF.length) (i:Int) c) (i:Int)=HD.step L (MM.filter (zb6 (zak rF))) (zak rF) (HD.setAll (fsK c (i:Int) outs rF rF.length) (i:Int) c) (i:Int):=zn6 (znm hL2 hL) (zsi (znm hM2 hM))
   have hA13:=hA9.same (s912.trans s13)
   obtain ⟨dx13,hy13⟩:=hA13.ins
   have be9:=k9 _ _ hbe8 (zao hbe7 hy7 nofun) (zao hbe7 hca7 nofun)
   have ca13:∃xs,H13 ca=some (.lst xs):=⟨_,(s912.trans s13) _ _ ca9⟩
   have lca:l≠ca:=by
    have:=s912 _ _ ca9
    exact (zaa this hl).symm
   have tl13:=s13 _ _ et12
   have fl13:=s13 _ _ ef12
   refine fun N2 c2=>⟨_,rfl,y,dx13,_,rfl,hy13,by with_unfolding_all rfl,_,rfl,ztl y lt2 lw2 be ow ca N rF L2 (M2.filter (zb6 (zak rF))) c (i:Int),fl,fsK c (i:Int) outs rF rF.length,rfl,hA13,hok_ hc,fl13,flca,zsj hok ho hJ _ rfl rfl rfl hc,⟨kvs,(s912.trans s13) _ _ be9⟩,n1,n2',n3,fun l2 H14 r2 j hl2 kp14 el2 er es hA14'=>?_⟩
   have ltr:∀m∈r2,m<c.length:=fun m hm=>by
    rw [er] at hm
    have h0:=HD.mem_iter _ _ m hm
    have h0:=zth m (List.mem_filter.mp h0).1
    lia
   have er2:r2=HD.iter (HD.step L (MM.filter (zb6 (zak rF))) (zak rF) (HD.setAll (fsK c (i:Int) outs rF rF.length) (i:Int) c) (i:Int)) (N+1) (dl0 N rF (HD.setAll (fsK c (i:Int) outs rF rF.length) (i:Int) c)):=by
    have er:r2=HD.iter (HD.step L2 (M2.filter (zb6 (zak rF))) (zak rF) (HD.setAll (fsK c (i:Int) outs rF rF.length) (i:Int) c) (i:Int)) j (dl0 N rF (HD.setAll (fsK c (i:Int) outs rF rF.length) (i:Int) c)):=er
    have es:HD.step L2 (M2.filter (zb6 (zak rF))) (zak rF) (HD.setAll (fsK c (i:Int) outs rF rF.length) (i:Int) c) (i:Int) r2=r2:=es
    rw [hS] at er es
    rw [er]
    refine HD.fix_any (by rw [<-er];exact es) (HD.fix_at (N+1) _ ?_)
    exact ZBg (List.length_filter_le _ _) (ZBg zm4 (ZAe _))
   rw [<-er2] at el
   have el14:=kp14 _ _ el (zao el hy13 nofun) lca
   have tl14:=kp14 _ _ tl13 (zao tl13 hy13 nofun) tlca
   rw [zfh] at el2 el14
   refine ⟨_,rfl,l2,l,_,_,rfl,rfl,SqL.of el2,SqL.of el14,_,rfl,zf3 (show (!decide _)=false by rw [ZB8 rfl];rfl) (c2 _ _ ?_)⟩
   rw [<-zfh] at el14
   clear c2 N2
   have ltl:l≠tl:=(zaa et12 hl).symm
   refine fun N2 c2=>⟨_,rfl,l,rfl,⟨_,SqL.of el14⟩,?_⟩
   refine zbu (K:=K) (a:=l) (xs:=r2.map fun i:Nat=>V.int (i:Int)) (fun kk σ' H'=>∃v13':Option V,σ'=[some (.ref a),some (.ref d),some (.ref wp),some (.ref x),some (.ref r),some (.ref y),some (.ref Do),some (.int (i:Int)),some (.ref tl),some (.ref fl),v10',v11',some (.ref l),v13']/\
    H' tl=some (.lst ((HD.setAll (r2.take kk) (i:Int) (HD.setAll (fsK c (i:Int) outs rF rF.length) (i:Int) c)).map ov))/\∀b u,H14 b=some u->b≠tl->H' b=some u) ⟨_,rfl,tl14,fun b u e _=>e⟩ ?_ ?_ ?_
   ·rintro kk σ' H15 _ ⟨v13',rfl,_,k15⟩
    exact SqL.of (k15 _ _ el14 ltl)
   ·rintro kk z σ' H15 hz ⟨v13',rfl,et15,k15⟩
    rw [ZA0] at hz
    cases hq:r2[kk]? with
    | none=>rw [hq] at hz;cases hz
    | some e=>
     rw [hq] at hz
     cases hz
     have he:=ltr e (ZA1 hq)
     refine ⟨_,rfl,_,rfl,_,rfl,tl,_,_,e,rfl,rfl,et15,?_,_,rfl,?_,fun b u eb n=>by rw [zaf n];exact k15 _ _ eb n⟩
     ·rw [ZAu,HD.setAll_len,hc1]
      exact zjs (by lia)
     ·rw [zab,ZBu,hq,HD.setAll_append]
      show some (HO.lst ((List.map ov (HD.setAll (r2.take kk) (i:Int) (HD.setAll (fsK c (i:Int) outs rF rF.length) (i:Int) c))).set e (.int (i:Int))))=some (HO.lst (((HD.setAll (r2.take kk) (i:Int) (HD.setAll (fsK c (i:Int) outs rF rF.length) (i:Int) c)).set e (some (i:Int))).map ov))
      rw [List.map_set]
      rfl
   rintro σ' H15 ⟨v13',rfl,et15,k15⟩
   rw [ZAu,ZBi] at et15
   refine c2 _ _ ?_
   clear c2 N2
   obtain ⟨_,z1,_⟩:=hA9.ties
   obtain ⟨_,z2,_⟩:=hA9.waits
   have z3:=hA9.own
   have hA15:(ztl y lt2 lw2 be ow ca N rF L2 (M2.filter (zb6 (zak rF))) (HD.setAll r2 (i:Int) (HD.setAll (fsK c (i:Int) outs rF rF.length) (i:Int) c)) ((i:Int)+1)).At CH H15:=
    zse (a:=ztl y lt2 lw2 be ow ca N rF L2 (M2.filter (zb6 (zak rF))) (HD.setAll r2 (i:Int) (HD.setAll (fsK c (i:Int) outs rF rF.length) (i:Int) c)) ((i:Int)+1)) hA14' tl14 k15 (zaa z1 htl) (zaa z2 htl) (zaa z3 htl) tlca.symm
   obtain ⟨dx15,hy15⟩:=hA15.ins
   refine ⟨_,rfl,y,dx15,_,rfl,hy15,by with_unfolding_all rfl,_,rfl,hA15,fun tl2 H16 htl2 s16 et16=>⟨_,rfl,tl2,tl,_,rfl,rfl,et16,s16 _ _ et15,zva,_,rfl,zde ?_⟩⟩
   have ei:((i+1:Nat):Int)=(i:Int)+1:=by lia
   refine ⟨HD.setAll r2 (i:Int) (HD.setAll (fsK c (i:Int) outs rF rF.length) (i:Int) c),_,_,_,_,_,_,_,rfl,?_,fun b u e ny' nc'=>?_,?_,?_⟩
   ·rw [ei];exact hA15.same s16
   ·have e9:=k9 _ _ e ny' nc'
    exact s16 _ _ (k15 _ _ (kp14 _ _ ((s912.trans s13) _ _ e9) ny' nc') (zaa e9 htl))
   ·rw [ei];exact Jt.next hok ho hJ ltr hc
   ·rw [HD.setAll_len];exact hc1
  ·rintro σ' H9 ⟨c,v7,v8,v9,v10,v11,v12,v13,rfl,_⟩
   exact c1 _ _ (k _)
section
variable {K:ZCa} {mg:Str->Option Value} {h:Heap}
theorem fn_mk {x:Str} {st:Stmt} {ps:List Str} {f:Addr} {oc:Value} {od an:Option Addr} {osl:Array (Option Value)} {kV doc pm cdv ct:Value} (X:K.In h) (G:h.Ns mainGlobals mg) (a:PySem.W.nsIn K mainGlobals x=some (some (.ref f)))
 (l:K.lookup f=some ⟨oc,od,.func (PySem.W.fnOf x x (zd4 st) (zdw st) (zae st) .none kV doc pm an cdv ct),osl⟩) (c:PySem.W.codeIn K cdv x=true) (k:PySem.W.keepIn K (.ref f)=true)
 (hb:∀(kV doc pm:Value) (an:Option Addr) (cdv ct:Value) (us:List Value),us.length=ps.length->bindArgs (PySem.W.fnOf x x (zd4 st) (zdw st) (zae st) .none kV doc pm an cdv ct) ⟨us,[]⟩=pure (ps.zip us)):
 Fn K mg x st ps f (PySem.W.fnOf x x (zd4 st) (zdw st) (zae st) .none kV doc pm an cdv ct):=
 have F:=ztm (st:=st) l c k
 ⟨F,F.binds hb,PySem.W.mg_of X G a⟩
structure MtK (K:ZCa) (C:Addr) (m q:Str) (st:Stmt) (ps:List Str) (f:Addr) (fd:FuncData):Prop where
 F:Fun K m q st f fd
 b:zb5 K fd ps []
 a:PySem.W.findIn K (.ref C) m=some (some (.ref f))
 i:PySem.W.isFn K (.ref f)=true
theorem MtK.meth {C f:Addr} {m q:Str} {st:Stmt} {ps:List Str} {fd:FuncData} (h:MtK K C m q st ps f fd):zf4 K C m f:=⟨h.a,h.i,h.F.kp⟩
theorem mt_mk {C:Addr} {x q:Str} {st:Stmt} {ps:List Str} {f:Addr} {oc:Value} {od an:Option Addr} {osl:Array (Option Value)} {kV doc pm cdv ct:Value} (a:PySem.W.findIn K (.ref C) x=some (some (.ref f))) (i:PySem.W.isFn K (.ref f)=true)
 (l:K.lookup f=some ⟨oc,od,.func (PySem.W.fnOf x q (zd4 st) (zdw st) (zae st) .none kV doc pm an cdv ct),osl⟩) (c:PySem.W.codeIn K cdv q=true) (k:PySem.W.keepIn K (.ref f)=true)
 (hb:∀(kV doc pm:Value) (an:Option Addr) (cdv ct:Value) (us:List Value),us.length=ps.length->bindArgs (PySem.W.fnOf x q (zd4 st) (zdw st) (zae st) .none kV doc pm an cdv ct) ⟨us,[]⟩=pure (ps.zip us)):
 MtK K C x q st ps f (PySem.W.fnOf x q (zd4 st) (zdw st) (zae st) .none kV doc pm an cdv ct):=
 have F:=ztm (st:=st) l c k
 ⟨F,F.binds hb,a,i⟩
structure WebK (K:ZCa) (mg:Str->Option Value) (C:Addr):Prop where
 tc:zom K mg C
 mk_:PySem.W.makesIn K C=true
 kc:PySem.W.keepIn K (.ref C)=true
theorem web_mk {C:Addr} (X:K.In h) (G:h.Ns mainGlobals mg) (aC:PySem.W.nsIn K mainGlobals "Web"=some (some (.ref C))) (pg:PySem.W.plainGet K C Str.empty=true) (hd:PySem.W.hasDictIn K C=true) (po:PySem.W.plainOver K C=true)
 (sa:PySem.W.findIn K (.ref C) "__setattr__"=some (some (.builtin "object.__setattr__"))) (mk:PySem.W.makesIn K C=true) (kc:PySem.W.keepIn K (.ref C)=true)
 (n1:PySem.W.findIn K (.ref C) "many"=some none) (n2:PySem.W.findIn K (.ref C) "last"=some none) (n3:PySem.W.findIn K (.ref C) "told_ties"=some none) (n4:PySem.W.findIn K (.ref C) "told_falls"=some none):WebK K mg C:=
 ⟨⟨⟨pg,hd,po,sa⟩,n1,n2,n3,n4,PySem.W.mg_of X G aC⟩,mk,kc⟩
theorem txtW_mk {t1 t2 t3 t4:Tok} (X:K.In h) (G:h.Ns mainGlobals mg) (m1:PySem.W.nsIn K mainGlobals "MOST_MOMENTS"=some (some (.int 8 t1))) (m2:PySem.W.nsIn K mainGlobals "LATEST_LAST"=some (some (.int 60 t2)))
 (m3:PySem.W.nsIn K mainGlobals "WIDEST_SPAN"=some (some (.int 60 t3))) (m4:PySem.W.nsIn K mainGlobals "LONGEST_FALL"=some (some (.int 60 t4))) (z:PySem.W.nsIn K mainGlobals "list"=some none):TxtW mg:=
 ⟨⟨t1,PySem.W.mg_of X G m1⟩,⟨t2,PySem.W.mg_of X G m2⟩,⟨t3,PySem.W.mg_of X G m3⟩,⟨t4,PySem.W.mg_of X G m4⟩,ZAo X G z⟩
structure CloK (K:ZCa) (mg:Str->Option Value) (C:Addr):Prop where
 tc:zhe K mg C
 mk_:PySem.W.makesIn K C=true
 kc:PySem.W.keepIn K (.ref C)=true
 g:mg "Closing"=some (.ref C)
theorem clo_mk {C:Addr} (X:K.In h) (G:h.Ns mainGlobals mg) (aC:PySem.W.nsIn K mainGlobals "Closing"=some (some (.ref C))) (pg:PySem.W.plainGet K C Str.empty=true) (hd:PySem.W.hasDictIn K C=true) (po:PySem.W.plainOver K C=true)
 (sa:PySem.W.findIn K (.ref C) "__setattr__"=some (some (.builtin "object.__setattr__"))) (mk:PySem.W.makesIn K C=true) (kc:PySem.W.keepIn K (.ref C)=true)
 (n1:PySem.W.findIn K (.ref C) "many"=some none) (n2:PySem.W.findIn K (.ref C) "by_end"=some none) (n3:PySem.W.findIn K (.ref C) "rows"=some none) (n4:PySem.W.findIn K (.ref C) "best"=some none) (n5:PySem.W.findIn K (.ref C) "bar"=some none)
 (z1:PySem.W.nsIn K mainGlobals "len"=some none) (z2:PySem.W.nsIn K mainGlobals "range"=some none):CloK K mg C:=
 ⟨⟨⟨pg,hd,po,sa⟩,n1,n2,n3,n4,n5,ZAo X G z1,ZAo X G z2⟩,mk,kc,PySem.W.mg_of X G aC⟩
structure HandK (K:ZCa) (mg:Str->Option Value) (C:Addr):Prop where
 tc:zol K mg C
 mk_:PySem.W.makesIn K C=true
 kc:PySem.W.keepIn K (.ref C)=true
 g:mg "Hand"=some (.ref C)
theorem hand_mk {C:Addr} (X:K.In h) (G:h.Ns mainGlobals mg) (aC:PySem.W.nsIn K mainGlobals "Hand"=some (some (.ref C))) (pg:PySem.W.plainGet K C Str.empty=true) (hd:PySem.W.hasDictIn K C=true) (po:PySem.W.plainOver K C=true)
 (sa:PySem.W.findIn K (.ref C) "__setattr__"=some (some (.builtin "object.__setattr__"))) (mk:PySem.W.makesIn K C=true) (kc:PySem.W.keepIn K (.ref C)=true)
 (n1:PySem.W.findIn K (.ref C) "rule_ties"=some none) (n2:PySem.W.findIn K (.ref C) "rule_waits"=some none) (n3:PySem.W.findIn K (.ref C) "by_end"=some none) (n4:PySem.W.findIn K (.ref C) "own_moments"=some none) (n5:PySem.W.findIn K (.ref C) "came"=some none) (n6:PySem.W.findIn K (.ref C) "now"=some none):HandK K mg C:=
 ⟨⟨⟨pg,hd,po,sa⟩,n1,n2,n3,n4,n5,n6⟩,mk,kc,PySem.W.mg_of X G aC⟩
theorem txtU_mk {u:Addr} (X:K.In h) (G:h.Ns mainGlobals mg) (a:PySem.W.nsIn K mainGlobals "USED_KINDS"=some (some (.ref u))) (t:zy3 K u znt) (z:PySem.W.nsIn K mainGlobals "tuple"=some none):TxtU K mg:=
 ⟨⟨u,PySem.W.mg_of X G a,t⟩,ZAo X G z⟩
end
end Y0
namespace L2
theorem zlp {α:Type} {n:Nat}:∀{us:List α},us.length=n+1->∃a t,us=a::t/\t.length=n
 | a::t,h=>⟨a,t,rfl,Nat.succ.inj h⟩
theorem zA2 {α:Type} (us:List α) (h:us.length=1):∃a,us=[a]:=by
 obtain ⟨a,t0,rfl,h0⟩:=zlp h
 obtain rfl:=List.eq_nil_of_length_eq_zero h0
 exact ⟨a,rfl⟩
theorem zA1 {α:Type} (us:List α) (h:us.length=2):∃a b,us=[a,b]:=by
 obtain ⟨a,t0,rfl,h0⟩:=zlp h
 obtain ⟨b,t1,rfl,h1⟩:=zlp h0
 obtain rfl:=List.eq_nil_of_length_eq_zero h1
 exact ⟨a,b,rfl⟩
theorem zA0 {α:Type} (us:List α) (h:us.length=3):∃a b c,us=[a,b,c]:=by
 obtain ⟨a,t0,rfl,h0⟩:=zlp h
 obtain ⟨b,t1,rfl,h1⟩:=zlp h0
 obtain ⟨c,t2,rfl,h2⟩:=zlp h1
 obtain rfl:=List.eq_nil_of_length_eq_zero h2
 exact ⟨a,b,c,rfl⟩
theorem zAz {α:Type} (us:List α) (h:us.length=4):∃a b c d,us=[a,b,c,d]:=by
 obtain ⟨a,t0,rfl,h0⟩:=zlp h
 obtain ⟨b,t1,rfl,h1⟩:=zlp h0
 obtain ⟨c,t2,rfl,h2⟩:=zlp h1
 obtain ⟨d,t3,rfl,h3⟩:=zlp h2
 obtain rfl:=List.eq_nil_of_length_eq_zero h3
 exact ⟨a,b,c,d,rfl⟩
theorem zzk {α:Type} (us:List α) (h:us.length=5):∃a b c d e,us=[a,b,c,d,e]:=by
 obtain ⟨a,t0,rfl,h0⟩:=zlp h
 obtain ⟨b,t1,rfl,h1⟩:=zlp h0
 obtain ⟨c,t2,rfl,h2⟩:=zlp h1
 obtain ⟨d,t3,rfl,h3⟩:=zlp h2
 obtain ⟨e,t4,rfl,h4⟩:=zlp h3
 obtain rfl:=List.eq_nil_of_length_eq_zero h4
 exact ⟨a,b,c,d,e,rfl⟩
theorem zAy {α:Type} (us:List α) (h:us.length=6):∃a b c d e f,us=[a,b,c,d,e,f]:=by
 obtain ⟨a,t0,rfl,h0⟩:=zlp h
 obtain ⟨b,c,d,e,f,rfl⟩:=zzk t0 h0
 exact ⟨a,b,c,d,e,f,rfl⟩
theorem bn1 {A B C D E F V:Type} {p:A->B->C->D->E->F->List V->Prop} (h:∀a1 a2 a3 a4 a5 a6 a,p a1 a2 a3 a4 a5 a6 [a]):∀a1 a2 a3 a4 a5 a6 (us:List V),us.length=1->p a1 a2 a3 a4 a5 a6 us:=fun _ _ _ _ _ _ us hl=>by obtain ⟨a,rfl⟩:=zA2 us hl;exact h _ _ _ _ _ _ _
theorem bn2 {A B C D E F V:Type} {p:A->B->C->D->E->F->List V->Prop} (h:∀a1 a2 a3 a4 a5 a6 a b,p a1 a2 a3 a4 a5 a6 [a,b]):∀a1 a2 a3 a4 a5 a6 (us:List V),us.length=2->p a1 a2 a3 a4 a5 a6 us:=fun _ _ _ _ _ _ us hl=>by obtain ⟨a,b,rfl⟩:=zA1 us hl;exact h _ _ _ _ _ _ _ _
theorem bn3 {A B C D E F V:Type} {p:A->B->C->D->E->F->List V->Prop} (h:∀a1 a2 a3 a4 a5 a6 a b c,p a1 a2 a3 a4 a5 a6 [a,b,c]):∀a1 a2 a3 a4 a5 a6 (us:List V),us.length=3->p a1 a2 a3 a4 a5 a6 us:=fun _ _ _ _ _ _ us hl=>by obtain ⟨a,b,c,rfl⟩:=zA0 us hl;exact h _ _ _ _ _ _ _ _ _
theorem bn4 {A B C D E F V:Type} {p:A->B->C->D->E->F->List V->Prop} (h:∀a1 a2 a3 a4 a5 a6 a b c d,p a1 a2 a3 a4 a5 a6 [a,b,c,d]):∀a1 a2 a3 a4 a5 a6 (us:List V),us.length=4->p a1 a2 a3 a4 a5 a6 us:=fun _ _ _ _ _ _ us hl=>by obtain ⟨a,b,c,d,rfl⟩:=zAz us hl;exact h _ _ _ _ _ _ _ _ _ _
theorem bn5 {A B C D E F V:Type} {p:A->B->C->D->E->F->List V->Prop} (h:∀a1 a2 a3 a4 a5 a6 a b c d e,p a1 a2 a3 a4 a5 a6 [a,b,c,d,e]):∀a1 a2 a3 a4 a5 a6 (us:List V),us.length=5->p a1 a2 a3 a4 a5 a6 us:=fun _ _ _ _ _ _ us hl=>by obtain ⟨a,b,c,d,e,rfl⟩:=zzk us hl;exact h _ _ _ _ _ _ _ _ _ _ _
theorem bn6 {A B C D E F V:Type} {p:A->B->C->D->E->F->List V->Prop} (h:∀a1 a2 a3 a4 a5 a6 a b c d e f,p a1 a2 a3 a4 a5 a6 [a,b,c,d,e,f]):∀a1 a2 a3 a4 a5 a6 (us:List V),us.length=6->p a1 a2 a3 a4 a5 a6 us:=fun _ _ _ _ _ _ us hl=>by obtain ⟨a,b,c,d,e,f,rfl⟩:=zAy us hl;exact h _ _ _ _ _ _ _ _ _ _ _ _
end L2
def PySem.W.Fast.tw15154031909400354073:Unit:=()
def PySem.W.Fast.tw5290046255544205335:Unit:=()
def PySem.W.Fast.tw9714769083223358830:Unit:=()
def PySem.W.Fast.tw1557896600962773390:Unit:=()
def PySem.W.Fast.tw13986443358010108091:Unit:=()
def PySem.W.Fast.tw13946435478605105652:Unit:=()
def PySem.W.Fast.tw4801738761959097641:Unit:=()
def PySem.W.Fast.tw3620332973247705070:Unit:=()
def PySem.W.Fast.tw11620036400205160191:Unit:=()
def PySem.W.Fast.tw17960774068761841036:Unit:=()
def PySem.W.Fast.tw13014722387777818000:Unit:=()
def PySem.W.Fast.tw6045337701640065915:Unit:=()
def PySem.W.Fast.tw359399939559527366:Unit:=()
def PySem.W.Fast.tw13564239757800823823:Unit:=()
def PySem.W.Fast.tw15165341133927497103:Unit:=()
def PySem.W.Fast.tw15834480576076017248:Unit:=()
def PySem.W.Fast.tw3105536619139735862:Unit:=()
def PySem.W.Fast.tw14838506208875002853:Unit:=()
def PySem.W.Fast.tw4896768825760859727:Unit:=()
def PySem.W.Fast.tw3572830064141002656:Unit:=()
def PySem.W.Fast.tw12171597211253176137:Unit:=()
def PySem.W.Fast.tw18174611487550248133:Unit:=()
def PySem.W.Fast.tw17043864946669745275:Unit:=()
def PySem.W.Fast.tw7101411512257480836:Unit:=()
def PySem.W.Fast.tw13248710832612296828:Unit:=()
def PySem.W.Fast.tw1294235096845375200:Unit:=()
def PySem.W.Fast.tw15602538912037022621:Unit:=()
def PySem.W.Fast.tw10488434979139195422:Unit:=()
def PySem.W.Fast.tw5849098762716930095:Unit:=()
def PySem.W.Fast.tw12839148334230814396:Unit:=()
def PySem.W.Fast.tw17144732885440674875:Unit:=()
def PySem.W.Fast.tw10458551131388403964:Unit:=()
def PySem.W.Fast.tw6661896876854473305:Unit:=()
def PySem.W.Fast.tw15589257119968516237:Unit:=()
def PySem.W.Fast.tw6047956667271791099:Unit:=()
def PySem.W.Fast.tw17436705688560002658:Unit:=()
def PySem.W.Fast.tw15426344888418015152:Unit:=()
def PySem.W.Fast.tw12476366097352162479:Unit:=()
def PySem.W.Fast.tw5934321666180677872:Unit:=()
def PySem.W.Fast.tw3683421379168012354:Unit:=()
def PySem.W.Fast.tw17394331836126470254:Unit:=()
def PySem.W.Fast.tw12756976468850223909:Unit:=()
def PySem.W.Fast.tw4009023554438558380:Unit:=()
def PySem.W.Fast.tw8645606585773820760:Unit:=()
def PySem.W.Fast.tw14200407999787027466:Unit:=()
def PySem.W.Fast.tw7346121891998119264:Unit:=()
def PySem.W.Fast.tw12854503598223800155:Unit:=()
def PySem.W.Fast.tw1404308816316224422:Unit:=()
def PySem.W.Fast.tw4543851213153914644:Unit:=()
def PySem.W.Fast.tw15351044246980953470:Unit:=()
def PySem.W.Fast.tw5978072503988880048:Unit:=()
def PySem.W.Fast.tw15496839385548271806:Unit:=()
def PySem.W.Fast.tw5338940157335251453:Unit:=()
def PySem.W.Fast.tw7367219885495774200:Unit:=()
def PySem.W.Fast.tw7631676219647180359:Unit:=()
def PySem.W.Fast.tw6236264039572855016:Unit:=()
def PySem.W.Fast.tw16167666643026514128:Unit:=()
def PySem.W.Fast.tw803214379915233935:Unit:=()
def PySem.W.Fast.tw11258824132794777156:Unit:=()
def PySem.W.Fast.tw11911098611911422971:Unit:=()
def PySem.W.Fast.tw6444181707515328839:Unit:=()
def PySem.W.Fast.tw4890388458581980511:Unit:=()
def PySem.W.Fast.tw15479078944217893434:Unit:=()
def PySem.W.Fast.tw17339979425223478375:Unit:=()
def PySem.W.Fast.tw8300610858761047399:Unit:=()
def PySem.W.Fast.tw9909157890285638637:Unit:=()
def PySem.W.Fast.tw15316537429848982033:Unit:=()
def PySem.W.Fast.tw10363865526744798297:Unit:=()
def PySem.W.Fast.tw18410929826619296054:Unit:=()
def PySem.W.Fast.tw5786209214847809030:Unit:=()
def PySem.W.Fast.tw11648313392018768251:Unit:=()
def PySem.W.Fast.tw4968206861788495121:Unit:=()
def PySem.W.Fast.tw3720277938311814390:Unit:=()
def PySem.W.Fast.tw10757829753888540059:Unit:=()
def PySem.W.Fast.tw15069103182815822122:Unit:=()
def PySem.W.Fast.tw5679446498593295452:Unit:=()
def PySem.W.Fast.tw10639043185264175788:Unit:=()
def PySem.W.Fast.tw4520141399882257311:Unit:=()
def PySem.W.Fast.tw16085716639604435268:Unit:=()
def PySem.W.Fast.tw1317417531741235133:Unit:=()
def PySem.W.Fast.tw3777898079635912007:Unit:=()
def PySem.W.Fast.tw12925886955846094466:Unit:=()
def PySem.W.Fast.tw8832874572186931463:Unit:=()
def PySem.W.Fast.tw10603705489994255196:Unit:=()
def PySem.W.Fast.tw12428316094027327359:Unit:=()
def PySem.W.Fast.tw14676538592051731538:Unit:=()
def PySem.W.Fast.tw713988746121109658:Unit:=()
def PySem.W.Fast.tw2209043615122588738:Unit:=()
def PySem.W.Fast.tw10505184624644832333:Unit:=()
def PySem.W.Fast.tw8994102395040805394:Unit:=()
def PySem.W.Fast.tw7348056033705583654:Unit:=()
def PySem.W.Fast.tw773668189124050041:Unit:=()
def PySem.W.Fast.tw3006981290161660751:Unit:=()
def PySem.W.Fast.tw14036748256516247970:Unit:=()
def PySem.W.Fast.tw2340406218201869381:Unit:=()
def PySem.W.Fast.tw12544299710969261880:Unit:=()
def PySem.W.Fast.tw8990381729133357044:Unit:=()
def PySem.W.Fast.tw16073916582733441253:Unit:=()
def PySem.W.Fast.tw17003369302016358866:Unit:=()
def PySem.W.Fast.tw10150471614460979802:Unit:=()
def PySem.W.Fast.tw10664060628758773618:Unit:=()
def PySem.W.Fast.tw5746105297164095908:Unit:=()
def PySem.W.Fast.tw13368976563770418325:Unit:=()
def PySem.W.Fast.tw17362425398900434144:Unit:=()
def PySem.W.Fast.tw5405772346376938601:Unit:=()
def PySem.W.Fast.tw3476674261978530725:Unit:=()
def PySem.W.Fast.tw11928334110693683913:Unit:=()
def PySem.W.Fast.tw2118595720539807200:Unit:=()
def PySem.W.Fast.tw13381688671123564095:Unit:=()
def PySem.W.Fast.tw3704195893190287379:Unit:=()
def PySem.W.Fast.tw15263569549997145913:Unit:=()
def PySem.W.Fast.tw10846052711270376142:Unit:=()
def PySem.W.Fast.tw13037299105476280998:Unit:=()
def PySem.W.Fast.tw7942757195649595624:Unit:=()
def PySem.W.Fast.tw2837129242076486533:Unit:=()
def PySem.W.Fast.tw3792026543489671689:Unit:=()
def PySem.W.Fast.tw9341200788133993979:Unit:=()
def PySem.W.Fast.tw17593176630930088614:Unit:=()
def PySem.W.Fast.tw14867991860946507730:Unit:=()
def PySem.W.Fast.tw15572742055833007042:Unit:=()
def PySem.W.Fast.tw15483310856882553621:Unit:=()
def PySem.W.Fast.tw16271069279479303477:Unit:=()
def PySem.W.Fast.tw17312972307279195624:Unit:=()
def PySem.W.Fast.tw5021122750362894726:Unit:=()
def PySem.W.Fast.tw15596791796466097048:Unit:=()
def PySem.W.Fast.tw7969811348830967054:Unit:=()
def PySem.W.Fast.tw167995671662032759:Unit:=()
def PySem.W.Fast.tw8328086105347414032:Unit:=()
def PySem.W.Fast.tw17221558011527424903:Unit:=()
def PySem.W.Fast.tw2068181942526089184:Unit:=()
def PySem.W.Fast.tw9396714361047011009:Unit:=()
def PySem.W.Fast.tw2703649343429523252:Unit:=()
def PySem.W.Fast.tw10163894314316205395:Unit:=()
def PySem.W.Fast.tw2503951222577722635:Unit:=()
def PySem.W.Fast.tw15320777350647369303:Unit:=()
def PySem.W.Fast.tw14093125004619406284:Unit:=()
def PySem.W.Fast.tw15340080532391802378:Unit:=()
def PySem.W.Fast.tw17764778927403126570:Unit:=()
def PySem.W.Fast.tw960399963011323491:Unit:=()
def PySem.W.Fast.tw16300881469789367264:Unit:=()
open PySem PySem.W PyProof.Rows L2
set_option maxRecDepth 100000 in
set_option maxHeartbeats 0 in
theorem PySem.Challenge.cw_momentties_k14_deeds_by_the_rule_holds : PySem.Challenge.rw_momentties_k14_deeds_by_the_rule.Holds := by
 w_on;o_law;k_head;(case hw=>w_witness2)
 k_fill
 refine zrh (l:=PySem.Challenge.rw_momentties_k14_deeds_by_the_rule) (n:=63) (k:=9) (x:="_law_script") (CX:=CX0) (sp:=Y0.spLaw) rfl (by decide) rfl ⟨rfl,by decide,by decide⟩ (fun w h Y=>PySem.W.kIn_of Y) ?F (fun K H a ns hl hO hS=>⟨a,ns,rfl,Y0.scr_of hO hS,fun _=>rfl⟩) (fun _ _ _ _ z=>z)
 case F=>
  intro w mg fa h KX G hmg
  obtain ⟨E3,U3,J3⟩:∃f fd,Y0.Fn (KOf KX) mg "room_bounds" Y0.sP_room_bounds ["web"] f fd:=by
   unfold KOf
   refine' ⟨_,_,Y0.fn_mk KX G ?a ?l ?c ?k ?b⟩
   (case a|l|c|k=>k_is);(case b=>exact bn1 fun _ _ _ _ _ _ _=>rfl)
  obtain ⟨E4,U4,J4⟩:∃f fd,Y0.Fn (KOf KX) mg "span_bounds" Y0.sP_span_bounds ["spans"] f fd:=by
   unfold KOf
   refine' ⟨_,_,Y0.fn_mk KX G ?a ?l ?c ?k ?b⟩
   (case a|l|c|k=>k_is);(case b=>exact bn1 fun _ _ _ _ _ _ _=>rfl)
  obtain ⟨Ed,Uf,Jf⟩:∃f fd,Y0.Fn (KOf KX) mg "bounds_with" Y0.sP_bounds_with ["web","ties"] f fd:=by
   unfold KOf
   refine' ⟨_,_,Y0.fn_mk KX G ?a ?l ?c ?k ?b⟩
   (case a|l|c|k=>k_is);(case b=>exact bn2 fun _ _ _ _ _ _ _ _=>rfl)
  obtain ⟨E5,U5,J5⟩:∃f fd,Y0.Fn (KOf KX) mg "told_bounds" Y0.sP_told_bounds ["web"] f fd:=by
   unfold KOf
   refine' ⟨_,_,Y0.fn_mk KX G ?a ?l ?c ?k ?b⟩
   (case a|l|c|k=>k_is);(case b=>exact bn1 fun _ _ _ _ _ _ _=>rfl)
  obtain ⟨Ek,Um,Jm⟩:∃f fd,Y0.Fn (KOf KX) mg "falls_by_end" Y0.sP_falls_by_end ["web"] f fd:=by
   unfold KOf
   refine' ⟨_,_,Y0.fn_mk KX G ?a ?l ?c ?k ?b⟩
   (case a|l|c|k=>k_is);(case b=>exact bn1 fun _ _ _ _ _ _ _=>rfl)
  obtain ⟨Ei,Uk,Jk⟩:∃f fd,Y0.Fn (KOf KX) mg "by_sum" Y0.sP_by_sum ["first","second"] f fd:=by
   unfold KOf
   refine' ⟨_,_,Y0.fn_mk KX G ?a ?l ?c ?k ?b⟩
   (case a|l|c|k=>k_is);(case b=>exact bn2 fun _ _ _ _ _ _ _ _=>rfl)
  obtain ⟨Eg,Ui,Ji⟩:∃f fd,Y0.Fn (KOf KX) mg "by_late" Y0.sP_by_late ["falls","tie"] f fd:=by
   unfold KOf
   refine' ⟨_,_,Y0.fn_mk KX G ?a ?l ?c ?k ?b⟩
   (case a|l|c|k=>k_is);(case b=>exact bn2 fun _ _ _ _ _ _ _ _=>rfl)
  obtain ⟨Eh,Uj,Jj⟩:∃f fd,Y0.Fn (KOf KX) mg "by_soon" Y0.sP_by_soon ["falls","tie"] f fd:=by
   unfold KOf
   refine' ⟨_,_,Y0.fn_mk KX G ?a ?l ?c ?k ?b⟩
   (case a|l|c|k=>k_is);(case b=>exact bn2 fun _ _ _ _ _ _ _ _=>rfl)
  obtain ⟨Ej,Ul,Jl⟩:∃f fd,Y0.Fn (KOf KX) mg "by_sure" Y0.sP_by_sure ["falls","wait"] f fd:=by
   unfold KOf
   refine' ⟨_,_,Y0.fn_mk KX G ?a ?l ?c ?k ?b⟩
   (case a|l|c|k=>k_is);(case b=>exact bn2 fun _ _ _ _ _ _ _ _=>rfl)
  obtain ⟨Ee,Ug,Jg⟩:∃f fd,Y0.Fn (KOf KX) mg "by_back" Y0.sP_by_back ["falls","wait","tie"] f fd:=by
   unfold KOf
   refine' ⟨_,_,Y0.fn_mk KX G ?a ?l ?c ?k ?b⟩
   (case a|l|c|k=>k_is);(case b=>exact bn3 fun _ _ _ _ _ _ _ _ _=>rfl)
  obtain ⟨Ef,Uh,Jh⟩:∃f fd,Y0.Fn (KOf KX) mg "by_cross" Y0.sP_by_cross ["falls","wait"] f fd:=by
   unfold KOf
   refine' ⟨_,_,Y0.fn_mk KX G ?a ?l ?c ?k ?b⟩
   (case a|l|c|k=>k_is);(case b=>exact bn2 fun _ _ _ _ _ _ _ _=>rfl)
  obtain ⟨E6,U6,J6⟩:∃f fd,Y0.Fn (KOf KX) mg "what_follows" Y0.sP_what_follows ["falls","word","used"] f fd:=by
   unfold KOf
   refine' ⟨_,_,Y0.fn_mk KX G ?a ?l ?c ?k ?b⟩
   (case a|l|c|k=>k_is);(case b=>exact bn3 fun _ _ _ _ _ _ _ _ _=>rfl)
  obtain ⟨Ec,Ue,Je⟩:∃f fd,Y0.Fn (KOf KX) mg "bars_every_hand" Y0.sP_bars_every_hand ["what"] f fd:=by
   unfold KOf
   refine' ⟨_,_,Y0.fn_mk KX G ?a ?l ?c ?k ?b⟩
   (case a|l|c|k=>k_is);(case b=>exact bn1 fun _ _ _ _ _ _ _=>rfl)
  have Ja:∃C,Y0.CloK (KOf KX) mg C/\PySem.W.nsIn (KOf KX) mainGlobals "Closing"=some (some (.ref C)):=by
   unfold KOf
   refine' ⟨_,Y0.clo_mk KX G ?aC ?pg ?hd ?po ?sa ?mk ?kc ?n1 ?n2 ?n3 ?n4 ?n5 ?z1 ?z2,?aD⟩
   (case aC|pg|hd|po|sa|mk|kc|n1|n2|n3|n4|n5|z1|z2|aD=>k_is)
  obtain ⟨Ua,Ja,G0⟩:=Ja
  obtain ⟨Og,Os,Gi⟩:∃f fd,Y0.MtK (KOf KX) Ua "__init__" "Closing.__init__" Y0.sC_Closing_init ["self","web"] f fd:=by
   have e:∃C f fd,PySem.W.nsIn (KOf KX) mainGlobals "Closing"=some (some (.ref C))/\Y0.MtK (KOf KX) C "__init__" "Closing.__init__" Y0.sC_Closing_init ["self","web"] f fd:=by
    unfold KOf
    refine' ⟨_,_,_,?aC,Y0.mt_mk ?a ?i ?l ?c ?k ?b⟩
    (case aC|a|i|l|c|k=>k_is);(case b=>exact bn2 fun _ _ _ _ _ _ _ _=>rfl)
   obtain ⟨C,f,fd,e1,e2⟩:=e
   rw [G0] at e1
   cases e1
   exact ⟨f,fd,e2⟩
  obtain ⟨Oh,Ot,Gj⟩:∃f fd,Y0.MtK (KOf KX) Ua "is_news" "Closing.is_news" Y0.sC_Closing_is_news ["self","what"] f fd:=by
   have e:∃C f fd,PySem.W.nsIn (KOf KX) mainGlobals "Closing"=some (some (.ref C))/\Y0.MtK (KOf KX) C "is_news" "Closing.is_news" Y0.sC_Closing_is_news ["self","what"] f fd:=by
    unfold KOf
    refine' ⟨_,_,_,?aC,Y0.mt_mk ?a ?i ?l ?c ?k ?b⟩
    (case aC|a|i|l|c|k=>k_is);(case b=>exact bn2 fun _ _ _ _ _ _ _ _=>rfl)
   obtain ⟨C,f,fd,e1,e2⟩:=e
   rw [G0] at e1
   cases e1
   exact ⟨f,fd,e2⟩
  obtain ⟨Oj,Ov,Gm⟩:∃f fd,Y0.MtK (KOf KX) Ua "take" "Closing.take" Y0.sC_Closing_take ["self","what","word","used"] f fd:=by
   have e:∃C f fd,PySem.W.nsIn (KOf KX) mainGlobals "Closing"=some (some (.ref C))/\Y0.MtK (KOf KX) C "take" "Closing.take" Y0.sC_Closing_take ["self","what","word","used"] f fd:=by
    unfold KOf
    refine' ⟨_,_,_,?aC,Y0.mt_mk ?a ?i ?l ?c ?k ?b⟩
    (case aC|a|i|l|c|k=>k_is);(case b=>exact bn4 fun _ _ _ _ _ _ _ _ _ _=>rfl)
   obtain ⟨C,f,fd,e1,e2⟩:=e
   rw [G0] at e1
   cases e1
   exact ⟨f,fd,e2⟩
  obtain ⟨Oc,On,Gd⟩:∃f fd,Y0.MtK (KOf KX) Ua "draw" "Closing.draw" Y0.sC_Closing_draw ["self","word","used"] f fd:=by
   have e:∃C f fd,PySem.W.nsIn (KOf KX) mainGlobals "Closing"=some (some (.ref C))/\Y0.MtK (KOf KX) C "draw" "Closing.draw" Y0.sC_Closing_draw ["self","word","used"] f fd:=by
    unfold KOf
    refine' ⟨_,_,_,?aC,Y0.mt_mk ?a ?i ?l ?c ?k ?b⟩
    (case aC|a|i|l|c|k=>k_is);(case b=>exact bn3 fun _ _ _ _ _ _ _ _ _=>rfl)
   obtain ⟨C,f,fd,e1,e2⟩:=e
   rw [G0] at e1
   cases e1
   exact ⟨f,fd,e2⟩
  obtain ⟨Oi,Ou,Gk⟩:∃f fd,Y0.MtK (KOf KX) Ua "known_of" "Closing.known_of" Y0.sC_Closing_known_of ["self","kind","a"] f fd:=by
   have e:∃C f fd,PySem.W.nsIn (KOf KX) mainGlobals "Closing"=some (some (.ref C))/\Y0.MtK (KOf KX) C "known_of" "Closing.known_of" Y0.sC_Closing_known_of ["self","kind","a"] f fd:=by
    unfold KOf
    refine' ⟨_,_,_,?aC,Y0.mt_mk ?a ?i ?l ?c ?k ?b⟩
    (case aC|a|i|l|c|k=>k_is);(case b=>exact bn3 fun _ _ _ _ _ _ _ _ _=>rfl)
   obtain ⟨C,f,fd,e1,e2⟩:=e
   rw [G0] at e1
   cases e1
   exact ⟨f,fd,e2⟩
  obtain ⟨Ol,Ow,Gn⟩:∃f fd,Y0.MtK (KOf KX) Ua "ties_to" "Closing.ties_to" Y0.sC_Closing_ties_to ["self","b"] f fd:=by
   have e:∃C f fd,PySem.W.nsIn (KOf KX) mainGlobals "Closing"=some (some (.ref C))/\Y0.MtK (KOf KX) C "ties_to" "Closing.ties_to" Y0.sC_Closing_ties_to ["self","b"] f fd:=by
    unfold KOf
    refine' ⟨_,_,_,?aC,Y0.mt_mk ?a ?i ?l ?c ?k ?b⟩
    (case aC|a|i|l|c|k=>k_is);(case b=>exact bn2 fun _ _ _ _ _ _ _ _=>rfl)
   obtain ⟨C,f,fd,e1,e2⟩:=e
   rw [G0] at e1
   cases e1
   exact ⟨f,fd,e2⟩
  obtain ⟨Oe,Op,Gg⟩:∃f fd,Y0.MtK (KOf KX) Ua "draw_from_tie" "Closing.draw_from_tie" Y0.sC_Closing_draw_from_tie ["self","at","a","b"] f fd:=by
   have e:∃C f fd,PySem.W.nsIn (KOf KX) mainGlobals "Closing"=some (some (.ref C))/\Y0.MtK (KOf KX) C "draw_from_tie" "Closing.draw_from_tie" Y0.sC_Closing_draw_from_tie ["self","at","a","b"] f fd:=by
    unfold KOf
    refine' ⟨_,_,_,?aC,Y0.mt_mk ?a ?i ?l ?c ?k ?b⟩
    (case aC|a|i|l|c|k=>k_is);(case b=>exact bn4 fun _ _ _ _ _ _ _ _ _ _=>rfl)
   obtain ⟨C,f,fd,e1,e2⟩:=e
   rw [G0] at e1
   cases e1
   exact ⟨f,fd,e2⟩
  obtain ⟨Of,Oq,Gh⟩:∃f fd,Y0.MtK (KOf KX) Ua "draw_from_wait" "Closing.draw_from_wait" Y0.sC_Closing_draw_from_wait ["self","at","a"] f fd:=by
   have e:∃C f fd,PySem.W.nsIn (KOf KX) mainGlobals "Closing"=some (some (.ref C))/\Y0.MtK (KOf KX) C "draw_from_wait" "Closing.draw_from_wait" Y0.sC_Closing_draw_from_wait ["self","at","a"] f fd:=by
    unfold KOf
    refine' ⟨_,_,_,?aC,Y0.mt_mk ?a ?i ?l ?c ?k ?b⟩
    (case aC|a|i|l|c|k=>k_is);(case b=>exact bn3 fun _ _ _ _ _ _ _ _ _=>rfl)
   obtain ⟨C,f,fd,e1,e2⟩:=e
   rw [G0] at e1
   cases e1
   exact ⟨f,fd,e2⟩
  obtain ⟨Od,Oo,Ge⟩:∃f fd,Y0.MtK (KOf KX) Ua "draw_all" "Closing.draw_all" Y0.sC_Closing_draw_all ["self"] f fd:=by
   have e:∃C f fd,PySem.W.nsIn (KOf KX) mainGlobals "Closing"=some (some (.ref C))/\Y0.MtK (KOf KX) C "draw_all" "Closing.draw_all" Y0.sC_Closing_draw_all ["self"] f fd:=by
    unfold KOf
    refine' ⟨_,_,_,?aC,Y0.mt_mk ?a ?i ?l ?c ?k ?b⟩
    (case aC|a|i|l|c|k=>k_is);(case b=>exact bn1 fun _ _ _ _ _ _ _=>rfl)
   obtain ⟨C,f,fd,e1,e2⟩:=e
   rw [G0] at e1
   cases e1
   exact ⟨f,fd,e2⟩
  obtain ⟨Ob,Om,Gc⟩:∃f fd,Y0.MtK (KOf KX) Ua "best_drawn" "Closing.best_drawn" Y0.sC_Closing_best_drawn ["self","kind"] f fd:=by
   have e:∃C f fd,PySem.W.nsIn (KOf KX) mainGlobals "Closing"=some (some (.ref C))/\Y0.MtK (KOf KX) C "best_drawn" "Closing.best_drawn" Y0.sC_Closing_best_drawn ["self","kind"] f fd:=by
    unfold KOf
    refine' ⟨_,_,_,?aC,Y0.mt_mk ?a ?i ?l ?c ?k ?b⟩
    (case aC|a|i|l|c|k=>k_is);(case b=>exact bn2 fun _ _ _ _ _ _ _ _=>rfl)
   obtain ⟨C,f,fd,e1,e2⟩:=e
   rw [G0] at e1
   cases e1
   exact ⟨f,fd,e2⟩
  obtain ⟨E1,U1,J1⟩:∃f fd,Y0.Fn (KOf KX) mg "numbers_needed" Y0.sP_numbers_needed ["rows","last"] f fd:=by
   unfold KOf
   refine' ⟨_,_,Y0.fn_mk KX G ?a ?l ?c ?k ?b⟩
   (case a|l|c|k=>k_is);(case b=>exact bn2 fun _ _ _ _ _ _ _ _=>rfl)
  obtain ⟨E2,U2,J2⟩:∃f fd,Y0.Fn (KOf KX) mg "paper_up_to" Y0.sP_paper_up_to ["rows","last"] f fd:=by
   unfold KOf
   refine' ⟨_,_,Y0.fn_mk KX G ?a ?l ?c ?k ?b⟩
   (case a|l|c|k=>k_is);(case b=>exact bn2 fun _ _ _ _ _ _ _ _=>rfl)
  obtain ⟨El,Uo,Jn⟩:∃f fd,Y0.Fn (KOf KX) mg "is_told" Y0.sP_is_told ["by_end","wait"] f fd:=by
   unfold KOf
   refine' ⟨_,_,Y0.fn_mk KX G ?a ?l ?c ?k ?b⟩
   (case a|l|c|k=>k_is);(case b=>exact bn2 fun _ _ _ _ _ _ _ _=>rfl)
  obtain ⟨Em,Up,Jo⟩:∃f fd,Y0.Fn (KOf KX) mg "kept" Y0.sP_kept ["web"] f fd:=by
   unfold KOf
   refine' ⟨_,_,Y0.fn_mk KX G ?a ?l ?c ?k ?b⟩
   (case a|l|c|k=>k_is);(case b=>exact bn1 fun _ _ _ _ _ _ _=>rfl)
  have Jb:∃C,Y0.HandK (KOf KX) mg C/\PySem.W.nsIn (KOf KX) mainGlobals "Hand"=some (some (.ref C)):=by
   unfold KOf
   refine' ⟨_,Y0.hand_mk KX G ?aC ?pg ?hd ?po ?sa ?mk ?kc ?n1 ?n2 ?n3 ?n4 ?n5 ?n6,?aD⟩
   (case aC|pg|hd|po|sa|mk|kc|n1|n2|n3|n4|n5|n6|aD=>k_is)
  obtain ⟨Ub,Jb,G7⟩:=Jb
  obtain ⟨Oz,O9,Gr⟩:∃f fd,Y0.MtK (KOf KX) Ub "__init__" "Hand.__init__" Y0.sC_Hand_init ["self","web"] f fd:=by
   have e:∃C f fd,PySem.W.nsIn (KOf KX) mainGlobals "Hand"=some (some (.ref C))/\Y0.MtK (KOf KX) C "__init__" "Hand.__init__" Y0.sC_Hand_init ["self","web"] f fd:=by
    unfold KOf
    refine' ⟨_,_,_,?aC,Y0.mt_mk ?a ?i ?l ?c ?k ?b⟩
    (case aC|a|i|l|c|k=>k_is);(case b=>exact bn2 fun _ _ _ _ _ _ _ _=>rfl)
   obtain ⟨C,f,fd,e1,e2⟩:=e
   rw [G7] at e1
   cases e1
   exact ⟨f,fd,e2⟩
  obtain ⟨O5,Ig,Gy⟩:∃f fd,Y0.MtK (KOf KX) Ub "times" "Hand.times" Y0.sC_Hand_times ["self"] f fd:=by
   have e:∃C f fd,PySem.W.nsIn (KOf KX) mainGlobals "Hand"=some (some (.ref C))/\Y0.MtK (KOf KX) C "times" "Hand.times" Y0.sC_Hand_times ["self"] f fd:=by
    unfold KOf
    refine' ⟨_,_,_,?aC,Y0.mt_mk ?a ?i ?l ?c ?k ?b⟩
    (case aC|a|i|l|c|k=>k_is);(case b=>exact bn1 fun _ _ _ _ _ _ _=>rfl)
   obtain ⟨C,f,fd,e1,e2⟩:=e
   rw [G7] at e1
   cases e1
   exact ⟨f,fd,e2⟩
  obtain ⟨O0,Ia,Gs⟩:∃f fd,Y0.MtK (KOf KX) Ub "is_in_fall" "Hand.is_in_fall" Y0.sC_Hand_is_in_fall ["self","end"] f fd:=by
   have e:∃C f fd,PySem.W.nsIn (KOf KX) mainGlobals "Hand"=some (some (.ref C))/\Y0.MtK (KOf KX) C "is_in_fall" "Hand.is_in_fall" Y0.sC_Hand_is_in_fall ["self","end"] f fd:=by
    unfold KOf
    refine' ⟨_,_,_,?aC,Y0.mt_mk ?a ?i ?l ?c ?k ?b⟩
    (case aC|a|i|l|c|k=>k_is);(case b=>exact bn2 fun _ _ _ _ _ _ _ _=>rfl)
   obtain ⟨C,f,fd,e1,e2⟩:=e
   rw [G7] at e1
   cases e1
   exact ⟨f,fd,e2⟩
  obtain ⟨O3,Id,Gw⟩:∃f fd,Y0.MtK (KOf KX) Ub "look_over_end" "Hand.look_over_end" Y0.sC_Hand_look_over_end ["self","end"] f fd:=by
   have e:∃C f fd,PySem.W.nsIn (KOf KX) mainGlobals "Hand"=some (some (.ref C))/\Y0.MtK (KOf KX) C "look_over_end" "Hand.look_over_end" Y0.sC_Hand_look_over_end ["self","end"] f fd:=by
    unfold KOf
    refine' ⟨_,_,_,?aC,Y0.mt_mk ?a ?i ?l ?c ?k ?b⟩
    (case aC|a|i|l|c|k=>k_is);(case b=>exact bn2 fun _ _ _ _ _ _ _ _=>rfl)
   obtain ⟨C,f,fd,e1,e2⟩:=e
   rw [G7] at e1
   cases e1
   exact ⟨f,fd,e2⟩
  obtain ⟨O2,Ic,Gv⟩:∃f fd,Y0.MtK (KOf KX) Ub "look_over" "Hand.look_over" Y0.sC_Hand_look_over ["self","fallen"] f fd:=by
   have e:∃C f fd,PySem.W.nsIn (KOf KX) mainGlobals "Hand"=some (some (.ref C))/\Y0.MtK (KOf KX) C "look_over" "Hand.look_over" Y0.sC_Hand_look_over ["self","fallen"] f fd:=by
    unfold KOf
    refine' ⟨_,_,_,?aC,Y0.mt_mk ?a ?i ?l ?c ?k ?b⟩
    (case aC|a|i|l|c|k=>k_is);(case b=>exact bn2 fun _ _ _ _ _ _ _ _=>rfl)
   obtain ⟨C,f,fd,e1,e2⟩:=e
   rw [G7] at e1
   cases e1
   exact ⟨f,fd,e2⟩
  obtain ⟨O4,Ie,Gx⟩:∃f fd,Y0.MtK (KOf KX) Ub "tie_lets" "Hand.tie_lets" Y0.sC_Hand_tie_lets ["self","b","most","coming"] f fd:=by
   have e:∃C f fd,PySem.W.nsIn (KOf KX) mainGlobals "Hand"=some (some (.ref C))/\Y0.MtK (KOf KX) C "tie_lets" "Hand.tie_lets" Y0.sC_Hand_tie_lets ["self","b","most","coming"] f fd:=by
    unfold KOf
    refine' ⟨_,_,_,?aC,Y0.mt_mk ?a ?i ?l ?c ?k ?b⟩
    (case aC|a|i|l|c|k=>k_is);(case b=>exact bn4 fun _ _ _ _ _ _ _ _ _ _=>rfl)
   obtain ⟨C,f,fd,e1,e2⟩:=e
   rw [G7] at e1
   cases e1
   exact ⟨f,fd,e2⟩
  obtain ⟨O6,Ih,Gz⟩:∃f fd,Y0.MtK (KOf KX) Ub "wait_lets" "Hand.wait_lets" Y0.sC_Hand_wait_lets ["self","end","least"] f fd:=by
   have e:∃C f fd,PySem.W.nsIn (KOf KX) mainGlobals "Hand"=some (some (.ref C))/\Y0.MtK (KOf KX) C "wait_lets" "Hand.wait_lets" Y0.sC_Hand_wait_lets ["self","end","least"] f fd:=by
    unfold KOf
    refine' ⟨_,_,_,?aC,Y0.mt_mk ?a ?i ?l ?c ?k ?b⟩
    (case aC|a|i|l|c|k=>k_is);(case b=>exact bn3 fun _ _ _ _ _ _ _ _ _=>rfl)
   obtain ⟨C,f,fd,e1,e2⟩:=e
   rw [G7] at e1
   cases e1
   exact ⟨f,fd,e2⟩
  obtain ⟨O1,Ib,Gu⟩:∃f fd,Y0.MtK (KOf KX) Ub "lets" "Hand.lets" Y0.sC_Hand_lets ["self","moment","coming"] f fd:=by
   have e:∃C f fd,PySem.W.nsIn (KOf KX) mainGlobals "Hand"=some (some (.ref C))/\Y0.MtK (KOf KX) C "lets" "Hand.lets" Y0.sC_Hand_lets ["self","moment","coming"] f fd:=by
    unfold KOf
    refine' ⟨_,_,_,?aC,Y0.mt_mk ?a ?i ?l ?c ?k ?b⟩
    (case aC|a|i|l|c|k=>k_is);(case b=>exact bn3 fun _ _ _ _ _ _ _ _ _=>rfl)
   obtain ⟨C,f,fd,e1,e2⟩:=e
   rw [G7] at e1
   cases e1
   exact ⟨f,fd,e2⟩
  obtain ⟨Ox,O7,Gp⟩:∃f fd,Y0.MtK (KOf KX) Ub "all_let" "Hand.all_let" Y0.sC_Hand_all_let ["self"] f fd:=by
   have e:∃C f fd,PySem.W.nsIn (KOf KX) mainGlobals "Hand"=some (some (.ref C))/\Y0.MtK (KOf KX) C "all_let" "Hand.all_let" Y0.sC_Hand_all_let ["self"] f fd:=by
    unfold KOf
    refine' ⟨_,_,_,?aC,Y0.mt_mk ?a ?i ?l ?c ?k ?b⟩
    (case aC|a|i|l|c|k=>k_is);(case b=>exact bn1 fun _ _ _ _ _ _ _=>rfl)
   obtain ⟨C,f,fd,e1,e2⟩:=e
   rw [G7] at e1
   cases e1
   exact ⟨f,fd,e2⟩
  obtain ⟨Oy,O8,Gq⟩:∃f fd,Y0.MtK (KOf KX) Ub "goes" "Hand.goes" Y0.sC_Hand_goes ["self","fallen"] f fd:=by
   have e:∃C f fd,PySem.W.nsIn (KOf KX) mainGlobals "Hand"=some (some (.ref C))/\Y0.MtK (KOf KX) C "goes" "Hand.goes" Y0.sC_Hand_goes ["self","fallen"] f fd:=by
    unfold KOf
    refine' ⟨_,_,_,?aC,Y0.mt_mk ?a ?i ?l ?c ?k ?b⟩
    (case aC|a|i|l|c|k=>k_is);(case b=>exact bn2 fun _ _ _ _ _ _ _ _=>rfl)
   obtain ⟨C,f,fd,e1,e2⟩:=e
   rw [G7] at e1
   cases e1
   exact ⟨f,fd,e2⟩
  obtain ⟨Eb,Ud,Jd⟩:∃f fd,Y0.Fn (KOf KX) mg "are_two_moments" Y0.sP_are_two_moments ["many","one","other"] f fd:=by
   unfold KOf
   refine' ⟨_,_,Y0.fn_mk KX G ?a ?l ?c ?k ?b⟩
   (case a|l|c|k=>k_is);(case b=>exact bn3 fun _ _ _ _ _ _ _ _ _=>rfl)
  obtain ⟨Ey,Uz,Jz⟩:∃f fd,Y0.Fn (KOf KX) mg "look_over_size" Y0.sP_look_over_size ["many","last"] f fd:=by
   unfold KOf
   refine' ⟨_,_,Y0.fn_mk KX G ?a ?l ?c ?k ?b⟩
   (case a|l|c|k=>k_is);(case b=>exact bn2 fun _ _ _ _ _ _ _ _=>rfl)
  obtain ⟨Ez,U0,J0⟩:∃f fd,Y0.Fn (KOf KX) mg "look_over_ties" Y0.sP_look_over_ties ["many","ties"] f fd:=by
   unfold KOf
   refine' ⟨_,_,Y0.fn_mk KX G ?a ?l ?c ?k ?b⟩
   (case a|l|c|k=>k_is);(case b=>exact bn2 fun _ _ _ _ _ _ _ _=>rfl)
  obtain ⟨Ew,Uy,Jy⟩:∃f fd,Y0.Fn (KOf KX) mg "look_over_falls" Y0.sP_look_over_falls ["many","falls"] f fd:=by
   unfold KOf
   refine' ⟨_,_,Y0.fn_mk KX G ?a ?l ?c ?k ?b⟩
   (case a|l|c|k=>k_is);(case b=>exact bn2 fun _ _ _ _ _ _ _ _=>rfl)
  have Jc:∃C,Y0.WebK (KOf KX) mg C/\PySem.W.nsIn (KOf KX) mainGlobals "Web"=some (some (.ref C)):=by
   unfold KOf
   refine' ⟨_,Y0.web_mk KX G ?aC ?pg ?hd ?po ?sa ?mk ?kc ?n1 ?n2 ?n3 ?n4,?aD⟩
   (case aC|pg|hd|po|sa|mk|kc|n1|n2|n3|n4|aD=>k_is)
  obtain ⟨Uc,Jc,G8⟩:=Jc
  obtain ⟨E8,U8,J8⟩:∃f fd,Y0.MtK (KOf KX) Uc "__init__" "Web.__init__" Y0.sC_Web_init ["self","many","last","ties","falls"] f fd:=by
   have e:∃C f fd,PySem.W.nsIn (KOf KX) mainGlobals "Web"=some (some (.ref C))/\Y0.MtK (KOf KX) C "__init__" "Web.__init__" Y0.sC_Web_init ["self","many","last","ties","falls"] f fd:=by
    unfold KOf
    refine' ⟨_,_,_,?aC,Y0.mt_mk ?a ?i ?l ?c ?k ?b⟩
    (case aC|a|i|l|c|k=>k_is);(case b=>exact bn5 fun _ _ _ _ _ _ _ _ _ _ _=>rfl)
   obtain ⟨C,f,fd,e1,e2⟩:=e
   rw [G8] at e1
   cases e1
   exact ⟨f,fd,e2⟩
  obtain ⟨Oa,Ea,Gb⟩:∃f fd,Y0.MtK (KOf KX) Uc "ties" "Web.ties" Y0.sC_Web_ties ["self"] f fd:=by
   have e:∃C f fd,PySem.W.nsIn (KOf KX) mainGlobals "Web"=some (some (.ref C))/\Y0.MtK (KOf KX) C "ties" "Web.ties" Y0.sC_Web_ties ["self"] f fd:=by
    unfold KOf
    refine' ⟨_,_,_,?aC,Y0.mt_mk ?a ?i ?l ?c ?k ?b⟩
    (case aC|a|i|l|c|k=>k_is);(case b=>exact bn1 fun _ _ _ _ _ _ _=>rfl)
   obtain ⟨C,f,fd,e1,e2⟩:=e
   rw [G8] at e1
   cases e1
   exact ⟨f,fd,e2⟩
  obtain ⟨E7,U7,J7⟩:∃f fd,Y0.MtK (KOf KX) Uc "falls" "Web.falls" Y0.sC_Web_falls ["self"] f fd:=by
   have e:∃C f fd,PySem.W.nsIn (KOf KX) mainGlobals "Web"=some (some (.ref C))/\Y0.MtK (KOf KX) C "falls" "Web.falls" Y0.sC_Web_falls ["self"] f fd:=by
    unfold KOf
    refine' ⟨_,_,_,?aC,Y0.mt_mk ?a ?i ?l ?c ?k ?b⟩
    (case aC|a|i|l|c|k=>k_is);(case b=>exact bn1 fun _ _ _ _ _ _ _=>rfl)
   obtain ⟨C,f,fd,e1,e2⟩:=e
   rw [G8] at e1
   cases e1
   exact ⟨f,fd,e2⟩
  obtain ⟨E9,U9,J9⟩:∃f fd,Y0.MtK (KOf KX) Uc "own" "Web.own" Y0.sC_Web_own ["self"] f fd:=by
   have e:∃C f fd,PySem.W.nsIn (KOf KX) mainGlobals "Web"=some (some (.ref C))/\Y0.MtK (KOf KX) C "own" "Web.own" Y0.sC_Web_own ["self"] f fd:=by
    unfold KOf
    refine' ⟨_,_,_,?aC,Y0.mt_mk ?a ?i ?l ?c ?k ?b⟩
    (case aC|a|i|l|c|k=>k_is);(case b=>exact bn1 fun _ _ _ _ _ _ _=>rfl)
   obtain ⟨C,f,fd,e1,e2⟩:=e
   rw [G8] at e1
   cases e1
   exact ⟨f,fd,e2⟩
  obtain ⟨Et,Uv,Jv⟩:∃f fd,Y0.Fn (KOf KX) mg "_law_next" Y0.sNext ["_law_dice","_law_many"] f fd:=by
   unfold KOf
   refine' ⟨_,_,Y0.fn_mk KX G ?a ?l ?c ?k ?b⟩
   (case a|l|c|k=>k_is);(case b=>exact bn2 fun _ _ _ _ _ _ _ _=>rfl)
  obtain ⟨Es,Uu,Ju⟩:∃f fd,Y0.Fn (KOf KX) mg "_law_named" Y0.sNamed ["_law_moment","_law_many","_law_turn"] f fd:=by
   unfold KOf
   refine' ⟨_,_,Y0.fn_mk KX G ?a ?l ?c ?k ?b⟩
   (case a|l|c|k=>k_is);(case b=>exact bn3 fun _ _ _ _ _ _ _ _ _=>rfl)
  obtain ⟨Ep,Us,Jr⟩:∃f fd,Y0.Fn (KOf KX) mg "_law_falls" Y0.sFalls ["_law_d","_law_many","_law_wide"] f fd:=by
   unfold KOf
   refine' ⟨_,_,Y0.fn_mk KX G ?a ?l ?c ?k ?b⟩
   (case a|l|c|k=>k_is);(case b=>exact bn3 fun _ _ _ _ _ _ _ _ _=>rfl)
  obtain ⟨Eu,Uw,Jw⟩:∃f fd,Y0.Fn (KOf KX) mg "_law_ties" Y0.sTies ["_law_d","_law_many","_law_last","_law_wide"] f fd:=by
   unfold KOf
   refine' ⟨_,_,Y0.fn_mk KX G ?a ?l ?c ?k ?b⟩
   (case a|l|c|k=>k_is);(case b=>exact bn4 fun _ _ _ _ _ _ _ _ _ _=>rfl)
  obtain ⟨Ev,Ux,Jx⟩:∃f fd,Y0.Fn (KOf KX) mg "_law_web" Y0.sWeb ["_law_d","_law_most","_law_last","_law_wide"] f fd:=by
   unfold KOf
   refine' ⟨_,_,Y0.fn_mk KX G ?a ?l ?c ?k ?b⟩
   (case a|l|c|k=>k_is);(case b=>exact bn4 fun _ _ _ _ _ _ _ _ _ _=>rfl)
  obtain ⟨Er,Ut,Js⟩:∃f fd,Y0.Fn (KOf KX) mg "_law_lets" Y0.sL_lets ["_law_w","_law_rule","_law_times","_law_now","_law_moment","_law_beside"] f fd:=by
   unfold KOf
   refine' ⟨_,_,Y0.fn_mk KX G ?a ?l ?c ?k ?b⟩
   (case a|l|c|k=>k_is);(case b=>exact bn6 fun _ _ _ _ _ _ _ _ _ _ _ _=>rfl)
  obtain ⟨Eo,Ur,Jq⟩:∃f fd,Y0.Fn (KOf KX) mg "_law_due" Y0.sL_due ["_law_w","_law_rule","_law_times","_law_now"] f fd:=by
   unfold KOf
   refine' ⟨_,_,Y0.fn_mk KX G ?a ?l ?c ?k ?b⟩
   (case a|l|c|k=>k_is);(case b=>exact bn4 fun _ _ _ _ _ _ _ _ _ _=>rfl)
  have Jp:∃f fd,Y0.Fn (KOf KX) mg "law" Y0.sLaw ["_law_script"] f fd/\∀(s:Shared) (u:Value),BindsTo s fd ⟨[u],[]⟩ [("_law_script",u)]:=by
   unfold KOf
   refine' ⟨_,_,Y0.fn_mk KX G ?a ?l ?c ?k ?b,?bb⟩
   (case a|l|c|k=>k_is);(case b=>exact bn1 fun _ _ _ _ _ _ _=>rfl);(case bb=>exact fun s u=>.of_eq rfl)
  obtain ⟨En,Uq,Jp,G9⟩:=Jp
  have TW:Y0.TxtW mg:=by
   refine' Y0.txtW_mk KX G ?a ?b ?c ?d ?e
   (case a|b|c|d|e=>k_is)
  have TU:Y0.TxtU (KOf KX) mg:=by
   unfold KOf
   refine' Y0.txtU_mk KX G ?a ?t ?z
   (case a=>k_is);(case t=>with_unfolding_all rfl);(case z=>k_is)
  have Z:PySem.W.nsIn (KOf KX) mainGlobals "min"=some none/\PySem.W.nsIn (KOf KX) mainGlobals "max"=some none/\PySem.W.nsIn (KOf KX) mainGlobals "sorted"=some none/\PySem.W.nsIn (KOf KX) mainGlobals "all"=some none:=by
   unfold KOf
   refine' ⟨?a,?b,?c,?d⟩
   (case a|b|c|d=>k_is)
  have zl:=Ja.tc.len
  have zr:=Ja.tc.range
  have zt:=TU.tuple
  have zm:=ZAo KX G Z.1
  have zx:=ZAo KX G Z.2.1
  have zs:=ZAo KX G Z.2.2.1
  have za:=ZAo KX G Z.2.2.2
  have e0:=hmg.symm.trans Jp.g
  cases e0
  refine ⟨Uq,G9,fun base kb nb=>?gg⟩
  case gg=>
   have GN:=Y0.ok_next (P:=ZCb) (w:=w) (base:=base) Jv zl
   have GM:=Y0.ok_named (P:=ZCb) (w:=w) (base:=base) Ju
   have GF:=Y0.ok_falls Jr Jv GN zm zr
   have GT:=Y0.ok_ties Jw Jv GN zm zx zr
   have GW:=Y0.ok_web Jx Jv GN Ju GM Jr GF Jw GT
   have G2:=Y0.ok_two (P:=ZCb) (w:=w) (base:=base) Jd
   have GS:=Y0.ok_size (P:=ZCb) (w:=w) (base:=base) Jz TW
   have GLT:=Y0.ok_lties J0 TW Jd G2
   have GLF:=Y0.ok_lfalls Jy TW Jd G2
   have GI:=Y0.ok_init J8.F TW Jc.tc Jz GS J0 GLT Jy GLF
   have Gt:=Y0.ok_tiesM (P:=ZCb) (w:=w) (base:=base) Gb.F TW Jc.tc
   have Gf:=Y0.ok_fallsM (P:=ZCb) (w:=w) (base:=base) J7.F TW Jc.tc
   have GRo:=Y0.ok_room (P:=ZCb) (w:=w) (base:=base) J3 ⟨zr⟩ Jc.tc
   have GSp:=Y0.ok_span (P:=ZCb) (w:=w) (base:=base) J4
   have GBw:=Y0.ok_with Jf Jc.tc J3 GRo J4 GSp J7.meth J7.b Gf
   have GTo:=Y0.ok_told J5 Jc.tc Jf GBw Gb.meth Gb.b Gt
   have GBE:=Y0.ok_byEnd Jm Jc.tc J7.meth J7.b Gf
   have W1:=Y0.ok_sum (P:=ZCb) (w:=w) (base:=base) Jk
   have W2:=Y0.ok_late (P:=ZCb) (w:=w) (base:=base) Ji
   have W3:=Y0.ok_soon (P:=ZCb) (w:=w) (base:=base) Jj
   have W4:=Y0.ok_sure (P:=ZCb) (w:=w) (base:=base) Jl ⟨zm⟩
   have W5:=Y0.ok_back (P:=ZCb) (w:=w) (base:=base) Jg ⟨zm⟩
   have W6:=Y0.ok_cross (P:=ZCb) (w:=w) (base:=base) Jh ⟨zm⟩
   have GWf:=Y0.ok_follows J6 TU Jk W1 Ji W2 Jj W3 Jl W4 Jg W5 Jh W6
   have GBa:=Y0.ok_bars (P:=ZCb) (w:=w) (base:=base) Je
   have GNw:=Y0.ok_news (P:=ZCb) (w:=w) (base:=base) Gj.F Ja.tc
   have GTk:=Y0.ok_take Gm.F Ja.tc Gj.meth Gj.b GNw Je GBa
   have GDr:=Y0.ok_draw Gd.F Ja.tc Gm.meth Gm.b GTk J6 GWf
   have GKn:=Y0.ok_known (P:=ZCb) (w:=w) (base:=base) Gk.F Ja.tc
   have GTt:=Y0.ok_tiesTo (P:=ZCb) (w:=w) (base:=base) Gn.F Ja.tc
   have GFw:=Y0.ok_fromWait Gh.F Ja.tc Gd.meth Gd.b GDr Gn.meth Gn.b GTt
   have GFt:=Y0.ok_fromTie Gg.F Ja.tc Gd.meth Gd.b GDr Gn.meth Gn.b GTt Gk.meth Gk.b GKn
   have GDa:=Y0.ok_drawAll Ge.F Ja.tc Gg.meth Gg.b GFt Gh.meth Gh.b GFw
   have GCi:=Y0.ok_cinit Gi.F Ja.tc Jc.tc Gm.meth Gm.b GTk Jm GBE J5 GTo
   have GBd:=Y0.ok_best (P:=ZCb) (w:=w) (base:=base) Gc.F Ja.tc zs
   have GNn:=Y0.ok_needed (P:=ZCb) (w:=w) (base:=base) J1 zr zs
   have GPu:=Y0.ok_paperUp J2 zl zt J1 GNn
   have GIt:=Y0.ok_isTold (P:=ZCb) (w:=w) (base:=base) Jn
   have GKe:=Y0.ok_kept Jo Ja.tc ⟨Ja.mk_,Gi.a,Gi.i,Ja.kc⟩ Ja.g Gi.b GCi Ge.meth Ge.b GDa Gc.meth Gc.b GBd J2 GPu Jn GIt
   have GOw:=Y0.ok_own (P:=ZCb) (w:=w) (base:=base) J9.F zr Jc.tc
   have GTi:=Y0.ok_times (P:=ZCb) (w:=w) (base:=base) Gy.F Jb.tc TW.list
   have GIf:=Y0.ok_inFall (P:=ZCb) (w:=w) (base:=base) Gs.F Jb.tc
   have GLe:=Y0.ok_lookEnd Gw.F Jb.tc Gs.meth Gs.b GIf
   have GTl:=Y0.ok_tieLets (P:=ZCb) (w:=w) (base:=base) Gx.F Jb.tc
   have GWl:=Y0.ok_waitLets (P:=ZCb) (w:=w) (base:=base) Gz.F Jb.tc
   have GLt:=Y0.ok_lets Gu.F Jb.tc za Gx.meth Gx.b GTl Gz.meth Gz.b GWl
   have GAl:=Y0.ok_allLet Gp.F Jb.tc Gu.meth Gu.b GLt
   have GLo:=Y0.ok_lookOver Gv.F Jb.tc Gw.meth Gw.b GLe Gs.meth Gs.b GIf
   have GGo:=Y0.ok_goes Gq.F Jb.tc Gv.meth Gv.b GLo Gp.meth Gp.b GAl
   have GHi:=Y0.ok_hinit Gr.F Jb.tc Jc.tc Jo GKe Jm GBE J9.meth J9.b GOw
   have GLL:=Y0.ok_llets (P:=ZCb) (w:=w) (base:=base) Js
   have GDu:=Y0.ok_due Jq zr Js GLL
   exact Y0.ok_law Jp zr zl Jc.tc Jb.tc Jb.g Jx GW ⟨Jc.mk_,J8.a,J8.i,Jc.kc⟩ J8.b GI Jo GKe ⟨Jb.mk_,Gr.a,Gr.i,Jb.kc⟩ Gr.b GHi Jv GN Gy.meth Gy.b GTi Gq.meth Gq.b GGo Jq GDu
