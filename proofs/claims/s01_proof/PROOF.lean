import PyProof.Rows.All
import Wide.All
import OpenK.AllK
import Wide.FinOn
import Open.SpecLaws
import KE.OsGo
import KE.SortKeyHeap
import HandS.ForSpec
import HandS.Comp
import HandS.Iter
import HandS.Nested
import KE.GoesEnumKw
import HandS.Walk
import Kg59Spec
import PyKg59
import PySem.Challenge.RW_barcontest_s01_answers
import PyFlatLaws
import HandS.EndTab
set_option Elab.async false
set_option maxRecDepth 100000
set_option maxHeartbeats 2000000
namespace Bc
open PySem PySem.Spec PyProof.Rows L2 LamX NdefX
open PySem.W (dataLe AllAlike Sortable KeepsBut EachIs)

section
variable {P : Program} {w : World} {K : PySem.W.Frag} {mg : Str → Option Value} {base : Heap}
/-- a lambda called: its body's reading at the parameters, then the captured names -/
theorem lam_run {N ps fr : List Str} {qual : Str} {params : Arguments} {body : Expr} {scope : Scope} {cl : List (Str × Addr)} {pm ctv : Value} {c' f : Addr} {A : Around} {outer : List Env} {s : Shared} {H : Hp} {us : List Value} {vs : List V} {ws : List (Option V)} {Q : VK} {k : Nat}
    (S : NScope N ps fr scope) (hr : Room (k + 1) A) (e0 : Env0 P w K mg base A outer s H)
    (hf : s.heap.get? f = some (PySem.W.kla_obj "<lambda>" qual params body scope cl pm c' ctv)) (hc : H c' = some (CodeO c' qual))
    (C : CellsAt cl fr ws s.heap H) (r : Vals vs us) (hl : vs.length = ps.length)
    (hb : bindArgs (PySem.W.kla_fn "<lambda>" qual params body scope cl pm (.ref c') ctv) ⟨us, []⟩ = pure (ps.zip us))
    (hbody : Room k (A.deeper (envF ⟨"<lambda>", qual, params, [], scope, cl, c'⟩ f s.heap.objs.size)) → ∃ t, PE (ncx CX0 P w K mg base N ⟨"<lambda>", qual, params, [], scope, cl, c'⟩ f A outer s H E0) body t ∧ t (startF N vs ws) H Q) :
    codeAny (model P w) A (.call (.ref f) ⟨us, []⟩) (CR CX0 outer P w H s Q E0) s := by
  have nolim : s.heap.NoLimit := e0.mod.nolimit.keeps fun a ob z => (e0.bs a ob z).1
  refine PySem.W.kla_callFunE hr.depth hf rfl S.co S.gen rfl (codeO_at e0.hok hc) ?_
  rw [hb]
  refine wpAny_pure (wpAny_newFunctionEnv S.nocell (fun ⟨y, _⟩ my => S.par y (List.of_mem_zip my).1) (fun g hns hsb => ⟨nolim.fresh _ hsb, ?_⟩) S.kind)
  show codeAny _ _ (.expr body (envF ⟨"<lambda>", qual, params, [], scope, cl, c'⟩ f s.heap.objs.size)) _ _
  have stay : ∀ a ob, s.heap.get? a = some ob → g.get? a = some ob := fun a ob z =>
    hsb.extBut a ob (Nat.ne_of_lt (Heap.lt_size z)) (Heap.get?_push_of_some _ z)
  obtain ⟨t, ht, hq⟩ := hbody (hr.deeper _)
  have J : Inv (ncx CX0 P w K mg base N ⟨"<lambda>", qual, params, [], scope, cl, c'⟩ f A outer s H E0) [] (startF N vs ws) H { s with heap := g, toks := s.toks + (ps.zip us).length } :=
    inv_startN S hr.hd e0 hl r C hns stay
  refine PySem.W.kla_codeExpr (wpAny_mono (ht.run [] _ _ H Q J hq) (fun v s' z => ?_) fun e s' z => z)
  obtain ⟨x, H', J', rv, q⟩ := z
  exact ⟨x, H', J'.os, J'.bare, J'.base, J'.hok, rv, q⟩

theorem un_later {fs : List Addr} {H H' : Hp} {h h1 h2 : Heap} {a : Addr} (u : Un fs [] H H' h h1) (hs : Heap.SameBut a h1 h2) (ha : h.objs.size ≤ a) : Un fs [] H H' h h2 := by
  have ne : ∀ {b : Addr} {o : Obj}, h.get? b = some o → b ≠ a := fun {b o} z => Nat.ne_of_lt (Nat.lt_of_lt_of_le (Heap.lt_size z) ha)
  refine ⟨fun b o z n hb hx => ?_, fun b o z n hb hx => ?_, fun b o z n hx => u.free b o z n hx, fun b o z hx => ?_, u.tups, u.frzs, u.tbls⟩
  · exact (hs.2 b (ne z)).trans (u.keep b o z n hb hx)
  · obtain ⟨sl, q⟩ := u.slot b o z n hb hx
    exact ⟨sl, (hs.2 b (ne z)).trans q⟩
  · obtain ⟨o', q⟩ := u.there b o z hx
    exact ⟨o', (hs.2 b (ne z)).trans q⟩
theorem hok_later {H : Hp} {h1 h2 : Heap} {a : Addr} (x : HOk P w H h1) (hs : Heap.SameBut a h1 h2) (n : H a = none) : HOk P w H h2 := fun b o e => by
  refine (x b o e).stay (fun d v hd q => ?_) (fun _ q => q) fun _ _ q => q
  have nd : d ≠ a := by
    rintro rfl
    rcases hd with z | z
    · rw [z, e] at n
      cases n
    · rw [z] at n
      cases n
  exact (hs.2 d nd).trans q
end

/-- behind the first keys -/
structure KeyInv (X : Cx) (H2 : Hp) (s0 : Shared) (a kS : Addr) (e1 : Nat) {β : Type} (k : β → PyData) (done : List β) (H3 : Hp) (kA : Array Value) (s : Shared) : Prop where
  same : Same H2 H3
  un : Un (frs X.stack) [] H2 H3 s0.heap s.heap
  hok : HOk X.prog X.w H3 s.heap
  bare : AllBare s.gens
  os : s.os = s0.os
  atK : ∃ e, s.heap.get? kS = some (seqObj "list" kA e)
  frK : H3 kS = none
  atA : s.heap.get? a = some (seqObj "list" #[] e1)
  frA : H3 a = none
  keys : EachIs (fun v b => ∃ u, RelV u v ∧ Dp X.K H3 u (k b)) kA.toList done

theorem each_mono {α β : Type} {R S : α → β → Prop} (h : ∀ a b, R a b → S a b) : ∀ {as : List α} {bs : List β}, EachIs R as bs → EachIs S as bs
  | _, _, .nil => .nil
  | _, _, .cons r t => .cons (h _ _ r) (each_mono h t)
mutual
theorem dp_same {K : PySem.W.Frag} {H H' : Hp} (s : Same H H') : ∀ (d : PyData) (v : V), Dp K H v d → Dp K H' v d
  | .none, _, h => by cases h; exact .non
  | .bool _, _, h => by cases h; exact .bl _
  | .int _, _, h => by cases h; exact .int _
  | .str _, _, h => by cases h; exact .str _
  | .list ds, _, h => by
    cases h with
    | lst hs ha => exact .lst (s.seq hs) (dp_sameAll s ds _ ha)
  | .tuple ds, _, h => by
    cases h with
    | tup hs ha =>
      refine .tup ?_ (dp_sameAll s ds _ ha)
      rcases hs with (z | ⟨o, z⟩) | z
      · exact .inl (.inl (s _ _ z))
      · exact .inl (.inr ⟨o, s _ _ z⟩)
      · exact .inr z
  | .dict _, _, h => by cases h
theorem dp_sameAll {K : PySem.W.Frag} {H H' : Hp} (s : Same H H') : ∀ (ds : List PyData) (vs : List V), DpAll K H vs ds → DpAll K H' vs ds
  | [], _, h => by cases h; exact .nil
  | d :: ds, _, h => by
    cases h with
    | cons h1 h2 => exact .cons (dp_same s d _ h1) (dp_sameAll s ds _ h2)
end
theorem each_vals {β : Type} {val : β → V} : ∀ {us : List Value} {bs : List β}, Vals (bs.map val) us → EachIs (fun u b => RelV (val b) u) us bs
  | us, [], r => by
    cases r
    exact .nil
  | us, b :: bs, r => by
    cases r with
    | cons h t => exact .cons h (each_vals t)
theorem vals_each {β : Type} {val : β → V} : ∀ {us : List Value} {bs : List β}, EachIs (fun u b => RelV (val b) u) us bs → Vals (bs.map val) us
  | _, _, .nil => .nil
  | _, _, .cons h t => .cons h (vals_each t)

theorem fresh_stack {X : Cx} {pins : List (Addr × Obj)} {σ : L2.St} {H : Hp} {s : Shared} {a : Addr} (I : Inv X pins σ H s) (ha : s.heap.objs.size ≤ a) : a ∉ frs X.stack := fun m => by
  rcases List.mem_cons.mp (I.stkSub _ m) with z | z
  · have q := I.lt
    rw [← z] at q
    exact absurd q (Nat.not_lt.mpr ha)
  · exact I.nofs ha z

theorem sort_core {X : Cx} {pins : List (Addr × Obj)} {σ : L2.St} {H2 : Hp} {s2 : Shared} {l f : Addr} {β : Type} {bs : List β} {val : β → V} {k : β → PyData} {Q : VK} {k0 : Nat} (I2 : Inv X pins σ H2 s2) (hr : Room (k0 + 3) X.A)
    (sq2 : SqL X.K H2 l (bs.map val)) (hal : AllAlike (bs.map k)) (hso : Sortable (bs.map k)) (hdp : ∀ b ∈ bs, (k b).depth ≤ 60)
    (turn : ∀ b ∈ bs, ∀ (H3 : Hp) (s3 : Shared) (u : Value), Inv X pins σ H3 s3 → Same H2 H3 → Un (frs X.stack) [] H2 H3 s2.heap s3.heap → RelV (val b) u →
      codeAny (model X.prog X.w) X.A.in1.in1 (.call (.ref f) ⟨[u], []⟩) (CR CX0 X.stack X.prog X.w H3 s3 (fun v H4 => Same H3 H4 ∧ Dp X.K H4 v (k b)) E0) s3)
    (q : ∀ H3 p, Same H2 H3 → H3 p = none → Q (.ref p) (upd H3 p (.lst ((bs.mergeSort (dataLe false k)).map val)))) :
    wpAny (model X.prog X.w) X.A (call (.builtin "sorted") [.ref l] [(Str.ofString "key", .ref f)]) (EP X pins σ Q) X.xe s2 := by
  obtain ⟨its, rv, hl, hz⟩ := I2.list sq2
  have hzi : its.length ≤ sizeLine := by rw [← rv.length]; exact hz
  have hbl : bs.length = its.length := by rw [← rv.length, List.length_map]
  refine PySem.W.sorted_of_sort (vs := its) hl.isList hzi (ksk_s1 _ _) (fun x => ksk_l1 _ _) fun E' => ?_
  rw [ksk_t1]
  generalize hg0 : PySem.W.copyHeap s2.heap its = g0
  have old0 : ∀ b o, s2.heap.get? b = some o → g0.get? b = some o := fun b o z => by rw [← hg0]; exact PySem.W.copyHeap_old z
  have at0 : g0.get? (s2.heap.objs.size + 1) = some (seqObj "list" its.toArray 0) := by rw [← hg0]; exact PySem.W.copyHeap_at _ _
  generalize haa : s2.heap.objs.size + 1 = a at at0 ⊢
  have ha2 : s2.heap.objs.size ≤ a := by rw [← haa]; exact Nat.le_succ _
  have hA0 : a < g0.objs.size := Heap.lt_size at0
  obtain ⟨e1, at1⟩ : ∃ e1, (g0.update a (Obj.mapSeq fun _ => (#[] : Array Value))).get? a = some (seqObj "list" #[] e1) := ⟨_, get?_update_seq at0 fun _ => #[]⟩
  have sb1 := Heap.SameBut.update g0 a (Obj.mapSeq fun _ => (#[] : Array Value))
  unfold ksk_tree
  refine wpAny_bind (listItems_at at0 rfl ?_)
  refine wpAny_bind (listUpdate_at at0 rfl ?_ (by rw [List.size_toArray]; exact hzi) (Nat.zero_le _))
  refine wpAny_bind (seqEpoch_at at1 rfl ?_)
  refine wpAny_bind (wpAny_newTuple ?_ (by simpa using hzi))
  refine wpAny_bind (wpAny_newList ?_ (Nat.zero_le _))
  refine wpAny_holding ?_
  show wpAny _ _ (ksk_rest a (.ref f) false its.toArray e1 (.ref ((g0.update a (Obj.mapSeq fun _ => (#[] : Array Value))).push (seqObj "tuple" its.toArray 0)).objs.size)) _ E' { s2 with heap := ((g0.update a (Obj.mapSeq fun _ => (#[] : Array Value))).push (seqObj "tuple" its.toArray 0)).push (seqObj "list" #[] 0) }
  generalize hg2 : (g0.update a (Obj.mapSeq fun _ => (#[] : Array Value))).push (seqObj "tuple" its.toArray 0) = g2
  have old2 : ∀ b o, b ≠ a → g0.get? b = some o → g2.get? b = some o := fun b o hb z => by
    rw [← hg2]
    exact Heap.get?_push_of_some _ ((sb1.2 b hb).trans z)
  have at2 : g2.get? a = some (seqObj "list" #[] e1) := by
    rw [← hg2]
    exact Heap.get?_push_of_some _ at1
  have hKz : g2.objs.size = g0.objs.size + 1 := by rw [← hg2, size_push', Heap.size_update]
  generalize hKd : g2.objs.size = kS at hKz ⊢
  have hka : kS ≠ a := by omega
  have hk2 : s2.heap.objs.size ≤ kS := by omega
  have nK2 : H2 kS = none := I2.hok.fresh hk2
  have nA2 : H2 a = none := I2.hok.fresh ha2
  have nsK : kS ∉ frs X.stack := fresh_stack I2 hk2
  have nsA : a ∉ frs X.stack := fresh_stack I2 ha2
  have atK : (g2.push (seqObj "list" #[] 0)).get? kS = some (seqObj "list" #[] 0) := by
    rw [← hKd]
    exact Heap.get?_push_size _ rfl
  have old3 : ∀ b u, s2.heap.get? b = some u → (g2.push (seqObj "list" #[] 0)).get? b = some u := fun b u z =>
    Heap.get?_push_of_some _ (old2 b u (Nat.ne_of_lt (Nat.lt_of_lt_of_le (Heap.lt_size z) ha2)) (old0 b u z))
  have S0 : KeyInv X H2 s2 a kS e1 k (bs.take 0) H2 #[] { s2 with heap := g2.push (seqObj "list" #[] 0) } :=
    ⟨Same.refl _, Un.kept old3, I2.hok.kept old3, I2.bare, rfl, ⟨0, atK⟩, nK2, Heap.get?_push_of_some _ at2, nA2, by rw [List.take_zero]; exact .nil⟩
  generalize hs3 : ({ s2 with heap := g2.push (seqObj "list" #[] 0) } : Shared) = s3 at S0 ⊢
  clear hs3 old3 atK hKd hKz at2 old2 hg2 sb1 at1 hA0 at0 old0 hg0
  have hall : EachIs (fun u b => RelV (val b) u) its bs := each_vals rv
  unfold ksk_rest
  refine wpAny_bind (wpAny_rule ?_)
  first
    | rw [List.forIn_toArray]
    | (rw [← Array.forIn_toList]; simp only [List.toList_toArray])
    | rw [← Array.forIn_toList]
  refine wpAny_bind (ksk_fold (fun i s' => ∃ H3 kA, KeyInv X H2 s2 a kS e1 k (bs.take i) H3 kA s') its 0 s3 ⟨H2, #[], S0⟩ ?turns ?ended)
  case turns =>
    rintro j u s4 hj ⟨H3, kA, J⟩
    simp only [Nat.zero_add] at J ⊢
    have jl : j < its.length := (List.getElem?_eq_some_iff.mp hj).1
    obtain ⟨b, hbj⟩ : ∃ b, bs[j]? = some b := ⟨_, List.getElem?_eq_getElem (by omega)⟩
    have hbm : b ∈ bs := List.mem_of_getElem? hbj
    have ru : RelV (val b) u := by
      have z : (bs.map val)[j]? = some (val b) := by rw [List.getElem?_map, hbj]; rfl
      obtain ⟨u', e', r'⟩ := rv.get z
      rw [hj] at e'
      rw [Option.some.inj e']
      exact r'
    have I4 : Inv X pins σ H3 s4 := I2.call' (ch := []) J.os J.un J.hok J.bare fun b hb => absurd hb (by simp)
    refine wpAny_bind (wpAny_attempt (wpAny_call (codeAny_mono (turn b hbm H3 s4 u I4 J.same J.un ru) fun r s5 z => ?_)))
    cases r with
    | error e => exact (show False from z).elim
    | ok fl =>
    cases fl with
    | next => exact False.elim z
    | brk => exact False.elim z
    | cont => exact False.elim z
    | ret ku =>
    obtain ⟨kv, H4, os5, bare5, un5, hok5, rk, sm5, dp5⟩ := z
    obtain ⟨ee, aK⟩ := J.atK
    have aK5 : s5.heap.get? kS = some (seqObj "list" kA ee) := un5.keep _ _ aK J.frK nsK (by simp)
    have aA5 : s5.heap.get? a = some (seqObj "list" #[] e1) := un5.keep _ _ J.atA J.frA nsA (by simp)
    have fK5 : H4 kS = none := un5.free _ _ aK J.frK (by simp)
    have fA5 : H4 a = none := un5.free _ _ J.atA J.frA (by simp)
    have sb := Heap.SameBut.update s5.heap kS (Obj.mapSeq (·.push ku))
    obtain ⟨c2, hc2⟩ : ∃ c2, (s5.heap.update kS (Obj.mapSeq (·.push ku))).get? kS = some (seqObj "list" (kA.push ku) c2) := ⟨_, get?_update_seq aK5 (·.push ku)⟩
    have hz4 : kA.size ≤ its.length := by
      have z := J.keys.length
      rw [Array.length_toList, List.length_take] at z
      omega
    refine wpAny_bind (listUpdate_at aK5 rfl ?_ (Nat.le_trans hz4 hzi) (Nat.le_trans (Nat.le_of_eq (Array.size_push ..)) (Nat.succ_le_succ (Nat.le_trans hz4 hzi))))
    refine wpAny_pure ⟨rfl, H4, kA.push ku, ?_⟩
    have et : bs.take (j + 1) = bs.take j ++ [b] := by rw [List.take_add_one, hbj]; simp
    have ea : (kA.push ku).toList = kA.toList ++ [ku] := by simp
    refine ⟨J.same.trans sm5, un_later (J.un.trans un5) sb hk2, hok_later hok5 sb fK5, bare5, os5.trans J.os, ⟨c2, hc2⟩, fK5, (sb.2 a hka.symm).trans aA5, fA5, ?_⟩
    rw [et, ea]
    exact PySem.W.each_snoc ⟨kv, rk, dp5⟩ (each_mono (fun v x ⟨w1, r1, d1⟩ => ⟨w1, r1, dp_same sm5 _ _ d1⟩) J.keys)
  case ended =>
    rintro s6 ⟨H3, kA, J⟩
    have J' : KeyInv X H2 s2 a kS e1 k bs H3 kA s6 := by
      have z : bs.take (0 + its.length) = bs := List.take_of_length_le (by omega)
      rw [z] at J
      exact J
    have I6 : Inv X pins σ H3 s6 := I2.call' (ch := []) J'.os J'.un J'.hok J'.bare fun b hb => absurd hb (by simp)
    obtain ⟨ee, aK⟩ := J'.atK
    have hread : EachIs (fun v d => ∃ as, Reads s6.heap v d as) kA.toList (bs.map k) := by
      have go : ∀ {as : List Value} {cs : List β}, EachIs (fun v b => ∃ u, RelV u v ∧ Dp X.K H3 u (k b)) as cs → EachIs (fun v d => ∃ as, Reads s6.heap v d as) as (cs.map k) := fun {as cs} z => by
        induction z with
        | nil => exact .nil
        | cons h _ ih =>
          obtain ⟨u1, r1, d1⟩ := h
          exact .cons (Dp.reads I6 _ _ _ d1 r1) ih
      exact go J'.keys
    have hsz : kA.size = its.length := by
      have z := J'.keys.length
      rw [Array.length_toList] at z
      omega
    refine wpAny_bind (listItems_at aK rfl ?_)
    have kp : KeepsBut a (PySem.W.hideAll s6.heap [kS]) s6.heap := fun b o _ z => PySem.W.of_hideAll [kS] z
    have hdep : ∀ d ∈ bs.map k, X.A.in1.in1.units + d.depth < cLine := fun d hd => by
      obtain ⟨b, hb, rfl⟩ := List.mem_map.mp hd
      have q1 := hdp b hb
      have q2 := (hr.in1.in1).units
      omega
    refine PySem.W.keyH_end (κ := PySem.W.dataKind s6.heap (bs.map k)) kp (PySem.W.hideAll_none [kS] (by simp)) aK J'.atA hka (PySem.W.SortsAt.data hread hal hso hdep) hsz hzi fun h7 tk c kb at7 => ?_
    have keep7 : ∀ b o, b ≠ a → b ≠ kS → s6.heap.get? b = some o → h7.get? b = some o := fun b o n1 n2 z => kb b o n1 (PySem.W.hideAll_get [kS] z (by simpa using n2))
    have hout := PySem.W.keyedOut_each (rev := false) k ⟨s6.heap, kA.toList, hal, rfl, hread⟩ hall
    generalize PySem.W.sortVals (PySem.W.dataKind s6.heap (bs.map k)) false kA.toList its = out at at7 hout
    refine ⟨rfl, .ref a, upd H3 a (.lst ((bs.mergeSort (dataLe false k)).map val)), ?_, rfl, q H3 a J'.same J'.frA⟩
    have neS : ∀ {b : Addr} {o : Obj}, s2.heap.get? b = some o → b ≠ a ∧ b ≠ kS := fun {b o} z =>
      ⟨Nat.ne_of_lt (Nat.lt_of_lt_of_le (Heap.lt_size z) ha2), Nat.ne_of_lt (Nat.lt_of_lt_of_le (Heap.lt_size z) hk2)⟩
    have neA : ∀ {b : Addr} {o : HO}, H3 b = some o → b ≠ a := fun z => ne_of_none z J'.frA
    have neK : ∀ {b : Addr} {o : HO}, H3 b = some o → b ≠ kS := fun z => ne_of_none z J'.frK
    have hv := vals_each hout
    refine I2.call' (ch := []) J'.os ?_ ?_ J'.bare fun b hb => absurd hb (by simp)
    · refine ⟨fun b o z n hb hx => ?_, fun b o z n hb hx => ?_, fun b o z n hx => ?_, fun b o z hx => ?_, fun b xs z => ?_, fun b o u z => ?_, fun b ps z => ?_⟩
      · obtain ⟨m1, m2⟩ := neS z
        exact keep7 b o m1 m2 (J'.un.keep b o z n hb hx)
      · obtain ⟨m1, m2⟩ := neS z
        obtain ⟨sl, q1⟩ := J'.un.slot b o z n hb hx
        exact ⟨sl, keep7 b _ m1 m2 q1⟩
      · rw [upd_ne (neS z).1]
        exact J'.un.free b o z n hx
      · obtain ⟨m1, m2⟩ := neS z
        obtain ⟨o', q1⟩ := J'.un.there b o z hx
        exact ⟨o', keep7 b _ m1 m2 q1⟩
      · have q1 := J'.un.tups b xs z
        rw [upd_ne (neA q1)]
        exact q1
      · have q1 := J'.un.frzs b o u z
        rw [upd_ne (neA q1)]
        exact q1
      · obtain ⟨more, q1⟩ := J'.un.tbls b ps z
        exact ⟨more, by rw [upd_ne (neA q1)]; exact q1⟩
    · intro b o z
      by_cases hb : b = a
      · subst hb
        rw [upd_same] at z
        cases z
        refine ⟨?_, out, c, hv, at7⟩
        rw [hv.length, hout.length, List.length_mergeSort, hbl]
        exact hzi
      · rw [upd_ne hb] at z
        refine (J'.hok b o z).stay (fun d v hd y => ?_) (fun d y => ?_) fun d xs y => ?_
        · rcases hd with y1 | y1
          · subst y1
            exact keep7 _ _ (neA z) (neK z) y
          · exact keep7 _ _ (neA y1) (neK y1) y
        · rw [upd_ne (neA y)]
          exact y
        · rw [upd_ne (neA y)]
          exact y

/-- sorted(xs, key=lambda ..): xs's reading, then the keys' -/
def tSortLam (K : PySem.W.Frag) (T : List (Addr × Str)) (N : List Str) (js : List Nat) (tb : TE) (te : TE) : TE := fun σ H Q => te σ H fun x H1 => Tabs T H1 ∧
  ∃ (l : Addr) (β : Type) (bs : List β) (val : β → V) (k : β → PyData), x = .ref l ∧ SqL K H1 l (bs.map val) ∧ AllAlike (bs.map k) ∧ Sortable (bs.map k) ∧ (∀ b ∈ bs, (k b).depth ≤ 60) ∧
    ∀ H2, ExtN H1 H2 → Tabs T H2 →
      (∀ b ∈ bs, ∀ H3, Same H2 H3 → tb (startF N [val b] (js.map (slotAt σ))) H3 fun v H4 => Same H3 H4 ∧ Dp K H4 v (k b)) ∧
      ∀ H3 p, Same H2 H3 → H3 p = none → Q (.ref p) (upd H3 p (.lst ((bs.mergeSort (dataLe false k)).map val)))

theorem pe_sortedLam {X : Cx} {T : List (Addr × Str)} {c Pt : Addr} {params : Arguments} {body e : Expr} {scope : Scope} {lpos p pos kpos : Pos} {te tb : TE} {N fr : List Str} {x : Str} {js : List Nat} {k0 : Nat}
    (hg : Gl X "sorted") (hm : X.mg "sorted" = none) (ha : PE X e te)
    (TB : TabB X.base X.mg c Pt) (hcode : X.env.code = .ref c) (hmT : (Pt, X.env.qual ++ "<lambda>") ∈ T) (hu : ∀ q ∈ T, q.1 = Pt → q.2 = X.env.qual ++ "<lambda>") (hr : Room (k0 + 3) X.A) (S : NScope N [x] fr scope)
    (hdef : defaultsOf params X.env = ([], []))
    (hfree : ∀ y ∈ scope.names, y.2 = .free → X.env.scope.names.lookup y.1 = some .cell ∨ X.env.scope.names.lookup y.1 = some .free) (hfr : ∀ y ∈ fr, (y, NameKind.free) ∈ scope.names) (hjs : js.map (fun j => X.N[j]?) = fr.map some)
    (hb : ∀ (q : Str) (cl : List (Str × Addr)) (pm cv ctv u : Value), bindArgs (PySem.W.kla_fn "<lambda>" q params body scope cl pm cv ctv) ⟨[u], []⟩ = pure ([x].zip [u]))
    (hbody : ∀ (f c' : Addr) (A : Around) (outer : List Env) (s : Shared) (H : Hp), Room k0 (A.deeper (envF ⟨"<lambda>", X.env.qual ++ "<lambda>", params, [], scope, cloFrom X.env.cells scope.names [], c'⟩ f s.heap.objs.size)) →
      PE (ncx CX0 X.prog X.w X.K X.mg X.base N ⟨"<lambda>", X.env.qual ++ "<lambda>", params, [], scope, cloFrom X.env.cells scope.names [], c'⟩ f A outer s H E0) body tb)
    (one : starEach [e] X.env = (false, eval e X.env) :: starEach [] X.env := by rfl)
    (he : backTo pos (starEach [e] X.env) = (false, eval e X.env) :: backTo pos (starEach [] X.env) := by rfl) (hpl : (backTo pos (starEach [e] X.env)).any (·.1) = false := by rfl) :
    PE X (.Call (.Name "sorted" p) [e] [⟨some "key", .Lambda params body scope lpos, kpos⟩] pos) (tSortLam X.K T N js tb te) := by
  refine ⟨fun pins s σ H Q I h => ?_⟩
  refine wpAny_Call_Name_kw (ld_blt I hg hm (by decide +kernel : bootBuiltins "sorted" = some (.builtin "sorted")) ?_ (by decide) (by decide))
  have haA : PA X [e] (tCons te tNil) := pa_cons ha pa_nil one
  refine PyProof.Rows.callWith_kw (thn (haA.run pos pins s σ H (fun xs H1 => match xs with
    | [x] => Tabs T H1 ∧ ∃ (l : Addr) (β : Type) (bs : List β) (val : β → V) (k : β → PyData), x = .ref l ∧ SqL X.K H1 l (bs.map val) ∧ AllAlike (bs.map k) ∧ Sortable (bs.map k) ∧ (∀ b ∈ bs, (k b).depth ≤ 60) ∧
        ∀ H2, ExtN H1 H2 → Tabs T H2 →
          (∀ b ∈ bs, ∀ H3, Same H2 H3 → tb (startF N [val b] (js.map (slotAt σ))) H3 fun v H4 => Same H3 H4 ∧ Dp X.K H4 v (k b)) ∧
          ∀ H3 p, Same H2 H3 → H3 p = none → Q (.ref p) (upd H3 p (.lst ((bs.mergeSort (dataLe false k)).map val)))
    | _ => False) I h) fun us s1 ⟨xs, H1, I1, r1, q1⟩ => ?_) he hpl (by rfl) (by rfl)
  cases r1 with
  | nil => exact q1.elim
  | cons rx rt =>
  cases rt with
  | cons _ _ => exact q1.elim
  | nil =>
  obtain ⟨hT, l, β, bs, val, k, rfl, hsq, hal, hso, hdp, q1⟩ := q1
  obtain rfl := rx
  show wpAny _ _ (evalAll [do let v ← eval (.Lambda params body scope lpos) X.env; standAt pos; pure v]) _ _ s1
  have hfree' : ∀ y ∈ scope.names, y.2 = .free → ∃ c, X.env.cells.lookup y.1 = some c := fun y hy z => (hfree y hy z).elim (fun a => I.ok.has _ (.inl a)) fun a => I.ok.has _ (.inr a)
  refine wpAny_evalAll_cons (wpAny_bind (lam_make2 I1 TB hcode hmT hu hT hdef hfree' fun f c' pm ctv H2 s2 I2 eN T2 hf hfn hfs hco => wpAny_bind (wpAny_standAt (wpAny_pure ?_))))
  refine wpAny_evalAll_nil ?_
  show wpAny _ _ (call (.builtin "sorted") [.ref l] [(Str.ofString "key", .ref f)]) _ _ s2
  obtain ⟨qb, qe⟩ := q1 H2 eN T2
  have sq2 : SqL X.K H2 l (bs.map val) := by
    rcases hsq with (z | ⟨o, z⟩) | z
    · exact .inl (.inl (eN _ _ z fun ps => by simp))
    · exact .inl (.inr ⟨o, eN _ _ z fun ps => by simp⟩)
    · exact .inr z
  refine sort_core I2 hr sq2 hal hso hdp (fun b hbm H3 s3 u I3 sm un ru => ?_) qe
  exact lam_run S hr.in1.in1 I3.env0.in1.in1 (un.keep f _ hf hfn hfs (by simp)) (sm _ _ hco) (cells_of I3 (Caps.made I3.ok hfree hfr hjs)) (.cons ru .nil) rfl (hb _ _ _ _ _ _)
    fun hr' => ⟨tb, hbody _ _ _ _ _ _ hr', qb b hbm H3 sm⟩
end Bc
namespace Bc
open PySem PySem.Spec PyProof.Rows L2

theorem callTy_kw {M : Model} {A : Around} {E : Value → Shared → Prop} {s : Shared} {pos : Pos} {T : String} {args : List (Bool × Sem Value)} {kws : List (Option Str × Sem Value)} {Q : Value → Shared → Prop}
    (hp : args.any (·.1) = false) (hk : kws.any (·.1.isNone) = false)
    (h : wpAny M A (evalArgs (.type T) true args kws) (fun a t => wpAny M A (call (.type T) a.pos a.kw) Q E t) E s) : wpAny M A (callWith pos (.type T) [] args kws) Q E s := by
  unfold callWith
  refine wpAny_bind (wpAny_holding (thn h fun a t z => wpAny_bind (wpAny_standAt ?_)))
  simp only [hp, hk, Bool.or_false]
  exact wpAny_bind (wpAny_pure (wpAny_bind (thn z fun r t2 y => wpAny_bind (wpAny_holding (wpAny_point (wpAny_pure y))))))

/-- a list, each item in a new pair behind its place, counted from k0 -/
def IteS (K : PySem.W.Frag) (k0 : Int) (a : Addr) : It :=
  ⟨fun i H => ∃ (xs : List V) (x : V), SqL K H a xs ∧ xs[i]? = some x,
    fun i H v H' => ∃ T x, v = .ref T ∧ H T = none ∧ H' = upd H T (.tup [.int (k0 + (i : Nat)), x]) ∧ ∀ xs, SqL K H a xs → xs[i]? = some x,
    fun i H => ∃ xs : List V, SqL K H a xs ∧ xs.length = i⟩
theorem walk_enumS {K : PySem.W.Frag} {a : Addr} {xs : List V} {k0 : Int} : Walk (IteS K k0 a) xs.length (fun H => SqL K H a xs) (YPair (fun i => some (.int (k0 + (i : Nat)))) (fun i => xs[i]?)) := by
  refine ⟨fun i _ hi q => ⟨xs, xs[i], q, by simp [hi]⟩, fun _ q => ⟨xs, q, rfl⟩, fun i H v H' _ q y => ?_⟩
  obtain ⟨T, x, e1, e2, e3, e4⟩ := y
  exact ⟨T, .int (k0 + (i : Nat)), x, e1, e2, e3, rfl, e4 xs q⟩
theorem turn_enumS {P : Program} {w : World} {K : PySem.W.Frag} {elts : List Expr} {kk : Nat} {tpos : Pos} {k0 : Int} (a e it : Addr) (hei : e ≠ it) (hae : a ≠ e) (hai : a ≠ it) :
    Turn P w K (.Tuple elts kk tpos) (IteS K k0 a) [e, it] e (fun i h => (∃ old, IsEnum h e it (k0 + (i : Nat)) old) ∧ h.IsListIter it a i) where
  mem := List.mem_cons_self
  obj := fun i h st b hb => by
    obtain ⟨⟨old, he⟩, o, ho, hc, hd⟩ := st
    rcases List.mem_cons.mp hb with z | z
    · subst z
      exact ⟨_, he, fun v q => nomatch q⟩
    · have z := List.mem_singleton.mp z
      exact ⟨o, z ▸ ho, fun v q => by rw [hd] at q; cases q⟩
  keep := fun i h h' st k => ⟨st.1.elim fun old z => ⟨old, k e (by simp) _ z⟩, st.2.at fun o q => k it (by simp) o q⟩
  item := by
    intro X eP eW eK hc i pins s σ H E I hf st hg
    subst eP eW eK
    obtain ⟨⟨old, he⟩, hit⟩ := st
    obtain ⟨xs, x, hq, hx⟩ := hg
    obtain ⟨its, rv, pl, _⟩ := I.list hq
    obtain ⟨u, eu, ru⟩ := rv.get hx
    have le : e < s.heap.objs.size := Heap.lt_size he
    have li : it < s.heap.objs.size := by
      obtain ⟨_, q, _⟩ := hit
      exact Heap.lt_size q
    have hlt : i < its.toArray.size := by
      have z := (List.getElem?_eq_some_iff.mp eu).1
      simpa using z
    refine wpAny_pyNext_enum_itemC (Draws.list (A := X.A.in1) (I.ok.hd hc) it a hai its.toArray) he ⟨hit, pl.isList⟩ hlt hei (by simp; exact ⟨hei, fun z => hae z.symm⟩) fun y h1 tk hy ho st1 hT hsz hk => ?_
    have ey : y = u := by
      have z : its[i]? = some y := by simpa using hy
      rw [eu] at z
      exact (Option.some.inj z).symm
    subst ey
    refine ⟨_, rfl, wpAny_letOwnedTupleGo_enum (s := { s with heap := h1, toks := tk + 1 }) ho fun h2 he2 sb => ?_⟩
    have hT2 : h2.get? s.heap.objs.size = some { cls := .type "tuple", data := .seq #[.int (k0 + (i : Nat)) tk, y] } := (sb.2 _ (Nat.ne_of_gt le)).trans hT
    have new : ObjOk X.prog X.w (upd H s.heap.objs.size (.tup [.int (k0 + (i : Nat)), x])) h2 s.heap.objs.size (.tup [.int (k0 + (i : Nat)), x]) :=
      ⟨by show 2 ≤ sizeLine; decide, [.int (k0 + (i : Nat)) tk, y], .cons ⟨_, rfl⟩ (.cons ru .nil), ⟨_, hT2, rfl, _, rfl⟩⟩
    have I1 : Inv X pins σ (upd H s.heap.objs.size (.tup [.int (k0 + (i : Nat)), x])) { s with heap := h2, toks := tk + 1 } :=
      I.turnedNew (ch := [e, it]) (fun b ob hb q => (sb.2 b fun z => hb (by simp [z])).trans (hk b ob (fun z => hb (by simp [z])) (fun z => hb (by simp [z])) q)) hf (Nat.le_refl _) new
    refine ⟨.ref s.heap.objs.size, _, I1, rfl, ⟨_, x, rfl, I.hok.fresh (Nat.le_refl _), rfl, fun ys hy => by rw [I.list_inj hy hq]; exact hx⟩, ⟨⟨y, ?_⟩, st1.1.at fun o q => (sb.2 it (Ne.symm hei)).trans q⟩, fun b hb => ?_⟩
    · rw [show k0 + ((i + 1 : Nat) : Int) = k0 + (i : Int) + 1 by omega]
      exact he2
    · have lb : b < s.heap.objs.size := by
        rcases List.mem_cons.mp hb with z | z
        · exact z ▸ le
        · exact List.mem_singleton.mp z ▸ li
      rw [upd_ne (Nat.ne_of_lt lb)]
      exact (hf b hb).1
  done := by
    intro X eP eW eK hc i pins s σ H E I hf st hg
    subst eP eW eK
    obtain ⟨⟨old, he⟩, hit⟩ := st
    obtain ⟨xs, hq, hx⟩ := hg
    obtain ⟨its, rv, pl, _⟩ := I.list hq
    obtain ⟨g0, g1, _, g3, g4, g5⟩ := hf it (by simp)
    have allOf : its.toArray.size = i := by
      have z := rv.length
      simp
      omega
    exact wpAny_pyNext_enum_endD (Draws.list (A := X.A.in1) (I.ok.hd hc) it a hai its.toArray) he ⟨allOf ▸ hit, pl.isList⟩ fun h1 eb => ⟨rfl, I.turned (t' := s.toks) (fun b o hb q => eb b o hb q) g0 g1 g3 g4 g5⟩
  self := fun A i s Q E st h => st.1.elim fun _ z => wpAny_pyIter_enum z h
def iEnumS (K : PySem.W.Frag) (k0 : Int) (te : TE) : TI := fun σ H R => te σ H fun x H1 => ∃ a xs, x = .ref a ∧ SqL K H1 a xs ∧ R (IteS K k0 a) H1
theorem pi_enumS {X : Cx} {e : Expr} {te : TE} {p pos kpos cpos tpos : Pos} {elts : List Expr} {kk c0 : Nat} {k0 : Int} (hk0 : -(2 ^ 63) ≤ k0) (hk1 : k0 < 2 ^ 63) (hg : Gl X "enumerate") (hm : X.mg "enumerate" = none) (ha : PE X e te)
    (one : starEach [e] X.env = (false, eval e X.env) :: starEach [] X.env := by rfl)
    (he : backTo pos (starEach [e] X.env) = (false, eval e X.env) :: backTo pos (starEach [] X.env) := by rfl) (hpl : (backTo pos (starEach [e] X.env)).any (·.1) = false := by rfl) :
    PI X (.Tuple elts kk tpos) (.Call (.Name "enumerate" p) [e] [⟨some "start", .Constant (.int k0) c0 cpos, kpos⟩] pos) (iEnumS X.K k0 te) := by
  refine ⟨fun pins s σ H R I h => ?_⟩
  refine wpAny_Call_Name_kw (ld_blt I hg hm boot_enumerate ?_ (by decide) (by decide))
  refine callTy_kw hpl (by rfl) ?_
  rw [he]
  have haA : PA X [e] (tCons te tNil) := pa_cons ha pa_nil one
  refine evalArgs_kwB (by rfl) ?_
  rw [← he]
  refine thn (haA.run pos pins s σ H (fun vs H1 => match vs with
    | [x] => ∃ a xs, x = .ref a ∧ SqL X.K H1 a xs ∧ R (IteS X.K k0 a) H1
    | _ => False) I h) fun us s1 ⟨vs, H1, I1, r1, q1⟩ => ?_
  cases r1 with
  | nil => exact q1.elim
  | cons rx rt =>
  cases rt with
  | cons _ _ => exact q1.elim
  | nil =>
  obtain ⟨a, xs, rfl, hq, q⟩ := q1
  obtain rfl := rx
  have hkA : PK X [⟨some "start", .Constant (.int k0) c0 cpos, kpos⟩] (tCons (fun _ H Q => Q (.int k0) H) tNil) := pk_cons pe_int pk_nil
  refine thn (hkA.run pos pins s1 σ H1 (fun ks H2 => ks = [.int k0] ∧ H2 = H1) I1 ⟨rfl, rfl⟩) fun ks s2 ⟨kv, H2, I2, rk, ek, eH⟩ => ?_
  subst ek eH
  cases rk with
  | cons rk1 rk2 =>
  cases rk2
  obtain ⟨tk, rfl⟩ := rk1
  show wpAny _ _ (call (.type "enumerate") [.ref a] [(Str.ofString "start", .int k0 tk)]) _ _ s2
  obtain ⟨its, rv, pl, hz⟩ := I2.list hq
  refine enum_begins_start (begins_list a its.toArray) pl.isList hk0 hk1 fun h1 hen hit hsz hk => wpAny_pyIter_enum hen ?_
  have I3 : Inv X pins σ H2 { s2 with heap := h1 } := I2.kept (t' := s2.toks) hk
  have la : a < s2.heap.objs.size := by
    obtain ⟨_, q, _⟩ := pl.isList
    exact Heap.lt_size q
  refine ⟨s2.heap.objs.size + 1, [s2.heap.objs.size + 1, s2.heap.objs.size], _, _, H2, rfl, I3, turn_enumS a (s2.heap.objs.size + 1) s2.heap.objs.size (Nat.succ_ne_self _) (Nat.ne_of_lt (Nat.lt_succ_of_lt la)) (Nat.ne_of_lt la), ⟨⟨.none, ?_⟩, ⟨_, hit, rfl, rfl⟩⟩, fun b hb => ?_, q⟩
  · rw [show k0 + ((0 : Nat) : Int) = k0 by omega]
    exact hen
  · have hle : s2.heap.objs.size ≤ b := by
      rcases List.mem_cons.mp hb with z | z
      · rw [z]
        exact Nat.le_succ _
      · rw [List.mem_singleton.mp z]
        exact Nat.le_refl _
    exact I2.fpOk hle (I2.hok.fresh hle)
end Bc
namespace Bm
set_option autoImplicit false
open Kg59

/-! ### The state's parts -/
theorem getD_map {α β : Type} (o : Option α) (f : α → β) (d : β) : (o.map f).getD d = match o with | some a => f a | none => d := by
  cases o <;> rfl
theorem put_get (s : State) (i k : Nat) (x : Lift) (j : Nat) : (s.put i k x).lifters[j]? = (s.lifters[j]?).map fun l => if j = i then l.set k x else l := by
  unfold State.put
  simp only [List.getElem?_map, List.getElem?_zipIdx]
  cases s.lifters[j]? with
  | none => rfl
  | some l => simp
theorem put_len (s : State) (i k : Nat) (x : Lift) : (s.put i k x).lifters.length = s.lifters.length := by
  unfold State.put
  simp
theorem liftOf_put (s : State) (i k : Nat) (x : Lift) (j m : Nat) (hi : i < s.lifters.length) :
    (s.put i k x).liftOf j m = if j = i ∧ (m = 0 ↔ k = 0) then x else s.liftOf j m := by
  unfold State.liftOf
  rw [put_get]
  by_cases hj : j = i
  · subst hj
    have e : s.lifters[j]? = some s.lifters[j] := List.getElem?_eq_getElem hi
    simp only [e, Option.map_some, Option.getD_some, if_true, true_and]
    unfold Lifter.of Lifter.set
    by_cases hk : k = 0 <;> by_cases hm : m = 0 <;> simp [hk, hm]
  · simp only [hj, false_and, if_false]
    cases s.lifters[j]? <;> rfl
theorem liftOf_two (s : State) (i k : Nat) (hk : k ≠ 0) : s.liftOf i k = s.liftOf i 1 := by
  unfold State.liftOf
  congr 1
  cases s.lifters[i]? with
  | none => rfl
  | some l => simp [Lifter.of, hk]
theorem team_put (s : State) (i k : Nat) (x : Lift) (j : Nat) : ((s.put i k x).lifters[j]?).map Lifter.team = (s.lifters[j]?).map Lifter.team := by
  rw [put_get]
  cases s.lifters[j]? with
  | none => rfl
  | some l =>
    simp only [Option.map_some]
    congr 1
    split
    · unfold Lifter.set
      split <;> rfl
    · rfl
theorem teams_put (s : State) (i k : Nat) (x : Lift) : (s.put i k x).lifters.map Lifter.team = s.lifters.map Lifter.team := by
  apply List.ext_getElem?
  intro j
  rw [List.getElem?_map, List.getElem?_map]
  exact team_put s i k x j

/-- what holds of a contest between two calls; hist: of each attempt the lifter, the lift -/
structure Ok (s : State) (hist : List (Nat × Nat)) : Prop where
  n24 : s.lifters.length ≤ 24
  cnt : hist.length = s.count
  lift2 : s.lift ≤ 2
  ats : ∀ i k, i < s.lifters.length → k < 2 → (s.liftOf i k).tries.map Try.at_ = (List.range s.count).filter fun p => decide (hist[p]? = some (i, k))
  len3 : ∀ i k, (s.liftOf i k).tries.length ≤ 3
  chg : ∀ i k, (s.liftOf i k).changes ≤ 2
  nxt : ∀ i k, (s.liftOf i k).next ≤ 500 + (s.liftOf i k).tries.length
  wts : ∀ i k t, t ∈ (s.liftOf i k).tries → t.weight + 1 ≤ 500 + (s.liftOf i k).tries.length ∧ t.good ≤ 2
  hok : ∀ (p i k : Nat), hist[p]? = some (i, k) → i < s.lifters.length ∧ k ≤ s.lift ∧ k < 2
  last : s.last = match hist.getLast? with
    | some q => if q.2 = s.lift then some q.1 else none
    | none => none
  wait : s.begun = false → s.lift = 0 ∧ s.count = 0 ∧ ∀ i k, (s.liftOf i k).changes = 0
  going : s.begun = true → s.lift < 2 → s.left ≠ []
  over : s.lift = 2 → s.left = []
  bar0 : s.last = none → s.bar = 0

theorem ok_init : Ok init [] := by
  refine ⟨by decide, rfl, by decide, fun i k hi => absurd hi (Nat.not_lt_zero _), fun i k => ?_, fun i k => ?_, fun i k => ?_, fun i k t h => ?_, fun p i k h => ?_, rfl, fun _ => ⟨rfl, rfl, fun i k => ?_⟩, fun h => ?_, fun h => ?_, fun _ => rfl⟩
  · simp [State.liftOf, init]
  · simp [State.liftOf, init]
  · simp [State.liftOf, init]
  · simp [State.liftOf, init] at h
  · simp at h
  · simp [State.liftOf, init]
  · simp [init] at h
  · simp [init] at h

/-! ### begin -/
def fresh (l : List Int) : State := ⟨l.map fun z => ⟨z.toNat, ⟨[], 0, 0⟩, ⟨[], 0, 0⟩⟩, false, 0, 0, 0, none⟩
theorem fresh_lift (l : List Int) (i k : Nat) : (fresh l).liftOf i k = ⟨[], 0, 0⟩ := by
  unfold State.liftOf fresh
  simp only [List.getElem?_map]
  cases l[i]? with
  | none => rfl
  | some z => simp [Lifter.of]
theorem ok_fresh (l : List Int) (h : l.length ≤ 24) : Ok (fresh l) [] := by
  refine ⟨by simpa [fresh] using h, rfl, Nat.zero_le _, fun i k hi hk => ?_, fun i k => ?_, fun i k => ?_, fun i k => ?_, fun i k t hm => ?_, fun p i k hm => ?_, rfl, fun _ => ⟨rfl, rfl, fun i k => ?_⟩, fun hm => ?_, fun hm => ?_, fun _ => rfl⟩
  · rw [fresh_lift]
    rfl
  · simp [fresh_lift]
  · simp [fresh_lift]
  · simp [fresh_lift]
  · simp [fresh_lift] at hm
  · simp at hm
  · simp [fresh_lift]
  · simp [fresh] at hm
  · simp [fresh] at hm

/-! ### ask -/
theorem Ok.blank {s : State} {hist : List (Nat × Nat)} (J : Ok s hist) (hb : s.begun = false) (i k : Nat) : (s.liftOf i k).tries = [] := by
  obtain ⟨h1, h2, h3⟩ := J.wait hb
  by_cases hi : i < s.lifters.length
  · by_cases hk : k < 2
    · have e := J.ats i k hi hk
      rw [h2] at e
      simpa using e
    · rw [liftOf_two s i k (by omega)]
      have e := J.ats i 1 hi (by decide)
      rw [h2] at e
      simpa using e
  · unfold State.liftOf
    rw [List.getElem?_eq_none (by omega)]
    rfl
/-- one lift put, as many attempts as before -/
theorem left_put {s : State} {i k : Nat} {x : Lift} (hi : i < s.lifters.length) (hl : x.tries.length = (s.liftOf i k).tries.length) : (s.put i k x).left = s.left := by
  unfold State.left
  rw [put_len]
  congr 1
  funext j
  show decide (((s.put i k x).liftOf j s.lift).tries.length < TRIES) = decide ((s.liftOf j s.lift).tries.length < TRIES)
  rw [liftOf_put s i k x j s.lift hi]
  split
  · rename_i h
    obtain ⟨rfl, h2⟩ := h
    rw [hl]
    by_cases h0 : k = 0
    · rw [h0, h2.mpr h0]
    · have h1 : s.lift ≠ 0 := fun z => h0 (h2.mp z)
      rw [liftOf_two s j k h0, liftOf_two s j s.lift h1]
  · rfl
theorem Ok.put {s : State} {hist : List (Nat × Nat)} (J : Ok s hist) {i k : Nat} {x : Lift} (hi : i < s.lifters.length) (hk : k < 2) (h1 : x.tries.map Try.at_ = (s.liftOf i k).tries.map Try.at_)
    (h2 : x.changes ≤ 2) (h3 : x.next ≤ 500 + x.tries.length) (h4 : ∀ t ∈ x.tries, t.weight + 1 ≤ 500 + x.tries.length ∧ t.good ≤ 2) (h5 : s.begun = false → x.changes = 0) : Ok (s.put i k x) hist := by
  have hl : x.tries.length = (s.liftOf i k).tries.length := by
    have e := congrArg List.length h1
    simpa using e
  have lo : ∀ j m, (s.put i k x).liftOf j m = if j = i ∧ (m = 0 ↔ k = 0) then x else s.liftOf j m := fun j m => liftOf_put s i k x j m hi
  refine ⟨by rw [put_len]; exact J.n24, J.cnt, J.lift2, fun j m hj hm => ?_, fun j m => ?_, fun j m => ?_, fun j m => ?_, fun j m t ht => ?_, fun p j m h => ?_, J.last, fun hb => ⟨(J.wait hb).1, (J.wait hb).2.1, fun j m => ?_⟩, fun hb hlt => ?_, fun ho => ?_, J.bar0⟩
  · rw [put_len] at hj
    rw [lo]
    split
    · rename_i h
      obtain ⟨rfl, h6⟩ := h
      rw [h1]
      have e : k = m := by
        by_cases z : k = 0
        · rw [z, h6.mpr z]
        · have : m ≠ 0 := fun y => z (h6.mp y)
          omega
      subst e
      exact J.ats j k hj hk
    · exact J.ats j m hj hm
  · rw [lo]
    split
    · rw [hl]
      exact J.len3 _ _
    · exact J.len3 _ _
  · rw [lo]
    split
    · exact h2
    · exact J.chg _ _
  · rw [lo]
    split
    · exact h3
    · exact J.nxt _ _
  · rw [lo] at ht ⊢
    split at ht
    · rename_i h
      rw [if_pos h]
      exact h4 t ht
    · rename_i h
      rw [if_neg h]
      exact J.wts _ _ t ht
  · rw [put_len]
    exact J.hok p j m h
  · rw [lo]
    split
    · exact h5 hb
    · exact (J.wait hb).2.2 j m
  · rw [left_put hi hl]
    exact J.going hb hlt
  · rw [left_put hi hl]
    exact J.over ho
theorem ok_ask {s : State} {hist : List (Nat × Nat)} (J : Ok s hist) (hb : s.begun = false) {i a b : Nat} (hi : i < s.lifters.length) (ha : a ≤ 500) (hbw : b ≤ 500) :
    Ok ((s.put i 0 ⟨[], a, 0⟩).put i 1 ⟨[], b, 0⟩) hist := by
  have J1 : Ok (s.put i 0 ⟨[], a, 0⟩) hist := J.put hi (by decide) (by rw [J.blank hb]) (Nat.zero_le _) (by simpa using ha) (fun t h => by simp at h) fun _ => rfl
  refine J1.put (by rw [put_len]; exact hi) (by decide) ?_ (Nat.zero_le _) (by simpa using hbw) (fun t h => by simp at h) fun _ => rfl
  rw [J1.blank hb]

/-! ### start, up -/
theorem ok_start {s : State} {hist : List (Nat × Nat)} (J : Ok s hist) (hb : s.begun = false) (hn : s.lifters ≠ []) : Ok { s with begun := true } hist := by
  obtain ⟨h1, h2, h3⟩ := J.wait hb
  refine ⟨J.n24, J.cnt, J.lift2, J.ats, J.len3, J.chg, J.nxt, J.wts, J.hok, J.last, fun h => (Bool.noConfusion h), fun _ _ => ?_, fun h => ?_, J.bar0⟩
  · intro h
    have h4 : (0 : Nat) ∈ s.left := by
      unfold State.left
      rw [List.mem_filter, List.mem_range]
      refine ⟨List.length_pos_iff.mpr hn, ?_⟩
      rw [J.blank hb]
      decide
    have h5 : ({ s with begun := true } : State).left = s.left := rfl
    rw [← h5, h] at h4
    simp at h4
  · have : s.lift = 2 := h
    omega

/-! ### the order of calling -/
theorem put_perm (key : Nat → List Nat) (x : Nat) : ∀ l : List Nat, (Kg59.put key x l).Perm (x :: l)
  | [] => List.Perm.refl _
  | y :: l => by
    unfold Kg59.put
    split
    · exact List.Perm.refl _
    · exact ((put_perm key x l).cons y).trans (List.Perm.swap x y l)
theorem sorted_perm_aux (key : Nat → List Nat) : ∀ (l acc : List Nat), (l.foldl (fun s x => Kg59.put key x s) acc).Perm (l ++ acc)
  | [], acc => List.Perm.refl _
  | x :: l, acc => by
    rw [List.foldl_cons]
    refine (sorted_perm_aux key l _).trans ?_
    refine (List.Perm.append_left l (put_perm key x acc)).trans ?_
    exact List.perm_middle
theorem sorted_perm (key : Nat → List Nat) (l : List Nat) : (sorted key l).Perm l := by
  have h := sorted_perm_aux key l []
  rw [List.append_nil] at h
  exact h
/-- not behind -/
def le (key : Nat → List Nat) (x y : Nat) : Prop := less (key y) (key x) = false
theorem less_irrefl : ∀ a : List Nat, less a a = false
  | [] => rfl
  | x :: a => by simp [less, less_irrefl a]
theorem less_trans : ∀ a b c : List Nat, less a b = true → less b c = true → less a c = true
  | [], b, c, h, _ => by simp [less] at h
  | x :: a, [], c, h, _ => by simp [less] at h
  | x :: a, y :: b, [], _, h => by simp [less] at h
  | x :: a, y :: b, z :: c, h1, h2 => by
    simp only [less, Bool.or_eq_true, decide_eq_true_eq, Bool.and_eq_true, beq_iff_eq] at h1 h2 ⊢
    rcases h1 with h1 | ⟨rfl, h1⟩
    · rcases h2 with h2 | ⟨rfl, h2⟩
      · exact .inl (by omega)
      · exact .inl h1
    · rcases h2 with h2 | ⟨rfl, h2⟩
      · exact .inl h2
      · exact .inr ⟨rfl, less_trans a b c h1 h2⟩
theorem less_total : ∀ a b : List Nat, a.length = b.length → less a b = false → less b a = false → a = b
  | [], [], _, _, _ => rfl
  | [], _ :: _, h, _, _ => by simp at h
  | _ :: _, [], h, _, _ => by simp at h
  | x :: a, y :: b, h, h1, h2 => by
    simp only [less, Bool.or_eq_false_iff, decide_eq_false_iff_not, Bool.and_eq_false_iff, beq_eq_false_iff_ne] at h1 h2
    have e : x = y := by omega
    subst e
    have h3 : less a b = false := h1.2.resolve_left (by simp)
    have h4 : less b a = false := h2.2.resolve_left (by simp)
    rw [less_total a b (by simpa using h) h3 h4]
theorem less_asymm {a b : List Nat} (h : less a b = true) : less b a = false := by
  cases e : less b a with
  | false => rfl
  | true =>
    have z := less_trans a b a h e
    rw [less_irrefl] at z
    cases z
theorem put_sorted (key : Nat → List Nat) (m : Nat) (hm : ∀ i, (key i).length = m) (x : Nat) : ∀ l : List Nat, l.Pairwise (le key) → (Kg59.put key x l).Pairwise (le key)
  | [], _ => by
    unfold Kg59.put
    simp
  | y :: l, h => by
    rw [List.pairwise_cons] at h
    unfold Kg59.put
    split
    · rename_i hxy
      rw [List.pairwise_cons]
      refine ⟨fun z hz => ?_, List.pairwise_cons.mpr h⟩
      rcases List.mem_cons.mp hz with rfl | hz
      · exact less_asymm hxy
      · have h1 := h.1 z hz
        unfold le at h1 ⊢
        cases e : less (key z) (key x) with
        | false => rfl
        | true =>
          have z2 := less_trans _ _ _ e hxy
          rw [h1] at z2
          cases z2
    · rename_i hxy
      have hxy : less (key x) (key y) = false := by simpa using hxy
      rw [List.pairwise_cons]
      refine ⟨fun z hz => ?_, put_sorted key m hm x l h.2⟩
      rcases List.mem_cons.mp ((put_perm key x l).mem_iff.mp hz) with rfl | hz
      · exact hxy
      · exact h.1 z hz
theorem sorted_sorted (key : Nat → List Nat) (m : Nat) (hm : ∀ i, (key i).length = m) (l : List Nat) : (sorted key l).Pairwise (le key) := by
  have go : ∀ (l acc : List Nat), acc.Pairwise (le key) → (l.foldl (fun s x => Kg59.put key x s) acc).Pairwise (le key) := by
    intro l
    induction l with
    | nil => exact fun acc h => h
    | cons x l ih => exact fun acc h => ih _ (put_sorted key m hm x acc h)
  exact go l [] List.Pairwise.nil
/-- another sorting of the same things, by an order that says the same of them, gives the same -/
theorem merge_is (key : Nat → List Nat) (m : Nat) (hm : ∀ i, (key i).length = m) (hinj : ∀ i j, key i = key j → i = j) (l : List Nat) (r : Nat → Nat → Bool) (hr : ∀ x ∈ l, ∀ y ∈ l, r x y = !less (key y) (key x)) : l.mergeSort r = sorted key l := by
  have e : l.mergeSort r = l.mergeSort fun x y => !less (key y) (key x) := by
    have h1 := List.map_mergeSort (r := r) (s := fun x y => !less (key y) (key x)) (f := id) (l := l) hr
    simpa using h1
  rw [e]
  refine List.Perm.eq_of_pairwise (le := fun x y => less (key y) (key x) = false) (fun a b _ _ h1 h2 => ?_) ?_ (sorted_sorted key m hm l) ((List.mergeSort_perm l _).trans (sorted_perm key l).symm)
  · exact hinj a b (less_total _ _ ((hm a).trans (hm b).symm) h2 h1)
  · have := List.pairwise_mergeSort (le := fun x y => !less (key y) (key x)) (fun a b c h1 h2 => ?_) (fun a b => ?_) l
    · exact this.imp fun h => by simpa using h
    · simp only [Bool.not_eq_true'] at h1 h2 ⊢
      cases q : less (key c) (key a) with
      | false => rfl
      | true =>
        exfalso
        cases q2 : less (key a) (key b) with
        | true => rw [less_trans _ _ _ q q2] at h2; cases h2
        | false =>
          have := less_total _ _ ((hm a).trans (hm b).symm) q2 h1
          rw [← this, q] at h2
          cases h2
    · cases q : less (key b) (key a) with
      | false => rfl
      | true => simp [less_asymm q]
end Bm
namespace Bm
set_option autoImplicit false
open Kg59

theorem left_mem {s : State} {i : Nat} : i ∈ s.left ↔ i < s.lifters.length ∧ (s.liftOf i s.lift).tries.length < 3 := by
  unfold State.left TRIES
  rw [List.mem_filter, List.mem_range]
  simp
theorem order_mem {s : State} {i : Nat} : i ∈ s.order ↔ i ∈ s.left := (sorted_perm _ _).mem_iff
theorem order_len (s : State) : s.order.length = s.left.length := (sorted_perm _ _).length_eq
theorem left_len {s : State} {hist : List (Nat × Nat)} (J : Ok s hist) : s.left.length ≤ 24 := by
  unfold State.left
  refine Nat.le_trans (List.length_filter_le _ _) ?_
  rw [List.length_range]
  exact J.n24
theorem order_nil {s : State} : s.order = [] ↔ s.left = [] := by
  rw [← List.length_eq_zero_iff, order_len, List.length_eq_zero_iff]
theorem order_cons {s : State} {hist : List (Nat × Nat)} (J : Ok s hist) (hb : s.begun = true) (hl : s.lift < 2) : ∃ i r, s.order = i :: r ∧ i < s.lifters.length ∧ (s.liftOf i s.lift).tries.length < 3 := by
  cases e : s.order with
  | nil => exact absurd (order_nil.mp e) (J.going hb hl)
  | cons i r =>
    have h : i ∈ s.left := order_mem.mp (by rw [e]; exact List.mem_cons_self)
    exact ⟨i, r, rfl, left_mem.mp h⟩
theorem up_cons {s : State} {i : Nat} {r : List Nat} (hb : s.begun = true) (e : s.order = i :: r) : s.up = some i := by
  unfold State.up
  rw [if_pos hb, e]
  rfl
theorem up_off {s : State} {hist : List (Nat × Nat)} (J : Ok s hist) (h : ¬ (s.begun = true ∧ s.lift < 2)) : s.up = none := by
  unfold State.up
  split
  · rename_i hb
    have h2 : s.lift = 2 := by
      have := J.lift2
      have : ¬ s.lift < 2 := fun z => h ⟨hb, z⟩
      omega
    rw [order_nil.mpr (J.over h2)]
    rfl
  · rfl
theorem key_len (s : State) (i : Nat) : (s.key i).length = 4 := rfl
theorem key_inj (s : State) (i j : Nat) (h : s.key i = s.key j) : i = j := by
  unfold State.key at h
  simp only [List.cons.injEq] at h
  exact h.2.2.2.1

/-! ### attempts -/
theorem future {s : State} {hist : List (Nat × Nat)} (J : Ok s hist) {k : Nat} (h : s.lift < k) (hk : k < 2) (i : Nat) : (s.liftOf i k).tries = [] := by
  by_cases hi : i < s.lifters.length
  · have e := J.ats i k hi hk
    have z : (List.range s.count).filter (fun p => decide (hist[p]? = some (i, k))) = [] := by
      rw [List.filter_eq_nil_iff]
      intro p _ q
      have q1 := (J.hok p i k (by simpa using q)).2.1
      omega
    rw [z] at e
    simpa using e
  · unfold State.liftOf
    rw [List.getElem?_eq_none (by omega)]
    rfl
theorem settle_lifters (s : State) : s.settle.lifters = s.lifters := by
  unfold State.settle
  split <;> rfl
theorem settle_liftOf (s : State) (i k : Nat) : s.settle.liftOf i k = s.liftOf i k := by
  unfold State.liftOf
  rw [settle_lifters]
/-- ahead of settling -/
def mid (s : State) (i good : Nat) : State := { (s.put i s.lift ⟨(s.liftOf i s.lift).tries ++ [⟨(s.liftOf i s.lift).next, good, s.count⟩], behind ⟨(s.liftOf i s.lift).next, good, s.count⟩, 0⟩) with count := s.count + 1, bar := (s.liftOf i s.lift).next, last := some i }
theorem tried_is (s : State) (i good : Nat) : s.tried i good = (mid s i good).settle := rfl
theorem mid_liftOf (s : State) (i good j m : Nat) (hi : i < s.lifters.length) : (mid s i good).liftOf j m = if j = i ∧ (m = 0 ↔ s.lift = 0) then ⟨(s.liftOf i s.lift).tries ++ [⟨(s.liftOf i s.lift).next, good, s.count⟩], behind ⟨(s.liftOf i s.lift).next, good, s.count⟩, 0⟩ else s.liftOf j m :=
  liftOf_put s i s.lift _ j m hi
theorem mid_len (s : State) (i good : Nat) : (mid s i good).lifters.length = s.lifters.length := put_len _ _ _ _
theorem behind_le (w g a : Nat) : behind ⟨w, g, a⟩ ≤ w + 1 := by
  unfold behind
  split
  · exact Nat.le_refl _
  · exact Nat.le_succ _
theorem ok_tried {s : State} {hist : List (Nat × Nat)} (J : Ok s hist) (hb : s.begun = true) (hl : s.lift < 2) {i : Nat} (hi : i < s.lifters.length) (h3 : (s.liftOf i s.lift).tries.length < 3) {g : Nat} (hg : g ≤ 2) :
    Ok (s.tried i g) (hist ++ [(i, s.lift)]) := by
  rw [tried_is]
  have lo := mid_liftOf s i g
  have hn := mid_len s i g
  have same : ∀ m, m < 2 → (m = 0 ↔ s.lift = 0) → m = s.lift := fun m hm h => by omega
  have ats : ∀ j k, j < s.lifters.length → k < 2 → ((mid s i g).liftOf j k).tries.map Try.at_ = (List.range (s.count + 1)).filter fun p => decide ((hist ++ [(i, s.lift)])[p]? = some (j, k)) := fun j k hj hk => by
    have e1 : (List.range s.count).filter (fun p => decide ((hist ++ [(i, s.lift)])[p]? = some (j, k))) = (List.range s.count).filter fun p => decide (hist[p]? = some (j, k)) := by
      apply List.filter_congr
      intro p hp
      rw [List.mem_range, ← J.cnt] at hp
      rw [List.getElem?_append_left hp]
    have e2 : (hist ++ [(i, s.lift)])[s.count]? = some (i, s.lift) := by
      rw [← J.cnt, List.getElem?_append_right (Nat.le_refl _)]
      simp
    rw [List.range_succ, List.filter_append, e1, lo j k hi]
    by_cases h : j = i ∧ (k = 0 ↔ s.lift = 0)
    · rw [if_pos h]
      have ek := same k hk h.2
      obtain ⟨rfl, _⟩ := h
      subst ek
      rw [List.map_append, J.ats _ _ hj hk]
      simp [e2]
    · rw [if_neg h, J.ats _ _ hj hk]
      have ne : ¬ ((i, s.lift) = (j, k)) := fun z => by
        obtain ⟨z1, z2⟩ := Prod.mk.inj z
        exact h ⟨z1.symm, by rw [z2]⟩
      simp [e2, ne]
  have len3 : ∀ j k, ((mid s i g).liftOf j k).tries.length ≤ 3 := fun j k => by
    rw [lo j k hi]
    split
    · simp
      omega
    · exact J.len3 j k
  have chg : ∀ j k, ((mid s i g).liftOf j k).changes ≤ 2 := fun j k => by
    rw [lo j k hi]
    split
    · exact Nat.zero_le _
    · exact J.chg j k
  have nx := J.nxt i s.lift
  have nxt : ∀ j k, ((mid s i g).liftOf j k).next ≤ 500 + ((mid s i g).liftOf j k).tries.length := fun j k => by
    rw [lo j k hi]
    split
    · have q := behind_le (s.liftOf i s.lift).next g s.count
      simp only [List.length_append, List.length_cons, List.length_nil]
      omega
    · exact J.nxt j k
  have wts : ∀ j k t, t ∈ ((mid s i g).liftOf j k).tries → t.weight + 1 ≤ 500 + ((mid s i g).liftOf j k).tries.length ∧ t.good ≤ 2 := fun j k t ht => by
    rw [lo j k hi] at ht ⊢
    split at ht
    · rename_i h
      rw [if_pos h]
      simp only [List.length_append, List.length_cons, List.length_nil]
      rcases List.mem_append.mp ht with m | m
      · obtain ⟨q1, q2⟩ := J.wts _ _ t m
        exact ⟨by omega, q2⟩
      · rw [List.mem_singleton.mp m]
        exact ⟨by show (s.liftOf i s.lift).next + 1 ≤ _; omega, hg⟩
    · rename_i h
      rw [if_neg h]
      exact J.wts j k t ht
  have hok : ∀ (p j k : Nat), (hist ++ [(i, s.lift)])[p]? = some (j, k) → j < s.lifters.length ∧ k ≤ s.lift ∧ k < 2 := fun p j k h => by
    by_cases hp : p < hist.length
    · rw [List.getElem?_append_left hp] at h
      exact J.hok p j k h
    · rw [List.getElem?_append_right (by omega)] at h
      have z : ([(i, s.lift)] : List (Nat × Nat))[p - hist.length]? = some (j, k) := h
      have m := List.mem_of_getElem? z
      obtain ⟨z1, z2⟩ := Prod.mk.inj (List.mem_singleton.mp m)
      rw [z1, z2]
      exact ⟨hi, Nat.le_refl _, hl⟩
  have gl : (hist ++ [(i, s.lift)]).getLast? = some (i, s.lift) := by simp
  have cnt : (hist ++ [(i, s.lift)]).length = s.count + 1 := by simp [J.cnt]
  have ml : (mid s i g).lift = s.lift := rfl
  have mb : (mid s i g).begun = true := hb
  by_cases hset : (mid s i g).left.isEmpty = true ∧ (mid s i g).lift < 2
  · have es : (mid s i g).settle = { mid s i g with lift := s.lift + 1, bar := 0, last := none } := by
      unfold State.settle
      rw [if_pos hset]
      rfl
    rw [es]
    refine ⟨by show (mid s i g).lifters.length ≤ 24; rw [hn]; exact J.n24, cnt, by show s.lift + 1 ≤ 2; omega, fun j k hj hk => ats j k (by rw [← hn]; exact hj) hk, len3, chg, nxt, wts, fun p j k h => ?_, ?_, fun h => ?_, fun _ hlt => ?_, fun h2 => ?_, fun _ => rfl⟩
    · obtain ⟨q1, q2, q3⟩ := hok p j k h
      exact ⟨by show j < (mid s i g).lifters.length; rw [hn]; exact q1, by show k ≤ s.lift + 1; omega, q3⟩
    · rw [gl]
      show none = if s.lift = s.lift + 1 then some i else none
      rw [if_neg (by omega)]
    · have : s.begun = false := h
      rw [hb] at this
      cases this
    · intro h
      have hlt : s.lift + 1 < 2 := hlt
      have m : i ∈ ({ mid s i g with lift := s.lift + 1, bar := 0, last := none } : State).left := by
        rw [left_mem]
        refine ⟨by show i < (mid s i g).lifters.length; rw [hn]; exact hi, ?_⟩
        have e : ((mid s i g).liftOf i (s.lift + 1)).tries.length < 3 := by
          rw [lo i (s.lift + 1) hi, if_neg (by omega), future J (Nat.lt_succ_self _) hlt]
          decide
        exact e
      rw [h] at m
      simp at m
    · have h2 : s.lift + 1 = 2 := h2
      have e : (mid s i g).left = [] := List.isEmpty_iff.mp hset.1
      rw [List.eq_nil_iff_forall_not_mem] at e ⊢
      intro j hj
      rw [left_mem] at hj
      obtain ⟨q1, q2⟩ := hj
      refine e j (left_mem.mpr ⟨q1, ?_⟩)
      have q2 : ((mid s i g).liftOf j (s.lift + 1)).tries.length < 3 := q2
      rw [liftOf_two _ j (s.lift + 1) (by omega)] at q2
      rw [ml, show s.lift = 1 by omega]
      exact q2
  · have es : (mid s i g).settle = mid s i g := by
      unfold State.settle
      rw [if_neg hset]
    rw [es]
    refine ⟨by rw [hn]; exact J.n24, cnt, J.lift2, fun j k hj hk => ats j k (by rw [← hn]; exact hj) hk, len3, chg, nxt, wts, fun p j k h => ?_, ?_, fun h => ?_, fun _ hlt h => ?_, fun h2 => ?_, fun h => ?_⟩
    · rw [hn]
      exact hok p j k h
    · rw [gl]
      show some i = if s.lift = s.lift then some i else none
      rw [if_pos rfl]
    · rw [mb] at h
      cases h
    · exact hset ⟨by rw [h]; rfl, hlt⟩
    · have : s.lift = 2 := h2
      omega
    · have : (some i : Option Nat) = none := h
      cases this

/-! ### the last attempt -/
theorem at_hist {s : State} {hist : List (Nat × Nat)} (J : Ok s hist) {i k : Nat} (hi : i < s.lifters.length) (hk : k < 2) {t : Try} (ht : t ∈ (s.liftOf i k).tries) : hist[t.at_]? = some (i, k) := by
  have m : t.at_ ∈ (s.liftOf i k).tries.map Try.at_ := List.mem_map.mpr ⟨t, ht, rfl⟩
  rw [J.ats i k hi hk, List.mem_filter] at m
  simpa using m.2
theorem last_try {s : State} {hist : List (Nat × Nat)} (J : Ok s hist) {i k : Nat} (h : hist.getLast? = some (i, k)) : i < s.lifters.length ∧ k < 2 ∧ ∃ ts t, (s.liftOf i k).tries = ts ++ [t] ∧ t.at_ + 1 = s.count := by
  have hne : hist ≠ [] := fun z => by rw [z] at h; simp at h
  have hpos : 0 < hist.length := List.length_pos_iff.mpr hne
  have hp : hist[hist.length - 1]? = some (i, k) := by rw [← List.getLast?_eq_getElem?]; exact h
  obtain ⟨q1, q2, q3⟩ := J.hok _ _ _ hp
  refine ⟨q1, q3, ?_⟩
  have e := J.ats i k q1 q3
  have hc : s.count = (hist.length - 1) + 1 := by rw [← J.cnt]; omega
  rw [hc, List.range_succ, List.filter_append] at e
  have e2 : [hist.length - 1].filter (fun p => decide (hist[p]? = some (i, k))) = [hist.length - 1] := by
    rw [List.filter_cons, if_pos (by simpa using hp)]
    rfl
  rw [e2] at e
  rcases List.eq_nil_or_concat (s.liftOf i k).tries with z | ⟨ts, t, z⟩
  · rw [z] at e
    simp at e
  · refine ⟨ts, t, by simpa using z, ?_⟩
    rw [z] at e
    simp only [List.concat_eq_append, List.map_append, List.map_cons, List.map_nil] at e
    have := List.append_inj_right' e (by simp)
    simp at this
    rw [hc, this]
theorem lastTry_nil {s : State} {hist : List (Nat × Nat)} (J : Ok s hist) (h : hist = []) : s.lastTry = none := by
  have hc : s.count = 0 := by rw [← J.cnt, h]; rfl
  unfold State.lastTry
  rw [List.head?_eq_none_iff, List.flatMap_eq_nil_iff]
  intro i hi
  rw [List.filterMap_eq_nil_iff]
  intro k _
  rw [hc]
  cases (s.liftOf i k).tries.getLast? with
  | none => rfl
  | some t => simp
theorem head_all {α : Type} {l : List α} {x : α} (h : x ∈ l) (ha : ∀ y ∈ l, y = x) : l.head? = some x := by
  cases l with
  | nil => simp at h
  | cons y r => rw [List.head?_cons, ha y List.mem_cons_self]
theorem lastTry_some {s : State} {hist : List (Nat × Nat)} (J : Ok s hist) {i k : Nat} (h : hist.getLast? = some (i, k)) {ts : List Try} {t : Try} (ht : (s.liftOf i k).tries = ts ++ [t]) (hat : t.at_ + 1 = s.count) : s.lastTry = some (i, (k, t)) := by
  obtain ⟨hi, hk, _⟩ := last_try J h
  have hp : hist[t.at_]? = some (i, k) := at_hist J hi hk (by rw [ht]; simp)
  unfold State.lastTry
  refine head_all ?_ fun y hy => ?_
  · rw [List.mem_flatMap]
    refine ⟨i, List.mem_range.mpr hi, ?_⟩
    rw [List.mem_filterMap]
    refine ⟨k, ?_, ?_⟩
    · have : k = 0 ∨ k = 1 := by omega
      rcases this with z | z <;> simp [z]
    · rw [ht]
      simp [hat]
  · rw [List.mem_flatMap] at hy
    obtain ⟨j, hj, hy⟩ := hy
    rw [List.mem_filterMap] at hy
    obtain ⟨m, hm, hy⟩ := hy
    have hj := List.mem_range.mp hj
    have hm2 : m < 2 := by
      simp at hm
      omega
    cases e : (s.liftOf j m).tries.getLast? with
    | none =>
      rw [e] at hy
      cases hy
    | some u =>
      rw [e] at hy
      simp only [Option.bind_some] at hy
      split at hy
      · rename_i hu
        cases hy
        have mu : u ∈ (s.liftOf j m).tries := List.mem_of_getLast? e
        have hq := at_hist J hj hm2 mu
        have ea : u.at_ = t.at_ := by omega
        rw [ea, hp] at hq
        obtain ⟨z1, z2⟩ := Prod.mk.inj (Option.some.inj hq)
        subst z1 z2
        rw [ht] at e
        simp at e
        rw [e]
      · cases hy

/-! ### orders -/
/-- one attempt more: the better of both -/
def over (b : Option Try) (t : Try) : Bool := match b with
  | some x => decide (x.weight < t.weight)
  | none => true
def bstep (b : Option Try) (t : Try) : Option Try := if t.good = 1 ∧ over b t = true then some t else b
theorem best_fold (l : Lift) : best l = l.tries.foldl bstep none := by
  unfold best
  rw [List.foldl_filter]
  congr 1
  funext b t
  unfold bstep over
  by_cases h : t.good = 1
  · simp only [h, beq_self_eq_true, if_true, true_and]
    cases b with
    | none => rfl
    | some x =>
      by_cases hx : x.weight < t.weight
      · simp [hx]
      · simp [hx]
  · simp [h]
theorem fold_mem {t : Try} : ∀ (ts : List Try) (b : Option Try), ts.foldl bstep b = some t → t ∈ ts ∨ b = some t
  | [], b, z => .inr z
  | u :: r, b, z => by
    rw [List.foldl_cons] at z
    rcases fold_mem r _ z with m | m
    · exact .inl (List.mem_cons_of_mem _ m)
    · unfold bstep at m
      split at m
      · cases m
        exact .inl List.mem_cons_self
      · exact .inr m
theorem best_mem {l : Lift} {t : Try} (h : best l = some t) : t ∈ l.tries := by
  rw [best_fold] at h
  rcases fold_mem _ _ h with m | m
  · exact m
  · cases m
theorem at_apart {s : State} {hist : List (Nat × Nat)} (J : Ok s hist) {i j k : Nat} (hi : i < s.lifters.length) (hj : j < s.lifters.length) (hk : k < 2) {t u : Try} (ht : t ∈ (s.liftOf i k).tries) (hu : u ∈ (s.liftOf j k).tries) (e : t.at_ = u.at_) : i = j := by
  have h1 := at_hist J hi hk ht
  have h2 := at_hist J hj hk hu
  rw [e, h2] at h1
  exact (Prod.mk.inj (Option.some.inj h1)).1.symm
theorem result_bounds {s : State} {hist : List (Nat × Nat)} (J : Ok s hist) {k i : Nat} {r : Nat × Nat} (h : s.result k i = some r) : r.1 ≤ 1006 ∧ ∃ m, m < 2 ∧ (m = if k < 2 then k else 1) ∧ ∃ t ∈ (s.liftOf i m).tries, t.at_ = r.2 := by
  unfold State.result at h
  have bnd : ∀ m t, best (s.liftOf i m) = some t → t.weight ≤ 503 := fun m t z => by
    have q1 := (J.wts i m t (best_mem z)).1
    have q2 := J.len3 i m
    omega
  split at h
  · rename_i hk
    cases e : best (s.liftOf i k) with
    | none =>
      rw [e] at h
      cases h
    | some t =>
      rw [e] at h
      cases h
      exact ⟨by have := bnd k t e; show t.weight ≤ 1006; omega, k, hk, (if_pos hk).symm, t, best_mem e, rfl⟩
  · rename_i hk
    split at h
    · rename_i a b ea eb
      cases h
      exact ⟨by have := bnd 0 a ea; have := bnd 1 b eb; show a.weight + b.weight ≤ 1006; omega, 1, by decide, (if_neg hk).symm, b, best_mem eb, rfl⟩
    · cases h
theorem sorted_congr {key key' : Nat → List Nat} {l : List Nat} (h : ∀ x ∈ l, key x = key' x) : sorted key l = sorted key' l := by
  have hput : ∀ (x : Nat) (acc : List Nat), key x = key' x → (∀ y ∈ acc, key y = key' y) → Kg59.put key x acc = Kg59.put key' x acc := by
    intro x acc hx
    induction acc with
    | nil => exact fun _ => rfl
    | cons y r ih =>
      intro ha
      have hy := ha y List.mem_cons_self
      have hr := ih fun z hz => ha z (List.mem_cons_of_mem _ hz)
      unfold Kg59.put
      rw [hx, hy, hr]
  have go : ∀ (l acc : List Nat), (∀ x ∈ l, key x = key' x) → (∀ x ∈ acc, key x = key' x) → l.foldl (fun s x => Kg59.put key x s) acc = l.foldl (fun s x => Kg59.put key' x s) acc := by
    intro l
    induction l with
    | nil => exact fun acc _ _ => rfl
    | cons x r ih =>
      intro acc h1 h2
      rw [List.foldl_cons, List.foldl_cons, hput x acc (h1 x List.mem_cons_self) h2]
      refine ih _ (fun y hy => h1 y (List.mem_cons_of_mem _ hy)) fun y hy => ?_
      rcases List.mem_cons.mp ((put_perm key' x acc).mem_iff.mp hy) with rfl | hy
      · exact h1 _ List.mem_cons_self
      · exact h2 y hy
  exact go l [] h fun x hx => by simp at hx
/-- those in an order, by lot -/
def inOrder (s : State) (k : Nat) : List Nat := (List.range s.lifters.length).filter fun i => (s.result k i).isSome
/-- what one has in it -/
def got (s : State) (k i : Nat) : Nat × Nat := (s.result k i).getD (0, 0)
theorem ranked_is {s : State} {hist : List (Nat × Nat)} (J : Ok s hist) (k : Nat) (r : Nat → Nat → Bool)
    (hr : ∀ x y, r x y = !(decide ((got s k x).1 < (got s k y).1) || (decide ((got s k x).1 = (got s k y).1) && decide ((got s k y).2 < (got s k x).2)))) : (inOrder s k).mergeSort r = s.ranked k := by
  have hin : ∀ i ∈ inOrder s k, i < s.lifters.length ∧ s.result k i = some (got s k i) := fun i hi => by
    unfold inOrder at hi
    rw [List.mem_filter, List.mem_range] at hi
    refine ⟨hi.1, ?_⟩
    unfold got
    cases e : s.result k i with
    | none =>
      rw [e] at hi
      simp at hi
    | some v => rfl
  unfold State.ranked
  rw [sorted_congr (key' := fun i => [1000000 - (got s k i).1, (got s k i).2, i])]
  · refine merge_is _ 3 (fun i => rfl) (fun i j h => ?_) _ r fun x hx y hy => ?_
    · simp only [List.cons.injEq] at h
      exact h.2.2.1
    · obtain ⟨x1, x2⟩ := hin x hx
      obtain ⟨y1, y2⟩ := hin y hy
      obtain ⟨bx, m, hm, em, t, ht, et⟩ := result_bounds J x2
      obtain ⟨bY, m', hm', em', u, hu, eu⟩ := result_bounds J y2
      have emm : m' = m := by rw [em, em']
      subst emm
      have apart : (got s k x).2 = (got s k y).2 → x = y := fun e => at_apart J x1 y1 hm ht hu (by rw [et, eu, e])
      rw [hr]
      congr 1
      simp only [less, Bool.and_false, Bool.or_false]
      rw [Bool.eq_iff_iff]
      simp only [Bool.or_eq_true, Bool.and_eq_true, decide_eq_true_eq, beq_iff_eq]
      constructor
      · rintro (h | ⟨h1, h2⟩)
        · exact .inl (by omega)
        · exact .inr ⟨by omega, .inl h2⟩
      · rintro (h | ⟨h1, h2 | ⟨h2, h3⟩⟩)
        · exact .inl (by omega)
        · exact .inr ⟨by omega, h2⟩
        · have := apart h2.symm
          omega
  · intro x hx
    have := (hin x hx).2
    show (match s.result k x with | some r => [1000000 - r.1, r.2, x] | none => []) = _
    rw [this]
theorem ranked_mem {s : State} {k i : Nat} : i ∈ s.ranked k ↔ i ∈ inOrder s k := (sorted_perm _ _).mem_iff
theorem ranked_len (s : State) (k : Nat) : (s.ranked k).length ≤ s.lifters.length := by
  have h : (s.ranked k).length = (inOrder s k).length := (sorted_perm _ _).length_eq
  rw [h]
  unfold inOrder
  refine Nat.le_trans (List.length_filter_le _ _) ?_
  rw [List.length_range]
  exact Nat.le_refl _
end Bm
namespace Bc
open PySem PyProof.Rows
open PySem.W (dataLe AllAlike Sortable alike alikeAll keyToks keyToksAll dataLt sortLe)

/-- the place of the last attempt, from 1 on -/
def turnOf (ts : List Kg59.Try) : Nat := (ts.getLast?.map fun t => t.at_ + 1).getD 0
def standD (i : Nat) (ts : List Kg59.Try) : PyData := .tuple [.int (ts.length : Nat), .int (turnOf ts : Nat), .int (i : Nat)]
def keyD (s : Kg59.State) (i : Nat) : PyData := .tuple [.int ((s.liftOf i s.lift).next : Nat), standD i (s.liftOf i s.lift).tries]
def rankD (s : Kg59.State) (k i : Nat) : PyData := .tuple [.int (-((Bm.got s k i).1 : Nat)), .int (((Bm.got s k i).2 + 1 : Nat) : Int)]

theorem toks_key (a b c d : Int) : keyToks (.tuple [.int a, .tuple [.int b, .int c, .int d]]) = [.inl 1, .inl a, .inl 1, .inl 1, .inl b, .inl 1, .inl c, .inl 1, .inl d, .inl 0, .inl 0] := by
  simp [keyToks, keyToksAll]
theorem toks_rank (a b : Int) : keyToks (.tuple [.int a, .int b]) = [.inl 1, .inl a, .inl 1, .inl b, .inl 0] := by
  simp [keyToks, keyToksAll]
theorem lt_inl (a b : Int) : itemLt (.inl a) (.inl b) = decide (a < b) := rfl
theorem lex_key (a b c d a' b' c' d' : Int) : PyProof.Rows.lexLt itemOrd [.inl 1, .inl a, .inl 1, .inl 1, .inl b, .inl 1, .inl c, .inl 1, .inl d, .inl 0, .inl 0] [.inl 1, .inl a', .inl 1, .inl 1, .inl b', .inl 1, .inl c', .inl 1, .inl d', .inl 0, .inl 0] =
    decide (a < a' ∨ (a = a' ∧ (b < b' ∨ (b = b' ∧ (c < c' ∨ (c = c' ∧ d < d')))))) := by
  simp only [PyProof.Rows.lexLt, lt_inl]
  rw [Bool.eq_iff_iff]
  simp only [Bool.or_eq_true, Bool.and_eq_true, Bool.not_eq_true', decide_eq_true_eq, decide_eq_false_iff_not, Int.lt_irrefl, not_false_eq_true, true_and, false_or, Bool.false_eq_true, or_false, and_false]
  show (a < a' ∨ ¬a' < a ∧ (b < b' ∨ ¬b' < b ∧ (c < c' ∨ ¬c' < c ∧ d < d'))) ↔ _
  omega
theorem lex_rank (a b a' b' : Int) : PyProof.Rows.lexLt itemOrd [.inl 1, .inl a, .inl 1, .inl b, .inl 0] [.inl 1, .inl a', .inl 1, .inl b', .inl 0] = decide (a < a' ∨ (a = a' ∧ b < b')) := by
  simp only [PyProof.Rows.lexLt, lt_inl]
  rw [Bool.eq_iff_iff]
  simp only [Bool.or_eq_true, Bool.and_eq_true, Bool.not_eq_true', decide_eq_true_eq, decide_eq_false_iff_not, Int.lt_irrefl, not_false_eq_true, true_and, false_or, Bool.false_eq_true, or_false, and_false]
  show (a < a' ∨ ¬a' < a ∧ b < b') ↔ _
  omega
theorem turn_cmp (ts us : List Kg59.Try) (h : ts.length = us.length) :
    (turnOf ts < turnOf us ↔ ((ts.getLast?).map Kg59.Try.at_).getD 0 < ((us.getLast?).map Kg59.Try.at_).getD 0) ∧ (turnOf ts = turnOf us ↔ ((ts.getLast?).map Kg59.Try.at_).getD 0 = ((us.getLast?).map Kg59.Try.at_).getD 0) := by
  unfold turnOf
  cases e : ts.getLast? with
  | none =>
    have z : ts = [] := List.getLast?_eq_none_iff.mp e
    have z2 : us = [] := List.length_eq_zero_iff.mp (by rw [← h, z]; rfl)
    rw [z2]
    simp
  | some t =>
    cases e2 : us.getLast? with
    | none =>
      have z : us = [] := List.getLast?_eq_none_iff.mp e2
      have z2 : ts = [] := List.length_eq_zero_iff.mp (by rw [h, z]; rfl)
      rw [z2] at e
      cases e
    | some u => simp
theorem keyD_lt (s : Kg59.State) (x y : Nat) : dataLt (keyD s x) (keyD s y) = Kg59.less (s.key x) (s.key y) := by
  unfold dataLt keyD standD Kg59.State.key
  rw [toks_key, toks_key, lex_key, Bool.eq_iff_iff]
  simp only [Kg59.less, Bool.or_eq_true, Bool.and_eq_true, decide_eq_true_eq, beq_iff_eq, Bool.and_false, Bool.or_false]
  by_cases h : (s.liftOf x s.lift).tries.length = (s.liftOf y s.lift).tries.length
  · obtain ⟨t1, t2⟩ := turn_cmp _ _ h
    constructor
    · rintro (z | ⟨z1, z | ⟨z2, z | ⟨z3, z4⟩⟩⟩)
      · exact .inl (by omega)
      · exact .inr ⟨by omega, .inl (by omega)⟩
      · exact .inr ⟨by omega, .inr ⟨by omega, .inl (t1.mp (by omega))⟩⟩
      · exact .inr ⟨by omega, .inr ⟨by omega, .inr ⟨t2.mp (by omega), by simpa using (by omega : x < y)⟩⟩⟩
    · rintro (z | ⟨z1, z | ⟨z2, z | ⟨z3, z4⟩⟩⟩)
      · exact .inl (by omega)
      · exact .inr ⟨by omega, .inl (by omega)⟩
      · have := t1.mpr z
        exact .inr ⟨by omega, .inr ⟨by omega, .inl (by omega)⟩⟩
      · have q1 := t2.mpr z3
        have q2 : x < y := by simpa using z4
        exact .inr ⟨by omega, .inr ⟨by omega, .inr ⟨by omega, by omega⟩⟩⟩
  · constructor
    · rintro (z | ⟨z1, z | ⟨z2, z⟩⟩)
      · exact .inl (by omega)
      · exact .inr ⟨by omega, .inl (by omega)⟩
      · exact absurd (by omega) h
    · rintro (z | ⟨z1, z | ⟨z2, z⟩⟩)
      · exact .inl (by omega)
      · exact .inr ⟨by omega, .inl (by omega)⟩
      · exact absurd z2 h
theorem keyD_le (s : Kg59.State) (x y : Nat) : dataLe false (keyD s) x y = !Kg59.less (s.key y) (s.key x) := by
  show (!PyProof.Rows.lexLt itemOrd (keyToks (keyD s y)) (keyToks (keyD s x))) = _
  congr 1
  exact keyD_lt s y x
theorem order_is (s : Kg59.State) : s.left.mergeSort (dataLe false (keyD s)) = s.order := by
  refine Bm.merge_is s.key 4 (Bm.key_len s) (fun i j h => Bm.key_inj s i j h) s.left _ fun x _ y _ => ?_
  exact keyD_le s x y
theorem ranked_is {s : Kg59.State} {hist : List (Nat × Nat)} (J : Bm.Ok s hist) (k : Nat) : (Bm.inOrder s k).mergeSort (dataLe false (rankD s k)) = s.ranked k := by
  refine Bm.ranked_is J k _ fun x y => ?_
  show (!PyProof.Rows.lexLt itemOrd (keyToks (rankD s k y)) (keyToks (rankD s k x))) = _
  congr 1
  unfold rankD
  rw [toks_rank, toks_rank, lex_rank, Bool.eq_iff_iff]
  simp only [Bool.or_eq_true, Bool.and_eq_true, decide_eq_true_eq]
  omega
theorem alike_key (s : Kg59.State) (l : List Nat) : AllAlike (l.map (keyD s)) := fun d hd d' hd' => by
  obtain ⟨i, _, rfl⟩ := List.mem_map.mp hd
  obtain ⟨j, _, rfl⟩ := List.mem_map.mp hd'
  simp [keyD, standD, alike, alikeAll]
theorem alike_rank (s : Kg59.State) (k : Nat) (l : List Nat) : AllAlike (l.map (rankD s k)) := fun d hd d' hd' => by
  obtain ⟨i, _, rfl⟩ := List.mem_map.mp hd
  obtain ⟨j, _, rfl⟩ := List.mem_map.mp hd'
  simp [rankD, alike, alikeAll]
theorem sortable_key (s : Kg59.State) (l : List Nat) : Sortable (l.map (keyD s)) := .inl fun d hd => by
  obtain ⟨i, _, rfl⟩ := List.mem_map.mp hd
  exact ⟨_, _, rfl⟩
theorem sortable_rank (s : Kg59.State) (k : Nat) (l : List Nat) : Sortable (l.map (rankD s k)) := .inl fun d hd => by
  obtain ⟨i, _, rfl⟩ := List.mem_map.mp hd
  exact ⟨_, _, rfl⟩
theorem depth_key (s : Kg59.State) (i : Nat) : (keyD s i).depth ≤ 60 := by
  simp [keyD, standD, PyData.depth, PyData.depthAll]
theorem depth_rank (s : Kg59.State) (k i : Nat) : (rankD s k i).depth ≤ 60 := by
  simp [rankD, PyData.depth, PyData.depthAll]
end Bc
namespace Bc
open PySem PySem.Spec PyProof.Rows L2

/-! ### a def's promise with all that a call of it asks -/
section
variable (P : Program) (w : World) (K : PySem.W.Frag) (mg : Str → Option Value) (base : Heap)
/-- the def x -/
def DefOk (k : Nat) (x : Str) (ps : List Str) (sp : Sp) : Prop := ∃ (f : Addr) (fd : FuncData), mg x = some (.ref f) ∧ PySem.W.keepIn K (.ref f) = true ∧ Binds K fd ps [] ∧ FnOk P w K mg base CX0 k f fd ps sp
/-- the method m of the class at C -/
def MethOk (k : Nat) (C : Addr) (m : Str) (ps : List Str) (sp : Sp) : Prop := ∃ (f : Addr) (fd : FuncData), Cls K C ∧ Meth K C m f ∧ Binds K fd ps [] ∧ FnOk P w K mg base CX0 k f fd ps sp
/-- the class x made -/
def MakeOk (k : Nat) (x : Str) (C : Addr) (ps : List Str) (sp : Sp) : Prop := ∃ (f : Addr) (fd : FuncData), mg x = some (.ref C) ∧ Mk K C f ∧ Binds K fd ps [] ∧ FnOk P w K mg base CX0 k f fd ps sp
end
section
variable {X : Cx} {k j : Nat} {x m : Str} {C : Addr} {ps : List Str} {sp : Sp} {p pos ap : Pos} {e o : Expr} {rest : List Expr} {ta : TE} {t : TA}
theorem pe_d (D : DefOk X.prog X.w X.K X.mg X.base k x ps sp) (hr : Room j X.A) (ha : PA X (e :: rest) t) (hk : k ≤ j := by decide) (hg : Gl X x := by rfl) (hdb : (x == ("__debug__" : Str)) = false := by decide)
    (he : starEach (e :: rest) X.env = (false, eval e X.env) :: starEach rest X.env := by rfl) (hpl : (backTo pos (starEach rest X.env)).any (·.1) = false := by rfl) :
    PE X (.Call (.Name x p) (e :: rest) [] pos) (tCall sp [] E0 t) := by
  obtain ⟨f, fd, h1, h2, h3, h4⟩ := D
  exact pe_call h4 (hr.mono hk) hg h1 h2 h3 .nil pass0 ha hdb he hpl
theorem pe_m {pl : Sem Bool} (D : MethOk X.prog X.w X.K X.mg X.base k C m ps sp) (hr : Room j X.A) (ho : PE X o ta) (ha : PA X (e :: rest) t) (hk : k ≤ j := by decide)
    (hst : starEach (e :: rest) X.env = (false, eval e X.env) :: starEach rest X.env := by rfl) (hpl : (backTo pos (starEach rest X.env)).any (·.1) = false := by rfl)
    (ht : eval (.Call (.Attribute o m ap) (e :: rest) [] pos) X.env = (do
      let recv ← eval o X.env
      standAt ap.atName
      let (fn, own) ← holding [recv] (getMethod recv m pl)
      callWith pos fn own (backTo pos (starEach (e :: rest) X.env)) (backToKw pos (keywordEach [] X.env))) := by rfl) :
    PE X (.Call (.Attribute o m ap) (e :: rest) [] pos) (tMeth C m sp [] E0 ta t) := by
  obtain ⟨f, fd, h1, h2, h3, h4⟩ := D
  exact pe_meth ho h1 h2 h4 (hr.mono hk) h3 .nil pass0 ha hst hpl ht
theorem pe_m0 {pl : Sem Bool} (D : MethOk X.prog X.w X.K X.mg X.base k C m ps sp) (hr : Room j X.A) (ho : PE X o ta) (hk : k ≤ j := by decide)
    (ht : eval (.Call (.Attribute o m ap) [] [] pos) X.env = (do
      let recv ← eval o X.env
      standAt ap.atName
      let (fn, own) ← holding [recv] (getMethod recv m pl)
      callWith pos fn own (backTo pos (starEach [] X.env)) (backToKw pos (keywordEach [] X.env))) := by rfl) :
    PE X (.Call (.Attribute o m ap) [] [] pos) (tMeth C m sp [] E0 ta tNil) := by
  obtain ⟨f, fd, h1, h2, h3, h4⟩ := D
  exact pe_meth0 ho h1 h2 h4 (hr.mono hk) h3 .nil pass0 ht
theorem pe_mk (D : MakeOk X.prog X.w X.K X.mg X.base k x C ps sp) (hr : Room j X.A) (ha : PA X (e :: rest) t) (hk : k + 1 ≤ j := by decide) (hg : Gl X x := by rfl) (hdb : (x == ("__debug__" : Str)) = false := by decide)
    (he : starEach (e :: rest) X.env = (false, eval e X.env) :: starEach rest X.env := by rfl) (hpl : (backTo pos (starEach rest X.env)).any (·.1) = false := by rfl) :
    PE X (.Call (.Name x p) (e :: rest) [] pos) (tMake C sp [] E0 t) := by
  obtain ⟨f, fd, h1, h2, h3, h4⟩ := D
  exact pe_make h2 h4 (hr.mono hk) hg h1 h3 .nil pass0 ha hdb he hpl
theorem pe_mk0 (D : MakeOk X.prog X.w X.K X.mg X.base k x C ps sp) (hr : Room j X.A) (hk : k + 1 ≤ j := by decide) (hg : Gl X x := by rfl) (hdb : (x == ("__debug__" : Str)) = false := by decide) :
    PE X (.Call (.Name x p) [] [] pos) (tMake C sp [] E0 tNil) := by
  obtain ⟨f, fd, h1, h2, h3, h4⟩ := D
  exact pe_make0 h2 h4 (hr.mono hk) hg h1 h3 .nil pass0 hdb
end

/-! ### the text by places -/
def top (i : Nat) : Stmt := PySem.Challenge.pw_barcontest_s01_answers.main.body.getD i (.Pass ⟨0, 0, 0, 0⟩)

/-! ### fields -/
theorem lk_here {x : Str} {u : V} {l : List (Str × V)} : List.lookup x ((x, u) :: l) = some u := by
  have e : (x == x) = true := beq_self_eq_true x
  simp only [List.lookup, e]
theorem lk_past {x g : Str} {u : V} {l : List (Str × V)} (h : (x == g) = false) : List.lookup x ((g, u) :: l) = List.lookup x l := by
  simp only [List.lookup, h]
theorem put_here {f : Str} {u x : V} {l : List (Str × V)} : putF f u ((f, x) :: l) = (f, u) :: l := if_pos rfl
theorem put_past {f g : Str} {u x : V} {l : List (Str × V)} (h : ¬ g = f) : putF f u ((g, x) :: l) = (g, x) :: putF f u l := if_neg h

def attF (t : Kg59.Try) : List (Str × V) := [("weight", .int (t.weight : Nat)), ("good", .int (t.good : Nat)), ("turn", .int ((t.at_ + 1 : Nat) : Int))]
def recF (n c : Nat) (al : Addr) : List (Str × V) := [("wanted", .int (n : Nat)), ("changes", .int (c : Nat)), ("attempts", .ref al)]
def conF (tm : Addr) (b : Bool) (l bar : Nat) (hs rs : Addr) : List (Str × V) := [("teams", .ref tm), ("has_begun", .bl b), ("lift", .int (l : Nat)), ("bar", .int (bar : Nat)), ("history", .ref hs), ("records", .ref rs)]
section
variable {t : Kg59.Try} {n c : Nat} {al tm hs rs : Addr} {b : Bool} {l bar : Nat}
theorem att_weight : (attF t).lookup ("weight" : Str) = some (.int (t.weight : Nat)) := by unfold attF; (repeat (first | exact lk_here | rfl | refine (lk_past (by decide +kernel)).trans ?_))
theorem att_good : (attF t).lookup ("good" : Str) = some (.int (t.good : Nat)) := by unfold attF; (repeat (first | exact lk_here | rfl | refine (lk_past (by decide +kernel)).trans ?_))
theorem att_turn : (attF t).lookup ("turn" : Str) = some (.int ((t.at_ + 1 : Nat) : Int)) := by unfold attF; (repeat (first | exact lk_here | rfl | refine (lk_past (by decide +kernel)).trans ?_))
theorem att_asks : (attF t).lookup ("asks_for" : Str) = none := by unfold attF; (repeat (first | exact lk_here | rfl | refine (lk_past (by decide +kernel)).trans ?_))
theorem att_put_good (g : Nat) : putF "good" (.int (g : Nat)) (attF t) = attF { t with good := g } := by unfold attF; (repeat (first | exact put_here | rfl | refine (put_past (by decide +kernel)).trans (congrArg _ ?_)))
theorem att_new (w g u : Nat) : putF "turn" (.int ((u + 1 : Nat) : Int)) (putF "good" (.int (g : Nat)) (putF "weight" (.int (w : Nat)) [])) = attF ⟨w, g, u⟩ := by
  have e1 : putF "good" (.int (g : Nat)) (putF "weight" (.int (w : Nat)) []) = ([("weight", .int (w : Nat)), ("good", .int (g : Nat))] : List (Str × V)) := by
    show putF "good" _ ([("weight", _)] : List (Str × V)) = _
    repeat (first | exact put_here | rfl | refine (put_past (by decide +kernel)).trans (congrArg _ ?_))
  rw [e1]
  unfold attF
  repeat (first | exact put_here | rfl | refine (put_past (by decide +kernel)).trans (congrArg _ ?_))
theorem rec_wanted : (recF n c al).lookup ("wanted" : Str) = some (.int (n : Nat)) := by unfold recF; (repeat (first | exact lk_here | rfl | refine (lk_past (by decide +kernel)).trans ?_))
theorem rec_changes : (recF n c al).lookup ("changes" : Str) = some (.int (c : Nat)) := by unfold recF; (repeat (first | exact lk_here | rfl | refine (lk_past (by decide +kernel)).trans ?_))
theorem rec_attempts : (recF n c al).lookup ("attempts" : Str) = some (.ref al) := by unfold recF; (repeat (first | exact lk_here | rfl | refine (lk_past (by decide +kernel)).trans ?_))
theorem rec_left : (recF n c al).lookup ("is_left" : Str) = none := by unfold recF; (repeat (first | exact lk_here | rfl | refine (lk_past (by decide +kernel)).trans ?_))
theorem rec_put_wanted (m : Nat) : putF "wanted" (.int (m : Nat)) (recF n c al) = recF m c al := by unfold recF; (repeat (first | exact put_here | rfl | refine (put_past (by decide +kernel)).trans (congrArg _ ?_)))
theorem rec_put_changes (m : Nat) : putF "changes" (.int (m : Nat)) (recF n c al) = recF n m al := by unfold recF; (repeat (first | exact put_here | rfl | refine (put_past (by decide +kernel)).trans (congrArg _ ?_)))
theorem rec_new : putF "attempts" (.ref al) (putF "changes" (.int 0) (putF "wanted" (.int 0) [])) = recF 0 0 al := by
  have e1 : putF "changes" (.int 0) (putF "wanted" (.int 0) []) = ([("wanted", .int 0), ("changes", .int 0)] : List (Str × V)) := by
    show putF "changes" _ ([("wanted", _)] : List (Str × V)) = _
    repeat (first | exact put_here | rfl | refine (put_past (by decide +kernel)).trans (congrArg _ ?_))
  rw [e1]
  unfold recF
  repeat (first | exact put_here | rfl | refine (put_past (by decide +kernel)).trans (congrArg _ ?_))
theorem con_teams : (conF tm b l bar hs rs).lookup ("teams" : Str) = some (.ref tm) := by unfold conF; (repeat (first | exact lk_here | rfl | refine (lk_past (by decide +kernel)).trans ?_))
theorem con_begun : (conF tm b l bar hs rs).lookup ("has_begun" : Str) = some (.bl b) := by unfold conF; (repeat (first | exact lk_here | rfl | refine (lk_past (by decide +kernel)).trans ?_))
theorem con_lift : (conF tm b l bar hs rs).lookup ("lift" : Str) = some (.int (l : Nat)) := by unfold conF; (repeat (first | exact lk_here | rfl | refine (lk_past (by decide +kernel)).trans ?_))
theorem con_bar : (conF tm b l bar hs rs).lookup ("bar" : Str) = some (.int (bar : Nat)) := by unfold conF; (repeat (first | exact lk_here | rfl | refine (lk_past (by decide +kernel)).trans ?_))
theorem con_history : (conF tm b l bar hs rs).lookup ("history" : Str) = some (.ref hs) := by unfold conF; (repeat (first | exact lk_here | rfl | refine (lk_past (by decide +kernel)).trans ?_))
theorem con_records : (conF tm b l bar hs rs).lookup ("records" : Str) = some (.ref rs) := by unfold conF; (repeat (first | exact lk_here | rfl | refine (lk_past (by decide +kernel)).trans ?_))
theorem con_none {m : Str} (h : m ∈ (["renew", "has_lifter", "is_on", "record", "who_tried_last", "next_lift"] : List Str)) : (conF tm b l bar hs rs).lookup m = none := by
  unfold conF
  simp only [List.mem_cons, List.not_mem_nil, or_false] at h
  rcases h with rfl | rfl | rfl | rfl | rfl | rfl <;> (repeat (first | exact lk_here | rfl | refine (lk_past (by decide +kernel)).trans ?_))
theorem con_put_begun (b' : Bool) : putF "has_begun" (.bl b') (conF tm b l bar hs rs) = conF tm b' l bar hs rs := by unfold conF; (repeat (first | exact put_here | rfl | refine (put_past (by decide +kernel)).trans (congrArg _ ?_)))
theorem con_put_lift (l' : Nat) : putF "lift" (.int (l' : Nat)) (conF tm b l bar hs rs) = conF tm b l' bar hs rs := by unfold conF; (repeat (first | exact put_here | rfl | refine (put_past (by decide +kernel)).trans (congrArg _ ?_)))
theorem con_put_bar (bar' : Nat) : putF "bar" (.int (bar' : Nat)) (conF tm b l bar hs rs) = conF tm b l bar' hs rs := by unfold conF; (repeat (first | exact put_here | rfl | refine (put_past (by decide +kernel)).trans (congrArg _ ?_)))
end
end Bc
namespace Bc
open PySem PySem.Spec PyProof.Rows L2 LamX

/-! ### how a contest lies in the heap -/
/-- its objects: teams, history, records, a lift's records, a record, its attempts, an attempt, an entry of the history -/
inductive Ob where
  | tm | hs | rs
  | ls (k : Nat)
  | rc (k i : Nat)
  | al (k i : Nat)
  | at (k i j : Nat)
  | ht (p : Nat)
  deriving DecidableEq
/-- where they stand, their own dicts; the contest itself -/
structure Lay where
  f : Ob → Addr
  d : Ob → Addr
  c : Addr
  cd : Addr
/-- the classes -/
structure Cs where
  T : Addr
  R : Addr
  C : Addr
abbrev Hist := List (Nat × Nat)
def tryAt (s : Kg59.State) (k i j : Nat) : Kg59.Try := (s.liftOf i k).tries.getD j ⟨0, 0, 0⟩
def Has (s : Kg59.State) (hist : Hist) : Ob → Prop
  | .tm => True
  | .hs => True
  | .rs => True
  | .ls k => k < 2
  | .rc k i => k < 2 ∧ i < s.lifters.length
  | .al k i => k < 2 ∧ i < s.lifters.length
  | .at k i j => k < 2 ∧ i < s.lifters.length ∧ j < (s.liftOf i k).tries.length
  | .ht p => p < hist.length
def obj (cs : Cs) (ℓ : Lay) (s : Kg59.State) (hist : Hist) : Ob → HO
  | .tm => .lst (s.lifters.map fun l => .int (l.team : Nat))
  | .hs => .lst ((List.range hist.length).map fun p => .ref (ℓ.f (.ht p)))
  | .rs => .lst [.ref (ℓ.f (.ls 0)), .ref (ℓ.f (.ls 1))]
  | .ls k => .lst ((List.range s.lifters.length).map fun i => .ref (ℓ.f (.rc k i)))
  | .rc k i => .ins cs.R (ℓ.d (.rc k i)) (recF (s.liftOf i k).next (s.liftOf i k).changes (ℓ.f (.al k i)))
  | .al k i => .lst ((List.range (s.liftOf i k).tries.length).map fun j => .ref (ℓ.f (.at k i j)))
  | .at k i j => .ins cs.T (ℓ.d (.at k i j)) (attF (tryAt s k i j))
  | .ht p => .tup [.int ((hist.getD p (0, 0)).1 : Nat), .int ((hist.getD p (0, 0)).2 : Nat)]
def conO (cs : Cs) (ℓ : Lay) (s : Kg59.State) : HO := .ins cs.C ℓ.cd (conF (ℓ.f .tm) s.begun s.lift s.bar (ℓ.f .hs) (ℓ.f .rs))
structure Rep (cs : Cs) (H : Hp) (ℓ : Lay) (s : Kg59.State) (hist : Hist) : Prop where
  con : H ℓ.c = some (conO cs ℓ s)
  ob : ∀ x, Has s hist x → H (ℓ.f x) = some (obj cs ℓ s hist x)
  inj : ∀ x y, Has s hist x → Has s hist y → ℓ.f x = ℓ.f y → x = y
/-- what belongs to it -/
def Own (ℓ : Lay) (s : Kg59.State) (hist : Hist) (b : Addr) : Prop := b = ℓ.c ∨ ∃ x, Has s hist x ∧ b = ℓ.f x

theorem obj_tbl (cs : Cs) (ℓ : Lay) (s : Kg59.State) (hist : Hist) (x : Ob) (ps : Array Value) : obj cs ℓ s hist x ≠ .tbl ps := by
  cases x <;> exact fun h => nomatch h
section
variable {cs : Cs} {H H' : Hp} {ℓ : Lay} {s : Kg59.State} {hist : Hist}
theorem Rep.ext (R : Rep cs H ℓ s hist) (e : ExtN H H') : Rep cs H' ℓ s hist :=
  ⟨e _ _ R.con (fun ps h => by cases h), fun x hx => e _ _ (R.ob x hx) (obj_tbl cs ℓ s hist x), R.inj⟩
theorem Rep.same (R : Rep cs H ℓ s hist) (e : Same H H') : Rep cs H' ℓ s hist := R.ext (ExtN.of e)
theorem Rep.tracked (R : Rep cs H ℓ s hist) {b : Addr} (h : Own ℓ s hist b) : ∃ o, H b = some o ∧ ∀ ps, o ≠ .tbl ps := by
  rcases h with rfl | ⟨x, hx, rfl⟩
  · exact ⟨_, R.con, fun ps h => nomatch h⟩
  · exact ⟨_, R.ob x hx, obj_tbl cs ℓ s hist x⟩
theorem Rep.new (R : Rep cs H ℓ s hist) {p : Addr} (h : H p = none) : ¬ Own ℓ s hist p := fun z => by
  obtain ⟨o, e, _⟩ := R.tracked z
  rw [h] at e
  cases e
/-- the contest's own address is no part's -/
theorem Rep.apart (R : Rep cs H ℓ s hist) {x : Ob} (hx : Has s hist x) : ℓ.f x ≠ ℓ.c := by
  refine ne_of (R.ob x hx) R.con ?_
  cases x with
  | rc k i =>
    intro h
    injection h with h1 h2 h3
    injection h3 with h4 h5
    injection h4 with h6 h7
    exact absurd h6 (by decide +kernel)
  | «at» k i j =>
    intro h
    injection h with h1 h2 h3
    injection h3 with h4 h5
    injection h4 with h6 h7
    exact absurd h6 (by decide +kernel)
  | _ => exact fun h => nomatch h
theorem Rep.ne (R : Rep cs H ℓ s hist) {x y : Ob} (hx : Has s hist x) (hy : Has s hist y) (h : x ≠ y) : ℓ.f x ≠ ℓ.f y := fun e => h (R.inj x y hx hy e)
end
/-- the state's data, as far as the heap shows them -/
theorem rep_ghost {cs : Cs} {H : Hp} {ℓ : Lay} {s : Kg59.State} {hist : Hist} (R : Rep cs H ℓ s hist) (s' : Kg59.State) (h1 : s'.lifters = s.lifters) (h2 : s'.begun = s.begun) (h3 : s'.lift = s.lift) (h4 : s'.bar = s.bar) : Rep cs H ℓ s' hist := by
  have hl : ∀ i k, s'.liftOf i k = s.liftOf i k := fun i k => by
    unfold Kg59.State.liftOf
    rw [h1]
  have hh : ∀ x, Has s' hist x = Has s hist x := fun x => by
    cases x <;> simp [Has, h1, hl]
  have ho : ∀ x, obj cs ℓ s' hist x = obj cs ℓ s hist x := fun x => by
    cases x <;> simp [obj, h1, hl, tryAt]
  refine ⟨?_, fun x hx => ?_, fun x y hx hy e => R.inj x y (hh x ▸ hx) (hh y ▸ hy) e⟩
  · unfold conO
    rw [h2, h3, h4]
    exact R.con
  · rw [ho]
    exact R.ob x (hh x ▸ hx)

/-! ### a call's end -/
/-- what was tracked, is no table and no part of the contest stands, and is none of the contest's now -/
def Frame (H : Hp) (ℓ : Lay) (s : Kg59.State) (hist : Hist) (H' : Hp) (ℓ' : Lay) (s' : Kg59.State) (hist' : Hist) : Prop :=
  ∀ b o, H b = some o → (∀ ps, o ≠ .tbl ps) → ¬ Own ℓ s hist b → H' b = some o ∧ ¬ Own ℓ' s' hist' b
/-- the contest is s' then, ans is answered -/
def Post (cs : Cs) (T : List (Addr × Str)) (H : Hp) (ℓ : Lay) (s : Kg59.State) (hist : Hist) (s' : Kg59.State) (ans : List Int) (Q : VK) : Prop :=
  ∀ (H' : Hp) (p : Addr) (ℓ' : Lay) (hist' : Hist), ℓ'.c = ℓ.c → Rep cs H' ℓ' s' hist' → Bm.Ok s' hist' → Tabs T H' → Frame H ℓ s hist H' ℓ' s' hist' →
    (∀ b o, H b = some o → (∀ ps, o ≠ .tbl ps) → ¬ Own ℓ s hist b → b ≠ p) → ¬ Own ℓ' s' hist' p → H' p = some (.lst (ans.map V.int)) → Q (.ref p) H'
theorem Frame.refl {H : Hp} {ℓ : Lay} {s : Kg59.State} {hist : Hist} : Frame H ℓ s hist H ℓ s hist := fun _ _ e _ n => ⟨e, n⟩
theorem Frame.ext {H H' : Hp} {ℓ : Lay} {s : Kg59.State} {hist : Hist} (e : ExtN H H') : Frame H ℓ s hist H' ℓ s hist := fun b o h n m => ⟨e b o h n, m⟩
theorem Frame.trans {H H1 H2 : Hp} {ℓ ℓ1 ℓ2 : Lay} {s s1 s2 : Kg59.State} {h h1 h2 : Hist} (a : Frame H ℓ s h H1 ℓ1 s1 h1) (b : Frame H1 ℓ1 s1 h1 H2 ℓ2 s2 h2) : Frame H ℓ s h H2 ℓ2 s2 h2 := fun c o e n m => by
  obtain ⟨q1, q2⟩ := a c o e n m
  exact b c o q1 n q2
theorem tabs_upd {T : List (Addr × Str)} {H : Hp} {p : Addr} {o : HO} (t : Tabs T H) (hp : H p = none) : Tabs T (upd H p o) := t.ext fun b u e => by
  rw [upd_ne (ne_of_none e hp)]
  exact e
theorem tabs_write {T : List (Addr × Str)} {H : Hp} {p : Addr} {o u : HO} (t : Tabs T H) (hp : H p = some u) (hu : ∀ ps, u ≠ .tbl ps) (hc : ∀ q, u ≠ CodeO p q) : Tabs T (upd H p o) := fun q hq => by
  obtain ⟨ps, h1, h2, h3⟩ := t q hq
  refine ⟨ps, ?_, h2, fun pos cv z => ?_⟩
  · rw [upd_ne]
    · exact h1
    · rintro rfl
      rw [hp] at h1
      exact hu ps (Option.some.inj h1)
  · obtain ⟨c, e1, e2⟩ := h3 pos cv z
    refine ⟨c, e1, ?_⟩
    rw [upd_ne]
    · exact e2
    · rintro rfl
      rw [hp] at e2
      exact hc _ (Option.some.inj e2)
theorem same_upd {H : Hp} {p : Addr} {o : HO} (hp : H p = none) : Same H (upd H p o) := fun b u e => by
  rw [upd_ne (ne_of_none e hp)]
  exact e
/-- nothing changed but new things: a new list is answered -/
theorem Post.still {cs : Cs} {T : List (Addr × Str)} {H H1 : Hp} {ℓ : Lay} {s : Kg59.State} {hist : Hist} {ans : List Int} {Q : VK} (h : Post cs T H ℓ s hist s ans Q) (R : Rep cs H ℓ s hist) (J : Bm.Ok s hist) (e : ExtN H H1) (t : Tabs T H1) {p : Addr} (hp : H1 p = none) :
    Q (.ref p) (upd H1 p (.lst (ans.map V.int))) := by
  have R1 := R.ext e
  have e2 : ExtN H (upd H1 p (.lst (ans.map V.int))) := e.trans (ExtN.of (same_upd hp))
  exact h _ p ℓ hist rfl (R1.same (same_upd hp)) J (tabs_upd t hp) (Frame.ext e2) (fun b o z n _ => ne_of_none (e b o z n) hp) (R1.new hp) upd_same
/-- the same, where the list was new at H1 and is filled at H2 -/
theorem Post.filled {cs : Cs} {T : List (Addr × Str)} {H H1 H2 : Hp} {ℓ : Lay} {s : Kg59.State} {hist : Hist} {ans : List Int} {Q : VK} (h : Post cs T H ℓ s hist s ans Q) (R : Rep cs H ℓ s hist) (J : Bm.Ok s hist) (e : ExtN H H1) (t : Tabs T H2) {p : Addr} (hp : H1 p = none) (k : Same H1 H2) (hq : H2 p = some (.lst (ans.map V.int))) :
    Q (.ref p) H2 := by
  have R1 := R.ext e
  have e2 : ExtN H H2 := e.trans (ExtN.of k)
  exact h _ p ℓ hist rfl (R1.same k) J t (Frame.ext e2) (fun b o z n _ => ne_of_none (e b o z n) hp) (R1.new hp) hq
end Bc
namespace Bc
open PySem PySem.Spec PyProof.Rows L2 LamX

/-- what the top has written of the classes and the constants; no built-in's name is bound -/
structure Txt (K : PySem.W.Frag) (mg : Str → Option Value) (cs : Cs) : Prop where
  cT : Cls K cs.T
  cR : Cls K cs.R
  cC : Cls K cs.C
  tW : NoAttr K cs.T "weight"
  tG : NoAttr K cs.T "good"
  tU : NoAttr K cs.T "turn"
  rW : NoAttr K cs.R "wanted"
  rC : NoAttr K cs.R "changes"
  rA : NoAttr K cs.R "attempts"
  cTm : NoAttr K cs.C "teams"
  cB : NoAttr K cs.C "has_begun"
  cL : NoAttr K cs.C "lift"
  cBar : NoAttr K cs.C "bar"
  cH : NoAttr K cs.C "history"
  cRs : NoAttr K cs.C "records"
  gLifts : ∃ t, mg "LIFTS" = some (.int 2 t)
  gAtt : ∃ t, mg "ATTEMPTS_IN_A_LIFT" = some (.int 3 t)
  gNot : ∃ t, mg "NOT_GOOD" = some (.int 0 t)
  gGood : ∃ t, mg "GOOD" = some (.int 1 t)
  gPass : ∃ t, mg "PASSED_BY" = some (.int 2 t)
  gMost : ∃ t, mg "MOST_LIFTERS" = some (.int 24 t)
  gTeam : ∃ t, mg "HIGHEST_TEAM" = some (.int 20 t)
  gHeavy : ∃ t, mg "HEAVIEST" = some (.int 500 t)
  gChg : ∃ t, mg "MOST_CHANGES" = some (.int 2 t)
  gBoth : ∃ t, mg "BOTH" = some (.int 2 t)
  len : mg "len" = none
  range : mg "range" = none
  srt : mg "sorted" = none
  list : mg "list" = none
  all : mg "all" = none
  any : mg "any" = none
  max : mg "max" = none
  enum : mg "enumerate" = none
theorem pe_gi {X : Cx} {x : Str} {n : Int} {pos : Pos} (h : ∃ t, X.mg x = some (.int n t)) (hg : Gl X x := by rfl) (hd : (x == ("__debug__" : Str)) = false := by decide) : PE X (.Name x pos) (tC (.int n)) := by
  obtain ⟨t, h⟩ := h
  exact pe_glob hg h ⟨t, rfl⟩ hd

section
variable {P : Program} {w : World} {K : PySem.W.Frag} {mg : Str → Option Value} {base : Heap} {cs : Cs}

/-! ### is_team, is_weight, worth -/
abbrev sTeam : Stmt := top 25
abbrev sWeight : Stmt := top 26
abbrev sWorth : Stmt := top 43
def spTeam : Sp := fun vs H Q _ => ∃ z : Int, vs = [.int z] ∧ Q (.bl (Kg59.within z 0 20)) H
def spWeight : Sp := fun vs H Q _ => ∃ z : Int, vs = [.int z] ∧ Q (.bl (Kg59.within z 1 500)) H
def spWorth : Sp := fun vs H Q _ => ∃ n : Nat, n ≤ 24 ∧ vs = [.int ((1 : Int) + (n : Nat))] ∧ Q (.int (Kg59.pointsOf n : Nat)) H
theorem scTeam : FnScope ["team"] ["team"] (defScope sTeam) := ⟨rfl, rfl, rfl, by decide +kernel, rfl, by decide +kernel, by decide +kernel⟩
theorem scWeight : FnScope ["weight"] ["weight"] (defScope sWeight) := ⟨rfl, rfl, rfl, by decide +kernel, rfl, by decide +kernel, by decide +kernel⟩
theorem scWorth : FnScope ["place"] ["place"] (defScope sWorth) := ⟨rfl, rfl, rfl, by decide +kernel, rfl, by decide +kernel, by decide +kernel⟩
theorem ok_team {f : Addr} {fd : FuncData} (F : Fun K "is_team" "is_team" sTeam f fd) (T : Txt K mg cs) : FnOk P w K mg base CX0 1 f fd ["team"] spTeam := by
  refine F.ok scTeam (fun vs H Q E h => ?_) (fun cdv A outer s H vs Q E hr h => ?_)
  · obtain ⟨z, rfl, _⟩ := h
    rfl
  · obtain ⟨z, rfl, k⟩ := h
    refine ⟨_, pss_one (ps_ret (pe_chain op_le op_le pe_int (pv 0) (pe_gi T.gTeam))), ?_⟩
    refine ⟨_, rfl, _, _, rfl, rfl, _, rfl, ?_⟩
    unfold Kg59.within at k
    cases e : decide (0 ≤ z) with
    | false =>
      rw [e] at k
      exact iteF k
    | true =>
      rw [e] at k
      exact iteT ⟨_, _, rfl, rfl, k⟩
theorem ok_weight {f : Addr} {fd : FuncData} (F : Fun K "is_weight" "is_weight" sWeight f fd) (T : Txt K mg cs) : FnOk P w K mg base CX0 1 f fd ["weight"] spWeight := by
  refine F.ok scWeight (fun vs H Q E h => ?_) (fun cdv A outer s H vs Q E hr h => ?_)
  · obtain ⟨z, rfl, _⟩ := h
    rfl
  · obtain ⟨z, rfl, k⟩ := h
    refine ⟨_, pss_one (ps_ret (pe_chain op_le op_le pe_int (pv 0) (pe_gi T.gHeavy))), ?_⟩
    refine ⟨_, rfl, _, _, rfl, rfl, _, rfl, ?_⟩
    unfold Kg59.within at k
    cases e : decide (1 ≤ z) with
    | false =>
      rw [e] at k
      exact iteF k
    | true =>
      rw [e] at k
      exact iteT ⟨_, _, rfl, rfl, k⟩
theorem ok_worth {f : Addr} {fd : FuncData} (F : Fun K "worth" "worth" sWorth f fd) : FnOk P w K mg base CX0 1 f fd ["place"] spWorth := by
  refine F.ok scWorth (fun vs H Q E h => ?_) (fun cdv A outer s H vs Q E hr h => ?_)
  · obtain ⟨z, _, rfl, _⟩ := h
    rfl
  · obtain ⟨n, hn, rfl, k⟩ := h
    refine ⟨_, pss_cons (ps_if (pt_cmpR op_eq (pv 0) pe_int (nomark _)) (pss_one (ps_ret pe_int)) pss_nil)
      (pss_cons (ps_if (pt_cmpR op_eq (pv 0) pe_int (nomark _)) (pss_one (ps_ret pe_int)) pss_nil)
      (pss_one (ps_ret (pe_op op_sub pe_int (pv 0))))), ?_⟩
    unfold Kg59.pointsOf at k
    refine ⟨_, rfl, rfl, _, rfl, ite2 (fun e => ?_) fun e => ⟨_, rfl, rfl, _, rfl, ite2 (fun e2 => ?_) fun e2 => ⟨_, rfl, _, _, rfl, rfl, ?_⟩⟩⟩
    · rw [decide_eq_true_eq, V.int.injEq] at e
      rw [if_pos (by omega)] at k
      exact k
    · rw [decide_eq_true_eq, V.int.injEq] at e e2
      rw [if_neg (by omega), if_pos (by omega)] at k
      exact k
    · rw [decide_eq_true_eq, V.int.injEq] at e e2
      rw [if_neg (by omega), if_neg (by omega)] at k
      have e3 : (26 : Int) - (1 + (n : Nat)) = ((25 - n : Nat) : Int) := by omega
      show Q (.int ((26 : Int) - (1 + (n : Nat)))) H
      rw [e3]
      exact k

/-! ### Attempt, Record -/
abbrev sAtt0 : Stmt := inClass (top 12) 0
abbrev sAsks : Stmt := inClass (top 12) 1
abbrev sRec0 : Stmt := inClass (top 13) 0
abbrev sLeft : Stmt := inClass (top 13) 1
theorem scAtt0 : FnScope ["self", "weight", "good", "turn"] ["self", "weight", "good", "turn"] (defScope sAtt0) := ⟨rfl, rfl, rfl, by decide +kernel, rfl, by decide +kernel, by decide +kernel⟩
theorem scAsks : FnScope ["self"] ["self"] (defScope sAsks) := ⟨rfl, rfl, rfl, by decide +kernel, rfl, by decide +kernel, by decide +kernel⟩
theorem scRec0 : FnScope ["self"] ["self"] (defScope sRec0) := ⟨rfl, rfl, rfl, by decide +kernel, rfl, by decide +kernel, by decide +kernel⟩
theorem scLeft : FnScope ["self"] ["self"] (defScope sLeft) := ⟨rfl, rfl, rfl, by decide +kernel, rfl, by decide +kernel, by decide +kernel⟩
def spAtt0 (cs : Cs) : Sp := fun vs H Q _ => ∃ (p dx : Addr) (n g u : Nat), vs = [.ref p, .int (n : Nat), .int (g : Nat), .int ((u + 1 : Nat) : Int)] ∧ H p = some (.ins cs.T dx []) ∧
  ∀ H' : Hp, H' p = some (.ins cs.T dx (attF ⟨n, g, u⟩)) → (∀ b, b ≠ p → H' b = H b) → Q .non H'
def spAsks (cs : Cs) : Sp := fun vs H Q _ => ∃ (p dx : Addr) (t : Kg59.Try), vs = [.ref p] ∧ H p = some (.ins cs.T dx (attF t)) ∧ Q (.int (Kg59.behind t : Nat)) H
def spRec0 (cs : Cs) : Sp := fun vs H Q _ => ∃ p dx : Addr, vs = [.ref p] ∧ H p = some (.ins cs.R dx []) ∧
  ∀ (H' : Hp) (al : Addr), H al = none → H' al = some (.lst []) → H' p = some (.ins cs.R dx (recF 0 0 al)) → (∀ b, b ≠ p → b ≠ al → H' b = H b) → Q .non H'
def spLeft (cs : Cs) : Sp := fun vs H Q _ => ∃ (p dx al : Addr) (n c : Nat) (xs : List V), vs = [.ref p] ∧ H p = some (.ins cs.R dx (recF n c al)) ∧ H al = some (.lst xs) ∧ Q (.bl (decide (xs.length < 3))) H
theorem ok_att0 {f : Addr} {fd : FuncData} (F : Fun K "__init__" "Attempt.__init__" sAtt0 f fd) (T : Txt K mg cs) : FnOk P w K mg base CX0 1 f fd ["self", "weight", "good", "turn"] (spAtt0 cs) := by
  refine F.ok scAtt0 (fun vs H Q E h => ?_) (fun cdv A outer s H vs Q E hr h => ?_)
  · obtain ⟨_, _, _, _, _, rfl, _⟩ := h
    rfl
  · obtain ⟨p, dx, n, g, u, rfl, hp, k⟩ := h
    refine ⟨_, pss_cons (ps_fld (pv 0) (pv 1) rfl) (pss_cons (ps_fld (pv 0) (pv 2) rfl) (pss_one (ps_fld (pv 0) (pv 3) rfl))), ?_⟩
    refine ⟨_, rfl, _, rfl, p, cs.T, dx, _, rfl, hp, T.cT, T.tW, (by show 0 < 1000; decide), ?_⟩
    refine ⟨_, rfl, _, rfl, p, cs.T, dx, _, rfl, upd_same, T.cT, T.tG, (by show 1 < 1000; decide), ?_⟩
    refine ⟨_, rfl, _, rfl, p, cs.T, dx, _, rfl, upd_same, T.cT, T.tU, (by show 2 < 1000; decide), ?_⟩
    exact k _ (Eq.trans upd_same (congrArg (fun q => some (HO.ins cs.T dx q)) (att_new n g u))) fun b hb => by
      rw [upd_ne hb, upd_ne hb, upd_ne hb]
theorem ok_asks {f : Addr} {fd : FuncData} (F : Fun K "asks_for" "Attempt.asks_for" sAsks f fd) (T : Txt K mg cs) : FnOk P w K mg base CX0 1 f fd ["self"] (spAsks cs) := by
  refine F.ok scAsks (fun vs H Q E h => ?_) (fun cdv A outer s H vs Q E hr h => ?_)
  · obtain ⟨_, _, _, rfl, _⟩ := h
    rfl
  · obtain ⟨p, dx, t, rfl, hp, k⟩ := h
    refine ⟨_, pss_one (ps_ret (pe_ifExp (pt_cmpR op_eq (pe_fld (pv 0) rfl) (pe_gi T.gGood) (nomark _)) (pe_op op_add (pe_fld (pv 0) rfl) pe_int) (pe_fld (pv 0) rfl))), ?_⟩
    refine ⟨_, rfl, p, cs.T, dx, _, _, rfl, hp, T.cT, T.tG, att_good, rfl, _, rfl, ite2 (fun e => ?_) fun e => ?_⟩
    · rw [decide_eq_true_eq, V.int.injEq] at e
      refine ⟨_, rfl, p, cs.T, dx, _, _, rfl, hp, T.cT, T.tW, att_weight, _, _, rfl, rfl, ?_⟩
      unfold Kg59.behind at k
      rw [if_pos (by omega)] at k
      exact k
    · rw [decide_eq_true_eq, V.int.injEq] at e
      refine ⟨_, rfl, p, cs.T, dx, _, _, rfl, hp, T.cT, T.tW, att_weight, ?_⟩
      unfold Kg59.behind at k
      rw [if_neg (by omega)] at k
      exact k
theorem ok_rec0 {f : Addr} {fd : FuncData} (F : Fun K "__init__" "Record.__init__" sRec0 f fd) (T : Txt K mg cs) : FnOk P w K mg base CX0 1 f fd ["self"] (spRec0 cs) := by
  refine F.ok scRec0 (fun vs H Q E h => ?_) (fun cdv A outer s H vs Q E hr h => ?_)
  · obtain ⟨_, _, rfl, _⟩ := h
    rfl
  · obtain ⟨p, dx, rfl, hp, k⟩ := h
    refine ⟨_, pss_cons (ps_fld (pv 0) pe_int rfl) (pss_cons (ps_fld (pv 0) pe_int rfl) (pss_one (ps_fld (pv 0) (pe_lst pa_nil) rfl))), ?_⟩
    refine ⟨_, rfl, p, cs.R, dx, _, rfl, hp, T.cR, T.rW, (by show 0 < 1000; decide), ?_⟩
    refine ⟨_, rfl, p, cs.R, dx, _, rfl, upd_same, T.cR, T.rC, (by show 1 < 1000; decide), ?_⟩
    refine ⟨Nat.zero_le _, fun al hal => ⟨_, rfl, p, cs.R, dx, _, rfl, (upd_ne (ne_of_none upd_same hal)).trans upd_same, T.cR, T.rA, (by show 2 < 1000; decide), ?_⟩⟩
    have n1 : al ≠ p := fun z => by
      rw [z, upd_same] at hal
      cases hal
    refine k _ al ?_ ?_ (Eq.trans upd_same (congrArg (fun q => some (HO.ins cs.R dx q)) rec_new)) fun b hb hb2 => ?_
    · rw [upd_ne n1, upd_ne n1] at hal
      exact hal
    · rw [upd_ne n1]
      exact upd_same
    · rw [upd_ne hb, upd_ne hb2, upd_ne hb, upd_ne hb]
theorem ok_left {f : Addr} {fd : FuncData} (F : Fun K "is_left" "Record.is_left" sLeft f fd) (T : Txt K mg cs) : FnOk P w K mg base CX0 1 f fd ["self"] (spLeft cs) := by
  refine F.ok scLeft (fun vs H Q E h => ?_) (fun cdv A outer s H vs Q E hr h => ?_)
  · obtain ⟨_, _, _, _, _, _, rfl, _⟩ := h
    rfl
  · obtain ⟨p, dx, al, n, c, xs, rfl, hp, ha, k⟩ := h
    refine ⟨_, pss_one (ps_ret (pe_cmpR op_lt (pe_callB call_len_seq (by rfl) T.len PySem.boot_len (pa_cons (pe_fld (pv 0) rfl) pa_nil)) (pe_gi T.gAtt) (nomark _))), ?_⟩
    refine ⟨_, rfl, p, cs.R, dx, _, _, rfl, hp, T.cR, T.rA, rec_attempts, al, xs, rfl, .inl (SqL.of ha), _, _, rfl, rfl, ?_⟩
    have e : decide ((xs.length : Int) < 3) = decide (xs.length < 3) := by
      rw [decide_eq_decide]
      omega
    show Q (.bl (decide ((xs.length : Int) < 3))) H
    rw [e]
    exact k
end
end Bc
namespace Bc
open PySem PySem.Spec PyProof.Rows L2 LamX

section
variable {P : Program} {w : World} {K : PySem.W.Frag} {mg : Str → Option Value} {base : Heap} {cs : Cs}

/-! ### Contest: what is asked of it -/
abbrev sHas : Stmt := inClass (top 15) 2
abbrev sOn : Stmt := inClass (top 15) 3
abbrev sRecord : Stmt := inClass (top 15) 4
abbrev sWho : Stmt := inClass (top 15) 5
abbrev sNext : Stmt := inClass (top 15) 6
theorem scHas : FnScope ["self", "lifter"] ["self", "lifter"] (defScope sHas) := ⟨rfl, rfl, rfl, by decide +kernel, rfl, by decide +kernel, by decide +kernel⟩
theorem scOn : FnScope ["self"] ["self"] (defScope sOn) := ⟨rfl, rfl, rfl, by decide +kernel, rfl, by decide +kernel, by decide +kernel⟩
theorem scRecord : FnScope ["self", "lifter"] ["self", "lifter"] (defScope sRecord) := ⟨rfl, rfl, rfl, by decide +kernel, rfl, by decide +kernel, by decide +kernel⟩
theorem scWho : FnScope ["self"] ["self"] (defScope sWho) := ⟨rfl, rfl, rfl, by decide +kernel, rfl, by decide +kernel, by decide +kernel⟩
theorem scNext : FnScope ["self"] ["self"] (defScope sNext) := ⟨rfl, rfl, rfl, by decide +kernel, rfl, by decide +kernel, by decide +kernel⟩
def spHas (cs : Cs) : Sp := fun vs H Q _ => ∃ (ℓ : Lay) (s : Kg59.State) (hist : Hist) (z : Int), vs = [.ref ℓ.c, .int z] ∧ Rep cs H ℓ s hist ∧ Q (.bl (Kg59.isLifter s z)) H
def spOn (cs : Cs) : Sp := fun vs H Q _ => ∃ (ℓ : Lay) (s : Kg59.State) (hist : Hist), vs = [.ref ℓ.c] ∧ Rep cs H ℓ s hist ∧ Q (.bl (s.begun && decide (s.lift < 2))) H
def spRecord (cs : Cs) : Sp := fun vs H Q _ => ∃ (ℓ : Lay) (s : Kg59.State) (hist : Hist) (i : Nat), vs = [.ref ℓ.c, .int (i : Nat)] ∧ Rep cs H ℓ s hist ∧ i < s.lifters.length ∧ s.lift < 2 ∧ Q (.ref (ℓ.f (.rc s.lift i))) H
def lastV (s : Kg59.State) : V := match s.last with
  | some i => .int (i : Nat)
  | none => .non
def spWho (cs : Cs) : Sp := fun vs H Q _ => ∃ (ℓ : Lay) (s : Kg59.State) (hist : Hist), vs = [.ref ℓ.c] ∧ Rep cs H ℓ s hist ∧ Bm.Ok s hist ∧ Q (lastV s) H
def spNext (cs : Cs) : Sp := fun vs H Q _ => ∃ (ℓ : Lay) (s : Kg59.State), vs = [.ref ℓ.c] ∧ H ℓ.c = some (conO cs ℓ s) ∧
  ∀ H' : Hp, H' ℓ.c = some (conO cs ℓ { s with lift := s.lift + 1, bar := 0 }) → (∀ b, b ≠ ℓ.c → H' b = H b) → Q .non H'
theorem ok_has {f : Addr} {fd : FuncData} (F : Fun K "has_lifter" "Contest.has_lifter" sHas f fd) (T : Txt K mg cs) : FnOk P w K mg base CX0 1 f fd ["self", "lifter"] (spHas cs) := by
  refine F.ok scHas (fun vs H Q E h => ?_) (fun cdv A outer s H vs Q E hr h => ?_)
  · obtain ⟨_, _, _, _, rfl, _⟩ := h
    rfl
  · obtain ⟨ℓ, st, hist, z, rfl, R, k⟩ := h
    refine ⟨_, pss_one (ps_ret (pe_chain op_le op_lt pe_int (pv 1) (pe_callB call_len_seq (by rfl) T.len PySem.boot_len (pa_cons (pe_fld (pv 0) rfl) pa_nil)))), ?_⟩
    refine ⟨_, rfl, _, _, rfl, rfl, _, rfl, ?_⟩
    unfold Kg59.isLifter at k
    cases e : decide (0 ≤ z) with
    | false =>
      rw [e] at k
      exact iteF k
    | true =>
      rw [e] at k
      refine iteT ⟨_, rfl, ℓ.c, cs.C, ℓ.cd, _, _, rfl, R.con, T.cC, T.cTm, con_teams, ℓ.f .tm, _, rfl, .inl (SqL.of (R.ob .tm trivial)), _, _, rfl, rfl, ?_⟩
      show Q (.bl (decide (z < ((st.lifters.map fun l => V.int (l.team : Nat)).length : Nat)))) H
      rw [List.length_map]
      exact k
theorem ok_on {f : Addr} {fd : FuncData} (F : Fun K "is_on" "Contest.is_on" sOn f fd) (T : Txt K mg cs) : FnOk P w K mg base CX0 1 f fd ["self"] (spOn cs) := by
  refine F.ok scOn (fun vs H Q E h => ?_) (fun cdv A outer s H vs Q E hr h => ?_)
  · obtain ⟨_, _, _, rfl, _⟩ := h
    rfl
  · obtain ⟨ℓ, st, hist, rfl, R, k⟩ := h
    refine ⟨_, pss_one (ps_ret (pe_and (pe_fld (pv 0) rfl) (pe_one (pe_cmpR op_lt (pe_fld (pv 0) rfl) (pe_gi T.gLifts) (nomark _))))), ?_⟩
    refine ⟨_, rfl, ℓ.c, cs.C, ℓ.cd, _, _, rfl, R.con, T.cC, T.cB, con_begun, _, rfl, ?_⟩
    cases e : st.begun with
    | false =>
      rw [e] at k
      exact iteF k
    | true =>
      rw [e] at k
      refine iteT ⟨_, rfl, ℓ.c, cs.C, ℓ.cd, _, _, rfl, R.con, T.cC, T.cL, con_lift, _, _, rfl, rfl, ?_⟩
      show Q (.bl (decide ((st.lift : Int) < 2))) H
      have e2 : decide ((st.lift : Int) < 2) = decide (st.lift < 2) := by
        rw [decide_eq_decide]
        omega
      rw [e2]
      exact k
theorem two_at (ℓ : Lay) {k : Nat} (hk : k < 2) : ([.ref (ℓ.f (.ls 0)), .ref (ℓ.f (.ls 1))] : List V)[k]? = some (.ref (ℓ.f (.ls k))) := by
  have h : k = 0 ∨ k = 1 := by omega
  rcases h with rfl | rfl <;> rfl
theorem range_at {n i : Nat} (g : Nat → V) (h : i < n) : ((List.range n).map g)[i]? = some (g i) := by
  simp [h]
theorem ok_record {f : Addr} {fd : FuncData} (F : Fun K "record" "Contest.record" sRecord f fd) (T : Txt K mg cs) : FnOk P w K mg base CX0 1 f fd ["self", "lifter"] (spRecord cs) := by
  refine F.ok scRecord (fun vs H Q E h => ?_) (fun cdv A outer s H vs Q E hr h => ?_)
  · obtain ⟨_, _, _, _, rfl, _⟩ := h
    rfl
  · obtain ⟨ℓ, st, hist, i, rfl, R, hi, hl, k⟩ := h
    refine ⟨_, pss_one (ps_ret (pe_ix ix_list (pe_ix ix_list (pe_fld (pv 0) rfl) (pe_fld (pv 0) rfl) (fun _ _ => rfl)) (pv 1) (fun _ _ => rfl))), ?_⟩
    refine ⟨_, rfl, ℓ.c, cs.C, ℓ.cd, _, _, rfl, R.con, T.cC, T.cRs, con_records, _, rfl, ℓ.c, cs.C, ℓ.cd, _, _, rfl, R.con, T.cC, T.cL, con_lift, ?_⟩
    refine ⟨ℓ.f .rs, _, _, _, rfl, rfl, SqL.of (R.ob .rs trivial), atI_nat (two_at ℓ hl), ?_⟩
    refine ⟨_, rfl, ℓ.f (.ls st.lift), _, _, _, rfl, rfl, SqL.of (R.ob (.ls st.lift) hl), atI_nat (range_at _ hi), k⟩
theorem hist_last {ℓ : Lay} {h : Hist} {q : Nat × Nat} : ((List.range (h ++ [q]).length).map fun p => V.ref (ℓ.f (.ht p))) = ((List.range h.length).map fun p => V.ref (ℓ.f (.ht p))) ++ [.ref (ℓ.f (.ht h.length))] := by
  rw [List.length_append, List.length_singleton, List.range_succ, List.map_append]
  rfl
theorem hist_get {h : Hist} {q : Nat × Nat} : (h ++ [q]).getD h.length (0, 0) = q := by
  rw [List.getD_eq_getElem?_getD]
  simp
theorem obj_ht (cs : Cs) (ℓ : Lay) (s : Kg59.State) (hist : Hist) (p : Nat) : obj cs ℓ s hist (.ht p) = .tup [.int ((hist.getD p (0, 0)).1 : Nat), .int ((hist.getD p (0, 0)).2 : Nat)] := rfl
theorem ok_who {f : Addr} {fd : FuncData} (F : Fun K "who_tried_last" "Contest.who_tried_last" sWho f fd) (T : Txt K mg cs) : FnOk P w K mg base CX0 1 f fd ["self"] (spWho cs) := by
  refine F.ok scWho (fun vs H Q E h => ?_) (fun cdv A outer s H vs Q E hr h => ?_)
  · obtain ⟨_, _, _, rfl, _⟩ := h
    rfl
  · obtain ⟨ℓ, st, hist, rfl, R, J, k⟩ := h
    refine ⟨_, pss_cons (ps_if (PW.pt (pw_or (pt_not (pt_truth (pe_fld (pv 0) rfl) (by intro _; rfl))) (pw_or1 (pt_cmpR op_ne (pe_ix ix_tup (pe_ix ix_list (pe_fld (pv 0) rfl) (pe_un un_neg pe_int) (fun _ _ => rfl)) pe_int (fun _ _ => rfl)) (pe_fld (pv 0) rfl) (nomark _)))))
        (pss_one (ps_ret pe_non)) pss_nil)
      (pss_one (ps_ret (pe_ix ix_tup (pe_ix ix_list (pe_fld (pv 0) rfl) (pe_un un_neg pe_int) (fun _ _ => rfl)) pe_int (fun _ _ => rfl)))), ?_⟩
    have hs := R.ob .hs trivial
    have hl := J.last
    refine ⟨_, rfl, ℓ.c, cs.C, ℓ.cd, _, _, rfl, R.con, T.cC, T.cH, con_history, _, .inl ⟨_, SqL.of hs, rfl⟩, ?_⟩
    rcases List.eq_nil_or_concat hist with rfl | ⟨h0, ⟨i, kk⟩, rfl⟩
    · refine iteT (iteT ?_)
      have e : lastV st = .non := by
        unfold lastV
        rw [hl]
        rfl
      rw [e] at k
      exact k
    · rw [List.concat_eq_append] at hs hl R
      have ne : (!((List.range (h0 ++ [(i, kk)]).length).map fun p => V.ref (ℓ.f (.ht p))).isEmpty) = true := by simp
      have hn : (!(!((List.range (h0.concat (i, kk)).length).map fun p => V.ref (ℓ.f (.ht p))).isEmpty)) = false := by simp
      rw [show obj cs ℓ st (h0 ++ [(i, kk)]) .hs = HO.lst (((List.range h0.length).map fun p => V.ref (ℓ.f (.ht p))) ++ [.ref (ℓ.f (.ht h0.length))]) from congrArg HO.lst hist_last] at hs
      have ht := R.ob (.ht h0.length) (by show h0.length < (h0 ++ [(i, kk)]).length; simp)
      rw [obj_ht, hist_get] at ht
      rw [hn]
      refine iteF ?_
      refine ⟨_, rfl, ℓ.c, cs.C, ℓ.cd, _, _, rfl, R.con, T.cC, T.cH, con_history, _, rfl, ℓ.f .hs, _, _, _, rfl, rfl, SqL.of hs, atI_last _ _, ?_⟩
      refine ⟨ℓ.f (.ht h0.length), _, _, _, rfl, rfl, SqT.of ht, atI_nat (j := 1) rfl, _, rfl, ℓ.c, cs.C, ℓ.cd, _, _, rfl, R.con, T.cC, T.cL, con_lift, rfl, _, rfl, ?_⟩
      simp only [List.getLast?_append, List.getLast?_singleton, Option.some_or] at hl
      by_cases e : kk = st.lift
      · rw [if_pos e] at hl
        have e2 : (!decide (V.int (kk : Nat) = V.int (st.lift : Nat))) = false := by rw [e]; simp
        rw [e2]
        refine iteF ⟨_, rfl, ℓ.c, cs.C, ℓ.cd, _, _, rfl, R.con, T.cC, T.cH, con_history, _, rfl, ℓ.f .hs, _, _, _, rfl, rfl, SqL.of hs, atI_last _ _, ?_⟩
        refine ⟨ℓ.f (.ht h0.length), _, _, _, rfl, rfl, SqT.of ht, atI_nat (j := 0) rfl, ?_⟩
        have e3 : lastV st = .int (i : Nat) := by
          unfold lastV
          rw [hl]
        rw [e3] at k
        exact k
      · rw [if_neg e] at hl
        have e2 : (!decide (V.int (kk : Nat) = V.int (st.lift : Nat))) = true := by
          simp only [Bool.not_eq_true', decide_eq_false_iff_not, V.int.injEq]
          omega
        rw [e2]
        refine iteT ?_
        have e3 : lastV st = .non := by
          unfold lastV
          rw [hl]
        rw [e3] at k
        exact k
theorem ok_next {f : Addr} {fd : FuncData} (F : Fun K "next_lift" "Contest.next_lift" sNext f fd) (T : Txt K mg cs) : FnOk P w K mg base CX0 1 f fd ["self"] (spNext cs) := by
  refine F.ok scNext (fun vs H Q E h => ?_) (fun cdv A outer s H vs Q E hr h => ?_)
  · obtain ⟨_, _, rfl, _⟩ := h
    rfl
  · obtain ⟨ℓ, st, rfl, hc, k⟩ := h
    refine ⟨_, pss_cons (ps_fldaug (pv 0) pe_int in_add) (pss_one (ps_fld (pv 0) pe_int rfl)), ?_⟩
    refine ⟨_, rfl, ℓ.c, cs.C, ℓ.cd, _, _, rfl, hc, T.cC, T.cL, con_lift, _, _, rfl, rfl, _, _, hc, (by show 6 < 1000; decide), ?_⟩
    refine ⟨_, rfl, ℓ.c, cs.C, ℓ.cd, _, rfl, upd_same, T.cC, T.cBar, ?_, ?_⟩
    · have e : putF "lift" (.int ((st.lift : Int) + 1)) (conF (ℓ.f .tm) st.begun st.lift st.bar (ℓ.f .hs) (ℓ.f .rs)) = conF (ℓ.f .tm) st.begun (st.lift + 1) st.bar (ℓ.f .hs) (ℓ.f .rs) := con_put_lift (st.lift + 1)
      show (putF "lift" (.int ((st.lift : Int) + 1)) (conF (ℓ.f .tm) st.begun st.lift st.bar (ℓ.f .hs) (ℓ.f .rs))).length < 1000
      rw [e]
      show 6 < 1000
      decide
    · have e : putF "bar" (.int 0) (putF "lift" (.int ((st.lift : Int) + 1)) (conF (ℓ.f .tm) st.begun st.lift st.bar (ℓ.f .hs) (ℓ.f .rs))) = conF (ℓ.f .tm) st.begun (st.lift + 1) 0 (ℓ.f .hs) (ℓ.f .rs) :=
        (congrArg (putF "bar" (.int 0)) (con_put_lift (st.lift + 1))).trans (con_put_bar 0)
      refine k _ (Eq.trans upd_same (congrArg (fun q => some (HO.ins cs.C ℓ.cd q)) e)) fun b hb => ?_
      rw [upd_ne hb, upd_ne hb]
end
end Bc
namespace Bc
open PySem PySem.Spec PyProof.Rows L2 LamX

section
variable {P : Program} {w : World} {K : PySem.W.Frag} {mg : Str → Option Value} {base : Heap} {cs : Cs}

/-! ### blank_records -/
abbrev sBlank : Stmt := top 14
theorem scBlank : FnScope ["teams", "team"] ["teams"] (defScope sBlank) := ⟨rfl, rfl, rfl, by decide +kernel, rfl, by decide +kernel, by decide +kernel⟩
theorem range_more (i : Nat) (r : Nat → Addr) (y : Addr) : ((List.range (i + 1)).map fun j => V.ref (if j = i then y else r j)) = ((List.range i).map fun j => V.ref (r j)) ++ [.ref y] := by
  rw [List.range_succ, List.map_append]
  have e : ((List.range i).map fun j => V.ref (if j = i then y else r j)) = (List.range i).map fun j => V.ref (r j) := by
    apply List.map_congr_left
    intro j hj
    have := List.mem_range.mp hj
    rw [if_neg (by omega)]
  rw [e]
  simp
theorem tYes_in {σ : L2.St} {H : Hp} {A B : Hp → Prop} (h : A H) : tYes σ H (fun b H3 => if b = true then A H3 else B H3) := by
  show if true = true then A H else B H
  exact iteT h
/-- n blank records from H on, told by r, a, d -/
structure Blank (cs : Cs) (H H' : Hp) (n : Nat) (r a d : Nat → Addr) : Prop where
  r0 : ∀ i, i < n → H (r i) = none
  a0 : ∀ i, i < n → H (a i) = none
  r1 : ∀ i, i < n → H' (r i) = some (.ins cs.R (d i) (recF 0 0 (a i)))
  a1 : ∀ i, i < n → H' (a i) = some (.lst [])
  ri : ∀ i j, i < n → j < n → r i = r j → i = j
  ai : ∀ i j, i < n → j < n → a i = a j → i = j
def spBlank (cs : Cs) (K : PySem.W.Frag) : Sp := fun vs H Q _ => ∃ (l : Addr) (xs : List V), vs = [.ref l] ∧ SqL K H l xs ∧ xs.length ≤ 1000 ∧
  ∀ (H' : Hp) (p : Addr) (r a d : Nat → Addr), Same H H' → H p = none → H' p = some (.lst ((List.range xs.length).map fun i => .ref (r i))) → Blank cs H H' xs.length r a d → (∀ i, i < xs.length → a i ≠ p) → Q (.ref p) H'
theorem Blank.same {cs : Cs} {H H' H2 : Hp} {n : Nat} {r a d : Nat → Addr} (b : Blank cs H H' n r a d) (s : Same H' H2) : Blank cs H H2 n r a d :=
  ⟨b.r0, b.a0, fun i h => s _ _ (b.r1 i h), fun i h => s _ _ (b.a1 i h), b.ri, b.ai⟩
theorem ok_blank {f : Addr} {fd : FuncData} (F : Fun K "blank_records" "blank_records" sBlank f fd) (D : MakeOk P w K mg base 1 "Record" cs.R ["self"] (spRec0 cs)) : FnOk P w K mg base CX0 3 f fd ["teams"] (spBlank cs K) := by
  refine F.ok scBlank (fun vs H Q E h => ?_) (fun cdv A outer s H vs Q E hr h => ?_)
  · obtain ⟨_, _, rfl, _⟩ := h
    rfl
  · obtain ⟨l, xs, rfl, hl, hn, k⟩ := h
    refine ⟨_, pss_one (ps_ret (pe_lc (own := [("team", 1)]) (g := gName 1) (tt := tYes) rfl scBlank.nd (pi_list (pv 0)) (blkOk_by (N := ["teams", "team"]) (sc := defScope sBlank) (by decide +kernel))
      (fun _ _ _ _ _ => pg_name (i := 1) scBlank.nd rfl (Or.inl rfl)) (fun _ _ _ _ _ => pts_nil) (fun _ _ _ _ _ => pe_mk0 (j := 2) D hr))), ?_⟩
    refine ⟨_, rfl, l, rfl, ⟨_, hl⟩, fun D0 hD => lc_list (K := K) (a := l) (xs := xs) (fun i H1 => Same H H1 ∧ ∃ r a d : Nat → Addr, H1 D0 = some (.lst ((List.range i).map fun j => .ref (r j))) ∧ Blank cs H H1 i r a d ∧ ∀ j, j < i → a j ≠ D0) ?_ ?_ ?_ ?_⟩
    · exact ⟨same_upd hD, fun _ => 0, fun _ => 0, fun _ => 0, upd_same, ⟨fun i h => absurd h (Nat.not_lt_zero _), fun i h => absurd h (Nat.not_lt_zero _), fun i h => absurd h (Nat.not_lt_zero _), fun i h => absurd h (Nat.not_lt_zero _), fun i j h => absurd h (Nat.not_lt_zero _), fun i j h => absurd h (Nat.not_lt_zero _)⟩, fun j h => absurd h (Nat.not_lt_zero _)⟩
    · intro i H1 _ h1
      exact h1.1.seq hl
    · intro i x H1 hx h1
      obtain ⟨s1, r, a, d, hD1, b, na⟩ := h1
      have hi : i < xs.length := (List.getElem?_eq_some_iff.mp hx).1
      refine ⟨rfl, tYes_in ?_⟩
      intro y dy ny nd ne
      refine ⟨y, dy, rfl, upd_same, fun H2 al nal hal hy stay => ⟨rfl, ?_⟩⟩
      have al1 : al ≠ y := fun z => by
        rw [z, upd_same] at nal
        cases nal
      have al2 : al ≠ dy := fun z => by
        rw [z, upd_ne ne, upd_same] at nal
        cases nal
      have al0 : H1 al = none := by
        rw [upd_ne al1, upd_ne al2] at nal
        exact nal
      have s2 : Same H1 H2 := fun c o e => by
        have c1 : c ≠ y := ne_of_none e ny
        have c2 : c ≠ dy := ne_of_none e nd
        rw [stay c c1 (ne_of_none e al0), upd_ne c1, upd_ne c2]
        exact e
      have hD2 := s2 _ _ hD1
      have nD : D0 ≠ y := ne_of_none hD1 ny
      have nDa : D0 ≠ al := ne_of_none hD1 al0
      refine ⟨_, hD2, by rw [List.length_map, List.length_range]; exact small1000 (by omega), ?_⟩
      have s3 : ∀ c o, H1 c = some o → c ≠ D0 → (upd H2 D0 (.lst (((List.range i).map fun j => V.ref (r j)) ++ [.ref y]))) c = some o := fun c o e hc => by
        rw [upd_ne hc]
        exact s2 _ _ e
      have old : ∀ c o, H c = some o → c ≠ D0 := fun c o e => ne_of_none e hD
      have ly : ∀ j, j < i → r j ≠ y := fun j hj => ne_of_none (b.r1 j hj) ny
      have la : ∀ j, j < i → a j ≠ al := fun j hj => ne_of_none (b.a1 j hj) al0
      refine ⟨fun c o e => s3 c o (s1 c o e) (old c o e), fun j => if j = i then y else r j, fun j => if j = i then al else a j, fun j => if j = i then dy else d j, ?_, ⟨fun j hj => ?_, fun j hj => ?_, fun j hj => ?_, fun j hj => ?_, fun j m hj hm e => ?_, fun j m hj hm e => ?_⟩, fun j hj => ?_⟩
      · rw [upd_same]
        exact congrArg (fun q => some (HO.lst q)) (range_more i r y).symm
      · show H (if j = i then y else r j) = none
        split
        · exact s1.free ny
        · exact b.r0 j (by omega)
      · show H (if j = i then al else a j) = none
        split
        · exact s1.free al0
        · exact b.a0 j (by omega)
      · show upd H2 D0 _ (if j = i then y else r j) = some (.ins cs.R (if j = i then dy else d j) (recF 0 0 (if j = i then al else a j)))
        split
        · rw [upd_ne nD.symm]
          exact hy
        · exact s3 _ _ (b.r1 j (by omega)) (ne_of (b.r1 j (by omega)) hD1 fun z => nomatch z)
      · show upd H2 D0 _ (if j = i then al else a j) = some (.lst [])
        split
        · rw [upd_ne nDa.symm]
          exact hal
        · exact s3 _ _ (b.a1 j (by omega)) (na j (by omega))
      · have e : (if j = i then y else r j) = (if m = i then y else r m) := e
        split at e <;> split at e
        · omega
        · exact absurd e.symm (ly m (by omega))
        · exact absurd e (ly j (by omega))
        · exact b.ri j m (by omega) (by omega) e
      · have e : (if j = i then al else a j) = (if m = i then al else a m) := e
        split at e <;> split at e
        · omega
        · exact absurd e.symm (la m (by omega))
        · exact absurd e (la j (by omega))
        · exact b.ai j m (by omega) (by omega) e
      · show (if j = i then al else a j) ≠ D0
        split
        · exact nDa.symm
        · exact na j (by omega)
    · intro H1 h1
      obtain ⟨s1, r, a, d, hD1, b, na⟩ := h1
      exact k H1 D0 r a d s1 hD hD1 b na
end
end Bc
namespace Bc
open PySem PySem.Spec PyProof.Rows L2 LamX

section
variable {P : Program} {w : World} {K : PySem.W.Frag} {mg : Str → Option Value} {base : Heap} {cs : Cs}

/-! ### Contest: renew, made -/
abbrev sCon0 : Stmt := inClass (top 15) 0
abbrev sRenew : Stmt := inClass (top 15) 1
theorem scCon0 : FnScope ["self"] ["self"] (defScope sCon0) := ⟨rfl, rfl, rfl, by decide +kernel, rfl, by decide +kernel, by decide +kernel⟩
theorem scRenew : FnScope ["self", "teams", "lift"] ["self", "teams"] (defScope sRenew) := ⟨rfl, rfl, rfl, by decide +kernel, rfl, by decide +kernel, by decide +kernel⟩
def SomeF (fs : List (Str × V)) : Prop := fs = [] ∨ ∃ tm b l bar hs rs, fs = conF tm b l bar hs rs
theorem con_build {fs : List (Str × V)} (h : SomeF fs) (tm hs rs : Addr) :
    putF "records" (.ref rs) (putF "history" (.ref hs) (putF "bar" (.int 0) (putF "lift" (.int 0) (putF "has_begun" (.bl false) (putF "teams" (.ref tm) fs))))) = conF tm false 0 0 hs rs := by
  rcases h with rfl | ⟨_, _, _, _, _, _, rfl⟩
  · have e1 : putF "teams" (.ref tm) [] = ([("teams", .ref tm)] : List (Str × V)) := rfl
    have e2 : putF "has_begun" (.bl false) ([("teams", .ref tm)] : List (Str × V)) = ([("teams", .ref tm), ("has_begun", .bl false)] : List (Str × V)) := by (repeat (first | exact put_here | rfl | refine (put_past (by decide +kernel)).trans (congrArg _ ?_)))
    have e3 : putF "lift" (.int 0) ([("teams", .ref tm), ("has_begun", .bl false)] : List (Str × V)) = ([("teams", .ref tm), ("has_begun", .bl false), ("lift", .int 0)] : List (Str × V)) := by (repeat (first | exact put_here | rfl | refine (put_past (by decide +kernel)).trans (congrArg _ ?_)))
    have e4 : putF "bar" (.int 0) ([("teams", .ref tm), ("has_begun", .bl false), ("lift", .int 0)] : List (Str × V)) = ([("teams", .ref tm), ("has_begun", .bl false), ("lift", .int 0), ("bar", .int 0)] : List (Str × V)) := by (repeat (first | exact put_here | rfl | refine (put_past (by decide +kernel)).trans (congrArg _ ?_)))
    have e5 : putF "history" (.ref hs) ([("teams", .ref tm), ("has_begun", .bl false), ("lift", .int 0), ("bar", .int 0)] : List (Str × V)) = ([("teams", .ref tm), ("has_begun", .bl false), ("lift", .int 0), ("bar", .int 0), ("history", .ref hs)] : List (Str × V)) := by (repeat (first | exact put_here | rfl | refine (put_past (by decide +kernel)).trans (congrArg _ ?_)))
    rw [e1, e2, e3, e4, e5]
    unfold conF
    repeat (first | exact put_here | rfl | refine (put_past (by decide +kernel)).trans (congrArg _ ?_))
  · have e1 : ∀ a b c d e g, putF "teams" (.ref tm) (conF a b c d e g) = conF tm b c d e g := fun _ _ _ _ _ _ => by unfold conF; (repeat (first | exact put_here | rfl | refine (put_past (by decide +kernel)).trans (congrArg _ ?_)))
    have e2 : ∀ a b c d e g, putF "has_begun" (.bl false) (conF a b c d e g) = conF a false c d e g := fun _ _ _ _ _ _ => by unfold conF; (repeat (first | exact put_here | rfl | refine (put_past (by decide +kernel)).trans (congrArg _ ?_)))
    have e3 : ∀ a b c d e g, putF "lift" (.int 0) (conF a b c d e g) = conF a b 0 d e g := fun _ _ _ _ _ _ => by unfold conF; (repeat (first | exact put_here | rfl | refine (put_past (by decide +kernel)).trans (congrArg _ ?_)))
    have e4 : ∀ a b c d e g, putF "bar" (.int 0) (conF a b c d e g) = conF a b c 0 e g := fun _ _ _ _ _ _ => by unfold conF; (repeat (first | exact put_here | rfl | refine (put_past (by decide +kernel)).trans (congrArg _ ?_)))
    have e5 : ∀ a b c d e g, putF "history" (.ref hs) (conF a b c d e g) = conF a b c d hs g := fun _ _ _ _ _ _ => by unfold conF; (repeat (first | exact put_here | rfl | refine (put_past (by decide +kernel)).trans (congrArg _ ?_)))
    have e6 : ∀ a b c d e g, putF "records" (.ref rs) (conF a b c d e g) = conF a b c d e rs := fun _ _ _ _ _ _ => by unfold conF; (repeat (first | exact put_here | rfl | refine (put_past (by decide +kernel)).trans (congrArg _ ?_)))
    rw [e1, e2, e3, e4, e5, e6]
theorem SomeF.len {fs : List (Str × V)} (h : SomeF fs) : fs.length ≤ 6 := by
  rcases h with rfl | ⟨_, _, _, _, _, _, rfl⟩
  · decide
  · exact Nat.le_refl _
theorem put_len {fs : List (Str × V)} {n : Nat} (h : fs.length ≤ n) (f : Str) (v : V) : (putF f v fs).length ≤ n + 1 := Nat.le_trans (length_putF f v fs) (Nat.succ_le_succ h)
/-- the records of i lifts, n lifters each, made from H on: the lists p, in them r, a, d as Blank has them; D is none of them -/
structure Recs (cs : Cs) (H H' : Hp) (D : Addr) (i n : Nat) (p : Nat → Addr) (r a d : Nat → Nat → Addr) : Prop where
  p0 : ∀ k, k < i → H (p k) = none
  p1 : ∀ k, k < i → H' (p k) = some (.lst ((List.range n).map fun j => .ref (r k j)))
  b : ∀ k, k < i → Blank cs H H' n (r k) (a k) (d k)
  pD : ∀ k, k < i → p k ≠ D
  aD : ∀ k j, k < i → j < n → a k j ≠ D
  pp : ∀ k m, k < i → m < i → p k = p m → k = m
  pa : ∀ k m j, k < i → m < i → j < n → p k ≠ a m j
  rr : ∀ k m j l, k < i → m < i → j < n → l < n → r k j = r m l → k = m
  aa : ∀ k m j l, k < i → m < i → j < n → l < n → a k j = a m l → k = m
theorem Recs.none (cs : Cs) (H H' : Hp) (D : Addr) (n : Nat) : Recs cs H H' D 0 n (fun _ => 0) (fun _ _ => 0) (fun _ _ => 0) (fun _ _ => 0) := by
  constructor <;> intro k <;> intros <;> exact absurd (by assumption : k < 0) (Nat.not_lt_zero _)
/-- one lift more -/
theorem Recs.more {cs : Cs} {H H1 H2 H3 : Hp} {D q : Addr} {i n : Nat} {p : Nat → Addr} {r a d : Nat → Nat → Addr} {r' a' d' : Nat → Addr} (R : Recs cs H H1 D i n p r a d) (s1 : Same H H1) (s2 : Same H1 H2) (hD1 : ∃ o, H1 D = some o) (q0 : H1 q = Option.none)
    (q1 : H2 q = some (.lst ((List.range n).map fun j => .ref (r' j)))) (B : Blank cs H1 H2 n r' a' d') (na : ∀ j, j < n → a' j ≠ q) (s3 : ∀ c, c ≠ D → H3 c = H2 c) (hDl : ∃ xs, H2 D = some (.lst xs)) :
    Recs cs H H3 D (i + 1) n (fun k => if k = i then q else p k) (fun k => if k = i then r' else r k) (fun k => if k = i then a' else a k) (fun k => if k = i then d' else d k) := by
  obtain ⟨o, hD1⟩ := hD1
  obtain ⟨xs, hDl⟩ := hDl
  have old : ∀ {c : Addr} {o : HO}, H1 c = some o → c ≠ D → H3 c = some o := fun e n => (s3 _ n).trans (s2 _ _ e)
  have qD : q ≠ D := fun z => by
    rw [z, hD1] at q0
    cases q0
  have r'D : ∀ j, j < n → r' j ≠ D := fun j hj z => by
    have := B.r0 j hj
    rw [z, hD1] at this
    cases this
  have a'D : ∀ j, j < n → a' j ≠ D := fun j hj z => by
    have := B.a0 j hj
    rw [z, hD1] at this
    cases this
  have rD : ∀ k j, k < i → j < n → r k j ≠ D := fun k j hk hj z => by
    have e1 := s2 _ _ ((R.b k hk).r1 j hj)
    rw [z, hDl] at e1
    cases e1
  have B' : Blank cs H H3 n r' a' d' := ⟨fun j hj => s1.free (B.r0 j hj), fun j hj => s1.free (B.a0 j hj), fun j hj => (s3 _ (r'D j hj)).trans (B.r1 j hj), fun j hj => (s3 _ (a'D j hj)).trans (B.a1 j hj), B.ri, B.ai⟩
  have Bo : ∀ k, k < i → Blank cs H H3 n (r k) (a k) (d k) := fun k hk => ⟨(R.b k hk).r0, (R.b k hk).a0, fun j hj => old ((R.b k hk).r1 j hj) (rD k j hk hj), fun j hj => old ((R.b k hk).a1 j hj) (R.aD k j hk hj), (R.b k hk).ri, (R.b k hk).ai⟩
  refine ⟨fun k hk => ?_, fun k hk => ?_, fun k hk => ?_, fun k hk => ?_, fun k j hk hj => ?_, fun k m hk hm e => ?_, fun k m j hk hm hj => ?_, fun k m j l hk hm hj hl e => ?_, fun k m j l hk hm hj hl e => ?_⟩
  · show H (if k = i then q else p k) = Option.none
    split
    · exact s1.free q0
    · exact R.p0 k (by omega)
  · show H3 (if k = i then q else p k) = some (.lst ((List.range n).map fun j => .ref ((if k = i then r' else r k) j)))
    split
    · exact (s3 _ qD).trans q1
    · exact old (R.p1 k (by omega)) (R.pD k (by omega))
  · show Blank cs H H3 n (if k = i then r' else r k) (if k = i then a' else a k) (if k = i then d' else d k)
    split
    · exact B'
    · exact Bo k (by omega)
  · show (if k = i then q else p k) ≠ D
    split
    · exact qD
    · exact R.pD k (by omega)
  · show (if k = i then a' else a k) j ≠ D
    split
    · exact a'D j hj
    · exact R.aD k j (by omega) hj
  · have e : (if k = i then q else p k) = (if m = i then q else p m) := e
    split at e <;> split at e
    · omega
    · exact absurd e.symm (ne_of_none (R.p1 m (by omega)) q0)
    · exact absurd e (ne_of_none (R.p1 k (by omega)) q0)
    · exact R.pp k m (by omega) (by omega) e
  · show (if k = i then q else p k) ≠ (if m = i then a' else a m) j
    split <;> split
    · exact (na j hj).symm
    · exact (ne_of_none ((R.b m (by omega)).a1 j hj) q0).symm
    · exact ne_of_none (R.p1 k (by omega)) (B.a0 j hj)
    · exact R.pa k m j (by omega) (by omega) hj
  · have e : (if k = i then r' else r k) j = (if m = i then r' else r m) l := e
    split at e <;> split at e
    · omega
    · exact absurd e.symm (ne_of_none ((R.b m (by omega)).r1 l hl) (B.r0 j hj))
    · exact absurd e (ne_of_none ((R.b k (by omega)).r1 j hj) (B.r0 l hl))
    · exact R.rr k m j l (by omega) (by omega) hj hl e
  · have e : (if k = i then a' else a k) j = (if m = i then a' else a m) l := e
    split at e <;> split at e
    · omega
    · exact absurd e.symm (ne_of_none ((R.b m (by omega)).a1 l hl) (B.a0 j hj))
    · exact absurd e (ne_of_none ((R.b k (by omega)).a1 j hj) (B.a0 l hl))
    · exact R.aa k m j l (by omega) (by omega) hj hl e
def spRenew (cs : Cs) (K : PySem.W.Frag) : Sp := fun vs H Q _ => ∃ (c cd l : Addr) (fs : List (Str × V)) (ts : List Int), vs = [.ref c, .ref l] ∧ H c = some (.ins cs.C cd fs) ∧ SomeF fs ∧ SqL K H l (ts.map V.int) ∧ ts.length ≤ 1000 ∧ (∀ z ∈ ts, 0 ≤ z) ∧
  ∀ (H' : Hp) (ℓ' : Lay), ℓ'.c = c → Rep cs H' ℓ' (Bm.fresh ts) [] → (∀ b o, H b = some o → b ≠ c → H' b = some o ∧ ¬ Own ℓ' (Bm.fresh ts) [] b) → Q .non H'
theorem ok_renew {f : Addr} {fd : FuncData} (F : Fun K "renew" "Contest.renew" sRenew f fd) (T : Txt K mg cs) (D : DefOk P w K mg base 3 "blank_records" ["teams"] (spBlank cs K)) : FnOk P w K mg base CX0 4 f fd ["self", "teams"] (spRenew cs K) := by
  refine F.ok scRenew (fun vs H Q E h => ?_) (fun cdv A outer s H vs Q E hr h => ?_)
  · obtain ⟨_, _, _, _, _, rfl, _⟩ := h
    rfl
  · obtain ⟨c, cd, l, fs, ts, rfl, hc, hfs, hl, hn, hpos, k⟩ := h
    refine ⟨_, pss_cons (ps_fld (pv 0) (pe_callTy call_list_of (by rfl) T.list (by decide +kernel) (pa_cons (pv 1) pa_nil)) rfl)
      (pss_cons (ps_fld (pv 0) pe_bl rfl) (pss_cons (ps_fld (pv 0) pe_int rfl) (pss_cons (ps_fld (pv 0) pe_int rfl) (pss_cons (ps_fld (pv 0) (pe_lst pa_nil) rfl)
      (pss_one (ps_fld (pv 0) (pe_lc (own := [("lift", 2)]) (g := gName 2) (tt := tYes) rfl scRenew.nd (pi_range1 rfl T.range (pa_cons (pe_gi T.gLifts) pa_nil)) (blkOk_by (N := ["self", "teams", "lift"]) (sc := defScope sRenew) (by decide +kernel))
        (fun _ _ _ _ _ => pg_name (i := 2) scRenew.nd rfl (Or.inl rfl)) (fun _ _ _ _ _ => pts_nil) (fun _ _ _ _ _ => pe_d (j := 3) D hr (pa_cons (pv 1) pa_nil))) rfl)))))), ?_⟩
    refine ⟨_, rfl, l, _, rfl, .inl hl, fun tm htm => ?_⟩
    have ctm : c ≠ tm := ne_of_none hc htm
    refine ⟨_, rfl, c, cs.C, cd, _, rfl, (upd_ne ctm).trans hc, T.cC, T.cTm, Nat.lt_of_le_of_lt hfs.len (by decide), ?_⟩
    refine ⟨_, rfl, c, cs.C, cd, _, rfl, upd_same, T.cC, T.cB, Nat.lt_of_le_of_lt (put_len hfs.len _ _) (by decide), ?_⟩
    refine ⟨_, rfl, c, cs.C, cd, _, rfl, upd_same, T.cC, T.cL, Nat.lt_of_le_of_lt (put_len (put_len hfs.len _ _) _ _) (by decide), ?_⟩
    refine ⟨_, rfl, c, cs.C, cd, _, rfl, upd_same, T.cC, T.cBar, Nat.lt_of_le_of_lt (put_len (put_len (put_len hfs.len _ _) _ _) _ _) (by decide), ?_⟩
    refine ⟨Nat.zero_le _, fun hs hhs => ⟨_, rfl, c, cs.C, cd, _, rfl, (upd_ne (ne_of_none upd_same hhs)).trans upd_same, T.cC, T.cH, Nat.lt_of_le_of_lt (put_len (put_len (put_len (put_len hfs.len _ _) _ _) _ _) _ _) (by decide), ?_⟩⟩
    have main : ∀ H0 : Hp, H0 c = some (.ins cs.C cd (putF "history" (.ref hs) (putF "bar" (.int 0) (putF "lift" (.int 0) (putF "has_begun" (.bl false) (putF "teams" (.ref tm) fs)))))) → H0 tm = some (.lst (ts.map V.int)) → H0 hs = some (.lst []) → tm ≠ hs → H tm = none → H hs = none →
        (∀ b o, H b = some o → b ≠ c → H0 b = some o) → SqL K H0 l (ts.map V.int) →
        sFld K (tVar 0) (tLc (iRng1 (tCons (tC (V.int 2)) tNil)) (gName 2) tYes (tCall (spBlank cs K) [] E0 (tCons (tVar 1) tNil)) [2]) "records" { nx := fun _ H' => Q V.non H', rt := Q } (L2.start ["self", "teams", "lift"] [.ref c, .ref l]) H0 := by
      intro H0 c0 t0 h0 nth nt nh old hl0
      refine ⟨2, rfl, by decide, by decide, fun D hD => lc_range (n := 2) (fun i H1 => Same H0 H1 ∧ ∃ (p : Nat → Addr) (r a d : Nat → Nat → Addr), H1 D = some (.lst ((List.range i).map fun j => .ref (p j))) ∧ Recs cs H0 H1 D i (ts.map V.int).length p r a d) ?_ ?_ ?_⟩
      · exact ⟨same_upd hD, fun _ => 0, fun _ _ => 0, fun _ _ => 0, fun _ _ => 0, upd_same, Recs.none _ _ _ _ _⟩
      · intro i H1 hi h1
        obtain ⟨s1, p, r, a, d, hD1, R⟩ := h1
        refine ⟨rfl, tYes_in ?_⟩
        refine ⟨_, rfl, l, _, rfl, s1.seq hl0, by rw [List.length_map]; exact hn, fun H2 q r' a' d' s2 nq hq B na => ?_⟩
        have hD2 := s2 _ _ hD1
        refine ⟨_, hD2, by rw [List.length_map, List.length_range]; exact small1000 (by omega), fun b o e => ?_, _, _, _, _, ?_, R.more s1 s2 ⟨_, hD1⟩ nq hq B na (fun b hb => upd_ne hb) ⟨_, hD2⟩⟩
        · rw [upd_ne (ne_of_none e hD)]
          exact s2 _ _ (s1 _ _ e)
        · rw [upd_same]
          exact congrArg (fun q => some (HO.lst q)) (range_more i p q).symm
      · intro H1 h1
        obtain ⟨s1, p, r, a, d, hD1, R⟩ := h1
        have c1 := s1 _ _ c0
        have t1 := s1 _ _ t0
        have g1 := s1 _ _ h0
        have two : ((List.range 2).map fun j => V.ref (p j)) = [.ref (p 0), .ref (p 1)] := rfl
        rw [two] at hD1
        refine ⟨_, rfl, c, cs.C, cd, _, rfl, c1, T.cC, T.cRs, Nat.lt_of_le_of_lt (put_len (put_len (put_len (put_len (put_len hfs.len _ _) _ _) _ _) _ _) _ _) (by decide), ?_⟩
        have nD : H D = none := by
          cases e : H D with
          | none => rfl
          | some o =>
            by_cases z : D = c
            · rw [z, c0] at hD
              cases hD
            · rw [old D o e z] at hD
              cases hD
        have free : ∀ {b : Addr}, H0 b = none → b ≠ c ∧ H b = none := fun {b} e => by
          have z : b ≠ c := fun z => by
            rw [z, c0] at e
            cases e
          refine ⟨z, ?_⟩
          cases e2 : H b with
          | none => rfl
          | some o =>
            rw [old b o e2 z] at e
            cases e
        have hDc : D ≠ c := (free hD).1
        have len : (Bm.fresh ts).lifters.length = (ts.map V.int).length := by simp [Bm.fresh]
        let ℓ : Lay := ⟨fun x => match x with | .tm => tm | .hs => hs | .rs => D | .ls k => p k | .rc k i => r k i | .al k i => a k i | _ => 0, fun x => match x with | .rc k i => d k i | _ => 0, c, cd⟩
        -- where a part stands nothing was, but the contest
        have new : ∀ x, Has (Bm.fresh ts) [] x → ℓ.f x ≠ c ∧ H (ℓ.f x) = none := by
          intro x hx
          cases x with
          | tm => exact ⟨ctm.symm, nt⟩
          | hs => exact ⟨(ne_of c0 h0 fun z => nomatch z).symm, nh⟩
          | rs => exact ⟨hDc, nD⟩
          | ls k => exact free (R.p0 k hx)
          | rc k i => exact free ((R.b k hx.1).r0 i (len ▸ hx.2))
          | al k i => exact free ((R.b k hx.1).a0 i (len ▸ hx.2))
          | «at» k i j =>
            have z : j < ((Bm.fresh ts).liftOf i k).tries.length := hx.2.2
            rw [Bm.fresh_lift] at z
            exact absurd z (Nat.not_lt_zero _)
          | ht q => exact absurd hx (Nat.not_lt_zero _)
        have there : ∀ x, Has (Bm.fresh ts) [] x → H1 (ℓ.f x) = some (obj cs ℓ (Bm.fresh ts) [] x) := by
          intro x hx
          cases x with
          | tm =>
            have e : ((Bm.fresh ts).lifters.map fun l => V.int (l.team : Nat)) = ts.map V.int := by
              simp only [Bm.fresh, List.map_map]
              apply List.map_congr_left
              intro z hz
              have := hpos z hz
              show V.int ((z.toNat : Nat) : Int) = V.int z
              rw [Int.toNat_of_nonneg this]
            show H1 tm = some (.lst _)
            rw [e]
            exact t1
          | hs => exact g1
          | rs => exact hD1
          | ls k =>
            have e := R.p1 k hx
            rw [← len] at e
            exact e
          | rc k i =>
            have e := (R.b k hx.1).r1 i (len ▸ hx.2)
            show H1 (r k i) = some (.ins cs.R (d k i) (recF ((Bm.fresh ts).liftOf i k).next ((Bm.fresh ts).liftOf i k).changes (a k i)))
            rw [Bm.fresh_lift]
            exact e
          | al k i =>
            have e := (R.b k hx.1).a1 i (len ▸ hx.2)
            show H1 (a k i) = some (.lst ((List.range ((Bm.fresh ts).liftOf i k).tries.length).map fun j => .ref (ℓ.f (.at k i j))))
            rw [Bm.fresh_lift]
            exact e
          | «at» k i j =>
            have z : j < ((Bm.fresh ts).liftOf i k).tries.length := hx.2.2
            rw [Bm.fresh_lift] at z
            exact absurd z (Nat.not_lt_zero _)
          | ht q => exact absurd hx (Nat.not_lt_zero _)
        have lr : ∀ {k j}, Has (Bm.fresh ts) [] (.rc k j) → j < (ts.map V.int).length := fun h => len ▸ h.2
        have la : ∀ {k j}, Has (Bm.fresh ts) [] (.al k j) → j < (ts.map V.int).length := fun h => len ▸ h.2
        have noAt : ∀ {k i j}, ¬ Has (Bm.fresh ts) [] (.at k i j) := fun {k i j} h => by
          have z : j < ((Bm.fresh ts).liftOf i k).tries.length := h.2.2
          rw [Bm.fresh_lift] at z
          exact absurd z (Nat.not_lt_zero _)
        have inj : ∀ x y, Has (Bm.fresh ts) [] x → Has (Bm.fresh ts) [] y → ℓ.f x = ℓ.f y → x = y := by
          intro x y hx hy e
          have kind : ∀ {u v : HO}, obj cs ℓ (Bm.fresh ts) [] x = u → obj cs ℓ (Bm.fresh ts) [] y = v → u = v := fun e1 e2 => by
            have z := there x hx
            rw [e, there y hy, e1, e2] at z
            exact (Option.some.inj z).symm
          cases x with
          | tm =>
            cases y with
            | tm => rfl
            | hs => exact absurd e nth
            | rs => exact absurd e (ne_of_none t0 hD)
            | ls m => exact absurd e (ne_of_none t0 (R.p0 m hy))
            | rc m j => exact nomatch (kind rfl rfl)
            | al m j => exact absurd e (ne_of_none t0 ((R.b m hy.1).a0 j (la hy)))
            | «at» m i j => exact absurd hy noAt
            | ht q => exact absurd hy (Nat.not_lt_zero _)
          | hs =>
            cases y with
            | tm => exact absurd e.symm nth
            | hs => rfl
            | rs => exact absurd e (ne_of_none h0 hD)
            | ls m => exact absurd e (ne_of_none h0 (R.p0 m hy))
            | rc m j => exact nomatch (kind rfl rfl)
            | al m j => exact absurd e (ne_of_none h0 ((R.b m hy.1).a0 j (la hy)))
            | «at» m i j => exact absurd hy noAt
            | ht q => exact absurd hy (Nat.not_lt_zero _)
          | rs =>
            cases y with
            | tm => exact absurd e.symm (ne_of_none t0 hD)
            | hs => exact absurd e.symm (ne_of_none h0 hD)
            | rs => rfl
            | ls m => exact absurd e.symm (R.pD m hy)
            | rc m j => exact nomatch (kind rfl rfl)
            | al m j => exact absurd e.symm (R.aD m j hy.1 (la hy))
            | «at» m i j => exact absurd hy noAt
            | ht q => exact absurd hy (Nat.not_lt_zero _)
          | ls k =>
            cases y with
            | tm => exact absurd e.symm (ne_of_none t0 (R.p0 k hx))
            | hs => exact absurd e.symm (ne_of_none h0 (R.p0 k hx))
            | rs => exact absurd e (R.pD k hx)
            | ls m => rw [R.pp k m hx hy e]
            | rc m j => exact nomatch (kind rfl rfl)
            | al m j => exact absurd e (R.pa k m j hx hy.1 (la hy))
            | «at» m i j => exact absurd hy noAt
            | ht q => exact absurd hy (Nat.not_lt_zero _)
          | rc k i =>
            cases y with
            | rc m j =>
              have ek : k = m := R.rr k m i j hx.1 hy.1 (lr hx) (lr hy) e
              subst ek
              rw [(R.b k hx.1).ri i j (lr hx) (lr hy) e]
            | «at» m i j => exact absurd hy noAt
            | ht q => exact absurd hy (Nat.not_lt_zero _)
            | _ => exact nomatch (kind rfl rfl)
          | al k i =>
            cases y with
            | tm => exact absurd e.symm (ne_of_none t0 ((R.b k hx.1).a0 i (la hx)))
            | hs => exact absurd e.symm (ne_of_none h0 ((R.b k hx.1).a0 i (la hx)))
            | rs => exact absurd e (R.aD k i hx.1 (la hx))
            | ls m => exact absurd e.symm (R.pa m k i hy hx.1 (la hx))
            | rc m j => exact nomatch (kind rfl rfl)
            | al m j =>
              have ek : k = m := R.aa k m i j hx.1 hy.1 (la hx) (la hy) e
              subst ek
              rw [(R.b k hx.1).ai i j (la hx) (la hy) e]
            | «at» m i j => exact absurd hy noAt
            | ht q => exact absurd hy (Nat.not_lt_zero _)
          | «at» k i j => exact absurd hx noAt
          | ht q => exact absurd hx (Nat.not_lt_zero _)
        refine k _ ℓ rfl ⟨?_, fun x hx => ?_, inj⟩ fun b o e hb => ⟨?_, fun z => ?_⟩
        · exact Eq.trans upd_same (congrArg (fun q => some (HO.ins cs.C cd q)) (con_build hfs tm hs D))
        · rw [upd_ne (new x hx).1]
          exact there x hx
        · rw [upd_ne hb]
          exact s1 _ _ (old b o e hb)
        · rcases z with z | ⟨x, hx, z⟩
          · exact hb z
          · rw [z, (new x hx).2] at e
            cases e
    have t4 := (upd_ne (o := HO.ins cs.C cd (putF "bar" (.int 0) (putF "lift" (.int 0) (putF "has_begun" (.bl false) (putF "teams" (.ref tm) fs))))) ctm.symm).trans ((upd_ne (o := HO.ins cs.C cd (putF "lift" (.int 0) (putF "has_begun" (.bl false) (putF "teams" (.ref tm) fs)))) ctm.symm).trans
      ((upd_ne (o := HO.ins cs.C cd (putF "has_begun" (.bl false) (putF "teams" (.ref tm) fs))) ctm.symm).trans ((upd_ne (o := HO.ins cs.C cd (putF "teams" (.ref tm) fs)) ctm.symm).trans (upd_same (H := H) (o := HO.lst (ts.map V.int))))))
    have nth : tm ≠ hs := ne_of_none t4 hhs
    have nch : c ≠ hs := ne_of_none upd_same hhs
    have nh : H hs = none := by
      rw [upd_ne nch.symm, upd_ne nch.symm, upd_ne nch.symm, upd_ne nch.symm, upd_ne nth.symm] at hhs
      exact hhs
    have old : ∀ b o, H b = some o → b ≠ c → upd (upd (upd (upd (upd (upd (upd H tm (.lst (ts.map V.int))) c (.ins cs.C cd (putF "teams" (.ref tm) fs))) c (.ins cs.C cd (putF "has_begun" (.bl false) (putF "teams" (.ref tm) fs)))) c (.ins cs.C cd (putF "lift" (.int 0) (putF "has_begun" (.bl false) (putF "teams" (.ref tm) fs))))) c
        (.ins cs.C cd (putF "bar" (.int 0) (putF "lift" (.int 0) (putF "has_begun" (.bl false) (putF "teams" (.ref tm) fs)))))) hs (.lst [])) c (.ins cs.C cd (putF "history" (.ref hs) (putF "bar" (.int 0) (putF "lift" (.int 0) (putF "has_begun" (.bl false) (putF "teams" (.ref tm) fs)))))) b = some o := fun b o e hb => by
      rw [upd_ne hb, upd_ne (ne_of_none e nh), upd_ne hb, upd_ne hb, upd_ne hb, upd_ne hb, upd_ne (ne_of_none e htm)]
      exact e
    refine main _ upd_same ?_ ?_ nth htm nh old ?_
    · rw [upd_ne ctm.symm, upd_ne nth]
      exact t4
    · rw [upd_ne nch.symm]
      exact upd_same
    · rcases hl with (z | ⟨o, z⟩) | z
      · exact .inl (.inl (old _ _ z (ne_of z hc fun y => nomatch y)))
      · exact .inl (.inr ⟨o, old _ _ z (ne_of z hc fun y => nomatch y)⟩)
      · exact .inr z
end
end Bc
namespace Bc
open PySem PySem.Spec PyProof.Rows L2 LamX NdefX

section
variable {P : Program} {w : World} {K : PySem.W.Frag} {mg : Str → Option Value} {base : Heap} {cs : Cs}
def spCon0 (cs : Cs) : Sp := fun vs H Q _ => ∃ p dx : Addr, vs = [.ref p] ∧ H p = some (.ins cs.C dx []) ∧
  ∀ (H' : Hp) (ℓ' : Lay), ℓ'.c = p → Rep cs H' ℓ' Kg59.init [] → (∀ b o, H b = some o → b ≠ p → H' b = some o ∧ ¬ Own ℓ' Kg59.init [] b) → Q .non H'
theorem ok_con0 {f : Addr} {fd : FuncData} (F : Fun K "__init__" "Contest.__init__" sCon0 f fd) (D : MethOk P w K mg base 4 cs.C "renew" ["self", "teams"] (spRenew cs K)) : FnOk P w K mg base CX0 5 f fd ["self"] (spCon0 cs) := by
  refine F.ok scCon0 (fun vs H Q E h => ?_) (fun cdv A outer s H vs Q E hr h => ?_)
  · obtain ⟨_, _, rfl, _⟩ := h
    rfl
  · obtain ⟨p, dx, rfl, hp, k⟩ := h
    refine ⟨_, pss_one (ps_expr (pe_m (j := 4) D hr (pv 0) (pa_cons (pe_lst pa_nil) pa_nil))), ?_⟩
    refine ⟨_, rfl, p, dx, [], rfl, hp, rfl, Nat.zero_le _, fun l hl => ?_⟩
    have np : p ≠ l := ne_of_none hp hl
    refine ⟨p, dx, l, [], [], rfl, (upd_ne np).trans hp, .inl rfl, SqL.of upd_same, Nat.zero_le _, fun z h => absurd h (by simp), fun H' ℓ' hc R fr => ?_⟩
    refine k H' ℓ' hc R fun b o e hb => ?_
    exact fr b o (by rw [upd_ne (ne_of_none e hl)]; exact e) hb

/-! ### standing, calling_rank -/
abbrev sStand : Stmt := top 1
abbrev sRank : Stmt := top 2
theorem scStand : FnScope ["lifter", "attempts", "last_turn"] ["lifter", "attempts"] (defScope sStand) := ⟨rfl, rfl, rfl, by decide +kernel, rfl, by decide +kernel, by decide +kernel⟩
theorem scRank : FnScope ["contest", "lifter", "record"] ["contest", "lifter"] (defScope sRank) := ⟨rfl, rfl, rfl, by decide +kernel, rfl, by decide +kernel, by decide +kernel⟩
/-- the list at a is of the attempts ts -/
structure Atts (cs : Cs) (K : PySem.W.Frag) (H : Hp) (a : Addr) (ts : List Kg59.Try) (g d : Nat → Addr) : Prop where
  lst : SqL K H a ((List.range ts.length).map fun j => .ref (g j))
  at_ : ∀ j t, ts[j]? = some t → H (g j) = some (.ins cs.T (d j) (attF t))
def spStand (cs : Cs) (K : PySem.W.Frag) : Sp := fun vs H Q _ => ∃ (i : Nat) (a : Addr) (ts : List Kg59.Try) (g d : Nat → Addr), vs = [.int (i : Nat), .ref a] ∧ Atts cs K H a ts g d ∧
  ∀ p, H p = none → Q (.ref p) (upd H p (.tup [.int (ts.length : Nat), .int (turnOf ts : Nat), .int (i : Nat)]))
theorem last_at {ts : List Kg59.Try} {t : Kg59.Try} (g : Nat → Addr) : ((List.range (ts ++ [t]).length).map fun j => V.ref (g j)) = ((List.range ts.length).map fun j => V.ref (g j)) ++ [.ref (g ts.length)] := by
  rw [List.length_append, List.length_singleton, List.range_succ, List.map_append]
  rfl
theorem turn_last (ts : List Kg59.Try) (t : Kg59.Try) : turnOf (ts ++ [t]) = t.at_ + 1 := by
  unfold turnOf
  simp
theorem ok_stand {f : Addr} {fd : FuncData} (F : Fun K "standing" "standing" sStand f fd) (T : Txt K mg cs) : FnOk P w K mg base CX0 1 f fd ["lifter", "attempts"] (spStand cs K) := by
  refine F.ok scStand (fun vs H Q E h => ?_) (fun cdv A outer s H vs Q E hr h => ?_)
  · obtain ⟨_, _, _, _, _, rfl, _⟩ := h
    rfl
  · obtain ⟨i, a, ts, g, d, rfl, R, k⟩ := h
    refine ⟨_, pss_cons (ps_set (i := 2) scStand.nd rfl (Or.inl rfl) (pe_ifExp (pt_truth (pv 1) (by intro _; rfl)) (pe_fld (pe_ix ix_list (pv 1) (pe_un un_neg pe_int) (fun _ _ => rfl)) rfl) pe_int))
      (pss_one (ps_ret (pe_tup (pa_cons (pe_callB call_len_seq (by rfl) T.len PySem.boot_len (pa_cons (pv 1) pa_nil)) (pa_cons (pv 2) (pa_cons (pv 0) pa_nil)))))), ?_⟩
    have hl := R.lst
    have fin : ∀ σ2 : V, σ2 = .int (turnOf ts : Nat) → tTup (tCons (tCB (fun xs H Q => ∃ p ys, xs = [V.ref p] ∧ (SqL K H p ys ∨ SqT K H p ys) ∧ Q (.int ys.length) H) (tCons (tVar 1) tNil)) (tCons (tVar 2) (tCons (tVar 0) tNil))) [some (.int (i : Nat)), some (.ref a), some σ2] H Q := fun σ2 e => by
      subst e
      refine ⟨_, rfl, a, _, rfl, .inl hl, _, rfl, _, rfl, (by show 3 ≤ sizeLine; decide), fun p hp => ?_⟩
      rw [List.length_map, List.length_range]
      exact k p hp
    refine ⟨_, rfl, _, .inl ⟨_, hl, rfl⟩, ?_⟩
    rcases List.eq_nil_or_concat ts with rfl | ⟨ts0, t, rfl⟩
    · exact iteF (fin _ rfl)
    · rw [List.concat_eq_append] at hl ⊢
      rw [last_at] at hl
      have hn : (!((List.range (ts0 ++ [t]).length).map fun j => V.ref (g j)).isEmpty) = true := by simp
      rw [hn]
      have ht := R.at_ ts0.length t (by simp)
      refine iteT ⟨_, rfl, _, rfl, a, _, _, _, rfl, rfl, hl, atI_last _ _, g ts0.length, cs.T, d ts0.length, _, _, rfl, ht, T.cT, T.tU, att_turn, ?_⟩
      refine fin _ ?_
      rw [List.concat_eq_append, turn_last]
def spRank (cs : Cs) : Sp := fun vs H Q _ => ∃ (ℓ : Lay) (s : Kg59.State) (hist : Hist) (i : Nat), vs = [.ref ℓ.c, .int (i : Nat)] ∧ Rep cs H ℓ s hist ∧ i < s.lifters.length ∧ s.lift < 2 ∧
  ∀ q p, H q = none → upd H q (.tup [.int ((s.liftOf i s.lift).tries.length : Nat), .int (turnOf (s.liftOf i s.lift).tries : Nat), .int (i : Nat)]) p = none →
    Q (.ref p) (upd (upd H q (.tup [.int ((s.liftOf i s.lift).tries.length : Nat), .int (turnOf (s.liftOf i s.lift).tries : Nat), .int (i : Nat)])) p (.tup [.int ((s.liftOf i s.lift).next : Nat), .ref q]))
/-- a record's attempts -/
theorem Rep.atts {H : Hp} {ℓ : Lay} {s : Kg59.State} {hist : Hist} (R : Rep cs H ℓ s hist) {k i : Nat} (hk : k < 2) (hi : i < s.lifters.length) : Atts cs K H (ℓ.f (.al k i)) (s.liftOf i k).tries (fun j => ℓ.f (.at k i j)) fun j => ℓ.d (.at k i j) := by
  refine ⟨SqL.of (R.ob (.al k i) ⟨hk, hi⟩), fun j t hj => ?_⟩
  have hl : j < (s.liftOf i k).tries.length := (List.getElem?_eq_some_iff.mp hj).1
  have e := R.ob (.at k i j) ⟨hk, hi, hl⟩
  have et : tryAt s k i j = t := by
    unfold tryAt
    rw [List.getD_eq_getElem?_getD, hj]
    rfl
  rw [show obj cs ℓ s hist (.at k i j) = .ins cs.T (ℓ.d (.at k i j)) (attF (tryAt s k i j)) from rfl, et] at e
  exact e
theorem ok_rank {f : Addr} {fd : FuncData} (F : Fun K "calling_rank" "calling_rank" sRank f fd) (T : Txt K mg cs) (D1 : MethOk P w K mg base 1 cs.C "record" ["self", "lifter"] (spRecord cs)) (D2 : DefOk P w K mg base 1 "standing" ["lifter", "attempts"] (spStand cs K)) :
    FnOk P w K mg base CX0 2 f fd ["contest", "lifter"] (spRank cs) := by
  refine F.ok scRank (fun vs H Q E h => ?_) (fun cdv A outer s H vs Q E hr h => ?_)
  · obtain ⟨_, _, _, _, rfl, _⟩ := h
    rfl
  · obtain ⟨ℓ, st, hist, i, rfl, R, hi, hl, k⟩ := h
    refine ⟨_, pss_cons (ps_set (i := 2) scRank.nd rfl (Or.inl rfl) (pe_m (j := 1) D1 hr (pv 0) (pa_cons (pv 1) pa_nil)))
      (pss_one (ps_ret (pe_tup (pa_cons (pe_fld (pv 2) rfl) (pa_cons (pe_d (j := 1) D2 hr (pa_cons (pv 1) (pa_cons (pe_fld (pv 2) rfl) pa_nil))) pa_nil))))), ?_⟩
    have hrc := R.ob (.rc st.lift i) ⟨hl, hi⟩
    refine ⟨_, rfl, ℓ.c, ℓ.cd, _, rfl, R.con, con_none (by simp), _, rfl, ℓ, st, hist, i, rfl, R, hi, hl, ?_⟩
    refine ⟨_, rfl, ℓ.f (.rc st.lift i), cs.R, _, _, _, rfl, hrc, T.cR, T.rW, rec_wanted, _, rfl, _, rfl, ℓ.f (.rc st.lift i), cs.R, _, _, _, rfl, hrc, T.cR, T.rA, rec_attempts, ?_⟩
    refine ⟨i, ℓ.f (.al st.lift i), (st.liftOf i st.lift).tries, _, _, rfl, R.atts hl hi, fun q hq => ⟨(by show 2 ≤ sizeLine; decide), fun p hp => k q p hq hp⟩⟩
end
end Bc
namespace Bc
open PySem PySem.Spec PyProof.Rows L2 LamX NdefX

/-- F.ok where the body asks for the def's own code object -/
theorem ok_code {P : Program} {w : World} {K : PySem.W.Frag} {mg : Str → Option Value} {base : Heap} {k : Nat} {x : Str} {st : Stmt} {f c : Addr} {oc : Value} {od an : Option Addr} {osl : Array (Option Value)} {kV doc pm ct : Value} {N ps : List Str} {sp : Sp}
    (lk : K.lookup f = some ⟨oc, od, .func (PySem.W.fnOf x x (defArgs st) (defBody st) (defScope st) .none kV doc pm an (.ref c) ct), osl⟩) (hcd : PySem.W.codeIn K (.ref c) x = true) (S : FnScope N ps (defScope st)) (len : ∀ vs H Q E, sp vs H Q E → vs.length = ps.length)
    (hbody : ∀ (A : Around) (outer : List Env) (s : Shared) (H : Hp) (vs : List V) (Q : VK) (E : XK), Room k (A.deeper (envOfC x (defScope st) s.heap.objs.size f (.ref c))) → sp vs H Q E →
      ∃ t, PSs (cxOf CX0 P w K mg base N x (defScope st) f (.ref c) A outer s H E).nox (defBody st) t ∧ t { nx := fun _ H' => Q .non H', rt := Q } (start N vs) H) :
    FnOk P w K mg base CX0 (k + 1) f (PySem.W.fnOf x x (defArgs st) (defBody st) (defScope st) .none kV doc pm an (.ref c) ct) ps sp :=
  fn_of lk hcd S len fun A outer s H vs Q E hr h => by
    obtain ⟨t, h1, h2⟩ := hbody A outer s H vs Q E hr h
    exact ⟨t, h1.nox, h2⟩

section
variable {P : Program} {w : World} {K : PySem.W.Frag} {mg : Str → Option Value} {base : Heap} {cs : Cs}

/-! ### left_in_order -/
abbrev sLio : Stmt := top 3
theorem scLio : FnScope ["contest", "left", "lifter"] ["contest"] (defScope sLio) := ⟨rfl, rfl, rfl, by decide +kernel, rfl, by decide +kernel, by decide +kernel⟩
/-- the text of its lambda -/
def lamOf (s : Stmt) : Arguments × Expr × Scope := match s with
  | .Return (some (.Call _ _ [⟨_, .Lambda a b c _, _⟩] _)) _ => (a, b, c)
  | _ => ({ posonlyargs := [], args := [], vararg := none, kwonlyargs := [], kw_defaults := [], kwarg := none, defaults := [] }, .Constant .none 0 ⟨0, 0, 0, 0⟩, { kind := .function, names := [], isGenerator := false, isCoroutine := false })
abbrev lioLam := lamOf ((defBody sLio).getD 1 (.Pass ⟨0, 0, 0, 0⟩))
theorem nsLio : NScope ["lifter", "contest"] ["lifter"] ["contest"] lioLam.2.2 := nscope_by (by decide +kernel)
theorem ndLio : ndefB (defScope sLio) lioLam.2.2 ["contest"] = true := by decide +kernel
def lamName (x : Str) : Str := (x ++ ".<locals>.") ++ "<lambda>"
def spLio (cs : Cs) (T : List (Addr × Str)) : Sp := fun vs H Q _ => ∃ (ℓ : Lay) (s : Kg59.State) (hist : Hist), vs = [.ref ℓ.c] ∧ Rep cs H ℓ s hist ∧ Tabs T H ∧ s.lift < 2 ∧ s.lifters.length ≤ 24 ∧
  ∀ (H' : Hp) (p : Addr), ExtN H H' → Tabs T H' → H' p = some (.lst (s.order.map fun i => .int (i : Nat))) → Q (.ref p) H'
theorem filter_more {α : Type} (q : Nat → Bool) (g : Nat → α) (i : Nat) : (((List.range (i + 1)).filter q).map g) = ((List.range i).filter q).map g ++ (if q i = true then [g i] else []) := by
  rw [List.range_succ, List.filter_append, List.map_append]
  congr 1
  cases h : q i <;> simp [h]
theorem len_filter (q : Nat → Bool) (i : Nat) : ((List.range i).filter q).length ≤ i := by
  have := List.length_filter_le q (List.range i)
  rwa [List.length_range] at this
theorem ok_lio {f c : Addr} {oc : Value} {od an : Option Addr} {osl : Array (Option Value)} {kV doc pm ct : Value} {Pt : Addr} {T : List (Addr × Str)}
    (lk : K.lookup f = some ⟨oc, od, .func (PySem.W.fnOf "left_in_order" "left_in_order" (defArgs sLio) (defBody sLio) (defScope sLio) .none kV doc pm an (.ref c) ct), osl⟩) (hcd : PySem.W.codeIn K (.ref c) "left_in_order" = true)
    (TB : TabB base mg c Pt) (hm : (Pt, lamName "left_in_order") ∈ T) (hu : ∀ q ∈ T, q.1 = Pt → q.2 = lamName "left_in_order") (X : Txt K mg cs)
    (D1 : MethOk P w K mg base 1 cs.C "record" ["self", "lifter"] (spRecord cs)) (D2 : MethOk P w K mg base 1 cs.R "is_left" ["self"] (spLeft cs)) (D3 : DefOk P w K mg base 2 "calling_rank" ["contest", "lifter"] (spRank cs)) :
    FnOk P w K mg base CX0 6 f (PySem.W.fnOf "left_in_order" "left_in_order" (defArgs sLio) (defBody sLio) (defScope sLio) .none kV doc pm an (.ref c) ct) ["contest"] (spLio cs T) := by
  refine ok_code lk hcd scLio (fun vs H Q E h => ?_) (fun A outer s H vs Q E hr h => ?_)
  · obtain ⟨_, _, _, rfl, _⟩ := h
    rfl
  · obtain ⟨ℓ, st, hist, rfl, R, tb, hl, hn, k⟩ := h
    refine ⟨_, pss_cons (ps_setLc (i := 1) (own := [("lifter", 2)]) (g := gName 2) rfl scLio.nd rfl rfl (sw_true rfl rfl rfl (by decide +kernel)) (pi_range1 rfl X.range (pa_cons (pe_callB call_len_seq (by rfl) X.len PySem.boot_len (pa_cons (pe_fld (pv 0) rfl) pa_nil)) pa_nil))
        (blkOk_by (N := ["contest", "left", "lifter"]) (sc := defScope sLio) (by decide +kernel)) (fun _ _ _ _ _ => pg_name (i := 2) scLio.nd rfl (Or.inl rfl)) (fun _ _ _ _ _ => pts_one (pt_val (pe_m0 (j := 5) D2 hr (pe_m (j := 5) D1 hr (pv 0) (pa_cons (pv 2) pa_nil)))))
        (fun _ _ _ _ _ => pv 2))
      (pss_one (ps_ret (pe_sortedLam (T := T) (c := c) (Pt := Pt) (N := ["lifter", "contest"]) (fr := ["contest"]) (x := "lifter") (js := [0]) (k0 := 2) rfl X.srt (pv 1) TB rfl hm hu hr nsLio rfl (ndef_free ndLio) (ndef_fr ndLio) rfl (fun _ _ _ _ _ _ => rfl)
        (fun f' c' A' outer' s' H' hr' => pe_d (j := 2) D3 hr' (pa_cons (pv 1) (pa_cons (pv 0) pa_nil)))))), ?_⟩
    have nle : (((st.lifters.map fun l => V.int (l.team : Nat)).length : Nat) : Int) = (st.lifters.length : Nat) := by rw [List.length_map]
    refine ⟨_, rfl, ℓ.c, cs.C, ℓ.cd, _, _, rfl, R.con, X.cC, X.cTm, con_teams, ℓ.f .tm, _, rfl, .inl (SqL.of (R.ob .tm trivial)), ?_⟩
    refine ⟨(st.lifters.length : Nat), by rw [nle], by omega, by omega, fun D hD => lc_range (n := st.lifters.length)
      (fun i H1 => Same H H1 ∧ H1 D = some (.lst (((List.range i).filter fun j => decide ((st.liftOf j st.lift).tries.length < 3)).map fun j => .int (j : Nat)))) ⟨same_upd hD, upd_same⟩ ?_ ?_⟩
    · intro i H1 hi h1
      obtain ⟨s1, hD1⟩ := h1
      have R1 := R.same s1
      have hrc := R1.ob (.rc st.lift i) ⟨hl, hi⟩
      have hal := R1.ob (.al st.lift i) ⟨hl, hi⟩
      refine ⟨rfl, ?_⟩
      refine ⟨_, rfl, ℓ.c, ℓ.cd, _, rfl, R1.con, con_none (by simp), _, rfl, ℓ, st, hist, i, by rw [Int.zero_add]; rfl, R1, hi, hl, ?_⟩
      refine ⟨ℓ.f (.rc st.lift i), _, _, rfl, hrc, rec_left, _, _, _, _, _, _, rfl, hrc, hal, _, rfl, ?_⟩
      rw [List.length_map, List.length_range]
      by_cases h3 : (st.liftOf i st.lift).tries.length < 3
      · rw [decide_eq_true h3]
        refine iteT ⟨_, rfl, _, hD1, ?_, fun b o e => ?_, ?_⟩
        · rw [List.length_map]
          exact small1000 (Nat.le_trans (len_filter _ _) (by omega))
        · rw [upd_ne (ne_of_none e hD)]
          exact s1 _ _ e
        · rw [upd_same, filter_more]
          simp [h3]
      · rw [decide_eq_false h3]
        refine iteF ⟨s1, ?_⟩
        rw [filter_more, hD1]
        simp [h3]
    · intro H1 h1
      obtain ⟨s1, hD1⟩ := h1
      refine ⟨_, rfl, tb.ext s1, D, Nat, st.left, fun i => .int (i : Nat), keyD st, rfl, SqL.of hD1, alike_key _ _, sortable_key _ _, fun b _ => depth_key _ _, fun H2 e2 t2 => ⟨fun b hb H3 s3 => ?_, fun H3 p s3 hp => ?_⟩⟩
      · have hb := Bm.left_mem.mp hb
        have R3 := ((R.same s1).ext e2).same s3
        refine ⟨_, rfl, _, rfl, ℓ, st, hist, b, rfl, R3, hb.1, hl, fun q p hq hp => ⟨(same_upd hq).trans (same_upd hp), ?_⟩⟩
        refine .tup (SqT.of upd_same) (.cons (.int _) (.cons (.tup (SqT.of ?_) (.cons (.int _) (.cons (.int _) (.cons (.int _) .nil)))) .nil))
        rw [upd_ne (ne_of_none upd_same hp)]
        exact upd_same
      · rw [order_is]
        exact k _ p ((ExtN.of s1).trans (e2.trans (ExtN.of (s3.trans (same_upd hp))))) (tabs_upd (t2.ext s3) hp) upd_same
end
end Bc
namespace Bc
open PySem PySem.Spec PyProof.Rows L2 LamX

theorem Post.after {cs : Cs} {T : List (Addr × Str)} {H H1 : Hp} {ℓ ℓ1 : Lay} {s s1 s' : Kg59.State} {hist hist1 : Hist} {ans : List Int} {Q : VK} (h : Post cs T H ℓ s hist s' ans Q) (fr : Frame H ℓ s hist H1 ℓ1 s1 hist1) (hc : ℓ1.c = ℓ.c) : Post cs T H1 ℓ1 s1 hist1 s' ans Q :=
  fun H' p ℓ' hist' e1 R J t fr' np no hp => h H' p ℓ' hist' (e1.trans hc) R J t (fr.trans fr') (fun b o e n m => by
    obtain ⟨q1, q2⟩ := fr b o e n m
    exact np b o q1 n q2) no hp
def ansL (a : Kg59.Ans) : List Int := a.value :: a.out

section
variable {P : Program} {w : World} {K : PySem.W.Frag} {mg : Str → Option Value} {base : Heap} {cs : Cs} {T : List (Addr × Str)}

/-! ### up, order -/
abbrev sUp : Stmt := top 4
abbrev sOrder : Stmt := top 5
theorem scUp : FnScope ["contest", "lifter", "record", "seconds"] ["contest"] (defScope sUp) := ⟨rfl, rfl, rfl, by decide +kernel, rfl, by decide +kernel, by decide +kernel⟩
theorem scOrder : FnScope ["contest", "left", "answer", "lifter"] ["contest"] (defScope sOrder) := ⟨rfl, rfl, rfl, by decide +kernel, rfl, by decide +kernel, by decide +kernel⟩
/-- what a call on the contest asks and promises -/
def spCall (cs : Cs) (T : List (Addr × Str)) (as : List V) (s' : Kg59.State → Kg59.State) (ans : Kg59.State → List Int) : Sp := fun vs H Q _ =>
  ∃ (ℓ : Lay) (s : Kg59.State) (hist : Hist), vs = .ref ℓ.c :: as ∧ Rep cs H ℓ s hist ∧ Bm.Ok s hist ∧ Tabs T H ∧ Post cs T H ℓ s hist (s' s) (ans s) Q
abbrev spUp (cs : Cs) (T : List (Addr × Str)) : Sp := spCall cs T [] (fun s => s) fun s => ansL (Kg59.called s)
def orderAns (s : Kg59.State) : Kg59.Ans := if s.begun = false ∨ s.lift = 2 then Kg59.num (-4) else ⟨s.order.length, Kg59.whole (s.order.flatMap fun i => [i, (s.liftOf i s.lift).next])⟩
abbrev spOrder (cs : Cs) (T : List (Addr × Str)) : Sp := spCall cs T [] (fun s => s) fun s => ansL (orderAns s)
theorem on_iff (s : Kg59.State) : (s.begun && decide (s.lift < 2)) = true ↔ s.begun = true ∧ s.lift < 2 := by simp
theorem ok_up {f : Addr} {fd : FuncData} (F : Fun K "up" "up" sUp f fd) (X : Txt K mg cs) (D1 : MethOk P w K mg base 1 cs.C "is_on" ["self"] (spOn cs)) (D2 : DefOk P w K mg base 6 "left_in_order" ["contest"] (spLio cs T))
    (D3 : MethOk P w K mg base 1 cs.C "record" ["self", "lifter"] (spRecord cs)) (D4 : MethOk P w K mg base 1 cs.C "who_tried_last" ["self"] (spWho cs)) : FnOk P w K mg base CX0 7 f fd ["contest"] (spUp cs T) := by
  refine F.ok scUp (fun vs H Q E h => ?_) (fun cdv A outer s H vs Q E hr h => ?_)
  · obtain ⟨_, _, _, rfl, _⟩ := h
    rfl
  · obtain ⟨ℓ, st, hist, rfl, R, J, tb, k⟩ := h
    have k : Post cs T H ℓ st hist st (ansL (Kg59.called st)) Q := k
    refine ⟨_, pss_cons (ps_if (pt_not (pt_val (pe_m0 (j := 6) D1 hr (pv 0)))) (pss_one (ps_ret (pe_lst (pa_cons (pe_un un_neg pe_int) pa_nil)))) pss_nil)
      (pss_cons (ps_set (i := 1) scUp.nd rfl (Or.inl rfl) (pe_ix ix_list (pe_d (j := 6) D2 hr (pa_cons (pv 0) pa_nil)) pe_int (fun _ _ => rfl)))
      (pss_cons (ps_set (i := 2) scUp.nd rfl (Or.inl rfl) (pe_m (j := 6) D3 hr (pv 0) (pa_cons (pv 1) pa_nil)))
      (pss_cons (ps_set (i := 3) scUp.nd rfl (Or.inl rfl) (pe_ifExp (pt_cmpR op_eq (pe_m0 (j := 6) D4 hr (pv 0)) (pv 1) (nomark _)) pe_int pe_int))
      (pss_one (ps_ret (pe_lst (pa_cons (pv 1) (pa_cons (pe_fld (pv 2) rfl) (pa_cons (pv 3) (pa_cons (pe_op op_add (pe_callB call_len_seq (by rfl) X.len PySem.boot_len (pa_cons (pe_fld (pv 2) rfl) pa_nil)) pe_int) (pa_cons (pe_fld (pv 0) rfl) pa_nil))))))))))), ?_⟩
    refine ⟨_, rfl, ℓ.c, ℓ.cd, _, rfl, R.con, con_none (by simp), ℓ, st, hist, rfl, R, _, rfl, ?_⟩
    by_cases ho : st.begun = true ∧ st.lift < 2
    · rw [(on_iff st).mpr ho]
      obtain ⟨i, r, eo, hi, h3⟩ := Bm.order_cons J ho.1 ho.2
      refine iteF ⟨_, rfl, ℓ, st, hist, rfl, R, tb, ho.2, J.n24, fun H1 p e1 t1 hp => ?_⟩
      have R1 := R.ext e1
      rw [eo] at hp
      refine ⟨p, _, _, _, rfl, rfl, SqL.of hp, atI_nat (j := 0) rfl, ?_⟩
      have hrc := R1.ob (.rc st.lift i) ⟨ho.2, hi⟩
      have hal := R1.ob (.al st.lift i) ⟨ho.2, hi⟩
      refine ⟨_, rfl, ℓ.c, ℓ.cd, _, rfl, R1.con, con_none (by simp), _, rfl, ℓ, st, hist, i, rfl, R1, hi, ho.2, ?_⟩
      refine ⟨_, rfl, ℓ.c, ℓ.cd, _, rfl, R1.con, con_none (by simp), ℓ, st, hist, rfl, R1, J, _, rfl, ?_⟩
      have ea : ansL (Kg59.called st) = [(i : Int), ((st.liftOf i st.lift).next : Nat), ((if st.last = some i then 120 else 60 : Nat) : Int), (((st.liftOf i st.lift).tries.length + 1 : Nat) : Int), (st.lift : Nat)] := by
        unfold Kg59.called ansL
        rw [Bm.up_cons ho.1 eo]
        rfl
      have fin : ∀ n : Nat, n = (if st.last = some i then 120 else 60) → tRet (tLst (tCons (tVar 1) (tCons (tFld K (tVar 2) "wanted") (tCons (tVar 3) (tCons (tOp (rI0 fun i j => .int (i + j)) (tCB (fun xs H Q => ∃ p ys, xs = [V.ref p] ∧ (SqL K H p ys ∨ SqT K H p ys) ∧ Q (.int ys.length) H) (tCons (tFld K (tVar 2) "attempts") tNil)) (tC (.int 1))) (tCons (tFld K (tVar 0) "lift") tNil))))))
          { nx := fun _ H' => Q V.non H', rt := Q } [some (.ref ℓ.c), some (.int (i : Nat)), some (.ref (ℓ.f (.rc st.lift i))), some (.int (n : Nat))] H1 := fun n en => by
        refine ⟨_, rfl, _, rfl, ℓ.f (.rc st.lift i), cs.R, _, _, _, rfl, hrc, X.cR, X.rW, rec_wanted, _, rfl, _, rfl, ℓ.f (.rc st.lift i), cs.R, _, _, _, rfl, hrc, X.cR, X.rA, rec_attempts, ℓ.f (.al st.lift i), _, rfl, .inl (SqL.of hal), _, _, rfl, rfl,
          _, rfl, ℓ.c, cs.C, ℓ.cd, _, _, rfl, R1.con, X.cC, X.cL, con_lift, (by show 5 ≤ sizeLine; decide), fun p2 hp2 => ?_⟩
        have z := k.still R J e1 t1 hp2
        rw [ea, ← en] at z
        rw [List.length_map, List.length_range]
        exact z
      cases el : st.last with
      | none =>
        have ev : lastV st = .non := by unfold lastV; rw [el]
        rw [ev]
        exact ⟨rfl, _, rfl, ite2 (fun z => absurd (decide_eq_true_eq.mp z) fun y => nomatch y) fun _ => fin 60 (by rw [el]; rfl)⟩
      | some j =>
        have ev : lastV st = .int (j : Nat) := by unfold lastV; rw [el]
        rw [ev]
        refine ⟨rfl, _, rfl, ite2 (fun z => ?_) fun z => ?_⟩
        · rw [decide_eq_true_eq, V.int.injEq] at z
          exact fin 120 (by rw [el, if_pos (by rw [show j = i by omega])])
        · rw [decide_eq_true_eq, V.int.injEq] at z
          exact fin 60 (by rw [el, if_neg (by simp; omega)])
    · have hoff : (st.begun && decide (st.lift < 2)) = false := by
        cases z : (st.begun && decide (st.lift < 2)) with
        | false => rfl
        | true => exact absurd ((on_iff st).mp z) ho
      have ea : ansL (Kg59.called st) = [-4] := by
        unfold Kg59.called ansL
        rw [Bm.up_off J ho]
        rfl
      rw [hoff]
      refine iteT ⟨_, rfl, (by show 1 ≤ sizeLine; decide), fun p hp => ?_⟩
      have z := k.still R J (ExtN.refl H) tb hp
      rw [ea] at z
      exact z
theorem flat_len (l : List Nat) (g : Nat → Nat) : (l.flatMap fun i => [i, g i]).length = 2 * l.length := by
  induction l with
  | nil => rfl
  | cons x r ih =>
    rw [List.flatMap_cons, List.length_append, ih, List.length_cons]
    simp
    omega
theorem take_more {α : Type} {l : List α} {i : Nat} {x : α} (h : l[i]? = some x) : l.take (i + 1) = l.take i ++ [x] := by
  rw [List.take_add_one, h]
  rfl
theorem flat_more {l : List Nat} {i x : Nat} (g : Nat → Nat) (h : l[i]? = some x) : (l.take (i + 1)).flatMap (fun i => [i, g i]) = (l.take i).flatMap (fun i => [i, g i]) ++ [x, g x] := by
  rw [take_more h, List.flatMap_append]
  simp
/-- a number, then two for each -/
def pairsL (l : List Nat) (g : Nat → Nat) : List Int := (l.length : Int) :: Kg59.whole (l.flatMap fun i => [i, g i])
def pairsTo (l : List Nat) (g : Nat → Nat) (i : Nat) : List V := ((l.length : Int) :: Kg59.whole ((l.take i).flatMap fun i => [i, g i])).map V.int
theorem pairs_more {l : List Nat} {i x : Nat} (g : Nat → Nat) (h : l[i]? = some x) : pairsTo l g (i + 1) = pairsTo l g i ++ [.int (x : Nat)] ++ [.int (g x : Nat)] := by
  unfold pairsTo Kg59.whole
  rw [flat_more g h]
  simp
theorem pairs_len (l : List Nat) (g : Nat → Nat) (i : Nat) : (pairsTo l g i).length ≤ 2 * l.length + 1 := by
  unfold pairsTo Kg59.whole
  rw [List.length_map, List.length_cons, List.length_map, flat_len, List.length_take]
  omega
theorem pairs_end (l : List Nat) (g : Nat → Nat) : pairsTo l g l.length = (pairsL l g).map V.int := by
  unfold pairsTo pairsL
  rw [List.take_length]
theorem ok_order {f : Addr} {fd : FuncData} (F : Fun K "order" "order" sOrder f fd) (X : Txt K mg cs) (D1 : MethOk P w K mg base 1 cs.C "is_on" ["self"] (spOn cs)) (D2 : DefOk P w K mg base 6 "left_in_order" ["contest"] (spLio cs T))
    (D3 : MethOk P w K mg base 1 cs.C "record" ["self", "lifter"] (spRecord cs)) : FnOk P w K mg base CX0 7 f fd ["contest"] (spOrder cs T) := by
  refine F.ok scOrder (fun vs H Q E h => ?_) (fun cdv A outer s H vs Q E hr h => ?_)
  · obtain ⟨_, _, _, rfl, _⟩ := h
    rfl
  · obtain ⟨ℓ, st, hist, rfl, R, J, tb, k⟩ := h
    have k : Post cs T H ℓ st hist st (ansL (orderAns st)) Q := k
    refine ⟨_, pss_cons (ps_if (pt_not (pt_val (pe_m0 (j := 6) D1 hr (pv 0)))) (pss_one (ps_ret (pe_lst (pa_cons (pe_un un_neg pe_int) pa_nil)))) pss_nil)
      (pss_cons (ps_set (i := 1) scOrder.nd rfl (Or.inl rfl) (pe_d (j := 6) D2 hr (pa_cons (pv 0) pa_nil)))
      (pss_cons (ps_set (i := 2) scOrder.nd rfl (Or.inl rfl) (pe_lst (pa_cons (pe_callB call_len_seq (by rfl) X.len PySem.boot_len (pa_cons (pv 1) pa_nil)) pa_nil)))
      (pss_cons (ps_for PassesOwn.never rfl (pi_list (pv 1)) (pg_name (i := 3) scOrder.nd rfl (Or.inl rfl))
        (pss_cons (ps_expr (pe_bm PySem.F.plainAttrs_list PySem.F.slot_list_append PySem.F.type_list_append mt_append (pv 2) (pa_cons (pv 3) pa_nil)))
        (pss_one (ps_expr (pe_bm PySem.F.plainAttrs_list PySem.F.slot_list_append PySem.F.type_list_append mt_append (pv 2) (pa_cons (pe_fld (pe_m (j := 6) D3 hr (pv 0) (pa_cons (pv 3) pa_nil)) rfl) pa_nil))))))
      (pss_one (ps_ret (pv 2)))))), ?_⟩
    refine ⟨_, rfl, ℓ.c, ℓ.cd, _, rfl, R.con, con_none (by simp), ℓ, st, hist, rfl, R, _, rfl, ?_⟩
    by_cases ho : st.begun = true ∧ st.lift < 2
    · rw [(on_iff st).mpr ho]
      have ea : ansL (orderAns st) = pairsL st.order fun i => (st.liftOf i st.lift).next := by
        unfold orderAns
        rw [if_neg (by rw [ho.1]; simp; omega)]
        rfl
      rw [ea] at k
      have hlen : st.order.length ≤ 24 := by rw [Bm.order_len]; exact Bm.left_len J
      refine iteF ⟨_, rfl, ℓ, st, hist, rfl, R, tb, ho.2, J.n24, fun H1 p e1 t1 hp => ?_⟩
      have R1 := R.ext e1
      refine ⟨_, rfl, p, _, rfl, .inl (SqL.of hp), (by show 1 ≤ sizeLine; decide), fun q hq => ?_⟩
      rw [List.length_map]
      have s1 : Same H1 (upd H1 q (.lst [.int (st.order.length : Nat)])) := same_upd hq
      have npq : p ≠ q := ne_of_none hp hq
      refine ⟨_, rfl, p, rfl, ⟨_, s1.seq (SqL.of hp)⟩, for_list (K := K) (a := p) (xs := st.order.map fun i => V.int (i : Nat)) (fun i σ H2 => ∃ v : Option V, σ = [some (.ref ℓ.c), some (.ref p), some (.ref q), v] ∧ Same H1 H2 ∧ H2 q = some (.lst (pairsTo st.order (fun i => (st.liftOf i st.lift).next) i)))
        ⟨none, rfl, s1, upd_same⟩ (fun i σ H2 _ ⟨_, _, s2, _⟩ => s2.seq (SqL.of hp)) ?_ ?_⟩
      · rintro i y σ H2 hi ⟨v, rfl, s2, hq2⟩
        rw [List.getElem?_map] at hi
        cases ei : st.order[i]? with
        | none =>
          rw [ei] at hi
          cases hi
        | some x =>
          rw [ei] at hi
          have ey : y = V.int (x : Nat) := (Option.some.inj hi).symm
          subst ey
          have hx := Bm.left_mem.mp (Bm.order_mem.mp (List.mem_of_getElem? ei))
          have pl := pairs_len st.order (fun i => (st.liftOf i st.lift).next) i
          have up1 : ∀ (xs : List V), Same H1 (upd H2 q (.lst xs)) := fun xs b o e => by
            rw [upd_ne (ne_of_none e hq)]
            exact s2 _ _ e
          have R2 := R1.same (up1 (pairsTo st.order (fun i => (st.liftOf i st.lift).next) i ++ [.int (x : Nat)]))
          refine ⟨_, rfl, .inl ⟨rfl, _, SqL.of hq2⟩, _, rfl, q, _, _, rfl, rfl, hq2, small1000 (by omega), ?_⟩
          refine ⟨_, rfl, .inl ⟨rfl, _, SqL.of upd_same⟩, _, rfl, ℓ.c, ℓ.cd, _, rfl, R2.con, con_none (by simp), _, rfl, ℓ, st, hist, x, rfl, R2, hx.1, ho.2, ?_⟩
          refine ⟨ℓ.f (.rc st.lift x), cs.R, _, _, _, rfl, R2.ob (.rc st.lift x) ⟨ho.2, hx.1⟩, X.cR, X.rW, rec_wanted, q, _, _, rfl, rfl, upd_same, small1000 (by rw [List.length_append]; simp; omega), ?_⟩
          refine ⟨_, rfl, fun b o e => ?_, ?_⟩
          · rw [upd_ne (ne_of_none e hq)]
            exact up1 _ _ _ e
          · rw [upd_same, pairs_more _ ei]
      · rintro σ H2 ⟨v, rfl, s2, hq2⟩
        rw [List.length_map, pairs_end] at hq2
        exact ⟨_, rfl, k.filled R J e1 (t1.ext s2) hq s2 hq2⟩
    · have hoff : (st.begun && decide (st.lift < 2)) = false := by
        cases z : (st.begun && decide (st.lift < 2)) with
        | false => rfl
        | true => exact absurd ((on_iff st).mp z) ho
      have ea : ansL (orderAns st) = [-4] := by
        unfold orderAns ansL
        rw [if_pos]
        · rfl
        · have := J.lift2
          cases hb : st.begun with
          | false => exact .inl rfl
          | true => exact .inr (by have : ¬ st.lift < 2 := fun z => ho ⟨hb, z⟩; omega)
      rw [hoff]
      refine iteT ⟨_, rfl, (by show 1 ≤ sizeLine; decide), fun p hp => ?_⟩
      have z := k.still R J (ExtN.refl H) tb hp
      rw [ea] at z
      exact z
end
end Bc
namespace Bc
open PySem PySem.Spec PyProof.Rows L2 LamX

section
variable {cs : Cs} {H H' : Hp} {ℓ : Lay} {s : Kg59.State} {hist : Hist} {T : List (Addr × Str)}
theorem obj_rc (m j : Nat) : obj cs ℓ s hist (.rc m j) = .ins cs.R (ℓ.d (.rc m j)) (recF (s.liftOf j m).next (s.liftOf j m).changes (ℓ.f (.al m j))) := rfl
theorem liftOf_putEq {i k : Nat} {x : Kg59.Lift} (hi : i < s.lifters.length) : (s.put i k x).liftOf i k = x := by
  rw [Bm.liftOf_put s i k x i k hi, if_pos ⟨rfl, Iff.rfl⟩]
theorem liftOf_putNe {i k j m : Nat} {x : Kg59.Lift} (hi : i < s.lifters.length) (hk : k < 2) (hm : m < 2) (h : ¬ (j = i ∧ m = k)) : (s.put i k x).liftOf j m = s.liftOf j m := by
  rw [Bm.liftOf_put s i k x j m hi, if_neg]
  rintro ⟨h1, h2⟩
  exact h ⟨h1, by omega⟩
/-- the same attempts in number: the same parts -/
theorem has_put {i k : Nat} {x : Kg59.Lift} (hi : i < s.lifters.length) (hk : k < 2) (hx : x.tries.length = (s.liftOf i k).tries.length) (o : Ob) : Has (s.put i k x) hist o ↔ Has s hist o := by
  have len := Bm.put_len s i k x
  cases o with
  | rc m j => unfold Has; rw [len]
  | al m j => unfold Has; rw [len]
  | «at» m j l =>
    unfold Has
    rw [len]
    constructor
    · rintro ⟨h1, h2, h3⟩
      refine ⟨h1, h2, ?_⟩
      by_cases h : j = i ∧ m = k
      · obtain ⟨rfl, rfl⟩ := h
        rw [liftOf_putEq hi, hx] at h3
        exact h3
      · rw [liftOf_putNe hi hk h1 h] at h3
        exact h3
    · rintro ⟨h1, h2, h3⟩
      refine ⟨h1, h2, ?_⟩
      by_cases h : j = i ∧ m = k
      · obtain ⟨rfl, rfl⟩ := h
        rw [liftOf_putEq hi, hx]
        exact h3
      · rw [liftOf_putNe hi hk h1 h]
        exact h3
  | _ => exact Iff.rfl
theorem own_put {i k : Nat} {x : Kg59.Lift} (hi : i < s.lifters.length) (hk : k < 2) (hx : x.tries.length = (s.liftOf i k).tries.length) (b : Addr) : Own ℓ (s.put i k x) hist b ↔ Own ℓ s hist b := by
  unfold Own
  constructor
  · rintro (z | ⟨o, ho, z⟩)
    · exact .inl z
    · exact .inr ⟨o, (has_put hi hk hx o).mp ho, z⟩
  · rintro (z | ⟨o, ho, z⟩)
    · exact .inl z
    · exact .inr ⟨o, (has_put hi hk hx o).mpr ho, z⟩
/-- parts whose data the put lift does not tell -/
theorem obj_put {i k : Nat} {x : Kg59.Lift} (hi : i < s.lifters.length) (hk : k < 2) (hx : x.tries.length = (s.liftOf i k).tries.length) {o : Ob} (ho : Has s hist o) (h1 : o ≠ .rc k i) (h2 : ∀ j, o = .at k i j → x.tries.getD j ⟨0, 0, 0⟩ = tryAt s k i j) : obj cs ℓ (s.put i k x) hist o = obj cs ℓ s hist o := by
  have len := Bm.put_len s i k x
  cases o with
  | tm =>
    show HO.lst _ = HO.lst _
    have e : ∀ t : Kg59.State, (t.lifters.map fun l => V.int (l.team : Nat)) = (t.lifters.map Kg59.Lifter.team).map fun n => V.int (n : Nat) := fun t => by rw [List.map_map]; rfl
    rw [e, e, Bm.teams_put]
  | hs => rfl
  | rs => rfl
  | ls m =>
    show HO.lst _ = HO.lst _
    rw [len]
  | rc m j =>
    have h : ¬ (j = i ∧ m = k) := fun ⟨z1, z2⟩ => h1 (by rw [z1, z2])
    rw [obj_rc, obj_rc, liftOf_putNe hi hk ho.1 h]
  | al m j =>
    show HO.lst _ = HO.lst _
    by_cases h : j = i ∧ m = k
    · obtain ⟨rfl, rfl⟩ := h
      rw [liftOf_putEq hi, hx]
    · rw [liftOf_putNe hi hk ho.1 h]
  | «at» m j l =>
    have e : tryAt (s.put i k x) m j l = tryAt s m j l := by
      by_cases h : j = i ∧ m = k
      · obtain ⟨rfl, rfl⟩ := h
        unfold tryAt
        rw [liftOf_putEq hi]
        exact h2 l rfl
      · unfold tryAt
        rw [liftOf_putNe hi hk ho.1 h]
    show HO.ins cs.T _ (attF _) = HO.ins cs.T _ (attF _)
    rw [e]
  | ht p => rfl
/-- a record written -/
theorem Rep.putRec (R : Rep cs H ℓ s hist) {i k : Nat} {x : Kg59.Lift} (hi : i < s.lifters.length) (hk : k < 2) (hx : x.tries = (s.liftOf i k).tries) :
    Rep cs (upd H (ℓ.f (.rc k i)) (.ins cs.R (ℓ.d (.rc k i)) (recF x.next x.changes (ℓ.f (.al k i))))) ℓ (s.put i k x) hist := by
  have hl : x.tries.length = (s.liftOf i k).tries.length := by rw [hx]
  have hr : Has s hist (.rc k i) := ⟨hk, hi⟩
  refine ⟨?_, fun o ho => ?_, fun o u ho hu e => R.inj o u ((has_put hi hk hl o).mp ho) ((has_put hi hk hl u).mp hu) e⟩
  · rw [upd_ne (R.apart hr).symm]
    exact R.con
  · have ho := (has_put hi hk hl o).mp ho
    by_cases h : o = .rc k i
    · subst h
      rw [upd_same, obj_rc, liftOf_putEq hi]
    · rw [upd_ne (R.ne ho hr h), R.ob o ho, obj_put hi hk hl ho h fun j _ => by rw [hx]; rfl]
theorem has_same {s' : Kg59.State} (h : s'.lifters = s.lifters) (o : Ob) : Has s' hist o ↔ Has s hist o := by
  have hl : ∀ i k, s'.liftOf i k = s.liftOf i k := fun i k => by
    unfold Kg59.State.liftOf
    rw [h]
  cases o <;> simp [Has, h, hl]
theorem obj_same {s' : Kg59.State} (h : s'.lifters = s.lifters) (o : Ob) : obj cs ℓ s' hist o = obj cs ℓ s hist o := by
  have hl : ∀ i k, s'.liftOf i k = s.liftOf i k := fun i k => by
    unfold Kg59.State.liftOf
    rw [h]
  cases o <;> simp [obj, h, hl, tryAt]
theorem own_same {s' : Kg59.State} (h : s'.lifters = s.lifters) (b : Addr) : Own ℓ s' hist b ↔ Own ℓ s hist b := by
  unfold Own
  constructor
  · rintro (z | ⟨o, ho, z⟩)
    · exact .inl z
    · exact .inr ⟨o, (has_same h o).mp ho, z⟩
  · rintro (z | ⟨o, ho, z⟩)
    · exact .inl z
    · exact .inr ⟨o, (has_same h o).mpr ho, z⟩
/-- the contest's own attributes written -/
theorem Rep.setCon (R : Rep cs H ℓ s hist) {s' : Kg59.State} (h : s'.lifters = s.lifters) : Rep cs (upd H ℓ.c (conO cs ℓ s')) ℓ s' hist := by
  refine ⟨upd_same, fun o ho => ?_, fun o u ho hu e => R.inj o u ((has_same h o).mp ho) ((has_same h u).mp hu) e⟩
  have ho := (has_same h o).mp ho
  rw [upd_ne (R.apart ho), R.ob o ho, obj_same h]
/-- written within -/
theorem Frame.write {s' : Kg59.State} {hist' : Hist} {a : Addr} {o : HO} (ha : Own ℓ s hist a) (h : ∀ b, Own ℓ s' hist' b → Own ℓ s hist b) : Frame H ℓ s hist (upd H a o) ℓ s' hist' := fun b u e _ n =>
  ⟨by rw [upd_ne fun z => n (by rw [z]; exact ha)]; exact e, fun z => n (h b z)⟩
theorem tabs_but {c : Addr} {o : HO} (t : Tabs T H) (hc : H c = some o) (ho : ∀ ps, o ≠ .tbl ps) (hq : ∀ q, o ≠ CodeO c q) (k : ∀ b u, H b = some u → b ≠ c → H' b = some u) : Tabs T H' := fun q hq2 => by
  obtain ⟨ps, h1, h2, h3⟩ := t q hq2
  refine ⟨ps, k _ _ h1 ?_, h2, fun pos cv z => ?_⟩
  · rintro rfl
    rw [hc] at h1
    exact ho ps (Option.some.inj h1)
  · obtain ⟨d, e1, e2⟩ := h3 pos cv z
    refine ⟨d, e1, k _ _ e2 ?_⟩
    rintro rfl
    rw [hc] at e2
    exact hq _ (Option.some.inj e2)
theorem tabs_ins {c C dx : Addr} {fs : List (Str × V)} (t : Tabs T H) (hc : H c = some (.ins C dx fs)) (k : ∀ b u, H b = some u → b ≠ c → H' b = some u) : Tabs T H' :=
  tabs_but t hc (fun ps z => nomatch z) (fun q z => by unfold CodeO at z; cases z) k
theorem tabs_lst {c : Addr} {xs : List V} (t : Tabs T H) (hc : H c = some (.lst xs)) (k : ∀ b u, H b = some u → b ≠ c → H' b = some u) : Tabs T H' :=
  tabs_but t hc (fun ps z => nomatch z) (fun q z => by unfold CodeO at z; cases z) k
end
end Bc
namespace Bc
open PySem PySem.Spec PyProof.Rows L2 LamX

section
variable {P : Program} {w : World} {K : PySem.W.Frag} {mg : Str → Option Value} {base : Heap} {cs : Cs} {T : List (Addr × Str)}

/-! ### begin, ask, start -/
abbrev sBegin : Stmt := top 27
abbrev sAsk : Stmt := top 28
abbrev sStart : Stmt := top 29
theorem scBegin : FnScope ["contest", "teams", "team"] ["contest", "teams"] (defScope sBegin) := ⟨rfl, rfl, rfl, by decide +kernel, rfl, by decide +kernel, by decide +kernel⟩
theorem scAsk : FnScope ["contest", "lifter", "first", "second"] ["contest", "lifter", "first", "second"] (defScope sAsk) := ⟨rfl, rfl, rfl, by decide +kernel, rfl, by decide +kernel, by decide +kernel⟩
theorem scStart : FnScope ["contest", "record"] ["contest"] (defScope sStart) := ⟨rfl, rfl, rfl, by decide +kernel, rfl, by decide +kernel, by decide +kernel⟩
/-- the state, the answer behind a call -/
abbrev nxt (c : Kg59.Call) (s : Kg59.State) : Kg59.State := (Kg59.spec s c).1
abbrev told (c : Kg59.Call) (s : Kg59.State) : List Int := ansL (Kg59.spec s c).2
def spBegin (cs : Cs) (K : PySem.W.Frag) (T : List (Addr × Str)) : Sp := fun vs H Q _ => ∃ (ℓ : Lay) (s : Kg59.State) (hist : Hist) (l : Addr) (ts : List Int), vs = [.ref ℓ.c, .ref l] ∧ Rep cs H ℓ s hist ∧ Bm.Ok s hist ∧ Tabs T H ∧
  SqL K H l (ts.map V.int) ∧ ts.length ≤ 30000 ∧ Post cs T H ℓ s hist (nxt (.begin_ ts) s) (told (.begin_ ts) s) Q
theorem all_more (q : Int → Bool) (ts : List Int) : (ts.map q).all id = ts.all q := by
  rw [List.all_map]
  rfl
theorem map_more {ts : List Int} {i : Nat} {z : Int} (q : Int → V) (h : ts[i]? = some z) : (ts.take (i + 1)).map q = (ts.take i).map q ++ [q z] := by
  rw [take_more h, List.map_append]
  rfl
theorem ok_begin {f : Addr} {fd : FuncData} (F : Fun K "begin" "begin" sBegin f fd) (X : Txt K mg cs) (D1 : DefOk P w K mg base 1 "is_team" ["team"] spTeam) (D2 : MethOk P w K mg base 4 cs.C "renew" ["self", "teams"] (spRenew cs K)) :
    FnOk P w K mg base CX0 5 f fd ["contest", "teams"] (spBegin cs K T) := by
  refine F.ok scBegin (fun vs H Q E h => ?_) (fun cdv A outer s H vs Q E hr h => ?_)
  · obtain ⟨_, _, _, _, _, rfl, _⟩ := h
    rfl
  · obtain ⟨ℓ, st, hist, l, ts, rfl, R, J, tb, hl, hn, k⟩ := h
    refine ⟨_, pss_cons (ps_if (pt_not (pt_chain op_le op_le pe_int (pe_callB call_len_seq (by rfl) X.len PySem.boot_len (pa_cons (pv 1) pa_nil)) (pe_gi X.gMost))) (pss_one (ps_ret (pe_lst (pa_cons (pe_un un_neg pe_int) pa_nil)))) pss_nil)
      (pss_cons (ps_if (pt_not (pt_val (pe_callB (cr_all rfl) (by rfl) X.all (by decide +kernel) (pa_cons (pe_lc (own := [("team", 2)]) (g := gName 2) (tt := tYes) rfl scBegin.nd (pi_list (pv 1)) (blkOk_by (N := ["contest", "teams", "team"]) (sc := defScope sBegin) (by decide +kernel))
          (fun _ _ _ _ _ => pg_name (i := 2) scBegin.nd rfl (Or.inl rfl)) (fun _ _ _ _ _ => pts_nil) (fun _ _ _ _ _ => pe_d (j := 4) D1 hr (pa_cons (pv 2) pa_nil))) pa_nil))))
          (pss_one (ps_ret (pe_lst (pa_cons (pe_un un_neg pe_int) pa_nil)))) pss_nil)
      (pss_cons (ps_expr (pe_m (j := 4) D2 hr (pv 0) (pa_cons (pv 1) pa_nil)))
      (pss_one (ps_ret (pe_lst (pa_cons (pe_callB call_len_seq (by rfl) X.len PySem.boot_len (pa_cons (pv 1) pa_nil)) pa_nil)))))), ?_⟩
    -- the refusal
    have no : (ts.all (fun z => Kg59.within z 0 20) && (decide (1 ≤ ts.length) && decide (ts.length ≤ 24))) = false → ∀ (H1 : Hp) (p : Addr), Same H H1 → H1 p = none → Q (.ref p) (upd H1 p (.lst [.int (-1)])) := fun e H1 p s1 hp => by
      have k1 : Post cs T H ℓ st hist st [-1] Q := by
        have e1 : nxt (.begin_ ts) st = st := by show (Kg59.spec st (.begin_ ts)).1 = st; unfold Kg59.spec; dsimp only; rw [if_pos e]
        have e2 : told (.begin_ ts) st = [-1] := by show ansL (Kg59.spec st (.begin_ ts)).2 = _; unfold Kg59.spec; dsimp only; rw [if_pos e]; rfl
        rw [e1, e2] at k
        exact k
      exact k1.still R J (ExtN.of s1) (tb.ext s1) hp
    have len : ∀ {n : Nat}, n = (ts.map V.int).length → n = ts.length := fun z => by rw [z, List.length_map]
    refine ⟨_, rfl, l, _, rfl, .inl hl, _, _, rfl, rfl, _, rfl, ?_⟩
    rw [List.length_map]
    by_cases h1 : 1 ≤ ts.length
    · have d1 : decide ((1 : Int) ≤ (ts.length : Nat)) = true := by simp; omega
      rw [d1]
      refine iteT ⟨_, _, rfl, rfl, _, rfl, ?_⟩
      by_cases h2 : ts.length ≤ 24
      · have d2 : decide ((ts.length : Int) ≤ 24) = true := by simp; omega
        rw [d2]
        refine iteF ?_
        refine ⟨_, rfl, l, rfl, ⟨_, hl⟩, fun D hD => lc_list (K := K) (a := l) (xs := ts.map V.int) (fun i H1 => Same H H1 ∧ H1 D = some (.lst (((ts.take i).map fun z => Kg59.within z 0 20).map V.bl))) ⟨same_upd hD, upd_same⟩ (fun i H1 _ h => h.1.seq hl) ?_ ?_⟩
        · intro i x H1 hx h1
          obtain ⟨s1, hD1⟩ := h1
          rw [List.getElem?_map] at hx
          cases ez : ts[i]? with
          | none =>
            rw [ez] at hx
            cases hx
          | some z =>
            rw [ez] at hx
            have ex : x = V.int z := (Option.some.inj hx).symm
            subst ex
            refine ⟨rfl, tYes_in ⟨_, rfl, z, rfl, _, hD1, ?_, fun b o e => ?_, ?_⟩⟩
            · rw [List.length_map, List.length_map, List.length_take]
              exact small1000 (by omega)
            · rw [upd_ne (ne_of_none e hD)]
              exact s1 _ _ e
            · rw [upd_same, take_more ez, List.map_append, List.map_append]
              rfl
        · intro H1 h1
          obtain ⟨s1, hD1⟩ := h1
          rw [List.length_map, List.take_length] at hD1
          refine ⟨D, _, rfl, SqL.of hD1, _, rfl, ?_⟩
          rw [all_more]
          by_cases h3 : ts.all (fun z => Kg59.within z 0 20) = true
          · rw [h3]
            refine iteF ?_
            have R1 := R.same s1
            have hpos : ∀ z ∈ ts, 0 ≤ z := fun z hz => by
              have q := List.all_eq_true.mp h3 z hz
              unfold Kg59.within at q
              simp at q
              exact q.1
            have hl1 := s1.seq hl
            refine ⟨_, rfl, ℓ.c, ℓ.cd, _, rfl, R1.con, con_none (by simp), _, rfl, ℓ.c, ℓ.cd, l, _, ts, rfl, R1.con, .inr ⟨_, _, _, _, _, _, rfl⟩, hl1, by omega, hpos, fun H2 ℓ2 hc R2 fr => ?_⟩
            have eT : (ts.all (fun z => Kg59.within z 0 20) && (decide (1 ≤ ts.length) && decide (ts.length ≤ 24))) = true := by rw [h3]; simp; omega
            have k1 : Post cs T H ℓ st hist (Bm.fresh ts) [((ts.length : Nat) : Int)] Q := by
              have e1 : nxt (.begin_ ts) st = Bm.fresh ts := by show (Kg59.spec st (.begin_ ts)).1 = _; unfold Kg59.spec; dsimp only; rw [if_neg (by rw [eT]; simp)]; rfl
              have e2 : told (.begin_ ts) st = [((ts.length : Nat) : Int)] := by show ansL (Kg59.spec st (.begin_ ts)).2 = _; unfold Kg59.spec; dsimp only; rw [if_neg (by rw [eT]; simp)]; rfl
              rw [e1, e2] at k
              exact k
            have hl2 : SqL K H2 l (ts.map V.int) := by
              rcases hl1 with (z | ⟨o, z⟩) | z
              · exact .inl (.inl (fr _ _ z (ne_of z R1.con fun y => nomatch y)).1)
              · exact .inl (.inr ⟨o, (fr _ _ z (ne_of z R1.con fun y => nomatch y)).1⟩)
              · exact .inr z
            have t2 : Tabs T H2 := tabs_ins (tb.ext s1) R1.con fun b o e hb => (fr b o e hb).1
            refine ⟨_, rfl, l, _, rfl, .inl hl2, (by show 1 ≤ sizeLine; decide), fun p hp => ?_⟩
            rw [List.length_map]
            have k2 := k1.after (Frame.ext (ExtN.of s1)) rfl
            refine k2 _ p ℓ2 [] hc (R2.same (same_upd hp)) (Bm.ok_fresh ts (by omega)) (tabs_upd t2 hp) (fun b o e n m => ?_) (fun b o e n m => ?_) (R2.new hp) upd_same
            · have hb : b ≠ ℓ.c := fun z => m (.inl z)
              obtain ⟨q1, q2⟩ := fr b o e hb
              exact ⟨by rw [upd_ne (ne_of_none q1 hp)]; exact q1, q2⟩
            · have hb : b ≠ ℓ.c := fun z => m (.inl z)
              exact ne_of_none (fr b o e hb).1 hp
          · have h3 : ts.all (fun z => Kg59.within z 0 20) = false := by simpa using h3
            rw [h3]
            exact iteT ⟨_, rfl, (by show 1 ≤ sizeLine; decide), fun p hp => no (by rw [h3]; rfl) H1 p s1 hp⟩
      · have d2 : decide ((ts.length : Int) ≤ 24) = false := by simp; omega
        rw [d2]
        exact iteT ⟨_, rfl, (by show 1 ≤ sizeLine; decide), fun p hp => no (by simp; omega) H p (Same.refl H) hp⟩
    · have d1 : decide ((1 : Int) ≤ (ts.length : Nat)) = false := by simp; omega
      rw [d1]
      exact iteF ⟨_, rfl, iteT ⟨_, rfl, (by show 1 ≤ sizeLine; decide), fun p hp => no (by simp; omega) H p (Same.refl H) hp⟩⟩
theorem spec_ask (s : Kg59.State) (z a b : Int) : Kg59.spec s (.ask z a b) = if (Kg59.isLifter s z && (Kg59.within a 1 500 && Kg59.within b 1 500)) = false then (s, Kg59.num (-1))
    else if s.begun = true then (s, Kg59.num (-3)) else ((s.put z.toNat 0 ⟨[], a.toNat, 0⟩).put z.toNat 1 ⟨[], b.toNat, 0⟩, Kg59.num 0) := rfl
theorem ok_askD {f : Addr} {fd : FuncData} (F : Fun K "ask" "ask" sAsk f fd) (X : Txt K mg cs) (D1 : MethOk P w K mg base 1 cs.C "has_lifter" ["self", "lifter"] (spHas cs)) (D2 : DefOk P w K mg base 1 "is_weight" ["weight"] spWeight) (z a b : Int) :
    FnOk P w K mg base CX0 2 f fd ["contest", "lifter", "first", "second"] (spCall cs T [.int z, .int a, .int b] (nxt (.ask z a b)) (told (.ask z a b))) := by
  refine F.ok scAsk (fun vs H Q E h => ?_) (fun cdv A outer s H vs Q E hr h => ?_)
  · obtain ⟨_, _, _, rfl, _⟩ := h
    rfl
  · obtain ⟨ℓ, st, hist, rfl, R, J, tb, k⟩ := h
    refine ⟨_, pss_cons (ps_if (PW.pt (pw_or (pt_not (pt_val (pe_m (j := 1) D1 hr (pv 0) (pa_cons (pv 1) pa_nil)))) (pw_or (pt_not (pt_val (pe_d (j := 1) D2 hr (pa_cons (pv 2) pa_nil)))) (pw_or1 (pt_not (pt_val (pe_d (j := 1) D2 hr (pa_cons (pv 3) pa_nil))))))))
        (pss_one (ps_ret (pe_lst (pa_cons (pe_un un_neg pe_int) pa_nil)))) pss_nil)
      (pss_cons (ps_if (pt_val (pe_fld (pv 0) rfl)) (pss_one (ps_ret (pe_lst (pa_cons (pe_un un_neg pe_int) pa_nil)))) pss_nil)
      (pss_cons (ps_fld (pe_ix ix_list (pe_ix ix_list (pe_fld (pv 0) rfl) pe_int (fun _ _ => rfl)) (pv 1) (fun _ _ => rfl)) (pv 2) rfl)
      (pss_cons (ps_fld (pe_ix ix_list (pe_ix ix_list (pe_fld (pv 0) rfl) pe_int (fun _ _ => rfl)) (pv 1) (fun _ _ => rfl)) (pv 3) rfl)
      (pss_one (ps_ret (pe_lst (pa_cons pe_int pa_nil))))))), ?_⟩
    have no : (Kg59.isLifter st z && (Kg59.within a 1 500 && Kg59.within b 1 500)) = false → ∀ p, H p = none → Q (.ref p) (upd H p (.lst [.int (-1)])) := fun e p hp => by
      have k1 : Post cs T H ℓ st hist st [-1] Q := by
        have e1 : nxt (.ask z a b) st = st := by show (Kg59.spec st (.ask z a b)).1 = st; rw [spec_ask, if_pos e]
        have e2 : told (.ask z a b) st = [-1] := by show ansL (Kg59.spec st (.ask z a b)).2 = _; rw [spec_ask, if_pos e]; rfl
        rw [e1, e2] at k
        exact k
      exact k1.still R J (ExtN.refl H) tb hp
    refine ⟨_, rfl, ℓ.c, ℓ.cd, _, rfl, R.con, con_none (by simp), _, rfl, ℓ, st, hist, z, rfl, R, _, rfl, ?_⟩
    cases h1 : Kg59.isLifter st z with
    | false => exact iteT (iteT ⟨_, rfl, (by show 1 ≤ sizeLine; decide), fun p hp => no (by rw [h1]; rfl) p hp⟩)
    | true =>
    refine iteF ⟨_, rfl, a, rfl, _, rfl, ?_⟩
    cases h2 : Kg59.within a 1 500 with
    | false => exact iteT (iteT ⟨_, rfl, (by show 1 ≤ sizeLine; decide), fun p hp => no (by rw [h2]; simp) p hp⟩)
    | true =>
    refine iteF ⟨_, rfl, b, rfl, _, rfl, ?_⟩
    cases h3 : Kg59.within b 1 500 with
    | false => exact iteT ⟨_, rfl, (by show 1 ≤ sizeLine; decide), fun p hp => no (by rw [h3]; simp) p hp⟩
    | true =>
    refine iteF ⟨_, rfl, ℓ.c, cs.C, ℓ.cd, _, _, rfl, R.con, X.cC, X.cB, con_begun, _, rfl, ?_⟩
    have eA : ¬ (Kg59.isLifter st z && (Kg59.within a 1 500 && Kg59.within b 1 500)) = false := by rw [h1, h2, h3]; simp
    by_cases hb : st.begun = true
    · rw [hb]
      have k1 : Post cs T H ℓ st hist st [-3] Q := by
        have e1 : nxt (.ask z a b) st = st := by show (Kg59.spec st (.ask z a b)).1 = st; rw [spec_ask, if_neg eA, if_pos hb]
        have e2 : told (.ask z a b) st = [-3] := by show ansL (Kg59.spec st (.ask z a b)).2 = _; rw [spec_ask, if_neg eA, if_pos hb]; rfl
        rw [e1, e2] at k
        exact k
      exact iteT ⟨_, rfl, (by show 1 ≤ sizeLine; decide), fun p hp => k1.still R J (ExtN.refl H) tb hp⟩
    · have hb : st.begun = false := by simpa using hb
      rw [hb]
      have hz : ∃ i : Nat, z = (i : Nat) ∧ i < st.lifters.length := by
        unfold Kg59.isLifter at h1
        simp at h1
        exact ⟨z.toNat, by omega, by omega⟩
      obtain ⟨i, rfl, hi⟩ := hz
      have ha : ∃ n : Nat, a = (n : Nat) ∧ n ≤ 500 := by
        unfold Kg59.within at h2
        simp at h2
        exact ⟨a.toNat, by omega, by omega⟩
      obtain ⟨n, rfl, hn⟩ := ha
      have hb2 : ∃ m : Nat, b = (m : Nat) ∧ m ≤ 500 := by
        unfold Kg59.within at h3
        simp at h3
        exact ⟨b.toNat, by omega, by omega⟩
      obtain ⟨m, rfl, hm⟩ := hb2
      have k1 : Post cs T H ℓ st hist ((st.put i 0 ⟨[], n, 0⟩).put i 1 ⟨[], m, 0⟩) [0] Q := by
        have e1 : nxt (.ask (i : Nat) (n : Nat) (m : Nat)) st = (st.put i 0 ⟨[], n, 0⟩).put i 1 ⟨[], m, 0⟩ := by show (Kg59.spec st _).1 = _; rw [spec_ask, if_neg eA, if_neg (by rw [hb]; simp)]; rfl
        have e2 : told (.ask (i : Nat) (n : Nat) (m : Nat)) st = [0] := by show ansL (Kg59.spec st _).2 = _; rw [spec_ask, if_neg eA, if_neg (by rw [hb]; simp)]; rfl
        rw [e1, e2] at k
        exact k
      have c0 : (st.liftOf i 0).changes = 0 := (J.wait hb).2.2 i 0
      have hr0 := R.ob (.rc 0 i) ⟨by decide, hi⟩
      have R1 := R.putRec (k := 0) (x := ⟨[], n, 0⟩) hi (by decide) (J.blank hb i 0).symm
      have J1 : Bm.Ok (st.put i 0 ⟨[], n, 0⟩) hist := J.put hi (by decide) (by rw [J.blank hb]) (Nat.zero_le _) (by simpa using hn) (fun t h => by simp at h) fun _ => rfl
      have hi1 : i < (st.put i 0 ⟨[], n, 0⟩).lifters.length := by rw [Bm.put_len]; exact hi
      have hb1 : (st.put i 0 ⟨[], n, 0⟩).begun = false := hb
      have c1 : ((st.put i 0 ⟨[], n, 0⟩).liftOf i 1).changes = 0 := (J1.wait hb1).2.2 i 1
      have hr1 := R1.ob (.rc 1 i) ⟨by decide, hi1⟩
      have R2 := R1.putRec (k := 1) (x := ⟨[], m, 0⟩) hi1 (by decide) (J1.blank hb1 i 1).symm
      have J2 := Bm.ok_ask J hb hi hn hm
      refine iteF ?_
      refine ⟨_, rfl, _, rfl, ℓ.c, cs.C, ℓ.cd, _, _, rfl, R.con, X.cC, X.cRs, con_records, ℓ.f .rs, _, _, _, rfl, rfl, SqL.of (R.ob .rs trivial), atI_nat (j := 0) rfl, ?_⟩
      refine ⟨_, rfl, ℓ.f (.ls 0), _, _, _, rfl, rfl, SqL.of (R.ob (.ls 0) (by show 0 < 2; decide)), atI_nat (range_at _ hi), ?_⟩
      rw [obj_rc, c0] at hr0
      rw [obj_rc, c1] at hr1
      refine ⟨ℓ.f (.rc 0 i), cs.R, _, _, rfl, hr0, X.cR, X.rW, (by show 3 < 1000; decide), ?_⟩
      rw [rec_put_wanted]
      refine ⟨_, rfl, _, rfl, ℓ.c, cs.C, ℓ.cd, _, _, rfl, R1.con, X.cC, X.cRs, con_records, ℓ.f .rs, _, _, _, rfl, rfl, SqL.of (R1.ob .rs trivial), atI_nat (j := 1) rfl, ?_⟩
      refine ⟨_, rfl, ℓ.f (.ls 1), _, _, _, rfl, rfl, SqL.of (R1.ob (.ls 1) (by show 1 < 2; decide)), atI_nat (range_at _ hi1), ?_⟩
      refine ⟨ℓ.f (.rc 1 i), cs.R, _, _, rfl, hr1, X.cR, X.rW, (by show 3 < 1000; decide), ?_⟩
      rw [rec_put_wanted]
      refine ⟨(by show 1 ≤ sizeLine; decide), fun p hp => ?_⟩
      have o1 : ∀ b, Own ℓ (st.put i 0 ⟨[], n, 0⟩) hist b ↔ Own ℓ st hist b := own_put hi (by decide) (by rw [J.blank hb])
      have o2 : ∀ b, Own ℓ ((st.put i 0 ⟨[], n, 0⟩).put i 1 ⟨[], m, 0⟩) hist b ↔ Own ℓ (st.put i 0 ⟨[], n, 0⟩) hist b := own_put hi1 (by decide) (by rw [J1.blank hb1])
      have f1 : Frame H ℓ st hist _ ℓ (st.put i 0 ⟨[], n, 0⟩) hist := Frame.write (H := H) (o := .ins cs.R (ℓ.d (.rc 0 i)) (recF n 0 (ℓ.f (.al 0 i)))) (.inr ⟨.rc 0 i, ⟨by decide, hi⟩, rfl⟩) fun b => (o1 b).mp
      have f2 := f1.trans (Frame.write (o := .ins cs.R (ℓ.d (.rc 1 i)) (recF m 0 (ℓ.f (.al 1 i)))) (.inr ⟨.rc 1 i, ⟨by decide, hi1⟩, rfl⟩) fun b => (o2 b).mp)
      have t1 : Tabs T (upd H (ℓ.f (.rc 0 i)) (.ins cs.R (ℓ.d (.rc 0 i)) (recF n 0 (ℓ.f (.al 0 i))))) := tabs_ins tb hr0 fun b u e hb => by rw [upd_ne hb]; exact e
      have t2 : Tabs T (upd (upd H (ℓ.f (.rc 0 i)) (.ins cs.R (ℓ.d (.rc 0 i)) (recF n 0 (ℓ.f (.al 0 i))))) (ℓ.f (.rc 1 i)) (.ins cs.R (ℓ.d (.rc 1 i)) (recF m 0 (ℓ.f (.al 1 i))))) := tabs_ins t1 hr1 fun b u e hb => by rw [upd_ne hb]; exact e
      exact (k1.after f2 rfl).still R2 J2 (ExtN.refl _) t2 hp
theorem any_first (s : Kg59.State) : (((List.range s.lifters.length).map fun j => decide (V.int ((s.liftOf j 0).next : Nat) = V.int 0)).any id) = s.lifters.any fun l => l.first.next == 0 := by
  have hat : ∀ (j : Nat) (h : j < s.lifters.length), (s.liftOf j 0).next = (s.lifters[j]).first.next := fun j h => by
    unfold Kg59.State.liftOf
    rw [List.getElem?_eq_getElem h]
    rfl
  rw [Bool.eq_iff_iff, List.any_eq_true, List.any_eq_true]
  constructor
  · rintro ⟨b, hb, e⟩
    obtain ⟨j, hj, rfl⟩ := List.mem_map.mp hb
    have hj := List.mem_range.mp hj
    refine ⟨s.lifters[j], List.getElem_mem hj, ?_⟩
    have e : (s.liftOf j 0).next = 0 := by simpa using e
    rw [hat j hj] at e
    simp [e]
  · rintro ⟨l, hl, e⟩
    obtain ⟨j, hj, rfl⟩ := List.getElem_of_mem hl
    refine ⟨_, List.mem_map.mpr ⟨j, List.mem_range.mpr hj, rfl⟩, ?_⟩
    rw [hat j hj]
    simpa using e
theorem spec_start (s : Kg59.State) : Kg59.spec s .start = if s.lifters = [] then (s, Kg59.num (-2)) else if s.begun = true then (s, Kg59.num (-3)) else if (s.lifters.any fun l => l.first.next == 0) = true then (s, Kg59.num (-4)) else
    ({ s with begun := true }, Kg59.called { s with begun := true }) := rfl
theorem ok_startD {f : Addr} {fd : FuncData} (F : Fun K "start" "start" sStart f fd) (X : Txt K mg cs) (D1 : DefOk P w K mg base 7 "up" ["contest"] (spUp cs T)) :
    FnOk P w K mg base CX0 8 f fd ["contest"] (spCall cs T [] (nxt .start) (told .start)) := by
  refine F.ok scStart (fun vs H Q E h => ?_) (fun cdv A outer s H vs Q E hr h => ?_)
  · obtain ⟨_, _, _, rfl, _⟩ := h
    rfl
  · obtain ⟨ℓ, st, hist, rfl, R, J, tb, k⟩ := h
    refine ⟨_, pss_cons (ps_if (pt_not (pt_truth (pe_fld (pv 0) rfl) (by intro _; rfl))) (pss_one (ps_ret (pe_lst (pa_cons (pe_un un_neg pe_int) pa_nil)))) pss_nil)
      (pss_cons (ps_if (pt_val (pe_fld (pv 0) rfl)) (pss_one (ps_ret (pe_lst (pa_cons (pe_un un_neg pe_int) pa_nil)))) pss_nil)
      (pss_cons (ps_if (pt_val (pe_callB (cr_any rfl) (by rfl) X.any (by decide +kernel) (pa_cons (pe_lc (own := [("record", 1)]) (g := gName 1) (tt := tYes) (te := tOp rEq (tFld K (tVar 1) "wanted") (tC (.int 0))) rfl scStart.nd (pi_list (pe_ix ix_list (pe_fld (pv 0) rfl) pe_int (fun _ _ => rfl))) (blkOk_by (N := ["contest", "record"]) (sc := defScope sStart) (by decide +kernel))
          (fun _ _ _ _ _ => pg_name (i := 1) scStart.nd rfl (Or.inl rfl)) (fun _ _ _ _ _ => pts_nil) (fun _ _ _ _ _ => by exact pe_cmpR op_eq (pe_fld (pv 1) rfl) pe_int (nomark _))) pa_nil)))
          (pss_one (ps_ret (pe_lst (pa_cons (pe_un un_neg pe_int) pa_nil)))) pss_nil)
      (pss_cons (ps_fld (pv 0) pe_bl rfl)
      (pss_one (ps_ret (pe_d (j := 7) D1 hr (pa_cons (pv 0) pa_nil))))))), ?_⟩
    refine ⟨_, rfl, ℓ.c, cs.C, ℓ.cd, _, _, rfl, R.con, X.cC, X.cTm, con_teams, _, .inl ⟨_, SqL.of (R.ob .tm trivial), rfl⟩, ?_⟩
    have dead : ∀ {n : Int}, Kg59.spec st .start = (st, Kg59.num n) → ∀ (H1 : Hp) (p : Addr), Same H H1 → H1 p = none → Q (.ref p) (upd H1 p (.lst [.int n])) := fun {n} e H1 p s1 hp => by
      have k1 : Post cs T H ℓ st hist st [n] Q := by
        have e1 : nxt .start st = st := by show (Kg59.spec st .start).1 = st; rw [e]
        have e2 : told .start st = [n] := by show ansL (Kg59.spec st .start).2 = _; rw [e]; rfl
        rw [e1, e2] at k
        exact k
      exact k1.still R J (ExtN.of s1) (tb.ext s1) hp
    cases hn : st.lifters with
    | nil => exact iteT ⟨_, rfl, (by show 1 ≤ sizeLine; decide), fun p hp => dead (by rw [spec_start, if_pos hn]) H p (Same.refl H) hp⟩
    | cons l0 lr =>
    have hne : st.lifters ≠ [] := by rw [hn]; simp
    refine iteF ⟨_, rfl, ℓ.c, cs.C, ℓ.cd, _, _, rfl, R.con, X.cC, X.cB, con_begun, _, rfl, ?_⟩
    cases hb : st.begun with
    | true => exact iteT ⟨_, rfl, (by show 1 ≤ sizeLine; decide), fun p hp => dead (by rw [spec_start, if_neg hne, if_pos hb]) H p (Same.refl H) hp⟩
    | false =>
    refine iteF ?_
    have hls := R.ob (.ls 0) (by show 0 < 2; decide)
    refine ⟨_, rfl, ℓ.c, cs.C, ℓ.cd, _, _, rfl, R.con, X.cC, X.cRs, con_records, ℓ.f .rs, _, _, _, rfl, rfl, SqL.of (R.ob .rs trivial), atI_nat (j := 0) rfl, ?_⟩
    refine ⟨ℓ.f (.ls 0), rfl, ⟨_, SqL.of hls⟩, fun D hD => lc_list (K := K) (a := ℓ.f (.ls 0)) (xs := (List.range st.lifters.length).map fun i => V.ref (ℓ.f (.rc 0 i)))
      (fun i H1 => Same H H1 ∧ H1 D = some (.lst (((List.range i).map fun j => decide (V.int ((st.liftOf j 0).next : Nat) = V.int 0)).map V.bl))) ⟨same_upd hD, upd_same⟩ (fun i H1 _ h => h.1.seq (SqL.of hls)) ?_ ?_⟩
    · intro i x H1 hx h1
      obtain ⟨s1, hD1⟩ := h1
      have hi : i < st.lifters.length := by
        have z := (List.getElem?_eq_some_iff.mp hx).1
        simpa using z
      rw [range_at _ hi] at hx
      have ex : x = V.ref (ℓ.f (.rc 0 i)) := (Option.some.inj hx).symm
      subst ex
      have hrc := (R.same s1).ob (.rc 0 i) ⟨by decide, hi⟩
      refine ⟨rfl, tYes_in ⟨_, rfl, ℓ.f (.rc 0 i), cs.R, _, _, _, rfl, hrc, X.cR, X.rW, rec_wanted, rfl, _, hD1, ?_, fun b o e => ?_, ?_⟩⟩
      · have := J.n24
        rw [List.length_map, List.length_map, List.length_range]
        exact small1000 (by omega)
      · rw [upd_ne (ne_of_none e hD)]
        exact s1 _ _ e
      · rw [upd_same, List.range_succ, List.map_append, List.map_append]
        rfl
    · intro H1 h1
      obtain ⟨s1, hD1⟩ := h1
      rw [List.length_map, List.length_range] at hD1
      refine ⟨D, _, rfl, SqL.of hD1, _, rfl, ?_⟩
      rw [any_first]
      cases ha : (st.lifters.any fun l => l.first.next == 0) with
      | true => exact iteT ⟨_, rfl, (by show 1 ≤ sizeLine; decide), fun p hp => dead (by rw [spec_start, if_neg hne, if_neg (by rw [hb]; simp), if_pos ha]) H1 p s1 hp⟩
      | false =>
      have R1 := R.same s1
      refine iteF ⟨_, rfl, ℓ.c, cs.C, ℓ.cd, _, rfl, R1.con, X.cC, X.cB, (by show 6 < 1000; decide), ?_⟩
      rw [con_put_begun]
      have es : Kg59.spec st .start = ({ st with begun := true }, Kg59.called { st with begun := true }) := by rw [spec_start, if_neg hne, if_neg (by rw [hb]; simp), if_neg (by rw [ha]; simp)]
      have R2 : Rep cs (upd H1 ℓ.c (conO cs ℓ { st with begun := true })) ℓ { st with begun := true } hist := R1.setCon rfl
      have k1 : Post cs T H ℓ st hist { st with begun := true } (ansL (Kg59.called { st with begun := true })) Q := by
        have e1 : nxt .start st = { st with begun := true } := by show (Kg59.spec st .start).1 = _; rw [es]
        have e2 : told .start st = ansL (Kg59.called { st with begun := true }) := by show ansL (Kg59.spec st .start).2 = _; rw [es]
        rw [e1, e2] at k
        exact k
      have f1 : Frame H1 ℓ st hist (upd H1 ℓ.c (conO cs ℓ { st with begun := true })) ℓ { st with begun := true } hist := Frame.write (.inl rfl) fun b => (own_same rfl b).mp
      have t2 : Tabs T (upd H1 ℓ.c (conO cs ℓ { st with begun := true })) := tabs_ins (tb.ext s1) R1.con fun b u e hb => by rw [upd_ne hb]; exact e
      exact ⟨_, rfl, ℓ, { st with begun := true }, hist, rfl, R2, Bm.ok_start J hb hne, t2, k1.after ((Frame.ext (ExtN.of s1)).trans f1) rfl⟩
end
end Bc
namespace Bc
open PySem PySem.Spec PyProof.Rows L2 LamX

/-- an entry of the history at tp, an attempt at x with its dict at dx more -/
def Lay.more (ℓ : Lay) (k i m h : Nat) (tp x dx : Addr) : Lay where
  f := fun y => if y = .ht h then tp else if y = .at k i m then x else ℓ.f y
  d := fun y => if y = .at k i m then dx else ℓ.d y
  c := ℓ.c
  cd := ℓ.cd
section
variable {cs : Cs} {H H' : Hp} {ℓ : Lay} {s : Kg59.State} {hist : Hist} {T : List (Addr × Str)} {k i m h : Nat} {tp x dx : Addr}
theorem more_f {y : Ob} (h1 : y ≠ .ht h) (h2 : y ≠ .at k i m) : (ℓ.more k i m h tp x dx).f y = ℓ.f y := by
  show (if y = .ht h then tp else if y = .at k i m then x else ℓ.f y) = ℓ.f y
  rw [if_neg h1, if_neg h2]
theorem more_ht : (ℓ.more k i m h tp x dx).f (.ht h) = tp := if_pos rfl
theorem more_at : (ℓ.more k i m h tp x dx).f (.at k i m) = x := by
  show (if Ob.at k i m = .ht h then tp else if Ob.at k i m = .at k i m then x else ℓ.f (.at k i m)) = x
  rw [if_neg (fun z => nomatch z), if_pos rfl]
theorem more_dat : (ℓ.more k i m h tp x dx).d (.at k i m) = dx := if_pos rfl
theorem more_d {y : Ob} (h2 : y ≠ .at k i m) : (ℓ.more k i m h tp x dx).d y = ℓ.d y := if_neg h2
/-- the attempt -/
abbrev newTry (s : Kg59.State) (i g : Nat) : Kg59.Try := ⟨(s.liftOf i s.lift).next, g, s.count⟩
theorem mid_eq (s : Kg59.State) {i g : Nat} (hi : i < s.lifters.length) : (Bm.mid s i g).liftOf i s.lift = ⟨(s.liftOf i s.lift).tries ++ [newTry s i g], Kg59.behind (newTry s i g), 0⟩ := by
  rw [Bm.mid_liftOf s i g i s.lift hi, if_pos ⟨rfl, Iff.rfl⟩]
theorem mid_ne (s : Kg59.State) {i g j n : Nat} (hi : i < s.lifters.length) (hl : s.lift < 2) (hn : n < 2) (h : ¬ (j = i ∧ n = s.lift)) : (Bm.mid s i g).liftOf j n = s.liftOf j n := by
  rw [Bm.mid_liftOf s i g j n hi, if_neg]
  rintro ⟨h1, h2⟩
  exact h ⟨h1, by omega⟩
theorem has_mid {g : Nat} (hi : i < s.lifters.length) (hl : s.lift < 2) {y : Ob} (hy : Has (Bm.mid s i g) (hist ++ [(i, s.lift)]) y) : Has s hist y ∨ y = .ht hist.length ∨ y = .at s.lift i (s.liftOf i s.lift).tries.length := by
  have len := Bm.mid_len s i g
  cases y with
  | tm => exact .inl trivial
  | hs => exact .inl trivial
  | rs => exact .inl trivial
  | ls n => exact .inl hy
  | rc n j => exact .inl ⟨hy.1, len ▸ hy.2⟩
  | al n j => exact .inl ⟨hy.1, len ▸ hy.2⟩
  | «at» n j l =>
    obtain ⟨h1, h2, h3⟩ := hy
    by_cases z : j = i ∧ n = s.lift
    · obtain ⟨rfl, rfl⟩ := z
      rw [mid_eq s hi, List.length_append, List.length_singleton] at h3
      by_cases z2 : l = (s.liftOf j s.lift).tries.length
      · subst z2
        exact .inr (.inr rfl)
      · exact .inl ⟨h1, hi, by omega⟩
    · rw [mid_ne s hi hl h1 z] at h3
      exact .inl ⟨h1, len ▸ h2, h3⟩
  | ht p =>
    have h1 : p < (hist ++ [(i, s.lift)]).length := hy
    rw [List.length_append, List.length_singleton] at h1
    by_cases z : p = hist.length
    · subst z
      exact .inr (.inl rfl)
    · exact .inl (by show p < hist.length; omega)
theorem not_new (h : Has s hist (.ht hist.length)) : False := Nat.lt_irrefl _ h
theorem not_newAt (h : Has s hist (.at k i (s.liftOf i k).tries.length)) : False := Nat.lt_irrefl _ h.2.2
theorem Rep.attempt (R : Rep cs H ℓ s hist) {g : Nat} (hi : i < s.lifters.length) (hl : s.lift < 2) (tp0 : H tp = none) (x0 : H x = none) (tx : tp ≠ x)
    (ec : H' ℓ.c = some (conO cs ℓ (Bm.mid s i g))) (et : H' tp = some (.tup [.int (i : Nat), .int (s.lift : Nat)]))
    (eh : H' (ℓ.f .hs) = some (.lst (((List.range hist.length).map fun p => V.ref (ℓ.f (.ht p))) ++ [.ref tp])))
    (ex : H' x = some (.ins cs.T dx (attF (newTry s i g))))
    (ea : H' (ℓ.f (.al s.lift i)) = some (.lst (((List.range (s.liftOf i s.lift).tries.length).map fun j => V.ref (ℓ.f (.at s.lift i j))) ++ [.ref x])))
    (er : H' (ℓ.f (.rc s.lift i)) = some (.ins cs.R (ℓ.d (.rc s.lift i)) (recF (Kg59.behind (newTry s i g)) 0 (ℓ.f (.al s.lift i)))))
    (old : ∀ b o, H b = some o → b ≠ ℓ.c → b ≠ ℓ.f .hs → b ≠ ℓ.f (.al s.lift i) → b ≠ ℓ.f (.rc s.lift i) → H' b = some o) :
    Rep cs H' (ℓ.more s.lift i (s.liftOf i s.lift).tries.length hist.length tp x dx) (Bm.mid s i g) (hist ++ [(i, s.lift)]) := by
  have len := Bm.mid_len s i g
  have f_old : ∀ y, Has s hist y → (ℓ.more s.lift i (s.liftOf i s.lift).tries.length hist.length tp x dx).f y = ℓ.f y := fun y hy => more_f (fun z => not_new (z ▸ hy)) fun z => not_newAt (z ▸ hy)
  have addr : ∀ y, Has s hist y → ℓ.f y ≠ tp ∧ ℓ.f y ≠ x := fun y hy => ⟨ne_of_none (R.ob y hy) tp0, ne_of_none (R.ob y hy) x0⟩
  have hrc : Has s hist (.rc s.lift i) := ⟨hl, hi⟩
  have hal : Has s hist (.al s.lift i) := ⟨hl, hi⟩
  refine ⟨?_, fun y hy => ?_, fun y u hy hu e => ?_⟩
  · show H' ℓ.c = _
    rw [ec]
    unfold conO
    rw [f_old .tm trivial, f_old .hs trivial, f_old .rs trivial]
    rfl
  · rcases has_mid hi hl hy with ho | rfl | rfl
    · rw [f_old y ho]
      -- a part that was there: what it is now
      have keep : y ≠ .hs → y ≠ .al s.lift i → y ≠ .rc s.lift i → obj cs (ℓ.more s.lift i (s.liftOf i s.lift).tries.length hist.length tp x dx) (Bm.mid s i g) (hist ++ [(i, s.lift)]) y = obj cs ℓ s hist y →
          H' (ℓ.f y) = some (obj cs (ℓ.more s.lift i (s.liftOf i s.lift).tries.length hist.length tp x dx) (Bm.mid s i g) (hist ++ [(i, s.lift)]) y) := fun n1 n2 n3 e => by
        rw [e]
        exact old _ _ (R.ob y ho) (R.apart ho) (R.ne ho trivial n1) (R.ne ho hal n2) (R.ne ho hrc n3)
      cases y with
      | tm =>
        refine keep (fun z => nomatch z) (fun z => nomatch z) (fun z => nomatch z) ?_
        show HO.lst _ = HO.lst _
        have e : ∀ t : Kg59.State, (t.lifters.map fun l => V.int (l.team : Nat)) = (t.lifters.map Kg59.Lifter.team).map fun n => V.int (n : Nat) := fun t => by rw [List.map_map]; rfl
        rw [e, e]
        exact congrArg (fun q => HO.lst (List.map _ q)) (Bm.teams_put _ _ _ _)
      | hs =>
        rw [eh]
        show _ = some (HO.lst _)
        rw [hist_last, more_ht]
        refine congrArg (fun q => some (HO.lst (q ++ _))) (List.map_congr_left fun p hp => ?_)
        have hp := List.mem_range.mp hp
        rw [f_old (.ht p) hp]
      | rs =>
        refine keep (fun z => nomatch z) (fun z => nomatch z) (fun z => nomatch z) ?_
        show HO.lst [.ref _, .ref _] = HO.lst [.ref _, .ref _]
        rw [f_old (.ls 0) (by show 0 < 2; decide), f_old (.ls 1) (by show 1 < 2; decide)]
      | ls n =>
        refine keep (fun z => nomatch z) (fun z => nomatch z) (fun z => nomatch z) ?_
        show HO.lst _ = HO.lst _
        rw [len]
        refine congrArg HO.lst (List.map_congr_left fun j hj => ?_)
        rw [f_old (.rc n j) ⟨ho, List.mem_range.mp hj⟩]
      | rc n j =>
        by_cases z : j = i ∧ n = s.lift
        · obtain ⟨rfl, rfl⟩ := z
          rw [er, obj_rc, mid_eq s hi, f_old (.al s.lift j) ho]
          rfl
        · refine keep (fun z => nomatch z) (fun z => nomatch z) (fun y => z (by cases y; exact ⟨rfl, rfl⟩)) ?_
          rw [obj_rc, obj_rc, mid_ne s hi hl ho.1 z, f_old (.al n j) ho]
          rfl
      | al n j =>
        by_cases z : j = i ∧ n = s.lift
        · obtain ⟨rfl, rfl⟩ := z
          rw [ea]
          show _ = some (HO.lst _)
          rw [mid_eq s hi]
          show _ = some (HO.lst ((List.range ((s.liftOf j s.lift).tries ++ [newTry s j g]).length).map _))
          rw [last_at, more_at]
          refine congrArg (fun q => some (HO.lst (q ++ _))) (List.map_congr_left fun p hp => ?_)
          have hp := List.mem_range.mp hp
          rw [f_old (.at s.lift j p) ⟨hl, hi, hp⟩]
        · refine keep (fun z => nomatch z) (fun y => z (by cases y; exact ⟨rfl, rfl⟩)) (fun z => nomatch z) ?_
          show HO.lst _ = HO.lst _
          rw [mid_ne s hi hl ho.1 z]
          refine congrArg HO.lst (List.map_congr_left fun p hp => ?_)
          have hp := List.mem_range.mp hp
          rw [f_old (.at n j p) ⟨ho.1, ho.2, hp⟩]
      | «at» n j l =>
        refine keep (fun z => nomatch z) (fun z => nomatch z) (fun z => nomatch z) ?_
        show HO.ins cs.T _ (attF _) = HO.ins cs.T _ (attF _)
        have e : tryAt (Bm.mid s i g) n j l = tryAt s n j l := by
          unfold tryAt
          by_cases z : j = i ∧ n = s.lift
          · obtain ⟨rfl, rfl⟩ := z
            rw [mid_eq s hi, List.getD_eq_getElem?_getD, List.getD_eq_getElem?_getD]
            show ((((s.liftOf j s.lift).tries ++ [newTry s j g]))[l]?).getD _ = _
            rw [List.getElem?_append_left ho.2.2]
          · rw [mid_ne s hi hl ho.1 z]
        rw [e, more_d fun z => not_newAt (hist := hist) (z ▸ ho)]
      | ht p =>
        refine keep (fun z => nomatch z) (fun z => nomatch z) (fun z => nomatch z) ?_
        have hp : p < hist.length := ho
        have e : (hist ++ [(i, s.lift)]).getD p (0, 0) = hist.getD p (0, 0) := by
          rw [List.getD_eq_getElem?_getD, List.getD_eq_getElem?_getD, List.getElem?_append_left hp]
        rw [obj_ht, obj_ht, e]
    · rw [more_ht, et, obj_ht, hist_get]
    · rw [more_at, ex]
      show _ = some (HO.ins cs.T _ (attF _))
      have e : tryAt (Bm.mid s i g) s.lift i (s.liftOf i s.lift).tries.length = newTry s i g := by
        unfold tryAt
        rw [mid_eq s hi, List.getD_eq_getElem?_getD]
        simp
      rw [e, more_dat]
  · rcases has_mid hi hl hy with h1 | rfl | rfl <;> rcases has_mid hi hl hu with h2 | rfl | rfl
    · rw [f_old y h1, f_old u h2] at e
      exact R.inj y u h1 h2 e
    · rw [f_old y h1, more_ht] at e
      exact absurd e (addr y h1).1
    · rw [f_old y h1, more_at] at e
      exact absurd e (addr y h1).2
    · rw [f_old u h2, more_ht] at e
      exact absurd e.symm (addr u h2).1
    · rfl
    · rw [more_ht, more_at] at e
      exact absurd e tx
    · rw [f_old u h2, more_at] at e
      exact absurd e.symm (addr u h2).2
    · rw [more_ht, more_at] at e
      exact absurd e.symm tx
    · rfl
theorem own_attempt {g : Nat} (hi : i < s.lifters.length) (hl : s.lift < 2) {b : Addr} (hb : Own (ℓ.more s.lift i (s.liftOf i s.lift).tries.length hist.length tp x dx) (Bm.mid s i g) (hist ++ [(i, s.lift)]) b) : Own ℓ s hist b ∨ b = tp ∨ b = x := by
  rcases hb with z | ⟨y, hy, z⟩
  · exact .inl (.inl z)
  · rcases has_mid hi hl hy with h1 | rfl | rfl
    · rw [more_f (fun w => not_new (w ▸ h1)) fun w => not_newAt (w ▸ h1)] at z
      exact .inl (.inr ⟨y, h1, z⟩)
    · rw [more_ht] at z
      exact .inr (.inl z)
    · rw [more_at] at z
      exact .inr (.inr z)
/-- tables and code objects are kept where lists and instances alone are written -/
theorem tabs_keep (t : Tabs T H) (k : ∀ b o, H b = some o → (∀ xs, o ≠ .lst xs) → (∀ C d fs, o ≠ .ins C d fs) → H' b = some o) : Tabs T H' := fun q hq => by
  obtain ⟨ps, h1, h2, h3⟩ := t q hq
  refine ⟨ps, k _ _ h1 (fun xs z => by cases z) (fun C d fs z => by cases z), h2, fun pos cv z => ?_⟩
  obtain ⟨c, e1, e2⟩ := h3 pos cv z
  exact ⟨c, e1, k _ _ e2 (fun xs z => by unfold CodeO at z; cases z) fun C d fs z => by unfold CodeO at z; cases z⟩
end
end Bc
namespace Bm
set_option autoImplicit false
open Kg59
theorem len_sub {α : Type} [DecidableEq α] : ∀ (l m : List α), l.Nodup → (∀ x ∈ l, x ∈ m) → l.length ≤ m.length
  | [], _, _, _ => Nat.zero_le _
  | a :: l, m, hn, hs => by
    rw [List.nodup_cons] at hn
    have ha : a ∈ m := hs a List.mem_cons_self
    have ih := len_sub l (m.erase a) hn.2 fun x hx => (List.mem_erase_of_ne (fun z : x = a => hn.1 (by rw [← z]; exact hx))).mpr (hs x (List.mem_cons_of_mem _ hx))
    rw [List.length_erase_of_mem ha] at ih
    have := List.length_pos_of_mem ha
    rw [List.length_cons]
    omega
theorem flat_bound {α β : Type} (f : α → List β) (n : Nat) : ∀ l : List α, (∀ x ∈ l, (f x).length ≤ n) → (l.flatMap f).length ≤ n * l.length
  | [], _ => Nat.zero_le _
  | a :: l, h => by
    have ih := flat_bound f n l fun x hx => h x (List.mem_cons_of_mem _ hx)
    have h1 := h a List.mem_cons_self
    rw [List.flatMap_cons, List.length_append, List.length_cons, Nat.mul_add, Nat.mul_one]
    omega
/-- no more than six attempts a lifter -/
theorem hist_max {s : State} {hist : List (Nat × Nat)} (J : Ok s hist) : hist.length ≤ 144 := by
  have h1 : (List.range s.count).length ≤ ((List.range s.lifters.length).flatMap fun i => [0, 1].flatMap fun k => (s.liftOf i k).tries.map Try.at_).length := by
    refine len_sub _ _ List.nodup_range fun p hp => ?_
    have hp := List.mem_range.mp hp
    have hl : p < hist.length := by rw [J.cnt]; exact hp
    have e : hist[p]? = some (hist[p].1, hist[p].2) := List.getElem?_eq_getElem hl
    obtain ⟨q1, q2, q3⟩ := J.hok p _ _ e
    rw [List.mem_flatMap]
    refine ⟨hist[p].1, List.mem_range.mpr q1, ?_⟩
    rw [List.mem_flatMap]
    refine ⟨hist[p].2, ?_, ?_⟩
    · have : hist[p].2 = 0 ∨ hist[p].2 = 1 := by omega
      rcases this with z | z <;> simp [z]
    · rw [J.ats _ _ q1 q3, List.mem_filter]
      exact ⟨List.mem_range.mpr hp, by simpa using e⟩
  have h2 : ((List.range s.lifters.length).flatMap fun i => [0, 1].flatMap fun k => (s.liftOf i k).tries.map Try.at_).length ≤ 6 * (List.range s.lifters.length).length := by
    refine flat_bound _ 6 _ fun i _ => ?_
    have := flat_bound (fun k => (s.liftOf i k).tries.map Try.at_) 3 [0, 1] fun k _ => by
      rw [List.length_map]
      exact J.len3 i k
    simpa using this
  rw [List.length_range] at h1 h2
  have := J.n24
  rw [J.cnt]
  omega
end Bm
namespace Bc
open PySem PySem.Spec PyProof.Rows L2 LamX

section
variable {P : Program} {w : World} {K : PySem.W.Frag} {mg : Str → Option Value} {base : Heap} {cs : Cs} {T : List (Addr × Str)}

/-! ### make_attempt, try_one -/
abbrev sMake : Stmt := top 17
abbrev sTry : Stmt := top 18
theorem scMake : FnScope ["contest", "lifter", "good", "record", "attempt"] ["contest", "lifter", "good"] (defScope sMake) := ⟨rfl, rfl, rfl, by decide +kernel, rfl, by decide +kernel, by decide +kernel⟩
theorem scTry : FnScope ["contest", "good", "lifter", "weight"] ["contest", "good"] (defScope sTry) := ⟨rfl, rfl, rfl, by decide +kernel, rfl, by decide +kernel, by decide +kernel⟩
def spMake (cs : Cs) (T : List (Addr × Str)) : Sp := fun vs H Q _ => ∃ (ℓ : Lay) (s : Kg59.State) (hist : Hist) (i g : Nat), vs = [.ref ℓ.c, .int (i : Nat), .int (g : Nat)] ∧ Rep cs H ℓ s hist ∧ hist.length = s.count ∧ hist.length ≤ 1000 ∧ Tabs T H ∧ i < s.lifters.length ∧ s.lift < 2 ∧
  (s.liftOf i s.lift).tries.length < 3 ∧
  ∀ (H' : Hp) (ℓ' : Lay), ℓ'.c = ℓ.c → Rep cs H' ℓ' (Bm.mid s i g) (hist ++ [(i, s.lift)]) → Tabs T H' → Frame H ℓ s hist H' ℓ' (Bm.mid s i g) (hist ++ [(i, s.lift)]) → Q .non H'
theorem ok_make {f : Addr} {fd : FuncData} (F : Fun K "make_attempt" "make_attempt" sMake f fd) (X : Txt K mg cs) (D1 : MethOk P w K mg base 1 cs.C "record" ["self", "lifter"] (spRecord cs)) (D2 : MakeOk P w K mg base 1 "Attempt" cs.T ["self", "weight", "good", "turn"] (spAtt0 cs))
    (D3 : MethOk P w K mg base 1 cs.T "asks_for" ["self"] (spAsks cs)) : FnOk P w K mg base CX0 3 f fd ["contest", "lifter", "good"] (spMake cs T) := by
  refine F.ok scMake (fun vs H Q E h => ?_) (fun cdv A outer s H vs Q E hr h => ?_)
  · obtain ⟨_, _, _, _, _, rfl, _⟩ := h
    rfl
  · obtain ⟨ℓ, st, hist, i, g, rfl, R, cnt, hmax, tb, hi, hl, h3, k⟩ := h
    refine ⟨_, pss_cons (ps_set (i := 3) scMake.nd rfl (Or.inl rfl) (pe_m (j := 2) D1 hr (pv 0) (pa_cons (pv 1) pa_nil)))
      (pss_cons (ps_fld (pv 0) (pe_fld (pv 3) rfl) rfl)
      (pss_cons (ps_expr (pe_bm PySem.F.plainAttrs_list PySem.F.slot_list_append PySem.F.type_list_append mt_append (pe_fld (pv 0) rfl) (pa_cons (pe_tup (pa_cons (pv 1) (pa_cons (pe_fld (pv 0) rfl) pa_nil))) pa_nil)))
      (pss_cons (ps_set (i := 4) scMake.nd rfl (Or.inl rfl) (pe_mk (j := 2) D2 hr (pa_cons (pe_fld (pv 3) rfl) (pa_cons (pv 2) (pa_cons (pe_callB call_len_seq (by rfl) X.len PySem.boot_len (pa_cons (pe_fld (pv 0) rfl) pa_nil)) pa_nil)))))
      (pss_cons (ps_expr (pe_bm PySem.F.plainAttrs_list PySem.F.slot_list_append PySem.F.type_list_append mt_append (pe_fld (pv 3) rfl) (pa_cons (pv 4) pa_nil)))
      (pss_cons (ps_fld (pv 3) (pe_m0 (j := 2) D3 hr (pv 4)) rfl)
      (pss_one (ps_fld (pv 3) pe_int rfl))))))), ?_⟩
    have hrc : Has st hist (.rc st.lift i) := ⟨hl, hi⟩
    have hal : Has st hist (.al st.lift i) := ⟨hl, hi⟩
    have R0 := R.ob _ hrc
    rw [obj_rc] at R0
    have A0 := R.ob _ hal
    have S0 := R.ob .hs trivial
    have n_rc_c := R.apart hrc
    have n_al_c := R.apart hal
    have n_hs_c := R.apart (x := .hs) trivial
    have n_hs_rc : ℓ.f .hs ≠ ℓ.f (.rc st.lift i) := R.ne trivial hrc fun z => nomatch z
    have n_hs_al : ℓ.f .hs ≠ ℓ.f (.al st.lift i) := R.ne trivial hal fun z => nomatch z
    have n_al_rc : ℓ.f (.al st.lift i) ≠ ℓ.f (.rc st.lift i) := R.ne hal hrc fun z => nomatch z
    refine ⟨_, rfl, ℓ.c, ℓ.cd, _, rfl, R.con, con_none (by simp), _, rfl, ℓ, st, hist, i, rfl, R, hi, hl, ?_⟩
    -- contest.bar = record.wanted
    refine ⟨_, rfl, ℓ.f (.rc st.lift i), cs.R, _, _, _, rfl, R0, X.cR, X.rW, rec_wanted, _, rfl, ℓ.c, cs.C, ℓ.cd, _, rfl, R.con, X.cC, X.cBar, (by show 6 < 1000; decide), ?_⟩
    rw [con_put_bar]
    -- contest.history.append((lifter, contest.lift))
    refine ⟨_, rfl, ℓ.c, cs.C, ℓ.cd, _, _, rfl, upd_same, X.cC, X.cH, con_history, .inl ⟨rfl, _, SqL.of ((upd_ne n_hs_c).trans S0)⟩, _, rfl, _, rfl, ℓ.c, cs.C, ℓ.cd, _, _, rfl, upd_same, X.cC, X.cL, con_lift, (by show 2 ≤ sizeLine; decide), fun tp htp => ?_⟩
    have tpc : tp ≠ ℓ.c := fun z => by
      rw [z, upd_same] at htp
      cases htp
    have tp0 : H tp = none := by
      rw [upd_ne tpc] at htp
      exact htp
    have tp_hs : ℓ.f .hs ≠ tp := ne_of_none S0 tp0
    have tp_rc : ℓ.f (.rc st.lift i) ≠ tp := ne_of_none R0 tp0
    have tp_al : ℓ.f (.al st.lift i) ≠ tp := ne_of_none A0 tp0
    refine ⟨ℓ.f .hs, _, _, rfl, rfl, (upd_ne tp_hs).trans ((upd_ne n_hs_c).trans S0), ?_, ?_⟩
    · rw [List.length_map, List.length_range]
      exact small1000 hmax
    -- attempt = Attempt(record.wanted, good, len(contest.history))
    have rc3 : ∀ (o1 o2 o3 : HO), upd (upd (upd H ℓ.c o1) tp o2) (ℓ.f .hs) o3 (ℓ.f (.rc st.lift i)) = H (ℓ.f (.rc st.lift i)) := fun o1 o2 o3 => by
      rw [upd_ne n_hs_rc.symm, upd_ne tp_rc, upd_ne n_rc_c]
    refine ⟨_, rfl, ℓ.f (.rc st.lift i), cs.R, _, _, _, rfl, (rc3 _ _ _).trans R0, X.cR, X.rW, rec_wanted, _, rfl, _, rfl, ℓ.c, cs.C, ℓ.cd, _, _, rfl, (upd_ne n_hs_c.symm).trans ((upd_ne tpc.symm).trans upd_same), X.cC, X.cH, con_history, ℓ.f .hs, _, rfl, .inl (SqL.of upd_same), ?_⟩
    intro x dx hx hdx hne
    have ln : ((((List.range hist.length).map fun p => V.ref (ℓ.f (.ht p))) ++ [V.ref tp]).length : Int) = ((st.count + 1 : Nat) : Int) := by
      rw [List.length_append, List.length_map, List.length_range, List.length_singleton, cnt]
    refine ⟨x, dx, (st.liftOf i st.lift).next, g, st.count, congrArg (fun q => [V.ref x, .int ((st.liftOf i st.lift).next : Nat), .int (g : Nat), .int q]) ln, upd_same, fun H4 e4 k4 => ⟨rfl, ?_⟩⟩
    have xc : x ≠ ℓ.c := fun z => by
      rw [z, upd_ne n_hs_c.symm, upd_ne tpc.symm, upd_same] at hx
      cases hx
    have xhs : x ≠ ℓ.f .hs := fun z => by
      rw [z, upd_same] at hx
      cases hx
    have xtp : x ≠ tp := fun z => by
      rw [z, upd_ne tp_hs.symm, upd_same] at hx
      cases hx
    have x0 : H x = none := by
      rw [upd_ne xhs, upd_ne xtp, upd_ne xc] at hx
      exact hx
    have dxc : dx ≠ ℓ.c := fun z => by
      rw [z, upd_ne n_hs_c.symm, upd_ne tpc.symm, upd_same] at hdx
      cases hdx
    have dxhs : dx ≠ ℓ.f .hs := fun z => by
      rw [z, upd_same] at hdx
      cases hdx
    have dxtp : dx ≠ tp := fun z => by
      rw [z, upd_ne tp_hs.symm, upd_same] at hdx
      cases hdx
    have dx0 : H dx = none := by
      rw [upd_ne dxhs, upd_ne dxtp, upd_ne dxc] at hdx
      exact hdx
    -- what stands at H4
    have old4 : ∀ b o, H b = some o → b ≠ ℓ.c → b ≠ ℓ.f .hs → H4 b = some o := fun b o e n1 n2 => by
      rw [k4 b (ne_of_none e x0), upd_ne (ne_of_none e x0), upd_ne (ne_of_none e dx0), upd_ne n2, upd_ne (ne_of_none e tp0), upd_ne n1]
      exact e
    have c4 : H4 ℓ.c = some (.ins cs.C ℓ.cd (conF (ℓ.f .tm) st.begun st.lift (st.liftOf i st.lift).next (ℓ.f .hs) (ℓ.f .rs))) := by
      rw [k4 _ xc.symm, upd_ne xc.symm, upd_ne dxc.symm, upd_ne n_hs_c.symm, upd_ne tpc.symm, upd_same]
    have hs4 : H4 (ℓ.f .hs) = some (.lst (((List.range hist.length).map fun p => V.ref (ℓ.f (.ht p))) ++ [.ref tp])) := by
      rw [k4 _ xhs.symm, upd_ne xhs.symm, upd_ne dxhs.symm, upd_same]
    have tp4 : H4 tp = some (.tup [.int (i : Nat), .int (st.lift : Nat)]) := by
      rw [k4 _ xtp.symm, upd_ne xtp.symm, upd_ne dxtp.symm, upd_ne tp_hs.symm, upd_same]
    have rc4 := old4 _ _ R0 n_rc_c n_hs_rc.symm
    have al4 := old4 _ _ A0 n_al_c n_hs_al.symm
    have xrc : ℓ.f (.rc st.lift i) ≠ x := ne_of_none R0 x0
    have xal : ℓ.f (.al st.lift i) ≠ x := ne_of_none A0 x0
    -- record.attempts.append(attempt)
    refine ⟨_, rfl, ℓ.f (.rc st.lift i), cs.R, _, _, _, rfl, rc4, X.cR, X.rA, rec_attempts, .inl ⟨rfl, _, SqL.of al4⟩, _, rfl, ℓ.f (.al st.lift i), _, _, rfl, rfl, al4, ?_, ?_⟩
    · rw [List.length_map, List.length_range]
      exact small1000 (by omega)
    -- record.wanted = attempt.asks_for()
    refine ⟨_, rfl, x, dx, _, rfl, (upd_ne xal.symm).trans e4, att_asks, x, dx, newTry st i g, rfl, (upd_ne xal.symm).trans e4, _, rfl, ℓ.f (.rc st.lift i), cs.R, _, _, rfl, (upd_ne n_al_rc.symm).trans rc4, X.cR, X.rW, (by show 3 < 1000; decide), ?_⟩
    rw [rec_put_wanted]
    -- record.changes = 0
    refine ⟨_, rfl, ℓ.f (.rc st.lift i), cs.R, _, _, rfl, upd_same, X.cR, X.rC, (by show 3 < 1000; decide), ?_⟩
    have e0 : putF "changes" (.int 0) (recF (Kg59.behind (newTry st i g)) (st.liftOf i st.lift).changes (ℓ.f (.al st.lift i))) = recF (Kg59.behind (newTry st i g)) 0 (ℓ.f (.al st.lift i)) := rec_put_changes 0
    rw [e0]
    refine k _ (ℓ.more st.lift i (st.liftOf i st.lift).tries.length hist.length tp x dx) rfl (R.attempt hi hl tp0 x0 xtp.symm ?_ ?_ ?_ ?_ ?_ upd_same fun b o e n1 n2 n3 n4 => ?_) ?_ fun b o e n1 n2 => ⟨?_, fun z => ?_⟩
    · rw [upd_ne n_rc_c.symm, upd_ne n_rc_c.symm, upd_ne n_al_c.symm]
      exact c4
    · rw [upd_ne tp_rc.symm, upd_ne tp_rc.symm, upd_ne tp_al.symm]
      exact tp4
    · rw [upd_ne n_hs_rc, upd_ne n_hs_rc, upd_ne n_hs_al]
      exact hs4
    · rw [upd_ne xrc.symm, upd_ne xrc.symm, upd_ne xal.symm]
      exact e4
    · rw [upd_ne n_al_rc, upd_ne n_al_rc, upd_same]
    · rw [upd_ne n4, upd_ne n4, upd_ne n3]
      exact old4 b o e n1 n2
    · refine tabs_keep tb fun b o e n1 n2 => ?_
      have m1 : b ≠ ℓ.c := fun z => by
        rw [z, R.con] at e
        exact n2 _ _ _ (Option.some.inj e).symm
      have m2 : b ≠ ℓ.f .hs := fun z => by
        rw [z, S0] at e
        exact n1 _ (Option.some.inj e).symm
      have m3 : b ≠ ℓ.f (.al st.lift i) := fun z => by
        rw [z, A0] at e
        exact n1 _ (Option.some.inj e).symm
      have m4 : b ≠ ℓ.f (.rc st.lift i) := fun z => by
        rw [z, R0] at e
        exact n2 _ _ _ (Option.some.inj e).symm
      rw [upd_ne m4, upd_ne m4, upd_ne m3]
      exact old4 b o e m1 m2
    · have m1 : b ≠ ℓ.c := fun z => n2 (.inl z)
      have m2 : b ≠ ℓ.f .hs := fun z => n2 (.inr ⟨.hs, trivial, z⟩)
      have m3 : b ≠ ℓ.f (.al st.lift i) := fun z => n2 (.inr ⟨_, hal, z⟩)
      have m4 : b ≠ ℓ.f (.rc st.lift i) := fun z => n2 (.inr ⟨_, hrc, z⟩)
      rw [upd_ne m4, upd_ne m4, upd_ne m3]
      exact old4 b o e m1 m2
    · rcases own_attempt hi hl z with z | z | z
      · exact n2 z
      · rw [z, tp0] at e
        cases e
      · rw [z, x0] at e
        cases e
theorem spec_try (s : Kg59.State) (g : Int) : Kg59.spec s (.try_ g) = if Kg59.within g 0 2 = false then (s, Kg59.num (-1)) else match s.up with
    | none => (s, Kg59.num (-4))
    | some i => (s.tried i g.toNat, ⟨i, Kg59.whole [(s.liftOf i s.lift).next, (s.tried i g.toNat).lift]⟩) := rfl
theorem ok_try {f : Addr} {fd : FuncData} (F : Fun K "try_one" "try_one" sTry f fd) (X : Txt K mg cs) (D1 : MethOk P w K mg base 1 cs.C "is_on" ["self"] (spOn cs)) (D2 : DefOk P w K mg base 6 "left_in_order" ["contest"] (spLio cs T))
    (D3 : DefOk P w K mg base 3 "make_attempt" ["contest", "lifter", "good"] (spMake cs T)) (D4 : MethOk P w K mg base 1 cs.C "next_lift" ["self"] (spNext cs)) (g : Int) : FnOk P w K mg base CX0 7 f fd ["contest", "good"] (spCall cs T [.int g] (nxt (.try_ g)) (told (.try_ g))) := by
  refine F.ok scTry (fun vs H Q E h => ?_) (fun cdv A outer s H vs Q E hr h => ?_)
  · obtain ⟨_, _, _, rfl, _⟩ := h
    rfl
  · obtain ⟨ℓ, st, hist, rfl, R, J, tb, k⟩ := h
    refine ⟨_, pss_cons (ps_if (pt_not (pt_chain op_le op_le (pe_gi X.gNot) (pv 1) (pe_gi X.gPass))) (pss_one (ps_ret (pe_lst (pa_cons (pe_un un_neg pe_int) pa_nil)))) pss_nil)
      (pss_cons (ps_if (pt_not (pt_val (pe_m0 (j := 6) D1 hr (pv 0)))) (pss_one (ps_ret (pe_lst (pa_cons (pe_un un_neg pe_int) pa_nil)))) pss_nil)
      (pss_cons (ps_set (i := 2) scTry.nd rfl (Or.inl rfl) (pe_ix ix_list (pe_d (j := 6) D2 hr (pa_cons (pv 0) pa_nil)) pe_int (fun _ _ => rfl)))
      (pss_cons (ps_expr (pe_d (j := 6) D3 hr (pa_cons (pv 0) (pa_cons (pv 2) (pa_cons (pv 1) pa_nil)))))
      (pss_cons (ps_set (i := 3) scTry.nd rfl (Or.inl rfl) (pe_fld (pv 0) rfl))
      (pss_cons (ps_if (pt_not (pt_truth (pe_d (j := 6) D2 hr (pa_cons (pv 0) pa_nil)) (by intro _; rfl))) (pss_one (ps_expr (pe_m0 (j := 6) D4 hr (pv 0)))) pss_nil)
      (pss_one (ps_ret (pe_lst (pa_cons (pv 2) (pa_cons (pv 3) (pa_cons (pe_fld (pv 0) rfl) pa_nil))))))))))), ?_⟩
    have dead : ∀ {n : Int}, Kg59.spec st (.try_ g) = (st, Kg59.num n) → ∀ p, H p = none → Q (.ref p) (upd H p (.lst [.int n])) := fun {n} e p hp => by
      have k1 : Post cs T H ℓ st hist st [n] Q := by
        have e1 : nxt (.try_ g) st = st := by show (Kg59.spec st (.try_ g)).1 = st; rw [e]
        have e2 : told (.try_ g) st = [n] := by show ansL (Kg59.spec st (.try_ g)).2 = _; rw [e]; rfl
        rw [e1, e2] at k
        exact k
      exact k1.still R J (ExtN.refl H) tb hp
    refine ⟨_, rfl, _, _, rfl, rfl, _, rfl, ?_⟩
    cases h1 : decide ((0 : Int) ≤ g) with
    | false => exact iteF ⟨_, rfl, iteT ⟨_, rfl, (by show 1 ≤ sizeLine; decide), fun p hp => dead (by rw [spec_try, if_pos (by unfold Kg59.within; rw [h1]; rfl)]) p hp⟩⟩
    | true =>
    refine iteT ⟨_, _, rfl, rfl, _, rfl, ?_⟩
    cases h2 : decide (g ≤ 2) with
    | false => exact iteT ⟨_, rfl, (by show 1 ≤ sizeLine; decide), fun p hp => dead (by rw [spec_try, if_pos (by unfold Kg59.within; rw [h1, h2]; rfl)]) p hp⟩
    | true =>
    have hg : ¬ Kg59.within g 0 2 = false := by unfold Kg59.within; rw [h1, h2]; simp
    obtain ⟨n, rfl, hn⟩ : ∃ n : Nat, g = (n : Nat) ∧ n ≤ 2 := by
      simp at h1 h2
      exact ⟨g.toNat, by omega, by omega⟩
    refine iteF ⟨_, rfl, ℓ.c, ℓ.cd, _, rfl, R.con, con_none (by simp), ℓ, st, hist, rfl, R, _, rfl, ?_⟩
    by_cases ho : st.begun = true ∧ st.lift < 2
    · rw [(on_iff st).mpr ho]
      obtain ⟨i, r, eo, hi, h3⟩ := Bm.order_cons J ho.1 ho.2
      refine iteF ⟨_, rfl, ℓ, st, hist, rfl, R, tb, ho.2, J.n24, fun H1 p e1 t1 hp => ?_⟩
      have R1 := R.ext e1
      rw [eo] at hp
      refine ⟨p, _, _, _, rfl, rfl, SqL.of hp, atI_nat (j := 0) rfl, ?_⟩
      have hmax : hist.length ≤ 1000 := Nat.le_trans (Bm.hist_max J) (by decide)
      refine ⟨_, rfl, _, rfl, _, rfl, ℓ, st, hist, i, n, rfl, R1, J.cnt, hmax, t1, hi, ho.2, h3, fun H2 ℓ2 c2 R2 t2 f2 => ?_⟩
      have J2 := Bm.ok_tried J ho.1 ho.2 hi h3 hn
      rw [Bm.tried_is] at J2
      have es : Kg59.spec st (.try_ (n : Nat)) = ((Bm.mid st i n).settle, ⟨i, Kg59.whole [(st.liftOf i st.lift).next, (Bm.mid st i n).settle.lift]⟩) := by
        rw [spec_try, if_neg hg, Bm.up_cons ho.1 eo]
        rfl
      have k1 : Post cs T H ℓ st hist (Bm.mid st i n).settle [(i : Int), ((st.liftOf i st.lift).next : Nat), ((Bm.mid st i n).settle.lift : Nat)] Q := by
        have e1 : nxt (.try_ (n : Nat)) st = (Bm.mid st i n).settle := by show (Kg59.spec st _).1 = _; rw [es]
        have e2 : told (.try_ (n : Nat)) st = [(i : Int), ((st.liftOf i st.lift).next : Nat), ((Bm.mid st i n).settle.lift : Nat)] := by show ansL (Kg59.spec st _).2 = _; rw [es]; rfl
        rw [e1, e2] at k
        exact k
      have f02 := (Frame.ext e1).trans f2
      have ml : (Bm.mid st i n).lift = st.lift := rfl
      refine ⟨_, rfl, ℓ2.c, cs.C, ℓ2.cd, _, _, by rw [c2], R2.con, X.cC, X.cBar, con_bar, ?_⟩
      refine ⟨_, rfl, ℓ2, Bm.mid st i n, _, congrArg (fun q => [V.ref q]) c2.symm, R2, t2, ho.2, by rw [Bm.mid_len]; exact J.n24, fun H3 q e3 t3 hq => ⟨_, .inl ⟨_, SqL.of hq, rfl⟩, ?_⟩⟩
      have R3 := R2.ext e3
      have f03 := f02.trans (Frame.ext e3)
      -- what is handed back, from any heap that holds the settled contest
      have fin : ∀ H4 : Hp, Rep cs H4 ℓ2 (Bm.mid st i n).settle (hist ++ [(i, st.lift)]) → Tabs T H4 → Frame H ℓ st hist H4 ℓ2 (Bm.mid st i n).settle (hist ++ [(i, st.lift)]) →
          tRet (tLst (tCons (tVar 2) (tCons (tVar 3) (tCons (tFld K (tVar 0) "lift") tNil)))) { nx := fun _ H' => Q V.non H', rt := Q } [some (.ref ℓ.c), some (.int (n : Nat)), some (.int (i : Nat)), some (.int ((st.liftOf i st.lift).next : Nat))] H4 := fun H4 R4 t4 f4 => by
        refine ⟨_, rfl, _, rfl, _, rfl, ℓ2.c, cs.C, ℓ2.cd, _, _, by rw [c2], R4.con, X.cC, X.cL, con_lift, (by show 3 ≤ sizeLine; decide), fun p4 hp4 => ?_⟩
        exact (k1.after f4 c2).still R4 J2 (ExtN.refl _) t4 hp4
      by_cases hset : (Bm.mid st i n).left = []
      · have es : (Bm.mid st i n).settle = { Bm.mid st i n with lift := st.lift + 1, bar := 0, last := none } := by
          unfold Kg59.State.settle
          rw [if_pos ⟨by rw [hset]; rfl, ho.2⟩]
          rfl
        rw [Bm.order_nil.mpr hset]
        refine iteT ⟨_, rfl, ℓ2.c, ℓ2.cd, _, by rw [c2], R3.con, con_none (by simp), ℓ2, Bm.mid st i n, congrArg (fun q => [V.ref q]) c2.symm, R3.con, fun H4 c4 k4 => ?_⟩
        have eH : H4 = upd H3 ℓ2.c (conO cs ℓ2 (Bm.mid st i n).settle) := by
          funext b
          by_cases hb : b = ℓ2.c
          · subst hb
            rw [upd_same, c4, es]
            rfl
          · rw [upd_ne hb, k4 b hb]
        have R4 : Rep cs H4 ℓ2 (Bm.mid st i n).settle (hist ++ [(i, st.lift)]) := by
          rw [eH]
          exact R3.setCon (Bm.settle_lifters _)
        have f34 : Frame H3 ℓ2 (Bm.mid st i n) (hist ++ [(i, st.lift)]) H4 ℓ2 (Bm.mid st i n).settle (hist ++ [(i, st.lift)]) := by
          rw [eH]
          exact Frame.write (.inl rfl) fun b => (own_same (Bm.settle_lifters _) b).mp
        exact fin H4 R4 (tabs_ins t3 R3.con fun b u e hb => (k4 b hb).trans e) (f03.trans f34)
      · have es : (Bm.mid st i n).settle = Bm.mid st i n := by
          unfold Kg59.State.settle
          rw [if_neg fun z => hset (List.isEmpty_iff.mp z.1)]
        cases eo2 : (Bm.mid st i n).order with
        | nil => exact absurd (Bm.order_nil.mp eo2) hset
        | cons j r2 => exact iteF (fin H3 (by rw [es]; exact R3) t3 (by rw [es]; exact f03))
    · have hoff : (st.begun && decide (st.lift < 2)) = false := by
        cases z : (st.begun && decide (st.lift < 2)) with
        | false => rfl
        | true => exact absurd ((on_iff st).mp z) ho
      rw [hoff]
      exact iteT ⟨_, rfl, (by show 1 ≤ sizeLine; decide), fun p hp => dead (by rw [spec_try, if_neg hg, Bm.up_off J ho]) p hp⟩
end
end Bc
namespace Bc
open PySem PySem.Spec PyProof.Rows L2 LamX

section
variable {P : Program} {w : World} {K : PySem.W.Frag} {mg : Str → Option Value} {base : Heap} {cs : Cs} {T : List (Addr × Str)}

/-! ### turn_round, reverse -/
abbrev sTurn : Stmt := top 19
abbrev sRev : Stmt := top 20
theorem scTurn : FnScope ["record", "attempt"] ["record"] (defScope sTurn) := ⟨rfl, rfl, rfl, by decide +kernel, rfl, by decide +kernel, by decide +kernel⟩
theorem scRev : FnScope ["contest", "lifter", "lift", "record"] ["contest"] (defScope sRev) := ⟨rfl, rfl, rfl, by decide +kernel, rfl, by decide +kernel, by decide +kernel⟩
abbrev turned (t : Kg59.Try) : Kg59.Try := { t with good := 1 - t.good }
def nextOf (n c : Nat) (u : Kg59.Try) : Nat := if c = 0 then Kg59.behind u else max n (Kg59.behind u)
def spTurn (cs : Cs) : Sp := fun vs H Q _ => ∃ (r dr al a da : Addr) (n c : Nat) (xs : List V) (t : Kg59.Try), vs = [.ref r] ∧ H r = some (.ins cs.R dr (recF n c al)) ∧ H al = some (.lst (xs ++ [.ref a])) ∧ H a = some (.ins cs.T da (attF t)) ∧ t.good ≤ 1 ∧ r ≠ a ∧
  Q .non (upd (upd H a (.ins cs.T da (attF (turned t)))) r (.ins cs.R dr (recF (nextOf n c (turned t)) c al)))
theorem ok_turn {f : Addr} {fd : FuncData} (F : Fun K "turn_round" "turn_round" sTurn f fd) (X : Txt K mg cs) (D3 : MethOk P w K mg base 1 cs.T "asks_for" ["self"] (spAsks cs)) : FnOk P w K mg base CX0 2 f fd ["record"] (spTurn cs) := by
  refine F.ok scTurn (fun vs H Q E h => ?_) (fun cdv A outer s H vs Q E hr h => ?_)
  · obtain ⟨_, _, _, _, _, _, _, _, _, rfl, _⟩ := h
    rfl
  · obtain ⟨r, dr, al, a, da, n, c, xs, t, rfl, hr0, hal, ha, hg, hne, k⟩ := h
    refine ⟨_, pss_cons (ps_set (i := 1) scTurn.nd rfl (Or.inl rfl) (pe_ix ix_list (pe_fld (pv 0) rfl) (pe_un un_neg pe_int) (fun _ _ => rfl)))
      (pss_cons (ps_fld (pv 1) (pe_ifExp (pt_cmpR op_eq (pe_fld (pv 1) rfl) (pe_gi X.gGood) (nomark _)) (pe_gi X.gNot) (pe_gi X.gGood)) rfl)
      (pss_one (ps_if (pt_cmpR op_eq (pe_fld (pv 0) rfl) pe_int (nomark _)) (pss_one (ps_fld (pv 0) (pe_m0 (j := 1) D3 hr (pv 1)) rfl))
        (pss_one (ps_fld (pv 0) (pe_callB (call_max2 rfl) (by rfl) X.max (by decide +kernel) (pa_cons (pe_fld (pv 0) rfl) (pa_cons (pe_m0 (j := 1) D3 hr (pv 1)) pa_nil))) rfl))))), ?_⟩
    have nal : al ≠ a := ne_of hal ha fun z => nomatch z
    refine ⟨_, rfl, r, cs.R, dr, _, _, rfl, hr0, X.cR, X.rA, rec_attempts, _, rfl, al, _, _, _, rfl, rfl, SqL.of hal, atI_last _ _, ?_⟩
    -- behind the store of good
    have main : ∀ H1 : Hp, H1 = upd H a (.ins cs.T da (attF (turned t))) → tIfS (tTest (tOp rEq (tFld K (tVar 0) "changes") (tC (.int 0)))) (sFld K (tVar 0) (tMeth cs.T "asks_for" (spAsks cs) [] E0 (tVar 1) tNil) "wanted")
        (sFld K (tVar 0) (tCB (fun xs H Q => ∃ i j, xs = [V.int i, V.int j] ∧ Q (.int (if j > i then j else i)) H) (tCons (tFld K (tVar 0) "wanted") (tCons (tMeth cs.T "asks_for" (spAsks cs) [] E0 (tVar 1) tNil) tNil))) "wanted")
        { nx := fun _ H' => Q V.non H', rt := Q } [some (.ref r), some (.ref a)] H1 := by
      intro H1 e1
      have r1 : H1 r = some (.ins cs.R dr (recF n c al)) := by rw [e1, upd_ne hne]; exact hr0
      have a1 : H1 a = some (.ins cs.T da (attF (turned t))) := by rw [e1, upd_same]
      refine ⟨_, rfl, r, cs.R, dr, _, _, rfl, r1, X.cR, X.rC, rec_changes, rfl, _, rfl, ite2 (fun z => ?_) fun z => ?_⟩
      · rw [decide_eq_true_eq, V.int.injEq] at z
        refine ⟨_, rfl, a, da, _, rfl, a1, att_asks, a, da, turned t, rfl, a1, _, rfl, r, cs.R, dr, _, rfl, r1, X.cR, X.rW, (by show 3 < 1000; decide), ?_⟩
        rw [rec_put_wanted, e1]
        have e2 : nextOf n c (turned t) = Kg59.behind (turned t) := if_pos (by omega)
        rw [e2] at k
        exact k
      · rw [decide_eq_true_eq, V.int.injEq] at z
        refine ⟨_, rfl, r, cs.R, dr, _, _, rfl, r1, X.cR, X.rW, rec_wanted, _, rfl, a, da, _, rfl, a1, att_asks, a, da, turned t, rfl, a1, _, _, rfl, _, rfl, r, cs.R, dr, _, rfl, r1, X.cR, X.rW, (by show 3 < 1000; decide), ?_⟩
        have e2 : nextOf n c (turned t) = max n (Kg59.behind (turned t)) := if_neg (by omega)
        have e3 : (if ((Kg59.behind (turned t) : Nat) : Int) > ((n : Nat) : Int) then ((Kg59.behind (turned t) : Nat) : Int) else ((n : Nat) : Int)) = ((max n (Kg59.behind (turned t)) : Nat) : Int) := by
          split <;> omega
        rw [e3, rec_put_wanted, e1]
        rw [e2] at k
        exact k
    refine ⟨_, rfl, a, cs.T, da, _, _, rfl, ha, X.cT, X.tG, att_good, rfl, _, rfl, ite2 (fun z => ?_) fun z => ?_⟩
    · rw [decide_eq_true_eq, V.int.injEq] at z
      have e5 : putF "good" (.int 0) (attF t) = attF (turned t) := by
        have e : ((1 - t.good : Nat) : Int) = 0 := by omega
        have y := att_put_good (t := t) (1 - t.good)
        rw [e] at y
        exact y
      refine ⟨_, rfl, a, cs.T, da, _, rfl, ha, X.cT, X.tG, (by show 3 < 1000; decide), ?_⟩
      rw [e5]
      exact main _ rfl
    · rw [decide_eq_true_eq, V.int.injEq] at z
      have e5 : putF "good" (.int 1) (attF t) = attF (turned t) := by
        have e : ((1 - t.good : Nat) : Int) = 1 := by omega
        have y := att_put_good (t := t) (1 - t.good)
        rw [e] at y
        exact y
      refine ⟨_, rfl, a, cs.T, da, _, rfl, ha, X.cT, X.tG, (by show 3 < 1000; decide), ?_⟩
      rw [e5]
      exact main _ rfl
/-- the last attempt of a lift turned round -/
theorem Rep.putTurn {H : Hp} {ℓ : Lay} {s : Kg59.State} {hist : Hist} (R : Rep cs H ℓ s hist) {i k : Nat} (hi : i < s.lifters.length) (hk : k < 2) {ts : List Kg59.Try} {t u : Kg59.Try} (ht : (s.liftOf i k).tries = ts ++ [t]) (n c : Nat) :
    Rep cs (upd (upd H (ℓ.f (.at k i ts.length)) (.ins cs.T (ℓ.d (.at k i ts.length)) (attF u))) (ℓ.f (.rc k i)) (.ins cs.R (ℓ.d (.rc k i)) (recF n c (ℓ.f (.al k i))))) ℓ (s.put i k ⟨ts ++ [u], n, c⟩) hist ∧
    ∀ b, Own ℓ (s.put i k ⟨ts ++ [u], n, c⟩) hist b ↔ Own ℓ s hist b := by
  have hl : (ts ++ [u]).length = (s.liftOf i k).tries.length := by rw [ht]; simp
  have hr : Has s hist (.rc k i) := ⟨hk, hi⟩
  have ha : Has s hist (.at k i ts.length) := ⟨hk, hi, by rw [ht]; simp⟩
  refine ⟨⟨?_, fun o ho => ?_, fun o v ho hv e => R.inj o v ((has_put hi hk hl o).mp ho) ((has_put hi hk hl v).mp hv) e⟩, own_put hi hk hl⟩
  · rw [upd_ne (R.apart hr).symm, upd_ne (R.apart ha).symm]
    exact R.con
  · have ho := (has_put hi hk hl o).mp ho
    by_cases h : o = .rc k i
    · subst h
      rw [upd_same, obj_rc, liftOf_putEq hi]
    · rw [upd_ne (R.ne ho hr h)]
      by_cases h2 : o = .at k i ts.length
      · subst h2
        rw [upd_same]
        show _ = some (HO.ins cs.T _ (attF _))
        have e : tryAt (s.put i k ⟨ts ++ [u], n, c⟩) k i ts.length = u := by
          unfold tryAt
          rw [liftOf_putEq hi, List.getD_eq_getElem?_getD]
          simp
        rw [e]
      · rw [upd_ne (R.ne ho ha h2), R.ob o ho, obj_put hi hk hl ho h]
        intro j hj
        subst hj
        have hj : j < (s.liftOf i k).tries.length := ho.2.2
        have hj2 : j ≠ ts.length := fun z => h2 (by rw [z])
        rw [ht, List.length_append, List.length_singleton] at hj
        unfold tryAt
        rw [ht, List.getD_eq_getElem?_getD, List.getD_eq_getElem?_getD, List.getElem?_append_left (by omega), List.getElem?_append_left (by omega)]
theorem spec_rev (s : Kg59.State) : Kg59.spec s .reverse = match s.lastTry with
    | none => (s, Kg59.num (-4))
    | some (i, (k, t)) => if t.good = 2 then (s, Kg59.num (-5)) else
        (s.put i k { s.liftOf i k with tries := (s.liftOf i k).tries.dropLast ++ [turned t], next := if (s.liftOf i k).changes = 0 then Kg59.behind (turned t) else max (s.liftOf i k).next (Kg59.behind (turned t)) }, ⟨i, [((turned t).good : Int)]⟩) := rfl
theorem ok_rev {f : Addr} {fd : FuncData} (F : Fun K "reverse" "reverse" sRev f fd) (X : Txt K mg cs) (D1 : DefOk P w K mg base 2 "turn_round" ["record"] (spTurn cs)) :
    FnOk P w K mg base CX0 3 f fd ["contest"] (spCall cs T [] (nxt .reverse) (told .reverse)) := by
  refine F.ok scRev (fun vs H Q E h => ?_) (fun cdv A outer s H vs Q E hr h => ?_)
  · obtain ⟨_, _, _, rfl, _⟩ := h
    rfl
  · obtain ⟨ℓ, st, hist, rfl, R, J, tb, k⟩ := h
    refine ⟨_, pss_cons (ps_if (pt_not (pt_truth (pe_fld (pv 0) rfl) (by intro _; rfl))) (pss_one (ps_ret (pe_lst (pa_cons (pe_un un_neg pe_int) pa_nil)))) pss_nil)
      (pss_cons (ps_set (i := 1) scRev.nd rfl (Or.inl rfl) (pe_ix ix_tup (pe_ix ix_list (pe_fld (pv 0) rfl) (pe_un un_neg pe_int) (fun _ _ => rfl)) pe_int (fun _ _ => rfl)))
      (pss_cons (ps_set (i := 2) scRev.nd rfl (Or.inl rfl) (pe_ix ix_tup (pe_ix ix_list (pe_fld (pv 0) rfl) (pe_un un_neg pe_int) (fun _ _ => rfl)) pe_int (fun _ _ => rfl)))
      (pss_cons (ps_set (i := 3) scRev.nd rfl (Or.inl rfl) (pe_ix ix_list (pe_ix ix_list (pe_fld (pv 0) rfl) (pv 2) (fun _ _ => rfl)) (pv 1) (fun _ _ => rfl)))
      (pss_cons (ps_if (pt_cmpR op_eq (pe_fld (pe_ix ix_list (pe_fld (pv 3) rfl) (pe_un un_neg pe_int) (fun _ _ => rfl)) rfl) (pe_gi X.gPass) (nomark _)) (pss_one (ps_ret (pe_lst (pa_cons (pe_un un_neg pe_int) pa_nil)))) pss_nil)
      (pss_cons (ps_expr (pe_d (j := 2) D1 hr (pa_cons (pv 3) pa_nil)))
      (pss_one (ps_ret (pe_lst (pa_cons (pv 1) (pa_cons (pe_fld (pe_ix ix_list (pe_fld (pv 3) rfl) (pe_un un_neg pe_int) (fun _ _ => rfl)) rfl) pa_nil)))))))))), ?_⟩
    have dead : ∀ {n : Int}, Kg59.spec st .reverse = (st, Kg59.num n) → ∀ p, H p = none → Q (.ref p) (upd H p (.lst [.int n])) := fun {n} e p hp => by
      have k1 : Post cs T H ℓ st hist st [n] Q := by
        have e1 : nxt .reverse st = st := by show (Kg59.spec st .reverse).1 = st; rw [e]
        have e2 : told .reverse st = [n] := by show ansL (Kg59.spec st .reverse).2 = _; rw [e]; rfl
        rw [e1, e2] at k
        exact k
      exact k1.still R J (ExtN.refl H) tb hp
    have S0 := R.ob .hs trivial
    refine ⟨_, rfl, ℓ.c, cs.C, ℓ.cd, _, _, rfl, R.con, X.cC, X.cH, con_history, _, .inl ⟨_, SqL.of S0, rfl⟩, ?_⟩
    rcases List.eq_nil_or_concat hist with eh | ⟨h0, ⟨i, kk⟩, eh⟩
    · subst eh
      exact iteT ⟨_, rfl, (by show 1 ≤ sizeLine; decide), fun p hp => dead (by rw [spec_rev, Bm.lastTry_nil J rfl]) p hp⟩
    · rw [List.concat_eq_append] at eh
      subst eh
      have hn : (!(!((List.range (h0 ++ [(i, kk)]).length).map fun p => V.ref (ℓ.f (.ht p))).isEmpty)) = false := by simp
      rw [hn]
      have gl : (h0 ++ [(i, kk)]).getLast? = some (i, kk) := by simp
      obtain ⟨hi, hk, ts, t, ht, hat⟩ := Bm.last_try J gl
      have elt := Bm.lastTry_some J gl ht hat
      rw [show obj cs ℓ st (h0 ++ [(i, kk)]) .hs = HO.lst (((List.range h0.length).map fun p => V.ref (ℓ.f (.ht p))) ++ [.ref (ℓ.f (.ht h0.length))]) from congrArg HO.lst hist_last] at S0
      have T0 := R.ob (.ht h0.length) (by show h0.length < (h0 ++ [(i, kk)]).length; simp)
      rw [obj_ht, hist_get] at T0
      have hrc : Has st (h0 ++ [(i, kk)]) (.rc kk i) := ⟨hk, hi⟩
      have hal : Has st (h0 ++ [(i, kk)]) (.al kk i) := ⟨hk, hi⟩
      have haa : Has st (h0 ++ [(i, kk)]) (.at kk i ts.length) := ⟨hk, hi, by rw [ht]; simp⟩
      have Rc := R.ob _ hrc
      rw [obj_rc] at Rc
      have Al := R.ob _ hal
      have eal : obj cs ℓ st (h0 ++ [(i, kk)]) (.al kk i) = .lst (((List.range ts.length).map fun j => V.ref (ℓ.f (.at kk i j))) ++ [.ref (ℓ.f (.at kk i ts.length))]) := by
        show HO.lst _ = _
        rw [ht, last_at]
      rw [eal] at Al
      have Aa := R.ob _ haa
      have eaa : obj cs ℓ st (h0 ++ [(i, kk)]) (.at kk i ts.length) = .ins cs.T (ℓ.d (.at kk i ts.length)) (attF t) := by
        show HO.ins cs.T _ (attF _) = _
        have e : tryAt st kk i ts.length = t := by
          unfold tryAt
          rw [ht, List.getD_eq_getElem?_getD]
          simp
        rw [e]
      rw [eaa] at Aa
      refine iteF ?_
      refine ⟨_, rfl, ℓ.c, cs.C, ℓ.cd, _, _, rfl, R.con, X.cC, X.cH, con_history, _, rfl, ℓ.f .hs, _, _, _, rfl, rfl, SqL.of S0, atI_last _ _, ℓ.f (.ht h0.length), _, _, _, rfl, rfl, SqT.of T0, atI_nat (j := 0) rfl, ?_⟩
      refine ⟨_, rfl, ℓ.c, cs.C, ℓ.cd, _, _, rfl, R.con, X.cC, X.cH, con_history, _, rfl, ℓ.f .hs, _, _, _, rfl, rfl, SqL.of S0, atI_last _ _, ℓ.f (.ht h0.length), _, _, _, rfl, rfl, SqT.of T0, atI_nat (j := 1) rfl, ?_⟩
      refine ⟨_, rfl, ℓ.c, cs.C, ℓ.cd, _, _, rfl, R.con, X.cC, X.cRs, con_records, _, rfl, ℓ.f .rs, _, _, _, rfl, rfl, SqL.of (R.ob .rs trivial), atI_nat (two_at ℓ hk), _, rfl, ℓ.f (.ls kk), _, _, _, rfl, rfl, SqL.of (R.ob (.ls kk) hk), atI_nat (range_at _ hi), ?_⟩
      refine ⟨_, rfl, ℓ.f (.rc kk i), cs.R, _, _, _, rfl, Rc, X.cR, X.rA, rec_attempts, _, rfl, ℓ.f (.al kk i), _, _, _, rfl, rfl, SqL.of Al, atI_last _ _, ℓ.f (.at kk i ts.length), cs.T, _, _, _, rfl, Aa, X.cT, X.tG, att_good, rfl, _, rfl, ?_⟩
      by_cases h2 : t.good = 2
      · refine ite2 (fun _ => ?_) fun z => absurd (by rw [decide_eq_true_eq, h2]; rfl) z
        exact ⟨_, rfl, (by show 1 ≤ sizeLine; decide), fun p hp => dead (by rw [spec_rev, elt]; exact if_pos h2) p hp⟩
      · refine ite2 (fun z => ?_) fun _ => ?_
        · rw [decide_eq_true_eq, V.int.injEq] at z
          exact absurd (by omega) h2
        have hg : t.good ≤ 1 := by
          have := (J.wts i kk t (by rw [ht]; simp)).2
          omega
        have nra : ℓ.f (.rc kk i) ≠ ℓ.f (.at kk i ts.length) := R.ne hrc haa fun z => nomatch z
        refine ⟨_, rfl, ℓ.f (.rc kk i), _, _, ℓ.f (.at kk i ts.length), _, _, _, _, t, rfl, Rc, Al, Aa, hg, nra, ?_⟩
        obtain ⟨R2, own⟩ := R.putTurn hi hk ht (u := turned t) (nextOf (st.liftOf i kk).next (st.liftOf i kk).changes (turned t)) (st.liftOf i kk).changes
        have es : Kg59.spec st .reverse = (st.put i kk ⟨ts ++ [turned t], nextOf (st.liftOf i kk).next (st.liftOf i kk).changes (turned t), (st.liftOf i kk).changes⟩, ⟨i, [((turned t).good : Int)]⟩) := by
          rw [spec_rev, elt]
          show (if t.good = 2 then _ else _) = _
          rw [if_neg h2, ht, List.dropLast_concat]
          rfl
        have k1 : Post cs T H ℓ st (h0 ++ [(i, kk)]) (st.put i kk ⟨ts ++ [turned t], nextOf (st.liftOf i kk).next (st.liftOf i kk).changes (turned t), (st.liftOf i kk).changes⟩) [(i : Int), ((turned t).good : Int)] Q := by
          have e1 : nxt .reverse st = st.put i kk ⟨ts ++ [turned t], nextOf (st.liftOf i kk).next (st.liftOf i kk).changes (turned t), (st.liftOf i kk).changes⟩ := by show (Kg59.spec st .reverse).1 = _; rw [es]
          have e2 : told .reverse st = [(i : Int), ((turned t).good : Int)] := by show ansL (Kg59.spec st .reverse).2 = _; rw [es]; rfl
          rw [e1, e2] at k
          exact k
        have J2 : Bm.Ok (st.put i kk ⟨ts ++ [turned t], nextOf (st.liftOf i kk).next (st.liftOf i kk).changes (turned t), (st.liftOf i kk).changes⟩) (h0 ++ [(i, kk)]) := by
          have lt : (st.liftOf i kk).tries.length = ts.length + 1 := by rw [ht]; simp
          have wt := J.wts i kk t (by rw [ht]; simp)
          have nx := J.nxt i kk
          have bh : Kg59.behind (turned t) ≤ t.weight + 1 := Bm.behind_le _ _ _
          refine J.put hi hk (by rw [ht]; simp) (J.chg i kk) ?_ (fun v hv => ?_) fun hb => (J.wait hb).2.2 i kk
          · show nextOf _ _ _ ≤ 500 + (ts ++ [turned t]).length
            unfold nextOf
            rw [List.length_append, List.length_singleton]
            split <;> omega
          · show v.weight + 1 ≤ 500 + (ts ++ [turned t]).length ∧ v.good ≤ 2
            rw [List.length_append, List.length_singleton]
            rcases List.mem_append.mp hv with m | m
            · have := J.wts i kk v (by rw [ht]; simp [m])
              omega
            · rw [List.mem_singleton.mp m]
              show t.weight + 1 ≤ _ ∧ 1 - t.good ≤ 2
              omega
        -- the heap then
        have nal1 : ℓ.f (.al kk i) ≠ ℓ.f (.rc kk i) := R.ne hal hrc fun z => nomatch z
        have nal2 : ℓ.f (.al kk i) ≠ ℓ.f (.at kk i ts.length) := R.ne hal haa fun z => nomatch z
        refine ⟨_, rfl, _, rfl, ℓ.f (.rc kk i), cs.R, _, _, _, rfl, upd_same, X.cR, X.rA, rec_attempts, _, rfl, ℓ.f (.al kk i), _, _, _, rfl, rfl, SqL.of ((upd_ne nal1).trans ((upd_ne nal2).trans Al)), atI_last _ _, ℓ.f (.at kk i ts.length), cs.T, _, _, _, rfl, (upd_ne nra.symm).trans upd_same, X.cT, X.tG, att_good,
          (by show 2 ≤ sizeLine; decide), fun p hp => ?_⟩
        have f1 : Frame H ℓ st (h0 ++ [(i, kk)]) (upd (upd H (ℓ.f (.at kk i ts.length)) (.ins cs.T (ℓ.d (.at kk i ts.length)) (attF (turned t)))) (ℓ.f (.rc kk i)) (.ins cs.R (ℓ.d (.rc kk i)) (recF (nextOf (st.liftOf i kk).next (st.liftOf i kk).changes (turned t)) (st.liftOf i kk).changes (ℓ.f (.al kk i)))))
            ℓ (st.put i kk ⟨ts ++ [turned t], nextOf (st.liftOf i kk).next (st.liftOf i kk).changes (turned t), (st.liftOf i kk).changes⟩) (h0 ++ [(i, kk)]) := fun b o e _ no =>
          ⟨by rw [upd_ne fun z => no (.inr ⟨_, hrc, z⟩), upd_ne fun z => no (.inr ⟨_, haa, z⟩)]; exact e, fun z => no ((own b).mp z)⟩
        have t1 : Tabs T (upd (upd H (ℓ.f (.at kk i ts.length)) (.ins cs.T (ℓ.d (.at kk i ts.length)) (attF (turned t)))) (ℓ.f (.rc kk i)) (.ins cs.R (ℓ.d (.rc kk i)) (recF (nextOf (st.liftOf i kk).next (st.liftOf i kk).changes (turned t)) (st.liftOf i kk).changes (ℓ.f (.al kk i))))) :=
          tabs_keep tb fun b o e _ n2 => by
            rw [upd_ne fun z => n2 _ _ _ (by rw [z, Rc] at e; exact (Option.some.inj e).symm), upd_ne fun z => n2 _ _ _ (by rw [z, Aa] at e; exact (Option.some.inj e).symm)]
            exact e
        exact (k1.after f1 rfl).still R2 J2 (ExtN.refl _) t1 hp
end
end Bc
namespace Bc
open PySem PySem.Spec PyProof.Rows L2 LamX

section
variable {P : Program} {w : World} {K : PySem.W.Frag} {mg : Str → Option Value} {base : Heap} {cs : Cs} {T : List (Addr × Str)}

/-! ### comes_behind_the_last, may_ask_for, change -/
abbrev sBehind : Stmt := top 32
abbrev sMay : Stmt := top 33
abbrev sChange : Stmt := top 34
theorem scBehind : FnScope ["contest", "lifter", "tried_last", "attempts_till_then"] ["contest", "lifter"] (defScope sBehind) := ⟨rfl, rfl, rfl, by decide +kernel, rfl, by decide +kernel, by decide +kernel⟩
theorem scMay : FnScope ["contest", "lifter", "weight", "attempts"] ["contest", "lifter", "weight"] (defScope sMay) := ⟨rfl, rfl, rfl, by decide +kernel, rfl, by decide +kernel, by decide +kernel⟩
theorem scChange : FnScope ["contest", "lifter", "weight", "record", "is_up"] ["contest", "lifter", "weight"] (defScope sChange) := ⟨rfl, rfl, rfl, by decide +kernel, rfl, by decide +kernel, by decide +kernel⟩
/-- how one stands, as the specification has it -/
def standN (i : Nat) (ts : List Kg59.Try) : List Nat := [ts.length, ((ts.getLast?).map Kg59.Try.at_).getD 0, i]
theorem stand_lt (i j : Nat) (ts us : List Kg59.Try) : HT.lexLt [(ts.length : Nat), (turnOf ts : Nat), (i : Nat)] [(us.length : Nat), (turnOf us : Nat), (j : Nat)] = Kg59.less (standN i ts) (standN j us) := by
  rw [Bool.eq_iff_iff]
  unfold standN
  simp only [Kg59.less, Bool.or_eq_true, Bool.and_eq_true, decide_eq_true_eq, beq_iff_eq, Bool.and_false, Bool.or_false, HT.lexLt_cons, HT.lexLt_nil_nil]
  by_cases h : ts.length = us.length
  · obtain ⟨t1, t2⟩ := turn_cmp _ _ h
    rw [if_pos (by omega)]
    by_cases h2 : turnOf ts = turnOf us
    · have e2 := t2.mp h2
      rw [if_pos (by omega)]
      by_cases h3 : i = j
      · rw [if_pos (by omega)]
        constructor
        · intro z
          cases z
        · rintro (z | ⟨_, z | ⟨_, z⟩⟩) <;> omega
      · rw [if_neg (by omega)]
        constructor
        · intro z
          have z : ((i : Int) < j) := by simpa using z
          exact .inr ⟨h, .inr ⟨e2, by omega⟩⟩
        · rintro (z | ⟨_, z | ⟨_, z⟩⟩)
          · omega
          · omega
          · simp
            omega
    · have e2 : ¬ ((ts.getLast?).map Kg59.Try.at_).getD 0 = ((us.getLast?).map Kg59.Try.at_).getD 0 := fun z => h2 (t2.mpr z)
      rw [if_neg (by omega)]
      constructor
      · intro z
        have z : ((turnOf ts : Int) < turnOf us) := by simpa using z
        exact .inr ⟨h, .inl (t1.mp (by omega))⟩
      · rintro (z | ⟨_, z | ⟨z, _⟩⟩)
        · omega
        · have := t1.mpr z
          simp
          omega
        · exact absurd z e2
  · rw [if_neg (by omega)]
    constructor
    · intro z
      have z : ((ts.length : Int) < us.length) := by simpa using z
      exact .inl (by omega)
    · rintro (z | ⟨z, _⟩)
      · simp
        omega
      · exact absurd z h
theorem cut_last (xs : List V) (v : V) : cutV (xs ++ [v]) none (some (-1)) = xs := by
  unfold cutV
  have e : HT.sIx (xs ++ [v]).length (xs ++ [v]).length (some (-1)) = xs.length := by
    unfold HT.sIx
    simp
    try omega
  rw [e, HT.sIx_none]
  simp
def spBehind (cs : Cs) : Sp := fun vs H Q _ => ∃ (ℓ : Lay) (s : Kg59.State) (hist : Hist) (i j : Nat), vs = [.ref ℓ.c, .int (i : Nat)] ∧ Rep cs H ℓ s hist ∧ Bm.Ok s hist ∧ i < s.lifters.length ∧ s.lift < 2 ∧ s.last = some j ∧
  ∀ H' : Hp, Same H H' → Q (.bl (Kg59.less (standN j (s.liftOf j s.lift).tries.dropLast) (standN i (s.liftOf i s.lift).tries))) H'
theorem last_hist {s : Kg59.State} {hist : Hist} (J : Bm.Ok s hist) {j : Nat} (h : s.last = some j) : hist.getLast? = some (j, s.lift) := by
  have e := J.last
  rw [h] at e
  cases g : hist.getLast? with
  | none =>
    rw [g] at e
    cases e
  | some q =>
    rw [g] at e
    have e : some j = if q.2 = s.lift then some q.1 else none := e
    split at e
    · rename_i z
      cases e
      rw [← z]
    · cases e
theorem ok_behind {f : Addr} {fd : FuncData} (F : Fun K "comes_behind_the_last" "comes_behind_the_last" sBehind f fd) (X : Txt K mg cs) (D1 : MethOk P w K mg base 1 cs.C "who_tried_last" ["self"] (spWho cs))
    (D2 : MethOk P w K mg base 1 cs.C "record" ["self", "lifter"] (spRecord cs)) (D3 : DefOk P w K mg base 1 "standing" ["lifter", "attempts"] (spStand cs K)) : FnOk P w K mg base CX0 2 f fd ["contest", "lifter"] (spBehind cs) := by
  refine F.ok scBehind (fun vs H Q E h => ?_) (fun cdv A outer s H vs Q E hr h => ?_)
  · obtain ⟨_, _, _, _, _, rfl, _⟩ := h
    rfl
  · obtain ⟨ℓ, st, hist, i, j, rfl, R, J, hi, hl, ej, k⟩ := h
    refine ⟨_, pss_cons (ps_set (i := 2) scBehind.nd rfl (Or.inl rfl) (pe_m0 (j := 1) D1 hr (pv 0)))
      (pss_cons (ps_set (i := 3) scBehind.nd rfl (Or.inl rfl) (pe_slice sl_list (pe_fld (pe_m (j := 1) D2 hr (pv 0) (pa_cons (pv 2) pa_nil)) rfl) po_none (po_some (pe_un un_neg pe_int))))
      (pss_one (ps_ret (pe_cmpR (op_ltT hr.units0) (pe_d (j := 1) D3 hr (pa_cons (pv 2) (pa_cons (pv 3) pa_nil))) (pe_d (j := 1) D3 hr (pa_cons (pv 1) (pa_cons (pe_fld (pe_m (j := 1) D2 hr (pv 0) (pa_cons (pv 1) pa_nil)) rfl) pa_nil))) (nomark _))))), ?_⟩
    obtain ⟨hj, _, ts, t, ht, _⟩ := Bm.last_try J (last_hist J ej)
    have ev : lastV st = .int (j : Nat) := by unfold lastV; rw [ej]
    refine ⟨_, rfl, ℓ.c, ℓ.cd, _, rfl, R.con, con_none (by simp), ℓ, st, hist, rfl, R, J, ?_⟩
    rw [ev]
    have hrj := R.ob (.rc st.lift j) ⟨hl, hj⟩
    have haj := R.ob (.al st.lift j) ⟨hl, hj⟩
    have eaj : obj cs ℓ st hist (.al st.lift j) = .lst (((List.range ts.length).map fun m => V.ref (ℓ.f (.at st.lift j m))) ++ [.ref (ℓ.f (.at st.lift j ts.length))]) := by
      show HO.lst _ = _
      rw [ht, last_at]
    rw [eaj] at haj
    refine ⟨_, rfl, ℓ.c, ℓ.cd, _, rfl, R.con, con_none (by simp), _, rfl, ℓ, st, hist, j, rfl, R, hj, hl, ?_⟩
    refine ⟨ℓ.f (.rc st.lift j), cs.R, _, _, _, rfl, hrj, X.cR, X.rA, rec_attempts, _, rfl, _, rfl, ℓ.f (.al st.lift j), _, rfl, SqL.of haj, fun p hp => ?_⟩
    rw [show -(1 : Int) = -1 from rfl, cut_last]
    have s1 := same_upd (o := .lst ((List.range ts.length).map fun m => V.ref (ℓ.f (.at st.lift j m)))) hp
    have R1 := R.same s1
    have A1 : Atts cs K (upd H p (.lst ((List.range ts.length).map fun m => V.ref (ℓ.f (.at st.lift j m))))) p ts (fun m => ℓ.f (.at st.lift j m)) fun m => ℓ.d (.at st.lift j m) := by
      refine ⟨SqL.of upd_same, fun m v hm => ?_⟩
      exact (R1.atts (K := K) hl hj).at_ m v (by rw [ht, List.getElem?_append_left (List.getElem?_eq_some_iff.mp hm).1]; exact hm)
    refine ⟨_, rfl, _, rfl, j, p, ts, _, _, rfl, A1, fun q hq => ?_⟩
    have s2 := same_upd (o := .tup [.int (ts.length : Nat), .int (turnOf ts : Nat), .int (j : Nat)]) hq
    have R2 := R1.same s2
    refine ⟨_, rfl, _, rfl, ℓ.c, ℓ.cd, _, rfl, R2.con, con_none (by simp), _, rfl, ℓ, st, hist, i, rfl, R2, hi, hl, ?_⟩
    refine ⟨ℓ.f (.rc st.lift i), cs.R, _, _, _, rfl, R2.ob (.rc st.lift i) ⟨hl, hi⟩, X.cR, X.rA, rec_attempts, i, ℓ.f (.al st.lift i), (st.liftOf i st.lift).tries, _, _, rfl, R2.atts hl hi, fun q2 hq2 => ?_⟩
    refine ⟨q, q2, [(ts.length : Nat), (turnOf ts : Nat), (j : Nat)], [((st.liftOf i st.lift).tries.length : Nat), (turnOf (st.liftOf i st.lift).tries : Nat), (i : Nat)], rfl, rfl, SqT.of ((same_upd hq2) _ _ upd_same), SqT.of upd_same, ?_⟩
    rw [stand_lt]
    have z := k _ (s1.trans (s2.trans (same_upd (o := .tup [.int ((st.liftOf i st.lift).tries.length : Nat), .int (turnOf (st.liftOf i st.lift).tries : Nat), .int (i : Nat)]) hq2)))
    rw [ht, List.dropLast_concat] at z
    exact z
def spMay (cs : Cs) : Sp := fun vs H Q _ => ∃ (ℓ : Lay) (s : Kg59.State) (hist : Hist) (i n : Nat), vs = [.ref ℓ.c, .int (i : Nat), .int (n : Nat)] ∧ Rep cs H ℓ s hist ∧ Bm.Ok s hist ∧ i < s.lifters.length ∧ s.lift < 2 ∧ 1 ≤ n ∧
  ∀ H' : Hp, Same H H' → Q (.bl (s.mayAsk i n)) H'
def wasOk (ts : List Kg59.Try) (n : Nat) : Bool := match ts.getLast? with
  | some t => decide (Kg59.behind t ≤ n)
  | none => true
theorem may_is (s : Kg59.State) (i n : Nat) : s.mayAsk i n = (wasOk (s.liftOf i s.lift).tries n && (decide (s.bar < n) || (n == s.bar && (match s.last with
    | none => true
    | some j => Kg59.less (standN j (s.liftOf j s.lift).tries.dropLast) (standN i (s.liftOf i s.lift).tries))))) := by
  unfold Kg59.State.mayAsk wasOk standN
  simp only [List.length_dropLast]
  rfl
theorem ok_may {f : Addr} {fd : FuncData} (F : Fun K "may_ask_for" "may_ask_for" sMay f fd) (X : Txt K mg cs) (D1 : MethOk P w K mg base 1 cs.C "record" ["self", "lifter"] (spRecord cs)) (D2 : MethOk P w K mg base 1 cs.T "asks_for" ["self"] (spAsks cs))
    (D3 : DefOk P w K mg base 2 "comes_behind_the_last" ["contest", "lifter"] (spBehind cs)) : FnOk P w K mg base CX0 3 f fd ["contest", "lifter", "weight"] (spMay cs) := by
  refine F.ok scMay (fun vs H Q E h => ?_) (fun cdv A outer s H vs Q E hr h => ?_)
  · obtain ⟨_, _, _, _, _, rfl, _⟩ := h
    rfl
  · obtain ⟨ℓ, st, hist, i, n, rfl, R, J, hi, hl, hn, k⟩ := h
    refine ⟨_, pss_cons (ps_set (i := 3) scMay.nd rfl (Or.inl rfl) (pe_fld (pe_m (j := 2) D1 hr (pv 0) (pa_cons (pv 1) pa_nil)) rfl))
      (pss_cons (ps_if (PW.pt (pw_and (pt_truth (pv 3) (by intro _; rfl)) (pw_and1 (pt_cmpR op_lt (pv 2) (pe_m0 (j := 2) D2 hr (pe_ix ix_list (pv 3) (pe_un un_neg pe_int) (fun _ _ => rfl))) (nomark _))))) (pss_one (ps_ret pe_bl)) pss_nil)
      (pss_cons (ps_if (pt_cmpR op_eq (pv 2) (pe_fld (pv 0) rfl) (nomark _)) (pss_one (ps_ret (pe_d (j := 2) D3 hr (pa_cons (pv 0) (pa_cons (pv 1) pa_nil))))) pss_nil)
      (pss_one (ps_ret (pe_cmpR op_gt (pv 2) (pe_fld (pv 0) rfl) (nomark _)))))), ?_⟩
    have Al := R.ob (.al st.lift i) ⟨hl, hi⟩
    refine ⟨_, rfl, ℓ.c, ℓ.cd, _, rfl, R.con, con_none (by simp), _, rfl, ℓ, st, hist, i, rfl, R, hi, hl, ?_⟩
    refine ⟨ℓ.f (.rc st.lift i), cs.R, _, _, _, rfl, R.ob (.rc st.lift i) ⟨hl, hi⟩, X.cR, X.rA, rec_attempts, ?_⟩
    rw [may_is] at k
    -- behind the first test
    have main : wasOk (st.liftOf i st.lift).tries n = true → tSeq (tIfS (tTest (tOp rEq (tVar 2) (tFld K (tVar 0) "bar"))) (tRet (tCall (spBehind cs) [] E0 (tCons (tVar 0) (tCons (tVar 1) tNil)))) tNext)
        (tRet (tOp (rI0 fun i j => .bl (decide (j < i))) (tVar 2) (tFld K (tVar 0) "bar"))) { nx := fun _ H' => Q V.non H', rt := Q } [some (.ref ℓ.c), some (.int (i : Nat)), some (.int (n : Nat)), some (.ref (ℓ.f (.al st.lift i)))] H := fun hw => by
      rw [hw, Bool.true_and] at k
      refine ⟨_, rfl, _, rfl, ℓ.c, cs.C, ℓ.cd, _, _, rfl, R.con, X.cC, X.cBar, con_bar, rfl, _, rfl, ite2 (fun z => ?_) fun z => ?_⟩
      · rw [decide_eq_true_eq, V.int.injEq] at z
        have zn : n = st.bar := by omega
        cases ej : st.last with
        | none =>
          have := J.bar0 ej
          omega
        | some j =>
          refine ⟨_, rfl, _, rfl, ℓ, st, hist, i, j, rfl, R, J, hi, hl, ej, fun H' s1 => ?_⟩
          have e := k H' s1
          rw [ej] at e
          have e2 : (decide (st.bar < n) || (n == st.bar && Kg59.less (standN j (st.liftOf j st.lift).tries.dropLast) (standN i (st.liftOf i st.lift).tries))) = Kg59.less (standN j (st.liftOf j st.lift).tries.dropLast) (standN i (st.liftOf i st.lift).tries) := by
            rw [zn]
            simp
          have e : Q (.bl (decide (st.bar < n) || (n == st.bar && Kg59.less (standN j (st.liftOf j st.lift).tries.dropLast) (standN i (st.liftOf i st.lift).tries)))) H' := e
          rw [e2] at e
          exact e
      · rw [decide_eq_true_eq, V.int.injEq] at z
        refine ⟨_, rfl, _, rfl, ℓ.c, cs.C, ℓ.cd, _, _, rfl, R.con, X.cC, X.cBar, con_bar, _, _, rfl, rfl, ?_⟩
        have e := k H (Same.refl H)
        have e2 : (n == st.bar) = false := by
          rw [beq_eq_false_iff_ne]
          omega
        rw [e2, Bool.false_and, Bool.or_false] at e
        have e3 : decide ((st.bar : Int) < (n : Nat)) = decide (st.bar < n) := by
          rw [decide_eq_decide]
          omega
        show Q (.bl (decide ((st.bar : Int) < (n : Nat)))) H
        rw [e3]
        exact e
    refine ⟨_, rfl, _, .inl ⟨_, SqL.of Al, rfl⟩, ?_⟩
    rcases List.eq_nil_or_concat (st.liftOf i st.lift).tries with e0 | ⟨ts, t, e0⟩
    · rw [e0]
      exact iteF (iteF (main (by rw [e0]; rfl)))
    · rw [List.concat_eq_append] at e0
      have ne : (!((List.range (st.liftOf i st.lift).tries.length).map fun m => V.ref (ℓ.f (.at st.lift i m))).isEmpty) = true := by rw [e0]; simp
      rw [ne]
      have Al2 := Al
      rw [show obj cs ℓ st hist (.al st.lift i) = .lst ((List.range (st.liftOf i st.lift).tries.length).map fun m => V.ref (ℓ.f (.at st.lift i m))) from rfl, e0, last_at] at Al2
      have At := (R.atts (K := K) hl hi).at_ ts.length t (by rw [e0]; simp)
      refine iteT ⟨_, rfl, _, rfl, _, rfl, ℓ.f (.al st.lift i), _, _, _, rfl, rfl, SqL.of Al2, atI_last _ _, ℓ.f (.at st.lift i ts.length), _, _, rfl, At, att_asks, _, _, t, rfl, At, _, _, rfl, rfl, _, rfl, ?_⟩
      have hw : wasOk (st.liftOf i st.lift).tries n = decide (Kg59.behind t ≤ n) := by
        unfold wasOk
        rw [e0]
        simp
      by_cases hb : Kg59.behind t ≤ n
      · rw [decide_eq_false (by omega : ¬ ((n : Int) < (Kg59.behind t : Nat)))]
        exact iteF (main (by rw [hw]; simpa using hb))
      · rw [decide_eq_true (by omega : ((n : Int) < (Kg59.behind t : Nat)))]
        refine iteT ?_
        have e := k H (Same.refl H)
        rw [hw, decide_eq_false hb, Bool.false_and] at e
        exact e
theorem spec_change (s : Kg59.State) (z v : Int) : Kg59.spec s (.change z v) = if (Kg59.isLifter s z && Kg59.within v 1 500) = false then (s, Kg59.num (-1))
    else if s.begun = false ∨ s.lift = 2 then (s, Kg59.num (-4))
    else if Kg59.TRIES ≤ (s.liftOf z.toNat s.lift).tries.length then (s, Kg59.num (-5))
    else if 2 ≤ (s.liftOf z.toNat s.lift).changes then (s, Kg59.num (-6))
    else if s.mayAsk z.toNat v.toNat = false then (s, Kg59.num (-7))
    else (s.put z.toNat s.lift { s.liftOf z.toNat s.lift with next := v.toNat, changes := (s.liftOf z.toNat s.lift).changes + 1 },
      ⟨((s.liftOf z.toNat s.lift).changes + 1 : Nat), match (s.put z.toNat s.lift { s.liftOf z.toNat s.lift with next := v.toNat, changes := (s.liftOf z.toNat s.lift).changes + 1 }).up with
        | some j => [(j : Int), (((s.put z.toNat s.lift { s.liftOf z.toNat s.lift with next := v.toNat, changes := (s.liftOf z.toNat s.lift).changes + 1 }).liftOf j (s.put z.toNat s.lift { s.liftOf z.toNat s.lift with next := v.toNat, changes := (s.liftOf z.toNat s.lift).changes + 1 }).lift).next : Int)]
        | none => []⟩) := rfl
theorem ok_change {f : Addr} {fd : FuncData} (F : Fun K "change" "change" sChange f fd) (X : Txt K mg cs) (D1 : MethOk P w K mg base 1 cs.C "has_lifter" ["self", "lifter"] (spHas cs)) (D2 : DefOk P w K mg base 1 "is_weight" ["weight"] spWeight)
    (D3 : MethOk P w K mg base 1 cs.C "is_on" ["self"] (spOn cs)) (D4 : MethOk P w K mg base 1 cs.C "record" ["self", "lifter"] (spRecord cs)) (D5 : MethOk P w K mg base 1 cs.R "is_left" ["self"] (spLeft cs))
    (D6 : DefOk P w K mg base 3 "may_ask_for" ["contest", "lifter", "weight"] (spMay cs)) (D7 : DefOk P w K mg base 6 "left_in_order" ["contest"] (spLio cs T)) (z v : Int) :
    FnOk P w K mg base CX0 7 f fd ["contest", "lifter", "weight"] (spCall cs T [.int z, .int v] (nxt (.change z v)) (told (.change z v))) := by
  refine F.ok scChange (fun vs H Q E h => ?_) (fun cdv A outer s H vs Q E hr h => ?_)
  · obtain ⟨_, _, _, rfl, _⟩ := h
    rfl
  · obtain ⟨ℓ, st, hist, rfl, R, J, tb, k⟩ := h
    refine ⟨_, pss_cons (ps_if (PW.pt (pw_or (pt_not (pt_val (pe_m (j := 6) D1 hr (pv 0) (pa_cons (pv 1) pa_nil)))) (pw_or1 (pt_not (pt_val (pe_d (j := 6) D2 hr (pa_cons (pv 2) pa_nil)))))))
        (pss_one (ps_ret (pe_lst (pa_cons (pe_un un_neg pe_int) pa_nil)))) pss_nil)
      (pss_cons (ps_if (pt_not (pt_val (pe_m0 (j := 6) D3 hr (pv 0)))) (pss_one (ps_ret (pe_lst (pa_cons (pe_un un_neg pe_int) pa_nil)))) pss_nil)
      (pss_cons (ps_set (i := 3) scChange.nd rfl (Or.inl rfl) (pe_m (j := 6) D4 hr (pv 0) (pa_cons (pv 1) pa_nil)))
      (pss_cons (ps_if (pt_not (pt_val (pe_m0 (j := 6) D5 hr (pv 3)))) (pss_one (ps_ret (pe_lst (pa_cons (pe_un un_neg pe_int) pa_nil)))) pss_nil)
      (pss_cons (ps_if (pt_cmpR op_eq (pe_fld (pv 3) rfl) (pe_gi X.gChg) (nomark _)) (pss_one (ps_ret (pe_lst (pa_cons (pe_un un_neg pe_int) pa_nil)))) pss_nil)
      (pss_cons (ps_if (pt_not (pt_val (pe_d (j := 6) D6 hr (pa_cons (pv 0) (pa_cons (pv 1) (pa_cons (pv 2) pa_nil)))))) (pss_one (ps_ret (pe_lst (pa_cons (pe_un un_neg pe_int) pa_nil)))) pss_nil)
      (pss_cons (ps_fld (pv 3) (pv 2) rfl)
      (pss_cons (ps_fldaug (pv 3) pe_int in_add)
      (pss_cons (ps_set (i := 4) scChange.nd rfl (Or.inl rfl) (pe_ix ix_list (pe_d (j := 6) D7 hr (pa_cons (pv 0) pa_nil)) pe_int (fun _ _ => rfl)))
      (pss_one (ps_ret (pe_lst (pa_cons (pe_fld (pv 3) rfl) (pa_cons (pv 4) (pa_cons (pe_fld (pe_m (j := 6) D4 hr (pv 0) (pa_cons (pv 4) pa_nil)) rfl) pa_nil)))))))))))))), ?_⟩
    have dead : ∀ {n : Int}, Kg59.spec st (.change z v) = (st, Kg59.num n) → ∀ (H1 : Hp) (p : Addr), Same H H1 → H1 p = none → Q (.ref p) (upd H1 p (.lst [.int n])) := fun {n} e H1 p s1 hp => by
      have k1 : Post cs T H ℓ st hist st [n] Q := by
        have e1 : nxt (.change z v) st = st := by show (Kg59.spec st (.change z v)).1 = st; rw [e]
        have e2 : told (.change z v) st = [n] := by show ansL (Kg59.spec st (.change z v)).2 = _; rw [e]; rfl
        rw [e1, e2] at k
        exact k
      exact k1.still R J (ExtN.of s1) (tb.ext s1) hp
    refine ⟨_, rfl, ℓ.c, ℓ.cd, _, rfl, R.con, con_none (by simp), _, rfl, ℓ, st, hist, z, rfl, R, _, rfl, ?_⟩
    cases h1 : Kg59.isLifter st z with
    | false => exact iteT (iteT ⟨_, rfl, (by show 1 ≤ sizeLine; decide), fun p hp => dead (by rw [spec_change, if_pos (by rw [h1]; rfl)]) H p (Same.refl H) hp⟩)
    | true =>
    refine iteF ⟨_, rfl, v, rfl, _, rfl, ?_⟩
    cases h2 : Kg59.within v 1 500 with
    | false => exact iteT ⟨_, rfl, (by show 1 ≤ sizeLine; decide), fun p hp => dead (by rw [spec_change, if_pos (by rw [h2]; simp)]) H p (Same.refl H) hp⟩
    | true =>
    have eA : ¬ (Kg59.isLifter st z && Kg59.within v 1 500) = false := by rw [h1, h2]; simp
    obtain ⟨i, rfl, hi⟩ : ∃ i : Nat, z = (i : Nat) ∧ i < st.lifters.length := by
      unfold Kg59.isLifter at h1
      simp at h1
      exact ⟨z.toNat, by omega, by omega⟩
    obtain ⟨n, rfl, hn1, hn⟩ : ∃ n : Nat, v = (n : Nat) ∧ 1 ≤ n ∧ n ≤ 500 := by
      unfold Kg59.within at h2
      simp at h2
      exact ⟨v.toNat, by omega, by omega, by omega⟩
    refine iteF ⟨_, rfl, ℓ.c, ℓ.cd, _, rfl, R.con, con_none (by simp), ℓ, st, hist, rfl, R, _, rfl, ?_⟩
    by_cases ho : st.begun = true ∧ st.lift < 2
    · rw [(on_iff st).mpr ho]
      have eB : ¬ (st.begun = false ∨ st.lift = 2) := by rw [ho.1]; simp; omega
      have hl := ho.2
      have Rc := R.ob (.rc st.lift i) ⟨hl, hi⟩
      rw [obj_rc] at Rc
      have Al := R.ob (.al st.lift i) ⟨hl, hi⟩
      refine iteF ⟨_, rfl, ℓ.c, ℓ.cd, _, rfl, R.con, con_none (by simp), _, rfl, ℓ, st, hist, i, rfl, R, hi, hl, ?_⟩
      refine ⟨_, rfl, ℓ.f (.rc st.lift i), _, _, rfl, Rc, rec_left, _, _, _, _, _, _, rfl, Rc, Al, _, rfl, ?_⟩
      rw [List.length_map, List.length_range]
      by_cases h3 : (st.liftOf i st.lift).tries.length < 3
      · rw [decide_eq_true h3]
        have eC : ¬ Kg59.TRIES ≤ (st.liftOf i st.lift).tries.length := by unfold Kg59.TRIES; omega
        refine iteF ⟨_, rfl, ℓ.f (.rc st.lift i), cs.R, _, _, _, rfl, Rc, X.cR, X.rC, rec_changes, rfl, _, rfl, ite2 (fun y => ?_) fun y => ?_⟩
        · rw [decide_eq_true_eq, V.int.injEq] at y
          exact ⟨_, rfl, (by show 1 ≤ sizeLine; decide), fun p hp => dead (by rw [spec_change, if_neg eA, if_neg eB]; show (if Kg59.TRIES ≤ (st.liftOf i st.lift).tries.length then _ else _) = _; rw [if_neg eC]; show (if 2 ≤ (st.liftOf i st.lift).changes then _ else _) = _; rw [if_pos (by omega)]) H p (Same.refl H) hp⟩
        · rw [decide_eq_true_eq, V.int.injEq] at y
          have hc := J.chg i st.lift
          have eD : ¬ 2 ≤ (st.liftOf i st.lift).changes := by omega
          refine ⟨_, rfl, _, rfl, _, rfl, ℓ, st, hist, i, n, rfl, R, J, hi, hl, hn1, fun H1 s1 => ⟨_, rfl, ?_⟩⟩
          have R1 := R.same s1
          cases hm : st.mayAsk i n with
          | false =>
            exact iteT ⟨_, rfl, (by show 1 ≤ sizeLine; decide), fun p hp => dead (by rw [spec_change, if_neg eA, if_neg eB]; show (if Kg59.TRIES ≤ (st.liftOf i st.lift).tries.length then _ else _) = _; rw [if_neg eC]; show (if 2 ≤ (st.liftOf i st.lift).changes then _ else _) = _; rw [if_neg eD]; show (if st.mayAsk i n = false then _ else _) = _; rw [if_pos hm]) H1 p s1 hp⟩
          | true =>
            have Rc1 := s1 _ _ Rc
            have lt := J.wts i st.lift
            have J2 : Bm.Ok (st.put i st.lift ⟨(st.liftOf i st.lift).tries, n, (st.liftOf i st.lift).changes + 1⟩) hist := J.put hi hl rfl (by show (st.liftOf i st.lift).changes + 1 ≤ 2; omega) (by show n ≤ _; omega) lt fun hb => by rw [ho.1] at hb; cases hb
            have R2 := R1.putRec (x := ⟨(st.liftOf i st.lift).tries, n, (st.liftOf i st.lift).changes + 1⟩) hi hl rfl
            have own : ∀ b, Own ℓ (st.put i st.lift ⟨(st.liftOf i st.lift).tries, n, (st.liftOf i st.lift).changes + 1⟩) hist b ↔ Own ℓ st hist b := own_put hi hl rfl
            have es : Kg59.spec st (.change (i : Nat) (n : Nat)) = (st.put i st.lift ⟨(st.liftOf i st.lift).tries, n, (st.liftOf i st.lift).changes + 1⟩,
                ⟨((st.liftOf i st.lift).changes + 1 : Nat), match (st.put i st.lift ⟨(st.liftOf i st.lift).tries, n, (st.liftOf i st.lift).changes + 1⟩).up with
                  | some j => [(j : Int), (((st.put i st.lift ⟨(st.liftOf i st.lift).tries, n, (st.liftOf i st.lift).changes + 1⟩).liftOf j st.lift).next : Int)]
                  | none => []⟩) := by
              rw [spec_change, if_neg eA, if_neg eB]
              show (if Kg59.TRIES ≤ (st.liftOf i st.lift).tries.length then _ else _) = _
              rw [if_neg eC]
              show (if 2 ≤ (st.liftOf i st.lift).changes then _ else _) = _
              rw [if_neg eD]
              show (if st.mayAsk i n = false then _ else _) = _
              rw [if_neg (by rw [hm]; simp)]
              rfl
            generalize hs2 : st.put i st.lift ⟨(st.liftOf i st.lift).tries, n, (st.liftOf i st.lift).changes + 1⟩ = st2 at J2 R2 own es
            have b2 : st2.begun = true := by rw [← hs2]; exact ho.1
            have l2 : st2.lift = st.lift := by rw [← hs2]; rfl
            have n2 : st2.lifters.length = st.lifters.length := by rw [← hs2]; exact Bm.put_len _ _ _ _
            have e2i : st2.liftOf i st.lift = ⟨(st.liftOf i st.lift).tries, n, (st.liftOf i st.lift).changes + 1⟩ := by rw [← hs2]; exact liftOf_putEq hi
            obtain ⟨j, r, eo, hj, _⟩ := Bm.order_cons J2 b2 (by rw [l2]; exact hl)
            have k1 : Post cs T H ℓ st hist st2 [(((st.liftOf i st.lift).changes + 1 : Nat) : Int), (j : Int), ((st2.liftOf j st.lift).next : Nat)] Q := by
              have e1 : nxt (.change (i : Nat) (n : Nat)) st = st2 := by show (Kg59.spec st _).1 = _; rw [es]
              have e2 : told (.change (i : Nat) (n : Nat)) st = [(((st.liftOf i st.lift).changes + 1 : Nat) : Int), (j : Int), ((st2.liftOf j st.lift).next : Nat)] := by show ansL (Kg59.spec st _).2 = _; rw [es, Bm.up_cons b2 eo]; rfl
              rw [e1, e2] at k
              exact k
            have f2 : Frame H1 ℓ st hist (upd H1 (ℓ.f (.rc st.lift i)) (.ins cs.R (ℓ.d (.rc st.lift i)) (recF n ((st.liftOf i st.lift).changes + 1) (ℓ.f (.al st.lift i))))) ℓ st2 hist :=
              Frame.write (.inr ⟨.rc st.lift i, ⟨hl, hi⟩, rfl⟩) fun b => (own b).mp
            have t2 : Tabs T (upd H1 (ℓ.f (.rc st.lift i)) (.ins cs.R (ℓ.d (.rc st.lift i)) (recF n ((st.liftOf i st.lift).changes + 1) (ℓ.f (.al st.lift i))))) := tabs_ins (tb.ext s1) Rc1 fun b u e hb => by rw [upd_ne hb]; exact e
            refine iteF ⟨_, rfl, _, rfl, ℓ.f (.rc st.lift i), cs.R, _, _, rfl, Rc1, X.cR, X.rW, (by show 3 < 1000; decide), ?_⟩
            rw [rec_put_wanted]
            refine ⟨_, rfl, ℓ.f (.rc st.lift i), cs.R, _, _, _, rfl, upd_same, X.cR, X.rC, rec_changes, _, _, rfl, rfl, _, _, upd_same, (by show 3 < 1000; decide), ?_⟩
            have e5 : putF "changes" (.int (((st.liftOf i st.lift).changes : Int) + 1)) (recF n (st.liftOf i st.lift).changes (ℓ.f (.al st.lift i))) = recF n ((st.liftOf i st.lift).changes + 1) (ℓ.f (.al st.lift i)) := rec_put_changes _
            rw [e5, upd_upd]
            refine ⟨_, rfl, ℓ, st2, hist, rfl, R2, t2, by rw [l2]; exact hl, J2.n24, fun H3 q e3 t3 hq => ?_⟩
            rw [eo] at hq
            have R3 := R2.ext e3
            have Rc3 := R3.ob (.rc st.lift i) ⟨hl, by rw [n2]; exact hi⟩
            rw [obj_rc, e2i] at Rc3
            refine ⟨q, _, _, _, rfl, rfl, SqL.of hq, atI_nat (j := 0) rfl, ?_⟩
            refine ⟨_, rfl, ℓ.f (.rc st.lift i), cs.R, _, _, _, rfl, Rc3, X.cR, X.rC, rec_changes, _, rfl, _, rfl, ℓ.c, ℓ.cd, _, rfl, R3.con, con_none (by simp), _, rfl, ℓ, st2, hist, j, rfl, R3, hj, by rw [l2]; exact hl, ?_⟩
            rw [l2]
            refine ⟨ℓ.f (.rc st.lift j), cs.R, _, _, _, rfl, R3.ob (.rc st.lift j) ⟨hl, hj⟩, X.cR, X.rW, rec_wanted, (by show 3 ≤ sizeLine; decide), fun p hp => ?_⟩
            exact (k1.after ((Frame.ext (ExtN.of s1)).trans f2) rfl).still R2 J2 e3 t3 hp
      · rw [decide_eq_false h3]
        have eC : Kg59.TRIES ≤ (st.liftOf i st.lift).tries.length := by unfold Kg59.TRIES; omega
        exact iteT ⟨_, rfl, (by show 1 ≤ sizeLine; decide), fun p hp => dead (by rw [spec_change, if_neg eA, if_neg eB]; show (if Kg59.TRIES ≤ (st.liftOf i st.lift).tries.length then _ else _) = _; rw [if_pos eC]) H p (Same.refl H) hp⟩
    · have hoff : (st.begun && decide (st.lift < 2)) = false := by
        cases y : (st.begun && decide (st.lift < 2)) with
        | false => rfl
        | true => exact absurd ((on_iff st).mp y) ho
      have eB : st.begun = false ∨ st.lift = 2 := by
        have := J.lift2
        cases hb : st.begun with
        | false => exact .inl rfl
        | true => exact .inr (by have : ¬ st.lift < 2 := fun y => ho ⟨hb, y⟩; omega)
      rw [hoff]
      exact iteT ⟨_, rfl, (by show 1 ≤ sizeLine; decide), fun p hp => dead (by rw [spec_change, if_neg eA, if_pos eB]) H p (Same.refl H) hp⟩
end
end Bc
namespace Bc
open PySem PySem.Spec PyProof.Rows L2 LamX

section
variable {P : Program} {w : World} {K : PySem.W.Frag} {mg : Str → Option Value} {base : Heap} {cs : Cs} {T : List (Addr × Str)}

/-! ### card, best_attempt -/
abbrev sCard : Stmt := top 37
abbrev sBest : Stmt := top 38
theorem scCard : FnScope ["contest", "lifter", "lift", "record", "answer", "attempt"] ["contest", "lifter", "lift"] (defScope sCard) := ⟨rfl, rfl, rfl, by decide +kernel, rfl, by decide +kernel, by decide +kernel⟩
theorem scBest : FnScope ["record", "best", "attempt"] ["record"] (defScope sBest) := ⟨rfl, rfl, rfl, by decide +kernel, rfl, by decide +kernel, by decide +kernel⟩
def cardTo (x : Kg59.Lift) (i : Nat) : List V := ((x.tries.length : Int) :: Kg59.whole ([x.next, x.changes] ++ (x.tries.take i).flatMap fun t => [t.weight, t.good])).map V.int
theorem card_more {x : Kg59.Lift} {i : Nat} {t : Kg59.Try} (h : x.tries[i]? = some t) : cardTo x (i + 1) = cardTo x i ++ [.int (t.weight : Nat)] ++ [.int (t.good : Nat)] := by
  unfold cardTo Kg59.whole
  rw [take_more h, List.flatMap_append]
  simp
theorem card_len (x : Kg59.Lift) (i : Nat) : (cardTo x i).length ≤ 2 * x.tries.length + 3 := by
  unfold cardTo Kg59.whole
  simp only [List.length_map, List.length_cons, List.length_append, List.length_nil]
  have e : ((x.tries.take i).flatMap fun t => [t.weight, t.good]).length = 2 * (x.tries.take i).length := by
    generalize x.tries.take i = l
    induction l with
    | nil => rfl
    | cons a r ih =>
      rw [List.flatMap_cons, List.length_append, ih, List.length_cons]
      simp
      omega
  rw [e, List.length_take]
  omega
theorem spec_card (s : Kg59.State) (z v : Int) : Kg59.spec s (.card z v) = if (Kg59.isLifter s z && Kg59.within v 0 1) = false then (s, Kg59.num (-1)) else
    (s, ⟨(s.liftOf z.toNat v.toNat).tries.length, Kg59.whole ([(s.liftOf z.toNat v.toNat).next, (s.liftOf z.toNat v.toNat).changes] ++ (s.liftOf z.toNat v.toNat).tries.flatMap fun t => [t.weight, t.good])⟩) := rfl
theorem ok_card {f : Addr} {fd : FuncData} (F : Fun K "card" "card" sCard f fd) (X : Txt K mg cs) (D1 : MethOk P w K mg base 1 cs.C "has_lifter" ["self", "lifter"] (spHas cs)) (z v : Int) :
    FnOk P w K mg base CX0 2 f fd ["contest", "lifter", "lift"] (spCall cs T [.int z, .int v] (nxt (.card z v)) (told (.card z v))) := by
  refine F.ok scCard (fun vs H Q E h => ?_) (fun cdv A outer s H vs Q E hr h => ?_)
  · obtain ⟨_, _, _, rfl, _⟩ := h
    rfl
  · obtain ⟨ℓ, st, hist, rfl, R, J, tb, k⟩ := h
    refine ⟨_, pss_cons (ps_if (PW.pt (pw_or (pt_not (pt_val (pe_m (j := 1) D1 hr (pv 0) (pa_cons (pv 1) pa_nil)))) (pw_or1 (pt_not (pt_chain op_le op_lt pe_int (pv 2) (pe_gi X.gLifts))))))
        (pss_one (ps_ret (pe_lst (pa_cons (pe_un un_neg pe_int) pa_nil)))) pss_nil)
      (pss_cons (ps_set (i := 3) scCard.nd rfl (Or.inl rfl) (pe_ix ix_list (pe_ix ix_list (pe_fld (pv 0) rfl) (pv 2) (fun _ _ => rfl)) (pv 1) (fun _ _ => rfl)))
      (pss_cons (ps_set (i := 4) scCard.nd rfl (Or.inl rfl) (pe_lst (pa_cons (pe_callB call_len_seq (by rfl) X.len PySem.boot_len (pa_cons (pe_fld (pv 3) rfl) pa_nil)) (pa_cons (pe_fld (pv 3) rfl) (pa_cons (pe_fld (pv 3) rfl) pa_nil)))))
      (pss_cons (ps_for PassesOwn.never rfl (pi_list (pe_fld (pv 3) rfl)) (pg_name (i := 5) scCard.nd rfl (Or.inl rfl))
        (pss_cons (ps_expr (pe_bm PySem.F.plainAttrs_list PySem.F.slot_list_append PySem.F.type_list_append mt_append (pv 4) (pa_cons (pe_fld (pv 5) rfl) pa_nil)))
        (pss_one (ps_expr (pe_bm PySem.F.plainAttrs_list PySem.F.slot_list_append PySem.F.type_list_append mt_append (pv 4) (pa_cons (pe_fld (pv 5) rfl) pa_nil))))))
      (pss_one (ps_ret (pv 4)))))), ?_⟩
    have dead : Kg59.spec st (.card z v) = (st, Kg59.num (-1)) → ∀ p, H p = none → Q (.ref p) (upd H p (.lst [.int (-1)])) := fun e p hp => by
      have k1 : Post cs T H ℓ st hist st [-1] Q := by
        have e1 : nxt (.card z v) st = st := by show (Kg59.spec st (.card z v)).1 = st; rw [e]
        have e2 : told (.card z v) st = [-1] := by show ansL (Kg59.spec st (.card z v)).2 = _; rw [e]; rfl
        rw [e1, e2] at k
        exact k
      exact k1.still R J (ExtN.refl H) tb hp
    refine ⟨_, rfl, ℓ.c, ℓ.cd, _, rfl, R.con, con_none (by simp), _, rfl, ℓ, st, hist, z, rfl, R, _, rfl, ?_⟩
    cases h1 : Kg59.isLifter st z with
    | false => exact iteT (iteT ⟨_, rfl, (by show 1 ≤ sizeLine; decide), fun p hp => dead (by rw [spec_card, if_pos (by rw [h1]; rfl)]) p hp⟩)
    | true =>
    refine iteF ⟨_, rfl, _, _, rfl, rfl, _, rfl, ?_⟩
    cases h2 : decide ((0 : Int) ≤ v) with
    | false => exact iteF ⟨_, rfl, iteT ⟨_, rfl, (by show 1 ≤ sizeLine; decide), fun p hp => dead (by rw [spec_card, if_pos (by unfold Kg59.within; rw [h2]; simp)]) p hp⟩⟩
    | true =>
    refine iteT ⟨_, _, rfl, rfl, _, rfl, ?_⟩
    cases h3 : decide (v < 2) with
    | false => exact iteT ⟨_, rfl, (by show 1 ≤ sizeLine; decide), fun p hp => dead (by rw [spec_card, if_pos (by unfold Kg59.within; simp at h3; simp; omega)]) p hp⟩
    | true =>
    obtain ⟨i, rfl, hi⟩ : ∃ i : Nat, z = (i : Nat) ∧ i < st.lifters.length := by
      unfold Kg59.isLifter at h1
      simp at h1
      exact ⟨z.toNat, by omega, by omega⟩
    obtain ⟨n, rfl, hn⟩ : ∃ n : Nat, v = (n : Nat) ∧ n < 2 := by
      simp at h2 h3
      exact ⟨v.toNat, by omega, by omega⟩
    have eA : ¬ (Kg59.isLifter st (i : Nat) && Kg59.within (n : Nat) 0 1) = false := by
      rw [h1]
      unfold Kg59.within
      simp
      omega
    have k1 : Post cs T H ℓ st hist st (((st.liftOf i n).tries.length : Int) :: Kg59.whole ([(st.liftOf i n).next, (st.liftOf i n).changes] ++ (st.liftOf i n).tries.flatMap fun t => [t.weight, t.good])) Q := by
      have es : Kg59.spec st (.card (i : Nat) (n : Nat)) = (st, ⟨(st.liftOf i n).tries.length, Kg59.whole ([(st.liftOf i n).next, (st.liftOf i n).changes] ++ (st.liftOf i n).tries.flatMap fun t => [t.weight, t.good])⟩) := by
        rw [spec_card, if_neg eA]
        rfl
      have e1 : nxt (.card (i : Nat) (n : Nat)) st = st := by show (Kg59.spec st _).1 = st; rw [es]
      have e2 : told (.card (i : Nat) (n : Nat)) st = ((st.liftOf i n).tries.length : Int) :: Kg59.whole ([(st.liftOf i n).next, (st.liftOf i n).changes] ++ (st.liftOf i n).tries.flatMap fun t => [t.weight, t.good]) := by show ansL (Kg59.spec st _).2 = _; rw [es]; rfl
      rw [e1, e2] at k
      exact k
    have Rc := R.ob (.rc n i) ⟨hn, hi⟩
    rw [obj_rc] at Rc
    have A1 := R.atts (K := K) hn hi
    have Al := R.ob (.al n i) ⟨hn, hi⟩
    refine iteF ⟨_, rfl, ℓ.c, cs.C, ℓ.cd, _, _, rfl, R.con, X.cC, X.cRs, con_records, _, rfl, ℓ.f .rs, _, _, _, rfl, rfl, SqL.of (R.ob .rs trivial), atI_nat (two_at ℓ hn), _, rfl, ℓ.f (.ls n), _, _, _, rfl, rfl, SqL.of (R.ob (.ls n) hn), atI_nat (range_at _ hi), ?_⟩
    refine ⟨_, rfl, ℓ.f (.rc n i), cs.R, _, _, _, rfl, Rc, X.cR, X.rA, rec_attempts, ℓ.f (.al n i), _, rfl, .inl A1.lst, _, rfl, ℓ.f (.rc n i), cs.R, _, _, _, rfl, Rc, X.cR, X.rW, rec_wanted, _, rfl, ℓ.f (.rc n i), cs.R, _, _, _, rfl, Rc, X.cR, X.rC, rec_changes, (by show 3 ≤ sizeLine; decide), fun q hq => ?_⟩
    rw [List.length_map, List.length_range]
    have s1 : Same H (upd H q (.lst [.int ((st.liftOf i n).tries.length : Nat), .int ((st.liftOf i n).next : Nat), .int ((st.liftOf i n).changes : Nat)])) := same_upd hq
    refine ⟨_, rfl, ℓ.f (.rc n i), cs.R, _, _, _, rfl, s1 _ _ Rc, X.cR, X.rA, rec_attempts, ℓ.f (.al n i), rfl, ⟨_, s1.seq A1.lst⟩, for_list (K := K) (a := ℓ.f (.al n i)) (xs := (List.range (st.liftOf i n).tries.length).map fun j => V.ref (ℓ.f (.at n i j)))
      (fun m σ H2 => ∃ v5 : Option V, σ = [some (.ref ℓ.c), some (.int (i : Nat)), some (.int (n : Nat)), some (.ref (ℓ.f (.rc n i))), some (.ref q), v5] ∧ Same H H2 ∧ H2 q = some (.lst (cardTo (st.liftOf i n) m)))
      ⟨none, rfl, s1, upd_same⟩ (fun m σ H2 _ ⟨_, _, s2, _⟩ => s2.seq A1.lst) ?_ ?_⟩
    · rintro m y σ H2 hm ⟨v5, rfl, s2, hq2⟩
      have hm2 : m < (st.liftOf i n).tries.length := by
        have y1 := (List.getElem?_eq_some_iff.mp hm).1
        simpa using y1
      rw [range_at _ hm2] at hm
      have ey : y = V.ref (ℓ.f (.at n i m)) := (Option.some.inj hm).symm
      subst ey
      have et : (st.liftOf i n).tries[m]? = some (st.liftOf i n).tries[m] := List.getElem?_eq_getElem hm2
      have At := s2 _ _ (A1.at_ m _ et)
      have cl := card_len (st.liftOf i n) m
      have l3 := J.len3 i n
      have naq : ℓ.f (.at n i m) ≠ q := ne_of At hq2 fun y => nomatch y
      refine ⟨_, rfl, .inl ⟨rfl, _, SqL.of hq2⟩, _, rfl, ℓ.f (.at n i m), cs.T, _, _, _, rfl, At, X.cT, X.tW, att_weight, q, _, _, rfl, rfl, hq2, small1000 (by omega), ?_⟩
      refine ⟨_, rfl, .inl ⟨rfl, _, SqL.of upd_same⟩, _, rfl, ℓ.f (.at n i m), cs.T, _, _, _, rfl, (upd_ne naq).trans At, X.cT, X.tG, att_good, q, _, _, rfl, rfl, upd_same, small1000 (by rw [List.length_append]; simp; omega), ?_⟩
      refine ⟨_, rfl, fun b o e => ?_, ?_⟩
      · rw [upd_ne (ne_of_none e hq), upd_ne (ne_of_none e hq)]
        exact s2 _ _ e
      · rw [upd_same, card_more et]
    · rintro σ H2 ⟨v5, rfl, s2, hq2⟩
      rw [List.length_map, List.length_range] at hq2
      refine ⟨_, rfl, k1.filled R J (ExtN.refl H) (tb.ext s2) hq s2 ?_⟩
      rw [hq2]
      unfold cardTo
      rw [List.take_length]
/-- v is the attempt o, in H -/
def IsTry (cs : Cs) (H : Hp) (v : V) : Option Kg59.Try → Prop
  | none => v = .non
  | some t => ∃ a d, v = .ref a ∧ H a = some (.ins cs.T d (attF t))
def spBest (cs : Cs) (K : PySem.W.Frag) : Sp := fun vs H Q _ => ∃ (r dr al : Addr) (n c : Nat) (ts : List Kg59.Try) (g d : Nat → Addr), vs = [.ref r] ∧ H r = some (.ins cs.R dr (recF n c al)) ∧ Atts cs K H al ts g d ∧
  ∀ v, IsTry cs H v (ts.foldl Bm.bstep none) → Q v H
theorem ok_best {f : Addr} {fd : FuncData} (F : Fun K "best_attempt" "best_attempt" sBest f fd) (X : Txt K mg cs) : FnOk P w K mg base CX0 1 f fd ["record"] (spBest cs K) := by
  refine F.ok scBest (fun vs H Q E h => ?_) (fun cdv A outer s H vs Q E hr h => ?_)
  · obtain ⟨_, _, _, _, _, _, _, _, rfl, _⟩ := h
    rfl
  · obtain ⟨r, dr, al, n, c, ts, g, d, rfl, hr0, A1, k⟩ := h
    refine ⟨_, pss_cons (ps_set (i := 1) scBest.nd rfl (Or.inl rfl) pe_non)
      (pss_cons (ps_for PassesOwn.never rfl (pi_list (pe_fld (pv 0) rfl)) (pg_name (i := 2) scBest.nd rfl (Or.inl rfl))
        (pss_one (ps_if (PW.pt (pw_and (pt_cmpR op_eq (pe_fld (pv 2) rfl) (pe_gi X.gGood) (nomark _)) (pw_and1 (PW.pt (pw_or (pt_cmpR op_isN (pv 1) pe_non (nomark _)) (pw_or1 (pt_cmpR op_gt (pe_fld (pv 2) rfl) (pe_fld (pv 1) rfl) (nomark _))))))))
          (pss_one (ps_set (i := 1) scBest.nd rfl (Or.inl rfl) (pv 2))) pss_nil)))
      (pss_one (ps_ret (pv 1)))), ?_⟩
    refine ⟨_, rfl, r, cs.R, dr, _, _, rfl, hr0, X.cR, X.rA, rec_attempts, al, rfl, ⟨_, A1.lst⟩, for_list (K := K) (a := al) (xs := (List.range ts.length).map fun j => V.ref (g j))
      (fun m σ H2 => H2 = H ∧ ∃ (v : V) (o : Option V), σ = [some (.ref r), some v, o] ∧ IsTry cs H v ((ts.take m).foldl Bm.bstep none))
      ⟨rfl, .non, none, rfl, rfl⟩ (fun m σ H2 _ ⟨e, _⟩ => by rw [e]; exact A1.lst) ?_ ?_⟩
    · rintro m y σ H2 hm ⟨rfl, v, o, rfl, hv⟩
      have hm2 : m < ts.length := by
        have y1 := (List.getElem?_eq_some_iff.mp hm).1
        simpa using y1
      rw [range_at _ hm2] at hm
      have ey : y = V.ref (g m) := (Option.some.inj hm).symm
      subst ey
      have et : ts[m]? = some ts[m] := List.getElem?_eq_getElem hm2
      have At := A1.at_ m _ et
      have step : (ts.take (m + 1)).foldl Bm.bstep none = Bm.bstep ((ts.take m).foldl Bm.bstep none) ts[m] := by
        rw [take_more et, List.foldl_append]
        rfl
      -- the two ends of a turn
      have keep : Bm.bstep ((ts.take m).foldl Bm.bstep none) ts[m] = (ts.take m).foldl Bm.bstep none → (fun σ H3 => H3 = H2 ∧ ∃ (v : V) (o : Option V), σ = [some (.ref r), some v, o] ∧ IsTry cs H2 v ((ts.take (m + 1)).foldl Bm.bstep none)) [some (V.ref r), some v, some (.ref (g m))] H2 := fun e =>
        ⟨rfl, v, _, rfl, by rw [step, e]; exact hv⟩
      have take : Bm.bstep ((ts.take m).foldl Bm.bstep none) ts[m] = some ts[m] → (fun σ H3 => H3 = H2 ∧ ∃ (v : V) (o : Option V), σ = [some (.ref r), some v, o] ∧ IsTry cs H2 v ((ts.take (m + 1)).foldl Bm.bstep none)) [some (V.ref r), some (.ref (g m)), some (.ref (g m))] H2 := fun e =>
        ⟨rfl, _, _, rfl, by rw [step, e]; exact ⟨g m, d m, rfl, At⟩⟩
      refine ⟨_, rfl, g m, cs.T, _, _, _, rfl, At, X.cT, X.tG, att_good, rfl, _, rfl, ?_⟩
      by_cases hg : ts[m].good = 1
      · refine ite2 (fun _ => ?_) fun y => absurd (by rw [decide_eq_true_eq, hg]; rfl) y
        cases eb : (ts.take m).foldl Bm.bstep none with
        | none =>
          rw [eb] at hv
          have hv : v = .non := hv
          subst hv
          refine ⟨_, rfl, rfl, _, rfl, iteT (iteT ⟨_, rfl, take ?_⟩)⟩
          rw [eb]
          exact if_pos ⟨hg, rfl⟩
        | some t0 =>
          rw [eb] at hv
          obtain ⟨a0, d0, rfl, ha0⟩ := hv
          refine ⟨_, rfl, rfl, _, rfl, iteF ⟨_, rfl, g m, cs.T, _, _, _, rfl, At, X.cT, X.tW, att_weight, _, rfl, a0, cs.T, _, _, _, rfl, ha0, X.cT, X.tW, att_weight, _, _, rfl, rfl, _, rfl, ?_⟩⟩
          by_cases hw : t0.weight < ts[m].weight
          · rw [decide_eq_true (by omega : ((t0.weight : Int) < (ts[m].weight : Nat)))]
            refine iteT ⟨_, rfl, take ?_⟩
            rw [eb]
            exact if_pos ⟨hg, by simpa [Bm.over] using hw⟩
          · rw [decide_eq_false (by omega : ¬ ((t0.weight : Int) < (ts[m].weight : Nat)))]
            refine iteF (keep ?_)
            rw [eb]
            exact if_neg fun y => hw (by simpa [Bm.over] using y.2)
      · refine ite2 (fun y => ?_) fun _ => ?_
        · rw [decide_eq_true_eq, V.int.injEq] at y
          exact absurd (by omega) hg
        · refine iteF (keep ?_)
          exact if_neg fun y => hg y.1
    · rintro σ H2 ⟨rfl, v, o, rfl, hv⟩
      rw [List.length_map, List.length_range, List.take_length] at hv
      exact ⟨_, rfl, k v hv⟩
end
end Bc
namespace Bc
open PySem PySem.Spec PyProof.Rows L2 LamX NdefX

section
variable {P : Program} {w : World} {K : PySem.W.Frag} {mg : Str → Option Value} {base : Heap} {cs : Cs} {T : List (Addr × Str)}

/-! ### achieved_in_lift, achieved_in_both, placed -/
abbrev sAchL : Stmt := top 39
abbrev sAchB : Stmt := top 40
abbrev sPlaced : Stmt := top 41
theorem scAchL : FnScope ["contest", "lift", "found", "lifter", "best"] ["contest", "lift"] (defScope sAchL) := ⟨rfl, rfl, rfl, by decide +kernel, rfl, by decide +kernel, by decide +kernel⟩
theorem scAchB : FnScope ["contest", "found", "lifter", "first", "second"] ["contest"] (defScope sAchB) := ⟨rfl, rfl, rfl, by decide +kernel, rfl, by decide +kernel, by decide +kernel⟩
theorem scPlaced : FnScope ["contest", "order", "achieved"] ["contest", "order"] (defScope sPlaced) := ⟨rfl, rfl, rfl, by decide +kernel, rfl, by decide +kernel, by decide +kernel⟩
/-- lifter, weight, turn -/
def entry (s : Kg59.State) (k i : Nat) : HO := .tup [.int (i : Nat), .int ((Bm.got s k i).1 : Nat), .int (((Bm.got s k i).2 + 1 : Nat) : Int)]
abbrev isIn (s : Kg59.State) (k i : Nat) : Bool := (s.result k i).isSome
/-- at p a list of the entries of the first n lifters, by lot -/
def Ach (H : Hp) (p : Addr) (s : Kg59.State) (k n : Nat) (g : Nat → Addr) : Prop := H p = some (.lst (((List.range n).filter (isIn s k)).map fun i => .ref (g i))) ∧ ∀ i, i < n → isIn s k i = true → H (g i) = some (entry s k i)
theorem Ach.skip {H : Hp} {p : Addr} {s : Kg59.State} {k n : Nat} {g : Nat → Addr} (a : Ach H p s k n g) (h : isIn s k n = false) : Ach H p s k (n + 1) g := by
  refine ⟨?_, fun i hi hin => ?_⟩
  · rw [filter_more, h]
    simpa using a.1
  · refine a.2 i ?_ hin
    by_cases e : i = n
    · subst e
      rw [h] at hin
      cases hin
    · omega
theorem Ach.one {H : Hp} {p q : Addr} {s : Kg59.State} {k n : Nat} {g : Nat → Addr} (a : Ach H p s k n g) (h : isIn s k n = true) (hq : H q = none) :
    Ach (upd (upd H q (entry s k n)) p (.lst (((List.range n).filter (isIn s k)).map (fun i => .ref (g i)) ++ [.ref q]))) p s k (n + 1) fun i => if i = n then q else g i := by
  have npq : p ≠ q := ne_of_none a.1 hq
  refine ⟨?_, fun i hi hin => ?_⟩
  · rw [upd_same, filter_more, h, if_pos rfl]
    have e : ((List.range n).filter (isIn s k)).map (fun i => V.ref (if i = n then q else g i)) = ((List.range n).filter (isIn s k)).map fun i => V.ref (g i) := by
      apply List.map_congr_left
      intro i hi
      have := List.mem_range.mp (List.mem_filter.mp hi).1
      rw [if_neg (by omega)]
    rw [e]
    simp
  · show upd (upd H q _) p _ (if i = n then q else g i) = _
    split
    · rename_i e
      subst e
      rw [upd_ne npq.symm, upd_same]
    · have hi2 := a.2 i (by omega) hin
      rw [upd_ne (ne_of hi2 a.1 fun z => nomatch z), upd_ne (ne_of_none hi2 hq)]
      exact hi2
theorem Ach.same {H H' : Hp} {p : Addr} {s : Kg59.State} {k n : Nat} {g : Nat → Addr} (a : Ach H p s k n g) (e : Same H H') : Ach H' p s k n g := ⟨e _ _ a.1, fun i h1 h2 => e _ _ (a.2 i h1 h2)⟩
theorem isTry_best {H : Hp} {v : V} {l : Kg59.Lift} (h : IsTry cs H v (l.tries.foldl Bm.bstep none)) : IsTry cs H v (Kg59.best l) := by
  rw [Bm.best_fold]
  exact h
def spAchL (cs : Cs) : Sp := fun vs H Q _ => ∃ (ℓ : Lay) (s : Kg59.State) (hist : Hist) (k : Nat), vs = [.ref ℓ.c, .int (k : Nat)] ∧ Rep cs H ℓ s hist ∧ s.lifters.length ≤ 24 ∧ k < 2 ∧
  ∀ (H' : Hp) (p : Addr) (g : Nat → Addr), Same H H' → Ach H' p s k s.lifters.length g → Q (.ref p) H'
def spAchB (cs : Cs) : Sp := fun vs H Q _ => ∃ (ℓ : Lay) (s : Kg59.State) (hist : Hist), vs = [.ref ℓ.c] ∧ Rep cs H ℓ s hist ∧ s.lifters.length ≤ 24 ∧
  ∀ (H' : Hp) (p : Addr) (g : Nat → Addr), Same H H' → Ach H' p s 2 s.lifters.length g → Q (.ref p) H'
theorem ok_achL {f : Addr} {fd : FuncData} (F : Fun K "achieved_in_lift" "achieved_in_lift" sAchL f fd) (X : Txt K mg cs) (D1 : DefOk P w K mg base 1 "best_attempt" ["record"] (spBest cs K)) : FnOk P w K mg base CX0 2 f fd ["contest", "lift"] (spAchL cs) := by
  refine F.ok scAchL (fun vs H Q E h => ?_) (fun cdv A outer s H vs Q E hr h => ?_)
  · obtain ⟨_, _, _, _, rfl, _⟩ := h
    rfl
  · obtain ⟨ℓ, st, hist, n, rfl, R, hn24, hn, k⟩ := h
    refine ⟨_, pss_cons (ps_set (i := 2) scAchL.nd rfl (Or.inl rfl) (pe_lst pa_nil))
      (pss_cons (ps_for PassesOwn.never rfl (pi_range1 rfl X.range (pa_cons (pe_callB call_len_seq (by rfl) X.len PySem.boot_len (pa_cons (pe_fld (pv 0) rfl) pa_nil)) pa_nil)) (pg_name (i := 3) scAchL.nd rfl (Or.inl rfl))
        (pss_cons (ps_set (i := 4) scAchL.nd rfl (Or.inl rfl) (pe_d (j := 1) D1 hr (pa_cons (pe_ix ix_list (pe_ix ix_list (pe_fld (pv 0) rfl) (pv 1) (fun _ _ => rfl)) (pv 3) (fun _ _ => rfl)) pa_nil)))
        (pss_one (ps_if (pt_cmpR op_notN (pv 4) pe_non (nomark _)) (pss_one (ps_expr (pe_bm PySem.F.plainAttrs_list PySem.F.slot_list_append PySem.F.type_list_append mt_append (pv 2) (pa_cons (pe_tup (pa_cons (pv 3) (pa_cons (pe_fld (pv 4) rfl) (pa_cons (pe_fld (pv 4) rfl) pa_nil)))) pa_nil)))) pss_nil))))
      (pss_one (ps_ret (pv 2)))), ?_⟩
    refine ⟨Nat.zero_le _, fun q hq => ?_⟩
    have s1 : Same H (upd H q (.lst [])) := same_upd hq
    have R1 := R.same s1
    have nle : (((st.lifters.map fun l => V.int (l.team : Nat)).length : Nat) : Int) = (st.lifters.length : Nat) := by rw [List.length_map]
    refine ⟨_, rfl, ℓ.c, cs.C, ℓ.cd, _, _, rfl, R1.con, X.cC, X.cTm, con_teams, ℓ.f .tm, _, rfl, .inl (SqL.of (R1.ob .tm trivial)), (st.lifters.length : Nat), by rw [nle], by omega, by omega,
      for_range (n := st.lifters.length) (fun i σ H2 => ∃ o3 o4 : Option V, σ = [some (.ref ℓ.c), some (.int (n : Nat)), some (.ref q), o3, o4] ∧ Same H H2 ∧ ∃ g : Nat → Addr, Ach H2 q st n i g) ⟨none, none, rfl, s1, fun _ => 0, upd_same, fun i h => absurd h (Nat.not_lt_zero _)⟩ ?_ ?_⟩
    · rintro i σ H2 hi ⟨o3, o4, rfl, s2, g, a⟩
      have R2 := R.same s2
      have Rc := R2.ob (.rc n i) ⟨hn, hi⟩
      rw [obj_rc] at Rc
      refine ⟨_, rfl, ℓ.c, cs.C, ℓ.cd, _, _, rfl, R2.con, X.cC, X.cRs, con_records, _, rfl, ℓ.f .rs, _, _, _, rfl, rfl, SqL.of (R2.ob .rs trivial), atI_nat (two_at ℓ hn), _, rfl, ℓ.f (.ls n), _, _, _, rfl, rfl, SqL.of (R2.ob (.ls n) hn), by rw [Int.zero_add]; exact atI_nat (range_at _ hi), ?_⟩
      refine ⟨ℓ.f (.rc n i), _, _, _, _, (st.liftOf i n).tries, _, _, rfl, Rc, R2.atts hn hi, fun v hv => ?_⟩
      have hv := isTry_best hv
      have er : st.result n i = (Kg59.best (st.liftOf i n)).map fun t => (t.weight, t.at_) := if_pos hn
      cases eb : Kg59.best (st.liftOf i n) with
      | none =>
        rw [eb] at hv
        have hv : v = .non := hv
        subst hv
        refine ⟨_, rfl, rfl, _, rfl, iteF ⟨_, _, rfl, s2, g, a.skip ?_⟩⟩
        unfold isIn
        rw [er, eb]
        rfl
      | some t =>
        rw [eb] at hv
        obtain ⟨a0, d0, rfl, ha0⟩ := hv
        have hin : isIn st n i = true := by
          unfold isIn
          rw [er, eb]
          rfl
        have eg : Bm.got st n i = (t.weight, t.at_) := by
          unfold Bm.got
          rw [er, eb]
          rfl
        refine ⟨_, rfl, rfl, _, rfl, iteT ⟨_, rfl, .inl ⟨rfl, _, SqL.of a.1⟩, _, rfl, _, rfl, a0, cs.T, _, _, _, rfl, ha0, X.cT, X.tW, att_weight, _, rfl, a0, cs.T, _, _, _, rfl, ha0, X.cT, X.tU, att_turn, (by show 3 ≤ sizeLine; decide), fun tp htp => ?_⟩⟩
        have et : HO.tup [V.int ((0 : Int) + (i : Nat)), .int (t.weight : Nat), .int ((t.at_ + 1 : Nat) : Int)] = entry st n i := by
          unfold entry
          rw [eg, Int.zero_add]
        rw [et]
        have a1 := a.one hin htp
        refine ⟨q, _, _, rfl, rfl, (upd_ne (ne_of_none a.1 htp)).trans a.1, ?_, _, _, rfl, fun b o e => ?_, _, a1⟩
        · rw [List.length_map]
          exact small1000 (Nat.le_trans (len_filter _ _) (by omega))
        · rw [upd_ne (ne_of_none e hq), upd_ne (ne_of_none (s2 _ _ e) htp)]
          exact s2 _ _ e
    · rintro σ H2 ⟨o3, o4, rfl, s2, g, a⟩
      exact ⟨_, rfl, k H2 q g s2 a⟩
theorem ok_achB {f : Addr} {fd : FuncData} (F : Fun K "achieved_in_both" "achieved_in_both" sAchB f fd) (X : Txt K mg cs) (D1 : DefOk P w K mg base 1 "best_attempt" ["record"] (spBest cs K)) : FnOk P w K mg base CX0 2 f fd ["contest"] (spAchB cs) := by
  refine F.ok scAchB (fun vs H Q E h => ?_) (fun cdv A outer s H vs Q E hr h => ?_)
  · obtain ⟨_, _, _, rfl, _⟩ := h
    rfl
  · obtain ⟨ℓ, st, hist, rfl, R, hn24, k⟩ := h
    refine ⟨_, pss_cons (ps_set (i := 1) scAchB.nd rfl (Or.inl rfl) (pe_lst pa_nil))
      (pss_cons (ps_for PassesOwn.never rfl (pi_range1 rfl X.range (pa_cons (pe_callB call_len_seq (by rfl) X.len PySem.boot_len (pa_cons (pe_fld (pv 0) rfl) pa_nil)) pa_nil)) (pg_name (i := 2) scAchB.nd rfl (Or.inl rfl))
        (pss_cons (ps_set (i := 3) scAchB.nd rfl (Or.inl rfl) (pe_d (j := 1) D1 hr (pa_cons (pe_ix ix_list (pe_ix ix_list (pe_fld (pv 0) rfl) pe_int (fun _ _ => rfl)) (pv 2) (fun _ _ => rfl)) pa_nil)))
        (pss_cons (ps_set (i := 4) scAchB.nd rfl (Or.inl rfl) (pe_d (j := 1) D1 hr (pa_cons (pe_ix ix_list (pe_ix ix_list (pe_fld (pv 0) rfl) pe_int (fun _ _ => rfl)) (pv 2) (fun _ _ => rfl)) pa_nil)))
        (pss_one (ps_if (PW.pt (pw_and (pt_cmpR op_notN (pv 3) pe_non (nomark _)) (pw_and1 (pt_cmpR op_notN (pv 4) pe_non (nomark _)))))
          (pss_one (ps_expr (pe_bm PySem.F.plainAttrs_list PySem.F.slot_list_append PySem.F.type_list_append mt_append (pv 1) (pa_cons (pe_tup (pa_cons (pv 2) (pa_cons (pe_op op_add (pe_fld (pv 3) rfl) (pe_fld (pv 4) rfl)) (pa_cons (pe_fld (pv 4) rfl) pa_nil)))) pa_nil)))) pss_nil)))))
      (pss_one (ps_ret (pv 1)))), ?_⟩
    refine ⟨Nat.zero_le _, fun q hq => ?_⟩
    have s1 : Same H (upd H q (.lst [])) := same_upd hq
    have R1 := R.same s1
    have nle : (((st.lifters.map fun l => V.int (l.team : Nat)).length : Nat) : Int) = (st.lifters.length : Nat) := by rw [List.length_map]
    refine ⟨_, rfl, ℓ.c, cs.C, ℓ.cd, _, _, rfl, R1.con, X.cC, X.cTm, con_teams, ℓ.f .tm, _, rfl, .inl (SqL.of (R1.ob .tm trivial)), (st.lifters.length : Nat), by rw [nle], by omega, by omega,
      for_range (n := st.lifters.length) (fun i σ H2 => ∃ o2 o3 o4 : Option V, σ = [some (.ref ℓ.c), some (.ref q), o2, o3, o4] ∧ Same H H2 ∧ ∃ g : Nat → Addr, Ach H2 q st 2 i g) ⟨none, none, none, rfl, s1, fun _ => 0, upd_same, fun i h => absurd h (Nat.not_lt_zero _)⟩ ?_ ?_⟩
    · rintro i σ H2 hi ⟨o2, o3, o4, rfl, s2, g, a⟩
      have R2 := R.same s2
      have Rc0 := R2.ob (.rc 0 i) ⟨by decide, hi⟩
      have Rc1 := R2.ob (.rc 1 i) ⟨by decide, hi⟩
      rw [obj_rc] at Rc0 Rc1
      refine ⟨_, rfl, ℓ.c, cs.C, ℓ.cd, _, _, rfl, R2.con, X.cC, X.cRs, con_records, ℓ.f .rs, _, _, _, rfl, rfl, SqL.of (R2.ob .rs trivial), atI_nat (j := 0) rfl, _, rfl, ℓ.f (.ls 0), _, _, _, rfl, rfl, SqL.of (R2.ob (.ls 0) (by show 0 < 2; decide)), by rw [Int.zero_add]; exact atI_nat (range_at _ hi), ?_⟩
      refine ⟨ℓ.f (.rc 0 i), _, _, _, _, (st.liftOf i 0).tries, _, _, rfl, Rc0, R2.atts (by decide) hi, fun v hv => ?_⟩
      refine ⟨_, rfl, ℓ.c, cs.C, ℓ.cd, _, _, rfl, R2.con, X.cC, X.cRs, con_records, ℓ.f .rs, _, _, _, rfl, rfl, SqL.of (R2.ob .rs trivial), atI_nat (j := 1) rfl, _, rfl, ℓ.f (.ls 1), _, _, _, rfl, rfl, SqL.of (R2.ob (.ls 1) (by show 1 < 2; decide)), by rw [Int.zero_add]; exact atI_nat (range_at _ hi), ?_⟩
      refine ⟨ℓ.f (.rc 1 i), _, _, _, _, (st.liftOf i 1).tries, _, _, rfl, Rc1, R2.atts (by decide) hi, fun u hu => ?_⟩
      have hv := isTry_best hv
      have hu := isTry_best hu
      have er : st.result 2 i = match Kg59.best (st.liftOf i 0), Kg59.best (st.liftOf i 1) with
        | some a, some b => some (a.weight + b.weight, b.at_)
        | _, _ => none := if_neg (by decide)
      cases eb : Kg59.best (st.liftOf i 0) with
      | none =>
        rw [eb] at hv
        have hv : v = .non := hv
        subst hv
        refine ⟨_, rfl, rfl, _, rfl, iteF (iteF ⟨_, _, _, rfl, s2, g, a.skip ?_⟩)⟩
        unfold isIn
        rw [er, eb]
        rfl
      | some t =>
        rw [eb] at hv
        obtain ⟨a0, d0, rfl, ha0⟩ := hv
        refine ⟨_, rfl, rfl, _, rfl, iteT ?_⟩
        cases eb1 : Kg59.best (st.liftOf i 1) with
        | none =>
          rw [eb1] at hu
          have hu : u = .non := hu
          subst hu
          refine ⟨_, rfl, rfl, _, rfl, iteF ⟨_, _, _, rfl, s2, g, a.skip ?_⟩⟩
          unfold isIn
          rw [er, eb, eb1]
          rfl
        | some t1 =>
          rw [eb1] at hu
          obtain ⟨a1, d1, rfl, ha1⟩ := hu
          have hin : isIn st 2 i = true := by
            unfold isIn
            rw [er, eb, eb1]
            rfl
          have eg : Bm.got st 2 i = (t.weight + t1.weight, t1.at_) := by
            unfold Bm.got
            rw [er, eb, eb1]
            rfl
          refine ⟨_, rfl, rfl, _, rfl, iteT ⟨_, rfl, .inl ⟨rfl, _, SqL.of a.1⟩, _, rfl, _, rfl, a0, cs.T, _, _, _, rfl, ha0, X.cT, X.tW, att_weight, _, rfl, a1, cs.T, _, _, _, rfl, ha1, X.cT, X.tW, att_weight, _, _, rfl, rfl, _, rfl, a1, cs.T, _, _, _, rfl, ha1, X.cT, X.tU, att_turn, (by show 3 ≤ sizeLine; decide), fun tp htp => ?_⟩⟩
          have et : HO.tup [V.int ((0 : Int) + (i : Nat)), .int ((t.weight : Int) + (t1.weight : Nat)), .int ((t1.at_ + 1 : Nat) : Int)] = entry st 2 i := by
            unfold entry
            rw [eg, Int.zero_add]
            rfl
          rw [et]
          have a2 := a.one hin htp
          refine ⟨q, _, _, rfl, rfl, (upd_ne (ne_of_none a.1 htp)).trans a.1, ?_, _, _, _, rfl, fun b o e => ?_, _, a2⟩
          · rw [List.length_map]
            exact small1000 (Nat.le_trans (len_filter _ _) (by omega))
          · rw [upd_ne (ne_of_none e hq), upd_ne (ne_of_none (s2 _ _ e) htp)]
            exact s2 _ _ e
    · rintro σ H2 ⟨o2, o3, o4, rfl, s2, g, a⟩
      exact ⟨_, rfl, k H2 q g s2 a⟩
/-- the text of placed's lambda -/
abbrev plLam := lamOf ((defBody sPlaced).getD 1 (.Pass ⟨0, 0, 0, 0⟩))
theorem nsPl : NScope ["entry"] ["entry"] [] plLam.2.2 := nscope_by (by decide +kernel)
theorem ndPl : ndefB (defScope sPlaced) plLam.2.2 [] = true := by decide +kernel
def spPlaced (cs : Cs) (T : List (Addr × Str)) : Sp := fun vs H Q _ => ∃ (ℓ : Lay) (s : Kg59.State) (hist : Hist) (k : Nat), vs = [.ref ℓ.c, .int (k : Nat)] ∧ Rep cs H ℓ s hist ∧ Bm.Ok s hist ∧ Tabs T H ∧ k ≤ 2 ∧
  ∀ (H' : Hp) (p : Addr) (g : Nat → Addr), ExtN H H' → Tabs T H' → H' p = some (.lst ((s.ranked k).map fun i => .ref (g i))) → (∀ i ∈ s.ranked k, H' (g i) = some (entry s k i)) → Q (.ref p) H'
theorem ok_placed {f c : Addr} {oc : Value} {od an : Option Addr} {osl : Array (Option Value)} {kV doc pm ct : Value} {Pt : Addr}
    (lk : K.lookup f = some ⟨oc, od, .func (PySem.W.fnOf "placed" "placed" (defArgs sPlaced) (defBody sPlaced) (defScope sPlaced) .none kV doc pm an (.ref c) ct), osl⟩) (hcd : PySem.W.codeIn K (.ref c) "placed" = true)
    (TB : TabB base mg c Pt) (hm : (Pt, lamName "placed") ∈ T) (hu : ∀ q ∈ T, q.1 = Pt → q.2 = lamName "placed") (X : Txt K mg cs)
    (D1 : DefOk P w K mg base 2 "achieved_in_lift" ["contest", "lift"] (spAchL cs)) (D2 : DefOk P w K mg base 2 "achieved_in_both" ["contest"] (spAchB cs)) :
    FnOk P w K mg base CX0 4 f (PySem.W.fnOf "placed" "placed" (defArgs sPlaced) (defBody sPlaced) (defScope sPlaced) .none kV doc pm an (.ref c) ct) ["contest", "order"] (spPlaced cs T) := by
  refine ok_code lk hcd scPlaced (fun vs H Q E h => ?_) (fun A outer s H vs Q E hr h => ?_)
  · obtain ⟨_, _, _, _, rfl, _⟩ := h
    rfl
  · obtain ⟨ℓ, st, hist, n, rfl, R, J, tb, hn, k⟩ := h
    refine ⟨_, pss_cons (ps_set (i := 2) scPlaced.nd rfl (Or.inl rfl) (pe_ifExp (pt_cmpR op_eq (pv 1) (pe_gi X.gBoth) (nomark _)) (pe_d (j := 3) D2 hr (pa_cons (pv 0) pa_nil)) (pe_d (j := 3) D1 hr (pa_cons (pv 0) (pa_cons (pv 1) pa_nil)))))
      (pss_one (ps_ret (pe_sortedLam (T := T) (c := c) (Pt := Pt) (N := ["entry"]) (fr := []) (x := "entry") (js := []) (k0 := 0) (tb := tTup (tCons (tUn (rU fun i => .int (-i)) (tOp (rIxT K) (tVar 0) (tC (.int 1)))) (tCons (tOp (rIxT K) (tVar 0) (tC (.int 2))) tNil))) rfl X.srt (pv 2) TB rfl hm hu hr nsPl rfl (ndef_free ndPl) (ndef_fr ndPl) rfl (fun _ _ _ _ _ _ => rfl)
        (fun f' c' A' outer' s' H' hr' => by exact pe_tup (pa_cons (pe_un un_neg (pe_ix ix_tup (pv 0) pe_int (fun _ _ => rfl))) (pa_cons (pe_ix ix_tup (pv 0) pe_int (fun _ _ => rfl)) pa_nil)))))), ?_⟩
    have main : ∀ (H1 : Hp) (q : Addr) (g : Nat → Addr), Same H H1 → Ach H1 q st n st.lifters.length g → tSortLam K T ["entry"] [] (tTup (tCons (tUn (rU fun i => .int (-i)) (tOp (rIxT K) (tVar 0) (tC (.int 1)))) (tCons (tOp (rIxT K) (tVar 0) (tC (.int 2))) tNil))) (tVar 2) [some (.ref ℓ.c), some (.int (n : Nat)), some (.ref q)] H1 Q := by
      intro H1 q g s1 a
      refine ⟨_, rfl, tb.ext s1, q, Nat, Bm.inOrder st n, fun i => .ref (g i), rankD st n, rfl, SqL.of a.1, alike_rank _ _ _, sortable_rank _ _ _, fun b _ => depth_rank _ _ _, fun H2 e2 t2 => ⟨fun i hi H3 s3 => ?_, fun H3 p s3 hp => ?_⟩⟩
      · have hi2 := List.mem_filter.mp hi
        have ht : H3 (g i) = some (entry st n i) := s3 _ _ (e2 _ _ (a.2 i (List.mem_range.mp hi2.1) hi2.2) fun ps z => nomatch z)
        refine ⟨_, rfl, g i, _, _, _, rfl, rfl, SqT.of ht, atI_nat (j := 1) rfl, _, rfl, _, rfl, g i, _, _, _, rfl, rfl, SqT.of ht, atI_nat (j := 2) rfl, (by show 2 ≤ sizeLine; decide), fun tp htp => ⟨same_upd htp, ?_⟩⟩
        exact .tup (SqT.of upd_same) (.cons (.int _) (.cons (.int _) .nil))
      · rw [ranked_is J]
        refine k _ p g ((ExtN.of s1).trans (e2.trans (ExtN.of (s3.trans (same_upd hp))))) (tabs_upd (t2.ext s3) hp) upd_same fun i hi => ?_
        have hi2 := List.mem_filter.mp (Bm.ranked_mem.mp hi)
        have ht : H3 (g i) = some (entry st n i) := s3 _ _ (e2 _ _ (a.2 i (List.mem_range.mp hi2.1) hi2.2) fun ps z => nomatch z)
        rw [upd_ne (ne_of_none ht hp)]
        exact ht
    refine ⟨_, rfl, rfl, _, rfl, ite2 (fun y => ?_) fun y => ?_⟩
    · rw [decide_eq_true_eq, V.int.injEq] at y
      have en : n = 2 := by omega
      subst en
      exact ⟨_, rfl, ℓ, st, hist, rfl, R, J.n24, fun H1 q g s1 a => main H1 q g s1 a⟩
    · rw [decide_eq_true_eq, V.int.injEq] at y
      exact ⟨_, rfl, _, rfl, ℓ, st, hist, n, rfl, R, J.n24, by omega, fun H1 q g s1 a => main H1 q g s1 a⟩
end
end Bc
namespace Bc
open PySem PySem.Spec PyProof.Rows L2 LamX

section
variable {P : Program} {w : World} {K : PySem.W.Frag} {mg : Str → Option Value} {base : Heap} {cs : Cs} {T : List (Addr × Str)}

/-! ### ranked, points -/
abbrev sRanked : Stmt := top 42
abbrev sPoints : Stmt := top 44
theorem scRanked : FnScope ["contest", "order", "entries", "answer", "entry"] ["contest", "order"] (defScope sRanked) := ⟨rfl, rfl, rfl, by decide +kernel, rfl, by decide +kernel, by decide +kernel⟩
theorem scPoints : FnScope ["contest", "team", "together", "order", "place", "entry"] ["contest", "team"] (defScope sPoints) := ⟨rfl, rfl, rfl, by decide +kernel, rfl, by decide +kernel, by decide +kernel⟩
theorem spec_ranked (s : Kg59.State) (z : Int) : Kg59.spec s (.ranked z) = if Kg59.within z 0 2 = false then (s, Kg59.num (-1)) else
    (s, ⟨(s.ranked z.toNat).length, Kg59.whole ((s.ranked z.toNat).flatMap fun i => [i, ((s.result z.toNat i).map fun r => r.1).getD 0])⟩) := rfl
theorem got_fst (s : Kg59.State) (k i : Nat) : ((s.result k i).map fun r => r.1).getD 0 = (Bm.got s k i).1 := by
  unfold Bm.got
  cases s.result k i <;> rfl
theorem ok_ranked {f : Addr} {fd : FuncData} (F : Fun K "ranked" "ranked" sRanked f fd) (X : Txt K mg cs) (D1 : DefOk P w K mg base 4 "placed" ["contest", "order"] (spPlaced cs T)) (z : Int) :
    FnOk P w K mg base CX0 5 f fd ["contest", "order"] (spCall cs T [.int z] (nxt (.ranked z)) (told (.ranked z))) := by
  refine F.ok scRanked (fun vs H Q E h => ?_) (fun cdv A outer s H vs Q E hr h => ?_)
  · obtain ⟨_, _, _, rfl, _⟩ := h
    rfl
  · obtain ⟨ℓ, st, hist, rfl, R, J, tb, k⟩ := h
    refine ⟨_, pss_cons (ps_if (pt_not (pt_chain op_le op_le pe_int (pv 1) (pe_gi X.gBoth))) (pss_one (ps_ret (pe_lst (pa_cons (pe_un un_neg pe_int) pa_nil)))) pss_nil)
      (pss_cons (ps_set (i := 2) scRanked.nd rfl (Or.inl rfl) (pe_d (j := 4) D1 hr (pa_cons (pv 0) (pa_cons (pv 1) pa_nil))))
      (pss_cons (ps_set (i := 3) scRanked.nd rfl (Or.inl rfl) (pe_lst (pa_cons (pe_callB call_len_seq (by rfl) X.len PySem.boot_len (pa_cons (pv 2) pa_nil)) pa_nil)))
      (pss_cons (ps_for PassesOwn.never rfl (pi_list (pv 2)) (pg_name (i := 4) scRanked.nd rfl (Or.inl rfl))
        (pss_cons (ps_expr (pe_bm PySem.F.plainAttrs_list PySem.F.slot_list_append PySem.F.type_list_append mt_append (pv 3) (pa_cons (pe_ix ix_tup (pv 4) pe_int (fun _ _ => rfl)) pa_nil)))
        (pss_one (ps_expr (pe_bm PySem.F.plainAttrs_list PySem.F.slot_list_append PySem.F.type_list_append mt_append (pv 3) (pa_cons (pe_ix ix_tup (pv 4) pe_int (fun _ _ => rfl)) pa_nil))))))
      (pss_one (ps_ret (pv 3)))))), ?_⟩
    have dead : Kg59.spec st (.ranked z) = (st, Kg59.num (-1)) → ∀ p, H p = none → Q (.ref p) (upd H p (.lst [.int (-1)])) := fun e p hp => by
      have k1 : Post cs T H ℓ st hist st [-1] Q := by
        have e1 : nxt (.ranked z) st = st := by show (Kg59.spec st (.ranked z)).1 = st; rw [e]
        have e2 : told (.ranked z) st = [-1] := by show ansL (Kg59.spec st (.ranked z)).2 = _; rw [e]; rfl
        rw [e1, e2] at k
        exact k
      exact k1.still R J (ExtN.refl H) tb hp
    refine ⟨_, rfl, _, _, rfl, rfl, _, rfl, ?_⟩
    cases h2 : decide ((0 : Int) ≤ z) with
    | false => exact iteF ⟨_, rfl, iteT ⟨_, rfl, (by show 1 ≤ sizeLine; decide), fun p hp => dead (by rw [spec_ranked, if_pos (by unfold Kg59.within; rw [h2]; rfl)]) p hp⟩⟩
    | true =>
    refine iteT ⟨_, _, rfl, rfl, _, rfl, ?_⟩
    cases h3 : decide (z ≤ 2) with
    | false => exact iteT ⟨_, rfl, (by show 1 ≤ sizeLine; decide), fun p hp => dead (by rw [spec_ranked, if_pos (by unfold Kg59.within; rw [h2, h3]; rfl)]) p hp⟩
    | true =>
    obtain ⟨n, rfl, hn⟩ : ∃ n : Nat, z = (n : Nat) ∧ n ≤ 2 := by
      simp at h2 h3
      exact ⟨z.toNat, by omega, by omega⟩
    have eA : ¬ Kg59.within (n : Nat) 0 2 = false := by
      unfold Kg59.within
      rw [h2, h3]
      simp
    have k1 : Post cs T H ℓ st hist st (pairsL (st.ranked n) fun i => ((st.result n i).map fun r => r.1).getD 0) Q := by
      have es : Kg59.spec st (.ranked (n : Nat)) = (st, ⟨(st.ranked n).length, Kg59.whole ((st.ranked n).flatMap fun i => [i, ((st.result n i).map fun r => r.1).getD 0])⟩) := by
        rw [spec_ranked, if_neg eA]
        rfl
      have e1 : nxt (.ranked (n : Nat)) st = st := by show (Kg59.spec st _).1 = st; rw [es]
      have e2 : told (.ranked (n : Nat)) st = pairsL (st.ranked n) fun i => ((st.result n i).map fun r => r.1).getD 0 := by show ansL (Kg59.spec st _).2 = _; rw [es]; rfl
      rw [e1, e2] at k
      exact k
    refine iteF ⟨_, rfl, _, rfl, ℓ, st, hist, n, rfl, R, J, tb, hn, fun H1 p g e1 t1 hp hg => ?_⟩
    have hlen : (st.ranked n).length ≤ 24 := Nat.le_trans (Bm.ranked_len st n) J.n24
    refine ⟨_, rfl, p, _, rfl, .inl (SqL.of hp), (by show 1 ≤ sizeLine; decide), fun q hq => ?_⟩
    rw [List.length_map]
    have s1 : Same H1 (upd H1 q (.lst [.int ((st.ranked n).length : Nat)])) := same_upd hq
    refine ⟨_, rfl, p, rfl, ⟨_, s1.seq (SqL.of hp)⟩, for_list (K := K) (a := p) (xs := (st.ranked n).map fun i => V.ref (g i)) (fun m σ H2 => ∃ v : Option V, σ = [some (.ref ℓ.c), some (.int (n : Nat)), some (.ref p), some (.ref q), v] ∧ Same H1 H2 ∧ H2 q = some (.lst (pairsTo (st.ranked n) (fun i => ((st.result n i).map fun r => r.1).getD 0) m)))
      ⟨none, rfl, s1, upd_same⟩ (fun m σ H2 _ ⟨_, _, s2, _⟩ => s2.seq (SqL.of hp)) ?_ ?_⟩
    · rintro m y σ H2 hm ⟨v, rfl, s2, hq2⟩
      rw [List.getElem?_map] at hm
      cases ei : (st.ranked n)[m]? with
      | none =>
        rw [ei] at hm
        cases hm
      | some x =>
        rw [ei] at hm
        have ey : y = V.ref (g x) := (Option.some.inj hm).symm
        subst ey
        have ht := s2 _ _ (hg x (List.mem_of_getElem? ei))
        have ngq : g x ≠ q := ne_of ht hq2 fun y => nomatch y
        have pl := pairs_len (st.ranked n) (fun i => ((st.result n i).map fun r => r.1).getD 0) m
        refine ⟨_, rfl, .inl ⟨rfl, _, SqL.of hq2⟩, _, rfl, g x, _, _, _, rfl, rfl, SqT.of ht, atI_nat (j := 0) rfl, q, _, _, rfl, rfl, hq2, small1000 (by omega), ?_⟩
        refine ⟨_, rfl, .inl ⟨rfl, _, SqL.of upd_same⟩, _, rfl, g x, _, _, _, rfl, rfl, SqT.of ((upd_ne ngq).trans ht), atI_nat (j := 1) rfl, q, _, _, rfl, rfl, upd_same, small1000 (by rw [List.length_append]; simp; omega), ?_⟩
        refine ⟨_, rfl, fun b o e => ?_, ?_⟩
        · rw [upd_ne (ne_of_none e hq), upd_ne (ne_of_none e hq)]
          exact s2 _ _ e
        · rw [upd_same, pairs_more _ ei, got_fst]
    · rintro σ H2 ⟨v, rfl, s2, hq2⟩
      rw [List.length_map, pairs_end] at hq2
      exact ⟨_, rfl, k1.filled R J e1 (t1.ext s2) hq s2 hq2⟩
/-- what a team has of the first j places of an order -/
def ptsTo (s : Kg59.State) (team k j : Nat) : Nat := (((s.ranked k).take j).zipIdx.map fun x => if ((s.lifters[x.1]?).map Kg59.Lifter.team) = some team then Kg59.pointsOf x.2 else 0).sum
def ordTo (s : Kg59.State) (team k : Nat) : Nat := ((List.range k).map fun m => ptsTo s team m (s.ranked m).length).sum
theorem team_is (s : Kg59.State) (team : Nat) : s.teamPoints team = ordTo s team 3 := by
  unfold Kg59.State.teamPoints ordTo ptsTo
  simp only [List.take_length]
theorem ord_more (s : Kg59.State) (team k : Nat) : ordTo s team (k + 1) = ordTo s team k + ptsTo s team k (s.ranked k).length := by
  unfold ordTo
  rw [List.range_succ, List.map_append, List.sum_append]
  simp
theorem pts_more (s : Kg59.State) (team k j i : Nat) (h : (s.ranked k)[j]? = some i) : ptsTo s team k (j + 1) = ptsTo s team k j + if ((s.lifters[i]?).map Kg59.Lifter.team) = some team then Kg59.pointsOf j else 0 := by
  unfold ptsTo
  have hj := (List.getElem?_eq_some_iff.mp h).1
  rw [take_more h, List.zipIdx_append, List.map_append, List.sum_append]
  simp [Nat.min_eq_left (Nat.le_of_lt hj)]
theorem spec_points (s : Kg59.State) (z : Int) : Kg59.spec s (.points z) = if Kg59.within z 0 20 = false then (s, Kg59.num (-1)) else (s, Kg59.num (s.teamPoints z.toNat : Nat)) := rfl
theorem ok_points {f : Addr} {fd : FuncData} (F : Fun K "points" "points" sPoints f fd) (X : Txt K mg cs) (D1 : DefOk P w K mg base 1 "is_team" ["team"] spTeam) (D2 : DefOk P w K mg base 4 "placed" ["contest", "order"] (spPlaced cs T)) (D3 : DefOk P w K mg base 1 "worth" ["place"] spWorth) (z : Int) :
    FnOk P w K mg base CX0 5 f fd ["contest", "team"] (spCall cs T [.int z] (nxt (.points z)) (told (.points z))) := by
  refine F.ok scPoints (fun vs H Q E h => ?_) (fun cdv A outer s H vs Q E hr h => ?_)
  · obtain ⟨_, _, _, rfl, _⟩ := h
    rfl
  · obtain ⟨ℓ, st, hist, rfl, R, J, tb, k⟩ := h
    refine ⟨_, pss_cons (ps_if (pt_not (pt_val (pe_d (j := 4) D1 hr (pa_cons (pv 1) pa_nil)))) (pss_one (ps_ret (pe_lst (pa_cons (pe_un un_neg pe_int) pa_nil)))) pss_nil)
      (pss_cons (ps_set (i := 2) scPoints.nd rfl (Or.inl rfl) pe_int)
      (pss_cons (ps_for PassesOwn.never rfl (pi_range1 rfl X.range (pa_cons (pe_op op_add (pe_gi X.gBoth) pe_int) pa_nil)) (pg_name (i := 3) scPoints.nd rfl (Or.inl rfl))
        (pss_one (ps_for PassesOwn.never rfl (pi_enumS (by decide) (by decide) rfl X.enum (pe_d (j := 4) D2 hr (pa_cons (pv 0) (pa_cons (pv 3) pa_nil)))) (pg_tup rfl (pgs_cons (pg_name (i := 4) scPoints.nd rfl (Or.inl rfl)) (pgs_cons (pg_name (i := 5) scPoints.nd rfl (Or.inl rfl)) pgs_nil)))
          (pss_one (ps_if (pt_cmpR op_eq (pe_ix ix_list (pe_fld (pv 0) rfl) (pe_ix ix_tup (pv 5) pe_int (fun _ _ => rfl)) (fun _ _ => rfl)) (pv 1) (nomark _))
            (pss_one (ps_aug (i := 2) scPoints.nd rfl (Or.inl rfl) (pe_d (j := 4) D3 hr (pa_cons (pv 4) pa_nil)) ip_add)) pss_nil)))))
      (pss_one (ps_ret (pe_lst (pa_cons (pv 2) pa_nil)))))), ?_⟩
    refine ⟨_, rfl, z, rfl, _, rfl, ?_⟩
    cases h2 : Kg59.within z 0 20 with
    | false =>
      have k1 : Post cs T H ℓ st hist st [-1] Q := by
        have e1 : nxt (.points z) st = st := by show (Kg59.spec st (.points z)).1 = st; rw [spec_points, if_pos h2]
        have e2 : told (.points z) st = [-1] := by show ansL (Kg59.spec st (.points z)).2 = _; rw [spec_points, if_pos h2]; rfl
        rw [e1, e2] at k
        exact k
      exact iteT ⟨_, rfl, (by show 1 ≤ sizeLine; decide), fun p hp => k1.still R J (ExtN.refl H) tb hp⟩
    | true =>
    obtain ⟨t, rfl⟩ : ∃ t : Nat, z = (t : Nat) := by
      unfold Kg59.within at h2
      simp at h2
      exact ⟨z.toNat, by omega⟩
    have k1 : Post cs T H ℓ st hist st [(ordTo st t 3 : Nat)] Q := by
      have e1 : nxt (.points (t : Nat)) st = st := by show (Kg59.spec st _).1 = st; rw [spec_points, if_neg (by rw [h2]; simp)]
      have e2 : told (.points (t : Nat)) st = [((ordTo st t 3 : Nat) : Int)] := by show ansL (Kg59.spec st _).2 = _; rw [spec_points, if_neg (by rw [h2]; simp), ← team_is]; rfl
      rw [e1, e2] at k
      exact k
    refine iteF ⟨_, _, rfl, rfl, 2 + 1, rfl, by decide, by decide, for_range (n := 3) (fun i σ H2 => ∃ o3 o4 o5 : Option V, σ = [some (.ref ℓ.c), some (.int (t : Nat)), some (.int (ordTo st t i : Nat)), o3, o4, o5] ∧ ExtN H H2 ∧ Tabs T H2) ⟨none, none, none, rfl, ExtN.refl H, tb⟩ ?_ ?_⟩
    · rintro i σ H2 hi ⟨o3, o4, o5, rfl, e2, t2⟩
      refine ⟨_, rfl, _, rfl, ℓ, st, hist, i, by rw [Int.zero_add]; rfl, R.ext e2, J, t2, by omega, fun H3 p g e3 t3 hp hg => ?_⟩
      refine ⟨p, _, rfl, SqL.of hp, for_it walk_enumS (fun j σ H4 => ∃ o4 o5 : Option V, σ = [some (.ref ℓ.c), some (.int (t : Nat)), some (.int ((ordTo st t i + ptsTo st t i j : Nat) : Int)), some (.int (0 + (i : Nat))), o4, o5] ∧ Same H3 H4) ⟨o4, o5, rfl, Same.refl H3⟩ (fun j σ H4 _ ⟨_, _, _, s4⟩ => s4.seq (SqL.of hp)) ?_ ?_⟩
      · rintro j x σ H4 H5 hj ⟨o4, o5, rfl, s4⟩ ⟨Tt, x1, y1, rfl, hT0, rfl, hx1, hy1⟩
        rw [List.length_map] at hj
        obtain ⟨m, em⟩ : ∃ m, (st.ranked i)[j]? = some m := ⟨_, List.getElem?_eq_getElem hj⟩
        have hx1 : x1 = .int ((1 : Int) + (j : Nat)) := (Option.some.inj hx1).symm
        have hy1 : y1 = .ref (g m) := by
          have y : ((st.ranked i).map fun n => V.ref (g n))[j]? = some y1 := hy1
          rw [List.getElem?_map, em] at y
          exact (Option.some.inj y).symm
        subst hx1 hy1
        have mm : m ∈ st.ranked i := List.mem_of_getElem? em
        have hm : m < st.lifters.length := List.mem_range.mp (List.mem_filter.mp (Bm.ranked_mem.mp mm)).1
        have s5 : Same H4 (upd H4 Tt (.tup [.int ((1 : Int) + (j : Nat)), .ref (g m)])) := same_upd hT0
        have ht := s5 _ _ (s4 _ _ (hg m mm))
        have R5 := (((R.ext e2).ext e3).same s4).same s5
        have hlen : (st.ranked i).length ≤ 24 := Nat.le_trans (Bm.ranked_len st i) J.n24
        have el : (st.lifters.map fun l => V.int (l.team : Nat))[m]? = some (.int ((st.lifters[m]).team : Nat)) := by
          rw [List.getElem?_map, List.getElem?_eq_getElem hm]
          rfl
        have et : (st.lifters[m]?).map Kg59.Lifter.team = some (st.lifters[m]).team := by
          rw [List.getElem?_eq_getElem hm]
          rfl
        refine ⟨Tt, _, rfl, SqT.of upd_same, rfl, _, _, rfl, _, _, rfl, rfl, ?_⟩
        refine ⟨_, rfl, ℓ.c, cs.C, ℓ.cd, _, _, rfl, R5.con, X.cC, X.cTm, con_teams, _, rfl, g m, _, _, _, rfl, rfl, SqT.of ht, atI_nat (j := 0) rfl, ℓ.f .tm, _, _, _, rfl, rfl, SqL.of (R5.ob .tm trivial), atI_nat el, _, rfl, rfl, _, rfl, ite2 (fun y => ?_) fun y => ?_⟩
        · rw [decide_eq_true_eq, V.int.injEq] at y
          refine ⟨_, rfl, _, rfl, j, by omega, rfl, _, _, rfl, rfl, some (.int ((1 : Int) + (j : Nat))), some (.ref (g m)), ?_, fun b o e => s5 _ _ (s4 _ _ e)⟩
          have e6 : ptsTo st t i (j + 1) = ptsTo st t i j + Kg59.pointsOf j := by
            rw [pts_more st t i j m em, et, if_pos (by rw [show (st.lifters[m]).team = t by omega])]
          have e7 : ((ordTo st t i + ptsTo st t i j : Nat) : Int) + (Kg59.pointsOf j : Nat) = ((ordTo st t i + ptsTo st t i (j + 1) : Nat) : Int) := by
            rw [e6]
            omega
          exact congrArg (fun q => [some (V.ref ℓ.c), some (V.int (t : Nat)), some (V.int q), some (V.int (0 + (i : Nat))), some (V.int ((1 : Int) + (j : Nat))), some (V.ref (g m))]) e7
        · rw [decide_eq_true_eq, V.int.injEq] at y
          refine ⟨some (.int ((1 : Int) + (j : Nat))), some (.ref (g m)), ?_, fun b o e => s5 _ _ (s4 _ _ e)⟩
          have e6 : ptsTo st t i (j + 1) = ptsTo st t i j := by
            rw [pts_more st t i j m em, et, if_neg (by simp; omega)]
            rfl
          rw [e6]
          rfl
      · rintro σ H4 ⟨o4, o5, rfl, s4⟩
        rw [List.length_map]
        exact ⟨some (.int (0 + (i : Nat))), o4, o5, by rw [ord_more], e2.trans (e3.trans (ExtN.of s4)), t3.ext s4⟩
    · rintro σ H2 ⟨o3, o4, o5, rfl, e2, t2⟩
      exact ⟨_, rfl, (by show 1 ≤ sizeLine; decide), fun p hp => k1.still R J e2 t2 hp⟩
end
end Bc
namespace Bc
open PySem PySem.Spec PyProof.Rows L2 LamX

/-- a promise for every z -/
def spAny {α : Type} (sp : α → Sp) : Sp := fun vs H Q E => ∃ z, sp z vs H Q E
theorem fn_any {α : Type} {P : Program} {w : World} {K : PySem.W.Frag} {mg : Str → Option Value} {base : Heap} {CX : CXT} {k : Nat} {f : Addr} {fd : FuncData} {ps : List Str} {sp : α → Sp} (F : ∀ z, FnOk P w K mg base CX k f fd ps (sp z)) : FnOk P w K mg base CX k f fd ps (spAny sp) :=
  ⟨fun vs H Q E ⟨z, h⟩ => (F z).len vs H Q E h, fun A outer s H args us vs Q E hr e b v ⟨z, h⟩ => (F z).run A outer s H args us vs Q E hr e b v h⟩
theorem iteN {A B : Prop} {x y : V} (h : ¬ x = y) (b : B) : if decide (x = y) = true then A else B := by
  rw [if_neg (by rw [decide_eq_true_eq]; exact h)]
  exact b
theorem iteY {A B : Prop} {x y : V} (h : x = y) (b : A) : if decide (x = y) = true then A else B := by
  rw [if_pos (by rw [decide_eq_true_eq]; exact h)]
  exact b

section
variable {P : Program} {w : World} {K : PySem.W.Frag} {mg : Str → Option Value} {base : Heap} {cs : Cs} {T : List (Addr × Str)}

/-! ### answer_one -/
abbrev sOne : Stmt := top 47
theorem scOne : FnScope ["contest", "call", "given"] ["contest", "call", "given"] (defScope sOne) := ⟨rfl, rfl, rfl, by decide +kernel, rfl, by decide +kernel, by decide +kernel⟩
/-- a call's number and the numbers behind it, as they're handed over -/
inductive Args : Int → List Int → Kg59.Call → Prop
  | begin_ (ts : List Int) : Args 1 ts (.begin_ ts)
  | ask (i a b : Int) : Args 2 [i, a, b] (.ask i a b)
  | start : Args 3 [] .start
  | up : Args 4 [] .up
  | order : Args 5 [] .order
  | try_ (g : Int) : Args 6 [g] (.try_ g)
  | change (i v : Int) : Args 7 [i, v] (.change i v)
  | reverse : Args 8 [] .reverse
  | card (i k : Int) : Args 9 [i, k] (.card i k)
  | ranked (k : Int) : Args 10 [k] (.ranked k)
  | points (t : Int) : Args 11 [t] (.points t)
def spOne (cs : Cs) (K : PySem.W.Frag) (T : List (Addr × Str)) : Sp := fun vs H Q _ => ∃ (ℓ : Lay) (s : Kg59.State) (hist : Hist) (p : Int) (g : Addr) (xs : List Int) (c : Kg59.Call), vs = [.ref ℓ.c, .int p, .ref g] ∧ Rep cs H ℓ s hist ∧ Bm.Ok s hist ∧ Tabs T H ∧
  SqL K H g (xs.map V.int) ∧ xs.length ≤ 30000 ∧ Args p xs c ∧ Post cs T H ℓ s hist (nxt c s) (told c s) Q
theorem order_told (s : Kg59.State) : ansL (orderAns s) = told .order s := rfl
theorem ok_one {f : Addr} {fd : FuncData} (F : Fun K "answer_one" "answer_one" sOne f fd)
    (D1 : DefOk P w K mg base 5 "begin" ["contest", "teams"] (spBegin cs K T))
    (D2 : DefOk P w K mg base 2 "ask" ["contest", "lifter", "first", "second"] (spAny fun z : Int × Int × Int => spCall cs T [.int z.1, .int z.2.1, .int z.2.2] (nxt (.ask z.1 z.2.1 z.2.2)) (told (.ask z.1 z.2.1 z.2.2))))
    (D3 : DefOk P w K mg base 8 "start" ["contest"] (spCall cs T [] (nxt .start) (told .start)))
    (D4 : DefOk P w K mg base 7 "up" ["contest"] (spUp cs T)) (D5 : DefOk P w K mg base 7 "order" ["contest"] (spOrder cs T))
    (D6 : DefOk P w K mg base 7 "try_one" ["contest", "good"] (spAny fun z : Int => spCall cs T [.int z] (nxt (.try_ z)) (told (.try_ z))))
    (D7 : DefOk P w K mg base 7 "change" ["contest", "lifter", "weight"] (spAny fun z : Int × Int => spCall cs T [.int z.1, .int z.2] (nxt (.change z.1 z.2)) (told (.change z.1 z.2))))
    (D8 : DefOk P w K mg base 3 "reverse" ["contest"] (spCall cs T [] (nxt .reverse) (told .reverse)))
    (D9 : DefOk P w K mg base 2 "card" ["contest", "lifter", "lift"] (spAny fun z : Int × Int => spCall cs T [.int z.1, .int z.2] (nxt (.card z.1 z.2)) (told (.card z.1 z.2))))
    (D10 : DefOk P w K mg base 5 "ranked" ["contest", "order"] (spAny fun z : Int => spCall cs T [.int z] (nxt (.ranked z)) (told (.ranked z))))
    (D11 : DefOk P w K mg base 5 "points" ["contest", "team"] (spAny fun z : Int => spCall cs T [.int z] (nxt (.points z)) (told (.points z)))) :
    FnOk P w K mg base CX0 9 f fd ["contest", "call", "given"] (spOne cs K T) := by
  refine F.ok scOne (fun vs H Q E h => ?_) (fun cdv A outer s H vs Q E hr h => ?_)
  · obtain ⟨_, _, _, _, _, _, _, rfl, _⟩ := h
    rfl
  · obtain ⟨ℓ, st, hist, p, g, xs, c, rfl, R, J, tb, hg, hn, ha, k⟩ := h
    refine ⟨_, pss_cons (ps_if (pt_cmpR op_eq (pv 1) pe_int (nomark _)) (pss_one (ps_ret (pe_d (j := 8) D1 hr (pa_cons (pv 0) (pa_cons (pv 2) pa_nil))))) pss_nil)
      (pss_cons (ps_if (pt_cmpR op_eq (pv 1) pe_int (nomark _)) (pss_one (ps_ret (pe_d (j := 8) D2 hr (pa_cons (pv 0) (pa_cons (pe_ix ix_list (pv 2) pe_int (fun _ _ => rfl)) (pa_cons (pe_ix ix_list (pv 2) pe_int (fun _ _ => rfl)) (pa_cons (pe_ix ix_list (pv 2) pe_int (fun _ _ => rfl)) pa_nil))))))) pss_nil)
      (pss_cons (ps_if (pt_cmpR op_eq (pv 1) pe_int (nomark _)) (pss_one (ps_ret (pe_d (j := 8) D3 hr (pa_cons (pv 0) pa_nil)))) pss_nil)
      (pss_cons (ps_if (pt_cmpR op_eq (pv 1) pe_int (nomark _)) (pss_one (ps_ret (pe_d (j := 8) D4 hr (pa_cons (pv 0) pa_nil)))) pss_nil)
      (pss_cons (ps_if (pt_cmpR op_eq (pv 1) pe_int (nomark _)) (pss_one (ps_ret (pe_d (j := 8) D5 hr (pa_cons (pv 0) pa_nil)))) pss_nil)
      (pss_cons (ps_if (pt_cmpR op_eq (pv 1) pe_int (nomark _)) (pss_one (ps_ret (pe_d (j := 8) D6 hr (pa_cons (pv 0) (pa_cons (pe_ix ix_list (pv 2) pe_int (fun _ _ => rfl)) pa_nil))))) pss_nil)
      (pss_cons (ps_if (pt_cmpR op_eq (pv 1) pe_int (nomark _)) (pss_one (ps_ret (pe_d (j := 8) D7 hr (pa_cons (pv 0) (pa_cons (pe_ix ix_list (pv 2) pe_int (fun _ _ => rfl)) (pa_cons (pe_ix ix_list (pv 2) pe_int (fun _ _ => rfl)) pa_nil)))))) pss_nil)
      (pss_cons (ps_if (pt_cmpR op_eq (pv 1) pe_int (nomark _)) (pss_one (ps_ret (pe_d (j := 8) D8 hr (pa_cons (pv 0) pa_nil)))) pss_nil)
      (pss_cons (ps_if (pt_cmpR op_eq (pv 1) pe_int (nomark _)) (pss_one (ps_ret (pe_d (j := 8) D9 hr (pa_cons (pv 0) (pa_cons (pe_ix ix_list (pv 2) pe_int (fun _ _ => rfl)) (pa_cons (pe_ix ix_list (pv 2) pe_int (fun _ _ => rfl)) pa_nil)))))) pss_nil)
      (pss_cons (ps_if (pt_cmpR op_eq (pv 1) pe_int (nomark _)) (pss_one (ps_ret (pe_d (j := 8) D10 hr (pa_cons (pv 0) (pa_cons (pe_ix ix_list (pv 2) pe_int (fun _ _ => rfl)) pa_nil))))) pss_nil)
      (pss_one (ps_ret (pe_d (j := 8) D11 hr (pa_cons (pv 0) (pa_cons (pe_ix ix_list (pv 2) pe_int (fun _ _ => rfl)) pa_nil)))))))))))))), ?_⟩
    cases ha with
    | begin_ =>
      exact ⟨_, rfl, rfl, _, rfl, iteY rfl ⟨_, rfl, _, rfl, ℓ, st, hist, g, _, rfl, R, J, tb, hg, hn, k⟩⟩
    | ask i a b =>
      exact ⟨_, rfl, rfl, _, rfl, iteN (by simp) ⟨_, rfl, rfl, _, rfl, iteY rfl ⟨_, rfl, _, rfl, g, _, _, _, rfl, rfl, hg, atI_nat (j := 0) rfl, _, rfl, g, _, _, _, rfl, rfl, hg, atI_nat (j := 1) rfl, _, rfl, g, _, _, _, rfl, rfl, hg, atI_nat (j := 2) rfl, (i, a, b), ℓ, st, hist, rfl, R, J, tb, k⟩⟩⟩
    | start =>
      exact ⟨_, rfl, rfl, _, rfl, iteN (by simp) ⟨_, rfl, rfl, _, rfl, iteN (by simp) ⟨_, rfl, rfl, _, rfl, iteY rfl ⟨_, rfl, ℓ, st, hist, rfl, R, J, tb, k⟩⟩⟩⟩
    | up =>
      exact ⟨_, rfl, rfl, _, rfl, iteN (by simp) ⟨_, rfl, rfl, _, rfl, iteN (by simp) ⟨_, rfl, rfl, _, rfl, iteN (by simp) ⟨_, rfl, rfl, _, rfl, iteY rfl ⟨_, rfl, ℓ, st, hist, rfl, R, J, tb, k⟩⟩⟩⟩⟩
    | order =>
      exact ⟨_, rfl, rfl, _, rfl, iteN (by simp) ⟨_, rfl, rfl, _, rfl, iteN (by simp) ⟨_, rfl, rfl, _, rfl, iteN (by simp) ⟨_, rfl, rfl, _, rfl, iteN (by simp) ⟨_, rfl, rfl, _, rfl, iteY rfl ⟨_, rfl, ℓ, st, hist, rfl, R, J, tb, k⟩⟩⟩⟩⟩⟩
    | try_ z =>
      exact ⟨_, rfl, rfl, _, rfl, iteN (by simp) ⟨_, rfl, rfl, _, rfl, iteN (by simp) ⟨_, rfl, rfl, _, rfl, iteN (by simp) ⟨_, rfl, rfl, _, rfl, iteN (by simp) ⟨_, rfl, rfl, _, rfl, iteN (by simp) ⟨_, rfl, rfl, _, rfl, iteY rfl
        ⟨_, rfl, _, rfl, g, _, _, _, rfl, rfl, hg, atI_nat (j := 0) rfl, z, ℓ, st, hist, rfl, R, J, tb, k⟩⟩⟩⟩⟩⟩⟩
    | change i v =>
      exact ⟨_, rfl, rfl, _, rfl, iteN (by simp) ⟨_, rfl, rfl, _, rfl, iteN (by simp) ⟨_, rfl, rfl, _, rfl, iteN (by simp) ⟨_, rfl, rfl, _, rfl, iteN (by simp) ⟨_, rfl, rfl, _, rfl, iteN (by simp) ⟨_, rfl, rfl, _, rfl, iteN (by simp) ⟨_, rfl, rfl, _, rfl, iteY rfl
        ⟨_, rfl, _, rfl, g, _, _, _, rfl, rfl, hg, atI_nat (j := 0) rfl, _, rfl, g, _, _, _, rfl, rfl, hg, atI_nat (j := 1) rfl, (i, v), ℓ, st, hist, rfl, R, J, tb, k⟩⟩⟩⟩⟩⟩⟩⟩
    | reverse =>
      exact ⟨_, rfl, rfl, _, rfl, iteN (by simp) ⟨_, rfl, rfl, _, rfl, iteN (by simp) ⟨_, rfl, rfl, _, rfl, iteN (by simp) ⟨_, rfl, rfl, _, rfl, iteN (by simp) ⟨_, rfl, rfl, _, rfl, iteN (by simp) ⟨_, rfl, rfl, _, rfl, iteN (by simp) ⟨_, rfl, rfl, _, rfl, iteN (by simp) ⟨_, rfl, rfl, _, rfl, iteY rfl
        ⟨_, rfl, ℓ, st, hist, rfl, R, J, tb, k⟩⟩⟩⟩⟩⟩⟩⟩⟩
    | card i v =>
      exact ⟨_, rfl, rfl, _, rfl, iteN (by simp) ⟨_, rfl, rfl, _, rfl, iteN (by simp) ⟨_, rfl, rfl, _, rfl, iteN (by simp) ⟨_, rfl, rfl, _, rfl, iteN (by simp) ⟨_, rfl, rfl, _, rfl, iteN (by simp) ⟨_, rfl, rfl, _, rfl, iteN (by simp) ⟨_, rfl, rfl, _, rfl, iteN (by simp) ⟨_, rfl, rfl, _, rfl, iteN (by simp) ⟨_, rfl, rfl, _, rfl, iteY rfl
        ⟨_, rfl, _, rfl, g, _, _, _, rfl, rfl, hg, atI_nat (j := 0) rfl, _, rfl, g, _, _, _, rfl, rfl, hg, atI_nat (j := 1) rfl, (i, v), ℓ, st, hist, rfl, R, J, tb, k⟩⟩⟩⟩⟩⟩⟩⟩⟩⟩
    | ranked z =>
      exact ⟨_, rfl, rfl, _, rfl, iteN (by simp) ⟨_, rfl, rfl, _, rfl, iteN (by simp) ⟨_, rfl, rfl, _, rfl, iteN (by simp) ⟨_, rfl, rfl, _, rfl, iteN (by simp) ⟨_, rfl, rfl, _, rfl, iteN (by simp) ⟨_, rfl, rfl, _, rfl, iteN (by simp) ⟨_, rfl, rfl, _, rfl, iteN (by simp) ⟨_, rfl, rfl, _, rfl, iteN (by simp) ⟨_, rfl, rfl, _, rfl, iteN (by simp) ⟨_, rfl, rfl, _, rfl, iteY rfl
        ⟨_, rfl, _, rfl, g, _, _, _, rfl, rfl, hg, atI_nat (j := 0) rfl, z, ℓ, st, hist, rfl, R, J, tb, k⟩⟩⟩⟩⟩⟩⟩⟩⟩⟩⟩
    | points z =>
      exact ⟨_, rfl, rfl, _, rfl, iteN (by simp) ⟨_, rfl, rfl, _, rfl, iteN (by simp) ⟨_, rfl, rfl, _, rfl, iteN (by simp) ⟨_, rfl, rfl, _, rfl, iteN (by simp) ⟨_, rfl, rfl, _, rfl, iteN (by simp) ⟨_, rfl, rfl, _, rfl, iteN (by simp) ⟨_, rfl, rfl, _, rfl, iteN (by simp) ⟨_, rfl, rfl, _, rfl, iteN (by simp) ⟨_, rfl, rfl, _, rfl, iteN (by simp) ⟨_, rfl, rfl, _, rfl, iteN (by simp)
        ⟨_, rfl, _, rfl, g, _, _, _, rfl, rfl, hg, atI_nat (j := 0) rfl, z, ℓ, st, hist, rfl, R, J, tb, k⟩⟩⟩⟩⟩⟩⟩⟩⟩⟩⟩
end
end Bc
namespace Bc
open PySem PySem.Spec PyProof.Rows L2 LamX

/-! ### the flat list of calls -/
/-- how a call stands in the list -/
def flatC (p : Int) (xs : List Int) : List Int := p :: ((if p = 1 then [(xs.length : Int)] else []) ++ xs)
def CallIs (c : List (List Int)) (p : Int) (xs : List Int) (k : Kg59.Call) : Prop := Args p xs k ∧ Kg59Neutral.callOf (PyKg59.whole c) = some k ∧ PyFlat.put1 c = flatC p xs
theorem len0 {α : Type} {l : List α} (h : 0 = l.length) : l = [] := List.eq_nil_of_length_eq_zero h.symm
theorem len1 {α : Type} {l : List α} (h : 1 = l.length) : ∃ a, l = [a] := match l, h with
  | [a], _ => ⟨a, rfl⟩
theorem len2 {α : Type} {l : List α} (h : 2 = l.length) : ∃ a b, l = [a, b] := match l, h with
  | [a, b], _ => ⟨a, b, rfl⟩
theorem len3 {α : Type} {l : List α} (h : 3 = l.length) : ∃ a b c, l = [a, b, c] := match l, h with
  | [a, b, c], _ => ⟨a, b, c, rfl⟩
theorem call_is {c : List (List Int)} (h : PyFlat.okCall PyKg59.shape c) : ∃ p xs k, CallIs c p xs k := by
  obtain ⟨p, a, xs, rfl, hs⟩ := h
  unfold PyKg59.shape at hs
  by_cases h1 : p = 1
  · subst h1
    rw [if_pos rfl] at hs
    injection hs with hs
    injection hs with e1 e2
    obtain rfl := len0 e1
    obtain ⟨x, rfl⟩ := len1 e2
    exact ⟨1, x, _, .begin_ x, rfl, by simp [PyFlat.put1, PyFlat.putRows, PyFlat.putRow, flatC]⟩
  rw [if_neg h1] at hs
  by_cases h2 : p = 2
  · subst h2
    rw [if_pos rfl] at hs
    injection hs with hs
    injection hs with e1 e2
    obtain ⟨i, v, u, rfl⟩ := len3 e1
    obtain rfl := len0 e2
    exact ⟨2, _, _, .ask i v u, rfl, rfl⟩
  rw [if_neg h2] at hs
  by_cases h3 : p = 3
  · subst h3
    rw [if_pos rfl] at hs
    injection hs with hs
    injection hs with e1 e2
    obtain rfl := len0 e1
    obtain rfl := len0 e2
    exact ⟨3, _, _, .start, rfl, rfl⟩
  rw [if_neg h3] at hs
  by_cases h4 : p = 4
  · subst h4
    rw [if_pos rfl] at hs
    injection hs with hs
    injection hs with e1 e2
    obtain rfl := len0 e1
    obtain rfl := len0 e2
    exact ⟨4, _, _, .up, rfl, rfl⟩
  rw [if_neg h4] at hs
  by_cases h5 : p = 5
  · subst h5
    rw [if_pos rfl] at hs
    injection hs with hs
    injection hs with e1 e2
    obtain rfl := len0 e1
    obtain rfl := len0 e2
    exact ⟨5, _, _, .order, rfl, rfl⟩
  rw [if_neg h5] at hs
  by_cases h6 : p = 6
  · subst h6
    rw [if_pos rfl] at hs
    injection hs with hs
    injection hs with e1 e2
    obtain ⟨g, rfl⟩ := len1 e1
    obtain rfl := len0 e2
    exact ⟨6, _, _, .try_ g, rfl, rfl⟩
  rw [if_neg h6] at hs
  by_cases h7 : p = 7
  · subst h7
    rw [if_pos rfl] at hs
    injection hs with hs
    injection hs with e1 e2
    obtain ⟨i, v, rfl⟩ := len2 e1
    obtain rfl := len0 e2
    exact ⟨7, _, _, .change i v, rfl, rfl⟩
  rw [if_neg h7] at hs
  by_cases h8 : p = 8
  · subst h8
    rw [if_pos rfl] at hs
    injection hs with hs
    injection hs with e1 e2
    obtain rfl := len0 e1
    obtain rfl := len0 e2
    exact ⟨8, _, _, .reverse, rfl, rfl⟩
  rw [if_neg h8] at hs
  by_cases h9 : p = 9
  · subst h9
    rw [if_pos rfl] at hs
    injection hs with hs
    injection hs with e1 e2
    obtain ⟨i, v, rfl⟩ := len2 e1
    obtain rfl := len0 e2
    exact ⟨9, _, _, .card i v, rfl, rfl⟩
  rw [if_neg h9] at hs
  by_cases h10 : p = 10
  · subst h10
    rw [if_pos rfl] at hs
    injection hs with hs
    injection hs with e1 e2
    obtain ⟨g, rfl⟩ := len1 e1
    obtain rfl := len0 e2
    exact ⟨10, _, _, .ranked g, rfl, rfl⟩
  rw [if_neg h10] at hs
  by_cases h11 : p = 11
  · subst h11
    rw [if_pos rfl] at hs
    injection hs with hs
    injection hs with e1 e2
    obtain ⟨g, rfl⟩ := len1 e1
    obtain rfl := len0 e2
    exact ⟨11, _, _, .points g, rfl, rfl⟩
  rw [if_neg h11] at hs
  cases hs
theorem step_is {c : List (List Int)} {p : Int} {xs : List Int} {k : Kg59.Call} (h : CallIs c p xs k) (s : Kg59.State) : Kg59Neutral.step s (PyKg59.whole c) = (nxt k s, told k s) := by
  unfold Kg59Neutral.step
  rw [h.2.1]
  rfl
theorem told_is {c : List (List Int)} {p : Int} {xs : List Int} {k : Kg59.Call} (h : CallIs c p xs k) (s : Kg59.State) (r : List (List (List Int))) :
    PyFlat.told (PyFlat.played Kg59Neutral.step s ((c :: r).map PyKg59.whole)) = ((told k s).length : Int) :: (told k s ++ PyFlat.told (PyFlat.played Kg59Neutral.step (nxt k s) (r.map PyKg59.whole))) := by
  show PyFlat.told ((Kg59Neutral.step s (PyKg59.whole c)).2 :: PyFlat.played Kg59Neutral.step (Kg59Neutral.step s (PyKg59.whole c)).1 (r.map PyKg59.whole)) = _
  rw [step_is h]
  rfl
theorem asked_calls {l : List Int} (h : PyKg59.answers_asked l = true) : ∃ raw : List (List (List Int)), l = PyFlat.put raw ∧ (∀ c ∈ raw, PyFlat.okCall PyKg59.shape c) ∧
    PyKg59.answers l = PyFlat.told (PyFlat.played Kg59Neutral.step Kg59.init (raw.map PyKg59.whole)) ∧ (PyKg59.answers l).length ≤ 10000000 := by
  unfold PyKg59.answers_asked at h
  cases e : PyFlat.calls PyKg59.shape l.length l with
  | none =>
    rw [e] at h
    cases h
  | some raw =>
    rw [e] at h
    have h' : (!raw.isEmpty && PyFlat.atMost 200 raw && PyInside.calls PyKg59.bound raw && Kg59Neutral.asked (raw.map PyKg59.whole) && PyFlat.short 10000000 (PyKg59.answers l)) = true := h
    rw [Bool.and_eq_true] at h'
    obtain ⟨e1, e2⟩ := PyFlat.put_calls _ _ _ e
    refine ⟨raw, e1, e2, ?_, of_decide_eq_true h'.2⟩
    unfold PyKg59.answers PyKg59.calls
    rw [e] <;> rfl
/-- how many numbers stand behind -/
def behindOf (p : Int) : Int := if p = 2 then 3 else if p = 6 ∨ p = 10 ∨ p = 11 then 1 else if p = 7 ∨ p = 9 then 2 else 0
theorem behind_is {p : Int} {xs : List Int} {k : Kg59.Call} (h : Args p xs k) (hp : p ≠ 1) : behindOf p = xs.length ∧ 2 ≤ p ∧ p ≤ 11 := by
  cases h <;> first | (exact absurd rfl hp) | exact ⟨rfl, by decide, by decide⟩
/-- a part of a list -/
theorem cut_is (pre xs rest : List V) {i j : Int} (hi : i = pre.length) (hj : j = pre.length + xs.length) : cutV (pre ++ (xs ++ rest)) (some i) (some j) = xs := by
  subst hi
  have hj : j = ((pre.length + xs.length : Nat) : Int) := by omega
  subst hj
  unfold cutV
  rw [HT.sIx_nat, HT.sIx_nat, List.length_append, List.length_append, Nat.min_eq_left (by omega), Nat.min_eq_left (by omega), List.drop_left, Nat.add_sub_cancel_left, List.take_left]
end Bc
namespace Bc
open PySem PySem.Spec PyProof.Rows L2 LamX

/-! ### d[i] of a written dict whose keys are ints -/
def KInt (K : PySem.W.Frag) (a : Addr) (z n : Int) : Prop := ∃ es m t, K.lookup a = some ⟨.type "dict", none, .dict es m, #[]⟩ ∧ IntKeys es ∧ findBy Value.isInt es z = some (.int n t)
def rIxN (K : PySem.W.Frag) : R2 := fun x y H Q => ∃ a z n, x = .ref a ∧ y = .int z ∧ KInt K a z n ∧ Q (.int n) H
theorem ix_kint {X : Cx} : IxR X (rIxN X.K) := by
  intro val part pins s σ H x y v u Q I rx ry h hs
  obtain ⟨a, z, n, rfl, rfl, ⟨es, m, t, hl, hk, e⟩, q⟩ := h
  have ev : v = Value.ref a := rx
  subst ev
  obtain ⟨t2, rfl⟩ := ry
  have hm : s.heap.IntMap a (fun k => findBy Value.isInt es k) := ⟨_, es, m, I.kIn _ _ hl, rfl, rfl, hk, fun _ => rfl⟩
  exact tail_any hm.typeIs slot_dict_getitem.lookup (wpAny_getItem_intMap hm e ⟨.int n, H, I.tok _, ⟨t, rfl⟩, q⟩) hs

section
variable {cs : Cs} {T : List (Addr × Str)} {H H' : Hp} {ℓ ℓ' : Lay} {s s' : Kg59.State} {hist hist' : Hist} {K : PySem.W.Frag}
/-- a write beside the contest -/
theorem Rep.beside (R : Rep cs H ℓ s hist) {a : Addr} {o : HO} (h : ¬ Own ℓ s hist a) : Rep cs (upd H a o) ℓ s hist :=
  ⟨(upd_ne fun z => h (.inl z.symm)).trans R.con, fun x hx => (upd_ne fun z => h (.inr ⟨x, hx, z.symm⟩)).trans (R.ob x hx), R.inj⟩
/-- the list that was handed in, at a; b is another place -/
def Given (K : PySem.W.Frag) (H : Hp) (ℓ : Lay) (s : Kg59.State) (hist : Hist) (a b : Addr) (xs : List V) : Prop :=
  (∃ o, H a = some o ∧ (∀ ps, o ≠ .tbl ps) ∧ (o = .lst xs ∨ ∃ u, o = .frz u (.lst xs)) ∧ a ≠ b ∧ ¬ Own ℓ s hist a) ∨ ∀ H' : Hp, SqL K H' a xs
theorem Given.seq {a b : Addr} {xs : List V} (g : Given K H ℓ s hist a b xs) : SqL K H a xs := by
  rcases g with ⟨o, e, _, rfl | ⟨u, rfl⟩, _⟩ | g
  · exact .inl (.inl e)
  · exact .inl (.inr ⟨u, e⟩)
  · exact g H
theorem given_of {a : Addr} {xs : List V} (h : SqL K H a xs) : (∃ o, H a = some o ∧ (∀ ps, o ≠ .tbl ps) ∧ (o = .lst xs ∨ ∃ u, o = .frz u (.lst xs))) ∨ ∀ H' : Hp, SqL K H' a xs := by
  rcases h with (h | ⟨u, h⟩) | h
  · exact .inl ⟨_, h, (fun ps z => by cases z), .inl rfl⟩
  · exact .inl ⟨_, h, (fun ps z => by cases z), .inr ⟨u, rfl⟩⟩
  · exact .inr fun H' => .inr h
theorem Given.frame {a b : Addr} {xs : List V} (g : Given K H ℓ s hist a b xs) (f : Frame H ℓ s hist H' ℓ' s' hist') : Given K H' ℓ' s' hist' a b xs := by
  rcases g with ⟨o, e, n, k, d, m⟩ | g
  · obtain ⟨q1, q2⟩ := f a o e n m
    exact .inl ⟨o, q1, n, k, d, q2⟩
  · exact .inr g
theorem Given.write {a b : Addr} {xs : List V} {o : HO} (g : Given K H ℓ s hist a b xs) : Given K (upd H b o) ℓ s hist a b xs := by
  rcases g with ⟨u, e, n, k, d, m⟩ | g
  · exact .inl ⟨u, (upd_ne d).trans e, n, k, d, m⟩
  · exact .inr g
end

section
variable {P : Program} {w : World} {K : PySem.W.Frag} {mg : Str → Option Value} {base : Heap} {cs : Cs} {T : List (Addr × Str)}

/-! ### answers -/
abbrev sAnswers : Stmt := top 48
theorem scAnswers : FnScope ["calls", "contest", "told", "at", "call", "first", "behind", "answer"] ["calls"] (defScope sAnswers) := ⟨rfl, rfl, rfl, by decide +kernel, rfl, by decide +kernel, by decide +kernel⟩
def spAnswers (K : PySem.W.Frag) (T : List (Addr × Str)) : Sp := fun vs H Q _ => ∃ (a : Addr) (l : List Int), vs = [.ref a] ∧ SqL K H a (l.map V.int) ∧ l.length ≤ 30000 ∧ PyKg59.answers_asked l = true ∧ Tabs T H ∧
  ∀ (H' : Hp) (p : Addr), H' p = some (.lst ((PyKg59.answers l).map V.int)) → Q (.ref p) H'
def tTail (K : PySem.W.Frag) (sp : Sp) : TS := tSeq (tAsg (tCall sp [] E0 (tCons (tVar 1) (tCons (tVar 4) (tCons (tSl (rSlL K) (tVar 0) (tPart (tVar 5)) (tPart (tVar 6))) tNil)))) (gName 7))
  (tSeq (tDrop (tBM K "list" rAppend (tVar 2) (tCons (tCB (fun xs H Q => ∃ p ys, xs = [V.ref p] ∧ (SqL K H p ys ∨ SqT K H p ys) ∧ Q (.int ys.length) H) (tCons (tVar 7) tNil)) tNil)))
  (tSeq (tDrop (tBM K "list" rExtend (tVar 2) (tCons (tVar 7) tNil))) (tAsg (tVar 6) (gName 3))))
theorem tail_ans {D : Ends} {a x tp : Addr} {o3 o7 : Option V} {p i j : Int} {H : Hp} {ℓ : Lay} {s : Kg59.State} {hist : Hist} {l pre xs tl rest : List Int} {kc : Kg59.Call}
    (hc : ℓ.c = x) (R : Rep cs H ℓ s hist) (J : Bm.Ok s hist) (tb : Tabs T H) (no : ¬ Own ℓ s hist tp) (ht : H tp = some (.lst (tl.map V.int))) (G : Given K H ℓ s hist a tp (l.map V.int)) (el : l = pre ++ (xs ++ rest)) (hl : l.length ≤ 30000)
    (hi : i = pre.length) (hj : j = pre.length + xs.length) (ha : Args p xs kc) (hz : tl.length + (1 + (told kc s).length) ≤ 10000000)
    (hN : ∀ (H' : Hp) (ℓ' : Lay) (hist' : Hist) (q : Addr), ℓ'.c = x → Rep cs H' ℓ' (nxt kc s) hist' → Bm.Ok (nxt kc s) hist' → Tabs T H' → ¬ Own ℓ' (nxt kc s) hist' tp → H' tp = some (.lst ((tl ++ ((told kc s).length : Int) :: told kc s).map V.int)) → Given K H' ℓ' (nxt kc s) hist' a tp (l.map V.int) →
      D.nx [some (.ref a), some (.ref x), some (.ref tp), some (.int j), some (.int p), some (.int i), some (.int j), some (.ref q)] H') :
    tTail K (spOne cs K T) D [some (.ref a), some (.ref x), some (.ref tp), o3, some (.int p), some (.int i), some (.int j), o7] H := by
  subst hc
  refine ⟨_, rfl, _, rfl, _, rfl, _, rfl, i, rfl, _, rfl, j, rfl, a, _, rfl, G.seq, fun g hg => ?_⟩
  have hcut : cutV (l.map V.int) (some i) (some j) = xs.map V.int := by
    rw [el, List.map_append, List.map_append]
    exact cut_is _ _ _ (by rw [List.length_map]; exact hi) (by rw [List.length_map, List.length_map]; exact hj)
  have sm : Same H (upd H g (.lst (cutV (l.map V.int) (some i) (some j)))) := same_upd hg
  have hxs : xs.length ≤ 30000 := by
    have : l.length = pre.length + (xs.length + rest.length) := by rw [el, List.length_append, List.length_append]
    omega
  refine ⟨ℓ, s, hist, p, g, xs, kc, rfl, R.same sm, J, tabs_upd tb hg, by rw [hcut]; exact SqL.of upd_same, hxs, ha, fun H3 q ℓ3 hist3 hc3 R3 J3 tb3 fr3 nq noq hq => ?_⟩
  have ht1 := sm _ _ ht
  obtain ⟨ht3, no3⟩ := fr3 tp _ ht1 (fun ps z => by cases z) no
  have ntq : tp ≠ q := nq tp _ ht1 (fun ps z => by cases z) no
  have fr0 : Frame H ℓ s hist (upd H g (.lst (cutV (l.map V.int) (some i) (some j)))) ℓ s hist := Frame.ext (ExtN.of sm)
  have G3 : Given K H3 ℓ3 (nxt kc s) hist3 a tp (l.map V.int) := (G.frame fr0).frame fr3
  refine ⟨_, rfl, .inl ⟨rfl, _, SqL.of ht3⟩, _, rfl, q, _, rfl, .inl (SqL.of hq), tp, _, _, rfl, rfl, ht3, (by rw [List.length_map]; show tl.length < 16777216; omega), ?_⟩
  refine ⟨_, rfl, .inl ⟨rfl, _, SqL.of upd_same⟩, _, rfl, tp, q, _, _, rfl, rfl, upd_same, (upd_ne ntq.symm).trans hq, (by rw [List.length_append, List.length_map, List.length_map]; show tl.length + 1 + (told kc s).length ≤ 16777216; omega), ?_⟩
  refine ⟨_, rfl, ?_⟩
  have el3 : (tl.map V.int ++ [V.int (((told kc s).map V.int).length : Nat)]) ++ (told kc s).map V.int = (tl ++ ((told kc s).length : Int) :: told kc s).map V.int := by
    rw [List.length_map]
    simp
  have tb4 : Tabs T (upd H3 tp (.lst (tl.map V.int ++ [V.int (((told kc s).map V.int).length : Nat)]))) := tabs_lst tb3 ht3 fun b u e n => (upd_ne n).trans e
  have tb5 : Tabs T (upd (upd H3 tp (.lst (tl.map V.int ++ [V.int (((told kc s).map V.int).length : Nat)]))) tp (.lst ((tl.map V.int ++ [V.int (((told kc s).map V.int).length : Nat)]) ++ (told kc s).map V.int))) := tabs_lst tb4 upd_same fun b u e n => (upd_ne n).trans e
  refine hN _ ℓ3 hist3 q hc3 ((R3.beside no3).beside no3) J3 tb5 no3 ?_ G3.write.write
  rw [el3]
  exact upd_same
theorem flat_len1 (p : Int) (xs : List Int) : (flatC p xs).length = xs.length + (if p = 1 then 2 else 1) := by
  unfold flatC
  by_cases h : p = 1
  · rw [if_pos h, if_pos h]
    simp
  · rw [if_neg h, if_neg h]
    simp
theorem ok_answers {f : Addr} {fd : FuncData} (F : Fun K "answers" "answers" sAnswers f fd) (X : Txt K mg cs) (D1 : MakeOk P w K mg base 5 "Contest" cs.C ["self"] (spCon0 cs))
    (D2 : DefOk P w K mg base 9 "answer_one" ["contest", "call", "given"] (spOne cs K T)) {nb : Addr} (hnb : mg "NUMBERS_BEHIND" = some (.ref nb)) (hb : ∀ p : Int, 2 ≤ p → p ≤ 11 → KInt K nb p (behindOf p)) :
    FnOk P w K mg base CX0 10 f fd ["calls"] (spAnswers K T) := by
  refine F.ok scAnswers (fun vs H Q E h => ?_) (fun cdv A outer s H vs Q E hr h => ?_)
  · obtain ⟨_, _, rfl, _⟩ := h
    rfl
  · obtain ⟨a, l, rfl, ha, hl, hq, tb, k⟩ := h
    refine ⟨_, pss_cons (ps_set (i := 1) scAnswers.nd rfl (Or.inl rfl) (pe_mk0 (j := 9) D1 hr))
      (pss_cons (ps_set (i := 2) scAnswers.nd rfl (Or.inl rfl) (pe_lst pa_nil))
      (pss_cons (ps_set (i := 3) scAnswers.nd rfl (Or.inl rfl) pe_int)
      (pss_cons (ps_while PassesOwn.never (pt_cmpR op_lt (pv 3) (pe_callB call_len_seq (by rfl) X.len PySem.boot_len (pa_cons (pv 0) pa_nil)) (nomark _))
        (pss_cons (ps_set (i := 4) scAnswers.nd rfl (Or.inl rfl) (pe_ix ix_list (pv 0) (pv 3) (fun _ _ => rfl)))
        (pss_cons (ps_if (pt_cmpR op_eq (pv 4) pe_int (nomark _))
          (pss_cons (ps_set (i := 5) scAnswers.nd rfl (Or.inl rfl) (pe_op op_add (pv 3) pe_int))
          (pss_one (ps_set (i := 6) scAnswers.nd rfl (Or.inl rfl) (pe_op op_add (pv 5) (pe_ix ix_list (pv 0) (pe_op op_add (pv 3) pe_int) (fun _ _ => rfl))))))
          (pss_cons (ps_set (i := 5) scAnswers.nd rfl (Or.inl rfl) (pe_op op_add (pv 3) pe_int))
          (pss_one (ps_set (i := 6) scAnswers.nd rfl (Or.inl rfl) (pe_op op_add (pv 5) (pe_ix ix_kint (pe_glob (v := .ref nb) rfl hnb rfl (by decide)) (pv 4) (fun _ _ => rfl)))))))
        (pss_cons (ps_set (i := 7) scAnswers.nd rfl (Or.inl rfl) (pe_d (j := 9) D2 hr (pa_cons (pv 1) (pa_cons (pv 4) (pa_cons (pe_slice sl_list (pv 0) (po_some (pv 5)) (po_some (pv 6))) pa_nil)))))
        (pss_cons (ps_expr (pe_bm PySem.F.plainAttrs_list PySem.F.slot_list_append PySem.F.type_list_append mt_append (pv 2) (pa_cons (pe_callB call_len_seq (by rfl) X.len PySem.boot_len (pa_cons (pv 7) pa_nil)) pa_nil)))
        (pss_cons (ps_expr (pe_bm PySem.F.plainAttrs_list PySem.F.slot_list_extend PySem.F.type_list_extend mt_extend (pv 2) (pa_cons (pv 7) pa_nil)))
        (pss_one (ps_set (i := 3) scAnswers.nd rfl (Or.inl rfl) (pv 6)))))))))
      (pss_one (ps_ret (pv 2)))))), ?_⟩
    obtain ⟨raw, el, hraw, eans, hshort⟩ := asked_calls hq
    intro x dx nx nd ne
    refine ⟨x, dx, rfl, upd_same, fun H1 ℓ hc R fr => ⟨rfl, Nat.zero_le _, fun tp htp => ?_⟩⟩
    have G1 : Given K (upd H1 tp (.lst [])) ℓ Kg59.init [] a tp (l.map V.int) := by
      rcases given_of ha with ⟨o, e, n, q⟩ | g
      · have ax : a ≠ x := ne_of_none e nx
        have ad : a ≠ dx := ne_of_none e nd
        obtain ⟨q1, q2⟩ := fr a o (by rw [upd_ne ax, upd_ne ad]; exact e) ax
        have d : a ≠ tp := ne_of_none q1 htp
        exact .inl ⟨o, (upd_ne d).trans q1, n, q, d, q2⟩
      · exact .inr g
    have tb1 : Tabs T H1 := tb.ext fun b o e => (fr b o (by rw [upd_ne (ne_of_none e nx), upd_ne (ne_of_none e nd)]; exact e) (ne_of_none e nx)).1
    refine ⟨fun m σ H2 => ∃ (rest : List (List (List Int))) (ℓ2 : Lay) (s2 : Kg59.State) (hist2 : Hist) (pre tl : List Int) (o4 o5 o6 o7 : Option V), m = rest.length ∧
      σ = [some (.ref a), some (.ref x), some (.ref tp), some (.int (pre.length : Nat)), o4, o5, o6, o7] ∧ ℓ2.c = x ∧ Rep cs H2 ℓ2 s2 hist2 ∧ Bm.Ok s2 hist2 ∧ Tabs T H2 ∧ ¬ Own ℓ2 s2 hist2 tp ∧ H2 tp = some (.lst (tl.map V.int)) ∧ Given K H2 ℓ2 s2 hist2 a tp (l.map V.int) ∧
      l = pre ++ PyFlat.put rest ∧ (∀ c ∈ rest, PyFlat.okCall PyKg59.shape c) ∧ tl ++ PyFlat.told (PyFlat.played Kg59Neutral.step s2 (rest.map PyKg59.whole)) = PyKg59.answers l,
      ⟨_, raw, ℓ, Kg59.init, [], [], [], none, none, none, none, rfl, rfl, hc, R.same (same_upd htp), Bm.ok_init, tabs_upd tb1 htp, R.new htp, upd_same, G1, el, hraw, eans.symm⟩, ?_⟩
    rintro m σ H2 ⟨rest, ℓ2, s2, hist2, pre, tl, o4, o5, o6, o7, rfl, rfl, hc2, R2, J2, tb2, no2, ht2, G2, el2, hr2, ea2⟩
    refine ⟨_, rfl, _, rfl, a, _, rfl, .inl G2.seq, _, _, rfl, rfl, _, rfl, ?_⟩
    cases rest with
    | nil =>
      have e0 : l.length = pre.length := by rw [el2]; simp [PyFlat.put]
      have e1 : decide (((pre.length : Nat) : Int) < ((l.map V.int).length : Nat)) = false := by
        rw [List.length_map, e0]
        simp
      rw [e1]
      refine ⟨_, rfl, ?_⟩
      have e2 : tl = PyKg59.answers l := by rw [← ea2]; exact (List.append_nil tl).symm
      exact k H2 tp (by rw [← e2]; exact ht2)
    | cons c rest =>
      obtain ⟨p, xs, kc, hcall⟩ := call_is (hr2 c (List.mem_cons_self ..))
      have ep : PyFlat.put (c :: rest) = flatC p xs ++ PyFlat.put rest := by rw [← hcall.2.2]; rfl
      rw [ep] at el2
      have fl := flat_len1 p xs
      have ll : l.length = pre.length + ((flatC p xs).length + (PyFlat.put rest).length) := by rw [el2, List.length_append, List.length_append]
      have e1 : decide (((pre.length : Nat) : Int) < ((l.map V.int).length : Nat)) = true := by
        rw [List.length_map, decide_eq_true_eq, ll]
        have : 0 < (flatC p xs).length := by rw [fl]; split <;> omega
        omega
      rw [e1]
      have hd : (l.map V.int)[pre.length]? = some (.int p) := by
        rw [el2]
        simp [flatC]
      have ea3 := ea2
      rw [told_is hcall] at ea3
      have sz : tl.length + (1 + (told kc s2).length) ≤ 10000000 := by
        rw [← ea3] at hshort
        rw [List.length_append, List.length_cons, List.length_append] at hshort
        omega
      refine ⟨fun σ' H' => ∃ (ℓ3 : Lay) (hist3 : Hist) (pre' : List Int) (o4 o5 o6 o7 : Option V), σ' = [some (.ref a), some (.ref x), some (.ref tp), some (.int (pre'.length : Nat)), o4, o5, o6, o7] ∧ ℓ3.c = x ∧ Rep cs H' ℓ3 (nxt kc s2) hist3 ∧ Bm.Ok (nxt kc s2) hist3 ∧ Tabs T H' ∧ ¬ Own ℓ3 (nxt kc s2) hist3 tp ∧
          H' tp = some (.lst ((tl ++ ((told kc s2).length : Int) :: told kc s2).map V.int)) ∧ Given K H' ℓ3 (nxt kc s2) hist3 a tp (l.map V.int) ∧ l = pre' ++ PyFlat.put rest, fun σ' H' h => ?_, ?_⟩
      · obtain ⟨ℓ3, hist3, pre', o4, o5, o6, o7, e1, e2, e3, e4, e5, e6, e7, e8, e9⟩ := h
        refine ⟨rest.length, Nat.lt_succ_self _, rest, ℓ3, nxt kc s2, hist3, pre', _, o4, o5, o6, o7, rfl, e1, e2, e3, e4, e5, e6, e7, e8, e9, fun d hd => hr2 d (List.mem_cons_of_mem _ hd), ?_⟩
        rw [← ea3]
        simp
      · refine ⟨_, rfl, _, rfl, a, _, _, _, rfl, rfl, G2.seq, atI_nat hd, _, rfl, rfl, _, rfl, ?_⟩
        by_cases hp : p = 1
        · subst hp
          refine iteY rfl ?_
          have e3 : l = (pre ++ [1, (xs.length : Int)]) ++ (xs ++ PyFlat.put rest) := by rw [el2]; simp [flatC]
          have hd2 : (l.map V.int)[pre.length + 1]? = some (.int (xs.length : Nat)) := by
            rw [e3]
            simp
          refine ⟨_, rfl, _, _, rfl, rfl, _, rfl, _, rfl, _, rfl, _, _, rfl, rfl, a, _, _, _, rfl, rfl, G2.seq, atI_nat hd2, _, _, rfl, rfl, ?_⟩
          have h3 : ((pre.length : Nat) : Int) + 2 + ((xs.length : Nat) : Int) = ((pre ++ [1, (xs.length : Int)]).length : Nat) + (xs.length : Nat) := by simp
          refine tail_ans hc2 R2 J2 tb2 no2 ht2 G2 e3 hl (by simp) h3 hcall.1 sz fun H' ℓ' hist' q q1 q2 q3 q4 q5 q6 q7 => ⟨ℓ', hist', _ ++ xs, _, _, _, _, by rw [List.length_append, h3]; rfl, q1, q2, q3, q4, q5, q6, q7, e3.trans (List.append_assoc _ _ _).symm⟩
        · refine iteN (by simpa using hp) ?_
          have e3 : l = (pre ++ [p]) ++ (xs ++ PyFlat.put rest) := by rw [el2]; simp [flatC, hp]
          obtain ⟨b1, b2, b3⟩ := behind_is hcall.1 hp
          refine ⟨_, rfl, _, _, rfl, rfl, _, rfl, _, rfl, nb, _, _, rfl, rfl, hb p b2 b3, _, _, rfl, rfl, ?_⟩
          have h3 : ((pre.length : Nat) : Int) + 1 + behindOf p = ((pre ++ [p]).length : Nat) + (xs.length : Nat) := by rw [b1]; simp
          refine tail_ans hc2 R2 J2 tb2 no2 ht2 G2 e3 hl (by simp) h3 hcall.1 sz fun H' ℓ' hist' q q1 q2 q3 q4 q5 q6 q7 => ⟨ℓ', hist', _ ++ xs, _, _, _, _, by rw [List.length_append, h3]; rfl, q1, q2, q3, q4, q5, q6, q7, e3.trans (List.append_assoc _ _ _).symm⟩
end
end Bc
namespace Bc
open PySem PySem.Spec PyProof.Rows L2 LamX
open PySem.W (WData Codec OpenSpec WellAll ReadsW)

/-! ### the call from without, where code objects have tables -/
section
variable {P : Program} {w : World} {K : PySem.W.Frag} {mg mb : Str → Option Value} {k : Nat} {fa : Addr} {fd : FuncData} {x : Str} {sp : Sp} {s1 : Shared} {vals : List Value} {l : List Int} {R : PySem.W.WRecords} {cl : Str → Option Addr} {d0 : WData} {ts : List (Addr × Addr)}
/-- what is tracked: the arguments and the tables -/
def withTabs (H0 : Hp) (ts : List (Addr × Addr)) : Hp := fun b => if b ∈ ts.map Prod.snd then some (.tbl #[]) else H0 b
theorem withTabs_tab {H0 : Hp} {b : Addr} (h : b ∈ ts.map Prod.snd) : withTabs H0 ts b = some (.tbl #[]) := if_pos h
theorem withTabs_not {H0 : Hp} {b : Addr} (h : b ∉ ts.map Prod.snd) : withTabs H0 ts b = H0 b := if_neg h
theorem call_tabs (kIn : K.In s1.heap) (nsG : s1.heap.Ns mainGlobals mg) (nsB : s1.heap.Ns builtinsNs mb) (boot : ∀ y : Str, y ≠ "__name__" → mb y = bootBuiltins y) (nolim : s1.heap.NoLimit) (nogen : s1.gens = #[])
    (tE : ∀ q ∈ ts, s1.heap.get? q.2 = some { cls := .none, data := .fields #[] }) (tN : ∀ q ∈ ts, K.lookup q.2 = none) (tC : ∀ q ∈ ts, PySem.W.CodeHd s1.heap q.1 q.2)
    (bmod : ∃ (bm : Addr) (ob : Obj), mg "__builtins__" = some (.ref bm) ∧ bm ≠ builtinsNs ∧ s1.heap.get? bm = some ob ∧ ob.cls = .type "module" ∧ ob.dict = some builtinsNs ∧ ob.data = .plain)
    (well : WellAll w.params s1.heap vals [WData.list (l.map WData.int)]) (light : ∀ d ∈ [WData.list (l.map WData.int)], d.weight ≤ 1048576) (room : Room k callerA)
    (keep : ∀ base : Heap, K.In base → base.Ns mainGlobals mg → (∀ q ∈ ts, LamX.TabB base mg q.1 q.2) → FnOk P w K mg base CX0 k fa fd [x] sp) (bind : ∀ (s : Shared) (us : List Value), us.length = ([x] : List Str).length → BindsTo s fd ⟨us, []⟩ (([x] : List Str).zip us))
    (asks : ∀ (H : Hp) (a : Addr), (∀ q ∈ ts, H q.2 = some (.tbl #[])) → SqL K H a (l.map V.int) → sp [.ref a] H (fun v H2 => Dw K H2 v d0) fun _ _ _ => False) :
    codeAny (model P w) callerA (.call (.ref fa) ⟨vals, []⟩) (fun r s2 => ∃ u as, r = .ok (.ret u) ∧ ReadsW R cl s2.heap u d0 as ∧ OldK s1.heap s2.heap ∧ s2.os = s1.os ∧ AllBare s2.gens) s1 := by
  have plain : plWs [WData.list (l.map WData.int)] = true := by
    show (plWs (l.map WData.int) && true) = true
    rw [plWs_map (fun _ => rfl)] <;> rfl
  obtain ⟨B, okB, inB⟩ := area_all _ vals well plain light
  have only0 : OnlyF (argH K s1.heap B) := argH_only inB
  have ok0 : HOk P w (argH K s1.heap B) s1.heap := argH_ok inB
  have dw0 := dw_all kIn inB _ vals well plain okB
  have rel := vals_toV okB
  have notK : ∀ {b : Addr} {u : HO}, argH K s1.heap B b = some u → K.lookup b = none := fun q => (argH_is inB q).1
  have isSeq : ∀ {b : Addr} {u : HO}, argH K s1.heap B b = some u → ∃ (c : Value) (vs : List Value), s1.heap.get? b = some { cls := c, data := .seq vs.toArray } := fun {b u} q => by
    obtain ⟨_, vs, _, _, ⟨e, _⟩ | ⟨e, _⟩⟩ := argH_is inB q
    · exact ⟨_, vs, e⟩
    · exact ⟨_, vs, e⟩
  generalize argH K s1.heap B = H0 at only0 ok0 dw0 notK isSeq
  have tabEmpty : ∀ {b : Addr}, b ∈ ts.map Prod.snd → s1.heap.get? b = some { cls := .none, data := .fields #[] } := fun {b} hb => by
    obtain ⟨q, hq, rfl⟩ := List.mem_map.mp hb
    exact tE q hq
  have tabK : ∀ {b : Addr}, b ∈ ts.map Prod.snd → K.lookup b = none := fun {b} hb => by
    obtain ⟨q, hq, rfl⟩ := List.mem_map.mp hb
    exact tN q hq
  have tab0 : ∀ {b : Addr}, b ∈ ts.map Prod.snd → H0 b = none := fun {b} hb => by
    cases z : H0 b with
    | none => rfl
    | some u =>
      obtain ⟨c, vs, e⟩ := isSeq z
      rw [tabEmpty hb] at e
      have e2 : Data.fields #[] = Data.seq vs.toArray := congrArg Obj.data (Option.some.inj e)
      cases e2
  have grow : Same H0 (withTabs H0 ts) := fun b u e => by
    refine (withTabs_not fun hb => ?_).trans e
    rw [tab0 hb] at e
    cases e
  have what : ∀ {b : Addr} {u : HO}, withTabs H0 ts b = some u → (b ∈ ts.map Prod.snd ∧ u = .tbl #[]) ∨ H0 b = some u := fun {b u} e => by
    by_cases hb : b ∈ ts.map Prod.snd
    · rw [withTabs_tab hb] at e
      exact .inl ⟨hb, (Option.some.inj e).symm⟩
    · rw [withTabs_not hb] at e
      exact .inr e
  have okH : HOk P w (withTabs H0 ts) s1.heap := fun b u e => by
    rcases what e with ⟨hb, rfl⟩ | z
    · exact tabEmpty hb
    · exact (ok0 b u z).stay (fun _ _ _ e => e) (fun b2 e => grow b2 _ e) fun b2 xs e => grow b2 _ e
  have tabH : ∀ {b : Addr}, b ∈ ts.map Prod.snd → withTabs H0 ts b = some (.tbl #[]) := fun hb => withTabs_tab hb
  have tabQ : ∀ q ∈ ts, q.2 ∈ ts.map Prod.snd := fun q hq => List.mem_map.mpr ⟨q, hq, rfl⟩
  -- the one argument
  obtain ⟨a, ev, hseq⟩ : ∃ a : Addr, vals.map toV = [.ref a] ∧ SqL K H0 a (l.map V.int) := by
    revert dw0
    generalize vals.map toV = vv
    intro dw0
    cases dw0 with
    | cons h1 h2 =>
      cases h2
      cases h1 with
      | lst hs ha =>
        rw [ints_dw l _ ha] at hs
        exact ⟨_, rfl, hs⟩
  generalize withTabs H0 ts = H at grow what okH tabH
  have free : ∀ {b : Addr} {o : Obj}, s1.heap.get? b = some o → (∀ vs n, o.data ≠ .seq vs n) → o.data ≠ .fields #[] → H b = none := fun {b o} e h1 h2 => by
    cases z : H b with
    | none => rfl
    | some u =>
      rcases what z with ⟨hb, _⟩ | z0
      · rw [tabEmpty hb] at e
        cases e
        exact (h2 rfl).elim
      · obtain ⟨c, vs, e2⟩ := isSeq z0
        rw [e2] at e
        cases e
        exact (h1 _ _ rfl).elim
  have under : ∀ {b : Addr} {o : Obj}, s1.heap.get? b = some o → H b = none → (hidT s1.heap H).get? b = some o := fun e n => hidT_get e n
  have nsOf : ∀ {b : Addr} {m : Str → Option Value}, s1.heap.Ns b m → (hidT s1.heap H).Ns b m := fun {b m} ⟨o, es, ep, e, d, r⟩ => by
    refine ⟨o, es, ep, under e (free e (fun vs n z => ?_) fun z => ?_), d, r⟩ <;>
    · rw [d] at z
      cases z
  have kBase : K.In (hidT s1.heap H) := fun b o e => by
    refine under (kIn b o e) ?_
    cases z : H b with
    | none => rfl
    | some u =>
      rcases what z with ⟨hb, _⟩ | z0
      · rw [tabK hb] at e
        cases e
      · rw [notK z0] at e
        cases e
  obtain ⟨mc, lim1, lim2⟩ := nolim
  have mod : L2.Mod K mg (hidT s1.heap H) := ⟨kBase, nsOf nsG, ⟨mb, nsOf nsB, boot⟩, mc, nsOf lim1, lim2⟩
  have tabs : ∀ q ∈ ts, LamX.TabB (hidT s1.heap H) mg q.1 q.2 := fun q hq => by
    have eP := tE q hq
    refine ⟨?_, ?_, fun z => ?_⟩
    · obtain ⟨o, us, file, tf, flags, tg, inF, text, tt, e1, r1, r2, r3, rest⟩ := tC q hq
      refine ⟨o, us, file, tf, flags, tg, inF, text, tt, under e1 (free e1 (fun vs n z => ?_) fun z => ?_), r1, r2, r3, rest⟩
      · rw [r2] at z
        cases z
      · rw [r2] at z
        cases z
        simp at r3
    · obtain ⟨bm, ob, b1, b2, b3, b4, b5, b6⟩ := bmod
      have n1 : bm ≠ mainGlobals := fun y => by
        obtain ⟨o, es, ep, e, d, _⟩ := nsG
        rw [y, e] at b3
        cases b3
        rw [d] at b6
        cases b6
      have n2 : bm ≠ q.2 := fun y => by
        rw [y, eP] at b3
        cases b3
        cases b6
      refine ⟨bm, ob, b1, b2, n1, n2, under b3 (free b3 (fun vs n z => ?_) fun z => ?_), b4, b5, b6⟩ <;>
      · rw [b6] at z
        cases z
    · obtain ⟨o, es, ep, e, d, _⟩ := nsG
      rw [z, eP] at e
      cases e
      cases d
  have start : Env0 P w K mg (hidT s1.heap H) callerA [] s1 H := ⟨rfl, mod, fun b o e => of_hidT e, Nat.le_of_eq (hidT_size _ _), trivial, fun b hb => absurd (show b ∈ ([] : List Addr) from hb) (by simp), okH, .of_eq nogen⟩
  have one : vals.length = ([x] : List Str).length := by
    have e := congrArg List.length ev
    rw [List.length_map] at e
    exact e
  have ask : sp (vals.map toV) H (fun v H2 => Dw K H2 v d0) fun _ _ _ => False := by
    rw [ev]
    exact asks H a (fun q hq => tabH (tabQ q hq)) (grow.seq hseq)
  refine codeAny_mono ((keep _ kBase (nsOf nsG) tabs).run callerA [] s1 H ⟨vals, []⟩ vals (vals.map toV) _ _ room start (bind s1 vals one) rel ask) fun r s2 h => ?_
  cases r with
  | error e => exact False.elim h
  | ok fl =>
    cases fl with
    | next => exact False.elim h
    | brk => exact False.elim h
    | cont => exact False.elim h
    | ret u =>
      obtain ⟨v, H2, os, bare, un, ok2, rv, answer⟩ := h
      have stays : ∀ b o, b ∉ ts.map Prod.snd → s1.heap.get? b = some o → s2.heap.get? b = some o := fun b o nb e => by
        cases z : H b with
        | none => exact un.keep b o e z (by intro y; exact absurd (show b ∈ ([] : List Addr) from y) (by simp)) (by simp)
        | some y =>
          rcases what z with ⟨hb, _⟩ | z0
          · exact absurd hb nb
          · rcases only0 b with n | ⟨ob, y2, f0⟩
            · rw [n] at z0
              cases z0
            · have f1 : H b = some (.frz ob y2) := grow b _ f0
              obtain ⟨g1, _⟩ := okH b _ f1
              obtain ⟨g2, _⟩ := ok2 b _ (un.frzs b ob _ f1)
              rw [e] at g1
              cases g1
              exact g2
      have k2 : K.In s2.heap := fun b o e => stays b o (fun hb => by
        rw [tabK hb] at e
        cases e) (kIn b o e)
      obtain ⟨as, reads⟩ := Dw.reads (R := R) (cl := cl) ok2 k2 d0 v u answer rv
      have bigger : ∀ q ∈ ts, ∃ more : Array Value, s2.heap.get? q.2 = some { cls := .none, data := .fields more } := fun q hq => by
        obtain ⟨more, y⟩ := un.tbls q.2 #[] (tabH (tabQ q hq))
        exact ⟨_, ok2 q.2 _ y⟩
      refine ⟨u, as, rfl, reads, ⟨fun b o e => ?_, fun b o e => ?_⟩, os, bare⟩
      · by_cases hb : b ∈ ts.map Prod.snd
        · obtain ⟨q, hq, rfl⟩ := List.mem_map.mp hb
          obtain ⟨more, e2⟩ := bigger q hq
          rw [tE q hq] at e
          cases e
          exact .inr (.inl ⟨((tC q hq).tab (tE q hq)).isCodeTable, rfl, #[], more, rfl, by rw [Array.empty_append]; exact e2⟩)
        · exact .inl (stays b o hb e)
      · by_cases hb : b ∈ ts.map Prod.snd
        · obtain ⟨q, hq, rfl⟩ := List.mem_map.mp hb
          obtain ⟨more, e2⟩ := bigger q hq
          exact ⟨_, e2⟩
        · exact ⟨o, stays b o hb e⟩
end
end Bc
namespace Bc
open PySem PySem.Spec PyProof.Rows L2 LamX

/-! ### all that the top has written, every address a letter -/
theorem tab_at {K : PySem.W.Frag} {x qual : Str} {f c P : Addr} {oc oc2 dV kV doc pm ct : Value} {od an od2 : Option Addr} {sl sl2 : Array (Option Value)} {vs : Array Value} {ar : Arguments} {body : List Stmt} {scope : Scope} (h1 : PySem.W.nsIn K mainGlobals x = some (some (.ref f)))
    (h2 : K.lookup f = some ⟨oc, od, .func (PySem.W.fnOf x qual ar body scope dV kV doc pm an (.ref c) ct), sl⟩) (h3 : K.lookup c = some ⟨oc2, od2, .fields vs, sl2⟩) (h4 : (vs[11]? : Option Value) = some (.ref P)) : PySem.W.tabIn K x = some (c, P) := by
  unfold PySem.W.tabIn
  rw [h1]
  dsimp only
  rw [h2]
  dsimp only [PySem.W.fnOf]
  rw [h3]
  dsimp only
  rw [h4]
theorem mk_class {K : PySem.W.Frag} {mg : Str → Option Value} {base : Heap} {P : Program} {w : World} {k : Nat} {x : Str} {C f : Addr} {fd : FuncData} {ps : List Str} {sp : Sp} (h : mg x = some (.ref C)) (m : PySem.W.makesIn K C = true) (i : PySem.W.findIn K (.ref C) "__init__" = some (some (.ref f))) (n : PySem.W.isFn K (.ref f) = true) (kc : PySem.W.keepIn K (.ref C) = true)
    (b : Binds K fd ps []) (F : FnOk P w K mg base CX0 k f fd ps sp) : MakeOk P w K mg base k x C ps sp := ⟨f, fd, h, ⟨m, i, n, kc⟩, b, F⟩
theorem all_mk {P : Program} {w : World} {K : PySem.W.Frag} {h : Heap} {mg : Str → Option Value} {aT aR aC nb P1 P2 c1 c2 f_team f_weight f_worth f_att0 f_asks f_rec0 f_left f_has f_on f_record f_who f_next f_blank f_renew f_con0 f_stand f_rank f_lio f_up f_order f_begin f_ask f_start f_make f_try f_turn f_rev f_behind f_may f_change f_card f_best f_achL f_achB f_placed f_ranked f_points f_one f_answers : Addr} {es : Array DictEntry} {m : Nat}
    {t_gLifts t_gAtt t_gNot t_gGood t_gPass t_gMost t_gTeam t_gHeavy t_gChg t_gBoth : Tok}
    {oc_team kV_team dc_team pm_team ct_team cd_team oc_weight kV_weight dc_weight pm_weight ct_weight cd_weight oc_worth kV_worth dc_worth pm_worth ct_worth cd_worth oc_att0 kV_att0 dc_att0 pm_att0 ct_att0 cd_att0 oc_asks kV_asks dc_asks pm_asks ct_asks cd_asks oc_rec0 kV_rec0 dc_rec0 pm_rec0 ct_rec0 cd_rec0 oc_left kV_left dc_left pm_left ct_left cd_left oc_has kV_has dc_has pm_has ct_has cd_has oc_on kV_on dc_on pm_on ct_on cd_on oc_record kV_record dc_record pm_record ct_record cd_record oc_who kV_who dc_who pm_who ct_who cd_who oc_next kV_next dc_next pm_next ct_next cd_next oc_blank kV_blank dc_blank pm_blank ct_blank cd_blank oc_renew kV_renew dc_renew pm_renew ct_renew cd_renew oc_con0 kV_con0 dc_con0 pm_con0 ct_con0 cd_con0 oc_stand kV_stand dc_stand pm_stand ct_stand cd_stand oc_rank kV_rank dc_rank pm_rank ct_rank cd_rank oc_lio kV_lio dc_lio pm_lio ct_lio oc_up kV_up dc_up pm_up ct_up cd_up oc_order kV_order dc_order pm_order ct_order cd_order oc_begin kV_begin dc_begin pm_begin ct_begin cd_begin oc_ask kV_ask dc_ask pm_ask ct_ask cd_ask oc_start kV_start dc_start pm_start ct_start cd_start oc_make kV_make dc_make pm_make ct_make cd_make oc_try kV_try dc_try pm_try ct_try cd_try oc_turn kV_turn dc_turn pm_turn ct_turn cd_turn oc_rev kV_rev dc_rev pm_rev ct_rev cd_rev oc_behind kV_behind dc_behind pm_behind ct_behind cd_behind oc_may kV_may dc_may pm_may ct_may cd_may oc_change kV_change dc_change pm_change ct_change cd_change oc_card kV_card dc_card pm_card ct_card cd_card oc_best kV_best dc_best pm_best ct_best cd_best oc_achL kV_achL dc_achL pm_achL ct_achL cd_achL oc_achB kV_achB dc_achB pm_achB ct_achB cd_achB oc_placed kV_placed dc_placed pm_placed ct_placed oc_ranked kV_ranked dc_ranked pm_ranked ct_ranked cd_ranked oc_points kV_points dc_points pm_points ct_points cd_points oc_one kV_one dc_one pm_one ct_one cd_one oc_answers kV_answers dc_answers pm_answers ct_answers cd_answers yc_1 yc_2 : Value}
    {od_team an_team od_weight an_weight od_worth an_worth od_att0 an_att0 od_asks an_asks od_rec0 an_rec0 od_left an_left od_has an_has od_on an_on od_record an_record od_who an_who od_next an_next od_blank an_blank od_renew an_renew od_con0 an_con0 od_stand an_stand od_rank an_rank od_lio an_lio od_up an_up od_order an_order od_begin an_begin od_ask an_ask od_start an_start od_make an_make od_try an_try od_turn an_turn od_rev an_rev od_behind an_behind od_may an_may od_change an_change od_card an_card od_best an_best od_achL an_achL od_achB an_achB od_placed an_placed od_ranked an_ranked od_points an_points od_one an_one od_answers an_answers yd_1 yd_2 : Option Addr}
    {sl_team sl_weight sl_worth sl_att0 sl_asks sl_rec0 sl_left sl_has sl_on sl_record sl_who sl_next sl_blank sl_renew sl_con0 sl_stand sl_rank sl_lio sl_up sl_order sl_begin sl_ask sl_start sl_make sl_try sl_turn sl_rev sl_behind sl_may sl_change sl_card sl_best sl_achL sl_achB sl_placed sl_ranked sl_points sl_one sl_answers ys_1 ys_2 : Array (Option Value)} {vs_1 vs_2 : Array Value}
    (KX : K.In h) (G : h.Ns mainGlobals mg)
    (n_T : PySem.W.nsIn K mainGlobals "Attempt" = some (some (.ref aT)))
    (pg_T : PySem.W.plainGet K aT Str.empty = true)
    (hd_T : PySem.W.hasDictIn K aT = true)
    (po_T : PySem.W.plainOver K aT = true)
    (sa_T : PySem.W.findIn K (.ref aT) "__setattr__" = some (some (.builtin "object.__setattr__")))
    (mk_T : PySem.W.makesIn K aT = true)
    (kc_T : PySem.W.keepIn K (.ref aT) = true)
    (n_R : PySem.W.nsIn K mainGlobals "Record" = some (some (.ref aR)))
    (pg_R : PySem.W.plainGet K aR Str.empty = true)
    (hd_R : PySem.W.hasDictIn K aR = true)
    (po_R : PySem.W.plainOver K aR = true)
    (sa_R : PySem.W.findIn K (.ref aR) "__setattr__" = some (some (.builtin "object.__setattr__")))
    (mk_R : PySem.W.makesIn K aR = true)
    (kc_R : PySem.W.keepIn K (.ref aR) = true)
    (n_C : PySem.W.nsIn K mainGlobals "Contest" = some (some (.ref aC)))
    (pg_C : PySem.W.plainGet K aC Str.empty = true)
    (hd_C : PySem.W.hasDictIn K aC = true)
    (po_C : PySem.W.plainOver K aC = true)
    (sa_C : PySem.W.findIn K (.ref aC) "__setattr__" = some (some (.builtin "object.__setattr__")))
    (mk_C : PySem.W.makesIn K aC = true)
    (kc_C : PySem.W.keepIn K (.ref aC) = true)
    (n_tW : PySem.W.findIn K (.ref aT) "weight" = some none)
    (n_tG : PySem.W.findIn K (.ref aT) "good" = some none)
    (n_tU : PySem.W.findIn K (.ref aT) "turn" = some none)
    (n_rW : PySem.W.findIn K (.ref aR) "wanted" = some none)
    (n_rC : PySem.W.findIn K (.ref aR) "changes" = some none)
    (n_rA : PySem.W.findIn K (.ref aR) "attempts" = some none)
    (n_cTm : PySem.W.findIn K (.ref aC) "teams" = some none)
    (n_cB : PySem.W.findIn K (.ref aC) "has_begun" = some none)
    (n_cL : PySem.W.findIn K (.ref aC) "lift" = some none)
    (n_cBar : PySem.W.findIn K (.ref aC) "bar" = some none)
    (n_cH : PySem.W.findIn K (.ref aC) "history" = some none)
    (n_cRs : PySem.W.findIn K (.ref aC) "records" = some none)
    (g_gLifts : PySem.W.nsIn K mainGlobals "LIFTS" = some (some (.int 2 t_gLifts)))
    (g_gAtt : PySem.W.nsIn K mainGlobals "ATTEMPTS_IN_A_LIFT" = some (some (.int 3 t_gAtt)))
    (g_gNot : PySem.W.nsIn K mainGlobals "NOT_GOOD" = some (some (.int 0 t_gNot)))
    (g_gGood : PySem.W.nsIn K mainGlobals "GOOD" = some (some (.int 1 t_gGood)))
    (g_gPass : PySem.W.nsIn K mainGlobals "PASSED_BY" = some (some (.int 2 t_gPass)))
    (g_gMost : PySem.W.nsIn K mainGlobals "MOST_LIFTERS" = some (some (.int 24 t_gMost)))
    (g_gTeam : PySem.W.nsIn K mainGlobals "HIGHEST_TEAM" = some (some (.int 20 t_gTeam)))
    (g_gHeavy : PySem.W.nsIn K mainGlobals "HEAVIEST" = some (some (.int 500 t_gHeavy)))
    (g_gChg : PySem.W.nsIn K mainGlobals "MOST_CHANGES" = some (some (.int 2 t_gChg)))
    (g_gBoth : PySem.W.nsIn K mainGlobals "BOTH" = some (some (.int 2 t_gBoth)))
    (z_len : PySem.W.nsIn K mainGlobals "len" = some none)
    (z_range : PySem.W.nsIn K mainGlobals "range" = some none)
    (z_srt : PySem.W.nsIn K mainGlobals "sorted" = some none)
    (z_list : PySem.W.nsIn K mainGlobals "list" = some none)
    (z_all : PySem.W.nsIn K mainGlobals "all" = some none)
    (z_any : PySem.W.nsIn K mainGlobals "any" = some none)
    (z_max : PySem.W.nsIn K mainGlobals "max" = some none)
    (z_enum : PySem.W.nsIn K mainGlobals "enumerate" = some none)
    (n_nb : PySem.W.nsIn K mainGlobals "NUMBERS_BEHIND" = some (some (.ref nb)))
    (l_nb : K.lookup nb = some ⟨.type "dict", none, .dict es m, #[]⟩)
    (a_team : PySem.W.nsIn K mainGlobals "is_team" = some (some (.ref f_team)))
    (l_team : K.lookup f_team = some ⟨oc_team, od_team, .func (PySem.W.fnOf "is_team" "is_team" (defArgs sTeam) (defBody sTeam) (defScope sTeam) .none kV_team dc_team pm_team an_team cd_team ct_team), sl_team⟩)
    (c_team : PySem.W.codeIn K cd_team "is_team" = true)
    (k_team : PySem.W.keepIn K (.ref f_team) = true)
    (a_weight : PySem.W.nsIn K mainGlobals "is_weight" = some (some (.ref f_weight)))
    (l_weight : K.lookup f_weight = some ⟨oc_weight, od_weight, .func (PySem.W.fnOf "is_weight" "is_weight" (defArgs sWeight) (defBody sWeight) (defScope sWeight) .none kV_weight dc_weight pm_weight an_weight cd_weight ct_weight), sl_weight⟩)
    (c_weight : PySem.W.codeIn K cd_weight "is_weight" = true)
    (k_weight : PySem.W.keepIn K (.ref f_weight) = true)
    (a_worth : PySem.W.nsIn K mainGlobals "worth" = some (some (.ref f_worth)))
    (l_worth : K.lookup f_worth = some ⟨oc_worth, od_worth, .func (PySem.W.fnOf "worth" "worth" (defArgs sWorth) (defBody sWorth) (defScope sWorth) .none kV_worth dc_worth pm_worth an_worth cd_worth ct_worth), sl_worth⟩)
    (c_worth : PySem.W.codeIn K cd_worth "worth" = true)
    (k_worth : PySem.W.keepIn K (.ref f_worth) = true)
    (a_att0 : PySem.W.findIn K (.ref aT) "__init__" = some (some (.ref f_att0)))
    (i_att0 : PySem.W.isFn K (.ref f_att0) = true)
    (l_att0 : K.lookup f_att0 = some ⟨oc_att0, od_att0, .func (PySem.W.fnOf "__init__" "Attempt.__init__" (defArgs sAtt0) (defBody sAtt0) (defScope sAtt0) .none kV_att0 dc_att0 pm_att0 an_att0 cd_att0 ct_att0), sl_att0⟩)
    (c_att0 : PySem.W.codeIn K cd_att0 "Attempt.__init__" = true)
    (k_att0 : PySem.W.keepIn K (.ref f_att0) = true)
    (a_asks : PySem.W.findIn K (.ref aT) "asks_for" = some (some (.ref f_asks)))
    (i_asks : PySem.W.isFn K (.ref f_asks) = true)
    (l_asks : K.lookup f_asks = some ⟨oc_asks, od_asks, .func (PySem.W.fnOf "asks_for" "Attempt.asks_for" (defArgs sAsks) (defBody sAsks) (defScope sAsks) .none kV_asks dc_asks pm_asks an_asks cd_asks ct_asks), sl_asks⟩)
    (c_asks : PySem.W.codeIn K cd_asks "Attempt.asks_for" = true)
    (k_asks : PySem.W.keepIn K (.ref f_asks) = true)
    (a_rec0 : PySem.W.findIn K (.ref aR) "__init__" = some (some (.ref f_rec0)))
    (i_rec0 : PySem.W.isFn K (.ref f_rec0) = true)
    (l_rec0 : K.lookup f_rec0 = some ⟨oc_rec0, od_rec0, .func (PySem.W.fnOf "__init__" "Record.__init__" (defArgs sRec0) (defBody sRec0) (defScope sRec0) .none kV_rec0 dc_rec0 pm_rec0 an_rec0 cd_rec0 ct_rec0), sl_rec0⟩)
    (c_rec0 : PySem.W.codeIn K cd_rec0 "Record.__init__" = true)
    (k_rec0 : PySem.W.keepIn K (.ref f_rec0) = true)
    (a_left : PySem.W.findIn K (.ref aR) "is_left" = some (some (.ref f_left)))
    (i_left : PySem.W.isFn K (.ref f_left) = true)
    (l_left : K.lookup f_left = some ⟨oc_left, od_left, .func (PySem.W.fnOf "is_left" "Record.is_left" (defArgs sLeft) (defBody sLeft) (defScope sLeft) .none kV_left dc_left pm_left an_left cd_left ct_left), sl_left⟩)
    (c_left : PySem.W.codeIn K cd_left "Record.is_left" = true)
    (k_left : PySem.W.keepIn K (.ref f_left) = true)
    (a_has : PySem.W.findIn K (.ref aC) "has_lifter" = some (some (.ref f_has)))
    (i_has : PySem.W.isFn K (.ref f_has) = true)
    (l_has : K.lookup f_has = some ⟨oc_has, od_has, .func (PySem.W.fnOf "has_lifter" "Contest.has_lifter" (defArgs sHas) (defBody sHas) (defScope sHas) .none kV_has dc_has pm_has an_has cd_has ct_has), sl_has⟩)
    (c_has : PySem.W.codeIn K cd_has "Contest.has_lifter" = true)
    (k_has : PySem.W.keepIn K (.ref f_has) = true)
    (a_on : PySem.W.findIn K (.ref aC) "is_on" = some (some (.ref f_on)))
    (i_on : PySem.W.isFn K (.ref f_on) = true)
    (l_on : K.lookup f_on = some ⟨oc_on, od_on, .func (PySem.W.fnOf "is_on" "Contest.is_on" (defArgs sOn) (defBody sOn) (defScope sOn) .none kV_on dc_on pm_on an_on cd_on ct_on), sl_on⟩)
    (c_on : PySem.W.codeIn K cd_on "Contest.is_on" = true)
    (k_on : PySem.W.keepIn K (.ref f_on) = true)
    (a_record : PySem.W.findIn K (.ref aC) "record" = some (some (.ref f_record)))
    (i_record : PySem.W.isFn K (.ref f_record) = true)
    (l_record : K.lookup f_record = some ⟨oc_record, od_record, .func (PySem.W.fnOf "record" "Contest.record" (defArgs sRecord) (defBody sRecord) (defScope sRecord) .none kV_record dc_record pm_record an_record cd_record ct_record), sl_record⟩)
    (c_record : PySem.W.codeIn K cd_record "Contest.record" = true)
    (k_record : PySem.W.keepIn K (.ref f_record) = true)
    (a_who : PySem.W.findIn K (.ref aC) "who_tried_last" = some (some (.ref f_who)))
    (i_who : PySem.W.isFn K (.ref f_who) = true)
    (l_who : K.lookup f_who = some ⟨oc_who, od_who, .func (PySem.W.fnOf "who_tried_last" "Contest.who_tried_last" (defArgs sWho) (defBody sWho) (defScope sWho) .none kV_who dc_who pm_who an_who cd_who ct_who), sl_who⟩)
    (c_who : PySem.W.codeIn K cd_who "Contest.who_tried_last" = true)
    (k_who : PySem.W.keepIn K (.ref f_who) = true)
    (a_next : PySem.W.findIn K (.ref aC) "next_lift" = some (some (.ref f_next)))
    (i_next : PySem.W.isFn K (.ref f_next) = true)
    (l_next : K.lookup f_next = some ⟨oc_next, od_next, .func (PySem.W.fnOf "next_lift" "Contest.next_lift" (defArgs sNext) (defBody sNext) (defScope sNext) .none kV_next dc_next pm_next an_next cd_next ct_next), sl_next⟩)
    (c_next : PySem.W.codeIn K cd_next "Contest.next_lift" = true)
    (k_next : PySem.W.keepIn K (.ref f_next) = true)
    (a_blank : PySem.W.nsIn K mainGlobals "blank_records" = some (some (.ref f_blank)))
    (l_blank : K.lookup f_blank = some ⟨oc_blank, od_blank, .func (PySem.W.fnOf "blank_records" "blank_records" (defArgs sBlank) (defBody sBlank) (defScope sBlank) .none kV_blank dc_blank pm_blank an_blank cd_blank ct_blank), sl_blank⟩)
    (c_blank : PySem.W.codeIn K cd_blank "blank_records" = true)
    (k_blank : PySem.W.keepIn K (.ref f_blank) = true)
    (a_renew : PySem.W.findIn K (.ref aC) "renew" = some (some (.ref f_renew)))
    (i_renew : PySem.W.isFn K (.ref f_renew) = true)
    (l_renew : K.lookup f_renew = some ⟨oc_renew, od_renew, .func (PySem.W.fnOf "renew" "Contest.renew" (defArgs sRenew) (defBody sRenew) (defScope sRenew) .none kV_renew dc_renew pm_renew an_renew cd_renew ct_renew), sl_renew⟩)
    (c_renew : PySem.W.codeIn K cd_renew "Contest.renew" = true)
    (k_renew : PySem.W.keepIn K (.ref f_renew) = true)
    (a_con0 : PySem.W.findIn K (.ref aC) "__init__" = some (some (.ref f_con0)))
    (i_con0 : PySem.W.isFn K (.ref f_con0) = true)
    (l_con0 : K.lookup f_con0 = some ⟨oc_con0, od_con0, .func (PySem.W.fnOf "__init__" "Contest.__init__" (defArgs sCon0) (defBody sCon0) (defScope sCon0) .none kV_con0 dc_con0 pm_con0 an_con0 cd_con0 ct_con0), sl_con0⟩)
    (c_con0 : PySem.W.codeIn K cd_con0 "Contest.__init__" = true)
    (k_con0 : PySem.W.keepIn K (.ref f_con0) = true)
    (a_stand : PySem.W.nsIn K mainGlobals "standing" = some (some (.ref f_stand)))
    (l_stand : K.lookup f_stand = some ⟨oc_stand, od_stand, .func (PySem.W.fnOf "standing" "standing" (defArgs sStand) (defBody sStand) (defScope sStand) .none kV_stand dc_stand pm_stand an_stand cd_stand ct_stand), sl_stand⟩)
    (c_stand : PySem.W.codeIn K cd_stand "standing" = true)
    (k_stand : PySem.W.keepIn K (.ref f_stand) = true)
    (a_rank : PySem.W.nsIn K mainGlobals "calling_rank" = some (some (.ref f_rank)))
    (l_rank : K.lookup f_rank = some ⟨oc_rank, od_rank, .func (PySem.W.fnOf "calling_rank" "calling_rank" (defArgs sRank) (defBody sRank) (defScope sRank) .none kV_rank dc_rank pm_rank an_rank cd_rank ct_rank), sl_rank⟩)
    (c_rank : PySem.W.codeIn K cd_rank "calling_rank" = true)
    (k_rank : PySem.W.keepIn K (.ref f_rank) = true)
    (a_lio : PySem.W.nsIn K mainGlobals "left_in_order" = some (some (.ref f_lio)))
    (l_lio : K.lookup f_lio = some ⟨oc_lio, od_lio, .func (PySem.W.fnOf "left_in_order" "left_in_order" (defArgs sLio) (defBody sLio) (defScope sLio) .none kV_lio dc_lio pm_lio an_lio (.ref c1) ct_lio), sl_lio⟩)
    (c_lio : PySem.W.codeIn K (.ref c1) "left_in_order" = true)
    (k_lio : PySem.W.keepIn K (.ref f_lio) = true)
    (a_up : PySem.W.nsIn K mainGlobals "up" = some (some (.ref f_up)))
    (l_up : K.lookup f_up = some ⟨oc_up, od_up, .func (PySem.W.fnOf "up" "up" (defArgs sUp) (defBody sUp) (defScope sUp) .none kV_up dc_up pm_up an_up cd_up ct_up), sl_up⟩)
    (c_up : PySem.W.codeIn K cd_up "up" = true)
    (k_up : PySem.W.keepIn K (.ref f_up) = true)
    (a_order : PySem.W.nsIn K mainGlobals "order" = some (some (.ref f_order)))
    (l_order : K.lookup f_order = some ⟨oc_order, od_order, .func (PySem.W.fnOf "order" "order" (defArgs sOrder) (defBody sOrder) (defScope sOrder) .none kV_order dc_order pm_order an_order cd_order ct_order), sl_order⟩)
    (c_order : PySem.W.codeIn K cd_order "order" = true)
    (k_order : PySem.W.keepIn K (.ref f_order) = true)
    (a_begin : PySem.W.nsIn K mainGlobals "begin" = some (some (.ref f_begin)))
    (l_begin : K.lookup f_begin = some ⟨oc_begin, od_begin, .func (PySem.W.fnOf "begin" "begin" (defArgs sBegin) (defBody sBegin) (defScope sBegin) .none kV_begin dc_begin pm_begin an_begin cd_begin ct_begin), sl_begin⟩)
    (c_begin : PySem.W.codeIn K cd_begin "begin" = true)
    (k_begin : PySem.W.keepIn K (.ref f_begin) = true)
    (a_ask : PySem.W.nsIn K mainGlobals "ask" = some (some (.ref f_ask)))
    (l_ask : K.lookup f_ask = some ⟨oc_ask, od_ask, .func (PySem.W.fnOf "ask" "ask" (defArgs sAsk) (defBody sAsk) (defScope sAsk) .none kV_ask dc_ask pm_ask an_ask cd_ask ct_ask), sl_ask⟩)
    (c_ask : PySem.W.codeIn K cd_ask "ask" = true)
    (k_ask : PySem.W.keepIn K (.ref f_ask) = true)
    (a_start : PySem.W.nsIn K mainGlobals "start" = some (some (.ref f_start)))
    (l_start : K.lookup f_start = some ⟨oc_start, od_start, .func (PySem.W.fnOf "start" "start" (defArgs sStart) (defBody sStart) (defScope sStart) .none kV_start dc_start pm_start an_start cd_start ct_start), sl_start⟩)
    (c_start : PySem.W.codeIn K cd_start "start" = true)
    (k_start : PySem.W.keepIn K (.ref f_start) = true)
    (a_make : PySem.W.nsIn K mainGlobals "make_attempt" = some (some (.ref f_make)))
    (l_make : K.lookup f_make = some ⟨oc_make, od_make, .func (PySem.W.fnOf "make_attempt" "make_attempt" (defArgs sMake) (defBody sMake) (defScope sMake) .none kV_make dc_make pm_make an_make cd_make ct_make), sl_make⟩)
    (c_make : PySem.W.codeIn K cd_make "make_attempt" = true)
    (k_make : PySem.W.keepIn K (.ref f_make) = true)
    (a_try : PySem.W.nsIn K mainGlobals "try_one" = some (some (.ref f_try)))
    (l_try : K.lookup f_try = some ⟨oc_try, od_try, .func (PySem.W.fnOf "try_one" "try_one" (defArgs sTry) (defBody sTry) (defScope sTry) .none kV_try dc_try pm_try an_try cd_try ct_try), sl_try⟩)
    (c_try : PySem.W.codeIn K cd_try "try_one" = true)
    (k_try : PySem.W.keepIn K (.ref f_try) = true)
    (a_turn : PySem.W.nsIn K mainGlobals "turn_round" = some (some (.ref f_turn)))
    (l_turn : K.lookup f_turn = some ⟨oc_turn, od_turn, .func (PySem.W.fnOf "turn_round" "turn_round" (defArgs sTurn) (defBody sTurn) (defScope sTurn) .none kV_turn dc_turn pm_turn an_turn cd_turn ct_turn), sl_turn⟩)
    (c_turn : PySem.W.codeIn K cd_turn "turn_round" = true)
    (k_turn : PySem.W.keepIn K (.ref f_turn) = true)
    (a_rev : PySem.W.nsIn K mainGlobals "reverse" = some (some (.ref f_rev)))
    (l_rev : K.lookup f_rev = some ⟨oc_rev, od_rev, .func (PySem.W.fnOf "reverse" "reverse" (defArgs sRev) (defBody sRev) (defScope sRev) .none kV_rev dc_rev pm_rev an_rev cd_rev ct_rev), sl_rev⟩)
    (c_rev : PySem.W.codeIn K cd_rev "reverse" = true)
    (k_rev : PySem.W.keepIn K (.ref f_rev) = true)
    (a_behind : PySem.W.nsIn K mainGlobals "comes_behind_the_last" = some (some (.ref f_behind)))
    (l_behind : K.lookup f_behind = some ⟨oc_behind, od_behind, .func (PySem.W.fnOf "comes_behind_the_last" "comes_behind_the_last" (defArgs sBehind) (defBody sBehind) (defScope sBehind) .none kV_behind dc_behind pm_behind an_behind cd_behind ct_behind), sl_behind⟩)
    (c_behind : PySem.W.codeIn K cd_behind "comes_behind_the_last" = true)
    (k_behind : PySem.W.keepIn K (.ref f_behind) = true)
    (a_may : PySem.W.nsIn K mainGlobals "may_ask_for" = some (some (.ref f_may)))
    (l_may : K.lookup f_may = some ⟨oc_may, od_may, .func (PySem.W.fnOf "may_ask_for" "may_ask_for" (defArgs sMay) (defBody sMay) (defScope sMay) .none kV_may dc_may pm_may an_may cd_may ct_may), sl_may⟩)
    (c_may : PySem.W.codeIn K cd_may "may_ask_for" = true)
    (k_may : PySem.W.keepIn K (.ref f_may) = true)
    (a_change : PySem.W.nsIn K mainGlobals "change" = some (some (.ref f_change)))
    (l_change : K.lookup f_change = some ⟨oc_change, od_change, .func (PySem.W.fnOf "change" "change" (defArgs sChange) (defBody sChange) (defScope sChange) .none kV_change dc_change pm_change an_change cd_change ct_change), sl_change⟩)
    (c_change : PySem.W.codeIn K cd_change "change" = true)
    (k_change : PySem.W.keepIn K (.ref f_change) = true)
    (a_card : PySem.W.nsIn K mainGlobals "card" = some (some (.ref f_card)))
    (l_card : K.lookup f_card = some ⟨oc_card, od_card, .func (PySem.W.fnOf "card" "card" (defArgs sCard) (defBody sCard) (defScope sCard) .none kV_card dc_card pm_card an_card cd_card ct_card), sl_card⟩)
    (c_card : PySem.W.codeIn K cd_card "card" = true)
    (k_card : PySem.W.keepIn K (.ref f_card) = true)
    (a_best : PySem.W.nsIn K mainGlobals "best_attempt" = some (some (.ref f_best)))
    (l_best : K.lookup f_best = some ⟨oc_best, od_best, .func (PySem.W.fnOf "best_attempt" "best_attempt" (defArgs sBest) (defBody sBest) (defScope sBest) .none kV_best dc_best pm_best an_best cd_best ct_best), sl_best⟩)
    (c_best : PySem.W.codeIn K cd_best "best_attempt" = true)
    (k_best : PySem.W.keepIn K (.ref f_best) = true)
    (a_achL : PySem.W.nsIn K mainGlobals "achieved_in_lift" = some (some (.ref f_achL)))
    (l_achL : K.lookup f_achL = some ⟨oc_achL, od_achL, .func (PySem.W.fnOf "achieved_in_lift" "achieved_in_lift" (defArgs sAchL) (defBody sAchL) (defScope sAchL) .none kV_achL dc_achL pm_achL an_achL cd_achL ct_achL), sl_achL⟩)
    (c_achL : PySem.W.codeIn K cd_achL "achieved_in_lift" = true)
    (k_achL : PySem.W.keepIn K (.ref f_achL) = true)
    (a_achB : PySem.W.nsIn K mainGlobals "achieved_in_both" = some (some (.ref f_achB)))
    (l_achB : K.lookup f_achB = some ⟨oc_achB, od_achB, .func (PySem.W.fnOf "achieved_in_both" "achieved_in_both" (defArgs sAchB) (defBody sAchB) (defScope sAchB) .none kV_achB dc_achB pm_achB an_achB cd_achB ct_achB), sl_achB⟩)
    (c_achB : PySem.W.codeIn K cd_achB "achieved_in_both" = true)
    (k_achB : PySem.W.keepIn K (.ref f_achB) = true)
    (a_placed : PySem.W.nsIn K mainGlobals "placed" = some (some (.ref f_placed)))
    (l_placed : K.lookup f_placed = some ⟨oc_placed, od_placed, .func (PySem.W.fnOf "placed" "placed" (defArgs sPlaced) (defBody sPlaced) (defScope sPlaced) .none kV_placed dc_placed pm_placed an_placed (.ref c2) ct_placed), sl_placed⟩)
    (c_placed : PySem.W.codeIn K (.ref c2) "placed" = true)
    (k_placed : PySem.W.keepIn K (.ref f_placed) = true)
    (a_ranked : PySem.W.nsIn K mainGlobals "ranked" = some (some (.ref f_ranked)))
    (l_ranked : K.lookup f_ranked = some ⟨oc_ranked, od_ranked, .func (PySem.W.fnOf "ranked" "ranked" (defArgs sRanked) (defBody sRanked) (defScope sRanked) .none kV_ranked dc_ranked pm_ranked an_ranked cd_ranked ct_ranked), sl_ranked⟩)
    (c_ranked : PySem.W.codeIn K cd_ranked "ranked" = true)
    (k_ranked : PySem.W.keepIn K (.ref f_ranked) = true)
    (a_points : PySem.W.nsIn K mainGlobals "points" = some (some (.ref f_points)))
    (l_points : K.lookup f_points = some ⟨oc_points, od_points, .func (PySem.W.fnOf "points" "points" (defArgs sPoints) (defBody sPoints) (defScope sPoints) .none kV_points dc_points pm_points an_points cd_points ct_points), sl_points⟩)
    (c_points : PySem.W.codeIn K cd_points "points" = true)
    (k_points : PySem.W.keepIn K (.ref f_points) = true)
    (a_one : PySem.W.nsIn K mainGlobals "answer_one" = some (some (.ref f_one)))
    (l_one : K.lookup f_one = some ⟨oc_one, od_one, .func (PySem.W.fnOf "answer_one" "answer_one" (defArgs sOne) (defBody sOne) (defScope sOne) .none kV_one dc_one pm_one an_one cd_one ct_one), sl_one⟩)
    (c_one : PySem.W.codeIn K cd_one "answer_one" = true)
    (k_one : PySem.W.keepIn K (.ref f_one) = true)
    (a_answers : PySem.W.nsIn K mainGlobals "answers" = some (some (.ref f_answers)))
    (l_answers : K.lookup f_answers = some ⟨oc_answers, od_answers, .func (PySem.W.fnOf "answers" "answers" (defArgs sAnswers) (defBody sAnswers) (defScope sAnswers) .none kV_answers dc_answers pm_answers an_answers cd_answers ct_answers), sl_answers⟩)
    (c_answers : PySem.W.codeIn K cd_answers "answers" = true)
    (k_answers : PySem.W.keepIn K (.ref f_answers) = true)
    (x_1 : K.lookup c1 = some ⟨yc_1, yd_1, .fields vs_1, ys_1⟩)
    (v_1 : (vs_1[11]? : Option Value) = some (.ref P1))
    (x_2 : K.lookup c2 = some ⟨yc_2, yd_2, .fields vs_2, ys_2⟩)
    (v_2 : (vs_2[11]? : Option Value) = some (.ref P2))
    (p_1 : K.lookup P1 = none)
    (p_2 : K.lookup P2 = none)
    (hk : IntKeys es) (hf : ∀ p : Int, 2 ≤ p → p ≤ 11 → ∃ t, findBy Value.isInt es p = some (.int (behindOf p) t)) (ne12 : P1 ≠ P2) :
    ∃ (fa : Addr) (fd : FuncData) (c1 P1 c2 P2 : Addr), PySem.W.tabIn K "left_in_order" = some (c1, P1) ∧ PySem.W.tabIn K "placed" = some (c2, P2) ∧ K.lookup P1 = none ∧ K.lookup P2 = none ∧ mg "answers" = some (.ref fa) ∧ (∀ (s : Shared) (us : List Value), us.length = (["calls"] : List Str).length → BindsTo s fd ⟨us, []⟩ ((["calls"] : List Str).zip us)) ∧
      ∀ base : Heap, K.In base → base.Ns mainGlobals mg → LamX.TabB base mg c1 P1 → LamX.TabB base mg c2 P2 → FnOk P w K mg base CX0 10 fa fd ["calls"] (spAnswers K [(P1, lamName "left_in_order"), (P2, lamName "placed")]) := by
  let cs : Cs := ⟨aT, aR, aC⟩
  have KT : Cls K aT := ⟨pg_T, hd_T, po_T, sa_T⟩
  have KR : Cls K aR := ⟨pg_R, hd_R, po_R, sa_R⟩
  have KC : Cls K aC := ⟨pg_C, hd_C, po_C, sa_C⟩
  have X : Txt K mg cs := ⟨KT, KR, KC, n_tW, n_tG, n_tU, n_rW, n_rC, n_rA, n_cTm, n_cB, n_cL, n_cBar, n_cH, n_cRs,
    ⟨_, PySem.W.mg_of KX G g_gLifts⟩, ⟨_, PySem.W.mg_of KX G g_gAtt⟩, ⟨_, PySem.W.mg_of KX G g_gNot⟩, ⟨_, PySem.W.mg_of KX G g_gGood⟩, ⟨_, PySem.W.mg_of KX G g_gPass⟩, ⟨_, PySem.W.mg_of KX G g_gMost⟩, ⟨_, PySem.W.mg_of KX G g_gTeam⟩, ⟨_, PySem.W.mg_of KX G g_gHeavy⟩, ⟨_, PySem.W.mg_of KX G g_gChg⟩, ⟨_, PySem.W.mg_of KX G g_gBoth⟩,
    PySem.W.mg_none_of KX G z_len, PySem.W.mg_none_of KX G z_range, PySem.W.mg_none_of KX G z_srt, PySem.W.mg_none_of KX G z_list, PySem.W.mg_none_of KX G z_all, PySem.W.mg_none_of KX G z_any, PySem.W.mg_none_of KX G z_max, PySem.W.mg_none_of KX G z_enum⟩
  have F_team := fun_mk (st := sTeam) l_team c_team k_team
  have b_team := F_team.binds (ps := ["team"]) fun _ _ _ _ _ _ us hl => match us, hl with | [_], _ => rfl
  have F_weight := fun_mk (st := sWeight) l_weight c_weight k_weight
  have b_weight := F_weight.binds (ps := ["weight"]) fun _ _ _ _ _ _ us hl => match us, hl with | [_], _ => rfl
  have F_worth := fun_mk (st := sWorth) l_worth c_worth k_worth
  have b_worth := F_worth.binds (ps := ["place"]) fun _ _ _ _ _ _ us hl => match us, hl with | [_], _ => rfl
  have F_att0 := fun_mk (st := sAtt0) l_att0 c_att0 k_att0
  have b_att0 := F_att0.binds (ps := ["self", "weight", "good", "turn"]) fun _ _ _ _ _ _ us hl => match us, hl with | [_, _, _, _], _ => rfl
  have F_asks := fun_mk (st := sAsks) l_asks c_asks k_asks
  have b_asks := F_asks.binds (ps := ["self"]) fun _ _ _ _ _ _ us hl => match us, hl with | [_], _ => rfl
  have F_rec0 := fun_mk (st := sRec0) l_rec0 c_rec0 k_rec0
  have b_rec0 := F_rec0.binds (ps := ["self"]) fun _ _ _ _ _ _ us hl => match us, hl with | [_], _ => rfl
  have F_left := fun_mk (st := sLeft) l_left c_left k_left
  have b_left := F_left.binds (ps := ["self"]) fun _ _ _ _ _ _ us hl => match us, hl with | [_], _ => rfl
  have F_has := fun_mk (st := sHas) l_has c_has k_has
  have b_has := F_has.binds (ps := ["self", "lifter"]) fun _ _ _ _ _ _ us hl => match us, hl with | [_, _], _ => rfl
  have F_on := fun_mk (st := sOn) l_on c_on k_on
  have b_on := F_on.binds (ps := ["self"]) fun _ _ _ _ _ _ us hl => match us, hl with | [_], _ => rfl
  have F_record := fun_mk (st := sRecord) l_record c_record k_record
  have b_record := F_record.binds (ps := ["self", "lifter"]) fun _ _ _ _ _ _ us hl => match us, hl with | [_, _], _ => rfl
  have F_who := fun_mk (st := sWho) l_who c_who k_who
  have b_who := F_who.binds (ps := ["self"]) fun _ _ _ _ _ _ us hl => match us, hl with | [_], _ => rfl
  have F_next := fun_mk (st := sNext) l_next c_next k_next
  have b_next := F_next.binds (ps := ["self"]) fun _ _ _ _ _ _ us hl => match us, hl with | [_], _ => rfl
  have F_blank := fun_mk (st := sBlank) l_blank c_blank k_blank
  have b_blank := F_blank.binds (ps := ["teams"]) fun _ _ _ _ _ _ us hl => match us, hl with | [_], _ => rfl
  have F_renew := fun_mk (st := sRenew) l_renew c_renew k_renew
  have b_renew := F_renew.binds (ps := ["self", "teams"]) fun _ _ _ _ _ _ us hl => match us, hl with | [_, _], _ => rfl
  have F_con0 := fun_mk (st := sCon0) l_con0 c_con0 k_con0
  have b_con0 := F_con0.binds (ps := ["self"]) fun _ _ _ _ _ _ us hl => match us, hl with | [_], _ => rfl
  have F_stand := fun_mk (st := sStand) l_stand c_stand k_stand
  have b_stand := F_stand.binds (ps := ["lifter", "attempts"]) fun _ _ _ _ _ _ us hl => match us, hl with | [_, _], _ => rfl
  have F_rank := fun_mk (st := sRank) l_rank c_rank k_rank
  have b_rank := F_rank.binds (ps := ["contest", "lifter"]) fun _ _ _ _ _ _ us hl => match us, hl with | [_, _], _ => rfl
  have F_lio := fun_mk (st := sLio) l_lio c_lio k_lio
  have b_lio := F_lio.binds (ps := ["contest"]) fun _ _ _ _ _ _ us hl => match us, hl with | [_], _ => rfl
  have F_up := fun_mk (st := sUp) l_up c_up k_up
  have b_up := F_up.binds (ps := ["contest"]) fun _ _ _ _ _ _ us hl => match us, hl with | [_], _ => rfl
  have F_order := fun_mk (st := sOrder) l_order c_order k_order
  have b_order := F_order.binds (ps := ["contest"]) fun _ _ _ _ _ _ us hl => match us, hl with | [_], _ => rfl
  have F_begin := fun_mk (st := sBegin) l_begin c_begin k_begin
  have b_begin := F_begin.binds (ps := ["contest", "teams"]) fun _ _ _ _ _ _ us hl => match us, hl with | [_, _], _ => rfl
  have F_ask := fun_mk (st := sAsk) l_ask c_ask k_ask
  have b_ask := F_ask.binds (ps := ["contest", "lifter", "first", "second"]) fun _ _ _ _ _ _ us hl => match us, hl with | [_, _, _, _], _ => rfl
  have F_start := fun_mk (st := sStart) l_start c_start k_start
  have b_start := F_start.binds (ps := ["contest"]) fun _ _ _ _ _ _ us hl => match us, hl with | [_], _ => rfl
  have F_make := fun_mk (st := sMake) l_make c_make k_make
  have b_make := F_make.binds (ps := ["contest", "lifter", "good"]) fun _ _ _ _ _ _ us hl => match us, hl with | [_, _, _], _ => rfl
  have F_try := fun_mk (st := sTry) l_try c_try k_try
  have b_try := F_try.binds (ps := ["contest", "good"]) fun _ _ _ _ _ _ us hl => match us, hl with | [_, _], _ => rfl
  have F_turn := fun_mk (st := sTurn) l_turn c_turn k_turn
  have b_turn := F_turn.binds (ps := ["record"]) fun _ _ _ _ _ _ us hl => match us, hl with | [_], _ => rfl
  have F_rev := fun_mk (st := sRev) l_rev c_rev k_rev
  have b_rev := F_rev.binds (ps := ["contest"]) fun _ _ _ _ _ _ us hl => match us, hl with | [_], _ => rfl
  have F_behind := fun_mk (st := sBehind) l_behind c_behind k_behind
  have b_behind := F_behind.binds (ps := ["contest", "lifter"]) fun _ _ _ _ _ _ us hl => match us, hl with | [_, _], _ => rfl
  have F_may := fun_mk (st := sMay) l_may c_may k_may
  have b_may := F_may.binds (ps := ["contest", "lifter", "weight"]) fun _ _ _ _ _ _ us hl => match us, hl with | [_, _, _], _ => rfl
  have F_change := fun_mk (st := sChange) l_change c_change k_change
  have b_change := F_change.binds (ps := ["contest", "lifter", "weight"]) fun _ _ _ _ _ _ us hl => match us, hl with | [_, _, _], _ => rfl
  have F_card := fun_mk (st := sCard) l_card c_card k_card
  have b_card := F_card.binds (ps := ["contest", "lifter", "lift"]) fun _ _ _ _ _ _ us hl => match us, hl with | [_, _, _], _ => rfl
  have F_best := fun_mk (st := sBest) l_best c_best k_best
  have b_best := F_best.binds (ps := ["record"]) fun _ _ _ _ _ _ us hl => match us, hl with | [_], _ => rfl
  have F_achL := fun_mk (st := sAchL) l_achL c_achL k_achL
  have b_achL := F_achL.binds (ps := ["contest", "lift"]) fun _ _ _ _ _ _ us hl => match us, hl with | [_, _], _ => rfl
  have F_achB := fun_mk (st := sAchB) l_achB c_achB k_achB
  have b_achB := F_achB.binds (ps := ["contest"]) fun _ _ _ _ _ _ us hl => match us, hl with | [_], _ => rfl
  have F_placed := fun_mk (st := sPlaced) l_placed c_placed k_placed
  have b_placed := F_placed.binds (ps := ["contest", "order"]) fun _ _ _ _ _ _ us hl => match us, hl with | [_, _], _ => rfl
  have F_ranked := fun_mk (st := sRanked) l_ranked c_ranked k_ranked
  have b_ranked := F_ranked.binds (ps := ["contest", "order"]) fun _ _ _ _ _ _ us hl => match us, hl with | [_, _], _ => rfl
  have F_points := fun_mk (st := sPoints) l_points c_points k_points
  have b_points := F_points.binds (ps := ["contest", "team"]) fun _ _ _ _ _ _ us hl => match us, hl with | [_, _], _ => rfl
  have F_one := fun_mk (st := sOne) l_one c_one k_one
  have b_one := F_one.binds (ps := ["contest", "call", "given"]) fun _ _ _ _ _ _ us hl => match us, hl with | [_, _, _], _ => rfl
  have F_answers := fun_mk (st := sAnswers) l_answers c_answers k_answers
  have b_answers := F_answers.binds (ps := ["calls"]) fun _ _ _ _ _ _ us hl => match us, hl with | [_], _ => rfl
  refine ⟨f_answers, PySem.W.fnOf "answers" "answers" (defArgs sAnswers) (defBody sAnswers) (defScope sAnswers) .none kV_answers dc_answers pm_answers an_answers cd_answers ct_answers, c1, P1, c2, P2, tab_at a_lio l_lio x_1 v_1, tab_at a_placed l_placed x_2 v_2, p_1, p_2, PySem.W.mg_of KX G a_answers, fun s us hu => match us, hu with | [_], _ => .of_eq rfl, fun base kb gb t1 t2 => ?_⟩
  have hu1 : ∀ q ∈ [(P1, lamName "left_in_order"), (P2, lamName "placed")], q.1 = P1 → q.2 = lamName "left_in_order" := fun q hq e => by
    rcases List.mem_cons.mp hq with rfl | hq
    · rfl
    · rcases List.mem_cons.mp hq with rfl | hq
      · exact absurd e.symm ne12
      · cases hq
  have hu2 : ∀ q ∈ [(P1, lamName "left_in_order"), (P2, lamName "placed")], q.1 = P2 → q.2 = lamName "placed" := fun q hq e => by
    rcases List.mem_cons.mp hq with rfl | hq
    · exact absurd e ne12
    · rcases List.mem_cons.mp hq with rfl | hq
      · rfl
      · cases hq
  have hm1 : (P1, lamName "left_in_order") ∈ [(P1, lamName "left_in_order"), (P2, lamName "placed")] := List.mem_cons_self ..
  have hm2 : (P2, lamName "placed") ∈ [(P1, lamName "left_in_order"), (P2, lamName "placed")] := List.mem_cons_of_mem _ (List.mem_cons_self ..)
  generalize [(P1, lamName "left_in_order"), (P2, lamName "placed")] = TT at hu1 hu2 hm1 hm2
  have Hteam : DefOk P w K mg base 1 "is_team" ["team"] (spTeam) := ⟨_, _, PySem.W.mg_of KX G a_team, k_team, b_team, ok_team F_team X⟩
  have Hweight : DefOk P w K mg base 1 "is_weight" ["weight"] (spWeight) := ⟨_, _, PySem.W.mg_of KX G a_weight, k_weight, b_weight, ok_weight F_weight X⟩
  have Hworth : DefOk P w K mg base 1 "worth" ["place"] (spWorth) := ⟨_, _, PySem.W.mg_of KX G a_worth, k_worth, b_worth, ok_worth F_worth⟩
  have Hatt0 : MakeOk P w K mg base 1 "Attempt" aT ["self", "weight", "good", "turn"] (spAtt0 cs) := mk_class (PySem.W.mg_of KX G n_T) mk_T a_att0 i_att0 kc_T b_att0 (ok_att0 F_att0 X)
  have Hasks : MethOk P w K mg base 1 aT "asks_for" ["self"] (spAsks cs) := ⟨_, _, KT, ⟨a_asks, i_asks, k_asks⟩, b_asks, ok_asks F_asks X⟩
  have Hrec0 : MakeOk P w K mg base 1 "Record" aR ["self"] (spRec0 cs) := mk_class (PySem.W.mg_of KX G n_R) mk_R a_rec0 i_rec0 kc_R b_rec0 (ok_rec0 F_rec0 X)
  have Hleft : MethOk P w K mg base 1 aR "is_left" ["self"] (spLeft cs) := ⟨_, _, KR, ⟨a_left, i_left, k_left⟩, b_left, ok_left F_left X⟩
  have Hhas : MethOk P w K mg base 1 aC "has_lifter" ["self", "lifter"] (spHas cs) := ⟨_, _, KC, ⟨a_has, i_has, k_has⟩, b_has, ok_has F_has X⟩
  have Hon : MethOk P w K mg base 1 aC "is_on" ["self"] (spOn cs) := ⟨_, _, KC, ⟨a_on, i_on, k_on⟩, b_on, ok_on F_on X⟩
  have Hrecord : MethOk P w K mg base 1 aC "record" ["self", "lifter"] (spRecord cs) := ⟨_, _, KC, ⟨a_record, i_record, k_record⟩, b_record, ok_record F_record X⟩
  have Hwho : MethOk P w K mg base 1 aC "who_tried_last" ["self"] (spWho cs) := ⟨_, _, KC, ⟨a_who, i_who, k_who⟩, b_who, ok_who F_who X⟩
  have Hnext : MethOk P w K mg base 1 aC "next_lift" ["self"] (spNext cs) := ⟨_, _, KC, ⟨a_next, i_next, k_next⟩, b_next, ok_next F_next X⟩
  have Hblank : DefOk P w K mg base 3 "blank_records" ["teams"] (spBlank cs K) := ⟨_, _, PySem.W.mg_of KX G a_blank, k_blank, b_blank, ok_blank F_blank Hrec0⟩
  have Hrenew : MethOk P w K mg base 4 aC "renew" ["self", "teams"] (spRenew cs K) := ⟨_, _, KC, ⟨a_renew, i_renew, k_renew⟩, b_renew, ok_renew F_renew X Hblank⟩
  have Hcon0 : MakeOk P w K mg base 5 "Contest" aC ["self"] (spCon0 cs) := mk_class (PySem.W.mg_of KX G n_C) mk_C a_con0 i_con0 kc_C b_con0 (ok_con0 F_con0 Hrenew)
  have Hstand : DefOk P w K mg base 1 "standing" ["lifter", "attempts"] (spStand cs K) := ⟨_, _, PySem.W.mg_of KX G a_stand, k_stand, b_stand, ok_stand F_stand X⟩
  have Hrank : DefOk P w K mg base 2 "calling_rank" ["contest", "lifter"] (spRank cs) := ⟨_, _, PySem.W.mg_of KX G a_rank, k_rank, b_rank, ok_rank F_rank X Hrecord Hstand⟩
  have Hlio : DefOk P w K mg base 6 "left_in_order" ["contest"] (spLio cs TT) := ⟨_, _, PySem.W.mg_of KX G a_lio, k_lio, b_lio, ok_lio l_lio c_lio t1 hm1 hu1 X Hrecord Hleft Hrank⟩
  have Hup : DefOk P w K mg base 7 "up" ["contest"] (spUp cs TT) := ⟨_, _, PySem.W.mg_of KX G a_up, k_up, b_up, ok_up F_up X Hon Hlio Hrecord Hwho⟩
  have Horder : DefOk P w K mg base 7 "order" ["contest"] (spOrder cs TT) := ⟨_, _, PySem.W.mg_of KX G a_order, k_order, b_order, ok_order F_order X Hon Hlio Hrecord⟩
  have Hbegin : DefOk P w K mg base 5 "begin" ["contest", "teams"] (spBegin cs K TT) := ⟨_, _, PySem.W.mg_of KX G a_begin, k_begin, b_begin, ok_begin F_begin X Hteam Hrenew⟩
  have Hask : DefOk P w K mg base 2 "ask" ["contest", "lifter", "first", "second"] (spAny fun z : Int × Int × Int => spCall cs TT [.int z.1, .int z.2.1, .int z.2.2] (nxt (.ask z.1 z.2.1 z.2.2)) (told (.ask z.1 z.2.1 z.2.2))) := ⟨_, _, PySem.W.mg_of KX G a_ask, k_ask, b_ask, fn_any fun z : Int × Int × Int => ok_askD F_ask X Hhas Hweight z.1 z.2.1 z.2.2⟩
  have Hstart : DefOk P w K mg base 8 "start" ["contest"] (spCall cs TT [] (nxt .start) (told .start)) := ⟨_, _, PySem.W.mg_of KX G a_start, k_start, b_start, ok_startD F_start X Hup⟩
  have Hmake : DefOk P w K mg base 3 "make_attempt" ["contest", "lifter", "good"] (spMake cs TT) := ⟨_, _, PySem.W.mg_of KX G a_make, k_make, b_make, ok_make F_make X Hrecord Hatt0 Hasks⟩
  have Htry : DefOk P w K mg base 7 "try_one" ["contest", "good"] (spAny fun z : Int => spCall cs TT [.int z] (nxt (.try_ z)) (told (.try_ z))) := ⟨_, _, PySem.W.mg_of KX G a_try, k_try, b_try, fn_any fun z : Int => ok_try F_try X Hon Hlio Hmake Hnext z⟩
  have Hturn : DefOk P w K mg base 2 "turn_round" ["record"] (spTurn cs) := ⟨_, _, PySem.W.mg_of KX G a_turn, k_turn, b_turn, ok_turn F_turn X Hasks⟩
  have Hrev : DefOk P w K mg base 3 "reverse" ["contest"] (spCall cs TT [] (nxt .reverse) (told .reverse)) := ⟨_, _, PySem.W.mg_of KX G a_rev, k_rev, b_rev, ok_rev F_rev X Hturn⟩
  have Hbehind : DefOk P w K mg base 2 "comes_behind_the_last" ["contest", "lifter"] (spBehind cs) := ⟨_, _, PySem.W.mg_of KX G a_behind, k_behind, b_behind, ok_behind F_behind X Hwho Hrecord Hstand⟩
  have Hmay : DefOk P w K mg base 3 "may_ask_for" ["contest", "lifter", "weight"] (spMay cs) := ⟨_, _, PySem.W.mg_of KX G a_may, k_may, b_may, ok_may F_may X Hrecord Hasks Hbehind⟩
  have Hchange : DefOk P w K mg base 7 "change" ["contest", "lifter", "weight"] (spAny fun z : Int × Int => spCall cs TT [.int z.1, .int z.2] (nxt (.change z.1 z.2)) (told (.change z.1 z.2))) := ⟨_, _, PySem.W.mg_of KX G a_change, k_change, b_change, fn_any fun z : Int × Int => ok_change F_change X Hhas Hweight Hon Hrecord Hleft Hmay Hlio z.1 z.2⟩
  have Hcard : DefOk P w K mg base 2 "card" ["contest", "lifter", "lift"] (spAny fun z : Int × Int => spCall cs TT [.int z.1, .int z.2] (nxt (.card z.1 z.2)) (told (.card z.1 z.2))) := ⟨_, _, PySem.W.mg_of KX G a_card, k_card, b_card, fn_any fun z : Int × Int => ok_card F_card X Hhas z.1 z.2⟩
  have Hbest : DefOk P w K mg base 1 "best_attempt" ["record"] (spBest cs K) := ⟨_, _, PySem.W.mg_of KX G a_best, k_best, b_best, ok_best F_best X⟩
  have HachL : DefOk P w K mg base 2 "achieved_in_lift" ["contest", "lift"] (spAchL cs) := ⟨_, _, PySem.W.mg_of KX G a_achL, k_achL, b_achL, ok_achL F_achL X Hbest⟩
  have HachB : DefOk P w K mg base 2 "achieved_in_both" ["contest"] (spAchB cs) := ⟨_, _, PySem.W.mg_of KX G a_achB, k_achB, b_achB, ok_achB F_achB X Hbest⟩
  have Hplaced : DefOk P w K mg base 4 "placed" ["contest", "order"] (spPlaced cs TT) := ⟨_, _, PySem.W.mg_of KX G a_placed, k_placed, b_placed, ok_placed l_placed c_placed t2 hm2 hu2 X HachL HachB⟩
  have Hranked : DefOk P w K mg base 5 "ranked" ["contest", "order"] (spAny fun z : Int => spCall cs TT [.int z] (nxt (.ranked z)) (told (.ranked z))) := ⟨_, _, PySem.W.mg_of KX G a_ranked, k_ranked, b_ranked, fn_any fun z : Int => ok_ranked F_ranked X Hplaced z⟩
  have Hpoints : DefOk P w K mg base 5 "points" ["contest", "team"] (spAny fun z : Int => spCall cs TT [.int z] (nxt (.points z)) (told (.points z))) := ⟨_, _, PySem.W.mg_of KX G a_points, k_points, b_points, fn_any fun z : Int => ok_points F_points X Hteam Hplaced Hworth z⟩
  have Hone : DefOk P w K mg base 9 "answer_one" ["contest", "call", "given"] (spOne cs K TT) := ⟨_, _, PySem.W.mg_of KX G a_one, k_one, b_one, ok_one F_one Hbegin Hask Hstart Hup Horder Htry Hchange Hrev Hcard Hranked Hpoints⟩
  exact ok_answers (T := TT) (cs := cs) F_answers X Hcon0 Hone (PySem.W.mg_of KX G n_nb) fun p h1 h2 => by
    obtain ⟨t, e⟩ := hf p h1 h2
    exact ⟨es, m, t, l_nb, hk, e⟩
end Bc
namespace Bc
open PySem PySem.Spec PyProof.Rows L2 LamX
open PySem.W (WData Codec OpenSpec)
abbrev row : OpenSpec := PySem.Challenge.rw_barcontest_s01_answers
theorem room10 : Room 10 callerA := ⟨rfl, by decide, by decide⟩
theorem walk_tabs {q : Program} {loose : List Str} {XP : (Str → Option Value) → Heap → Prop} {YP : World → Heap → Prop} {d : DefRec} {K : Params → PySem.W.Frag} (wellS : row.wellSaid = true) (name : d.name = "answers") (inK : ∀ (w : World) (h : Heap), YP w h → (K w.params).In h)
    (r1 : ∃ e, (recsOf q).find? (fun e => e.name == ("left_in_order" : Str)) = some e) (r2 : ∃ e, (recsOf q).find? (fun e => e.name == ("placed" : Str)) = some e)
    (F : ∀ (w : World) (mg : Str → Option Value) (h : Heap), (K w.params).In h → h.Ns mainGlobals mg → ∃ (fa : Addr) (fd : FuncData) (c1 P1 c2 P2 : Addr), PySem.W.tabIn (K w.params) "left_in_order" = some (c1, P1) ∧ PySem.W.tabIn (K w.params) "placed" = some (c2, P2) ∧ (K w.params).lookup P1 = none ∧ (K w.params).lookup P2 = none ∧ mg "answers" = some (.ref fa) ∧
      (∀ (s : Shared) (us : List Value), us.length = (["calls"] : List Str).length → BindsTo s fd ⟨us, []⟩ ((["calls"] : List Str).zip us)) ∧
      ∀ base : Heap, (K w.params).In base → base.Ns mainGlobals mg → LamX.TabB base mg c1 P1 → LamX.TabB base mg c2 P2 → FnOk row.prog w (K w.params) mg base CX0 10 fa fd ["calls"] (spAnswers (K w.params) [(P1, lamName "left_in_order"), (P2, lamName "placed")])) :
    PySem.W.WalkOS q loose XP YP row d [] (fun f vs => PySem.call f vs) := by
  intro w s0 s1 mg mb G Y fa o pm cd doc dV kV _ _ _ _ named nogen args vals as pre lay _ well _
  obtain ⟨a, e1, e2⟩ := PySem.W.os_pre_some pre
  obtain ⟨e3, inW⟩ := Codec.encAll_of_decAll row.args args a e1
  subst e3
  have KX := inK w _ Y
  obtain ⟨fa2, fd, c1, P1, c2, P2, x1, x2, n1, n2, named2, bind, keep⟩ := F w mg _ KX G.T.g
  rw [name, named2] at named
  cases named
  obtain ⟨_, r1⟩ := r1
  obtain ⟨_, r2⟩ := r2
  obtain ⟨hd1, em1⟩ := PySem.W.tab_of G.T KX r1 x1
  obtain ⟨hd2, em2⟩ := PySem.W.tab_of G.T KX r2 x2
  have ask : PyKg59.answers_asked a.1 = true := e2
  have len : a.1.length ≤ 30000 := by
    have y : ((Codec.inLen 0 30000 a.1 && a.1.all (Codec.inInt (-2147483648) 2147483647)) && true) = true := inW
    rw [Bool.and_eq_true, Bool.and_eq_true] at y
    exact (Codec.inNat_iff.mp y.1.1).2
  have main := call_tabs (P := row.prog) (w := w) (K := K w.params) (mg := mg) (mb := mb) (k := 10) (fa := fa) (fd := fd) (x := "calls") (s1 := s1) (vals := vals) (l := a.1) (R := []) (cl := classAt s0.heap) (d0 := WData.list ((PyKg59.answers a.1).map WData.int)) (ts := [(c1, P1), (c2, P2)])
    (sp := spAnswers (K w.params) [(P1, lamName "left_in_order"), (P2, lamName "placed")]) KX G.T.g G.T.b G.T.builtins G.T.nolimit nogen
    (fun p hp => by
      rcases List.mem_cons.mp hp with rfl | hp
      · exact em1
      · rcases List.mem_cons.mp hp with rfl | hp
        · exact em2
        · cases hp)
    (fun p hp => by
      rcases List.mem_cons.mp hp with rfl | hp
      · exact n1
      · rcases List.mem_cons.mp hp with rfl | hp
        · exact n2
        · cases hp)
    (fun p hp => by
      rcases List.mem_cons.mp hp with rfl | hp
      · exact hd1
      · rcases List.mem_cons.mp hp with rfl | hp
        · exact hd2
        · cases hp)
    G.T.bmain well (layable_weight lay) room10
    (fun base b1 b2 b3 => keep base b1 b2 (b3 _ (List.mem_cons_self ..)) (b3 _ (List.mem_cons_of_mem _ (List.mem_cons_self ..)))) bind
    (fun H p tb hs => ⟨p, a.1, rfl, hs, len, ask, (fun y hy => by
      rcases List.mem_cons.mp hy with rfl | hy
      · exact TabS.nil (tb (c1, P1) (List.mem_cons_self ..))
      · rcases List.mem_cons.mp hy with rfl | hy
        · exact TabS.nil (tb (c2, P2) (List.mem_cons_of_mem _ (List.mem_cons_self ..)))
        · cases hy), fun H2 r hr => .lst (SqL.of hr) (dw_ints _)⟩)
  refine PySem.W.enter_call (codeAny_mono main fun r2 s2 hq => ?_)
  obtain ⟨u, as2, rfl, h1, h2, h3, h4⟩ := hq
  exact ⟨.inl ⟨u, _, as2, rfl, fun _ => rfl, h1, (OpenSpec.post_iff wellS inW _ _).mpr rfl, fun z => Bool.noConfusion (show false = true from z)⟩, h2, h3, h4⟩
end Bc
namespace Bc
open PySem PySem.Spec PyProof.Rows L2 LamX
theorem keys_lit {t2 u2 t3 u3 t4 u4 t5 u5 t6 u6 t7 u7 t8 u8 t9 u9 t10 u10 t11 u11 : Tok} : IntKeys #[{ hash := 2, key := .int 2 t2, val := .int 3 u2 }, { hash := 3, key := .int 3 t3, val := .int 0 u3 }, { hash := 4, key := .int 4 t4, val := .int 0 u4 }, { hash := 5, key := .int 5 t5, val := .int 0 u5 }, { hash := 6, key := .int 6 t6, val := .int 1 u6 }, { hash := 7, key := .int 7 t7, val := .int 2 u7 }, { hash := 8, key := .int 8 t8, val := .int 0 u8 }, { hash := 9, key := .int 9 t9, val := .int 2 u9 }, { hash := 10, key := .int 10 t10, val := .int 1 u10 }, { hash := 11, key := .int 11 t11, val := .int 1 u11 }] := by
  intro e he
  simp only [List.mem_toArray, List.mem_cons, List.not_mem_nil, or_false] at he
  rcases he with rfl | rfl | rfl | rfl | rfl | rfl | rfl | rfl | rfl | rfl <;> exact ⟨_, _, rfl, rfl⟩
theorem find_lit {t2 u2 t3 u3 t4 u4 t5 u5 t6 u6 t7 u7 t8 u8 t9 u9 t10 u10 t11 u11 : Tok} : ∀ p : Int, 2 ≤ p → p ≤ 11 → ∃ t, findBy Value.isInt #[{ hash := 2, key := .int 2 t2, val := .int 3 u2 }, { hash := 3, key := .int 3 t3, val := .int 0 u3 }, { hash := 4, key := .int 4 t4, val := .int 0 u4 }, { hash := 5, key := .int 5 t5, val := .int 0 u5 }, { hash := 6, key := .int 6 t6, val := .int 1 u6 }, { hash := 7, key := .int 7 t7, val := .int 2 u7 }, { hash := 8, key := .int 8 t8, val := .int 0 u8 }, { hash := 9, key := .int 9 t9, val := .int 2 u9 }, { hash := 10, key := .int 10 t10, val := .int 1 u10 }, { hash := 11, key := .int 11 t11, val := .int 1 u11 }] p = some (.int (behindOf p) t) := by
  intro p h1 h2
  have h : p = 2 ∨ p = 3 ∨ p = 4 ∨ p = 5 ∨ p = 6 ∨ p = 7 ∨ p = 8 ∨ p = 9 ∨ p = 10 ∨ p = 11 := by omega
  rcases h with rfl | rfl | rfl | rfl | rfl | rfl | rfl | rfl | rfl | rfl <;> exact ⟨_, rfl⟩
end Bc
open PySem PySem.W PyProof.Rows
set_option maxRecDepth 100000 in
set_option maxHeartbeats 8000000 in
theorem PySem.Challenge.cw_barcontest_s01_answers_holds : PySem.Challenge.rw_barcontest_s01_answers.Holds := by
  w_on; k_headS; (case hw => exact ⟨[.list [.int 3]], by decide +kernel, by decide +kernel⟩)
  k_fillS
  refine Bc.walk_tabs (by decide +kernel) rfl (fun w h Y => PySem.W.kIn_of Y) ⟨_, rfl⟩ ⟨_, rfl⟩ ?F
  case F =>
    intro w mg h KX G
    refine' Bc.all_mk KX G ?n_T ?pg_T ?hd_T ?po_T ?sa_T ?mk_T ?kc_T ?n_R ?pg_R ?hd_R ?po_R ?sa_R ?mk_R ?kc_R ?n_C ?pg_C ?hd_C ?po_C ?sa_C ?mk_C ?kc_C ?n_tW ?n_tG ?n_tU ?n_rW ?n_rC ?n_rA ?n_cTm ?n_cB ?n_cL ?n_cBar ?n_cH ?n_cRs ?g_gLifts ?g_gAtt ?g_gNot ?g_gGood ?g_gPass ?g_gMost ?g_gTeam ?g_gHeavy ?g_gChg ?g_gBoth ?z_len ?z_range ?z_srt ?z_list ?z_all ?z_any ?z_max ?z_enum ?n_nb ?l_nb ?a_team ?l_team ?c_team ?k_team ?a_weight ?l_weight ?c_weight ?k_weight ?a_worth ?l_worth ?c_worth ?k_worth ?a_att0 ?i_att0 ?l_att0 ?c_att0 ?k_att0 ?a_asks ?i_asks ?l_asks ?c_asks ?k_asks ?a_rec0 ?i_rec0 ?l_rec0 ?c_rec0 ?k_rec0 ?a_left ?i_left ?l_left ?c_left ?k_left ?a_has ?i_has ?l_has ?c_has ?k_has ?a_on ?i_on ?l_on ?c_on ?k_on ?a_record ?i_record ?l_record ?c_record ?k_record ?a_who ?i_who ?l_who ?c_who ?k_who ?a_next ?i_next ?l_next ?c_next ?k_next ?a_blank ?l_blank ?c_blank ?k_blank ?a_renew ?i_renew ?l_renew ?c_renew ?k_renew ?a_con0 ?i_con0 ?l_con0 ?c_con0 ?k_con0 ?a_stand ?l_stand ?c_stand ?k_stand ?a_rank ?l_rank ?c_rank ?k_rank ?a_lio ?l_lio ?c_lio ?k_lio ?a_up ?l_up ?c_up ?k_up ?a_order ?l_order ?c_order ?k_order ?a_begin ?l_begin ?c_begin ?k_begin ?a_ask ?l_ask ?c_ask ?k_ask ?a_start ?l_start ?c_start ?k_start ?a_make ?l_make ?c_make ?k_make ?a_try ?l_try ?c_try ?k_try ?a_turn ?l_turn ?c_turn ?k_turn ?a_rev ?l_rev ?c_rev ?k_rev ?a_behind ?l_behind ?c_behind ?k_behind ?a_may ?l_may ?c_may ?k_may ?a_change ?l_change ?c_change ?k_change ?a_card ?l_card ?c_card ?k_card ?a_best ?l_best ?c_best ?k_best ?a_achL ?l_achL ?c_achL ?k_achL ?a_achB ?l_achB ?c_achB ?k_achB ?a_placed ?l_placed ?c_placed ?k_placed ?a_ranked ?l_ranked ?c_ranked ?k_ranked ?a_points ?l_points ?c_points ?k_points ?a_one ?l_one ?c_one ?k_one ?a_answers ?l_answers ?c_answers ?k_answers ?x_1 ?v_1 ?x_2 ?v_2 ?p_1 ?p_2 ?hk ?hf ?ne12
    (case n_T => k_is)
    (case pg_T => k_is)
    (case hd_T => k_is)
    (case po_T => k_is)
    (case sa_T => k_is)
    (case mk_T => k_is)
    (case kc_T => k_is)
    (case n_R => k_is)
    (case pg_R => k_is)
    (case hd_R => k_is)
    (case po_R => k_is)
    (case sa_R => k_is)
    (case mk_R => k_is)
    (case kc_R => k_is)
    (case n_C => k_is)
    (case pg_C => k_is)
    (case hd_C => k_is)
    (case po_C => k_is)
    (case sa_C => k_is)
    (case mk_C => k_is)
    (case kc_C => k_is)
    (case n_tW => k_is)
    (case n_tG => k_is)
    (case n_tU => k_is)
    (case n_rW => k_is)
    (case n_rC => k_is)
    (case n_rA => k_is)
    (case n_cTm => k_is)
    (case n_cB => k_is)
    (case n_cL => k_is)
    (case n_cBar => k_is)
    (case n_cH => k_is)
    (case n_cRs => k_is)
    (case g_gLifts => k_is)
    (case g_gAtt => k_is)
    (case g_gNot => k_is)
    (case g_gGood => k_is)
    (case g_gPass => k_is)
    (case g_gMost => k_is)
    (case g_gTeam => k_is)
    (case g_gHeavy => k_is)
    (case g_gChg => k_is)
    (case g_gBoth => k_is)
    (case z_len => k_is)
    (case z_range => k_is)
    (case z_srt => k_is)
    (case z_list => k_is)
    (case z_all => k_is)
    (case z_any => k_is)
    (case z_max => k_is)
    (case z_enum => k_is)
    (case n_nb => k_is)
    (case l_nb => k_is)
    (case a_team => k_is)
    (case l_team => k_is)
    (case c_team => k_is)
    (case k_team => k_is)
    (case a_weight => k_is)
    (case l_weight => k_is)
    (case c_weight => k_is)
    (case k_weight => k_is)
    (case a_worth => k_is)
    (case l_worth => k_is)
    (case c_worth => k_is)
    (case k_worth => k_is)
    (case a_att0 => k_is)
    (case i_att0 => k_is)
    (case l_att0 => k_is)
    (case c_att0 => k_is)
    (case k_att0 => k_is)
    (case a_asks => k_is)
    (case i_asks => k_is)
    (case l_asks => k_is)
    (case c_asks => k_is)
    (case k_asks => k_is)
    (case a_rec0 => k_is)
    (case i_rec0 => k_is)
    (case l_rec0 => k_is)
    (case c_rec0 => k_is)
    (case k_rec0 => k_is)
    (case a_left => k_is)
    (case i_left => k_is)
    (case l_left => k_is)
    (case c_left => k_is)
    (case k_left => k_is)
    (case a_has => k_is)
    (case i_has => k_is)
    (case l_has => k_is)
    (case c_has => k_is)
    (case k_has => k_is)
    (case a_on => k_is)
    (case i_on => k_is)
    (case l_on => k_is)
    (case c_on => k_is)
    (case k_on => k_is)
    (case a_record => k_is)
    (case i_record => k_is)
    (case l_record => k_is)
    (case c_record => k_is)
    (case k_record => k_is)
    (case a_who => k_is)
    (case i_who => k_is)
    (case l_who => k_is)
    (case c_who => k_is)
    (case k_who => k_is)
    (case a_next => k_is)
    (case i_next => k_is)
    (case l_next => k_is)
    (case c_next => k_is)
    (case k_next => k_is)
    (case a_blank => k_is)
    (case l_blank => k_is)
    (case c_blank => k_is)
    (case k_blank => k_is)
    (case a_renew => k_is)
    (case i_renew => k_is)
    (case l_renew => k_is)
    (case c_renew => k_is)
    (case k_renew => k_is)
    (case a_con0 => k_is)
    (case i_con0 => k_is)
    (case l_con0 => k_is)
    (case c_con0 => k_is)
    (case k_con0 => k_is)
    (case a_stand => k_is)
    (case l_stand => k_is)
    (case c_stand => k_is)
    (case k_stand => k_is)
    (case a_rank => k_is)
    (case l_rank => k_is)
    (case c_rank => k_is)
    (case k_rank => k_is)
    (case a_lio => k_is)
    (case l_lio => k_is)
    (case c_lio => k_is)
    (case k_lio => k_is)
    (case a_up => k_is)
    (case l_up => k_is)
    (case c_up => k_is)
    (case k_up => k_is)
    (case a_order => k_is)
    (case l_order => k_is)
    (case c_order => k_is)
    (case k_order => k_is)
    (case a_begin => k_is)
    (case l_begin => k_is)
    (case c_begin => k_is)
    (case k_begin => k_is)
    (case a_ask => k_is)
    (case l_ask => k_is)
    (case c_ask => k_is)
    (case k_ask => k_is)
    (case a_start => k_is)
    (case l_start => k_is)
    (case c_start => k_is)
    (case k_start => k_is)
    (case a_make => k_is)
    (case l_make => k_is)
    (case c_make => k_is)
    (case k_make => k_is)
    (case a_try => k_is)
    (case l_try => k_is)
    (case c_try => k_is)
    (case k_try => k_is)
    (case a_turn => k_is)
    (case l_turn => k_is)
    (case c_turn => k_is)
    (case k_turn => k_is)
    (case a_rev => k_is)
    (case l_rev => k_is)
    (case c_rev => k_is)
    (case k_rev => k_is)
    (case a_behind => k_is)
    (case l_behind => k_is)
    (case c_behind => k_is)
    (case k_behind => k_is)
    (case a_may => k_is)
    (case l_may => k_is)
    (case c_may => k_is)
    (case k_may => k_is)
    (case a_change => k_is)
    (case l_change => k_is)
    (case c_change => k_is)
    (case k_change => k_is)
    (case a_card => k_is)
    (case l_card => k_is)
    (case c_card => k_is)
    (case k_card => k_is)
    (case a_best => k_is)
    (case l_best => k_is)
    (case c_best => k_is)
    (case k_best => k_is)
    (case a_achL => k_is)
    (case l_achL => k_is)
    (case c_achL => k_is)
    (case k_achL => k_is)
    (case a_achB => k_is)
    (case l_achB => k_is)
    (case c_achB => k_is)
    (case k_achB => k_is)
    (case a_placed => k_is)
    (case l_placed => k_is)
    (case c_placed => k_is)
    (case k_placed => k_is)
    (case a_ranked => k_is)
    (case l_ranked => k_is)
    (case c_ranked => k_is)
    (case k_ranked => k_is)
    (case a_points => k_is)
    (case l_points => k_is)
    (case c_points => k_is)
    (case k_points => k_is)
    (case a_one => k_is)
    (case l_one => k_is)
    (case c_one => k_is)
    (case k_one => k_is)
    (case a_answers => k_is)
    (case l_answers => k_is)
    (case c_answers => k_is)
    (case k_answers => k_is)
    (case x_1 => k_is)
    (case v_1 => rfl)
    (case x_2 => k_is)
    (case v_2 => rfl)
    (case p_1 => first | kernel_rfl | kernel_rfl! | rfl)
    (case p_2 => first | kernel_rfl | kernel_rfl! | rfl)
    (case hk => exact Bc.keys_lit)
    (case hf => exact Bc.find_lit)
    (case ne12 => decide)
