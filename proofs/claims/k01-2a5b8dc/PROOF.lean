import PyProof.Rows.All
import Wide.All
import OpenK.AllK
import Wide.FinOn
import PySem.Challenge.RW_meetrows_k01_sets_of_names
import PyProof.EqAt
import PyProof.EqKinds
import PyProof.TupleCall
import KE.SortKeyHeap
import HandS.Base
import HandS.Call
import HandS.List
import HandS.Set
import HandS.Strs
import HandS.TupSets
import HandS.Words
import HandS.AnyAll
import KE.KNest
import HandS.Comp
import HandS.GenOver
import HandS.SortKw
import HandS.SlotsOwn
import HandS.Dict
import HandS.More
import HandS.Conv
import HandS.DictComp
import HandS.ForMost
import HandS.ForExc
import HandS.Flow
import HandS.IsInst
import HandS.Iter
import HandS.Text
import HandS.FStr
import HandS.HeadHook4
import HandS.HeadWalk
import KE.DatumOrd
import HandS.RaiseMore
import HandS.TryOnly
import HandS.ExcIs
import KE.KxText
import HandS.Style
import HandS.Zip
import HandS.Codes
import HandS.Head0
import HandS.Head1
import HandS.Head2
import HandS.HeadEnd
set_option Elab.async false
set_option linter.all false
set_option maxRecDepth 100000
section
set_option maxHeartbeats 4000000
/-! set(xs) of a list of texts, and what is sorted of it. -/
namespace Sx
open PySem PySem.Spec PyProof.Rows L2

/-! ### each once -/
def once (acc : List Str) (x : Str) : List Str := if x ∈ acc then acc else acc ++ [x]
def dd (xs : List Str) : List Str := xs.foldl once []
theorem once_mem {acc : List Str} {x y : Str} : y ∈ once acc x ↔ y ∈ acc ∨ y = x := by
  unfold once
  split
  · rename_i h
    exact ⟨.inl, fun z => z.elim id fun e => e ▸ h⟩
  · simp
theorem once_nodup {acc : List Str} {x : Str} (h : acc.Nodup) : (once acc x).Nodup := by
  unfold once
  split
  · exact h
  · rename_i hx
    refine List.nodup_append.mpr ⟨h, by simp, fun a ha b hb e => ?_⟩
    have hb : b = x := by simpa using hb
    rw [e, hb] at ha
    exact hx ha
theorem fold_mem : ∀ (xs acc : List Str) (y : Str), y ∈ xs.foldl once acc ↔ y ∈ acc ∨ y ∈ xs
  | [], acc, y => by simp
  | x :: xs, acc, y => by
    rw [List.foldl_cons, fold_mem xs, once_mem, List.mem_cons, or_assoc]
theorem fold_nodup : ∀ (xs acc : List Str), acc.Nodup → (xs.foldl once acc).Nodup
  | [], _, h => h
  | _ :: xs, _, h => fold_nodup xs _ (once_nodup h)
theorem once_len (acc : List Str) (x : Str) : (once acc x).length ≤ acc.length + 1 := by
  unfold once
  split <;> simp
theorem fold_len : ∀ (xs acc : List Str), (xs.foldl once acc).length ≤ acc.length + xs.length
  | [], acc => by simp
  | x :: xs, acc => by
    have h1 := fold_len xs (once acc x)
    have h2 := once_len acc x
    rw [List.foldl_cons, List.length_cons]
    omega
theorem dd_mem {xs : List Str} {y : Str} : y ∈ dd xs ↔ y ∈ xs := by
  unfold dd
  rw [fold_mem]
  simp
theorem dd_nodup (xs : List Str) : (dd xs).Nodup := fold_nodup xs [] List.nodup_nil
theorem dd_len (xs : List Str) : (dd xs).length ≤ xs.length := by
  have h := fold_len xs []
  simpa [dd] using h
theorem dd_id {xs : List Str} (h : xs.Nodup) : dd xs = xs := by
  have gen : ∀ (l acc : List Str), (acc ++ l).Nodup → l.foldl once acc = acc ++ l := by
    intro l
    induction l with
    | nil => intro acc _; simp
    | cons x l ih =>
      intro acc hn
      have hx : x ∉ acc := by
        intro z
        exact (List.nodup_append.mp hn).2.2 x z x List.mem_cons_self rfl
      have e : once acc x = acc ++ [x] := if_neg hx
      rw [List.foldl_cons, e, ih (acc ++ [x]) (by rw [List.append_assoc]; exact hn), List.append_assoc]
      rfl
  exact gen xs [] (by simpa using h)

/-! ### a set of texts, as it stands -/
def kS : Value → Str
  | .str x _ => x
  | _ => Str.empty
def Row (w : World) (e : Int × Value) : Prop := ∃ tk, e.2 = Value.str (kS e.2) tk ∧ e.1 = hashStr w (kS e.2)
/-- at a: a set of just the texts ks -/
def SetS (w : World) (h : Heap) (a : Addr) (ks : List Str) : Prop :=
  ∃ o es ep t, h.get? a = some o ∧ o.ExactSet ∧ o.data = .set es ep t ∧ (∀ e ∈ es.toList, Row w e) ∧ (es.toList.map fun e => kS e.2).Perm ks ∧ ks.Nodup ∧
    es.size < scanBound ∧ t.fits es.size = true ∧ Ris t.place.toList ∧ (w.params.followText "set-order" = true ∨ t.led = true)
section
variable {P : Program} {w : World} {h h' : Heap} {a : Addr} {ks : List Str}
theorem SetS.at (R : SetS w h a ks) (k : ∀ o, h.get? a = some o → h'.get? a = some o) : SetS w h' a ks :=
  let ⟨o, es, ep, t, ho, r⟩ := R
  ⟨o, es, ep, t, k o ho, r⟩
theorem Row.str {e : Int × Value} (g : Row w e) : ∃ x tk, e.2 = Value.str x tk ∧ e.1 = hashStr w x ∧ kS e.2 = x := let ⟨tk, h1, h2⟩ := g; ⟨_, tk, h1, h2, rfl⟩
theorem rows_elems {l : List (Int × Value)} (g : ∀ e ∈ l, Row w e) : ElemsOf (PySem.strKind P w) l := by
  intro e he
  obtain ⟨x, tk, h1, h2, _⟩ := (g e he).str
  exact ⟨⟨x, by rw [h1]; exact strKind_is P w x tk, h2⟩, by rw [h1]; rfl⟩
theorem row_is {e : Int × Value} (g : Row w e) (x : Str) : (PySem.strKind P w).is x e.2 = true ↔ kS e.2 = x := by
  obtain ⟨y, tk, h1, _, h3⟩ := g.str
  rw [h1]
  show Value.isStrOf x (.str y tk) = true ↔ y = x
  simp [Value.isStrOf]
theorem SetS.setOf (R : SetS w h a ks) : h.SetOf (PySem.strKind P w) a (fun x => decide (x ∈ ks)) ks.length := by
  obtain ⟨o, es, ep, t, ho, hx, hd, g, pm, nd, hb, hf, _⟩ := R
  refine ⟨o, es, ep, t, ho, hx, hd, rows_elems g, fun x => ?_, hb, hf, ?_⟩
  · rw [decide_eq_true_eq, ← pm.mem_iff, List.mem_map]
    constructor
    · rintro ⟨e, he, q⟩
      exact ⟨e, he, (row_is (g e he) x).2 q⟩
    · rintro ⟨e, he, q⟩
      exact ⟨e, he, (row_is (g e he) x).1 q⟩
  · rw [← pm.length_eq, List.length_map, Array.length_toList]
end

section
variable {P : Program} {w : World} {A : Around} {E : Value → Shared → Prop} {s : Shared} {a : Addr} {ks : List Str}
theorem put_tail {g : Bool → Sem Unit} (hg : ∀ (b : Bool) (s₁ : Shared) (Q' : Unit → Shared → Prop), Q' () s₁ → wpAny (model P w) A (g b) Q' E s₁)
    {o : Obj} {es es1 : Array (Int × Value)} {ep : Nat} {t t2 : SetTable} {zs : List Str} (h1 : s.heap.get? a = some o) (h2 : o.ExactSet) (h3 : o.data = .set es ep t)
    (g1 : ∀ e ∈ es1.toList, Row w e) (pm1 : (es1.toList.map fun e => kS e.2).Perm zs) (nd1 : zs.Nodup) (hb1 : es1.size < scanBound) (hf2 : t2.fits es1.size = true) (hr2 : Ris t2.place.toList) (hl2 : w.params.followText "set-order" = true ∨ t2.led = true) {wd : Bool} {R : Option Bool → Shared → Prop}
    (hR : ∀ h', Heap.SameBut a s.heap h' → SetS w h' a zs → R (some true) { s with heap := h' }) :
    wpAny (model P w) A (do
        storeSet a es1 t2
        if (!wd && t2.tooFull) = true then do
            g (relayAll t2 es1 (SetTable.grown es1.size)).2.2
            storeSet a (relayAll t2 es1 (SetTable.grown es1.size)).1 (relayAll t2 es1 (SetTable.grown es1.size)).2.1
            pure (some true)
          else pure (some true)) R E s := by
  refine wpAny_bind (wpAny_storeSet_of h1 h3 ?_ (fits_of_scanBound hb1))
  have k1 := store_at (es' := es1) (t' := t2) h1 h3
  have k2 := Heap.SameBut.update s.heap a (Obj.putSet es1 t2)
  by_cases full : (!wd && t2.tooFull) = true
  · rw [if_pos full]
    have pm := relayAll_perm t2 es1 (SetTable.grown es1.size)
    have f3 := relayAll_fits t2 es1 (SetTable.grown es1.size)
    have r3 := relayAll_ris t2 es1 (SetTable.grown es1.size)
    have l3 := relayAll_led t2 es1 (SetTable.grown es1.size)
    generalize relayAll t2 es1 (SetTable.grown es1.size) = Z at pm f3 r3 l3 ⊢
    obtain ⟨es2, t3, gv⟩ := Z
    dsimp only at pm f3 r3 l3 ⊢
    have z2 : es2.size = es1.size := by rw [← Array.length_toList, pm.length_eq, Array.length_toList]
    have b2 : es2.size < scanBound := by rw [z2]; exact hb1
    refine wpAny_bind (hg _ _ _ (wpAny_bind (wpAny_storeSet_of k1 rfl ?_ (fits_of_scanBound b2))))
    have k3 := store_at (es' := es2) (t' := t3) k1 rfl
    refine wpAny_pure (hR _ (k2.trans (Heap.SameBut.update _ a _)) ⟨_, es2, _, t3, k3, h2, rfl, fun e he => g1 e (pm.mem_iff.mp he), (pm.map _).trans pm1, nd1, b2, f3, r3, hl2.imp id fun z => ?_⟩)
    rw [l3]; exact z
  · rw [if_neg full]
    exact wpAny_pure (hR _ k2 ⟨_, es1, _, t2, k1, h2, rfl, g1, pm1, nd1, hb1, hf2, hr2, hl2⟩)

theorem put_hashed {x : Str} {tk : Tok} {Q : Bool → Shared → Prop} (R : SetS w s.heap a ks) (room : ks.length + 1 < scanBound)
    (hQ : ∀ h' b, Heap.SameBut a s.heap h' → SetS w h' a (once ks x) → Q b { s with heap := h' }) :
    wpAny (model P w) A (setAddHashed a (.str x tk) ((PySem.strKind P w).hash x)) Q E s := by
  have R0 := R
  obtain ⟨o, es, ep, t, ho, hex, hd, g, pm0, nd, hb, hf, hr, hl⟩ := R
  have key : (PySem.strKind P w).is x (.str x tk) = true := strKind_is P w x tk
  have sc : (Value.str x tk).scannable = true := rfl
  have el : ElemsOf (PySem.strKind P w) es.toList := rows_elems g
  have zn : es.size = ks.length := by rw [← pm0.length_eq, List.length_map, Array.length_toList]
  unfold setAddHashed setAddHashedIn
  refine wpAny_holding (wpAny_bind (wpAny_setState_of ho hd hf ?_))
  dsimp only
  rw [byScan_of sc hb el]
  simp only [↓reduceIte]
  unfold setAddByScan
  refine wpAny_bind (wpAny_bind (wpAny_rule (wpAny_bind (wpAny_setScan_of key ho hd hf el ?_))))
  cases hfi : List.findIdx? (fun e => (PySem.strKind P w).is x e.2) es.toList with
  | some j =>
    dsimp only
    obtain ⟨hj, pj, _⟩ := List.findIdx?_eq_some_iff_getElem.mp hfi
    have hx : x ∈ ks := pm0.mem_iff.mp (List.mem_map.mpr ⟨es.toList[j], List.getElem_mem hj, (row_is (P := P) (g _ (List.getElem_mem hj)) x).1 pj⟩)
    refine wpAny_pure (wpAny_pure ?_)
    have e1 : once ks x = ks := by unfold once; rw [if_pos hx]
    exact hQ s.heap false (Heap.SameBut.refl a s.heap) (by rw [e1]; exact R0)
  | none =>
    dsimp only
    have hx : x ∉ ks := by
      intro z
      obtain ⟨e, he, q⟩ := List.mem_map.mp (pm0.mem_iff.mpr z)
      have c := List.findIdx?_eq_none_iff.mp hfi e he
      rw [(row_is (P := P) (g e he) x).2 q] at c
      cases c
    have e1 : once ks x = ks ++ [x] := by unfold once; rw [if_neg hx]
    have hgw : ∀ (b : Bool) {s₁ : Shared} {Q' : Unit → Shared → Prop}, Q' () s₁ → wpAny (model P w) A (match b with | true => rule "set.scan.the-table-gave-way" | false => pure ()) Q' E s₁ := by
      intro b s₁ Q' q
      cases b <;> first | exact wpAny_pure q | exact wpAny_rule q
    have p1 := layNew_perm t es ((PySem.strKind P w).hash x) (.str x tk)
    have f1 := layNew_fits t es ((PySem.strKind P w).hash x) (.str x tk)
    have r1 := layNew_ris t es ((PySem.strKind P w).hash x) (.str x tk) hr
    have l1 := layNew_led t es ((PySem.strKind P w).hash x) (.str x tk)
    generalize layNew t es ((PySem.strKind P w).hash x) (.str x tk) = Z at p1 f1 r1 l1 ⊢
    obtain ⟨es1, t1, wd, gv⟩ := Z
    dsimp only at p1 f1 r1 l1 ⊢
    rw [Array.toList_push] at p1
    have g1 : ∀ e ∈ es1.toList, Row w e := by
      intro e he
      rcases List.mem_append.mp (p1.mem_iff.mp he) with z | z
      · exact g e z
      · have z : e = ((PySem.strKind P w).hash x, Value.str x tk) := by simpa using z
        rw [z]
        exact ⟨tk, rfl, rfl⟩
    have pm1 : (es1.toList.map fun e => kS e.2).Perm (ks ++ [x]) := by
      have q := p1.map fun e : Int × Value => kS e.2
      rw [List.map_append] at q
      exact q.trans (pm0.append_right _)
    have nd1 : (ks ++ [x]).Nodup := by
      have q := once_nodup (x := x) nd
      rw [e1] at q
      exact q
    have z1 : es1.size = ks.length + 1 := by
      have q := p1.length_eq
      rw [List.length_append, Array.length_toList, Array.length_toList] at q
      simp at q
      omega
    have b1 : es1.size < scanBound := by rw [z1]; exact room
    have led1 : w.params.followText "set-order" = true ∨ t1.led = true := hl.imp id fun z => by rw [l1]; exact z
    have fin : ∀ h', Heap.SameBut a s.heap h' → SetS w h' a (ks ++ [x]) → Q true { s with heap := h' } := fun h' sb r => hQ h' true sb (by rw [e1]; exact r)
    refine wpAny_bind (hgw _ ?_)
    have hgb : ∀ (b : Bool) (s₁ : Shared) (Q' : Unit → Shared → Prop), Q' () s₁ → wpAny (model P w) A (match b with | true => rule "set.scan.the-table-gave-way" | false => pure ()) Q' E s₁ := fun b s₁ Q' q => hgw b q
    split
    · refine wpAny_bind ?_
      rw [hashByValue_scannable 8 sc]
      refine wpAny_pure ?_
      refine put_tail ?_ ho hex hd g1 pm1 nd1 b1 ?_ ?_ ?_ ?_
      · intro b s₁ Q' q; cases b <;> first | exact wpAny_pure q | exact wpAny_rule q
      · first | (split <;> first | exact f1 | exact SetTable.fits_plain_off f1) | exact f1
      · first | (split <;> exact r1) | exact r1
      · first | (split <;> exact led1) | exact led1
      · intro h' sb r; dsimp only; exact wpAny_pure (fin h' sb r)
    · refine wpAny_bind (wpAny_pure ?_)
      simp only [↓reduceIte]
      refine put_tail ?_ ho hex hd g1 pm1 nd1 b1 f1 r1 led1 ?_
      · intro b s₁ Q' q; cases b <;> first | exact wpAny_pure q | exact wpAny_rule q
      · intro h' sb r; dsimp only; exact wpAny_pure (fin h' sb r)
end

section
variable {P : Program} {w : World} {A : Around}
theorem update_strs {I : Addr} {fp wr : List Addr} {G : Array GenState → Array GenState → Prop} {n : Nat} {Pv : Nat → Value → Prop} {St : Nat → Shared → Prop} {R : Result → Shared → Prop}
    (W : WalksS P w A.in1 I fp wr G n Pv St) (S : Addr) (hSf : S ∉ fp) (xs : List Str) (hn : n = xs.length) (few : xs.length + 1 < scanBound) (val : ∀ i v, Pv i v → ∃ x tk, xs[i]? = some x ∧ v = .str x tk) :
    ∀ (k i : Nat) (s : Shared), n - i = k → i ≤ n → St i s → SetS w s.heap S (dd (xs.take i)) →
      (∀ s', Moved (S :: wr) G s s' → SetS w s'.heap S (dd xs) → R (.ok (.ret .none)) s') → codeAny (model P w) A (.builtin "set.update.loop" ⟨[.ref S, .ref I], []⟩) R s := by
  have nw : S ∉ wr := fun z => hSf (W.sub _ z)
  have more : ∀ b ∈ wr, b ∈ S :: wr := fun b hb => List.mem_cons_of_mem _ hb
  intro k
  induction k with
  | zero =>
    intro i s e1 e2 st hS hR
    obtain rfl : i = n := by omega
    refine codeAny_builtin F.entry_set_update_loop ?_
    rw [Around.under_plainId F.plain_set_update_loop _]
    show wpAny _ A.in1 (pyNext (.ref I) >>= _) _ _ s
    refine wpAny_bind (W.done s _ _ st fun s' mv => ?_)
    have hS' := hS.at (h' := s'.heap) fun o e => mv.heap S o nw e
    rw [hn, List.take_length] at hS'
    exact wpAny_pure (hR s' (mv.mono more) hS')
  | succ k ih =>
    intro i s e1 e2 st hS hR
    have lt : i < n := by omega
    refine codeAny_builtin F.entry_set_update_loop ?_
    rw [Around.under_plainId F.plain_set_update_loop _]
    show wpAny _ A.in1 (pyNext (.ref I) >>= _) _ _ s
    refine wpAny_bind (W.item i s _ _ lt st fun v s' hP st' mv => ?_)
    obtain ⟨x, tk, hx, rfl⟩ := val i v hP
    have hS' := hS.at (h' := s'.heap) fun o e => mv.heap S o nw e
    show wpAny _ A.in1 (holding [Value.str x tk] (setAdd S (.str x tk)) >>= _) _ _ s'
    refine wpAny_bind (wpAny_holding ?_)
    unfold setAdd
    refine wpAny_holding (wpAny_bind ((PySem.strKind P w).pyHash (k := x) (strKind_is P w x tk) ?_))
    have room : (dd (xs.take i)).length + 1 < scanBound := by
      have h1 := dd_len (xs.take i)
      rw [List.length_take] at h1
      omega
    refine put_hashed (s := { s' with toks := s'.toks + 1 }) hS' room fun h' b sb hS2 => ?_
    have e3 : dd (xs.take (i + 1)) = once (dd (xs.take i)) x := by
      unfold dd
      rw [List.take_add_one, hx, List.foldl_append]
      rfl
    rw [← e3] at hS2
    refine wpAny_pure ⟨plainId_quiet F.plain_set_update_loop _, ih (i + 1) _ (by omega) lt (W.frame _ s' _ _ st' (Nat.le_succ _) fun c hc o e => ?_) hS2 fun s'' mv2 hS3 => ?_⟩
    · exact (sb.2 c fun z => hSf (z ▸ hc)).trans e
    · refine hR s'' (Moved.trans W.gtrans ((mv.mono more).then_heap (Nat.le_succ _) fun c o hc e => ?_) mv2) hS3
      exact (sb.2 c fun z => hc (z ▸ List.mem_cons_self)).trans e
end

section
variable {P : Program} {w : World} {A : Around} {E : Value → Shared → Prop} {s : Shared}
abbrev setObj0 (w : World) : Obj := { cls := .type "set", dict := none, data := .set #[] 0 (.fresh 0 0 (!w.params.followText "set-order")) }
theorem setS_fresh {h : Heap} {a : Addr} (e : h.get? a = some (setObj0 w)) : SetS w h a [] := by
  refine ⟨_, #[], 0, _, e, ⟨rfl, rfl, rfl⟩, rfl, fun e he => by simp at he, by simp, List.nodup_nil, by decide, by rfl, List.Pairwise.nil, ?_⟩
  show _ ∨ (!w.params.followText "set-order") = true
  cases w.params.followText "set-order"
  · exact .inr rfl
  · exact .inl rfl
set_option maxHeartbeats 3200000 in
/-- set(l), l a list of the texts xs -/
theorem call_set_strs {l : Addr} {items : Array Value} (xs : List Str) {Q : Value → Shared → Prop} (hh : A.handled = none) (hl : s.heap.IsList l items) (hv : ∀ (i : Nat) (v : Value), items[i]? = some v → ∃ x tk, xs[i]? = some x ∧ v = Value.str x tk) (hz : items.size = xs.length) (few : xs.length + 1 < scanBound)
    (h : ∀ (h' : Heap) (tk : Nat), SetS w h' s.heap.objs.size (dd xs) → (∀ b o, s.heap.get? b = some o → h'.get? b = some o) → Q (.ref s.heap.objs.size) { s with heap := h', toks := tk }) :
    wpAny (model P w) A (call (.type "set") [.ref l]) Q E s := by
  obtain ⟨c, tl, hmro⟩ := F.called_set.mro
  have hmade := F.called_set.made
  have hsub := F.called_set.sub
  refine wpAny_call (codeAny_of_tree ?_)
  show wpAny _ _ (callAny (.type "set") _) _ _ _
  refine wpAny_pure ⟨Code.quiet_builtin _ (by decide +kernel), codeAny_builtin F.entry_type_call ?_⟩
  rw [Around.under_plain (weight_type_call_type "set" [.ref l] []) rfl]
  have h1 := F.called_set.notType
  have h2 := F.called_set.canCreate
  have hct := F.typeCall_set_1 (.ref l)
  repeat (any_goals (first | assumption | wp_step))
  refine codeAny_mono (code_set_led1 (.ref l) (E := E) (Q₁ := fun obj s₁ => obj = .ref s.heap.objs.size ∧ s₁ = { s with heap := s.heap.push (setObj0 w) }) ⟨rfl, rfl⟩) fun r s₁ hr => ?_
  cases r with
  | error e => exact hr
  | ok fl =>
    cases fl with
    | ret obj =>
      obtain ⟨rfl, rfl⟩ := hr
      have hS : (s.heap.push (setObj0 w)).get? s.heap.objs.size = some (setObj0 w) := Heap.get?_push_size _ rfl
      have hT : Shared.TypeIs { s with heap := s.heap.push (setObj0 w) } (.ref s.heap.objs.size) "set" := ⟨_, hS, rfl⟩
      have hli := F.called_set.init.lookup
      have hbi := F.called_set.init.bind (.ref s.heap.objs.size)
      repeat (any_goals (first | assumption | wp_step))
      refine codeAny_mono (codeAny_call_builtin (R := wants (fun r s₂ => r = .none ∧ ∃ h' tk, s₂ = { s with heap := h', toks := tk } ∧ SetS w h' s.heap.objs.size (dd xs) ∧
          (∀ b o, s.heap.get? b = some o → h'.get? b = some o)) E) F.called_set.init.plain F.entry_set_init (check_set_init_1 hT ?_)) fun r₂ s₂ hr₂ => ?_
      · obtain ⟨ol, hol, hcl, nl, hdl⟩ := hl
        obtain ⟨ocls, odict, odata, oslots⟩ := ol
        simp only at hcl hdl
        subst hcl; subst hdl
        have hol' : (s.heap.push (setObj0 w)).get? l = some { cls := .type "list", dict := odict, data := .seq items nl, slots := oslots } := Heap.get?_push_of_some _ hol
        have hsls := F.sub_list_set
        have hslf := F.sub_list_frozenset
        have hne : (Value.type "list" == Value.type "dict") = false := by decide
        have hl1 : (s.heap.push (setObj0 w)).IsList l items := ⟨_, hol', rfl, nl, rfl⟩
        unfold Builtin.«set.__init__» noKeywords Builtin.Frozenset.updateFrom
        generalize hPI : pyIter = PI
        wp_walk
        subst hPI
        refine wpAny_pyIter_list hl1 ?_
        refine wpAny_bind (wpAny_runValue ?_)
        have hlS : l < s.heap.objs.size := Heap.lt_size hol
        have hh3 : A.in1.in1.in1.handled = none := by simp [hh]
        have sz1 : (s.heap.push (setObj0 w)).objs.size = s.heap.objs.size + 1 := Heap.size_push ..
        have hneI : l ≠ (s.heap.push (setObj0 w)).objs.size := by
          rw [sz1]; exact Nat.ne_of_lt (Nat.lt_succ_of_lt hlS)
        have hSf : s.heap.objs.size ∉ [(s.heap.push (setObj0 w)).objs.size, l] := by
          rw [sz1]; simp only [List.mem_cons, List.mem_singleton, List.not_mem_nil, or_false, not_or]
          exact ⟨Nat.ne_of_lt (Nat.lt_succ_self _), Nat.ne_of_gt hlS⟩
        refine update_strs ((Walks.list hh3 _ l hneI items).toS) s.heap.objs.size hSf xs hz few hv (items.size - 0) 0 _ (by omega) (Nat.zero_le _)
          ⟨⟨_, Heap.get?_push_size _ rfl, rfl, rfl⟩, (hl1.push _)⟩ ?hS0 ?hR
        case hS0 =>
          rw [List.take_zero]
          exact setS_fresh (Heap.get?_push_of_some _ hS)
        case hR =>
          intro s' hm hS'
          obtain ⟨h', g', d', tk', os'⟩ := s'
          have eg : g' = s.gens := hm.gens
          have ed : d' = s.drawn := hm.drawn
          have eo : os' = s.os := hm.os
          subst eg; subst ed; subst eo
          show wpAny _ _ _ _ _ _
          refine wpAny_pure ?_
          show wpAny _ _ (ret Value.none) _ _ _
          refine wpAny_pure ⟨rfl, h', tk', rfl, hS', fun b o e => ?_⟩
          have lt := Heap.lt_size e
          refine hm.heap b o ?_ (Heap.get?_push_of_some _ (Heap.get?_push_of_some _ e))
          simp only [List.mem_cons, List.mem_singleton, List.not_mem_nil, or_false, not_or]
          exact ⟨Nat.ne_of_lt lt, by rw [sz1]; exact Nat.ne_of_lt (Nat.lt_succ_of_lt lt)⟩
      · cases r₂ with
        | error e => exact hr₂
        | ok fl₂ =>
          cases fl₂ with
          | ret r =>
            obtain ⟨rfl, h', tk, rfl, hS', hk'⟩ := hr₂
            repeat (any_goals (first | assumption | wp_step))
            exact h _ _ hS' hk'
          | _ => exact hr₂.elim
    | _ => exact hr.elim
end
end Sx
end
section
set_option maxHeartbeats 4000000
/-! sorted(..) of lists of data, of sets of texts. -/
namespace Srx
open PySem PySem.Spec PyProof.Rows L2 Sx
open PySem.W (dataLe dataLt alike AllAlike EachIs)

/-! ### texts in order -/
def leS (a b : Str) : Bool := dataLe false (fun x : Str => PyData.str x) a b
theorem leS_iff {a b : Str} : leS a b = true ↔ a.cps.toList ≤ b.cps.toList := by
  unfold leS
  rw [PySem.W.dataLe_str (fun x : Str => x)]
  exact decide_eq_true_iff
theorem leS_total (a b : Str) : leS a b = true ∨ leS b a = true := by
  rw [leS_iff, leS_iff]
  exact List.le_total _ _
theorem leS_trans {a b c : Str} (h1 : leS a b = true) (h2 : leS b c = true) : leS a c = true := by
  rw [leS_iff] at *
  exact List.le_trans h1 h2
theorem leS_anti {a b : Str} (h1 : leS a b = true) (h2 : leS b a = true) : a = b := by
  rw [leS_iff] at *
  exact PySem.W.str_of_cps (List.le_antisymm h1 h2)
def srt (xs : List Str) : List Str := xs.mergeSort leS
theorem srt_perm (xs : List Str) : (srt xs).Perm xs := List.mergeSort_perm _ _
theorem leS_or (a b : Str) : (leS a b || leS b a) = true := by
  rw [Bool.or_eq_true]
  exact leS_total a b
theorem srt_sorted (xs : List Str) : (srt xs).Pairwise (fun a b => leS a b = true) :=
  List.pairwise_mergeSort (le := leS) (fun _ _ _ h1 h2 => leS_trans h1 h2) leS_or xs
theorem sorted_one {xs ys : List Str} (p : xs.Perm ys) (h1 : xs.Pairwise (fun a b => leS a b = true)) (h2 : ys.Pairwise (fun a b => leS a b = true)) : xs = ys :=
  List.Perm.eq_of_pairwise (fun a b _ _ z1 z2 => leS_anti z1 z2) h1 h2 p
theorem srt_eq {xs ys : List Str} (p : xs.Perm ys) : srt xs = srt ys := sorted_one ((srt_perm xs).trans (p.trans (srt_perm ys).symm)) (srt_sorted xs) (srt_sorted ys)
theorem srt_len (xs : List Str) : (srt xs).length = xs.length := (srt_perm xs).length_eq
theorem srt_mem {xs : List Str} {x : Str} : x ∈ srt xs ↔ x ∈ xs := (srt_perm xs).mem_iff
theorem srt_id {xs : List Str} (h : xs.Pairwise (fun a b => leS a b = true)) : srt xs = xs := sorted_one (srt_perm xs) (srt_sorted xs) h

/-! ### sorted(list) -/
/-- data that Python orders -/
structure Ord {γ : Type} (enc : γ → PyData) : Prop where
  alike : ∀ x y, PySem.W.alike (enc x) (enc y) = true
  kind : (∀ x, ∃ d r, enc x = .tuple (d :: r)) ∨ ∀ x, enc x ≠ .none ∧ ∀ ds, enc x ≠ .tuple ds
  depth : ∀ x, (enc x).depth ≤ 60
theorem Ord.strs : Ord (fun x : Str => PyData.str x) := ⟨fun _ _ => by simp [PySem.W.alike], .inr fun _ => ⟨by simp, by simp⟩, fun _ => by simp [PyData.depth]⟩
theorem Ord.comap {γ δ : Type} {enc : γ → PyData} (o : Ord enc) (f : δ → γ) : Ord fun x => enc (f x) := ⟨fun _ _ => o.alike _ _, o.kind.imp (fun h x => h _) fun h x => h _, fun _ => o.depth _⟩
theorem Ord.sortable {γ : Type} {enc : γ → PyData} (o : Ord enc) (bs : List γ) : PySem.W.Sortable (bs.map enc) := by
  rcases o.kind with h | h
  · exact PySem.W.Sortable.tuples h
  · exact PySem.W.Sortable.others h
theorem each_vals {γ : Type} : ∀ {bs : List (V × γ)} {us : List Value}, Vals (bs.map (·.1)) us → EachIs (fun u b => RelV b.1 u) us bs
  | [], _, .nil => .nil
  | b :: bs, _, .cons r t => .cons r (each_vals t)
theorem vals_each {γ : Type} : ∀ {bs : List (V × γ)} {us : List Value}, EachIs (fun u b => RelV b.1 u) us bs → Vals (bs.map (·.1)) us
  | [], _, .nil => .nil
  | b :: bs, _, .cons r t => .cons r (vals_each t)
theorem each_mem {α β : Type} {R S : α → β → Prop} : ∀ {as : List α} {bs : List β}, EachIs R as bs → (∀ a b, b ∈ bs → R a b → S a b) → EachIs S as bs
  | _, _, .nil, _ => .nil
  | _, _, .cons r t, h => .cons (h _ _ List.mem_cons_self r) (each_mem t fun a b hb => h a b (List.mem_cons_of_mem _ hb))
def rSortedD {γ : Type} (K : PySem.W.Frag) (enc : γ → PyData) : List V → Hp → VK → Prop := fun vs H Q => ∃ (a : Addr) (bs : List (V × γ)), vs = [V.ref a] ∧ SqL K H a (bs.map (·.1)) ∧ (∀ b ∈ bs, Dp K H b.1 (enc b.2)) ∧
  ∀ p, H p = none → Q (.ref p) (upd H p (.lst ((bs.mergeSort (dataLe false fun b => enc b.2)).map (·.1))))
section
variable {X : Cx}
theorem cr_sortedD {γ : Type} {enc : γ → PyData} (o : Ord enc) (hu : X.A.units + 64 < cLine) : CallR X (.builtin "sorted") (rSortedD X.K enc) := by
  intro pins s σ H vs us Q I r h
  obtain ⟨a, bs, rfl, hs, hd, q⟩ := h
  obtain ⟨its, rv, hl, hz⟩ := I.list hs
  rw [Vals.ref1 r]
  have e := each_vals rv
  have er : EachIs (fun u b => ∃ as, PySem.Reads s.heap u (enc b.2) as) its bs := each_mem e fun u b hb rb => Dp.reads I _ b.1 u (hd b hb) rb
  have hbz : bs.length ≤ sizeLine := by simpa using hz
  refine PySem.W.sorted_data (R := fun u b => RelV b.1 u) (enc := fun b : V × γ => enc b.2) hl.isList e er (PySem.W.AllAlike.of fun x y => o.alike _ _) ((o.comap Prod.snd).sortable bs) hbz (fun b _ => by have := o.depth b.2; omega) fun out ho hout => ?_
  obtain ⟨ep, he⟩ := PyProof.Rows.sortedAll_at s.heap its out.toArray
  refine ⟨.ref (s.heap.objs.size + 1), upd H (s.heap.objs.size + 1) (.lst ((bs.mergeSort (dataLe false fun b => enc b.2)).map (·.1))), I.laid (t' := s.toks) (fun _ _ => PyProof.Rows.sortedAll_old) (Nat.le_succ _) ⟨?_, out, ep, vals_each hout, he⟩, rfl, q _ (I.hok.fresh (Nat.le_succ _))⟩
  rw [List.length_map, List.length_mergeSort]
  exact hbz
/-- sorted(xs), texts -/
theorem sortedS_texts {K : PySem.W.Frag} {H : Hp} {a : Addr} {xs : List Str} {Q : VK} (hs : SqL K H a (xs.map V.str)) (q : ∀ p, H p = none → Q (.ref p) (upd H p (.lst ((srt xs).map V.str)))) : rSortedD K (fun x : Str => PyData.str x) [V.ref a] H Q := by
  refine ⟨a, xs.map fun x => (V.str x, x), rfl, ?_, ?_, fun p hp => ?_⟩
  · rw [List.map_map]; exact hs
  · intro b hb
    obtain ⟨x, _, rfl⟩ := List.mem_map.mp hb
    exact .str x
  · have e : ((xs.map fun x => (V.str x, x)).mergeSort (dataLe false fun b => PyData.str b.2)).map (·.1) = (srt xs).map V.str := by
      have e2 : (xs.map fun x => (V.str x, x)).mergeSort (dataLe false fun b => PyData.str b.2) = (srt xs).map fun x => (V.str x, x) := by
        unfold srt
        rw [List.map_mergeSort]
        intro a _ b _
        rfl
      rw [e2, List.map_map]
      rfl
    rw [e]
    exact q p hp

/-! ### sets of texts -/
def SetTx (w : World) (a : Addr) (ks : List Str) : HO := .ext fun h => SetS w h a ks
theorem setTx_new {w : World} {P : Program} {H : Hp} {h : Heap} {a : Addr} {ks : List Str} (R : SetS w h a ks) : ObjOk P w H h a (SetTx w a ks) := by
  have ⟨o, es, ep, t, ho, r⟩ := R
  exact ⟨R, ⟨o, ho⟩, fun h1 h2 p k => p.at k⟩
theorem setTx_get {pins : List (Addr × Obj)} {σ : L2.St} {H : Hp} {s : Shared} {a : Addr} {ks : List Str} (I : Inv X pins σ H s) (ha : H a = some (SetTx X.w a ks)) : SetS X.w s.heap a ks := (I.hok a _ ha).1
def rSetTx (K : PySem.W.Frag) (w : World) : List V → Hp → VK → Prop := fun vs H Q => ∃ (l : Addr) (xs : List Str), vs = [V.ref l] ∧ SqL K H l (xs.map V.str) ∧ xs.length ≤ 1000 ∧ ∀ p, H p = none → Q (.ref p) (upd H p (SetTx w p (dd xs)))
theorem cr_setTx (hc : X.calm = true) : CallR X (.type "set") (rSetTx X.K X.w) := by
  intro pins s σ H vs us Q I r h
  obtain ⟨l, xs, rfl, hs, few, q⟩ := h
  rw [Vals.ref1 r]
  obtain ⟨its, rv, pl, hz⟩ := I.list hs
  have hlen : its.toArray.size = xs.length := by rw [List.size_toArray, ← rv.length, List.length_map]
  have hv : ∀ (i : Nat) (v : Value), its.toArray[i]? = some v → ∃ x tk, xs[i]? = some x ∧ v = Value.str x tk := by
    intro i v e
    have e : its[i]? = some v := by simpa using e
    have lt : i < xs.length := by
      have := (List.getElem?_eq_some_iff.mp e).1
      have h2 := rv.length
      rw [List.length_map] at h2
      omega
    have g : (xs.map V.str)[i]? = some (.str xs[i]) := by rw [List.getElem?_map, List.getElem?_eq_getElem lt]; rfl
    obtain ⟨u, e2, tk, e3⟩ := rv.get g
    rw [e] at e2
    cases e2
    exact ⟨xs[i], tk, List.getElem?_eq_getElem lt, e3⟩
  refine call_set_strs (P := X.prog) (w := X.w) xs (I.ok.hd hc) pl.isList hv hlen (by unfold scanBound; omega) fun h' tk R k => ?_
  exact ⟨.ref s.heap.objs.size, upd H s.heap.objs.size (SetTx X.w s.heap.objs.size (dd xs)), I.laid (t' := tk) k (Nat.le_refl _) (setTx_new R), rfl, q _ (I.hok.fresh (Nat.le_refl _))⟩
def rSortedTx (w : World) : List V → Hp → VK → Prop := fun vs H Q => ∃ (a : Addr) (ks : List Str), vs = [V.ref a] ∧ H a = some (SetTx w a ks) ∧ ∀ p, H p = none → Q (.ref p) (upd H p (.lst ((srt ks).map V.str)))
theorem strs_out : ∀ {us : List Value} {xs : List Str}, EachIs (fun u x => ∃ tk, u = Value.str x tk) us xs → Vals (xs.map V.str) us
  | _, _, .nil => .nil
  | _, _, .cons r t => .cons r (strs_out t)
theorem cr_sortedTx (hc : X.calm = true) (hu : X.A.units + 64 < cLine) : CallR X (.builtin "sorted") (rSortedTx X.w) := by
  intro pins s σ H vs us Q I r h
  obtain ⟨a, ks, rfl, ha, q⟩ := h
  rw [Vals.ref1 r]
  obtain ⟨o, es, ep, t, ho, hex, hd, g, pm0, nd, hb, hf, hr, hl⟩ := setTx_get I ha
  refine Calls.call_function_entry kind_sorted plain_sorted entry_sorted (args_sorted1 _) ?_
  unfold Builtin.«sorted»
  refine wpAny_bind (m := checkCount "sorted" 1 1 _) (wpAny_pure ?_)
  refine wpAny_bind (collect_set (A := X.A.in1) (I.ok.hd hc) ⟨o, ho, hex.1, hd⟩ hf hb hr hl fun s1 zs k1 hz g1 o1 pm => ?_)
  have hS : ∀ z ∈ zs, ∃ x tk, z = Value.str x tk := by
    intro z hz
    obtain ⟨e, he, q⟩ := List.mem_map.mp (pm.mem_iff.mp hz)
    obtain ⟨x, tk, h1, _⟩ := (g e he).str
    exact ⟨x, tk, by rw [← q]; exact h1⟩
  have gen : ∀ l : List Value, (∀ z ∈ l, ∃ x tk, z = Value.str x tk) → EachIs (fun u x => ∃ tk, u = Value.str x tk) l (l.map kS) := by
    intro l
    induction l with
    | nil => intro _; exact .nil
    | cons z l ih =>
      intro h
      obtain ⟨x, tk, rfl⟩ := h z List.mem_cons_self
      exact .cons ⟨tk, rfl⟩ (ih fun y hy => h y (List.mem_cons_of_mem _ hy))
  have e := gen zs hS
  have hzl : zs.length < 5000 := by
    rw [pm.length_eq, List.length_map, Array.length_toList]
    unfold scanBound at hb
    omega
  have hzs : zs.length ≤ sizeLine := by rw [sizeLine_eq]; omega
  refine wpAny_bind (wpAny_newList ?_ hzs)
  have hoL : (s1.heap.push (seqObj "list" zs.toArray 0)).get? s1.heap.objs.size = some (seqObj "list" zs.toArray 0) := Heap.get?_push_size _ rfl
  have er : EachIs (fun u x => ∃ as, PySem.Reads (s1.heap.push (seqObj "list" zs.toArray 0)) u (PyData.str x) as ∧ s1.heap.objs.size ∉ as) zs (zs.map kS) := e.mono fun u x ⟨tk, h⟩ => ⟨[], by rw [h]; exact .str x tk, by simp⟩
  refine wpAny_bind (wpAny_holding (PySem.W.list_sort_data (s := { s1 with heap := s1.heap.push (seqObj "list" zs.toArray 0) }) (R := fun u x => ∃ tk, u = Value.str x tk) (enc := fun x : Str => PyData.str x) hoL e er (PySem.W.AllAlike.of fun x y => Ord.strs.alike _ _) (Ord.strs.sortable _) (by rw [List.length_map]; exact hzs) (fun x _ => by have := Ord.strs.depth x; show X.A.units + 1 + 1 + _ < _; omega) fun out hlen hout => ?_))
  obtain ⟨c2, hc2⟩ := sortedHeap_at (vs := zs) (out := out.toArray) hoL
  have hE : (zs.map kS).mergeSort (dataLe false fun x : Str => PyData.str x) = srt ks := by
    show srt (zs.map kS) = srt ks
    refine srt_eq ?_
    have p2 := pm.map kS
    rw [List.map_map] at p2
    exact p2.trans pm0
  rw [hE] at hout
  have hn : H s1.heap.objs.size = none := I.hok.fresh hz
  have hlen2 : ((srt ks).map V.str).length ≤ sizeLine := by
    have h1 := hout.length
    rw [List.length_map] at hlen ⊢
    omega
  have keep : ∀ b u, s.heap.get? b = some u → (sortedHeap (s1.heap.push (seqObj "list" zs.toArray 0)) s1.heap.objs.size zs out.toArray).get? b = some u := by
    intro b u e
    have q1 := k1 b u e
    have lt := Heap.lt_size q1
    rw [sortedHeap_old (Nat.ne_of_lt lt) (by rw [size_push']; exact Nat.lt_succ_of_lt lt)]
    exact Heap.get?_push_of_some _ q1
  refine wpAny_pure ⟨.ref s1.heap.objs.size, rfl, ?_⟩
  refine ⟨.ref s1.heap.objs.size, upd H s1.heap.objs.size (.lst ((srt ks).map V.str)), ?_, rfl, q _ hn⟩
  have J := I.call (g' := s1.gens) (t' := s1.toks) (d' := s1.drawn) (ch := []) (Un.laid (o := .lst ((srt ks).map V.str)) keep hz hn) (I.hok.laid keep hz ⟨hlen2, out, c2, strs_out hout, hc2⟩) (by rw [g1]; exact I.bare) (fun _ z => nomatch z)
  rw [← o1] at J
  exact J
end
end Srx
end
section
set_option maxHeartbeats 4000000
/-! heaps that grow: all stands, but that the defs' tables of code may have grown -/
namespace Gr
open PySem PySem.Spec PyProof.Rows L2 GxR
def NoTbl (o : HO) : Prop := ∀ ps, o ≠ .tbl ps
/-- H' holds what H holds; tables may have grown -/
structure Gr (H H' : Hp) : Prop where
  at_ : ∀ b o, H b = some o → NoTbl o → H' b = some o
  tab : ∀ b ps, H b = some (.tbl ps) → ∃ ps', H' b = some (.tbl ps') ∧ (TriplesOk ps.toList → TriplesOk ps'.toList)
theorem Gr.refl (H : Hp) : Gr H H := ⟨fun _ _ e _ => e, fun _ ps e => ⟨ps, e, fun h => h⟩⟩
theorem Gr.trans {H H1 H2 : Hp} (a : Gr H H1) (b : Gr H1 H2) : Gr H H2 :=
  ⟨fun c o e n => b.at_ c o (a.at_ c o e n) n, fun c ps e => by
    obtain ⟨p1, e1, k1⟩ := a.tab c ps e
    obtain ⟨p2, e2, k2⟩ := b.tab c p1 e1
    exact ⟨p2, e2, fun h => k2 (k1 h)⟩⟩
theorem notbl_lst {xs : List V} : NoTbl (.lst xs) := fun _ e => nomatch e
theorem notbl_tup {xs : List V} : NoTbl (.tup xs) := fun _ e => nomatch e
theorem notbl_frz {o : Obj} {u : HO} : NoTbl (.frz o u) := fun _ e => nomatch e
theorem Gr.lst {H H' : Hp} (g : Gr H H') {a : Addr} {xs : List V} (e : H a = some (.lst xs)) : H' a = some (.lst xs) := g.at_ a _ e notbl_lst
theorem Gr.tup {H H' : Hp} (g : Gr H H') {a : Addr} {xs : List V} (e : H a = some (.tup xs)) : H' a = some (.tup xs) := g.at_ a _ e notbl_tup
theorem Gr.seq {K : PySem.W.Frag} {H H' : Hp} {a : Addr} {xs : List V} (g : Gr H H') (h : SqL K H a xs) : SqL K H' a xs := by
  rcases h with (h | ⟨o, h⟩) | h
  · exact .inl (.inl (g.lst h))
  · exact .inl (.inr ⟨o, g.at_ _ _ h notbl_frz⟩)
  · exact .inr h
theorem Gr.seqT {K : PySem.W.Frag} {H H' : Hp} {a : Addr} {xs : List V} (g : Gr H H') (h : SqT K H a xs) : SqT K H' a xs := by
  rcases h with (h | ⟨o, h⟩) | h
  · exact .inl (.inl (g.tup h))
  · exact .inl (.inr ⟨o, g.at_ _ _ h notbl_frz⟩)
  · exact .inr h
theorem Gr.some {H H' : Hp} (g : Gr H H') {b : Addr} {o : HO} (e : H b = some o) : ∃ o', H' b = some o' := by
  by_cases h : ∃ ps, o = .tbl ps
  · obtain ⟨ps, rfl⟩ := h
    obtain ⟨p1, e1, _⟩ := g.tab b ps e
    exact ⟨_, e1⟩
  · exact ⟨o, g.at_ b o e fun ps z => h ⟨ps, z⟩⟩
theorem Gr.free {H H' : Hp} (g : Gr H H') {b : Addr} (e : H' b = none) : H b = none := by
  cases q : H b with
  | none => rfl
  | some o =>
    obtain ⟨o', z⟩ := g.some q
    rw [e] at z
    cases z
theorem Gr.new {H : Hp} {p : Addr} {o : HO} (h : H p = none) : Gr H (upd H p o) :=
  ⟨fun b u e _ => by rw [upd_ne (ne_of_none e h)]; exact e, fun b ps e => ⟨ps, by rw [upd_ne (ne_of_none e h)]; exact e, fun h => h⟩⟩
/-- what is younger may change -/
theorem Gr.mut {H H' : Hp} {p : Addr} {o : HO} (g : Gr H H') (h : H p = none) : Gr H (upd H' p o) :=
  ⟨fun b u e n => by rw [upd_ne (ne_of_none e h)]; exact g.at_ b u e n, fun b ps e => by
    obtain ⟨p1, e1, k1⟩ := g.tab b ps e
    exact ⟨p1, by rw [upd_ne (ne_of_none e h)]; exact e1, k1⟩⟩
theorem Gr.same {H H' : Hp} (s : Same H H') : Gr H H' := ⟨fun b o e _ => s b o e, fun b ps e => ⟨ps, s _ _ e, fun h => h⟩⟩
theorem Gr.tabbed {H H' : Hp} {P : Addr} (hP : TabG H P) (t : Tabbed P H H') : Gr H H' := by
  obtain ⟨ps, e0, _⟩ := hP
  obtain ⟨⟨ps', e1, k1⟩, rest⟩ := t
  refine ⟨fun b o e n => ?_, fun b qs e => ?_⟩
  · have hb : b ≠ P := by
      intro z
      rw [z, e0] at e
      exact n ps (Option.some.inj e).symm
    rw [rest b hb]; exact e
  · by_cases hb : b = P
    · subst hb
      exact ⟨ps', e1, fun _ => k1⟩
    · exact ⟨qs, by rw [rest b hb]; exact e, fun h => h⟩
theorem Gr.tabG {H H' : Hp} (g : Gr H H') {P : Addr} (h : TabG H P) : TabG H' P := by
  obtain ⟨ps, e, k⟩ := h
  obtain ⟨p1, e1, k1⟩ := g.tab P ps e
  exact ⟨p1, e1, k1 k⟩
mutual
theorem dp_gr {K : PySem.W.Frag} {H H' : Hp} (g : Gr H H') : ∀ (d : PyData) (v : V), Dp K H v d → Dp K H' v d
  | .none, v, h => by cases h; exact .non
  | .bool b, v, h => by cases h; exact .bl b
  | .int i, v, h => by cases h; exact .int i
  | .str x, v, h => by cases h; exact .str x
  | .list ds, v, h => by
    cases h with
    | lst hs ha => exact .lst (g.seq hs) (dpAll_gr g ds _ ha)
  | .tuple ds, v, h => by
    cases h with
    | tup hs ha => exact .tup (g.seqT hs) (dpAll_gr g ds _ ha)
  | .dict _, v, h => by cases h
theorem dpAll_gr {K : PySem.W.Frag} {H H' : Hp} (g : Gr H H') : ∀ (ds : List PyData) (vs : List V), DpAll K H vs ds → DpAll K H' vs ds
  | [], vs, h => by cases h; exact .nil
  | d :: ds, vs, h => by
    cases h with
    | cons h1 h2 => exact .cons (dp_gr g d _ h1) (dpAll_gr g ds _ h2)
end
theorem Gr.dp {K : PySem.W.Frag} {H H' : Hp} (g : Gr H H') {d : PyData} {v : V} (h : Dp K H v d) : Dp K H' v d := dp_gr g d v h
end Gr
end
section
set_option maxHeartbeats 4000000
/-! any(..), all(..) of a generator expression over whatever PI walks; its element is read in a frame of its own and may call defs. -/
namespace Gx
open PySem PySem.Spec PyProof.Rows L2 GxR

section
variable {prog : Program} {w : World} {A : Around} {R : Result → Shared → Prop} {I : Addr}
/-- the turn of a quantifier's loop; stp: the truth that ends it -/
def Turned (R : Result → Shared → Prop) (stp : Bool) (W : Nat → Shared → Prop) (n : Nat) (r : Option Value) (s' : Shared) : Prop :=
  match r with
  | none => R (.ok (.ret (.bool (!stp)))) s'
  | some v => ∃ b, v = .bool b ∧ (b = stp → R (.ok (.ret (.bool stp))) s') ∧ (b ≠ stp → ∃ m, m < n ∧ W m s')
theorem loop_any (W : Nat → Shared → Prop) (step : ∀ n s, W n s → wpAny (model prog w) A.in1 (pyNext (.ref I)) (Turned R true W n) (fun _ _ => False) s) :
    ∀ n s, W n s → codeAny (model prog w) A (.builtin "any.loop" ⟨[.ref I], []⟩) R s := by
  intro n
  induction n using Nat.strongRecOn with
  | ind n ih =>
    intro s hW
    refine codeAny_builtin F.entry_any_loop ?_
    rw [Around.under_plainId F.plain_any_loop _]
    show wpAny _ A.in1 (pyNext (.ref I) >>= _) _ _ s
    refine wpAny_bind (wpAny_mono (step n s hW) (fun r s' hr => ?_) fun _ _ z => z.elim)
    cases r with
    | none => exact wpAny_bind (wpAny_rule (wpAny_pure hr))
    | some v =>
      obtain ⟨b, rfl, h1, h2⟩ := hr
      refine wpAny_bind (wpAny_holding (wpAny_truthy_bool ?_))
      refine wpAny_bind (wpAny_letGo ?_)
      cases b with
      | true => exact wpAny_bind (wpAny_rule (wpAny_pure (h1 rfl)))
      | false =>
        obtain ⟨m, hm, q⟩ := h2 Bool.false_ne_true
        exact wpAny_pure ⟨plainId_quiet F.plain_any_loop _, ih m hm _ q⟩
theorem loop_all (W : Nat → Shared → Prop) (step : ∀ n s, W n s → wpAny (model prog w) A.in1 (pyNext (.ref I)) (Turned R false W n) (fun _ _ => False) s) :
    ∀ n s, W n s → codeAny (model prog w) A (.builtin "all.loop" ⟨[.ref I], []⟩) R s := by
  intro n
  induction n using Nat.strongRecOn with
  | ind n ih =>
    intro s hW
    refine codeAny_builtin F.entry_all_loop ?_
    rw [Around.under_plainId F.plain_all_loop _]
    show wpAny _ A.in1 (pyNext (.ref I) >>= _) _ _ s
    refine wpAny_bind (wpAny_mono (step n s hW) (fun r s' hr => ?_) fun _ _ z => z.elim)
    cases r with
    | none => exact wpAny_bind (wpAny_rule (wpAny_pure hr))
    | some v =>
      obtain ⟨b, rfl, h1, h2⟩ := hr
      refine wpAny_bind (wpAny_holding (wpAny_truthy_bool ?_))
      refine wpAny_bind (wpAny_letGo ?_)
      cases b with
      | false => exact wpAny_bind (wpAny_rule (wpAny_pure (h1 rfl)))
      | true =>
        obtain ⟨m, hm, q⟩ := h2 (fun z => Bool.false_ne_true z.symm)
        exact wpAny_pure ⟨plainId_quiet F.plain_all_loop _, ih m hm _ q⟩
end

/-! ### the frame of the generator expression -/
abbrev gx (X : Cx) (Ag : Around) (s : Shared) (H : Hp) (cenv : Env) (fp : List Addr) (pn : List (Addr × Obj)) : Cx :=
  { X with A := Ag.deeper cenv, s_0 := s, H_0 := H, env := cenv, outer := X.stack, stack := cenv :: X.stack, ex := fp, fn := fun _ => false, pn := pn, xe := fun _ _ => False }
abbrev gEnv (scope : Scope) (X : Cx) (C : Addr) (code : Value) : Env := genEnv scope (cloFrom X.env.cells scope.names []) C code builtinsNs X.env
section
variable {X : Cx} {pins : List (Addr × Obj)} {σ : L2.St} {H : Hp} {s : Shared}
theorem gx_start {scope : Scope} {own : List (Str × Nat)} {fp : List Addr} {Ag : Around} {code : Value} {a : Addr} {go : Obj} {m0 : Str → Option Value} {h5 : Heap} {g5 : Array GenState} {t5 : Nat}
    (I : Inv X pins σ H s) (ok : BlkOk X.N X.env.scope scope own) (nocell : ∀ y ∈ scope.names, y.2 ≠ NameKind.cell) (hN : X.N.Nodup) (hAf : Ag.frames = X.A.frames) (hAh : Ag.handled = X.A.handled)
    (hfp : ∀ b ∈ fp, FpOk X pins H b ∧ b < s.heap.objs.size) (kp : ∀ b o, s.heap.get? b = some o → h5.get? b = some o) (hns : h5.Ns s.heap.objs.size m0) (hg : AllBare g5)
    (ha : h5.get? a = some go) (haz : s.heap.objs.size < a) (hgo : ∀ v, go.data ≠ .cell v) :
    Inv (gx X Ag s H (gEnv scope X s.heap.objs.size code) fp [(a, go)]) [] (wipe σ (own.map (·.2))) H { s with heap := h5, gens := g5, toks := t5 } := by
  have hfree : ∀ y ∈ scope.names, y.2 = .free → ∃ c, X.env.cells.lookup y.1 = some c := by
    intro y hy e
    rcases ok.free y hy e with k | k
    · exact I.ok.has _ (.inl k)
    · exact I.ok.has _ (.inr k)
  generalize hcenv : gEnv scope X s.heap.objs.size code = cenv
  have hL : cenv.locals = s.heap.objs.size := by subst hcenv; rfl
  have hcl : cenv.cells = cloFrom X.env.cells scope.names [] := by subst hcenv; rfl
  have hsc : cenv.scope = scope := by subst hcenv; rfl
  have mem : ∀ {y c}, cenv.cells.lookup y = some c → X.env.cells.lookup y = some c ∧ c < s.heap.objs.size := by
    intro y c e
    rw [hcl] at e
    rcases cloFrom_mem (PySem.mem_of_lookup e) with hm | ⟨h1, h2⟩
    · cases hm
    · subst h2
      obtain ⟨c', hc⟩ := hfree _ h1 rfl
      rw [hc]
      obtain ⟨v, z⟩ := I.cell _ _ hc
      exact ⟨rfl, z.lt⟩
  have look : ∀ {y}, scope.names.lookup y = some NameKind.free → ∃ c, cenv.cells.lookup y = some c ∧ X.env.cells.lookup y = some c := by
    intro y hl
    obtain ⟨c', e'⟩ := mem_lookup (cloFrom_has (cells := X.env.cells) (acc := []) (PySem.mem_of_lookup hl))
    rw [← hcl] at e'
    exact ⟨c', e', (mem e').1⟩
  have nokc : ∀ {y}, scope.names.lookup y ≠ some NameKind.cell := fun {y} e => nocell _ (PySem.mem_of_lookup e) rfl
  have okG : (gx X Ag s H cenv fp [(a, go)]).Ok := by
    refine ⟨I.ok.mod, ?_, ?_, ?_, ?_, ?_, ?_, fun _ _ z => (Bool.false_ne_true z).elim, ?_, ?_, .inr ⟨rfl, ?_⟩, ?_, I.bs, Nat.le_trans I.ok.bsz I.sz, ?_, ?_, I.stack, I.stkFree⟩
    · show cenv.scope.kind = _
      rw [hsc]; exact ok.kind
    · show cenv.globals = _
      subst hcenv; exact I.ok.glob
    · show cenv.builtins = _
      subst hcenv; rfl
    · show s.heap.objs.size ≤ cenv.locals
      rw [hL]; exact Nat.le_refl _
    · exact fun y z c e1 e2 => I.ok.inj y z c (mem e1).1 (mem e2).1
    · intro y hy
      have k : cenv.kindOf y = some .free := by
        rcases hy with k | k
        · have k2 : cenv.scope.names.lookup y = some .cell := k
          rw [hsc] at k2
          exact (nokc k2).elim
        · exact k
      have k2 : cenv.scope.names.lookup y = some .free := k
      rw [hsc] at k2
      obtain ⟨c, h1, _⟩ := look k2
      exact ⟨c, h1⟩
    · intro hc
      show Ag.handled = none
      rw [hAh]; exact I.ok.hd hc
    · show Ag.frames.map (cenv :: ·) = some (cenv :: X.stack)
      rw [hAf, I.ok.frames]; rfl
    · show cenv.frame = some cenv.locals
      subst hcenv; rfl
    · intro b hb
      refine ⟨?_, fun y c e z => (hfp b hb).1.2.2.2.2.1 y c (mem e).1 z⟩
      show b ≠ cenv.locals
      rw [hL]; exact Nat.ne_of_lt (hfp b hb).2
    · intro b o e hb
      rcases (hfp b hb).1.2.2.2.1 with z | z
      · exact I.ok.noex b o e z
      · exact absurd (Nat.lt_of_lt_of_le (Heap.lt_size e) (Nat.le_trans I.ok.bsz z)) (Nat.lt_irrefl _)
    · intro b hb z
      rcases List.mem_cons.mp (I.stkSub b z) with z | z
      · exact (hfp b hb).1.2.1 z
      · exact (hfp b hb).1.2.2.1 z
  refine ⟨okG, rfl, hg, Un.kept kp, ⟨m0, ?_, ?_⟩, ?_, ?_, fun y c e => I.freeC y c (mem e).1, ?_, I.hok.kept kp, by rw [wipe_length]; exact I.len⟩
  · show h5.Ns cenv.locals m0
    rw [hL]; exact hns
  · intro i y av e1 e2 e3
    obtain ⟨e2, hne⟩ := wipe_some e2
    have e3 : Vis cenv.scope y := e3
    rw [hsc] at e3
    have hfr : scope.names.lookup y = some .free := by
      have no : ∀ k', scope.names.lookup y = some k' → ¬ (k' = .local ∨ k' = .cell) := by
        intro k' e hh
        rcases ok.own _ (PySem.mem_of_lookup e) hh with e' | e'
        · obtain ⟨p, hp, hpy⟩ := List.mem_map.mp e'
          have e4 := ok.ix p hp
          have hpy : p.1 = y := hpy
          rw [hpy] at e4
          exact hne (List.mem_map.mpr ⟨p, hp, nodup_ix hN e4 e1⟩)
        · exact e' (List.mem_of_getElem? e1)
      rcases e3 with e3 | e3 | e3
      · exact (no _ e3 (.inl rfl)).elim
      · exact (no _ e3 (.inr rfl)).elim
      · exact e3
    have hkf : cenv.kindOf y = some .free := by
      show cenv.scope.names.lookup y = _
      rw [hsc]; exact hfr
    obtain ⟨m, hn, hl⟩ := I.loc
    have hvis : Vis X.env.scope y := (ok.free _ (PySem.mem_of_lookup hfr) rfl).elim (fun k => .inr (.inl k)) fun k => .inr (.inr k)
    obtain ⟨u, r, q⟩ := hl i y av e1 e2 hvis
    refine ⟨u, r, .inr ⟨.inr hkf, ?_⟩⟩
    obtain ⟨c, h1, h2⟩ := look hfr
    rcases q with ⟨k, _⟩ | ⟨_, c', e', z⟩
    · have k : X.env.scope.names.lookup y = some .local := k
      rcases ok.free _ (PySem.mem_of_lookup hfr) rfl with k' | k'
      · exact absurd (k.symm.trans k') (by simp)
      · exact absurd (k.symm.trans k') (by simp)
    · rw [h2] at e'; cases e'
      exact ⟨c, h1, z.keeps kp⟩
  · intro y c e
    obtain ⟨v, z⟩ := I.cell y c (mem e).1
    exact ⟨v, z.keeps kp⟩
  · show H cenv.locals = none
    rw [hL]; exact I.hok.fresh (Nat.le_refl _)
  · intro p hp
    have e : p = (a, go) := by simpa using hp
    subst e
    have hn : H a = none := I.hok.fresh (Nat.le_of_lt haz)
    refine ⟨ha, hn, ?_, ?_, hgo⟩
    · show a ≠ cenv.locals
      rw [hL]; exact Nat.ne_of_gt haz
    · intro hb
      have hb : a ∈ frs X.stack := hb
      rcases List.mem_cons.mp (I.stkSub a hb) with z | z
      · have h1 := I.lt
        rw [← z] at h1
        exact absurd (Nat.lt_trans haz h1) (Nat.lt_irrefl _)
      · exact I.nofs (Nat.le_of_lt haz) z
end
/-! ### the reading -/
/-- any (stp = true), all (stp = false) of elt for tg in iter if ..: W by the turn and a measure; behind it the def's table may have grown -/
def tGx (P : Addr) (stp : Bool) (wi : TI) (g : TG) (tt : TT) (te : TE) (vs : List Nat) : TE := fun σ H Q => wi σ H fun J H1 => TabG H1 P ∧ ∀ H2, Tabbed P H1 H2 → ∃ W : Nat → Nat → Hp → Prop, (∃ m, W 0 m H2) ∧ ∀ i m H, W i m H →
  (J.stop i H ∧ Q (.bl (!stp)) H) ∨ (J.go i H ∧ ∀ x H', J.yld i H x H' → g x (wipe σ vs) H' fun σ2 H3 => wipe σ2 vs = wipe σ vs ∧ tt σ2 H3 fun c H4 =>
    if c = true then te σ2 H4 fun y H5 => ∃ b, y = .bl b ∧ (b = stp → Q (.bl stp) H5) ∧ (b ≠ stp → ∃ m', m' < m ∧ W (i + 1) m' H5) else ∃ m', m' < m ∧ W (i + 1) m' H4)
/-- sleeping states that the consumer may wake: nothing but the generators' table and the tokens differ -/
structure Like (s s' : Shared) : Prop where
  heap : s'.heap = s.heap
  os : s'.os = s.os
  drawn : s'.drawn = s.drawn
  bare : AllBare s'.gens
  gsz : s.gens.size ≤ s'.gens.size
section
variable {X : Cx}
theorem like_inv {pins : List (Addr × Obj)} {σ : L2.St} {H : Hp} {s s' : Shared} (I : Inv X pins σ H s) (z : Like s s') : Inv X pins σ H s' := by
  obtain ⟨h', g', d', t', o'⟩ := s'
  obtain ⟨z1, z2, z3, z4, _⟩ := z
  have z1 : h' = s.heap := z1
  have z2 : o' = s.os := z2
  have z3 : d' = s.drawn := z3
  subst z1 z2 z3
  exact ⟨I.ok, I.os, z4, I.base, I.loc, I.cell, I.free, I.freeC, I.pin, I.hok, I.len⟩
/-- what is handed out; kap: how it goes on -/
def GxY (X : Cx) (fp : List Addr) (tn : Nat → Heap → Prop) (σw : L2.St) (g : Nat) (stp : Bool) (Q : VK) (W : Nat → Nat → Hp → Prop) : Protocol := fun _ _ v s kap =>
  ∃ b H', v = .bool b ∧ Inv X [] σw H' s ∧ g < s.gens.size ∧ (b = stp → Q (.bl stp) H') ∧ (b ≠ stp → ∀ s', Like s s' → kap (.send .none) s')
def GxP (X : Cx) (σw : L2.St) (g : Nat) (stp : Bool) (Q : VK) (s : Shared) : Prop := ∃ H', Inv X [] σw H' s ∧ g < s.gens.size ∧ Q (.bl (!stp)) H'
abbrev GxR' (X : Cx) (σw : L2.St) (g : Nat) (stp : Bool) (Q : VK) : GenEnd := fun _ _ r s => r = .ok .next ∧ GxP X σw g stp Q s

theorem seg_bindw {M : Model} {A : Around} {R : GenEnd} {Y : Protocol} {n : Nat} {s₀ : Shared} {c : Code} {fs : List Frame} {s : Shared} {α β : Type} {m : Sem α} {K : α → Sem β} {K' : β → Sem PySem.Fin} {H' : Value → Sem PySem.Fin} {gd lv} {N : Nat} (hN : N ≤ s.gens.size)
    (h : wpAny M (A.over c fs) m (fun a s' => N ≤ s'.gens.size → Seg M A R Y n s₀ c ((K a).wrap K' H' gd lv) fs s') (fun _ _ => False) s) :
    Seg M A R Y n s₀ c ((m >>= K).wrap K' H' gd lv) fs s := by
  refine seg_bind_wrap ?_
  refine GenW.wpAny_gsz hN ?_
  exact wpAny_mono h (fun _ _ q => q) fun _ _ z => z.elim

variable {Ag : Around} {fp : List Addr} {tn : Nat → Heap → Prop} {σw : L2.St} {g : Nat} {stp : Bool} {Q : VK} {W : Nat → Nat → Hp → Prop} {J : It} {it : Addr} {elt tg iter : Expr} {ifs : List Expr} {scope : Scope} {pos : Pos} {gt : TG} {tt : TT} {te : TE} {vs : List Nat}
theorem over_gx {cenv : Env} : Ag.over (.compLoop (.GeneratorExp elt [⟨tg, iter, ifs, 0⟩] scope pos) 0 (.ref it) .none cenv) [] = Ag.deeper cenv := by
  obtain ⟨hd, d, fr, gs, u⟩ := Ag
  rfl
theorem over_gx0 {cenv : Env} : Ag.over (.compStart (.GeneratorExp elt [⟨tg, iter, ifs, 0⟩] scope pos) 0 (.ref it) .none cenv) [] = Ag.deeper cenv := by
  obtain ⟨hd, d, fr, gs, u⟩ := Ag
  rfl
theorem seg_gx (hA : X.A = Ag.deeper X.env) (hc : X.calm = true) (hpn : True) (hco : X.env.scope.isCoroutine = false) (hxe : X.xe = fun _ _ => False) (hex : X.ex = fp)
    (hpnx : ∀ b ∈ fp, ∀ p ∈ X.pn, p.1 ≠ b) (hw : wipe σw vs = σw)
    (T : Turn X.prog X.w X.K tg J fp it tn) (pg : PG X tg gt) (pt : PTs X ifs tt) (pe : PE X elt te)
    (turn : ∀ i m H, W i m H → (J.stop i H ∧ Q (.bl (!stp)) H) ∨ (J.go i H ∧ ∀ x H', J.yld i H x H' → gt x σw H' fun σ2 H3 => wipe σ2 vs = σw ∧ tt σ2 H3 fun c H4 =>
      if c = true then te σ2 H4 fun y H5 => ∃ b, y = .bl b ∧ (b = stp → Q (.bl stp) H5) ∧ (b ≠ stp → ∃ m', m' < m ∧ W (i + 1) m' H5) else ∃ m', m' < m ∧ W (i + 1) m' H4)) :
    ∀ (m n i : Nat) (s₀ s : Shared) (H : Hp), m < n → W i m H → Inv X [] σw H s → tn i s.heap → (∀ b ∈ fp, H b = none) → g < s.gens.size →
      Seg (model X.prog X.w) Ag (GxR' X σw g stp Q) (GxY X fp tn σw g stp Q W) n s₀
        (.compLoop (.GeneratorExp elt [⟨tg, iter, ifs, 0⟩] scope pos) 0 (.ref it) .none X.env)
        ((model X.prog X.w).den (.compLoop (.GeneratorExp elt [⟨tg, iter, ifs, 0⟩] scope pos) 0 (.ref it) .none X.env)) [] s := by
  intro m
  induction m using Nat.strongRecOn with
  | ind m ih =>
    intro n i s₀ s H hmn hW I st nfp hg
    have eA := over_gx (Ag := Ag) (elt := elt) (tg := tg) (iter := iter) (ifs := ifs) (scope := scope) (pos := pos) (it := it) (cenv := X.env)
    rw [← hA] at eA
    have stat : ∀ {pins : List (Addr × Obj)} {σ' : L2.St} {H' : Hp} {s' : Shared}, Inv X pins σ' H' s' → pins = [] → (∀ b ∈ fp, H' b = none) → ∀ b ∈ fp, FpOk X pins H' b := by
      intro pins σ' H' s' I' hp hn b hb
      have hb' : b ∈ X.ex := by rw [hex]; exact hb
      refine ⟨hn b hb, (I'.ok.exf b hb').1, I'.ok.exfs b hb', .inl hb', fun x c e => (I'.ok.exf b hb').2 x c e, fun p hp2 => ?_⟩
      rw [hp, List.append_nil] at hp2
      exact hpnx b hb p hp2
    show Seg _ Ag _ _ _ s₀ _ ((compTurn (.GeneratorExp elt [⟨tg, iter, ifs, 0⟩] scope pos) 0 (.ref it) .none X.env).onRaise (leaving X.env)) [] s
    rw [compTurn_gen, Sem.onRaise_eq_wrap]
    refine seg_bindw hg (wpAny_standAt fun _ => ?_)
    rcases turn i m H hW with ⟨stop, qq⟩ | ⟨go, step⟩
    · refine seg_bindw hg ?_
      rw [eA]
      refine wpAny_mono (T.done X rfl rfl rfl hc i [] s σw H (fun _ _ => False) I (stat I rfl nfp) st stop) (fun r s6 ⟨hr, I6⟩ => ?_) fun _ _ z => z
      subst hr
      intro hg6
      exact seg_end (.ok .next) ⟨rfl, H, I6, hg6, qq⟩
    · refine seg_bindw hg ?_
      rw [eA]
      refine wpAny_mono (T.item X rfl rfl rfl hc i [] s σw H (fun _ _ => False) I (stat I rfl nfp) st go) (fun r s6 ⟨u, hr, h6⟩ => ?_) fun _ _ z => z
      subst hr
      intro hg6
      refine seg_bindw hg6 ?_
      rw [eA]
      refine wpAny_mono h6 (fun _ s7 ⟨x, H7, I7, r7, y7, st7, n7⟩ => ?_) fun _ _ z => z
      intro hg7
      have I7' := I7.pinned (stat I7 rfl n7) (T.obj _ _ st7)
      refine seg_bindw hg7 ?_
      rw [eA]
      refine wpAny_mono (pg.run _ s7 σw H7 x u _ I7' r7 (step x H7 y7)) (fun _ s8 ⟨σ8, H8, I8, hw8, q8⟩ => ?_) fun _ _ z => by rw [hxe] at z; exact z
      intro hg8
      refine seg_bindw hg8 ?_
      rw [eA]
      refine wpAny_mono (pt.run _ s8 σ8 H8 _ I8 q8) (fun c s9 ⟨H9, I9, q9⟩ => ?_) fun _ _ z => by rw [hxe] at z; exact z
      intro hg9
      -- behind the turn
      have fin : ∀ {s' : Shared} {H' : Hp}, Inv X ([] ++ pinsAt fp s7.heap) σ8 H' s' → Inv X [] σw H' s' ∧ tn (i + 1) s'.heap ∧ ∀ b ∈ fp, H' b = none := by
        intro s' H' I'
        have pin' : ∀ b ∈ fp, ∀ o, s7.heap.get? b = some o → s'.heap.get? b = some o ∧ H' b = none := by
          intro b hb o e
          have z := I'.pin (b, o) (List.mem_append_right _ (List.mem_append_right _ (mem_pinsAt hb e)))
          exact ⟨z.1, z.2.1⟩
        have hl : σw.length = σ8.length := by rw [← hw8, wipe_length]
        refine ⟨(I'.unpinned (pins := [])).weak hl fun j v e => ?_, T.keep _ _ _ st7 fun b hb o e => (pin' b hb o e).1, fun b hb => ?_⟩
        · rw [← hw8] at e
          exact (wipe_some e).1
        · obtain ⟨o, e, _⟩ := T.obj _ _ st7 b hb
          exact (pin' b hb o e).2
      cases c with
      | false =>
        simp only [Bool.false_eq_true, if_false] at q9 ⊢
        obtain ⟨m', hm', w'⟩ := q9
        obtain ⟨J1, J2, J3⟩ := fin I9
        exact seg_again rfl (ih m' hm' n (i + 1) s₀ s9 H9 (by omega) w' J1 J2 J3 hg9)
      | true =>
        simp only [if_true] at q9 ⊢
        have hy : ∀ v, yieldOut X.env v = yieldValue v := fun v => by simp only [yieldOut, hco, Bool.false_eq_true, if_false]
        simp only [hy]
        rw [Sem.bind_eq_wrap', Sem.bind_eq_wrap', Sem.wrap_wrap, Sem.wrap_wrap]
        refine seg_wrap (GenW.wpAny_gsz hg9 ?_)
        rw [eA]
        refine wpAny_mono (pe.run _ s9 σ8 H9 _ I9 q9) (fun y s10 ⟨yv, H10, I10, r10, b, hb, q1, q2⟩ => ?_) fun _ _ z => by rw [hxe] at z; exact z.elim
        intro hg10
        subst hb
        have r10 : y = Value.bool b := r10
        subst r10
        obtain ⟨J1, J2, J3⟩ := fin I10
        obtain ⟨n', rfl⟩ : ∃ n', n = n' + 1 := ⟨n - 1, by omega⟩
        refine seg_at (seg_yield rfl rfl rfl ⟨b, H10, rfl, J1, hg10, q1, fun hb s' hl => ?_⟩)
        obtain ⟨m', hm', w'⟩ := q2 hb
        refine seg_again rfl (ih m' hm' n' (i + 1) s' s' H10 (by omega) w' (like_inv J1 hl) ?_ J3 (Nat.lt_of_lt_of_le hg10 hl.gsz))
        rw [hl.heap]; exact J2

theorem seg_gx0 (hA : X.A = Ag.deeper X.env) {s₀ s : Shared} {n : Nat} (T : Turn X.prog X.w X.K tg J fp it tn) (st : tn 0 s.heap)
    (loop : Seg (model X.prog X.w) Ag (GxR' X σw g stp Q) (GxY X fp tn σw g stp Q W) n s₀ (.compLoop (.GeneratorExp elt [⟨tg, iter, ifs, 0⟩] scope pos) 0 (.ref it) .none X.env)
        ((model X.prog X.w).den (.compLoop (.GeneratorExp elt [⟨tg, iter, ifs, 0⟩] scope pos) 0 (.ref it) .none X.env)) [] s) :
    Seg (model X.prog X.w) Ag (GxR' X σw g stp Q) (GxY X fp tn σw g stp Q W) n s₀ (.compStart (.GeneratorExp elt [⟨tg, iter, ifs, 0⟩] scope pos) 0 (.ref it) .none X.env)
        ((model X.prog X.w).den (.compStart (.GeneratorExp elt [⟨tg, iter, ifs, 0⟩] scope pos) 0 (.ref it) .none X.env)) [] s := by
  show Seg _ Ag _ _ _ s₀ _ ((compStart (.GeneratorExp elt [⟨tg, iter, ifs, 0⟩] scope pos) 0 (.ref it) .none X.env).onRaise (leaving X.env)) [] s
  unfold compStart
  rw [Sem.onRaise_eq_wrap]
  show Seg _ Ag _ _ _ s₀ _ ((ask >>= _).wrap _ _ _ _) [] s
  refine seg_bind_wrap (wpAny_askSetting ?_)
  split
  · exact seg_again rfl loop
  · first
      | exact seg_bind_wrap (wpAny_rule (seg_bind_wrap (wpAny_standAt (seg_bind_wrap (T.self _ 0 s _ _ st (seg_again rfl loop))))))
      | (refine seg_bind_wrap (wpAny_rule ?_); show Seg _ Ag _ _ _ s₀ _ ((standAt iter.pos >>= _).wrap _ _ _ _) [] s; exact seg_bind_wrap (wpAny_standAt (seg_bind_wrap (T.self _ 0 s _ _ st (seg_again rfl loop)))))

/-! ### what the consumer holds -/
theorem bare_setGen {s : Shared} {g : Nat} {x : GenState} (h : AllBare s.gens) (hx : x.bare = true) : AllBare (s.setGen g x).gens := by
  intro y hy
  have hy : y ∈ s.gens.setIfInBounds g x := hy
  obtain ⟨i, hi, e⟩ := Array.mem_iff_getElem.mp hy
  rw [Array.getElem_setIfInBounds] at e
  by_cases c : g = i
  · rw [if_pos c] at e; rw [← e]; exact hx
  · rw [if_neg c] at e; rw [← e]; exact h _ (Array.getElem_mem _)
  · simpa using hi
theorem like_setGen {s : Shared} {g : Nat} {x : GenState} (h : AllBare s.gens) (hx : x.bare = true) : Like s (s.setGen g x) := ⟨rfl, rfl, rfl, bare_setGen h hx, Nat.le_of_eq (GenW.setGen_size s g x).symm⟩
theorem Like.trans {s s' s'' : Shared} (a : Like s s') (b : Like s' s'') : Like s s'' := ⟨b.heap.trans a.heap, b.os.trans a.os, b.drawn.trans a.drawn, b.bare, Nat.le_trans a.gsz b.gsz⟩
theorem like_refl {s : Shared} (h : AllBare s.gens) : Like s s := ⟨rfl, rfl, rfl, h, Nat.le_refl _⟩
def GenO (go : Obj) (g : Nat) : Prop := ∃ nm qn, go.cls = .type "generator" ∧ go.data = .fields #[.int g 0, nm, qn] ∧ go.slots = #[]
/-- X: the generator's own context -/
def Held (X : Cx) (Ag : Around) (fp : List Addr) (tn : Nat → Heap → Prop) (σw : L2.St) (g : Nat) (stp : Bool) (Q : VK) (W : Nat → Nat → Hp → Prop) (n : Nat) (s : Shared) : Prop :=
  (∃ H', Inv X [] σw H' s) ∧ ∃ gs, s.gens[g]? = some gs ∧ AllBare s.gens ∧ ∀ s'', Like s s'' → gs.Goes (model X.prog X.w) Ag (GxR' X σw g stp Q) (GxY X fp tn σw g stp Q W) n (.send .none) s''
theorem get_setGen {s : Shared} {g : Nat} {x : GenState} (h : g < s.gens.size) : (s.setGen g x).gens[g]? = some x := by
  simp [Shared.setGen, h]
theorem held_turn {A : Around} {R : Result → Shared → Prop} {a : Addr} {go : Obj} (hAg : Ag = A.in1.in1) (hh : A.handled = none) (hroom : A.depth < recursionLimit) (hpn : X.pn = [(a, go)]) (hgo : GenO go g)
    (hR : ∀ (b : Bool) H' s', Inv X [] σw H' s' → Q (.bl b) H' → ∀ h', (∀ x o, s'.heap.get? x = some o → h'.get? x = some o) → R (.ok (.ret (.bool b))) { s' with heap := h' })
    (n : Nat) (s : Shared) (h : Held X Ag fp tn σw g stp Q W n s) :
    wpAny (model X.prog X.w) A.in1 (pyNext (.ref a)) (Turned R stp (Held X Ag fp tn σw g stp Q W) n) (fun _ _ => False) s := by
  obtain ⟨⟨H0, I0⟩, gs, hgs, hbare, hgoes⟩ := h
  subst hAg
  have pinned : ∀ {H' : Hp} {s' : Shared}, Inv X [] σw H' s' → s'.heap.IsGen a g := by
    intro H' s' I'
    obtain ⟨nm, qn, h1, h2, h3⟩ := hgo
    exact ⟨go, nm, qn, (I'.pin (a, go) (List.mem_append_left _ (by rw [hpn]; exact List.mem_cons_self))).1, h1, h2, h3⟩
  refine wpAny_pyNext_genexpQ (P := fun _ _ s => GxP X σw g stp Q s) (Y := GxY X fp tn σw g stp Q W) (n := n) hh I0.nolimit hroom (pinned I0) hgs (hgoes _ (like_setGen hbare rfl)) (fun v s₁ gs' hb hv => ?_) (fun s₁ hp h' hk => ?_)
  · obtain ⟨b, H', rfl, I1, hg1, q1, q2⟩ := hv
    have L1 : Like s₁ (s₁.setGen g gs') := like_setGen I1.bare hb
    have I2 := like_inv I1 L1
    refine ⟨b, rfl, fun e => ?_, fun e => ?_⟩
    · have z := hR stp H' (s₁.setGen g gs') I2 (q1 e) (s₁.setGen g gs').heap fun _ _ e => e
      exact z
    · cases n with
      | zero => exact (q2 e s₁ (like_refl I1.bare)).elim
      | succ m =>
        refine ⟨m, Nat.lt_succ_self m, ⟨H', I2⟩, gs', get_setGen hg1, I2.bare, fun s'' hl => ?_⟩
        exact q2 e s'' (L1.trans hl)
  · obtain ⟨H', I1, hg1, q⟩ := hp
    exact hR (!stp) H' (s₁.setGen g .finished) (like_inv I1 (like_setGen I1.bare rfl)) q h' hk
end

/-! ### the rules -/
theorem wipe_of {τ : L2.St} : ∀ vs : List Nat, (∀ i ∈ vs, ∀ x, τ[i]? = some x → x = none) → wipe τ vs = τ
  | [], _ => rfl
  | v :: r, h => by
    show (wipe τ r).set v none = τ
    rw [wipe_of r fun i hi x hx => h i (List.mem_cons_of_mem _ hi) x hx]
    apply List.ext_getElem?
    intro j
    by_cases hj : v = j
    · subst hj
      rw [List.getElem?_set]
      cases hx : τ[v]? with
      | none =>
        have := List.getElem?_eq_none_iff.mp hx
        rw [if_pos rfl, if_neg (by omega)]
      | some x =>
        have := (List.getElem?_eq_some_iff.mp hx).1
        rw [if_pos rfl, if_pos this, h v List.mem_cons_self x hx]
    · rw [List.getElem?_set_ne hj]
theorem wipe_wipe (σ : L2.St) (vs : List Nat) : wipe (wipe σ vs) vs = wipe σ vs := wipe_of vs fun i hi x hx => by
  cases x with
  | none => rfl
  | some v => exact absurd hi (wipe_some hx).2
/-- the scope of the generator expression -/
structure GxS (scope : Scope) : Prop where
  co : scope.isCoroutine = false
  cell : ∀ y ∈ scope.names, y.2 ≠ NameKind.cell
  dot : scope.names.lookup (".0" : Str) = some NameKind.local
def gxsB (scope : Scope) : Bool := !scope.isCoroutine && (scope.names.all fun y => y.2 != NameKind.cell) && scope.names.lookup (".0" : Str) == some NameKind.local
theorem gxs_by {scope : Scope} (h : gxsB scope = true) : GxS scope := by
  unfold gxsB at h
  simp only [Bool.and_eq_true, List.all_eq_true, beq_iff_eq, Bool.not_eq_true', bne_iff_ne] at h
  exact ⟨h.1.1, h.1.2, h.2⟩
theorem room_gx {k : Nat} {A : Around} (r : Room (k + 1) A) (env : Env) : Room k (A.in1.in1.deeper env) :=
  ⟨r.hd, by have := r.dp; show A.depth + 1 + 3 * k + 5 < _; omega, by have := r.un; show A.units + 1 + 1 + 3 + 16 * k + 200 < _; omega⟩
section
variable {X : Cx} {c P : Addr} {elt tg iter : Expr} {ifs : List Expr} {scope : Scope} {own : List (Str × Nat)} {gpos : Pos} {stp : Bool} {wi : TI} {gt : TG} {tt : TT} {te : TE} {k : Nat}
theorem gx_eval {pins : List (Addr × Obj)} {σ : L2.St} {H : Hp} {s : Shared} {Q : VK} {Q' : Value → Shared → Prop} (hr : Room k X.A) (hc : X.calm = true) (hN : X.N.Nodup) (TB : TabB X.base X.mg c P) (hcode : X.env.code = .ref c) (ok : BlkOk X.N X.env.scope scope own) (S : GxS scope) (hi : PI X tg iter wi)
    (hg : ∀ (s : Shared) (H : Hp) (C : Addr) (cd : Value) (fp : List Addr) (pn : List (Addr × Obj)), PG (gx X X.A.in1.in1 s H (gEnv scope X C cd) fp pn) tg gt)
    (ht : ∀ (s : Shared) (H : Hp) (C : Addr) (cd : Value) (fp : List Addr) (pn : List (Addr × Obj)), PTs (gx X X.A.in1.in1 s H (gEnv scope X C cd) fp pn) ifs tt)
    (he : ∀ (s : Shared) (H : Hp) (C : Addr) (cd : Value) (fp : List Addr) (pn : List (Addr × Obj)), PE (gx X X.A.in1.in1 s H (gEnv scope X C cd) fp pn) elt te)
    (hs : ∀ v, genFold iter X.env v = pure v) (I : Inv X pins σ H s) (h : tGx P stp wi gt tt te (own.map (·.2)) σ H Q)
    (hQ : ∀ (XG : Cx) (a : Addr) (g : Nat) (go : Obj) (fp : List Addr) (tn : Nat → Heap → Prop) (σw : L2.St) (W : Nat → Nat → Hp → Prop) (n : Nat) (s5 : Shared), XG.prog = X.prog → XG.w = X.w → XG.pn = [(a, go)] → GenO go g → (∀ H' s', Inv XG [] σw H' s' → Inv X pins σ H' s') →
      Held XG X.A.in1.in1 fp tn σw g stp Q W n s5 → Q' (.ref a) s5) :
    wpAny (model X.prog X.w) X.A (eval (.GeneratorExp elt [⟨tg, iter, ifs, 0⟩] scope gpos) X.env) Q' X.xe s := by
  have hfree : ∀ y ∈ scope.names, y.2 = .free → ∃ c, X.env.cells.lookup y.1 = some c := by
    intro y hy e
    rcases ok.free y hy e with z | z
    · exact I.ok.has _ (.inl z)
    · exact I.ok.has _ (.inr z)
  refine wpAny_GeneratorExp_make S.co (closure_ok hfree) S.cell S.dot ok.kind (by have := hr.dp; omega) ?_ hs
  refine thn (hi.run pins s σ H _ I h) fun xv s1 hx => thn hx fun itv s2 h2 => ?_
  obtain ⟨it, fp, tn, J, H1, e, I2, T, st2, f2, ⟨ps, hP, htr⟩, q⟩ := h2
  subst e
  have hPs : s2.heap.get? P = some { cls := .none, data := .fields ps } := I2.hok P _ hP
  have cd0 : PySem.W.CodeHd s2.heap c P := TB.code.keeps I2.bk
  refine ⟨I2.nolimit, ?_⟩
  have nP : ∀ b ∈ fp, b ≠ P := by
    intro b hb e
    have z := (f2 b hb).1
    rw [e, hP] at z
    cases z
  have cont : ∀ (code : Value) (H2 : Hp) (s3 : Shared), Tabbed P H1 H2 → Inv X pins σ H2 s3 → (∀ b o, b ≠ P → s2.heap.get? b = some o → s3.heap.get? b = some o) →
      wpAny (model X.prog X.w) X.A (builtinsFor X.env.globals X.env.builtins) (fun bi s₄ =>
        ∀ h', h'.Ns s₄.heap.objs.size (fun y => if y = ".0" then some (.ref it) else none) → Heap.SameBut s₄.heap.objs.size (s₄.heap.push { cls := .type "frame", data := .dict #[] }) h' →
          Q' (.ref h'.objs.size) { s₄ with
            gens := s₄.gens.push (.fresh (.compStart (.GeneratorExp elt [⟨tg, iter, ifs, 0⟩] scope gpos) 0 (.ref it) .none (genEnv scope (cloFrom X.env.cells scope.names []) s₄.heap.objs.size code bi X.env))),
            toks := s₄.toks + 1 + 1 + 1,
            heap := h'.push { cls := .type "generator", data := .fields #[.int s₄.gens.size 0, .str "<genexpr>" (s₄.toks + 1), .str (X.env.qual ++ "<genexpr>") (s₄.toks + 1 + 1)] } }) X.xe s3 := by
    intro code H2 s3 hT I3 k3
    obtain ⟨bm, ob, e1, e2, e3, e4, e5, e6, e7, e8⟩ := TB.bm
    refine wpAny_builtinsFor (m := X.mg) (by rw [I3.ok.glob]; exact I3.mod.glob.keeps I3.bk) e1 e2 (I3.bk _ _ e5) e6 e7 e8 ?_
    intro h' hns hsb
    obtain ⟨W, ⟨m0, w0⟩, turn⟩ := q H2 hT
    have sz : h'.objs.size = s3.heap.objs.size + 1 := by rw [hsb.1, Heap.size_push]
    generalize hgo : ({ cls := .type "generator", data := .fields #[.int s3.gens.size 0, .str "<genexpr>" (s3.toks + 1), .str (X.env.qual ++ "<genexpr>") (s3.toks + 1 + 1)] } : Obj) = go
    have hgoO : GenO go s3.gens.size := by
      subst hgo
      exact ⟨_, _, rfl, rfl, rfl⟩
    have hcl : ∀ v, go.data ≠ .cell v := by
      subst hgo
      intro v z
      cases z
    have pushed : (h'.push go).get? h'.objs.size = some go := by
      subst hgo
      exact Heap.get?_push_size _ rfl
    have keep3 : ∀ b o, s3.heap.get? b = some o → (h'.push go).get? b = some o := by
      intro b o e
      exact Heap.get?_push_of_some _ (hsb.extBut b o (Nat.ne_of_lt (Heap.lt_size e)) (Heap.get?_push_of_some _ e))
    have st3 : tn 0 s3.heap := T.keep _ _ _ st2 fun b hb o e => k3 b o (nP b hb) e
    have f3 : ∀ b ∈ fp, FpOk X pins H2 b ∧ b < s3.heap.objs.size := by
      intro b hb
      obtain ⟨o, e, _⟩ := T.obj _ _ st3 b hb
      refine ⟨⟨?_, (f2 b hb).2⟩, Heap.lt_size e⟩
      rw [hT.2 b (nP b hb)]
      exact (f2 b hb).1
    have gz : ∀ (s : Shared) (x : GenState), s.gens.size < (s.gens.push x).size := fun s x => by rw [Array.size_push]; exact Nat.lt_succ_self _
    have IG := gx_start (Ag := X.A.in1.in1) (code := code) (a := h'.objs.size) (go := go) (h5 := h'.push go) (t5 := s3.toks + 1 + 1 + 1)
      (g5 := s3.gens.push (.fresh (.compStart (.GeneratorExp elt [⟨tg, iter, ifs, 0⟩] scope gpos) 0 (.ref it) .none (gEnv scope X s3.heap.objs.size code))))
      I3 ok S.cell hN rfl rfl f3 keep3 (hns.push _) (I3.bare.push rfl) pushed (by omega) hcl
    have pg := hg s3 H2 s3.heap.objs.size code fp [(h'.objs.size, go)]
    have pt := ht s3 H2 s3.heap.objs.size code fp [(h'.objs.size, go)]
    have pe := he s3 H2 s3.heap.objs.size code fp [(h'.objs.size, go)]
    have back : ∀ H' s', Inv (gx X X.A.in1.in1 s3 H2 (gEnv scope X s3.heap.objs.size code) fp [(h'.objs.size, go)]) [] (wipe σ (own.map (·.2))) H' s' → Inv X pins σ H' s' := by
      intro H' s' J'
      exact I3.call' (ch := fp) J'.os J'.base J'.hok J'.bare fun b hb => ⟨(f3 b hb).1.2.2.2.1, (f3 b hb).1.2.1, (f3 b hb).1.2.2.2.2.1, (f3 b hb).1.2.2.2.2.2⟩
    have n5 : ∀ b ∈ fp, H2 b = none := fun b hb => (f3 b hb).1.1
    have st5 : ∀ h'' : Heap, (∀ b o, s3.heap.get? b = some o → h''.get? b = some o) → tn 0 h'' := fun h'' kk => T.keep _ _ _ st3 fun b _ o e => kk b o e
    have wipe2 := wipe_wipe σ (own.map (·.2))
    have pnx : ∀ b ∈ fp, ∀ p ∈ [(h'.objs.size, go)], p.1 ≠ b := by
      intro b hb p hp e
      have hp : p = (h'.objs.size, go) := by simpa using hp
      have hlt := (f3 b hb).2
      rw [← e, hp] at hlt
      have hlt : h'.objs.size < s3.heap.objs.size := hlt
      omega
    refine hQ (gx X X.A.in1.in1 s3 H2 (gEnv scope X s3.heap.objs.size code) fp [(h'.objs.size, go)]) h'.objs.size s3.gens.size go fp tn (wipe σ (own.map (·.2))) W (m0 + 1) _ rfl rfl rfl hgoO back ⟨⟨H2, IG⟩, _, Array.getElem?_push_size .., IG.bare, fun s'' hl => ⟨rfl, ?_⟩⟩
    have hst'' : tn 0 s''.heap := by
      rw [hl.heap]
      exact st5 _ keep3
    have hg'' : s3.gens.size < s''.gens.size := Nat.lt_of_lt_of_le (gz s3 _) hl.gsz
    have loop := seg_gx (X := gx X X.A.in1.in1 s3 H2 (gEnv scope X s3.heap.objs.size code) fp [(h'.objs.size, go)]) (Ag := X.A.in1.in1) (iter := iter) (scope := scope) (pos := gpos) (σw := wipe σ (own.map (·.2))) (g := s3.gens.size) (stp := stp) (Q := Q) (vs := own.map (·.2))
      rfl hc trivial S.co rfl rfl pnx wipe2 T pg pt pe turn m0 (m0 + 1) 0 s'' s'' H2 (Nat.lt_succ_self _) w0 (like_inv IG hl) hst'' n5 hg''
    exact seg_gx0 (X := gx X X.A.in1.in1 s3 H2 (gEnv scope X s3.heap.objs.size code) fp [(h'.objs.size, go)]) (Ag := X.A.in1.in1) rfl T hst'' loop
  cases hf : codeAmong gpos ps.toList with
  | none =>
    refine wpAny_genexprCodeX hcode (cd0.code hPs htr) (cd0.tab hPs) hf fun c' h' tk hx hge hlt hco' _ htab' _ => ?_
    obtain ⟨o1, vs1, f1, tf, fl, tg1, inF, tx, tt1, op, _, _, _, _, _, _, _, _, _, htr', _⟩ := hco'
    have J := inv_tab (more := #[rawInt gpos.line, rawInt gpos.col, .ref c']) (h' := h') (g' := s2.gens) (d' := s2.drawn) (t' := tk) I2 hP (fun b u hb e => hx b u hb e) htab'.2 I2.bare
    exact cont _ _ _ ⟨⟨_, upd_same, htr'⟩, fun b hb => upd_ne hb⟩ J fun b o hb e => hx b o hb e
  | some cv =>
    refine wpAny_genexprCode_hit hcode (cd0.code hPs htr) hf ?_
    exact cont cv H1 s2 ⟨⟨ps, hP, htr⟩, fun _ _ => rfl⟩ I2 fun _ _ _ e => e
variable {p pos : Pos}
theorem pe_any (hr : Room k X.A) (hc : X.calm = true) (hN : X.N.Nodup) (hgl : Gl X "any") (hm : X.mg "any" = none) (TB : TabB X.base X.mg c P) (hcode : X.env.code = .ref c) (ok : BlkOk X.N X.env.scope scope own) (S : GxS scope) (hi : PI X tg iter wi)
    (hg : ∀ (s : Shared) (H : Hp) (C : Addr) (cd : Value) (fp : List Addr) (pn : List (Addr × Obj)), PG (gx X X.A.in1.in1 s H (gEnv scope X C cd) fp pn) tg gt)
    (ht : ∀ (s : Shared) (H : Hp) (C : Addr) (cd : Value) (fp : List Addr) (pn : List (Addr × Obj)), PTs (gx X X.A.in1.in1 s H (gEnv scope X C cd) fp pn) ifs tt)
    (he : ∀ (s : Shared) (H : Hp) (C : Addr) (cd : Value) (fp : List Addr) (pn : List (Addr × Obj)), PE (gx X X.A.in1.in1 s H (gEnv scope X C cd) fp pn) elt te)
    (hs : ∀ v, genFold iter X.env v = pure v := by intro _; rfl)
    (hst : starEach [.GeneratorExp elt [⟨tg, iter, ifs, 0⟩] scope gpos] X.env = (false, eval (.GeneratorExp elt [⟨tg, iter, ifs, 0⟩] scope gpos) X.env) :: starEach [] X.env := by rfl) :
    PE X (.Call (.Name "any" p) [.GeneratorExp elt [⟨tg, iter, ifs, 0⟩] scope gpos] [] pos) (tGx P true wi gt tt te (own.map (·.2))) := by
  refine ⟨fun pins s σ H Q I h => ?_⟩
  refine wpAny_Call_Name_kw (ld_blt I hgl hm boot_any ?_)
  refine PyProof.Rows.callWith_builtin1 ?_ hst (by rfl)
  rw [hst]
  show wpAny _ _ (spliced ((false, eval (.GeneratorExp elt [⟨tg, iter, ifs, 0⟩] scope gpos) X.env) :: backTo pos (starEach [] X.env))) _ _ s
  refine Calls.spliced_cons (gx_eval (Q := Q) (stp := true) hr hc hN TB hcode ok S hi hg ht he hs I h fun XG a g go fp tn σw W n s5 hp hw hpn hgo back hheld => ?_)
  refine Calls.spliced_nil ?_
  have hheld0 := hheld
  obtain ⟨⟨H0, I0⟩, _⟩ := hheld0
  have hig : s5.heap.IsGen a g := by
    obtain ⟨nm, qn, h1, h2, h3⟩ := hgo
    exact ⟨go, nm, qn, (I0.pin (a, go) (List.mem_append_left _ (by rw [hpn]; exact List.mem_cons_self))).1, h1, h2, h3⟩
  refine call_function_tree F.kind_any F.plain_any F.entry_any (F.args_any1 _) ?_
  unfold Builtin.«any»
  refine wpAny_bind (m := oneArg "any" _) (wpAny_pure ?_)
  refine wpAny_bind (wpAny_pyIter_gen hig ?_)
  refine wpAny_pure ⟨plainId_quiet F.plain_any_loop _, ?_⟩
  rw [← hp, ← hw] at *
  refine loop_any (Held XG X.A.in1.in1 fp tn σw g true Q W) (held_turn rfl hr.hd (by have := hr.dp; omega) hpn hgo fun b H' s' J' qq h' hk => ?_) n s5 hheld
  exact ⟨.bl b, H', (back H' s' J').kept (t' := s'.toks) hk, rfl, qq⟩
theorem pe_all (hr : Room k X.A) (hc : X.calm = true) (hN : X.N.Nodup) (hgl : Gl X "all") (hm : X.mg "all" = none) (TB : TabB X.base X.mg c P) (hcode : X.env.code = .ref c) (ok : BlkOk X.N X.env.scope scope own) (S : GxS scope) (hi : PI X tg iter wi)
    (hg : ∀ (s : Shared) (H : Hp) (C : Addr) (cd : Value) (fp : List Addr) (pn : List (Addr × Obj)), PG (gx X X.A.in1.in1 s H (gEnv scope X C cd) fp pn) tg gt)
    (ht : ∀ (s : Shared) (H : Hp) (C : Addr) (cd : Value) (fp : List Addr) (pn : List (Addr × Obj)), PTs (gx X X.A.in1.in1 s H (gEnv scope X C cd) fp pn) ifs tt)
    (he : ∀ (s : Shared) (H : Hp) (C : Addr) (cd : Value) (fp : List Addr) (pn : List (Addr × Obj)), PE (gx X X.A.in1.in1 s H (gEnv scope X C cd) fp pn) elt te)
    (hs : ∀ v, genFold iter X.env v = pure v := by intro _; rfl) (hb : bootBuiltins "all" = some (.builtin "all") := by first | rfl | decide +kernel)
    (hst : starEach [.GeneratorExp elt [⟨tg, iter, ifs, 0⟩] scope gpos] X.env = (false, eval (.GeneratorExp elt [⟨tg, iter, ifs, 0⟩] scope gpos) X.env) :: starEach [] X.env := by rfl) :
    PE X (.Call (.Name "all" p) [.GeneratorExp elt [⟨tg, iter, ifs, 0⟩] scope gpos] [] pos) (tGx P false wi gt tt te (own.map (·.2))) := by
  refine ⟨fun pins s σ H Q I h => ?_⟩
  refine wpAny_Call_Name_kw (ld_blt I hgl hm hb ?_)
  refine PyProof.Rows.callWith_builtin1 ?_ hst (by rfl)
  rw [hst]
  show wpAny _ _ (spliced ((false, eval (.GeneratorExp elt [⟨tg, iter, ifs, 0⟩] scope gpos) X.env) :: backTo pos (starEach [] X.env))) _ _ s
  refine Calls.spliced_cons (gx_eval (Q := Q) (stp := false) hr hc hN TB hcode ok S hi hg ht he hs I h fun XG a g go fp tn σw W n s5 hp hw hpn hgo back hheld => ?_)
  refine Calls.spliced_nil ?_
  have hheld0 := hheld
  obtain ⟨⟨H0, I0⟩, _⟩ := hheld0
  have hig : s5.heap.IsGen a g := by
    obtain ⟨nm, qn, h1, h2, h3⟩ := hgo
    exact ⟨go, nm, qn, (I0.pin (a, go) (List.mem_append_left _ (by rw [hpn]; exact List.mem_cons_self))).1, h1, h2, h3⟩
  refine call_function_tree F.kind_all F.plain_all F.entry_all (F.args_all1 _) ?_
  unfold Builtin.«all»
  refine wpAny_bind (m := oneArg "all" _) (wpAny_pure ?_)
  refine wpAny_bind (wpAny_pyIter_gen hig ?_)
  refine wpAny_pure ⟨plainId_quiet F.plain_all_loop _, ?_⟩
  rw [← hp, ← hw] at *
  refine loop_all (Held XG X.A.in1.in1 fp tn σw g false Q W) (held_turn rfl hr.hd (by have := hr.dp; omega) hpn hgo fun b H' s' J' qq h' hk => ?_) n s5 hheld
  exact ⟨.bl b, H', (back H' s' J').kept (t' := s'.toks) hk, rfl, qq⟩
end
end Gx
end
section
set_option maxHeartbeats 4000000
/-! sorted(list, key=f), f a def of one's own whose answers are data, lists among them. -/
namespace Skx
open PySem PySem.Spec PyProof.Rows L2 Srx Gr
open PySem.W (dataLe alike AllAlike EachIs KeepsBut dataKind SortsAt sortVals KeyedOut)

section
variable {X : Cx} {k : Nat} {f : Addr} {fd : FuncData} {ps : List Str} {sp : Sp} {γ : Type} {enc : γ → PyData}
/-- what the key's call must give, wherever it stands -/
def KeyOf (K : PySem.W.Frag) (sp : Sp) (enc : γ → PyData) (b : V × γ) (H : Hp) : Prop := ∀ H1, Gr H H1 → ∀ Q : VK, (∀ v H2, Gr H1 H2 → Dp K H2 v (enc b.2) → Q v H2) → sp [b.1] H1 Q E0
def rSortedKey (K : PySem.W.Frag) (f : Addr) (sp : Sp) (enc : γ → PyData) : List V → List V → Hp → VK → Prop := fun vs zs H Q => ∃ (a : Addr) (bs : List (V × γ)), vs = [V.ref a] ∧ zs = [V.ref f] ∧ SqL K H a (bs.map (·.1)) ∧ (∀ b ∈ bs, KeyOf K sp enc b H) ∧
  ∀ H1 p, Gr H H1 → H1 p = none → Q (.ref p) (upd H1 p (.lst ((bs.mergeSort (dataLe false fun b => enc b.2)).map (·.1))))
theorem paired_each {K : PySem.W.Frag} {pins : List (Addr × Obj)} {σ : L2.St} {H : Hp} {s : Shared} (I : Inv X pins σ H s) (hK : X.K = K) : ∀ {kvs : List V} {us : List Value} {ds : List PyData}, Vals kvs us → Paired (fun v d => Dp K H v d) kvs ds → EachIs (fun u d => ∃ as, PySem.Reads s.heap u d as) us ds
  | _, _, _, .nil, .nil => .nil
  | _, _, _, .cons r t, .cons h t2 => by
    subst hK
    exact .cons (Dp.reads I _ _ _ h r) (paired_each I rfl t t2)
theorem paired_snoc {α β : Type} {R : α → β → Prop} : ∀ {as : List α} {bs : List β} {a : α} {b : β}, Paired R as bs → R a b → Paired R (as ++ [a]) (bs ++ [b])
  | _, _, _, _, .nil, h => .cons h .nil
  | _, _, _, _, .cons r t, h => .cons r (paired_snoc t h)
theorem paired_imp {α β : Type} {R S : α → β → Prop} (f : ∀ a b, R a b → S a b) : ∀ {as : List α} {bs : List β}, Paired R as bs → Paired S as bs
  | _, _, .nil => .nil
  | _, _, .cons r t => .cons (f _ _ r) (paired_imp f t)

set_option maxHeartbeats 8000000 in
theorem cr_sortedKey (o : Ord enc) (F : FnOk X.prog X.w X.K X.mg X.base CX0 k f fd ps sp) (hb : Binds X.K fd ps []) (hr : Room (k + 2) X.A) : CallRK X (.builtin "sorted") [Str.ofString "key"] (rSortedKey X.K f sp enc) := by
  intro pins s σ H vs zs us ws Q I r rz h
  obtain ⟨l, bs, rfl, rfl, hs, hkey, q⟩ := h
  obtain rfl := Vals.ref1 r
  obtain rfl := Vals.ref1 rz
  obtain ⟨its, rv, hl, hz⟩ := I.list hs
  have hbz : bs.length ≤ sizeLine := by simpa using hz
  have e0 := each_vals rv
  have hil : its.length = bs.length := by rw [← rv.length, List.length_map]
  have hr2 : Room k X.A.in1.in1 := (show Room (k + 1) X.A.in1 from Room.in1 hr).in1
  show wpAny _ _ (call (.builtin "sorted") [.ref l] [(Str.ofString "key", .ref f)]) _ _ _
  refine PySem.W.sorted_of_sort hl.isList (by rw [hil]; exact hbz) (PyProof.Rows.ksk_s1 _ _) (fun _ => PyProof.Rows.ksk_l1 _ _) fun E' => ?_
  rw [PyProof.Rows.ksk_t1]
  -- the copy at L, the tuple, the keys' list at kS
  generalize hL : s.heap.objs.size + 1 = L
  have hLat : (PySem.W.copyHeap s.heap its).get? L = some (seqObj "list" its.toArray 0) := by
    rw [← hL]; exact PySem.W.copyHeap_at s.heap its
  obtain ⟨e1, hL1⟩ : ∃ e1, ((PySem.W.copyHeap s.heap its).update L (Obj.mapSeq fun _ => (#[] : Array Value))).get? L = some (seqObj "list" #[] e1) := ⟨_, get?_update_seq hLat fun _ => #[]⟩
  unfold PyProof.Rows.ksk_tree
  refine wpAny_bind (listItems_at hLat rfl ?_)
  refine wpAny_bind (listUpdate_at hLat rfl ?_ (by rw [List.size_toArray, hil]; exact hbz) (Nat.zero_le _))
  refine wpAny_bind (seqEpoch_at hL1 rfl ?_)
  refine wpAny_bind (wpAny_newTuple ?_ (by show its.length ≤ _; rw [hil]; exact hbz))
  refine wpAny_bind (wpAny_newList ?_ (Nat.zero_le _))
  refine wpAny_holding ?_
  generalize hkS : (((PySem.W.copyHeap s.heap its).update L (Obj.mapSeq fun _ => (#[] : Array Value))).push (seqObj "tuple" its.toArray 0)).objs.size = kS
  generalize hg : ((((PySem.W.copyHeap s.heap its).update L (Obj.mapSeq fun _ => (#[] : Array Value))).push (seqObj "tuple" its.toArray 0)).push (seqObj "list" #[] 0)) = g0
  have keep0 : ∀ b u, s.heap.get? b = some u → g0.get? b = some u := by
    intro b u e
    have lt := Heap.lt_size e
    rw [← hg]
    exact PySem.W.sortingHeap_old (by rw [← hL]; exact Nat.ne_of_lt (Nat.lt_succ_of_lt lt)) (PySem.W.copyHeap_old e)
  have hLlt : L < ((PySem.W.copyHeap s.heap its).update L (Obj.mapSeq fun _ => (#[] : Array Value))).objs.size := Heap.lt_size hL1
  have hkL : kS ≠ L := by
    rw [← hkS, size_push']
    exact Nat.ne_of_gt (Nat.lt_succ_of_lt hLlt)
  have hkz : s.heap.objs.size ≤ kS := by
    rw [← hkS, size_push']
    have : s.heap.objs.size < L := by rw [← hL]; exact Nat.lt_succ_self _
    exact Nat.le_succ_of_le (Nat.le_of_lt (Nat.lt_trans this hLlt))
  have hLz : s.heap.objs.size ≤ L := by rw [← hL]; exact Nat.le_succ _
  have gL : g0.get? L = some (seqObj "list" #[] e1) := by
    rw [← hg]; exact Heap.get?_push_of_some _ (Heap.get?_push_of_some _ hL1)
  have gk : g0.get? kS = some (seqObj "list" #[] 0) := by
    rw [← hg, ← hkS]; exact Heap.get?_push_size _ rfl
  have nk : H kS = none := I.hok.fresh hkz
  have nL : H L = none := I.hok.fresh hLz
  have fk := I.fpOk hkz nk
  have fL := I.fpOk hLz nL
  have I0 : Inv X pins σ H { s with heap := g0 } := I.kept (t' := s.toks) keep0
  have ncell : ∀ (kA : Array Value) (e : Nat) (v : Option Value), (seqObj "list" kA e).data ≠ .cell v := fun kA e v z => nomatch z
  -- the state behind i keys
  have pinned : ∀ {H' : Hp} {s' : Shared} {kA : Array Value} {e : Nat}, Inv X pins σ H' s' → H' kS = none → H' L = none → s'.heap.get? kS = some (seqObj "list" kA e) → s'.heap.get? L = some (seqObj "list" #[] e1) →
      Inv X (pins ++ [(kS, seqObj "list" kA e), (L, seqObj "list" #[] e1)]) σ H' s' := by
    intro H' s' kA e I' n1 n2 g1 g2
    refine I'.pins_of fun p hp => ?_
    rcases List.mem_append.mp hp with hp | hp
    · exact I'.pin p (List.mem_append_right _ hp)
    · rcases List.mem_cons.mp hp with z | hp
      · rw [z]; exact ⟨g1, n1, fk.2.1, fk.2.2.1, ncell _ _⟩
      · have z : p = (L, seqObj "list" #[] e1) := by simpa using hp
        rw [z]; exact ⟨g2, n2, fL.2.1, fL.2.2.1, ncell _ _⟩
  show wpAny _ _ (PyProof.Rows.ksk_rest L (.ref f) false its.toArray e1 (.ref kS)) _ _ { s with heap := g0 }
  unfold PyProof.Rows.ksk_rest
  refine wpAny_bind (wpAny_rule ?_)
  first
    | rw [List.forIn_toArray]
    | (rw [← Array.forIn_toList]; simp only [List.toList_toArray])
    | rw [← Array.forIn_toList]
  refine wpAny_bind (PyProof.Rows.ksk_fold (fun i s' => ∃ (H' : Hp) (kA : Array Value) (e : Nat) (kvs : List V), Inv X pins σ H' s' ∧ Gr H H' ∧ H' kS = none ∧ H' L = none ∧ s'.heap.get? kS = some (seqObj "list" kA e) ∧ s'.heap.get? L = some (seqObj "list" #[] e1) ∧
      Vals kvs kA.toList ∧ Paired (fun v d => Dp X.K H' v d) kvs ((bs.take i).map fun b => enc b.2)) its 0 _
    ⟨H, #[], 0, [], I0, Gr.refl H, nk, nL, gk, gL, .nil, by rw [List.take_zero]; exact .nil⟩ ?step ?done)
  case step =>
    rintro j x s' hx ⟨H', kA, e, kvs, I', gr, n1, n2, g1, g2, vk, pk⟩
    simp only [Nat.zero_add] at pk ⊢
    have hj : j < its.length := (List.getElem?_eq_some_iff.mp hx).1
    have hjb : j < bs.length := by omega
    have hbj : bs[j]? = some bs[j] := List.getElem?_eq_getElem hjb
    obtain ⟨u, hu, ru⟩ := rv.get (i := j) (x := bs[j].1) (by rw [List.getElem?_map, hbj]; rfl)
    rw [hx] at hu
    cases hu
    have J := pinned I' n1 n2 g1 g2
    have hsp : sp [bs[j].1] H' (fun v H2 => Gr H' H2 ∧ Dp X.K H2 v (enc bs[j].2)) E0 := hkey _ (List.getElem_mem hjb) H' gr _ fun v H2 h1 h2 => ⟨h1, h2⟩
    have hlen : (([x] : List Value) ++ []).length = ps.length := F.len _ _ _ _ hsp
    refine wpAny_bind (wpAny_attempt (wpAny_call (codeAny_mono (F.run X.A.in1.in1 X.stack s' H' ⟨[x], []⟩ ([x] ++ []) [bs[j].1] _ E0 hr2 J.env0.in1.in1 (hb s' [x] J.kIn hlen) (.cons ru .nil) hsp) fun rr s'' hq => ?_)))
    cases rr with
    | error er => exact hq.elim
    | ok fl =>
      cases fl with
      | next => exact False.elim hq
      | brk => exact False.elim hq
      | cont => exact False.elim hq
      | ret u =>
        obtain ⟨v, H2, J2, rv2, gr2, dp2⟩ := J.after hq
        have pk1 := J2.pin (kS, seqObj "list" kA e) (List.mem_append_right _ (List.mem_append_right _ List.mem_cons_self))
        have pL1 := J2.pin (L, seqObj "list" #[] e1) (List.mem_append_right _ (List.mem_append_right _ (List.mem_cons_of_mem _ List.mem_cons_self)))
        have I2 : Inv X pins σ H2 s'' := J2.unpinned
        have hkAz : kA.size ≤ bs.length := by
          have h1 : kvs.length = kA.toList.length := Paired.length vk
          have h2 : kvs.length = ((bs.take j).map fun b => enc b.2).length := Paired.length pk
          have h3 : ((bs.take j).map fun b => enc b.2).length ≤ bs.length := by
            rw [List.length_map, List.length_take]
            exact Nat.min_le_right _ _
          have h4 : kA.toList.length = kA.size := Array.length_toList
          rw [← h4, ← h1, h2]
          exact h3
        have sb := Heap.SameBut.update s''.heap kS (Obj.mapSeq (·.push u))
        obtain ⟨c2, hc2⟩ : ∃ c2, (s''.heap.update kS (Obj.mapSeq (·.push u))).get? kS = some (seqObj "list" (kA.push u) c2) := ⟨_, get?_update_seq pk1.1 (·.push u)⟩
        refine wpAny_bind (listUpdate_at pk1.1 rfl ?_ (Nat.le_trans hkAz hbz) (Nat.le_trans (Nat.le_of_eq (Array.size_push ..)) (Nat.succ_le_succ (Nat.le_trans hkAz hbz))))
        have I3 : Inv X pins σ H2 { s'' with heap := s''.heap.update kS (Obj.mapSeq (·.push u)) } := I2.turned (t' := s''.toks) (fun b o hb e => (sb.2 b hb).trans e) pk1.2.1 fk.2.1 fk.2.2.2.1 fk.2.2.2.2.1 fk.2.2.2.2.2
        refine wpAny_pure ⟨rfl, H2, kA.push u, c2, kvs ++ [v], I3, gr.trans gr2, pk1.2.1, pL1.2.1, hc2, (sb.2 L hkL.symm).trans pL1.1, ?_, ?_⟩
        · rw [Array.toList_push]
          exact vk.append (.cons rv2 .nil)
        · rw [List.take_add_one, hbj, Option.toList_some, List.map_append]
          exact paired_snoc (paired_imp (fun v d h => gr2.dp h) pk) dp2
  case done =>
    rintro s' ⟨H', kA, e, kvs, I', gr, n1, n2, g1, g2, vk, pk⟩
    rw [Nat.zero_add, hil, List.take_length] at pk
    have ek : EachIs (fun u d => ∃ as, PySem.Reads s'.heap u d as) kA.toList (bs.map fun b => enc b.2) := paired_each I' rfl vk pk
    have hsz : kA.size = its.length := by
      have h1 := ek.length
      rw [Array.length_toList, List.length_map] at h1
      omega
    have hal : AllAlike (bs.map fun b => enc b.2) := PySem.W.AllAlike.of fun x y => o.alike _ _
    refine wpAny_bind (listItems_at g1 rfl ?_)
    refine PySem.W.keyH_end (κ := dataKind s'.heap (bs.map fun b => enc b.2)) (h₁ := PySem.W.hideAll s'.heap [kS]) (vs := its) (fun b o _ e => PySem.W.of_hideAll [kS] e) (PySem.W.hideAll_none [kS] List.mem_cons_self) g1 g2 hkL
      (SortsAt.data (s := s') ek hal ((o.comap Prod.snd).sortable bs) (fun d hd => by
        obtain ⟨b, _, rfl⟩ := List.mem_map.mp hd
        have h1 := o.depth b.2
        have h2 := hr.un
        show X.A.units + 1 + 1 + _ < _
        omega)) hsz (by rw [hil]; exact hbz) fun h' tk c kp hat => ⟨rfl, ?_⟩
    have ko : KeyedOut false (bs.map fun b => enc b.2) its (sortVals (dataKind s'.heap (bs.map fun b => enc b.2)) false kA.toList its) := ⟨s'.heap, kA.toList, hal, rfl, ek⟩
    have hout := PySem.W.keyedOut_each (fun b : V × γ => enc b.2) ko e0
    have keepB : ∀ b u, b ≠ L → b ≠ kS → s'.heap.get? b = some u → h'.get? b = some u := by
      intro b u h1 h2 e
      exact kp b u h1 (PySem.W.hideAll_get [kS] e (by simpa using h2))
    have nT : ∀ b u, H' b = some u → b ≠ L ∧ b ≠ kS := by
      intro b u e
      exact ⟨fun z => (by rw [z, n2] at e; cases e), fun z => (by rw [z, n1] at e; cases e)⟩
    have there : ∃ u, h'.get? kS = some u ∨ h'.get? kS = none := by
      cases z : h'.get? kS with
      | none => exact ⟨seqObj "list" #[] 0, .inr rfl⟩
      | some u => exact ⟨u, .inl rfl⟩
    have hylen : ((bs.mergeSort (dataLe false fun b => enc b.2)).map (·.1)).length ≤ sizeLine := by
      rw [List.length_map, List.length_mergeSort]; exact hbz
    refine ⟨.ref L, upd H' L (.lst ((bs.mergeSort (dataLe false fun b => enc b.2)).map (·.1))), ?_, rfl, q H' L gr n2⟩
    refine I'.step (g' := s'.gens) (t' := tk) (d' := s'.drawn) (ch := [kS, L]) (fun b hb => ?_) (fun b o h1 h2 hc e n => ?_) (fun b o h1 h2 hc e n => ?_) (fun b o hc e n => ?_) (fun b o hc e => ?_) (fun b xs e => ?_) (fun b o u e => ?_) (fun b qs e => ?_) (fun m hm => ?_) (fun b u e => ?_) I'.bare
    · rcases List.mem_cons.mp hb with z | hb
      · rw [z]; exact ⟨fk.2.2.2.1, fk.2.1, fk.2.2.2.2.1, fk.2.2.2.2.2⟩
      · have z : b = L := by simpa using hb
        rw [z]; exact ⟨fL.2.2.2.1, fL.2.1, fL.2.2.2.2.1, fL.2.2.2.2.2⟩
    · exact keepB b o (fun z => hc (by rw [z]; simp)) (fun z => hc (by rw [z]; simp)) e
    · exact ⟨o.slots, keepB b o (fun z => hc (by rw [z]; simp)) (fun z => hc (by rw [z]; simp)) e⟩
    · rw [upd_ne (fun z => hc (by rw [z]; simp))]; exact n
    · exact ⟨o, keepB b o (fun z => hc (by rw [z]; simp)) (fun z => hc (by rw [z]; simp)) e⟩
    · rw [upd_ne (nT b _ e).1]; exact e
    · rw [upd_ne (nT b _ e).1]; exact e
    · exact ⟨#[], by rw [upd_ne (nT b _ e).1, e]; simp⟩
    · obtain ⟨o', es, ep, ho, rr⟩ := hm
      exact ⟨o', es, ep, keepB _ o' (Ne.symm fL.2.1) (Ne.symm fk.2.1) ho, rr⟩
    · by_cases hbL : b = L
      · subst hbL
        rw [upd_same] at e
        cases e
        exact ⟨hylen, _, c, vals_each hout, hat⟩
      · rw [upd_ne hbL] at e
        refine (I'.hok b u e).stay (fun c' v hc' qq => ?_) (fun c' qq => by rw [upd_ne (nT c' _ qq).1]; exact qq) fun c' xs qq => by rw [upd_ne (nT c' _ qq).1]; exact qq
        rcases hc' with z | z
        · rw [z] at qq ⊢
          exact keepB b v (nT b _ e).1 (nT b _ e).2 qq
        · exact keepB c' v (nT c' _ z).1 (nT c' _ z).2 qq
end
end Skx
end
section
set_option maxHeartbeats 4000000
/-! {k: v for ..} whose keys are tuples of ints and texts. -/
namespace Dcx
open PySem PySem.Spec PyProof.Rows L2
theorem put_tup {X : Cx} {pins : List (Addr × Obj)} {σ : L2.St} {H : Hp} {s : Shared} {E : Value → Shared → Prop} {D b : Addr} {kvs : List (List Key × V)} {k : List Key} {v : V} {r : Value} {Q : Unit → Shared → Prop} (hu : X.A.units + 1 < cLine)
    (I : Inv X pins σ H s) (hD : H D = some (.dT kvs)) (hb : H b = some (.tup (k.map kV))) (hz : kvs.length < sizeLine) (rv : RelV v r) (h : ∀ s', Inv X pins σ (upd H D (.dT (putK kvs k v))) s' → Q () s') :
    wpAny (model X.prog X.w) X.A (dictSet D (.ref b) r) Q E s := by
  obtain ⟨z, hd, xs, rel, dd⟩ := dt_of I.hok hD
  have hxs : xs.length ≤ sizeLine := by
    rw [← Paired.length rel]; exact z
  have hl : (putK kvs k v).length ≤ sizeLine := by
    have := length_putK kvs k v
    omega
  refine wpAny_dictSet_heap (hsz := hxs) (show X.A.units < cLine by omega) (key_of I.hok hb) dd fun h' dd' sb => h _ ?_
  obtain ⟨q, es, ep, e1, e2, e3, e4, _, e5⟩ := dd'
  refine d_write I (by rw [hD]; exact True.intro) sb ⟨q, e1⟩ ⟨hl, hd, _, (rel.put k hb rv).keeps fun c ys ec => ?_, q, es, ep, e1, e2, e3, e4, e5⟩
  rw [upd_ne (ne_of ec hD fun z => nomatch z)]
  exact ec
section
variable {X : Cx}
/-- D: the new dict; a turn's key is a tuple at b -/
def tDt (wi : TI) (g : TG) (tt : TT) (tk tv : TE) (vs : List Nat) : TE := fun σ H Q => wi σ H fun J H1 => ∀ D, H1 D = none → ∃ W : Nat → Nat → Hp → Prop, (∃ m, W 0 m (upd H1 D (.dT []))) ∧ ∀ i m H, W i m H →
  (J.stop i H ∧ Q (.ref D) H) ∨ (J.go i H ∧ ∀ x H', J.yld i H x H' → g x (wipe σ vs) H' fun σ2 H2 => wipe σ2 vs = wipe σ vs ∧ tt σ2 H2 fun c H3 =>
    if c = true then tk σ2 H3 fun y H4 => tv σ2 H4 fun z H5 => ∃ kvs k b, y = .ref b ∧ H5 b = some (.tup (k.map kV)) ∧ H5 D = some (.dT kvs) ∧ kvs.length < sizeLine ∧ ∃ m', m' < m ∧ W (i + 1) m' (upd H5 D (.dT (putK kvs k z)))
    else ∃ m', m' < m ∧ W (i + 1) m' H3)
abbrev blkE (X : Cx) (scope : Scope) (s : Shared) : Env := compEnvC scope (cellsFrom (s.heap.objs.size + 1) scope.names (cloFrom X.env.cells scope.names [])) s.heap.objs.size X.env
theorem dt_core {pins : List (Addr × Obj)} {s : Shared} {σ : L2.St} {H : Hp} {Q : VK} {kx vx tg iter : Expr} {ifs : List Expr} {scope : Scope} {own : List (Str × Nat)} {pos pos' : Pos} {wi : TI} {g : TG} {tt : TT} {tk tv : TE} {use : Option (Value → Sem Unit)} {Qf : Value → Shared → Prop}
    (hu : X.A.units + 1 < cLine) (hc : X.calm = true) (hN : X.N.Nodup) (I : Inv X pins σ H s) (hi : PI X tg iter wi) (ok : BlkOk X.N X.env.scope scope own)
    (hg : ∀ (s : Shared) (H : Hp) (C : Addr) (cl : List (Str × Addr)) (fp : List Addr), PG (X.blk s H scope (compEnvC scope cl C X.env) fp) tg g)
    (ht : ∀ (s : Shared) (H : Hp) (C : Addr) (cl : List (Str × Addr)) (fp : List Addr), PTs (X.blk s H scope (compEnvC scope cl C X.env) fp) ifs tt)
    (hk : ∀ (s : Shared) (H : Hp) (C : Addr) (cl : List (Str × Addr)) (fp : List Addr), PE (X.blk s H scope (compEnvC scope cl C X.env) fp) kx tk)
    (he : ∀ (s : Shared) (H : Hp) (C : Addr) (cl : List (Str × Addr)) (fp : List Addr), PE (X.blk s H scope (compEnvC scope cl C X.env) fp) vx tv) (hs : ∀ x, foldedSetIterable iter X.env x = pure x)
    (h : tDt wi g tt tk tv (own.map (·.2)) σ H Q)
    (hRR : ∀ D C s' m H', Inv X pins σ H' s' → Q (.ref D) H' → s'.heap.Ns C m → FpOk X pins H' C → compPost (model X.prog X.w) X.A X.xe use Qf (.ref D) C (.ok .next) s') :
    wpAny (model X.prog X.w) X.A (comprehension (.DictComp kx vx [⟨tg, iter, ifs, 0⟩] scope pos) scope X.env pos' newDict false (eval iter X.env) use) Qf X.xe s := by
  have hfree : ∀ y ∈ scope.names, y.2 = .free → ∃ c, X.env.cells.lookup y.1 = some c := by
    intro y hy e
    rcases ok.free y hy e with z | z
    · exact I.ok.has _ (.inl z)
    · exact I.ok.has _ (.inr z)
  refine wpAny_comprehension_free (use := use) rfl hs (closure_ok hfree) ok.kind (fun y hy e => by rw [ok.uniq y hy, e]) (thn (hi.run pins s σ H _ I h) fun _ _ hx => thn hx fun itv s2 h2 => ?_)
  obtain ⟨it, fp, tn, J, H2, e, I2, T, st2, f2, q⟩ := h2
  subst e
  refine wpAny_newObj_type (newEnv_comp ?_)
  generalize hD : s2.heap.objs.size = D
  have nD : H2 D = none := I2.hok.fresh (Nat.le_of_eq hD)
  obtain ⟨W, ⟨m0, w0⟩, turn⟩ := q D nD
  generalize hs3 : ({ s2 with heap := s2.heap.push { cls := .type "dict", data := .dict #[] } } : Shared) = s3
  have h3 : s3.heap = s2.heap.push { cls := .type "dict", data := .dict #[] } := by subst hs3; rfl
  have I3 : Inv X pins σ (upd H2 D (.dT [])) s3 := by
    subst hs3 hD
    exact I2.laid (t' := s2.toks) (fun _ _ e => Heap.get?_push_of_some _ e) (Nat.le_refl _) (dt_empty s2.heap I2.big)
  have f3 : ∀ b ∈ fp, FpOk X pins (upd H2 D (.dT [])) b ∧ b < s3.heap.objs.size := by
    intro b hb
    obtain ⟨o, e, _⟩ := T.obj _ _ st2 b hb
    have lt := Heap.lt_size e
    refine ⟨⟨?_, (f2 b hb).2⟩, ?_⟩
    · rw [upd_ne (by subst hD; exact Nat.ne_of_lt lt)]
      exact (f2 b hb).1
    · rw [h3, Heap.size_push]
      exact Nat.lt_succ_of_lt lt
  have st3 : tn 0 s3.heap := T.keep _ _ _ st2 fun b _ o e => by
    rw [h3]; exact Heap.get?_push_of_some _ e
  have I4 := block_start I3 ok hN f3
  show codeAny _ _ (.compStart (.DictComp kx vx [⟨tg, iter, ifs, 0⟩] scope pos) 0 (.ref it) (.ref D) (blkE X scope s3)) (compPost (model X.prog X.w) X.A X.xe use Qf (.ref D) s3.heap.objs.size) { s3 with heap := pushCells (s3.heap.push { cls := .type "dict", data := .dict #[] }) scope.names }
  generalize hce : blkE X scope s3 = ce
  rw [show compEnvC scope (cellsFrom (s3.heap.objs.size + 1) scope.names (cloFrom X.env.cells scope.names [])) s3.heap.objs.size X.env = ce from hce] at I4
  have pg := hg s3 (upd H2 D (.dT [])) s3.heap.objs.size (cellsFrom (s3.heap.objs.size + 1) scope.names (cloFrom X.env.cells scope.names [])) fp
  have pt := ht s3 (upd H2 D (.dT [])) s3.heap.objs.size (cellsFrom (s3.heap.objs.size + 1) scope.names (cloFrom X.env.cells scope.names [])) fp
  have pk := hk s3 (upd H2 D (.dT [])) s3.heap.objs.size (cellsFrom (s3.heap.objs.size + 1) scope.names (cloFrom X.env.cells scope.names [])) fp
  have pe := he s3 (upd H2 D (.dT [])) s3.heap.objs.size (cellsFrom (s3.heap.objs.size + 1) scope.names (cloFrom X.env.cells scope.names [])) fp
  rw [show compEnvC scope (cellsFrom (s3.heap.objs.size + 1) scope.names (cloFrom X.env.cells scope.names [])) s3.heap.objs.size X.env = ce from hce] at pg pt pk pe
  have cL : ce.locals = s3.heap.objs.size := by subst hce; rfl
  have n3 : ∀ b ∈ fp, (upd H2 D (.dT [])) b = none := fun b hb => (f3 b hb).1.1
  generalize hH3 : upd H2 D (.dT []) = H3 at I3 I4 pg pt pk pe w0 n3 f3
  generalize hs4 : ({ s3 with heap := pushCells (s3.heap.push { cls := .type "dict", data := .dict #[] }) scope.names } : Shared) = s4 at I4 ⊢
  have st4 : tn 0 s4.heap := T.keep _ _ _ st3 fun b _ o e => by
    subst hs4
    exact pushCells_keeps _ _ _ _ (Heap.get?_push_of_some _ e)
  have stat : ∀ {σ' : L2.St} {H' : Hp} {s' : Shared}, Inv (X.blk s3 H3 scope ce fp) [] σ' H' s' → (∀ b ∈ fp, H' b = none) → ∀ b ∈ fp, FpOk (X.blk s3 H3 scope ce fp) [] H' b := by
    intro σ' H' s' I' hn b hb
    refine ⟨hn b hb, (I'.ok.exf b hb).1, I'.ok.exfs b hb, .inl hb, fun x c e => (I'.ok.exf b hb).2 x c e, fun p hp => ?_⟩
    have hp : p ∈ ([] : List (Addr × Obj)) ++ [] := hp
    simp at hp
  have loop : codeAny (model X.prog X.w) X.A (.compLoop (.DictComp kx vx [⟨tg, iter, ifs, 0⟩] scope pos) 0 (.ref it) (.ref D) ce) (compPost (model X.prog X.w) X.A X.xe use Qf (.ref D) s3.heap.objs.size) s4 := ?loop
  exact codeAny_compStart_dict loop (T.self X.A 0 _ _ _ st4 loop)
  refine compLoop_anyD (fun n s' => ∃ i H', Inv (X.blk s3 H3 scope ce fp) [] (wipe σ (own.map (·.2))) H' s' ∧ tn i s'.heap ∧ (∀ b ∈ fp, H' b = none) ∧ W i n H') ?_ m0 ⟨0, H3, I4, st4, n3, w0⟩
  rintro n s5 ⟨i, H5, I5, st5, n5, w5⟩
  rcases turn i n H5 w5 with ⟨stop, qq⟩ | ⟨go, step⟩
  · refine thnF (T.done (X.blk s3 H3 scope ce fp) rfl rfl rfl hc i [] s5 _ H5 (fun _ _ => False) I5 (stat I5 n5) st5 stop) fun r s6 ⟨hr, I6⟩ => ?_
    subst hr
    have I7 : Inv X pins σ H5 s6 := I3.call' (ch := fp) I6.os I6.base I6.hok I6.bare fun b hb => by
      obtain ⟨z0, z1, z2, z3, z4, z5⟩ := (f3 b hb).1
      exact ⟨z3, z1, z4, z5⟩
    have nC : H5 s3.heap.objs.size = none := by
      have z : H5 ce.locals = none := I6.free
      rw [cL] at z; exact z
    obtain ⟨m, hn, _⟩ := I6.loc
    have hn : s6.heap.Ns ce.locals m := hn
    rw [cL] at hn
    exact hRR D s3.heap.objs.size s6 m H5 I7 qq hn (I3.fpOk (Nat.le_refl _) nC)
  · refine thnF (T.item (X.blk s3 H3 scope ce fp) rfl rfl rfl hc i [] s5 _ H5 (fun _ _ => False) I5 (stat I5 n5) st5 go) fun r s6 ⟨u, hr, h6⟩ => ?_
    subst hr
    refine thnF h6 fun _ s7 ⟨x, H7, I7, r7, y7, st7, n7⟩ => ?_
    have I7' := I7.pinned (stat I7 n7) (T.obj _ _ st7)
    refine thnF (pg.run _ s7 _ H7 x u _ I7' r7 (step x H7 y7)) fun _ s8 ⟨σ8, H8, I8, hw8, q8⟩ => ?_
    refine thnF (pt.run _ s8 σ8 H8 _ I8 q8) fun c s9 ⟨H9, I9, q9⟩ => ?_
    have fin : ∀ {s' : Shared} {H' : Hp}, Inv (X.blk s3 H3 scope ce fp) ([] ++ pinsAt fp s7.heap) σ8 H' s' → (∃ m', m' < n ∧ W (i + 1) m' H') →
        ∃ m, m < n ∧ ∃ i H', Inv (X.blk s3 H3 scope ce fp) [] (wipe σ (own.map (·.2))) H' s' ∧ tn i s'.heap ∧ (∀ b ∈ fp, H' b = none) ∧ W i m H' := by
      intro s' H' I' ⟨m', hm, w'⟩
      have pin' : ∀ b ∈ fp, ∀ o, s7.heap.get? b = some o → s'.heap.get? b = some o ∧ H' b = none := by
        intro b hb o e
        have z := I'.pin (b, o) (List.mem_append_right _ (List.mem_append_right _ (mem_pinsAt hb e)))
        exact ⟨z.1, z.2.1⟩
      have hl : (wipe σ (own.map (·.2))).length = σ8.length := by rw [← hw8, wipe_length]
      refine ⟨m', hm, i + 1, H', (I'.unpinned (pins := [])).weak hl (fun j v e => ?_), T.keep _ _ _ st7 fun b hb o e => (pin' b hb o e).1, fun b hb => ?_, w'⟩
      · rw [← hw8] at e
        exact (wipe_some e).1
      · obtain ⟨o, e, _⟩ := T.obj _ _ st7 b hb
        exact (pin' b hb o e).2
    cases c with
    | false =>
      simp only [Bool.false_eq_true, if_false] at q9 ⊢
      exact fin I9 q9
    | true =>
      simp only [if_true] at q9 ⊢
      refine thnF (pk.run _ s9 σ8 H9 _ I9 q9) fun z s10 ⟨yk, H10, I10, r10, q10⟩ => ?_
      refine thnF (pe.run _ s10 σ8 H10 _ I10 q10) fun z2 s11 ⟨yv, H11, I11, r11, kvs, k, b, ek, hb11, hD11, hz11, nx⟩ => ?_
      subst ek
      cases (show z = Value.ref b from r10)
      exact put_tup (X := X.blk s3 H3 scope ce fp) hu I11 hD11 hb11 hz11 r11 fun s12 I12 => fin I12 nx
variable {kx vx tg iter : Expr} {ifs : List Expr} {scope : Scope} {own : List (Str × Nat)} {pos spos : Pos} {wi : TI} {g : TG} {tt : TT} {tk tv : TE}
/-- name = {..}, the name a local, on one line -/
theorem ps_setDt {i : Nat} {y : Str} {py : Pos} (hu : X.A.units + 1 < cLine) (hc : X.calm = true) (hN : X.N.Nodup) (hy : X.N[i]? = some y) (hyl : X.env.scope.names.lookup y = some .local)
    (hsw : swapsWith (.DictComp kx vx [⟨tg, iter, ifs, 0⟩] scope pos) (some (.Name y py)) spos.line X.env = pure true) (hi : PI X tg iter wi) (ok : BlkOk X.N X.env.scope scope own)
    (hg : ∀ (s : Shared) (H : Hp) (C : Addr) (cl : List (Str × Addr)) (fp : List Addr), PG (X.blk s H scope (compEnvC scope cl C X.env) fp) tg g)
    (ht : ∀ (s : Shared) (H : Hp) (C : Addr) (cl : List (Str × Addr)) (fp : List Addr), PTs (X.blk s H scope (compEnvC scope cl C X.env) fp) ifs tt)
    (hk : ∀ (s : Shared) (H : Hp) (C : Addr) (cl : List (Str × Addr)) (fp : List Addr), PE (X.blk s H scope (compEnvC scope cl C X.env) fp) kx tk)
    (he : ∀ (s : Shared) (H : Hp) (C : Addr) (cl : List (Str × Addr)) (fp : List Addr), PE (X.blk s H scope (compEnvC scope cl C X.env) fp) vx tv) (hs : ∀ x, foldedSetIterable iter X.env x = pure x := by intro _; rfl) :
    PS X (.Assign [.Name y py] (.DictComp kx vx [⟨tg, iter, ifs, 0⟩] scope pos) spos) (tAsg (tDt wi g tt tk tv (own.map (·.2))) (gName i)) := by
  refine ⟨fun pins s σ H D I h => ?_⟩
  rw [exec_Assign_Name_used _ _ _ _ hsw]
  refine wpAny_bind (wpAny_standAt (wpAny_bind ?_))
  show wpAny _ X.A (do let _ ← comprehension (.DictComp kx vx [⟨tg, iter, ifs, 0⟩] scope pos) scope X.env (firstIterPos [⟨tg, iter, ifs, 0⟩] pos) newDict false (eval iter X.env) (some (assign (.Name y py) X.env))) _ _ s
  have h : tDt wi g tt tk tv (own.map (·.2)) σ H (fun x H1 => gName i x σ H1 D.nx) := h
  refine wpAny_bind (thn (dt_core (Qf := fun _ s' => SP X pins D .next s') hu hc hN I hi ok hg ht hk he hs h fun L C s' m H' I' q hn f => ?_) fun _ s' hq => wpAny_pure (wpAny_pure hq))
  show wpAny _ _ (assign (.Name y py) X.env (.ref L)) _ _ _
  refine wpAny_assign_Name (store_ok2 (v := V.ref L) I' hN hy (.inl hyl) rfl (fun s2 I2 ⟨a, sb, ha⟩ => ?_) (.inr hyl))
  obtain ⟨f0, f1, f2, f3, f4, f5⟩ := f
  have haC : C ≠ a := by
    rcases ha with z | z
    · rw [z]; exact f1
    · exact fun e => f4 y a z e.symm
  refine ⟨m, hn.sameBut sb haC, fun h3 sb3 => ?_⟩
  exact ⟨_, H', I2.turned (t' := s2.toks) (fun b o hb e => (sb3.2 b hb).trans e) f0 f1 f3 f4 f5, q⟩
theorem swd_true {l : Nat} {y : Str} {py : Pos} {env : Env} (hk : env.scope.kind = .function) (hy : env.scope.names.lookup y = some .local) (hl : (py.line == pos.line) = true)
    (ha : (scope.names.any fun (n, k) => n == y && (k == .local || k == .cell)) = false) {gs : List Comprehension} : swapsWith (.DictComp kx vx gs scope pos) (some (.Name y py)) l env = pure true := by
  have ky : env.kindOf y = some .local := hy
  have hb : env.blockKind = .function := by
    unfold Env.blockKind
    rw [hk]; rfl
  unfold swapsWith
  simp only [hb, ky, ha, Expr.pos, hl]
  rfl
end
end Dcx
end
section
set_option maxHeartbeats 4000000
namespace K1
open PySem PySem.Spec PyProof.Rows L2 Gr GxR
/-! ### the text's defs -/
def topS (i : Nat) : Stmt := PySem.Challenge.pw_meetrows_k01_sets_of_names.main.body.getD i (.Pass ⟨0, 0, 0, 0⟩)
abbrev FnP (K : PySem.W.Frag) (x : Str) (st : Stmt) (f : Addr) (fd : FuncData) : Prop := FunD K x x (defArgs st) (defBody st) (defScope st) [] [] f fd
abbrev sIsName : Stmt := topS 10
abbrev sRising : Stmt := topS 11
abbrev sWithin : Stmt := topS 12
abbrev sMeets : Stmt := topS 13
abbrev sRanked : Stmt := topS 14
abbrev sLeast : Stmt := topS 15
abbrev sOnce : Stmt := topS 16
abbrev sRank : Stmt := topS 17
abbrev sDraw : Stmt := topS 19
abbrev sNames : Stmt := topS 20
abbrev sRow : Stmt := topS 21
abbrev sLMeets : Stmt := topS 22
abbrev sLAll : Stmt := topS 23
abbrev sLWithin : Stmt := topS 24
abbrev sSets : Stmt := topS 25
abbrev sRefused : Stmt := topS 26
abbrev sOdd : Stmt := topS 27
abbrev sTruth : Stmt := topS 28
abbrev sTold : Stmt := topS 29
abbrev sLaw : Stmt := topS 30
/-- the def's code object is known: it is the one its table hangs on -/
theorem okC {P : Program} {w : World} {K : PySem.W.Frag} {mg : Str → Option Value} {base : Heap} {x qual : Str} {params : Arguments} {body : List Stmt} {scope : Scope} {dvs : List V} {kws : List (Str × V)} {fd : FuncData} {p : He.Defn} {CX : CXT} {N ps : List Str} {k : Nat} {sp : Sp}
    (F : FunD K x qual params body scope dvs kws (He.fAd K p) fd) (S : FnScope N ps scope) (len : ∀ vs H Q E, sp vs H Q E → vs.length = ps.length)
    (hbody : ∀ (A : Around) (outer : List Env) (s : Shared) (H : Hp) (vs : List V) (Q : VK) (E : XK), Room k (A.deeper (envOfC qual scope s.heap.objs.size (He.fAd K p) (.ref (He.cT K p).1))) → sp vs H Q E →
      ∃ t, PSs (cxOf CX P w K mg base N qual scope (He.fAd K p) (.ref (He.cT K p).1) A outer s H E) body t ∧ t { nx := fun _ H' => Q .non H', rt := Q } (start N vs) H) : FnOk P w K mg base CX (k + 1) (He.fAd K p) fd ps sp := by
  obtain ⟨oc, od, dV, kV, doc, pm, an, cdv, ct, osl, rfl, lk, hcd, _, _⟩ := F.ex
  obtain ⟨c, rfl⟩ := He.codeIn_ref hcd
  have e : (He.cT K p).1 = c := He.codeOf_eq lk rfl
  rw [e] at hbody
  exact fn_of lk hcd S len fun A outer s H vs Q E hr hsp => hbody A outer s H vs Q E hr hsp
/-! ### small facts -/
theorem inV_str (x : Str) (xs : List Str) : inV (.str x) (xs.map V.str) = xs.contains x := by
  unfold inV
  induction xs with
  | nil => rfl
  | cons y r ih =>
    rw [List.map_cons, List.any_cons, List.contains_cons, ih]
    show ((y == x) || _) = _
    rw [BEq.comm]
theorem flat_str (xs : List Str) : (xs.map V.str).all flatV = true := by
  rw [List.all_eq_true]
  intro v hv
  obtain ⟨x, _, rfl⟩ := List.mem_map.mp hv
  rfl
theorem get_map {α β : Type} {f : α → β} {xs : List α} {i : Nat} {v : β} (h : (xs.map f)[i]? = some v) : ∃ x, xs[i]? = some x ∧ v = f x := by
  rw [List.getElem?_map] at h
  cases e : xs[i]? with
  | none => rw [e] at h; cases h
  | some x =>
    rw [e] at h
    exact ⟨x, rfl, (Option.some.inj h).symm⟩
end K1
end
section
set_option maxHeartbeats 4000000
namespace K1
open PySem PySem.Spec PyProof.Rows L2 Gr GxR
section
variable {P : Program} {w : World} {K : PySem.W.Frag} {mg : Str → Option Value} {base : Heap} {f : Addr} {fd : FuncData}
/-! ### _law_draw -/
theorem scDraw : FnScope ["_law_script", "_law_k"] ["_law_script", "_law_k"] (defScope sDraw) := ⟨rfl, rfl, rfl, by decide +kernel, rfl, by decide +kernel, by decide +kernel⟩
def spDraw (K : PySem.W.Frag) : Sp := fun vs H Q _ => ∃ (a : Addr) (ns : List Int) (k : Nat), vs = [.ref a, .int (k : Int)] ∧ SqL K H a (ns.map V.int) ∧ Q (.int (ns.getD k 0)) H
theorem ok_draw (F : FnP K "_law_draw" sDraw f fd) (gL : mg "len" = none) : FnOk P w K mg base CX0 1 f fd ["_law_script", "_law_k"] (spDraw K) := by
  refine F.ok scDraw (fun vs H Q E h => ?_) (fun cdv A outer s H vs Q E hr h => ?_)
  · obtain ⟨a, ns, k, rfl, _⟩ := h
    rfl
  · obtain ⟨a, ns, k, rfl, hS, q⟩ := h
    refine ⟨_, PSs.nox (pss_one (ps_ret (pe_ifExp (pt_cmpR op_gt (pe_callB call_len_seq (by rfl) gL boot_len (pa_cons (pv 0) pa_nil)) (pv 1) (nomark _)) (pe_ix ix_list (pv 0) (pv 1) (fun _ _ => rfl)) pe_int))), ?_⟩
    refine ⟨_, rfl, a, _, rfl, .inl hS, _, rfl, _, _, rfl, rfl, _, rfl, ?_⟩
    rw [List.length_map]
    by_cases hk : k < ns.length
    · rw [decide_eq_true (show (k : Int) < (ns.length : Int) by omega)]
      refine iteT ⟨_, rfl, _, rfl, a, _, _, _, rfl, rfl, hS, atI_nat (v := .int ns[k]) (by rw [List.getElem?_map, List.getElem?_eq_getElem hk]; rfl), ?_⟩
      have e : ns.getD k 0 = ns[k] := by rw [List.getD_eq_getElem?_getD, List.getElem?_eq_getElem hk]; rfl
      rw [e] at q
      exact q
    · rw [decide_eq_false (show ¬ (k : Int) < (ns.length : Int) by omega)]
      refine iteF ?_
      have e : ns.getD k 0 = 0 := by rw [List.getD_eq_getElem?_getD, List.getElem?_eq_none (by omega)]; rfl
      rw [e] at q
      exact q
/-! ### _law_meets, _law_within -/
theorem scLMeets : FnScope ["_law_one", "_law_row_here", "_law_name"] ["_law_one", "_law_row_here"] (defScope sLMeets) := ⟨rfl, rfl, rfl, by decide +kernel, rfl, by decide +kernel, by decide +kernel⟩
def spLMeets (K : PySem.W.Frag) : Sp := fun vs H Q _ => ∃ (a b : Addr) (xs ys : List Str), vs = [.ref a, .ref b] ∧ SqL K H a (xs.map V.str) ∧ SqL K H b (ys.map V.str) ∧ Q (.bl (xs.any ys.contains)) H
theorem any_at {p : Str → Bool} {xs : List Str} {i : Nat} {x : Str} (h : xs[i]? = some x) : (xs.take (i + 1)).any p = ((xs.take i).any p || p x) := by
  rw [List.take_add_one, h, List.any_append]
  simp
theorem all_at {p : Str → Bool} {xs : List Str} {i : Nat} {x : Str} (h : xs[i]? = some x) : (xs.take (i + 1)).all p = ((xs.take i).all p && p x) := by
  rw [List.take_add_one, h, List.all_append]
  simp
theorem ok_lmeets (F : FnP K "_law_meets" sLMeets f fd) : FnOk P w K mg base CX0 1 f fd ["_law_one", "_law_row_here"] (spLMeets K) := by
  refine F.ok scLMeets (fun vs H Q E h => ?_) (fun cdv A outer s H vs Q E hr h => ?_)
  · obtain ⟨a, b, xs, ys, rfl, _⟩ := h
    rfl
  · obtain ⟨a, b, xs, ys, rfl, hA, hB, q⟩ := h
    refine ⟨_, PSs.nox (pss_cons (ps_for PassesOwn.never rfl (pi_list (pv 0)) (pg_name (i := 2) scLMeets.nd rfl (.inl rfl)) (pss_one (ps_if (pt_cmpR op_in_seq (pv 2) (pv 1) rfl) (pss_one (ps_ret pe_bl)) pss_nil))) (pss_one (ps_ret pe_bl))), ?_⟩
    refine ⟨_, rfl, a, rfl, ⟨_, hA⟩, for_list (xs := xs.map V.str) (fun i σ H' => H' = H ∧ (xs.take i).any ys.contains = false ∧ ∃ v, σ = [some (.ref a), some (.ref b), v]) ⟨rfl, rfl, _, rfl⟩ (fun i σ H' _ h => h.1 ▸ hA) (fun i x σ H' hx h => ?_) (fun σ H' h => ?_)⟩
    · obtain ⟨rfl, hn, v, rfl⟩ := h
      obtain ⟨y, hy, rfl⟩ := get_map hx
      refine ⟨_, rfl, _, rfl, b, _, rfl, .inl hB, rfl, flat_str ys, _, rfl, ?_⟩
      rw [inV_str]
      cases e : ys.contains y with
      | true =>
        show Q (.bl true) H'
        rw [show xs.any ys.contains = true from List.any_eq_true.mpr ⟨y, List.mem_of_getElem? hy, e⟩] at q
        exact q
      | false =>
        refine ⟨rfl, ?_, _, rfl⟩
        rw [any_at hy, hn, e]
        rfl
    · obtain ⟨rfl, hn, v, rfl⟩ := h
      rw [List.length_map, List.take_length] at hn
      rw [hn] at q
      exact q
theorem scLWithin : FnScope ["_law_one", "_law_other", "_law_name"] ["_law_one", "_law_other"] (defScope sLWithin) := ⟨rfl, rfl, rfl, by decide +kernel, rfl, by decide +kernel, by decide +kernel⟩
def spLWithin (K : PySem.W.Frag) : Sp := fun vs H Q _ => ∃ (a b : Addr) (xs ys : List Str), vs = [.ref a, .ref b] ∧ SqL K H a (xs.map V.str) ∧ SqL K H b (ys.map V.str) ∧ Q (.bl (xs.all ys.contains)) H
theorem ok_lwithin (F : FnP K "_law_within" sLWithin f fd) : FnOk P w K mg base CX0 1 f fd ["_law_one", "_law_other"] (spLWithin K) := by
  refine F.ok scLWithin (fun vs H Q E h => ?_) (fun cdv A outer s H vs Q E hr h => ?_)
  · obtain ⟨a, b, xs, ys, rfl, _⟩ := h
    rfl
  · obtain ⟨a, b, xs, ys, rfl, hA, hB, q⟩ := h
    refine ⟨_, PSs.nox (pss_cons (ps_for PassesOwn.never rfl (pi_list (pv 0)) (pg_name (i := 2) scLWithin.nd rfl (.inl rfl)) (pss_one (ps_if (pt_cmpR op_notIn_seq (pv 2) (pv 1) rfl) (pss_one (ps_ret pe_bl)) pss_nil))) (pss_one (ps_ret pe_bl))), ?_⟩
    refine ⟨_, rfl, a, rfl, ⟨_, hA⟩, for_list (xs := xs.map V.str) (fun i σ H' => H' = H ∧ (xs.take i).all ys.contains = true ∧ ∃ v, σ = [some (.ref a), some (.ref b), v]) ⟨rfl, rfl, _, rfl⟩ (fun i σ H' _ h => h.1 ▸ hA) (fun i x σ H' hx h => ?_) (fun σ H' h => ?_)⟩
    · obtain ⟨rfl, hn, v, rfl⟩ := h
      obtain ⟨y, hy, rfl⟩ := get_map hx
      refine ⟨_, rfl, _, rfl, b, _, rfl, .inl hB, rfl, flat_str ys, _, rfl, ?_⟩
      rw [inV_str]
      cases e : ys.contains y with
      | false =>
        show Q (.bl false) H'
        rw [show xs.all ys.contains = false from List.all_eq_false.mpr ⟨y, List.mem_of_getElem? hy, by rw [e]; exact Bool.false_ne_true⟩] at q
        exact q
      | true =>
        refine ⟨rfl, ?_, _, rfl⟩
        rw [all_at hy, hn, e]
        rfl
    · obtain ⟨rfl, hn, v, rfl⟩ := h
      rw [List.length_map, List.take_length] at hn
      rw [hn] at q
      exact q
/-! ### _law_truth -/
theorem scTruth : FnScope ["_law_found", "_law_due"] ["_law_found", "_law_due"] (defScope sTruth) := ⟨rfl, rfl, rfl, by decide +kernel, rfl, by decide +kernel, by decide +kernel⟩
def spTruth : Sp := fun vs H Q _ => ∃ (a b : Bool), vs = [.bl a, .bl b] ∧ Q (.bl (a == b)) H
theorem ok_truth (F : FnP K "_law_truth" sTruth f fd) (gI : mg "isinstance" = none) (gB : mg "bool" = none) : FnOk P w K mg base CX0 1 f fd ["_law_found", "_law_due"] spTruth := by
  refine F.ok scTruth (fun vs H Q E h => ?_) (fun cdv A outer s H vs Q E hr h => ?_)
  · obtain ⟨a, b, rfl, _⟩ := h
    rfl
  · obtain ⟨a, b, rfl, q⟩ := h
    refine ⟨_, PSs.nox (pss_one (ps_ret (pe_and (pe_callB call_isi (by rfl) gI (by decide +kernel) (pa_cons (pv 0) (pa_cons (pe_bltn (v := .ty "bool") (by rfl) gB (by decide +kernel) rfl) pa_nil))) (pe_one (pe_cmpR op_eq (pv 0) (pv 1) (nomark _)))))), ?_⟩
    refine ⟨_, rfl, ?_⟩
    refine ⟨_, _, _, _, true, rfl, .ty _, .base (.bl a), kit_ty (by decide +kernel), _, rfl, ?_⟩
    refine iteT ⟨_, rfl, _, rfl, rfl, ?_⟩
    rw [show decide (V.bl a = V.bl b) = (a == b) by cases a <;> cases b <;> rfl]
    exact q
/-! ### _rank -/
theorem scRank : FnScope ["one"] ["one"] (defScope sRank) := ⟨rfl, rfl, rfl, by decide +kernel, rfl, by decide +kernel, by decide +kernel⟩
def rk (xs : List Str) : PyData := .tuple [.int xs.length, .list (xs.map PyData.str)]
def spRank (K : PySem.W.Frag) : Sp := fun vs H Q _ => ∃ (a : Addr) (xs : List Str), vs = [.ref a] ∧ SqL K H a (xs.map V.str) ∧ ∀ v H', Gr H H' → Dp K H' v (rk xs) → Q v H'
theorem dp_strs {K : PySem.W.Frag} {H : Hp} (xs : List Str) : DpAll K H (xs.map V.str) (xs.map PyData.str) := by
  induction xs with
  | nil => exact .nil
  | cons x r ih => exact .cons (.str x) ih
theorem ok_rank (F : FnP K "_rank" sRank f fd) (gL : mg "len" = none) : FnOk P w K mg base CX0 1 f fd ["one"] (spRank K) := by
  refine F.ok scRank (fun vs H Q E h => ?_) (fun cdv A outer s H vs Q E hr h => ?_)
  · obtain ⟨a, xs, rfl, _⟩ := h
    rfl
  · obtain ⟨a, xs, rfl, hS, q⟩ := h
    refine ⟨_, PSs.nox (pss_one (ps_ret (pe_tup (pa_cons (pe_callB call_len_seq (by rfl) gL boot_len (pa_cons (pv 0) pa_nil)) (pa_cons (pv 0) pa_nil))))), ?_⟩
    refine ⟨_, rfl, a, _, rfl, .inl hS, _, rfl, (by show 2 ≤ sizeLine; decide), fun t ht => ?_⟩
    refine q _ _ (Gr.new ht) ?_
    rw [List.length_map]
    exact .tup (.inl (.inl upd_same)) (.cons (.int _) (.cons (.lst ((Gr.new ht).seq hS) (dp_strs xs)) .nil))
end
end K1
end
section
set_option maxHeartbeats 4000000
namespace Gx
open PySem PySem.Spec PyProof.Rows L2 GxR
theorem gx_list {K : PySem.W.Frag} {a : Addr} {xs : List V} {P : Addr} {stp : Bool} {g : TG} {tt : TT} {te : TE} {vs : List Nat} {σ : L2.St} {H1 : Hp} {Qs Qn : Hp → Prop} (hT : TabG H1 P) (Pv : Nat → Hp → Prop) (h0 : ∀ H2, Tabbed P H1 H2 → Pv 0 H2) (hl : ∀ i H, i ≤ xs.length → Pv i H → SqL K H a xs)
    (hs : ∀ i x H (Nx : Hp → Prop), (∀ H', Pv (i + 1) H' → Nx H') → xs[i]? = some x → Pv i H → g x (wipe σ vs) H fun σ2 H3 => wipe σ2 vs = wipe σ vs ∧ tt σ2 H3 fun c H4 =>
      if c = true then te σ2 H4 fun y H5 => ∃ b, y = .bl b ∧ (b = stp → Qs H5) ∧ (b ≠ stp → Nx H5) else Nx H4) (hd : ∀ H, Pv xs.length H → Qn H) :
    TabG H1 P ∧ ∀ H2, Tabbed P H1 H2 → ∃ W : Nat → Nat → Hp → Prop, (∃ m, W 0 m H2) ∧ ∀ i m H, W i m H →
      ((Itl K a).stop i H ∧ Qn H) ∨ ((Itl K a).go i H ∧ ∀ x H', (Itl K a).yld i H x H' → g x (wipe σ vs) H' fun σ2 H3 => wipe σ2 vs = wipe σ vs ∧ tt σ2 H3 fun c H4 =>
        if c = true then te σ2 H4 fun y H5 => ∃ b, y = .bl b ∧ (b = stp → Qs H5) ∧ (b ≠ stp → ∃ m', m' < m ∧ W (i + 1) m' H5) else ∃ m', m' < m ∧ W (i + 1) m' H4) := by
  refine ⟨hT, fun H2 t2 => ⟨fun i m H => m = xs.length - i ∧ i ≤ xs.length ∧ Pv i H, ⟨xs.length, by simp, Nat.zero_le _, h0 H2 t2⟩, ?_⟩⟩
  rintro i m H ⟨rfl, hi, p⟩
  have q := hl i H hi p
  by_cases hlt : i < xs.length
  · refine .inr ⟨⟨xs, xs[i], q, by simp [hlt]⟩, fun x H' y => ?_⟩
    obtain ⟨e, y⟩ := y
    subst e
    exact hs i x _ _ (fun H6 p6 => ⟨xs.length - (i + 1), by omega, rfl, hlt, p6⟩) (y xs q) p
  · have e : i = xs.length := by omega
    subst e
    exact .inl ⟨⟨xs, q, Nat.le_refl _⟩, hd H p⟩
end Gx
namespace K1
open PySem PySem.Spec PyProof.Rows L2 Gr GxR Srx
theorem yesIf {A B : Hp → Prop} {σ : L2.St} {H : Hp} (h : A H) : tYes σ H fun c H4 => if c = true then A H4 else B H4 := h
theorem hu64 {k : Nat} {A : Around} (hr : Room k A) : A.units + 64 < cLine := by
  have := hr.un
  omega
section
variable {P : Program} {w : World} {K : PySem.W.Frag} {mg : Str → Option Value} {base : Heap} {f : Addr} {fd : FuncData} {p : He.Defn}
/-! ### within, meets -/
abbrev Tb (K : PySem.W.Frag) (base : Heap) (mg : Str → Option Value) (p : He.Defn) : Prop := TabB base mg (He.cT K p).1 (He.cT K p).2
theorem scWithin : FnScope ["one", "other", "name"] ["one", "other"] (defScope sWithin) := ⟨rfl, rfl, rfl, by decide +kernel, rfl, by decide +kernel, by decide +kernel⟩
def spWithin (K : PySem.W.Frag) (T : Addr) : Sp := fun vs H Q _ => ∃ (a b : Addr) (xs ys : List Str), vs = [.ref a, .ref b] ∧ SqL K H a (xs.map V.str) ∧ SqL K H b (ys.map V.str) ∧ TabG H T ∧ ∀ H', Gr H H' → Q (.bl (xs.all ys.contains)) H'
def gexp : Stmt → Scope
  | .FunctionDef (body := [.Return (some (.Call _ [.GeneratorExp _ _ s _] _ _)) _]) .. => s
  | _ => ⟨.function, [], false, false, []⟩
theorem blkWithin : BlkOk ["one", "other", "name"] (defScope sWithin) (gexp sWithin) [("name", 2)] := blkOk_by (by decide +kernel)
theorem gxsWithin : Gx.GxS (gexp sWithin) := Gx.gxs_by (by decide +kernel)
theorem ok_within (F : FunD K "within" "within" (defArgs sWithin) (defBody sWithin) (defScope sWithin) [] [] (He.fAd K p) fd) (T : Tb K base mg p) (gA : mg "all" = none) : FnOk P w K mg base CX0 1 (He.fAd K p) fd ["one", "other"] (spWithin K (He.cT K p).2) := by
  refine okC F scWithin (fun vs H Q E h => ?_) (fun A outer s H vs Q E hr h => ?_)
  · obtain ⟨a, b, xs, ys, rfl, _⟩ := h
    rfl
  · obtain ⟨a, b, xs, ys, rfl, hA, hB, hT, q⟩ := h
    refine ⟨_, PSs.nox (pss_one (ps_ret (Gx.pe_all (own := [("name", 2)]) (gt := gName 2) (tt := tYes) hr rfl scWithin.nd (by rfl) gA T rfl blkWithin gxsWithin (pi_list (pv 0))
      (fun _ _ _ _ _ _ => pg_name (i := 2) scWithin.nd rfl (.inl rfl)) (fun _ _ _ _ _ _ => pts_nil) (fun _ _ _ _ _ _ => pe_cmpR (r := rIn K false) op_in_seq (pv 2) (pv 1) rfl)))), ?_⟩
    refine ⟨_, rfl, a, rfl, ⟨_, hA⟩, Gx.gx_list (xs := xs.map V.str) hT (fun i H' => Gr H H' ∧ (xs.take i).all ys.contains = true) (fun H2 t2 => ⟨Gr.tabbed hT t2, rfl⟩) (fun i H' _ h => h.1.seq hA) (fun i x H' Nx nx hx h => ?_) (fun H' h => ?_)⟩
    · obtain ⟨g, hn⟩ := h
      obtain ⟨y, hy, rfl⟩ := get_map hx
      refine ⟨rfl, yesIf ?_⟩
      refine ⟨_, rfl, _, rfl, b, _, rfl, .inl (g.seq hB), rfl, flat_str ys, _, rfl, fun e => ?_, fun e => nx _ ⟨g, ?_⟩⟩
      · rw [inV_str] at e
        have z := q H' g
        rw [show xs.all ys.contains = false from List.all_eq_false.mpr ⟨y, List.mem_of_getElem? hy, by rw [show ys.contains y = false from e]; exact Bool.false_ne_true⟩] at z
        exact z
      · rw [inV_str] at e
        rw [all_at hy, hn, show ys.contains y = true by simpa using e]
        rfl
    · have z := q H' h.1
      have hn := h.2
      rw [List.length_map, List.take_length] at hn
      rw [hn] at z
      exact z
theorem scMeets : FnScope ["one", "other", "name"] ["one", "other"] (defScope sMeets) := ⟨rfl, rfl, rfl, by decide +kernel, rfl, by decide +kernel, by decide +kernel⟩
def spMeets (K : PySem.W.Frag) (T : Addr) : Sp := fun vs H Q _ => ∃ (a b : Addr) (xs ys : List Str), vs = [.ref a, .ref b] ∧ SqL K H a (xs.map V.str) ∧ SqL K H b (ys.map V.str) ∧ TabG H T ∧ ∀ H', Gr H H' → Q (.bl (xs.any ys.contains)) H'
theorem blkMeets : BlkOk ["one", "other", "name"] (defScope sMeets) (gexp sMeets) [("name", 2)] := blkOk_by (by decide +kernel)
theorem gxsMeets : Gx.GxS (gexp sMeets) := Gx.gxs_by (by decide +kernel)
theorem ok_meets (F : FunD K "meets" "meets" (defArgs sMeets) (defBody sMeets) (defScope sMeets) [] [] (He.fAd K p) fd) (T : Tb K base mg p) (gA : mg "any" = none) : FnOk P w K mg base CX0 1 (He.fAd K p) fd ["one", "other"] (spMeets K (He.cT K p).2) := by
  refine okC F scMeets (fun vs H Q E h => ?_) (fun A outer s H vs Q E hr h => ?_)
  · obtain ⟨a, b, xs, ys, rfl, _⟩ := h
    rfl
  · obtain ⟨a, b, xs, ys, rfl, hA, hB, hT, q⟩ := h
    refine ⟨_, PSs.nox (pss_one (ps_ret (Gx.pe_any (own := [("name", 2)]) (gt := gName 2) (tt := tYes) hr rfl scMeets.nd (by rfl) gA T rfl blkMeets gxsMeets (pi_list (pv 0))
      (fun _ _ _ _ _ _ => pg_name (i := 2) scMeets.nd rfl (.inl rfl)) (fun _ _ _ _ _ _ => pts_nil) (fun _ _ _ _ _ _ => pe_cmpR (r := rIn K false) op_in_seq (pv 2) (pv 1) rfl)))), ?_⟩
    refine ⟨_, rfl, a, rfl, ⟨_, hA⟩, Gx.gx_list (xs := xs.map V.str) hT (fun i H' => Gr H H' ∧ (xs.take i).any ys.contains = false) (fun H2 t2 => ⟨Gr.tabbed hT t2, rfl⟩) (fun i H' _ h => h.1.seq hA) (fun i x H' Nx nx hx h => ?_) (fun H' h => ?_)⟩
    · obtain ⟨g, hn⟩ := h
      obtain ⟨y, hy, rfl⟩ := get_map hx
      refine ⟨rfl, yesIf ?_⟩
      refine ⟨_, rfl, _, rfl, b, _, rfl, .inl (g.seq hB), rfl, flat_str ys, _, rfl, fun e => ?_, fun e => nx _ ⟨g, ?_⟩⟩
      · rw [inV_str] at e
        have z := q H' g
        rw [show xs.any ys.contains = true from List.any_eq_true.mpr ⟨y, List.mem_of_getElem? hy, e⟩] at z
        exact z
      · rw [inV_str] at e
        rw [any_at hy, hn, show ys.contains y = false by simpa using e]
        rfl
    · have z := q H' h.1
      have hn := h.2
      rw [List.length_map, List.take_length] at hn
      rw [hn] at z
      exact z
/-! ### _once_each -/
theorem scOnce : FnScope ["names"] ["names"] (defScope sOnce) := ⟨rfl, rfl, rfl, by decide +kernel, rfl, by decide +kernel, by decide +kernel⟩
/-- a list's names in order, each once -/
def once (xs : List Str) : List Str := srt (Sx.dd xs)
def spOnce (K : PySem.W.Frag) : Sp := fun vs H Q _ => ∃ (a : Addr) (xs : List Str), vs = [.ref a] ∧ SqL K H a (xs.map V.str) ∧ xs.length ≤ 1000 ∧ ∀ p H', Gr H H' → H p = none → H' p = some (.lst ((once xs).map V.str)) → Q (.ref p) H'
theorem ok_once (F : FnP K "_once_each" sOnce f fd) (gS : mg "sorted" = none) (gT : mg "set" = none) : FnOk P w K mg base CX0 1 f fd ["names"] (spOnce K) := by
  refine F.ok scOnce (fun vs H Q E h => ?_) (fun cdv A outer s H vs Q E hr h => ?_)
  · obtain ⟨a, xs, rfl, _⟩ := h
    rfl
  · obtain ⟨a, xs, rfl, hA, few, q⟩ := h
    refine ⟨_, PSs.nox (pss_one (ps_ret (pe_callB (Srx.cr_sortedTx rfl (hu64 hr)) (by rfl) gS boot_sorted (pa_cons (pe_callTy (Srx.cr_setTx rfl) (by rfl) gT boot_set (pa_cons (pv 0) pa_nil)) pa_nil)))), ?_⟩
    refine ⟨_, rfl, a, xs, rfl, hA, few, fun b nb => ?_⟩
    refine ⟨b, Sx.dd xs, rfl, upd_same, fun p np => ?_⟩
    have g : Gr H (upd (upd H b (Srx.SetTx w b (Sx.dd xs))) p (.lst ((srt (Sx.dd xs)).map V.str))) := (Gr.new nb).trans (Gr.new np)
    exact q p _ g ((Gr.new nb).free np) upd_same
end
end K1
end
section
set_option maxHeartbeats 4000000
namespace Gx
open PySem PySem.Spec PyProof.Rows L2 GxR
theorem gx_text {x : Str} {P : Addr} {stp : Bool} {g : TG} {tt : TT} {te : TE} {vs : List Nat} {σ : L2.St} {H1 : Hp} {Qs Qn : Hp → Prop} (hT : TabG H1 P) (Pv : Nat → Hp → Prop) (h0 : ∀ H2, Tabbed P H1 H2 → Pv 0 H2)
    (hs : ∀ i c H (Nx : Hp → Prop), (∀ H', Pv (i + 1) H' → Nx H') → x.cps.toList[i]? = some c → Pv i H → g (.str ⟨#[c]⟩) (wipe σ vs) H fun σ2 H3 => wipe σ2 vs = wipe σ vs ∧ tt σ2 H3 fun c H4 =>
      if c = true then te σ2 H4 fun y H5 => ∃ b, y = .bl b ∧ (b = stp → Qs H5) ∧ (b ≠ stp → Nx H5) else Nx H4) (hd : ∀ H, Pv x.cps.toList.length H → Qn H) :
    TabG H1 P ∧ ∀ H2, Tabbed P H1 H2 → ∃ W : Nat → Nat → Hp → Prop, (∃ m, W 0 m H2) ∧ ∀ i m H, W i m H →
      ((Its x).stop i H ∧ Qn H) ∨ ((Its x).go i H ∧ ∀ v H', (Its x).yld i H v H' → g v (wipe σ vs) H' fun σ2 H3 => wipe σ2 vs = wipe σ vs ∧ tt σ2 H3 fun c H4 =>
        if c = true then te σ2 H4 fun y H5 => ∃ b, y = .bl b ∧ (b = stp → Qs H5) ∧ (b ≠ stp → ∃ m', m' < m ∧ W (i + 1) m' H5) else ∃ m', m' < m ∧ W (i + 1) m' H4) := by
  refine ⟨hT, fun H2 t2 => ⟨fun i m H => m = x.cps.size - i ∧ i ≤ x.cps.size ∧ Pv i H, ⟨x.cps.size, by simp, Nat.zero_le _, h0 H2 t2⟩, ?_⟩⟩
  rintro i m H ⟨rfl, hi, p⟩
  by_cases hlt : i < x.cps.size
  · refine .inr ⟨hlt, fun v H' y => ?_⟩
    obtain ⟨e, c, hc, rfl⟩ := y
    subst e
    exact hs i c _ _ (fun H6 p6 => ⟨x.cps.size - (i + 1), by omega, rfl, hlt, p6⟩) (by rw [Array.getElem?_toList]; exact hc) p
  · have e : i = x.cps.size := by omega
    subst e
    exact .inl ⟨Nat.le_refl _, hd H (by rw [Array.length_toList]; exact p)⟩
end Gx
namespace K1
open PySem PySem.Spec PyProof.Rows L2 Gr GxR Srx
def small (c : Nat) : Bool := decide (97 ≤ c) && decide (c ≤ 122)
/-- a text of 1 to 8 small letters -/
def isNm (x : Str) : Bool := decide (1 ≤ x.length) && (decide (x.length ≤ 8) && x.cps.toList.all small)
def nmV : V → Bool
  | .str x => isNm x
  | _ => false
def strV : V → Bool
  | .str _ => true
  | _ => false
/-- a thing whose kind is_name can ask -/
def Thing (K : PySem.W.Frag) (H : Hp) (v : V) : Prop := ∃ t : String, TyX K H v (.type t) ∧ kitB t "str" = some (strV v) ∧ (∀ x, v = .str x → x.length ≤ sizeLine)
theorem lt_one (c d : Nat) : (([c] : List Nat) < [d]) ↔ c < d := by
  rw [List.cons_lt_cons_iff]
  constructor
  · rintro (h | ⟨_, h⟩)
    · exact h
    · exact absurd h (List.not_lt_nil _)
  · exact .inl
section
variable {P : Program} {w : World} {K : PySem.W.Frag} {mg : Str → Option Value} {base : Heap} {f : Addr} {fd : FuncData} {p : He.Defn}
theorem scIsName : FnScope ["thing", "letter"] ["thing"] (defScope sIsName) := ⟨rfl, rfl, rfl, by decide +kernel, rfl, by decide +kernel, by decide +kernel⟩
def spIsName (K : PySem.W.Frag) (T : Addr) : Sp := fun vs H Q _ => ∃ v, vs = [v] ∧ Thing K H v ∧ TabG H T ∧ ∀ H', Gr H H' → Q (.bl (nmV v)) H'
def gexp2 : Stmt → Scope
  | .FunctionDef (body := [_, .Return (some (.Call _ [.GeneratorExp _ _ s _] _ _)) _]) .. => s
  | _ => ⟨.function, [], false, false, []⟩
theorem blkIsName : BlkOk ["thing", "letter"] (defScope sIsName) (gexp2 sIsName) [("letter", 1)] := blkOk_by (by decide +kernel)
theorem gxsIsName : Gx.GxS (gexp2 sIsName) := Gx.gxs_by (by decide +kernel)
theorem ok_isname (F : FunD K "is_name" "is_name" (defArgs sIsName) (defBody sIsName) (defScope sIsName) [] [] (He.fAd K p) fd) (T : Tb K base mg p) (gA : mg "all" = none) (gI : mg "isinstance" = none) (gS : mg "str" = none) (gL : mg "len" = none) (gM : ∃ t, mg "MOST_LETTERS" = some (.int 8 t)) :
    FnOk P w K mg base CX0 1 (He.fAd K p) fd ["thing"] (spIsName K (He.cT K p).2) := by
  obtain ⟨tM, gM⟩ := gM
  refine okC F scIsName (fun vs H Q E h => ?_) (fun A outer s H vs Q E hr h => ?_)
  · obtain ⟨v, rfl, _⟩ := h
    rfl
  · obtain ⟨v, rfl, hv, hT, q⟩ := h
    refine ⟨_, PSs.nox (pss_cons (ps_if (PW.pt (pw_or (pt_not (pt_val (pe_callB call_isi (by rfl) gI (by decide +kernel) (pa_cons (pv 0) (pa_cons (pe_bltn (v := .ty "str") (by rfl) gS (by decide +kernel) rfl) pa_nil)))))
        (pw_or1 (pt_not (pt_chain op_le op_le pe_int (pe_callB call_len_str (by rfl) gL boot_len (pa_cons (pv 0) pa_nil)) (pe_glob (v := .int 8) (by rfl) gM ⟨_, rfl⟩)))))) (pss_one (ps_ret pe_bl)) pss_nil)
      (pss_one (ps_ret (Gx.pe_all (own := [("letter", 1)]) (gt := gName 1) (tt := tYes) hr rfl scIsName.nd (by rfl) gA T rfl blkIsName gxsIsName (pi_str (pv 0))
      (fun _ _ _ _ _ _ => pg_name (i := 1) scIsName.nd rfl (.inl rfl)) (fun _ _ _ _ _ _ => pts_nil) (fun _ _ _ _ _ _ => pe_chain op_le_str op_le_str pe_str (pv 1) pe_str))))), ?_⟩
    obtain ⟨t, ty, kt, hl⟩ := hv
    refine ⟨v, rfl, _, _, _, _, _, rfl, .ty _, ty, kit_ty kt, _, rfl, ?_⟩
    cases v with
    | str x =>
      refine iteF ?_
      refine ⟨V.str x, rfl, x, rfl, hl x rfl, 1, _, rfl, rfl, _, rfl, ?_⟩
      by_cases h1 : (1 : Int) ≤ x.length
      · rw [decide_eq_true h1]
        refine iteT ⟨_, _, rfl, rfl, ?_⟩
        refine ⟨decide ((x.length : Int) ≤ 8), rfl, ?_⟩
        by_cases h8 : (x.length : Int) ≤ 8
        · rw [decide_eq_true h8]
          refine iteF ?_
          refine ⟨_, rfl, x, rfl, Gx.gx_text hT (fun i H' => Gr H H' ∧ (x.cps.toList.take i).all small = true) (fun H2 t2 => ⟨Gr.tabbed hT t2, rfl⟩) (fun i c H' Nx nx hc h => ?_) (fun H' h => ?_)⟩
          · obtain ⟨g, hn⟩ := h
            refine ⟨rfl, yesIf ?_⟩
            have e1 : (!decide ((⟨#[c]⟩ : Str).cps.toList < (Str.ofString "a").cps.toList)) = decide (97 ≤ c) := by
              show (!decide ([c] < [97])) = _
              rw [decide_eq_decide.mpr (lt_one c 97)]
              by_cases z : 97 ≤ c
              · rw [decide_eq_true z, decide_eq_false (by omega)]; rfl
              · rw [decide_eq_false z, decide_eq_true (by omega)]; rfl
            have e2 : (!decide ((Str.ofString "z").cps.toList < (⟨#[c]⟩ : Str).cps.toList)) = decide (c ≤ 122) := by
              show (!decide ([122] < [c])) = _
              rw [decide_eq_decide.mpr (lt_one 122 c)]
              by_cases z : c ≤ 122
              · rw [decide_eq_true z, decide_eq_false (by omega)]; rfl
              · rw [decide_eq_false z, decide_eq_true (by omega)]; rfl
            have bad : small c = false → Q (.bl false) H' := by
              intro z
              have hq := q H' g
              rw [show nmV (V.str x) = false by
                show isNm x = false
                unfold isNm
                rw [show x.cps.toList.all small = false from List.all_eq_false.mpr ⟨c, List.mem_of_getElem? hc, by rw [z]; exact Bool.false_ne_true⟩]
                simp] at hq
              exact hq
            refine ⟨_, rfl, _, _, rfl, rfl, _, rfl, ?_⟩
            rw [e1]
            by_cases z1 : 97 ≤ c
            · rw [decide_eq_true z1]
              refine iteT ⟨_, _, rfl, rfl, _, rfl, fun e => bad ?_, fun e => nx _ ⟨g, ?_⟩⟩
              · rw [e2] at e
                unfold small
                rw [e, Bool.and_false]
              · rw [e2] at e
                have e : decide (c ≤ 122) = true := by simpa using e
                rw [List.take_add_one, hc, List.all_append, hn]
                show (true && ([c].all small)) = true
                rw [List.all_cons, List.all_nil]
                unfold small
                rw [decide_eq_true z1, e]
                rfl
            · rw [decide_eq_false z1]
              refine iteF ⟨_, rfl, fun _ => bad ?_, fun e => absurd rfl e⟩
              unfold small
              rw [decide_eq_false z1, Bool.false_and]
          · have hq := q H' h.1
            have hn := h.2
            rw [List.take_length] at hn
            rw [show nmV (V.str x) = true by
              show isNm x = true
              unfold isNm
              rw [hn, decide_eq_true (show 1 ≤ x.length by omega), decide_eq_true (show x.length ≤ 8 by omega)]
              rfl] at hq
            exact hq
        · rw [decide_eq_false h8]
          refine iteT ?_
          have hq := q H (Gr.refl H)
          rw [show nmV (V.str x) = false by
            show isNm x = false
            unfold isNm
            rw [decide_eq_false (show ¬ x.length ≤ 8 by omega)]
            simp] at hq
          exact hq
      · rw [decide_eq_false h1]
        refine iteF ⟨false, rfl, ?_⟩
        refine iteT ?_
        have hq := q H (Gr.refl H)
        rw [show nmV (V.str x) = false by
          show isNm x = false
          unfold isNm
          rw [decide_eq_false (show ¬ 1 ≤ x.length by omega)]
          simp] at hq
        exact hq
    | _ => exact q H (Gr.refl H)
end
end K1
end
section
namespace K1
open PySem PySem.Spec PyProof.Rows L2 Gr GxR Srx
open PySem.W (dataLe dataLt DatumOrd Datum)
/-! ### sets in their order -/
def leR (a b : List Str) : Bool := dataLe false rk a b
theorem leR_eq (a b : List Str) : leR a b = !dataLt (rk b) (rk a) := rfl
theorem toD_eq (xs : List Str) : (Datum.toD ((xs.length : Int), xs) : PyData) = rk xs := rfl
theorem str_anti {a b : Str} (h1 : decide (a.cps.toList < b.cps.toList) = false) (h2 : decide (b.cps.toList < a.cps.toList) = false) : a = b := by
  have h1 := of_decide_eq_false h1
  have h2 := of_decide_eq_false h2
  exact PySem.W.str_of_cps (List.le_antisymm h2 h1)
theorem listLt_anti : ∀ (xs ys : List Str), PySem.W.listLt xs ys = false → PySem.W.listLt ys xs = false → xs = ys
  | [], [], _, _ => rfl
  | [], y :: ys, h, _ => by cases (show true = false from h)
  | x :: xs, [], _, h => by cases (show true = false from h)
  | x :: xs, y :: ys, h1, h2 => by
    unfold PySem.W.listLt at h1 h2
    by_cases e : x = y
    · rw [if_pos e] at h1
      rw [if_pos e.symm] at h2
      rw [e, listLt_anti xs ys h1 h2]
    · rw [if_neg e] at h1
      rw [if_neg (fun z => e z.symm)] at h2
      exact absurd (str_anti h1 h2) e
theorem leR_anti {a b : List Str} (h1 : leR a b = true) (h2 : leR b a = true) : a = b := by
  rw [leR_eq, Bool.not_eq_true'] at h1 h2
  rw [← toD_eq, ← toD_eq, DatumOrd.lt_eq] at h1 h2
  have h1 : (if (b.length : Int) = a.length then PySem.W.listLt b a else decide ((b.length : Int) < a.length)) = false := h1
  have h2 : (if (a.length : Int) = b.length then PySem.W.listLt a b else decide ((a.length : Int) < b.length)) = false := h2
  by_cases e : (a.length : Int) = b.length
  · rw [if_pos e.symm] at h1
    rw [if_pos e] at h2
    exact listLt_anti a b h2 h1
  · rw [if_neg (fun z => e z.symm)] at h1
    rw [if_neg e] at h2
    have := of_decide_eq_false h1
    have := of_decide_eq_false h2
    omega
theorem leR_trans {a b c : List Str} (h1 : leR a b = true) (h2 : leR b c = true) : leR a c = true := by
  rw [leR_eq, Bool.not_eq_true'] at *
  by_cases z : dataLt (rk c) (rk a) = true
  · rcases PyProof.Rows.lex_negTrans _ (PySem.W.keyToks (rk b)) _ z with y | y
    · rw [show dataLt (rk c) (rk b) = true from y] at h2
      cases h2
    · rw [show dataLt (rk b) (rk a) = true from y] at h1
      cases h1
  · simpa using z
theorem leR_total (a b : List Str) : (leR a b || leR b a) = true := by
  rw [leR_eq, leR_eq]
  cases h : dataLt (rk b) (rk a) with
  | false => rfl
  | true =>
    cases h2 : dataLt (rk a) (rk b) with
    | false => rfl
    | true =>
      have := PyProof.Rows.lex_trans _ _ _ (show PyProof.Rows.lexLt _ _ _ = true from h) (show PyProof.Rows.lexLt _ _ _ = true from h2)
      have e := PySem.W.dataLt_self (rk b)
      rw [show dataLt (rk b) (rk b) = true from this] at e
      cases e
def rkd (xss : List (List Str)) : List (List Str) := xss.mergeSort leR
theorem rkd_perm (xss : List (List Str)) : (rkd xss).Perm xss := List.mergeSort_perm _ _
theorem rkd_sorted (xss : List (List Str)) : (rkd xss).Pairwise (fun a b => leR a b = true) := List.pairwise_mergeSort (le := leR) (fun _ _ _ h1 h2 => leR_trans h1 h2) leR_total xss
theorem rkd_one {xs ys : List (List Str)} (p : xs.Perm ys) (h1 : xs.Pairwise (fun a b => leR a b = true)) (h2 : ys.Pairwise (fun a b => leR a b = true)) : xs = ys :=
  List.Perm.eq_of_pairwise (fun a b _ _ z1 z2 => leR_anti z1 z2) h1 h2 p
/-! ### each once -/
section
variable {α : Type} [DecidableEq α]
def once1 (acc : List α) (x : α) : List α := if x ∈ acc then acc else acc ++ [x]
def ddG (xs : List α) : List α := xs.foldl once1 []
theorem ddG_snoc (xs : List α) (x : α) : ddG (xs ++ [x]) = once1 (ddG xs) x := by
  unfold ddG
  rw [List.foldl_append]
  rfl
theorem once1_mem {acc : List α} {x y : α} : y ∈ once1 acc x ↔ y ∈ acc ∨ y = x := by
  unfold once1
  split
  · rename_i h
    exact ⟨.inl, fun z => z.elim id fun e => e ▸ h⟩
  · simp
theorem once1_nodup {acc : List α} {x : α} (h : acc.Nodup) : (once1 acc x).Nodup := by
  unfold once1
  split
  · exact h
  · rename_i hx
    refine List.nodup_append.mpr ⟨h, by simp, fun a ha b hb e => ?_⟩
    have hb : b = x := by simpa using hb
    rw [e, hb] at ha
    exact hx ha
theorem fold1_mem : ∀ (xs acc : List α) (y : α), y ∈ xs.foldl once1 acc ↔ y ∈ acc ∨ y ∈ xs
  | [], acc, y => by simp
  | x :: xs, acc, y => by
    rw [List.foldl_cons, fold1_mem xs, once1_mem, List.mem_cons, or_assoc]
theorem fold1_nodup : ∀ (xs acc : List α), acc.Nodup → (xs.foldl once1 acc).Nodup
  | [], _, h => h
  | _ :: xs, _, h => fold1_nodup xs _ (once1_nodup h)
theorem fold1_sub : ∀ (xs acc : List α), List.Sublist (xs.foldl once1 acc) (acc ++ xs)
  | [], acc => by rw [List.append_nil]; exact List.Sublist.refl _
  | x :: xs, acc => by
    rw [List.foldl_cons]
    refine (fold1_sub xs _).trans ?_
    unfold once1
    split
    · exact List.Sublist.append (List.Sublist.refl _) (List.sublist_cons_self _ _)
    · rw [List.append_assoc]
      exact List.Sublist.refl _
theorem ddG_mem {xs : List α} {y : α} : y ∈ ddG xs ↔ y ∈ xs := by
  unfold ddG
  rw [fold1_mem]
  simp
theorem ddG_nodup (xs : List α) : (ddG xs).Nodup := fold1_nodup xs [] List.nodup_nil
theorem ddG_sub (xs : List α) : List.Sublist (ddG xs) xs := fold1_sub xs []
theorem ddG_len (xs : List α) : (ddG xs).length ≤ xs.length := (ddG_sub xs).length_le
end
theorem rkd_dd (xss : List (List Str)) : rkd (ddG xss) = ddG (rkd xss) := by
  refine rkd_one ((rkd_perm _).trans ?_) (rkd_sorted _) ((rkd_sorted xss).sublist (ddG_sub _))
  refine (List.perm_ext_iff_of_nodup (ddG_nodup _) (ddG_nodup _)).mpr fun q => ?_
  rw [ddG_mem, ddG_mem, (rkd_perm xss).mem_iff]
/-! ### those within which no other one lies -/
def wi (a b : List Str) : Bool := a.all b.contains
def keep (acc : List (List Str)) (x : List Str) : List (List Str) := if acc.any (fun l => wi l x) = true then acc else acc ++ [x]
theorem wi_self (x : List Str) : wi x x = true := List.all_eq_true.mpr fun y hy => List.contains_iff_mem.mpr hy
theorem keep_any {acc : List (List Str)} {x y : List Str} (h : acc.any (fun l => wi l y) = true) : (keep acc x).any (fun l => wi l y) = true := by
  unfold keep
  split
  · exact h
  · rw [List.any_append, h]
    rfl
theorem keep_self (acc : List (List Str)) (x : List Str) : (keep acc x).any (fun l => wi l x) = true := by
  unfold keep
  split
  · assumption
  · rw [List.any_append]
    simp [wi_self]
theorem fold_any : ∀ (l acc : List (List Str)) (y : List Str), (acc.any (fun l => wi l y) = true ∨ y ∈ l) → (l.foldl keep acc).any (fun l => wi l y) = true
  | [], acc, y, h => h.elim id fun z => nomatch z
  | x :: l, acc, y, h => by
    refine fold_any l _ y ?_
    rcases h with h | h
    · exact .inl (keep_any h)
    · rcases List.mem_cons.mp h with e | h
      · rw [e]
        exact .inl (keep_self acc x)
      · exact .inr h
theorem snoc_ind {α : Type} {p : List α → Prop} (h0 : p []) (h1 : ∀ xs x, p xs → p (xs ++ [x])) : ∀ xs, p xs := by
  intro xs
  rw [← List.reverse_reverse xs]
  induction xs.reverse with
  | nil => exact h0
  | cons x r ih =>
    rw [List.reverse_cons]
    exact h1 _ _ ih
theorem keep_dd (l : List (List Str)) : (ddG l).foldl keep [] = l.foldl keep [] := by
  refine snoc_ind (p := fun l => (ddG l).foldl keep [] = l.foldl keep []) rfl (fun xs x ih => ?_) l
  rw [ddG_snoc, List.foldl_append]
  show _ = keep (xs.foldl keep []) x
  unfold once1
  split
  · rename_i h
    rw [ih]
    have z := fold_any xs [] x (.inr (ddG_mem.mp h))
    exact (if_pos z).symm
  · rw [List.foldl_append, ih]
    rfl
/-- least_of's sets, told -/
def least (xss : List (List Str)) : List (List Str) := (rkd (ddG xss)).foldl keep []
theorem least_eq (xss : List (List Str)) : least xss = (rkd xss).foldl keep [] := by
  unfold least
  rw [rkd_dd, keep_dd]
end K1
end
section
set_option maxHeartbeats 4000000
namespace K1
open PySem PySem.Spec PyProof.Rows L2 Gr GxR Srx Skx
open PySem.W (dataLe dataLt DatumOrd Datum)
/-! ### new lists of new lists -/
/-- p: a new list of new lists: ps tells where they stand and what they are -/
structure Told (H H' : Hp) (p : Addr) (ps : List (Addr × List Str)) : Prop where
  new : H p = none
  at_ : H' p = some (.lst (ps.map fun q => V.ref q.1))
  own : ∀ q ∈ ps, H q.1 = none ∧ q.1 ≠ p ∧ H' q.1 = some (.lst (q.2.map V.str))
  nd : (ps.map (·.1)).Nodup
theorem Told.nil {H H1 : Hp} {p : Addr} (h : H p = none) : Told H (upd H1 p (.lst [])) p [] :=
  { new := h, at_ := upd_same, own := (fun q z => absurd z List.not_mem_nil), nd := List.nodup_nil }
theorem Told.snoc {H H2 : Hp} {D l : Addr} {ps : List (Addr × List Str)} {x : List Str} (T : Told H H2 D ps) (g : Gr H H2) (hl : H2 l = none) : Told H (upd (upd H2 l (.lst (x.map V.str))) D (.lst ((ps.map fun q => V.ref q.1) ++ [V.ref l]))) D (ps ++ [(l, x)]) := by
  have nD : D ≠ l := ne_of_none T.at_ hl
  refine ⟨T.new, ?_, fun q hq => ?_, ?_⟩
  · rw [upd_same, List.map_append]
    rfl
  · rcases List.mem_append.mp hq with hq | hq
    · obtain ⟨h1, h2, h3⟩ := T.own q hq
      refine ⟨h1, h2, ?_⟩
      rw [upd_ne h2, upd_ne (ne_of_none h3 hl)]
      exact h3
    · have e : q = (l, x) := by simpa using hq
      subst e
      refine ⟨g.free hl, nD.symm, ?_⟩
      rw [upd_ne nD.symm, upd_same]
  · rw [List.map_append]
    refine List.nodup_append.mpr ⟨T.nd, by simp, fun a ha b hb e => ?_⟩
    have hb : b = l := by simpa using hb
    obtain ⟨q, hq, rfl⟩ := List.mem_map.mp ha
    have h3 := (T.own q hq).2.2
    rw [e, hb, hl] at h3
    cases h3
theorem Told.gr {H H' H2 : Hp} {p : Addr} {ps : List (Addr × List Str)} (T : Told H H' p ps) (g : Gr H' H2) : Told H H2 p ps :=
  ⟨T.new, g.lst T.at_, fun q hq => ⟨(T.own q hq).1, (T.own q hq).2.1, g.lst (T.own q hq).2.2⟩, T.nd⟩
theorem Told.from {H0 H H' : Hp} {p : Addr} {ps : List (Addr × List Str)} (T : Told H H' p ps) (g : Gr H0 H) : Told H0 H' p ps :=
  ⟨g.free T.new, T.at_, fun q hq => ⟨g.free (T.own q hq).1, (T.own q hq).2⟩, T.nd⟩
theorem take_map {α β : Type} {f : α → β} {xs : List α} {i : Nat} {x : α} (h : xs[i]? = some x) : (xs.take (i + 1)).map f = (xs.take i).map f ++ [f x] := by
  rw [List.take_add_one, h, List.map_append]
  rfl
theorem lc_fresh {K : PySem.W.Frag} {a D : Addr} {j : Nat} {σ : L2.St} {vs : List Nat} {te : TE} {H H1 : Hp} {Qd : Hp → Prop} {ps0 : List (Addr × List Str)} (F : List Str → List Str)
    (hA : SqL K H a (ps0.map fun q => V.ref q.1)) (few : ps0.length < sizeLine) (gr : Gr H H1) (hD : H1 D = none) (hw : ∀ v, wipe ((wipe σ vs).set j (some v)) vs = wipe σ vs)
    (he : ∀ q ∈ ps0, ∀ (H4 : Hp) (Q' : VK), Gr H H4 → (∀ l, H4 l = none → Q' (.ref l) (upd H4 l (.lst ((F q.2).map V.str)))) → te ((wipe σ vs).set j (some (.ref q.1))) H4 Q')
    (q : ∀ H2 ps, Gr H H2 → Told H H2 D ps → ps.map (·.2) = ps0.map (fun q => F q.2) → Qd H2) :
    ∃ W : Nat → Nat → Hp → Prop, (∃ m, W 0 m (upd H1 D (.lst []))) ∧ ∀ i m H, W i m H →
      ((Itl K a).stop i H ∧ Qd H) ∨ ((Itl K a).go i H ∧ ∃ Nx : Hp → Prop, (∀ H', Nx H' → ∃ m', m' < m ∧ W (i + 1) m' H') ∧ ∀ x H', (Itl K a).yld i H x H' → gName j x (wipe σ vs) H' fun σ2 H2 => wipe σ2 vs = wipe σ vs ∧ tYes σ2 H2 fun b H3 =>
        if b = true then te σ2 H3 fun y H4 => ∃ acc, H4 D = some (.lst acc) ∧ acc.length < sizeLine ∧ Nx (upd H4 D (.lst (acc ++ [y]))) else Nx H3) := by
  have hD0 : H D = none := gr.free hD
  refine lc_list (xs := ps0.map fun q => V.ref q.1) (Qd := Qd) (fun i H2 => Gr H H2 ∧ ∃ ps, Told H H2 D ps ∧ ps.map (·.2) = (ps0.take i).map (fun q => F q.2)) ⟨gr.mut hD0, [], Told.nil hD0, rfl⟩ (fun i H2 _ h => h.1.seq hA) (fun i x H2 hx h => ?_) (fun H2 h => ?_)
  · obtain ⟨g2, ps, T, e⟩ := h
    obtain ⟨q0, hq0, rfl⟩ := get_map hx
    refine ⟨hw _, yesIf (he q0 (List.mem_of_getElem? hq0) H2 _ g2 fun l hl => ⟨_, ?_, ?_, g2.trans (Gr.new hl) |>.mut hD0, ps ++ [(l, F q0.2)], T.snoc g2 hl, ?_⟩)⟩
    · rw [upd_ne (ne_of_none T.at_ hl)]
      exact T.at_
    · rw [List.length_map]
      have h1 : ps.length = ((ps0.take i).map (fun q => F q.2)).length := by rw [← e, List.length_map]
      rw [h1, List.length_map, List.length_take]
      omega
    · rw [List.map_append, e, take_map hq0]
      rfl
  · obtain ⟨g2, ps, T, e⟩ := h
    rw [List.length_map, List.take_length] at e
    exact q H2 ps g2 T e
section
variable {P : Program} {w : World} {K : PySem.W.Frag} {mg : Str → Option Value} {base : Heap} {f fR : Addr} {fd fdR : FuncData} {p : He.Defn}
theorem ordRk : Ord rk := ⟨fun x y => by rw [← toD_eq, ← toD_eq]; exact DatumOrd.alike _ _, .inl fun x => ⟨_, _, rfl⟩, fun x => by
  rw [← toD_eq]
  exact Nat.le_trans (Datum.depth_le _) (by decide)⟩
/-- a list or tuple of texts -/
def Sq (K : PySem.W.Frag) (H : Hp) (a : Addr) (xs : List Str) : Prop := SqL K H a (xs.map V.str) ∨ SqT K H a (xs.map V.str)
theorem Sq.gr {H H' : Hp} {a : Addr} {xs : List Str} (h : Sq K H a xs) (g : Gr H H') : Sq K H' a xs := h.imp (fun z => g.seq z) fun z => g.seqT z
def rListOf (K : PySem.W.Frag) : List V → Hp → VK → Prop := fun xs H Q => ∃ p ys, xs = [V.ref p] ∧ (SqL K H p ys ∨ SqT K H p ys) ∧ ∀ l, H l = none → Q (.ref l) (upd H l (.lst ys))
/-! ### ranked -/
theorem scRanked : FnScope ["sets", "one"] ["sets"] (defScope sRanked) := ⟨rfl, rfl, rfl, by decide +kernel, rfl, by decide +kernel, by decide +kernel⟩
def spRanked (K : PySem.W.Frag) : Sp := fun vs H Q _ => ∃ (a : Addr) (ps0 : List (Addr × List Str)), vs = [.ref a] ∧ SqL K H a (ps0.map fun q => V.ref q.1) ∧ (∀ q ∈ ps0, Sq K H q.1 q.2) ∧ ps0.length < sizeLine ∧
  ∀ p H' ps, Gr H H' → Told H H' p ps → ps.map (·.2) = rkd (ps0.map (·.2)) → Q (.ref p) H'
theorem ok_ranked (F : FnP K "ranked" sRanked f fd) (FR : FnP K "_rank" sRank fR fdR) (gR : mg "_rank" = some (.ref fR)) (gS : mg "sorted" = none) (gLi : mg "list" = none) (gL : mg "len" = none) : FnOk P w K mg base CX0 4 f fd ["sets"] (spRanked K) := by
  have GR : FnOk P w K mg base CX0 1 fR fdR ["one"] (spRank K) := ok_rank FR gL
  have bR : Binds K fdR ["one"] [] := FR.bindsN fun _ _ _ _ _ _ us hl => match us, hl with | [_], _ => rfl
  refine F.ok scRanked (fun vs H Q E h => ?_) (fun cdv A outer s H vs Q E hr h => ?_)
  · obtain ⟨a, ps0, rfl, _⟩ := h
    rfl
  · obtain ⟨a, ps0, rfl, hA, hin, few, q⟩ := h
    refine ⟨_, PSs.nox (pss_one (ps_ret (pe_callBK (ks := ["key"]) (cr_sortedKey ordRk GR bR hr) (by rfl) gS boot_sorted
      (pa_cons (pe_lc (own := [("one", 1)]) (g := gName 1) (tt := tYes) rfl scRanked.nd (pi_list (pv 0)) (blkOk_by (N := ["sets", "one"]) (sc := defScope sRanked) (by decide +kernel)) (fun _ _ _ _ _ => pg_name (i := 1) scRanked.nd rfl (.inl rfl)) (fun _ _ _ _ _ => pts_nil)
        (fun _ _ _ _ _ => pe_callTy (r := rListOf K) call_list_of (by rfl) gLi boot_list (pa_cons (pv 1) pa_nil))) pa_nil)
      (pk_cons (pe_glob (v := .ref fR) (by rfl) gR rfl) pk_nil)))), ?_⟩
    refine ⟨_, rfl, a, rfl, ⟨_, hA⟩, fun D hD => lc_fresh (fun x => x) hA few (Gr.refl H) hD (fun v => rfl) (fun q0 hq0 H4 Q' g4 h4 => ?_) fun H2 ps g2 T e => ?_⟩
    · refine ⟨_, rfl, q0.1, q0.2.map V.str, rfl, (hin q0 hq0).gr g4, h4⟩
    · refine ⟨D, ps.map fun q => (V.ref q.1, q.2), rfl, rfl, ?_, fun b hb => ?_, fun H3 r g3 hr3 => ?_⟩
      · rw [List.map_map]
        exact .inl (.inl T.at_)
      · obtain ⟨q0, hq0, rfl⟩ := List.mem_map.mp hb
        intro H3 g3 Q' hQ
        exact ⟨q0.1, q0.2, rfl, .inl (.inl (g3.lst (T.own q0 hq0).2.2)), fun v H' g' d => hQ v H' g' d⟩
      · have eq1 : (ps.map fun q => (V.ref q.1, q.2)).mergeSort (dataLe false fun b => rk b.2) = (ps.mergeSort fun a b => leR a.2 b.2).map fun q => (V.ref q.1, q.2) := by
          rw [List.map_mergeSort]
          intro a _ b _
          rfl
        have eq2 : (ps.mergeSort fun a b => leR a.2 b.2).map (·.2) = rkd (ps.map (·.2)) := by
          unfold rkd
          rw [List.map_mergeSort]
          intro a _ b _
          rfl
        rw [eq1, List.map_map]
        have T3 := T.gr g3
        have pm : (ps.mergeSort fun a b => leR a.2 b.2).Perm ps := List.mergeSort_perm _ _
        refine q r _ (ps.mergeSort fun a b => leR a.2 b.2) (g2.trans g3 |>.mut ?_) ⟨?_, upd_same, fun q0 hq0 => ?_, ?_⟩ ?_
        · exact (g2.trans g3).free hr3
        · exact (g2.trans g3).free hr3
        · obtain ⟨h1, h2, h3⟩ := T3.own q0 (pm.mem_iff.mp hq0)
          have nr : q0.1 ≠ r := ne_of_none h3 hr3
          refine ⟨h1, nr, ?_⟩
          rw [upd_ne nr]
          exact h3
        · exact ((pm.map (·.1)).nodup_iff).mpr T.nd
        · rw [eq2, e]
end
end K1
end
section
set_option maxHeartbeats 4000000
namespace Dcx
open PySem PySem.Spec PyProof.Rows L2
theorem dt_list {K : PySem.W.Frag} {a : Addr} {xs : List V} {g : TG} {tt : TT} {tk tv : TE} {vs : List Nat} {σ : L2.St} {H1 : Hp} {D : Addr} {Qd : Hp → Prop} (Pv : Nat → Hp → Prop) (h0 : Pv 0 (upd H1 D (.dT []))) (hl : ∀ i H, i ≤ xs.length → Pv i H → SqL K H a xs)
    (hs : ∀ i x H (Nx : Hp → Prop), (∀ H', Pv (i + 1) H' → Nx H') → xs[i]? = some x → Pv i H → g x (wipe σ vs) H fun σ2 H2 => wipe σ2 vs = wipe σ vs ∧ tt σ2 H2 fun c H3 =>
      if c = true then tk σ2 H3 fun y H4 => tv σ2 H4 fun z H5 => ∃ kvs k b, y = .ref b ∧ H5 b = some (.tup (k.map kV)) ∧ H5 D = some (.dT kvs) ∧ kvs.length < sizeLine ∧ Nx (upd H5 D (.dT (putK kvs k z))) else Nx H3) (hd : ∀ H, Pv xs.length H → Qd H) :
    ∃ W : Nat → Nat → Hp → Prop, (∃ m, W 0 m (upd H1 D (.dT []))) ∧ ∀ i m H, W i m H →
      ((Itl K a).stop i H ∧ Qd H) ∨ ((Itl K a).go i H ∧ ∀ x H', (Itl K a).yld i H x H' → g x (wipe σ vs) H' fun σ2 H2 => wipe σ2 vs = wipe σ vs ∧ tt σ2 H2 fun c H3 =>
        if c = true then tk σ2 H3 fun y H4 => tv σ2 H4 fun z H5 => ∃ kvs k b, y = .ref b ∧ H5 b = some (.tup (k.map kV)) ∧ H5 D = some (.dT kvs) ∧ kvs.length < sizeLine ∧ ∃ m', m' < m ∧ W (i + 1) m' (upd H5 D (.dT (putK kvs k z))) else ∃ m', m' < m ∧ W (i + 1) m' H3) := by
  refine ⟨fun i m H => m = xs.length - i ∧ i ≤ xs.length ∧ Pv i H, ⟨xs.length, by simp, Nat.zero_le _, h0⟩, ?_⟩
  rintro i m H ⟨rfl, hi, p⟩
  have q := hl i H hi p
  by_cases hlt : i < xs.length
  · refine .inr ⟨⟨xs, xs[i], q, by simp [hlt]⟩, fun x H' y => ?_⟩
    obtain ⟨e, y⟩ := y
    subst e
    exact hs i x _ (fun H6 => ∃ m', m' < xs.length - i ∧ m' = xs.length - (i + 1) ∧ i + 1 ≤ xs.length ∧ Pv (i + 1) H6) (fun H6 p6 => ⟨xs.length - (i + 1), by omega, rfl, hlt, p6⟩) (y xs q) p
  · have e : i = xs.length := by omega
    subst e
    exact .inl ⟨⟨xs, q, Nat.le_refl _⟩, hd H p⟩
end Dcx
namespace K1
open PySem PySem.Spec PyProof.Rows L2 Gr GxR Srx Skx Dcx
def kvT (l : List (List Str)) : List (List Key × V) := l.map fun x => (x.map Sum.inr, V.bl true)
theorem inr_inj : ∀ {x y : List Str}, x.map (Sum.inr : Str → Key) = y.map Sum.inr → x = y
  | [], [], _ => rfl
  | [], _ :: _, h => by cases h
  | _ :: _, [], h => by cases h
  | a :: x, b :: y, h => by
    rw [List.map_cons, List.map_cons] at h
    injection h with h1 h2
    injection h1 with h1
    rw [h1, inr_inj h2]
theorem put_once (l : List (List Str)) (x : List Str) : putK (kvT l) (x.map Sum.inr) (V.bl true) = kvT (once1 l x) := by
  unfold putK kvT once1
  by_cases h : x ∈ l
  · rw [if_pos h, if_pos]
    · rw [List.map_map]
      refine List.map_congr_left fun y hy => ?_
      show (if _ then _ else _) = _
      split <;> rfl
    · rw [List.any_eq_true]
      exact ⟨_, List.mem_map.mpr ⟨x, h, rfl⟩, decide_eq_true rfl⟩
  · rw [if_neg h, if_neg]
    · rw [List.map_append]
      rfl
    · intro z
      rw [List.any_eq_true] at z
      obtain ⟨q, hq, e⟩ := z
      obtain ⟨y, hy, rfl⟩ := List.mem_map.mp hq
      have e := inr_inj (of_decide_eq_true e)
      rw [e] at hy
      exact h hy
theorem kV_inr (x : List Str) : (x.map (Sum.inr : Str → Key)).map kV = x.map V.str := by
  rw [List.map_map]
  rfl
theorem keys_ps {H : Hp} : ∀ {l : List (List Str)} {bs : List Addr}, IsKeys H (kvT l) bs → ∃ ps : List (Addr × List Str), bs.map V.ref = ps.map (fun q => V.ref q.1) ∧ ps.map (·.2) = l ∧ ∀ q ∈ ps, H q.1 = some (.tup (q.2.map V.str))
  | [], bs, h => by
    have h : Paired _ ([] : List (List Key × V)) bs := h
    cases h
    exact ⟨[], rfl, rfl, fun _ z => absurd z List.not_mem_nil⟩
  | x :: l, bs, h => by
    have h : Paired _ ((x.map Sum.inr, V.bl true) :: kvT l) bs := h
    cases h with
    | cons h1 h2 =>
      rename_i b bs
      obtain ⟨ps, e1, e2, e3⟩ := keys_ps h2
      refine ⟨(b, x) :: ps, by rw [List.map_cons, List.map_cons, e1], by rw [List.map_cons, e2], fun q hq => ?_⟩
      rcases List.mem_cons.mp hq with e | hq
      · rw [e]
        have h1 : H b = some (.tup ((x.map Sum.inr).map kV)) := h1
        rw [kV_inr] at h1
        exact h1
      · exact e3 q hq
def rTupOf (K : PySem.W.Frag) : List V → Hp → VK → Prop := fun xs H Q => ∃ p ys, xs = [V.ref p] ∧ ((SqL K H p ys ∧ ∀ l, H l = none → Q (.ref l) (upd H l (.tup ys))) ∨ (SqT K H p ys ∧ Q (.ref p) H))
section
variable {P : Program} {w : World} {K : PySem.W.Frag} {mg : Str → Option Value} {base : Heap} {f fR fO : Addr} {fd fdR fdO fdW : FuncData} {p pW : He.Defn}
/-! ### least_of -/
abbrev nLeast : List Str := ["sets", "once", "kept", "one", "least"]
theorem scLeast : FnScope nLeast ["sets"] (defScope sLeast) := ⟨rfl, rfl, rfl, by decide +kernel, rfl, by decide +kernel, by decide +kernel⟩
def spLeast (K : PySem.W.Frag) (T T2 : Addr) : Sp := fun vs H Q _ => ∃ (a : Addr) (ps0 : List (Addr × List Str)), vs = [.ref a] ∧ SqL K H a (ps0.map fun q => V.ref q.1) ∧ (∀ q ∈ ps0, SqL K H q.1 (q.2.map V.str) ∧ q.2.length ≤ 1000) ∧ ps0.length ≤ 1000 ∧ TabG H T ∧ TabG H T2 ∧
  ∀ p H' ps, Gr H H' → Told H H' p ps → ps.map (·.2) = least ((ps0.map (·.2)).map once) → Q (.ref p) H'
theorem ok_least (F : FunD K "least_of" "least_of" (defArgs sLeast) (defBody sLeast) (defScope sLeast) [] [] (He.fAd K p) fd) (T : Tb K base mg p) (GR : FnOk P w K mg base CX0 4 fR fdR ["sets"] (spRanked K)) (bR : Binds K fdR ["sets"] []) (kR : PySem.W.keepIn K (.ref fR) = true) (gR : mg "ranked" = some (.ref fR))
    (GO : FnOk P w K mg base CX0 1 fO fdO ["names"] (spOnce K)) (bO : Binds K fdO ["names"] []) (kO : PySem.W.keepIn K (.ref fO) = true) (gO : mg "_once_each" = some (.ref fO))
    (GW : FnOk P w K mg base CX0 1 (He.fAd K pW) fdW ["one", "other"] (spWithin K (He.cT K pW).2)) (bW : Binds K fdW ["one", "other"] []) (kW : PySem.W.keepIn K (.ref (He.fAd K pW)) = true) (gW : mg "within" = some (.ref (He.fAd K pW)))
    (gA : mg "any" = none) (gT : mg "tuple" = none) (gLi : mg "list" = none) : FnOk P w K mg base CX0 5 (He.fAd K p) fd ["sets"] (spLeast K (He.cT K p).2 (He.cT K pW).2) := by
  refine okC F scLeast (fun vs H Q E h => ?_) (fun A outer s H vs Q E hr h => ?_)
  · obtain ⟨a, ps0, rfl, _⟩ := h
    rfl
  · obtain ⟨a, ps0, rfl, hA, hin, few, hT, hT2, q⟩ := h
    refine ⟨_, PSs.nox (pss_cons (ps_setDt (i := 1) (own := [("one", 3)]) (g := gName 3) (tt := tYes) (hu_of hr) rfl scLeast.nd rfl rfl (swd_true rfl rfl rfl (by decide +kernel)) (pi_list (pv 0)) (blkOk_by (N := nLeast) (sc := defScope sLeast) (by decide +kernel))
        (fun _ _ _ _ _ => pg_name (i := 3) scLeast.nd rfl (.inl rfl)) (fun _ _ _ _ _ => pts_nil)
        (fun _ _ _ _ _ => pe_callTy (r := rTupOf K) call_tuple_of (by rfl) gT boot_tuple (pa_cons (pe_call GO (hr.mono (by decide)) (by rfl) gO kO bO .nil pass0 (pa_cons (pv 3) pa_nil)) pa_nil)) (fun _ _ _ _ _ => pe_bl))
      (pss_cons (ps_set (i := 2) scLeast.nd rfl (.inl rfl) (pe_lst pa_nil))
      (pss_cons (ps_for PassesOwn.never rfl (pi_list (pe_call GR hr (by rfl) gR kR bR .nil pass0 (pa_cons (pe_callTy (call_list_dT rfl) (by rfl) gLi boot_list (pa_cons (pv 1) pa_nil)) pa_nil))) (pg_name (i := 3) scLeast.nd rfl (.inr rfl))
        (pss_one (ps_if (pt_not (pt_val (Gx.pe_any (own := [("least", 4)]) (gt := gName 4) (tt := tYes) hr rfl scLeast.nd (by rfl) gA T rfl (blkOk_by (N := nLeast) (sc := defScope sLeast) (by decide +kernel)) (Gx.gxs_by (by decide +kernel)) (pi_list (pv 2))
            (fun _ _ _ _ _ _ => pg_name (i := 4) scLeast.nd rfl (.inl rfl)) (fun _ _ _ _ _ _ => pts_nil) (fun _ _ _ _ _ _ => pe_call GW ((Gx.room_gx hr _).mono (by decide)) (by rfl) gW kW bW .nil pass0 (pa_cons (pv 4) (pa_cons (pv 3) pa_nil))))))
          (pss_one (ps_expr (pe_bm PySem.F.plainAttrs_list PySem.F.slot_list_append PySem.F.type_list_append mt_append (pv 2) (pa_cons (pv 3) pa_nil)))) pss_nil)))
      (pss_one (ps_ret (pv 2)))))), ?_⟩
    refine ⟨_, rfl, a, rfl, ⟨_, hA⟩, fun D hD => dt_list (K := K) (xs := ps0.map fun q : Addr × List Str => V.ref q.1) (fun i H2 => Gr H H2 ∧ H2 D = some (.dT (kvT (ddG (((ps0.take i).map (·.2)).map once))))) ⟨Gr.new hD, upd_same⟩ (fun i H2 _ h => h.1.seq hA) (fun i x H2 Nx nx hx h => ?_) (fun H2 h => ?_)⟩
    · obtain ⟨g2, eD⟩ := h
      obtain ⟨q0, hq0, rfl⟩ := get_map hx
      obtain ⟨hl, hz⟩ := hin q0 (List.mem_of_getElem? hq0)
      refine ⟨rfl, yesIf ?_⟩
      refine ⟨_, rfl, q0.1, q0.2, rfl, g2.seq hl, hz, fun o H3 g3 no eo => ?_⟩
      refine ⟨o, (once q0.2).map V.str, rfl, .inl ⟨.inl (.inl eo), fun t ht => ?_⟩⟩
      have eD3 : H3 D = some (.dT (kvT (ddG (((ps0.take i).map (·.2)).map once)))) := g3.at_ _ _ eD (fun _ z => nomatch z)
      refine ⟨kvT (ddG (((ps0.take i).map (·.2)).map once)), (once q0.2).map Sum.inr, t, rfl, ?_, ?_, ?_, nx _ ⟨?_, ?_⟩⟩
      · rw [upd_same, kV_inr]
      · rw [upd_ne (ne_of_none eD3 ht)]
        exact eD3
      · unfold kvT
        rw [List.length_map]
        have h1 := ddG_len (((ps0.take i).map (·.2)).map once)
        rw [List.length_map, List.length_map, List.length_take] at h1
        have := small1000 (n := 1000) (by omega)
        omega
      · exact ((g2.trans g3).trans (Gr.new ht)).mut hD
      · rw [upd_same, put_once, take_map hq0, List.map_append]
        rw [show (List.map once ((ps0.take i).map (·.2)) ++ List.map once [q0.2]) = (((ps0.take i).map (·.2)).map once) ++ [once q0.2] from rfl, ddG_snoc]
    · obtain ⟨g2, eD⟩ := h
      rw [List.length_map, List.take_length] at eD
      -- kept = []
      refine ⟨Nat.zero_le _, fun Kp nK => ?_⟩
      have nKH : H Kp = none := g2.free nK
      have g3 : Gr H (upd H2 Kp (.lst [])) := g2.mut nKH
      have eK : (upd H2 Kp (.lst [])) Kp = some (.lst []) := upd_same
      have eD3 : (upd H2 Kp (.lst [])) D = some (.dT (kvT (ddG ((ps0.map (·.2)).map once)))) := by
        rw [upd_ne (ne_of_none eD nK)]
        exact eD
      generalize upd H2 Kp (.lst []) = H3 at g3 eK eD3
      refine ⟨_, rfl, D, _, rfl, .inl eD3, fun l bs nl hk => ?_⟩
      obtain ⟨ps1, e1, e2, e3⟩ := keys_ps hk
      have g4 : Gr H3 (upd H3 l (.lst (bs.map V.ref))) := Gr.new nl
      rw [e1] at g4 ⊢
      have hlen1 : ps1.length ≤ 1000 := by
        have h1 := ddG_len ((ps0.map (·.2)).map once)
        rw [← e2, List.length_map, List.length_map, List.length_map] at h1
        omega
      refine ⟨l, ps1, rfl, .inl (.inl upd_same), fun q0 hq0 => .inr (.inl (.inl (g4.tup (e3 q0 hq0)))), small1000 hlen1, fun r H5 ps g5 T5 e5 => ?_⟩
      have g35 : Gr H3 H5 := g4.trans g5
      have T5 : Told H3 H5 r ps := T5.from g4
      have hplen : ps.length ≤ 1000 := by
        have h1 : (ps.map (·.2)).length = (rkd (ps1.map (·.2))).length := congrArg List.length e5
        rw [List.length_map, (rkd_perm _).length_eq, List.length_map] at h1
        omega
      refine ⟨r, rfl, ⟨_, .inl (.inl T5.at_)⟩, for_list (xs := ps.map fun q : Addr × List Str => V.ref q.1) (fun i σ H6 => Gr H H6 ∧ H6 r = some (.lst (ps.map fun q => V.ref q.1)) ∧ (∀ q ∈ ps, H6 q.1 = some (.lst (q.2.map V.str))) ∧ (∃ kps, H6 Kp = some (.lst (kps.map fun q => V.ref q.1)) ∧ List.Sublist kps (ps.take i) ∧ kps.map (·.2) = ((ps.take i).map (·.2)).foldl keep []) ∧
        ∃ v1 v2, σ = [some (.ref a), some (.ref D), some (.ref Kp), v1, v2]) ⟨g3.trans g35, T5.at_, fun q hq => (T5.own q hq).2.2, ⟨[], g35.lst eK, List.Sublist.refl _, rfl⟩, _, _, rfl⟩ (fun i σ H6 _ h => .inl (.inl h.2.1)) (fun i x σ H6 hx h => ?_) (fun σ H6 h => ?_)⟩
      · obtain ⟨g6, er, eo, ⟨kps, ek, sub, em⟩, v1, v2, rfl⟩ := h
        obtain ⟨q0, hq0, rfl⟩ := get_map hx
        have m0 := List.mem_of_getElem? hq0
        have nr : Kp ≠ r := ne_of_none eK T5.new
        have nq : ∀ q ∈ ps, Kp ≠ q.1 := fun q hq => ne_of_none eK (T5.own q hq).1
        have subps : ∀ q ∈ kps, q ∈ ps := fun q hq => List.mem_of_mem_take (sub.subset hq)
        have any_at2 : ∀ {j : Nat} {y : Addr × List Str} , kps[j]? = some y → (kps.take (j + 1)).any (fun q => wi q.2 q0.2) = ((kps.take j).any (fun q => wi q.2 q0.2) || wi y.2 q0.2) := by
          intro j y hy
          rw [List.take_add_one, hy, List.any_append]
          simp
        have anyeq : (kps.map (·.2)).any (fun l => wi l q0.2) = kps.any (fun q => wi q.2 q0.2) := by
          rw [List.any_map]
          rfl
        have fin : ∀ (b : Bool) (H7 : Hp), Gr H6 H7 → kps.any (fun q => wi q.2 q0.2) = b → True := fun _ _ _ _ => trivial
        refine ⟨_, rfl, Kp, rfl, ⟨_, .inl (.inl ek)⟩, Gx.gx_list (K := K) (xs := kps.map fun q : Addr × List Str => V.ref q.1) (g6.tabG hT) (fun j H7 => Gr H6 H7 ∧ (kps.take j).any (fun q => wi q.2 q0.2) = false) (fun H7 t7 => ⟨Gr.tabbed (g6.tabG hT) t7, rfl⟩) (fun j H7 _ h => .inl (.inl (h.1.lst ek))) (fun j x H7 Nx nx hx h => ?_) (fun H7 h => ?_)⟩
        · obtain ⟨g7, hn⟩ := h
          obtain ⟨k0, hk0, rfl⟩ := get_map hx
          have mk := subps k0 (List.mem_of_getElem? hk0)
          refine ⟨rfl, yesIf ?_⟩
          refine ⟨_, rfl, _, rfl, k0.1, q0.1, k0.2, q0.2, rfl, .inl (.inl (g7.lst (eo k0 mk))), .inl (.inl (g7.lst (eo q0 m0))), (g6.trans g7).tabG hT2, fun H8 g8 => ⟨_, rfl, fun e => ?_, fun e => nx _ ⟨g7.trans g8, ?_⟩⟩⟩
          · -- left out
            have e : wi k0.2 q0.2 = true := e
            have g68 := g7.trans g8
            refine ⟨true, rfl, ?_⟩
            refine iteF ⟨g6.trans g68, g68.lst er, fun q hq => g68.lst (eo q hq), ⟨kps, g68.lst ek, sub.trans (List.take_sublist_take_left (Nat.le_succ _)), ?_⟩, _, _, rfl⟩
            rw [take_map hq0, List.foldl_append, ← em]
            refine (if_pos ?_).symm
            rw [anyeq]
            exact List.any_eq_true.mpr ⟨k0, List.mem_of_getElem? hk0, e⟩
          · rw [any_at2 hk0, hn]
            show wi k0.2 q0.2 = false
            exact Bool.eq_false_iff.mpr e
        · -- put
          obtain ⟨g7, hn⟩ := h
          rw [List.length_map, List.take_length] at hn
          have ek7 := g7.lst ek
          refine ⟨false, rfl, ?_⟩
          refine iteT ⟨_, rfl, .inl ⟨rfl, _, .inl (.inl ek7)⟩, _, rfl, Kp, _, _, rfl, rfl, ek7, ?_, ?_⟩
          · rw [List.length_map]
            have h1 := sub.length_le
            have h2 := List.length_take_le i ps
            rw [List.length_take] at h1
            exact Nat.lt_of_le_of_lt h1 (small1000 (by omega))
          · refine ⟨(g6.trans g7).mut nKH, ?_, fun q hq => ?_, ⟨kps ++ [q0], ?_, ?_, ?_⟩, _, _, rfl⟩
            · rw [upd_ne nr.symm]
              exact g7.lst er
            · rw [upd_ne (nq q hq).symm]
              exact g7.lst (eo q hq)
            · rw [upd_same, List.map_append]
              rfl
            · rw [List.take_add_one, hq0]
              exact sub.append (List.Sublist.refl _)
            · rw [take_map hq0, List.foldl_append, List.map_append, ← em]
              refine (if_neg ?_).symm
              rw [anyeq, hn]
              exact Bool.false_ne_true
      · obtain ⟨g6, er, eo, ⟨kps, ek, sub, em⟩, v1, v2, rfl⟩ := h
        rw [List.length_map, List.take_length] at sub em
        refine ⟨_, rfl, q Kp H6 kps g6 ⟨nKH, ek, fun q0 hq0 => ?_, ?_⟩ ?_⟩
        · have m0 := sub.subset hq0
          exact ⟨g3.free (T5.own q0 m0).1, (ne_of_none eK (T5.own q0 m0).1).symm, eo q0 m0⟩
        · exact T5.nd.sublist (sub.map _)
        · rw [em, e5, e2]
          rfl
end
end K1
end
section
set_option maxHeartbeats 4000000
namespace K1
open PySem PySem.Spec PyProof.Rows L2 Gr GxR Srx Skx Dcx
theorem for_enum {K : PySem.W.Frag} {a : Addr} {xs : List V} {g : TG} {tb : TS} {D : Ends} {σ : L2.St} {H : Hp} (Pv : Nat → L2.St → Hp → Prop) (h0 : Pv 0 σ H) (hl : ∀ i σ H, i ≤ xs.length → Pv i σ H → SqL K H a xs)
    (hs : ∀ i x T σ H, xs[i]? = some x → Pv i σ H → H T = none → g (.ref T) σ (upd H T (.tup [.int (i : Nat), x])) fun σ2 H2 => tb { D with nx := Pv (i + 1), ct := Pv (i + 1), bk := D.nx } σ2 H2) (hd : ∀ σ H, Pv xs.length σ H → D.nx σ H) :
    ∃ W : Nat → Nat → L2.St → Hp → Prop, (∃ m, W 0 m σ H) ∧ ∀ i m σ H, W i m σ H →
      ((Ite K a).stop i H ∧ D.nx σ H) ∨ ((Ite K a).go i H ∧ ∃ N : L2.St → Hp → Prop, (∀ σ' H', N σ' H' → ∃ m', m' < m ∧ W (i + 1) m' σ' H') ∧ ∀ x H', (Ite K a).yld i H x H' → g x σ H' fun σ2 H2 => tb { D with nx := N, ct := N, bk := D.nx } σ2 H2) := by
  refine ⟨fun i m σ H => m = xs.length - i ∧ i ≤ xs.length ∧ Pv i σ H, ⟨xs.length, by simp, Nat.zero_le _, h0⟩, ?_⟩
  rintro i m σ H ⟨rfl, hi, p⟩
  have q := hl i σ H hi p
  by_cases hlt : i < xs.length
  · refine .inr ⟨⟨xs, xs[i], q, by simp [hlt]⟩, Pv (i + 1), fun σ' H' p' => ⟨xs.length - (i + 1), by omega, rfl, hlt, p'⟩, fun x H' y => ?_⟩
    obtain ⟨T, z, rfl, hT, rfl, y⟩ := y
    exact hs i z T σ H (y xs q) p hT
  · have e : i = xs.length := by omega
    subst e
    exact .inl ⟨⟨xs, q, Nat.le_refl _⟩, hd σ H p⟩
theorem tyx_gr {K : PySem.W.Frag} {H H' : Hp} (g : Gr H H') {v : V} {t : Value} (h : TyX K H v t) : TyX K H' v t := by
  cases h with
  | base h =>
    refine .base ?_
    cases h with
    | non => exact .non
    | bl x => exact .bl x
    | int i => exact .int i
    | str x => exact .str x
    | flt x => exact .flt x
    | lst e => exact .lst (g.lst e)
    | frz e => exact .frz (g.at_ _ _ e notbl_frz)
    | tup e => exact .tup (g.tup e)
    | dK e => exact .dK (g.at_ _ _ e fun _ z => nomatch z)
    | dT e => exact .dT (g.at_ _ _ e fun _ z => nomatch z)
    | ins e a b c d f => exact .ins (g.at_ _ _ e fun _ z => nomatch z) a b c d f
  | byt b => exact .byt b
  | set e => exact .set (g.at_ _ _ e fun _ z => nomatch z)
  | kList e c => exact .kList e c
  | kTuple e c => exact .kTuple e c
  | kDict e c => exact .kDict e c
  | fTuple e => exact .fTuple (g.at_ _ _ e notbl_frz)
  | fDict e => exact .fDict (g.at_ _ _ e notbl_frz)
theorem Thing.gr {K : PySem.W.Frag} {H H' : Hp} (g : Gr H H') {v : V} (h : Thing K H v) : Thing K H' v := by
  obtain ⟨t, ty, k, l⟩ := h
  exact ⟨t, tyx_gr g ty, k, l⟩
/-- an own error class, as it stands: made by its name, raised -/
structure ErrC (K : PySem.W.Frag) (mg : Str → Option Value) (x : Str) (C : Addr) : Prop where
  gC : mg x = some (.ref C)
  xC : PySem.W.excIn K C [.type "ValueError", .type "Exception", .type "BaseException", .type "object"] "ValueError.__new__" = true
  kC : PySem.W.keepIn K (.ref C) = true
  bC : PySem.W.subIn K (.ref C) (.type "BaseException") = some true
  tC : PySem.W.typeIn K (.ref C) = some (.type "type")
section
variable {P : Program} {w : World} {K : PySem.W.Frag} {mg : Str → Option Value} {base : Heap} {f fO C : Addr} {fd fdO fdI : FuncData} {p pI : He.Defn}
theorem scRising : FnScope ["names", "at", "thing"] ["names"] (defScope sRising) := ⟨rfl, rfl, rfl, by decide +kernel, rfl, by decide +kernel, by decide +kernel⟩
def spRising (K : PySem.W.Frag) (T C : Addr) : Sp := fun vs H Q E => ∃ (a : Addr) (vls : List V), vs = [.ref a] ∧ SqL K H a vls ∧ (∀ v ∈ vls, Thing K H v) ∧ vls.length ≤ 1000 ∧ TabG H T ∧
  ((∃ xs : List Str, vls = xs.map V.str ∧ xs.all isNm = true ∧ ∀ p H', Gr H H' → H p = none → H' p = some (.lst ((once xs).map V.str)) → Q (.ref p) H') ∨ ((∃ v ∈ vls, nmV v = false) ∧ ∀ H', Gr H H' → E (.ref C) none H'))
theorem strlen_le (x : Str) (n : Nat) (h : x.length = n) (hn : n ≤ 100) : x.length ≤ 100 := by omega
theorem ok_rising (F : FnP K "rising" sRising f fd) (GI : FnOk P w K mg base CX0 1 (He.fAd K pI) fdI ["thing"] (spIsName K (He.cT K pI).2)) (bI : Binds K fdI ["thing"] []) (kI : PySem.W.keepIn K (.ref (He.fAd K pI)) = true) (gI : mg "is_name" = some (.ref (He.fAd K pI)))
    (GO : FnOk P w K mg base CX0 1 fO fdO ["names"] (spOnce K)) (bO : Binds K fdO ["names"] []) (kO : PySem.W.keepIn K (.ref fO) = true) (gO : mg "_once_each" = some (.ref fO)) (EC : ErrC K mg "BadName" C) (gE : mg "enumerate" = none) (gM : ∃ t, mg "MOST_LETTERS" = some (.int 8 t)) :
    FnOk P w K mg base (L2.CX P w) 2 f fd ["names"] (spRising K (He.cT K pI).2 C) := by
  obtain ⟨tM, gM⟩ := gM
  refine F.ok scRising (fun vs H Q E h => ?_) (fun cdv A outer s H vs Q E hr h => ?_)
  · obtain ⟨a, vls, rfl, _⟩ := h
    rfl
  · obtain ⟨a, vls, rfl, hA, hth, few, hT, hq⟩ := h
    refine ⟨_, pss_cons (ps_for (passes_of rfl) rfl (pi_enum (by rfl) gE (pa_cons (pv 0) pa_nil)) (pg_tup rfl (pgs_cons (pg_name (i := 1) scRising.nd rfl (.inl rfl)) (pgs_cons (pg_name (i := 2) scRising.nd rfl (.inl rfl)) pgs_nil)))
        (pss_one (ps_if (pt_not (pt_val (pe_call GI (hr.mono (by decide)) (by rfl) gI kI bI .nil pass0 (pa_cons (pv 2) pa_nil))))
          (pss_one (ps_raise rfl (takes_of rfl rfl rfl rfl) (SkE.pmk_own1 PySem.F.excBase_ValueError EC.xC EC.gC EC.kC (raises_own EC.bC EC.tC) (by rfl) (pe_joined (.cons pe_str (.cons (pe_fmt (pv 1)) (.cons pe_str (.cons (pe_fmt (pe_glob (v := .int 8) (by rfl) gM ⟨_, rfl⟩)) (.cons pe_str .nil))))))))) pss_nil)))
      (pss_one (ps_ret (pe_call GO (hr.mono (by decide)) (by rfl) gO kO bO .nil pass0 (pa_cons (pv 0) pa_nil)))), ?_⟩
    refine ⟨_, rfl, a, vls, rfl, hA, for_enum (xs := vls) (fun i σ H2 => Gr H H2 ∧ (∀ v ∈ vls.take i, nmV v = true) ∧ ∃ v1 v2, σ = [some (.ref a), v1, v2]) ⟨Gr.refl H, fun _ z => absurd z List.not_mem_nil, _, _, rfl⟩ (fun i σ H2 _ h => h.1.seq hA) (fun i x T σ H2 hx h nT => ?_) (fun σ H2 h => ?_)⟩
    · obtain ⟨g2, ok, v1, v2, rfl⟩ := h
      have mx := List.mem_of_getElem? hx
      have hi : i < vls.length := (List.getElem?_eq_some_iff.mp hx).1
      have g3 : Gr H (upd H2 T (.tup [.int (i : Nat), x])) := g2.trans (Gr.new nT)
      refine ⟨T, _, rfl, .inl (.inl upd_same), rfl, _, _, rfl, _, _, rfl, rfl, ?_⟩
      refine ⟨x, rfl, x, rfl, (hth x mx).gr g3, g3.tabG hT, fun H4 g4 => ⟨_, rfl, ?_⟩⟩
      cases e : nmV x with
      | true =>
        refine iteF ⟨g3.trans g4, fun v hv => ?_, _, _, rfl⟩
        rw [List.take_add_one, hx] at hv
        rcases List.mem_append.mp hv with hv | hv
        · exact ok v hv
        · have hv : v = x := by simpa using hv
          rw [hv]; exact e
      | false =>
        refine iteT ?_
        rcases hq with ⟨xs, rfl, all, _⟩ | ⟨_, hE⟩
        · obtain ⟨y, hy, rfl⟩ := get_map hx
          have z := List.all_eq_true.mp all y (List.mem_of_getElem? hy)
          rw [show isNm y = false from e] at z
          cases z
        · have hk : ((Str.ofString (toString ((i : Nat) : Int)))).length ≤ 10 := PySem.W.KT.len_num (by omega) (by omega)
          have hb : (Str.ofString (toString (8 : Int))).length ≤ 10 := PySem.W.KT.len_num (by omega) (by omega)
          have l1 : (Str.empty ++ (Str.ofString "item ")).length ≤ 10 := by decide +kernel
          have l2 := PySem.W.KT.len_app l1 hk
          have l3 := PySem.W.KT.len_app l2 (show (Str.ofString " of the list is not a text of 1 to ").length ≤ 50 by decide +kernel)
          have l4 := PySem.W.KT.len_app l3 hb
          have l5 := PySem.W.KT.len_app l4 (show (Str.ofString " small letters").length ≤ 50 by decide +kernel)
          have big : ∀ n : Nat, n ≤ 200 → n ≤ sizeLine := fun n hn => by rw [sizeLine_eq]; omega
          refine ⟨_, rfl, big _ (by omega), _, rfl, .inr ⟨_, rfl, ?_, _, rfl, big _ (by omega), _, rfl, big _ (by omega), .inr ⟨_, rfl, ?_, _, rfl, big _ (by omega), _, rfl, big _ (by omega), hE _ (g3.trans g4)⟩⟩⟩
          · show ((i : Nat) : Int).natAbs.log2 < 1920
            rw [Int.natAbs_natCast]
            exact Nat.lt_of_le_of_lt (Nat.log2_le_self i) (by omega)
          · decide
    · obtain ⟨g2, ok, v1, v2, rfl⟩ := h
      rw [List.take_length] at ok
      rcases hq with ⟨xs, rfl, all, q⟩ | ⟨⟨v, hv, e⟩, _⟩
      · refine ⟨_, rfl, a, xs, rfl, g2.seq hA, by rw [List.length_map] at few; exact few, fun p H4 g4 np ep => q p H4 (g2.trans g4) (g2.free np) ep⟩
      · rw [ok v hv] at e
        cases e
end
end K1
end
section
set_option maxHeartbeats 4000000
namespace K1
open PySem PySem.Spec PyProof.Rows L2 Gr GxR Srx Skx Dcx
/-! ### isinstance of the caught error, by what it is -/
def rIsC (K : PySem.W.Frag) (cls : Value) (d : Option Addr) (D a : Addr) : List V → Hp → VK → Prop := fun xs H Q => cls = .ref D ∧ d = none ∧ ∃ (c : V) (cv : Value) (b : Bool), xs = [.ref a, c] ∧ ClsV c cv ∧ PySem.W.kitOne K (.ref D) cv = some b ∧ Q (.bl b) H
theorem call_isC {X : Cx} {a D : Addr} {oe : Obj} {pn : List (Addr × Obj)} {cls : Value} {d : Option Addr} (C : ExcC X.K D) (hz : Zc cls d oe) (hf : ∃ vs, oe.data = .fields vs) : CallR (X.suite a ((a, oe) :: pn)) (.builtin "isinstance") (rIsC X.K cls d D a) := by
  intro pins s σ H xs us Q I r h
  obtain ⟨rfl, rfl, c, cv, b, e1, k, e, q⟩ := h
  exact call_isE C hz hf pins s σ H xs us Q I r ⟨c, cv, b, e1, fun u ru => k.eq ru, e, q⟩
def rIsCT (K : PySem.W.Frag) (cls : Value) (d : Option Addr) (D a : Addr) : List V → Hp → VK → Prop := fun xs H Q => cls = .ref D ∧ d = none ∧ ∃ (tp : Addr) (cs : List V) (us : List Value) (b : Bool), xs = [.ref a, .ref tp] ∧ H tp = some (.tup cs) ∧ Paired ClsV cs us ∧ PySem.W.kitAny K (.ref D) us = some b ∧ Q (.bl b) H
theorem call_isCT {X : Cx} {a D : Addr} {oe : Obj} {pn : List (Addr × Obj)} {cls : Value} {d : Option Addr} (C : ExcC X.K D) (hz : Zc cls d oe) (hf : ∃ vs, oe.data = .fields vs) : CallR (X.suite a ((a, oe) :: pn)) (.builtin "isinstance") (rIsCT X.K cls d D a) := by
  intro pins s σ H xs us Q I r h
  obtain ⟨rfl, rfl, tp, cs, ws, b, rfl, hT, k, e, q⟩ := h
  obtain ⟨u1, u2, rfl, r1, r2⟩ := vals2 r
  cases (show u1 = Value.ref a from r1)
  cases (show u2 = Value.ref tp from r2)
  obtain ⟨hget, _⟩ := I.pin (a, oe) (List.mem_append.mpr (.inl List.mem_cons_self))
  obtain ⟨vs, hv⟩ := hf
  have J : PySem.W.InstAt s.heap a oe D none := by
    obtain ⟨oc, od, oda, osl⟩ := oe
    obtain ⟨h1, h2⟩ := hz
    dsimp only at h1 h2 hv
    subst h1 h2 hv
    exact ⟨hget, rfl, rfl, trivial⟩
  obtain ⟨_, its, rv, o, h1, h2, n, h3⟩ := (show ObjOk _ _ H s.heap tp (.tup cs) from I.hok tp _ hT)
  have e3 := ClsV.all k rv
  subst e3
  obtain ⟨oc, od, dt, sl⟩ := o
  simp only at h2 h3
  subst h2 h3
  exact PySem.W.kia_tup (PySem.W.handS_kitx_exc C.hg C.hk C.hs C.hd C.ha C.hn C.ht C.hm) I.kIn J h1 e (fun z => nomatch z) fun tk => ⟨.bl b, H, I.kept (t' := tk) fun _ _ z => z, rfl, q⟩
/-- what the law's look at a refusal takes of the error classes -/
structure RefC (K : PySem.W.Frag) (mg : Str → Option Value) (C M c1 c2 c3 c4 c5 : Addr) : Prop where
  gM : mg "MeetError" = some (.ref M)
  gC : mg "BadName" = some (.ref C)
  g1 : mg "BadRow" = some (.ref c1)
  g2 : mg "NoRow" = some (.ref c2)
  g3 : mg "TooMany" = some (.ref c3)
  g4 : mg "NoMeet" = some (.ref c4)
  g5 : mg "Unread" = some (.ref c5)
  e : PySem.W.exmOne K (.ref C) (.ref M) = some true
  k5 : PySem.W.kitAny K (.ref C) [.ref c1, .ref c2, .ref c3, .ref c4, .ref c5] = some false
  kC : PySem.W.kitOne K (.ref C) (.ref C) = some true
  kV : PySem.W.kitOne K (.ref C) (.type "ValueError") = some true
  ex : ExcC K C
section
variable {P : Program} {w : World} {K : PySem.W.Frag} {mg : Str → Option Value} {base : Heap} {f fS C M c1 c2 c3 c4 c5 : Addr} {fd fdS : FuncData} {p : He.Defn} {T : Addr}
theorem scRefused : FnScope ["_law_names_here", "e"] ["_law_names_here"] (defScope sRefused) := ⟨rfl, rfl, rfl, by decide +kernel, rfl, by decide +kernel, by decide +kernel⟩
def spRefused (K : PySem.W.Frag) (T : Addr) : Sp := fun vs H Q _ => ∃ (a : Addr) (vls : List V), vs = [.ref a] ∧ SqL K H a vls ∧ (∀ v ∈ vls, Thing K H v) ∧ vls.length ≤ 1000 ∧ TabG H T ∧ (∃ v ∈ vls, nmV v = false) ∧ ∀ H', Gr H H' → Q (.bl true) H'
theorem ok_refused (F : FnP K "_law_refused" sRefused f fd) (GS : FnOk P w K mg base (L2.CX P w) 2 fS fdS ["names"] (spRising K T C)) (bS : Binds K fdS ["names"] []) (kS : PySem.W.keepIn K (.ref fS) = true) (gS : mg "rising" = some (.ref fS)) (R : RefC K mg C M c1 c2 c3 c4 c5) (gI : mg "isinstance" = none) (gV : mg "ValueError" = none) :
    FnOk P w K mg base CX0 3 f fd ["_law_names_here"] (spRefused K T) := by
  refine F.ok scRefused (fun vs H Q E h => ?_) (fun cdv A outer s H vs Q E hr h => ?_)
  · obtain ⟨a, vls, rfl, _⟩ := h
    rfl
  · obtain ⟨a, vls, rfl, hA, hth, few, hT, bad, q⟩ := h
    refine ⟨_, PSs.nox (pss_cons (ps_try_as (i := 1) rfl rfl scRefused.nd rfl rfl ⟨rfl, by decide, .inl R.gM⟩ takes0
        (fun W pn xe tk _ => pss_one (ps_expr (pe_callS GS hr (by rfl) gS kS bS (fun σ => passAt tk σ) (pa_cons (pv 0) pa_nil))))
        (fun a oe cls d pn hz hf => pss_cons (ps_if (pt_val (pe_callB (r := rIsCT K cls d C a) (call_isCT R.ex hz hf) (by rfl) gI (by decide +kernel) (pa_cons (pv 1) (pa_cons (pe_tup (pa_cons (pe_glob (v := .ref c1) (by rfl) R.g1 rfl) (pa_cons (pe_glob (v := .ref c2) (by rfl) R.g2 rfl) (pa_cons (pe_glob (v := .ref c3) (by rfl) R.g3 rfl) (pa_cons (pe_glob (v := .ref c4) (by rfl) R.g4 rfl) (pa_cons (pe_glob (v := .ref c5) (by rfl) R.g5 rfl) pa_nil)))))) pa_nil))))
            (pss_one (ps_ret pe_bl)) pss_nil)
          (pss_one (ps_ret (pe_and (pe_callB (r := rIsC K cls d C a) (call_isC R.ex hz hf) (by rfl) gI (by decide +kernel) (pa_cons (pv 1) (pa_cons (pe_glob (v := .ref C) (by rfl) R.gC rfl) pa_nil)))
            (pe_one (pe_callB (r := rIsC K cls d C a) (call_isC R.ex hz hf) (by rfl) gI (by decide +kernel) (pa_cons (pv 1) (pa_cons (pe_bltn (v := .ty "ValueError") (by rfl) gV (by decide +kernel) rfl) pa_nil)))))))))
      (pss_one (ps_ret pe_bl))), ?_⟩
    refine ⟨_, rfl, a, vls, rfl, hA, hth, few, hT, .inr ⟨bad, fun H2 g2 => ⟨true, R.e, fun _ b nb => ?_, fun z => nomatch z⟩⟩⟩
    refine ⟨_, rfl, (by show 5 ≤ sizeLine; decide), fun t nt => ⟨rfl, rfl, t, _, _, false, rfl, upd_same, .cons (.own _) (.cons (.own _) (.cons (.own _) (.cons (.own _) (.cons (.own _) .nil)))), R.k5, ?_⟩⟩
    refine ⟨_, rfl, ?_⟩
    refine ⟨_, rfl, rfl, rfl, _, _, true, rfl, .own _, R.kC, _, rfl, ?_⟩
    refine iteT ⟨_, rfl, rfl, rfl, _, _, true, rfl, .ty _, R.kV, ?_⟩
    exact q _ (g2.trans (Gr.new nt))
end
end K1
end
section
namespace K1
open PySem PySem.Spec PyProof.Rows L2 Gr GxR Srx
open PySem.W (dataLe dataLt DatumOrd Datum)
/-! ### lists of texts, lists of such, as data -/
def dS (xs : List Str) : PyData := .list (xs.map PyData.str)
def dSS (xss : List (List Str)) : PyData := .list (xss.map dS)
/-- names, all of them -/
def Nms (xs : List Str) : Prop := ∀ x ∈ xs, isNm x = true
theorem nm_ok {x : Str} (h : isNm x = true) : PyData.strOk x = true := by
  unfold isNm at h
  rw [Bool.and_eq_true, Bool.and_eq_true] at h
  show (x.cps.all (· < 0x110000)) = true
  rw [← Array.all_toList, List.all_eq_true]
  intro c hc
  have z := List.all_eq_true.mp h.2.2 c hc
  unfold small at z
  rw [Bool.and_eq_true, decide_eq_true_iff, decide_eq_true_iff] at z
  exact decide_eq_true (by omega)
theorem nm_len {x : Str} (h : isNm x = true) : x.length ≤ 8 := by
  unfold isNm at h
  rw [Bool.and_eq_true, Bool.and_eq_true] at h
  exact of_decide_eq_true h.2.1
theorem canL_strs : ∀ xs : List Str, Nms xs → PyData.canLayAll0 (xs.map PyData.str) = true
  | [], _ => by simp [PyData.canLayAll0]
  | n :: r, h => by
    have h1 := nm_ok (h n List.mem_cons_self)
    simp [PyData.canLayAll0, PyData.canLay0, h1, canL_strs r fun x hx => h x (List.mem_cons_of_mem _ hx)]
theorem deep_strs : ∀ xs : List Str, PyData.depthAll (xs.map PyData.str) ≤ 1
  | [] => by simp [PyData.depthAll]
  | n :: r => by
    have := deep_strs r
    simp only [List.map_cons, PyData.depthAll, PyData.depth]
    omega
theorem shaped_dS {xs : List Str} (nm : Nms xs) : SeqAt.shaped (dS xs) = true := by
  have h1 := deep_strs xs
  have h2 : PyData.depth (dS xs) ≤ 64 := by simp only [dS, PyData.depth]; omega
  show (PyData.canLay0 (dS xs) && decide (PyData.depth (dS xs) ≤ 64)) = true
  rw [Bool.and_eq_true]
  exact ⟨by simp only [dS, PyData.canLay0]; exact canL_strs xs nm, decide_eq_true h2⟩
theorem canL_sets : ∀ xss : List (List Str), (∀ xs ∈ xss, Nms xs) → PyData.canLayAll0 (xss.map dS) = true
  | [], _ => by simp [PyData.canLayAll0]
  | n :: r, h => by
    have h1 := canL_strs n (h n List.mem_cons_self)
    have h2 := canL_sets r fun x hx => h x (List.mem_cons_of_mem _ hx)
    simp only [List.map_cons, PyData.canLayAll0, h2, Bool.and_true]
    simp only [dS, PyData.canLay0]
    exact h1
theorem deep_sets : ∀ xss : List (List Str), PyData.depthAll (xss.map dS) ≤ 3
  | [] => by simp [PyData.depthAll]
  | n :: r => by
    have h1 := deep_sets r
    have h2 := deep_strs n
    simp only [List.map_cons, PyData.depthAll, PyData.depth, dS] at h1 ⊢
    omega
theorem shaped_dSS {xss : List (List Str)} (nm : ∀ xs ∈ xss, Nms xs) : SeqAt.shaped (dSS xss) = true := by
  have h1 := deep_sets xss
  have h2 : PyData.depth (dSS xss) ≤ 64 := by simp only [dSS, PyData.depth]; omega
  show (PyData.canLay0 (dSS xss) && decide (PyData.depth (dSS xss) ≤ 64)) = true
  rw [Bool.and_eq_true]
  exact ⟨by simp only [dSS, PyData.canLay0]; exact canL_sets xss nm, decide_eq_true h2⟩
theorem eqv_dS (xs ys : List Str) : PyData.eqv (dS xs) (dS ys) = decide (xs = ys) := Datum.eqv xs ys
theorem eqv_dSS (xs ys : List (List Str)) : PyData.eqv (dSS xs) (dSS ys) = decide (xs = ys) := Datum.eqv xs ys
theorem dp_dS {K : PySem.W.Frag} {H : Hp} {a : Addr} {xs : List Str} (h : SqL K H a (xs.map V.str)) : Dp K H (.ref a) (dS xs) := .lst h (dp_strs xs)
theorem dp_sets {K : PySem.W.Frag} {H : Hp} : ∀ {ps : List (Addr × List Str)}, (∀ q ∈ ps, SqL K H q.1 (q.2.map V.str)) → DpAll K H (ps.map fun q => V.ref q.1) (ps.map fun q => dS q.2)
  | [], _ => .nil
  | q :: r, h => .cons (dp_dS (h q List.mem_cons_self)) (dp_sets fun z hz => h z (List.mem_cons_of_mem _ hz))
theorem dp_dSS {K : PySem.W.Frag} {H : Hp} {a : Addr} {ps : List (Addr × List Str)} (hA : SqL K H a (ps.map fun q => V.ref q.1)) (h : ∀ q ∈ ps, SqL K H q.1 (q.2.map V.str)) : Dp K H (.ref a) (dSS (ps.map (·.2))) := by
  refine .lst hA ?_
  rw [List.map_map]
  exact dp_sets h
end K1
end
section
set_option maxHeartbeats 4000000
namespace K1
open PySem PySem.Spec PyProof.Rows L2 Gr GxR Srx Skx Dcx
section
variable {P : Program} {w : World} {K : PySem.W.Frag} {mg : Str → Option Value} {base : Heap} {f : Addr} {fd : FuncData} {p : He.Defn} {T : Addr}
/-! ### _law_odd -/
theorem scOdd : FnScope ["_law_cell", "_law_some"] ["_law_cell"] (defScope sOdd) := ⟨rfl, rfl, rfl, by decide +kernel, rfl, by decide +kernel, by decide +kernel⟩
def spOdd (K : PySem.W.Frag) : Sp := fun vs H Q _ => ∃ c : Int, vs = [.int c] ∧ ∀ v H', Gr H H' → Thing K H' v → nmV v = false → Q v H'
theorem thing_str {K : PySem.W.Frag} {H : Hp} {x : Str} (h : x.length ≤ sizeLine) : Thing K H (.str x) := ⟨"str", .base (.str x), (by show kitB "str" "str" = some true; decide +kernel), fun y e => by cases e; exact h⟩
theorem thing_not {K : PySem.W.Frag} {H : Hp} {t : String} {z : V} (ty : TyX K H z (.type t)) (kt : kitB t "str" = some false) (e : strV z = false) : Thing K H z := ⟨t, ty, by rw [e]; exact kt, fun y e2 => by rw [e2] at e; cases e⟩
theorem atI_mod {α : Type} {xs : List α} {c : Int} {n : Nat} (hn : xs.length = n) (h0 : 0 < n) : ∃ v, atI xs (c % (n : Int)) = some v ∧ v ∈ xs := by
  have h1 : 0 ≤ c % (n : Int) := Int.emod_nonneg _ (by omega)
  have h2 : c % (n : Int) < n := Int.emod_lt_of_pos _ (by omega)
  obtain ⟨j, hj⟩ := Int.eq_ofNat_of_zero_le h1
  have hlt : j < xs.length := by omega
  rw [hj]
  exact ⟨xs[j], atI_nat (List.getElem?_eq_getElem hlt), List.getElem_mem hlt⟩
theorem ok_odd (F : FnP K "_law_odd" sOdd f fd) : FnOk P w K mg base CX0 1 f fd ["_law_cell"] (spOdd K) := by
  refine F.ok scOdd (fun vs H Q E h => ?_) (fun cdv A outer s H vs Q E hr h => ?_)
  · obtain ⟨c, rfl, _⟩ := h
    rfl
  · obtain ⟨c, rfl, q⟩ := h
    refine ⟨_, PSs.nox (pss_cons (ps_set (i := 1) scOdd.nd rfl (.inl rfl) (pe_lst (pa_cons pe_str (pa_cons pe_str (pa_cons pe_str (pa_cons pe_str (pa_cons pe_str (pa_cons pe_str (pa_cons pe_non (pa_cons pe_int (pa_cons pe_bl (pa_cons (pe_lst (pa_cons pe_str pa_nil)) (pa_cons (pe_tup (pa_cons pe_str pa_nil)) (pa_cons pe_str (pa_cons pe_str pa_nil)))))))))))))))
      (pss_one (ps_ret (pe_ix ix_list (pv 1) (pe_op op_mod (pv 0) pe_int) (fun _ _ => rfl))))), ?_⟩
    have one : 1 ≤ sizeLine := by rw [sizeLine_eq]; omega
    have fif : 13 ≤ sizeLine := by rw [sizeLine_eq]; omega
    refine ⟨one, fun l1 n1 => ⟨one, fun t1 n2 => ⟨fif, fun l nl => ?_⟩⟩⟩
    have g1 : Gr H (upd H l1 (.lst [.str "a"])) := Gr.new n1
    have g2 := Gr.new (o := .tup [.str "a"]) n2
    have g3 := Gr.new (o := .lst [.str "", .str "abcdefghi", .str "A", .str "a1", .str "a b", .str "-", .non, .int 3, .bl true, .ref l1, .ref t1, .str "a\n", .str "_"]) nl
    obtain ⟨v, hv, mv⟩ := atI_mod (xs := [V.str "", .str "abcdefghi", .str "A", .str "a1", .str "a b", .str "-", .non, .int 3, .bl true, .ref l1, .ref t1, .str "a\n", .str "_"]) (c := c) (n := 13) rfl (by omega)
    refine ⟨_, rfl, _, rfl, _, _, rfl, rfl, (by show (0 : Int) < 13; decide), l, _, _, v, rfl, rfl, .inl (.inl upd_same), hv, ?_⟩
    have sm : ∀ x : Str, x.length ≤ 9 → x.length ≤ sizeLine := fun x hx => by rw [sizeLine_eq]; omega
    refine q v _ ((g1.trans g2).trans g3) ?_ ?_
    · simp only [List.mem_cons, List.not_mem_nil, or_false] at mv
      rcases mv with rfl | rfl | rfl | rfl | rfl | rfl | rfl | rfl | rfl | rfl | rfl | rfl | rfl
      · exact thing_str (sm _ (by decide +kernel))
      · exact thing_str (sm _ (by decide +kernel))
      · exact thing_str (sm _ (by decide +kernel))
      · exact thing_str (sm _ (by decide +kernel))
      · exact thing_str (sm _ (by decide +kernel))
      · exact thing_str (sm _ (by decide +kernel))
      · exact thing_not (t := "NoneType") (.base .non) (by decide +kernel) rfl
      · exact thing_not (t := "int") (.base (.int 3)) (by decide +kernel) rfl
      · exact thing_not (t := "bool") (.base (.bl true)) (by decide +kernel) rfl
      · exact thing_not (t := "list") (.base (.lst (g3.lst (g2.lst upd_same)))) (by decide +kernel) rfl
      · exact thing_not (t := "tuple") (.base (.tup (g3.tup upd_same))) (by decide +kernel) rfl
      · exact thing_str (sm _ (by decide +kernel))
      · exact thing_str (sm _ (by decide +kernel))
    · simp only [List.mem_cons, List.not_mem_nil, or_false] at mv
      rcases mv with rfl | rfl | rfl | rfl | rfl | rfl | rfl | rfl | rfl | rfl | rfl | rfl | rfl <;> first | rfl | decide +kernel
/-! ### _law_row -/
abbrev nRow : List Str := ["_law_names_here", "_law_cell", "_law_found", "_law_bits", "_law_name"]
theorem scRow : FnScope nRow ["_law_names_here", "_law_cell"] (defScope sRow) := ⟨rfl, rfl, rfl, by decide +kernel, rfl, by decide +kernel, by decide +kernel⟩
def spRow (K : PySem.W.Frag) : Sp := fun vs H Q _ => ∃ (a : Addr) (c : Int) (ns : List Str), vs = [.ref a, .int c] ∧ SqL K H a (ns.map V.str) ∧ ns ≠ [] ∧ ns.Nodup ∧ Nms ns ∧ ns.length ≤ 1000 ∧
  ∀ (p : Addr) (H' : Hp) (ys : List Str), Gr H H' → H p = none → H' p = some (.lst (ys.map V.str)) → ys.Nodup → (∀ y ∈ ys, y ∈ ns) → ys.length ≤ ns.length → Q (.ref p) H'
theorem ok_row (F : FnP K "_law_row" sRow f fd) (gL : mg "len" = none) : FnOk P w K mg base CX0 1 f fd ["_law_names_here", "_law_cell"] (spRow K) := by
  refine F.ok scRow (fun vs H Q E h => ?_) (fun cdv A outer s H vs Q E hr h => ?_)
  · obtain ⟨a, c, ns, rfl, _⟩ := h
    rfl
  · obtain ⟨a, c, ns, rfl, hA, ne, nd, nm, few, q⟩ := h
    refine ⟨_, PSs.nox (pss_cons (ps_set (i := 2) scRow.nd rfl (.inl rfl) (pe_lst pa_nil))
      (pss_cons (ps_set (i := 3) scRow.nd rfl (.inl rfl) (pe_op op_fdiv (pv 1) pe_int))
      (pss_cons (ps_for PassesOwn.never rfl (pi_list (pv 0)) (pg_name (i := 4) scRow.nd rfl (.inl rfl))
        (pss_cons (ps_if (pt_cmpR op_eq (pe_op op_mod (pv 3) pe_int) pe_int (nomark _)) (pss_one (ps_expr (pe_bm PySem.F.plainAttrs_list PySem.F.slot_list_append PySem.F.type_list_append mt_append (pv 2) (pa_cons (pv 4) pa_nil)))) pss_nil)
        (pss_one (ps_set (i := 3) scRow.nd rfl (.inl rfl) (pe_op op_fdiv (pv 3) pe_int)))))
      (pss_cons (ps_if (PW.pt (pw_and (pt_cmpR (op_eqD (hu64 hr)) (pv 2) (pe_lst pa_nil) (nomark _)) (pw_and1 (pt_cmpR op_gt (pe_op op_mod (pv 1) pe_int) pe_int (nomark _)))))
        (pss_one (ps_set (i := 2) scRow.nd rfl (.inl rfl) (pe_lst (pa_cons (pe_ix ix_list (pv 0) (pe_op op_mod (pv 1) (pe_callB call_len_seq (by rfl) gL boot_len (pa_cons (pv 0) pa_nil))) (fun _ _ => rfl)) pa_nil)))) pss_nil)
      (pss_one (ps_ret (pe_ifExp (pt_cmpR op_eq (pe_op op_mod (pv 1) pe_int) pe_int (nomark _)) (pe_revL (pv 2)) (pv 2)))))))), ?_⟩
    refine ⟨Nat.zero_le _, fun Fp nF => ?_⟩
    refine ⟨_, rfl, _, _, rfl, rfl, ⟨by decide, by decide⟩, ?_⟩
    have g0 : Gr H (upd H Fp (.lst [])) := Gr.new nF
    refine ⟨_, rfl, a, rfl, ⟨_, g0.seq hA⟩, for_list (K := K) (xs := ns.map V.str) (fun i σ H2 => ∃ (ys : List Str) (b : Int) (v : Option V), Gr H H2 ∧ H2 Fp = some (.lst (ys.map V.str)) ∧ List.Sublist ys (ns.take i) ∧ σ = [some (.ref a), some (.int c), some (.ref Fp), some (.int b), v]) ⟨[], _, _, g0, upd_same, List.Sublist.refl _, rfl⟩ (fun i σ H2 _ h => ?_) (fun i x σ H2 hx h => ?_) (fun σ H2 h => ?_)⟩
    · obtain ⟨ys, b, v, g, _⟩ := h
      exact g.seq hA
    · obtain ⟨ys, b, v, g, e, sub, rfl⟩ := h
      obtain ⟨x, hx2, rfl⟩ := get_map hx
      refine ⟨_, rfl, _, _, rfl, rfl, (by show (0 : Int) < 2; decide), rfl, _, rfl, ite2 (fun _ => ?_) (fun _ => ?_)⟩
      · refine ⟨_, rfl, .inl ⟨rfl, _, .inl (.inl e)⟩, _, rfl, Fp, _, _, rfl, rfl, e, ?_, ?_⟩
        · rw [List.length_map]
          have h1 := sub.length_le
          rw [List.length_take] at h1
          exact Nat.lt_of_le_of_lt h1 (small1000 (by omega))
        · refine ⟨_, rfl, _, _, rfl, rfl, ⟨by decide, by decide⟩, ys ++ [x], _, _, g.mut nF, ?_, ?_, rfl⟩
          · rw [upd_same, List.map_append]
            rfl
          · rw [List.take_add_one, hx2]
            exact sub.append (List.Sublist.refl _)
      · exact ⟨_, rfl, _, _, rfl, rfl, ⟨by decide, by decide⟩, ys, _, _, g, e, sub.trans (List.take_sublist_take_left (Nat.le_succ _)), rfl⟩
    · obtain ⟨ys, b, v, g, e, sub, rfl⟩ := h
      rw [List.length_map, List.take_length] at sub
      have nd1 : ys.Nodup := nd.sublist sub
      have mem1 : ∀ y ∈ ys, y ∈ ns := fun y hy => sub.subset hy
      have ln1 : ys.length ≤ ns.length := sub.length_le
      refine ⟨_, rfl, Nat.zero_le _, fun e1 ne1 => ?_⟩
      have g1 : Gr H (upd H2 e1 (.lst [])) := g.trans (Gr.new ne1)
      have e0 : (upd H2 e1 (.lst [])) Fp = some (.lst (ys.map V.str)) := (Gr.new ne1).lst e
      refine ⟨dS ys, dS [], dp_dS (.inl (.inl e0)), dp_dS (.inl (.inl upd_same)), shaped_dS (fun x hx => nm x (mem1 x hx)), shaped_dS (fun _ z => absurd z List.not_mem_nil), _, rfl, ?_⟩
      · generalize PyData.eqv (dS ys) (dS []) = b1
        generalize upd H2 e1 (.lst []) = H3 at g1 e0
        have e1 := e0
        cases b1 with
        | false =>
          refine iteF ?_
          refine ⟨_, rfl, _, _, rfl, rfl, (by show (0 : Int) < 2; decide), rfl, _, rfl, ite2 (fun _ => ⟨_, rfl, _, _, rfl, .inl (.inl e1), fun r nr => q r _ (ys).reverse (g1.trans (Gr.new nr)) (g1.free nr) (by rw [upd_same, ← List.map_reverse]) ((List.reverse_perm _).nodup_iff.mpr nd1) (fun y hy => mem1 y (List.mem_reverse.mp hy)) (by rw [List.length_reverse]; exact ln1)⟩) (fun _ => ⟨_, rfl, q _ _ (ys) g1 nF e1 nd1 mem1 ln1⟩)⟩
        | true =>
          refine iteT ⟨_, rfl, _, _, rfl, rfl, (by show (0 : Int) < 4; decide), _, _, rfl, rfl, _, rfl, ?_⟩
          refine ite2 (fun _ => ?_) (fun _ => ?_)
          · have hlen : 0 < ns.length := List.length_pos_iff.mpr ne
            obtain ⟨v, hv, mv⟩ := atI_mod (xs := ns.map V.str) (c := c) (n := ns.length) (List.length_map ..) hlen
            obtain ⟨x, mx, rfl⟩ := List.mem_map.mp mv
            refine ⟨_, rfl, _, rfl, _, rfl, a, _, rfl, .inl (g1.seq hA), _, _, rfl, rfl, ?_, a, _, _, V.str x, rfl, rfl, g1.seq hA, ?_, (show 1 ≤ sizeLine by rw [sizeLine_eq]; omega), fun l nl => ?_⟩
            · show (0 : Int) < _
              rw [List.length_map]
              omega
            · rw [List.length_map]
              exact hv
            · have g2 : Gr H (upd H3 l (.lst [V.str x])) := g1.trans (Gr.new nl)
              have nl2 := g1.free nl
              have upd_same2 : (upd H3 l (.lst [V.str x])) l = some (.lst ([x].map V.str)) := upd_same
              have nd2 : [x].Nodup := by simp
              have mem2 : ∀ y ∈ [x], y ∈ ns := fun y hy => by
                have hy : y = x := by simpa using hy
                rw [hy]; exact mx
              have ln2 : [x].length ≤ ns.length := hlen
              refine ⟨_, rfl, _, _, rfl, rfl, (by show (0 : Int) < 2; decide), rfl, _, rfl, ite2 (fun _ => ⟨_, rfl, _, _, rfl, .inl (.inl upd_same2), fun r nr => q r _ ([x]).reverse (g2.trans (Gr.new nr)) (g2.free nr) (by rw [upd_same, ← List.map_reverse]) ((List.reverse_perm _).nodup_iff.mpr nd2) (fun y hy => mem2 y (List.mem_reverse.mp hy)) (by rw [List.length_reverse]; exact ln2)⟩) (fun _ => ⟨_, rfl, q _ _ ([x]) g2 nl2 upd_same2 nd2 mem2 ln2⟩)⟩
          · refine ⟨_, rfl, _, _, rfl, rfl, (by show (0 : Int) < 2; decide), rfl, _, rfl, ite2 (fun _ => ⟨_, rfl, _, _, rfl, .inl (.inl e1), fun r nr => q r _ (ys).reverse (g1.trans (Gr.new nr)) (g1.free nr) (by rw [upd_same, ← List.map_reverse]) ((List.reverse_perm _).nodup_iff.mpr nd1) (fun y hy => mem1 y (List.mem_reverse.mp hy)) (by rw [List.length_reverse]; exact ln1)⟩) (fun _ => ⟨_, rfl, q _ _ (ys) g1 nF e1 nd1 mem1 ln1⟩)⟩
end
end K1
end
section
set_option maxHeartbeats 4000000
namespace K1
open PySem PySem.Spec PyProof.Rows L2 Gr GxR Srx Skx Dcx
/-- at a: a list of the lists ps -/
structure LL (H : Hp) (a : Addr) (ps : List (Addr × List Str)) : Prop where
  at_ : H a = some (.lst (ps.map fun q => V.ref q.1))
  own : ∀ q ∈ ps, H q.1 = some (.lst (q.2.map V.str))
theorem LL.gr {H H' : Hp} {a : Addr} {ps : List (Addr × List Str)} (h : LL H a ps) (g : Gr H H') : LL H' a ps := ⟨g.lst h.at_, fun q hq => g.lst (h.own q hq)⟩
theorem Told.ll {H H' : Hp} {p : Addr} {ps : List (Addr × List Str)} (T : Told H H' p ps) : LL H' p ps := ⟨T.at_, fun q hq => (T.own q hq).2.2⟩
/-- sets of names, not too many -/
def Fit (xss : List (List Str)) : Prop := xss.length ≤ 1000 ∧ ∀ xs ∈ xss, Nms xs ∧ xs.length ≤ 1000
section
variable {P : Program} {w : World} {K : PySem.W.Frag} {mg : Str → Option Value} {base : Heap} {f : Addr} {fd : FuncData} {p : He.Defn} {T : Addr}
/-! ### _law_sets -/
abbrev nSets : List Str := ["_law_found", "_law_due", "_law_one", "_law_other", "_law_name"]
theorem scSets : FnScope nSets ["_law_found", "_law_due"] (defScope sSets) := ⟨rfl, rfl, rfl, by decide +kernel, rfl, by decide +kernel, by decide +kernel⟩
def spSets : Sp := fun vs H Q _ => ∃ (a b : Addr) (ps qs : List (Addr × List Str)), vs = [.ref a, .ref b] ∧ LL H a ps ∧ LL H b qs ∧ ps.map (·.2) = qs.map (·.2) ∧ Fit (ps.map (·.2)) ∧ ∀ H', Gr H H' → Q (.bl true) H'
theorem ok_sets (F : FnP K "_law_sets" sSets f fd) (gI : mg "isinstance" = none) (gLi : mg "list" = none) (gL : mg "len" = none) (gZ : mg "zip" = none) (gA : mg "all" = none) (gS : mg "str" = none) : FnOk P w K mg base CX0 1 f fd ["_law_found", "_law_due"] spSets := by
  refine F.ok scSets (fun vs H Q E h => ?_) (fun cdv A outer s H vs Q E hr h => ?_)
  · obtain ⟨a, b, ps, qs, rfl, _⟩ := h
    rfl
  · obtain ⟨a, b, ps, qs, rfl, hA, hB, same, fit, q⟩ := h
    refine ⟨_, PSs.nox (pss_cons (ps_if (PW.pt (pw_or (pt_not (pt_val (pe_callB call_isi (by rfl) gI (by decide +kernel) (pa_cons (pv 0) (pa_cons (pe_bltn (v := .ty "list") (by rfl) gLi (by decide +kernel) rfl) pa_nil)))))
        (pw_or1 (pt_cmpR op_ne (pe_callB call_len_seq (by rfl) gL boot_len (pa_cons (pv 0) pa_nil)) (pe_callB call_len_seq (by rfl) gL boot_len (pa_cons (pv 1) pa_nil)) (nomark _))))) (pss_one (ps_ret pe_bl)) pss_nil)
      (pss_cons (ps_for PassesOwn.never rfl (pi_zip (by rfl) gZ (pa_cons (pv 0) (pa_cons (pv 1) pa_nil))) (pg_tup rfl (pgs_cons (pg_name (i := 2) scSets.nd rfl (.inl rfl)) (pgs_cons (pg_name (i := 3) scSets.nd rfl (.inl rfl)) pgs_nil)))
        (pss_one (ps_if (PW.pt (pw_or (pt_not (pt_val (pe_callB call_isi (by rfl) gI (by decide +kernel) (pa_cons (pv 2) (pa_cons (pe_bltn (v := .ty "list") (by rfl) gLi (by decide +kernel) rfl) pa_nil)))))
          (pw_or (pt_not (pt_val (pe_callB (cr_all rfl) (by rfl) gA (by decide +kernel) (pa_cons (pe_lc (own := [("_law_name", 4)]) (g := gName 4) (tt := tYes) rfl scSets.nd (pi_list (pv 2)) (blkOk_by (N := nSets) (sc := defScope sSets) (by decide +kernel)) (fun _ _ _ _ _ => pg_name (i := 4) scSets.nd rfl (.inl rfl)) (fun _ _ _ _ _ => pts_nil)
              (fun _ _ _ _ _ => pe_callB (r := rIsi K) call_isi (by rfl) gI (by decide +kernel) (pa_cons (pv 4) (pa_cons (pe_bltn (v := .ty "str") (by rfl) gS (by decide +kernel) rfl) pa_nil)))) pa_nil))))
          (pw_or1 (pt_cmpR (op_neD (hu64 hr)) (pv 2) (pv 3) (nomark _)))))) (pss_one (ps_ret pe_bl)) pss_nil)))
      (pss_one (ps_ret pe_bl)))), ?_⟩
    have hlen : ps.length = qs.length := by
      have := congrArg List.length same
      rw [List.length_map, List.length_map] at this
      exact this
    refine ⟨_, rfl, _, _, _, _, true, rfl, .ty _, .base (.lst hA.at_), kit_ty (by decide +kernel), _, rfl, ?_⟩
    refine iteF ?_
    refine ⟨_, rfl, a, _, rfl, .inl (.inl (.inl hA.at_)), _, rfl, b, _, rfl, .inl (.inl (.inl hB.at_)), rfl, _, rfl, ?_⟩
    rw [List.length_map, List.length_map, hlen, decide_eq_true rfl]
    refine iteF ?_
    refine ⟨_, rfl, _, rfl, a, b, _, _, rfl, .inl (.inl hA.at_), .inl (.inl hB.at_), RZ.for_zipL (K := K) (xs := ps.map fun q : Addr × List Str => V.ref q.1) (ys := qs.map fun q : Addr × List Str => V.ref q.1) (by rw [List.length_map, List.length_map, hlen]) (fun i σ H2 => Gr H H2 ∧ ∃ v2 v3 v4, σ = [some (.ref a), some (.ref b), v2, v3, v4]) ⟨Gr.refl H, _, _, _, rfl⟩ (fun i σ H2 h => ⟨.inl (.inl (h.1.lst hA.at_)), .inl (.inl (h.1.lst hB.at_))⟩) (fun i x y T σ H2 hx hy h nT => ?_) (fun σ H2 h => ?_)⟩
    · obtain ⟨g, v2, v3, v4, rfl⟩ := h
      obtain ⟨p0, hp0, rfl⟩ := get_map hx
      obtain ⟨q0, hq0, rfl⟩ := get_map hy
      have mp := List.mem_of_getElem? hp0
      have mq := List.mem_of_getElem? hq0
      have e2 : p0.2 = q0.2 := by
        have h1 : (ps.map (·.2))[i]? = some p0.2 := by rw [List.getElem?_map, hp0]; rfl
        have h2 : (qs.map (·.2))[i]? = some q0.2 := by rw [List.getElem?_map, hq0]; rfl
        rw [same, h2] at h1
        exact (Option.some.inj h1).symm
      obtain ⟨nm, few⟩ := fit.2 p0.2 (List.mem_map.mpr ⟨p0, mp, rfl⟩)
      have g1 : Gr H (upd H2 T (.tup [V.ref p0.1, V.ref q0.1])) := g.trans (Gr.new nT)
      refine ⟨T, _, rfl, .inl (.inl upd_same), rfl, _, _, rfl, _, _, rfl, rfl, ?_⟩
      generalize upd H2 T (.tup [V.ref p0.1, V.ref q0.1]) = H3 at g1
      have eP := g1.lst (hA.own p0 mp)
      have eQ := g1.lst (hB.own q0 mq)
      refine ⟨_, rfl, _, _, _, _, true, rfl, .ty _, .base (.lst eP), kit_ty (by decide +kernel), _, rfl, ?_⟩
      refine iteF ?_
      refine ⟨_, rfl, p0.1, rfl, ⟨_, .inl (.inl eP)⟩, fun D hD => lc_list (K := K) (xs := p0.2.map V.str) (fun j H4 => Gr H3 H4 ∧ H4 D = some (.lst ((List.replicate j true).map V.bl))) ⟨Gr.new hD, upd_same⟩ (fun j H4 _ h => .inl (.inl (h.1.lst eP))) (fun j x H4 hx h => ?_) (fun H4 h => ?_)⟩
      · obtain ⟨g4, e4⟩ := h
        obtain ⟨y, hy2, rfl⟩ := get_map hx
        have hj : j < p0.2.length := (List.getElem?_eq_some_iff.mp hy2).1
        refine ⟨rfl, yesIf ?_⟩
        refine ⟨_, rfl, _, _, _, _, true, rfl, .ty _, .base (.str y), kit_ty (by decide +kernel), _, e4, ?_, g4.mut hD, ?_⟩
        · rw [List.length_map, List.length_replicate]
          exact Nat.lt_of_lt_of_le hj (Nat.le_of_lt (small1000 few))
        · rw [upd_same, List.replicate_succ', List.map_append]
          rfl
      · obtain ⟨g4, e4⟩ := h
        refine ⟨D, _, rfl, .inl (.inl e4), _, rfl, ?_⟩
        rw [show ((List.replicate (p0.2.map V.str).length true).all id) = true by
          rw [List.all_eq_true]
          intro z hz
          rw [List.eq_of_mem_replicate hz]
          rfl]
        refine iteF ?_
        refine ⟨_, rfl, _, rfl, dS p0.2, dS q0.2, dp_dS (.inl (.inl (g4.lst eP))), dp_dS (.inl (.inl (g4.lst eQ))), shaped_dS nm, shaped_dS (e2 ▸ nm), _, rfl, ?_⟩
        rw [eqv_dS, decide_eq_true e2]
        exact iteF ⟨g1.trans g4, _, _, _, rfl⟩
    · exact q H2 h.1
end
end K1
end
section
set_option maxHeartbeats 4000000
namespace K1
open PySem PySem.Spec PyProof.Rows L2 Gr GxR Srx Skx Dcx
/-- for x in C: x.append(m), the lists of C younger than H -/
theorem for_more {K : PySem.W.Frag} {C : Addr} {A : List Addr} {H H5 : Hp} {σ : L2.St} {D : Ends} {j : Nat} {m : Str} (hC : H5 C = some (.lst (A.map V.ref))) (gr : Gr H H5) (nC : C ∉ A) (new : ∀ x ∈ A, H x = none) (has : ∀ x ∈ A, ∃ zs, H5 x = some (.lst zs) ∧ zs.length ≤ 1000) (few : A.length ≤ 5000) (hj : j < σ.length)
    (hd : ∀ (v : Option V) (H6 : Hp), Gr H H6 → (∀ b o, b ∉ A → H5 b = some o → H6 b = some o) → D.nx (σ.set j v) H6) :
    ∃ W : Nat → Nat → L2.St → Hp → Prop, (∃ m, W 0 m σ H5) ∧ ∀ i m' σ H, W i m' σ H →
      ((Itl K C).stop i H ∧ D.nx σ H) ∨ ((Itl K C).go i H ∧ ∃ N : L2.St → Hp → Prop, (∀ σ' H', N σ' H' → ∃ m2, m2 < m' ∧ W (i + 1) m2 σ' H') ∧ ∀ x H', (Itl K C).yld i H x H' → gName j x σ H' fun σ2 H2 => tDrop (tBM K "list" rAppend (tVar j) (tCons (tC (.str m)) tNil)) { D with nx := N, ct := N, bk := D.nx } σ2 H2) := by
  refine for_list (K := K) (xs := A.map V.ref) (fun i σ' H6 => Gr H H6 ∧ (∀ b o, b ∉ A → H5 b = some o → H6 b = some o) ∧ (∀ x ∈ A, ∃ zs, H6 x = some (.lst zs) ∧ zs.length ≤ 1000 + i) ∧ ∃ v, σ' = σ.set j v) ⟨gr, fun _ _ _ e => e, has, σ[j], (List.set_getElem_self ..).symm⟩ (fun i σ' H6 _ h => .inl (.inl (h.2.1 _ _ nC hC))) (fun i x σ' H6 hx h => ?_) (fun σ' H6 h => ?_)
  · obtain ⟨g, fr, lens, v, rfl⟩ := h
    obtain ⟨a, ha, rfl⟩ := get_map hx
    have ma := List.mem_of_getElem? ha
    have hi : i < A.length := (List.getElem?_eq_some_iff.mp ha).1
    obtain ⟨zs, ez, hz⟩ := lens a ma
    show tDrop _ _ ((σ.set j v).set j (some (.ref a))) H6
    rw [List.set_set]
    refine ⟨.ref a, ?_, .inl ⟨rfl, _, .inl (.inl ez)⟩, a, _, _, rfl, rfl, ez, ?_, ?_⟩
    · rw [List.getElem?_set_self hj]
    · rw [sizeLine_eq]
      omega
    · refine ⟨g.mut (new a ma), fun b o hb e => ?_, fun x hx => ?_, _, rfl⟩
      · rw [upd_ne (fun z => hb (by rw [z]; exact ma))]
        exact fr b o hb e
      · by_cases hxa : x = a
        · subst hxa
          exact ⟨_, upd_same, by rw [List.length_append, List.length_singleton]; omega⟩
        · obtain ⟨ys, ey, hy⟩ := lens x hx
          exact ⟨ys, by rw [upd_ne hxa]; exact ey, by omega⟩
  · obtain ⟨g, fr, _, v, rfl⟩ := h
    exact hd v H6 g fr
theorem keep_sub : ∀ (l acc : List (List Str)), List.Sublist (l.foldl keep acc) (acc ++ l)
  | [], acc => by rw [List.append_nil]; exact List.Sublist.refl _
  | x :: l, acc => by
    rw [List.foldl_cons]
    refine (keep_sub l _).trans ?_
    unfold keep
    split
    · exact List.Sublist.append (List.Sublist.refl _) (List.sublist_cons_self _ _)
    · rw [List.append_assoc]
      exact List.Sublist.refl _
theorem fit_rkd {xss : List (List Str)} (h : Fit xss) : Fit (rkd xss) := ⟨by rw [(rkd_perm _).length_eq]; exact h.1, fun xs hx => h.2 xs ((rkd_perm _).mem_iff.mp hx)⟩
theorem fit_sub {xss yss : List (List Str)} (h : Fit xss) (s : List.Sublist yss xss) : Fit yss := ⟨Nat.le_trans s.length_le h.1, fun xs hx => h.2 xs (s.subset hx)⟩
theorem once_nms {xs : List Str} (h : Nms xs) : Nms (once xs) := fun x hx => h x (Sx.dd_mem.mp (srt_mem.mp hx))
theorem once_len {xs : List Str} : (once xs).length ≤ xs.length := by
  unfold once
  rw [srt_len]
  exact Sx.dd_len xs
theorem fit_least {xss : List (List Str)} (h : Fit xss) : Fit (least (xss.map once)) := by
  have h1 : Fit (xss.map once) := ⟨by rw [List.length_map]; exact h.1, fun xs hx => by
    obtain ⟨ys, hy, rfl⟩ := List.mem_map.mp hx
    obtain ⟨a, b⟩ := h.2 ys hy
    exact ⟨once_nms a, Nat.le_trans once_len b⟩⟩
  unfold least
  exact fit_sub (fit_rkd (fit_sub h1 (ddG_sub _))) (keep_sub _ [])
theorem lens_of {ps : List (Addr × List Str)} (h : Fit (ps.map (·.2))) : ps.length ≤ 1000 ∧ ∀ q ∈ ps, Nms q.2 ∧ q.2.length ≤ 1000 := ⟨by have := h.1; rw [List.length_map] at this; exact this, fun q hq => h.2 q.2 (List.mem_map.mpr ⟨q, hq, rfl⟩)⟩
theorem LL.dp {K : PySem.W.Frag} {H : Hp} {a : Addr} {ps : List (Addr × List Str)} (h : LL H a ps) : Dp K H (.ref a) (dSS (ps.map (·.2))) := dp_dSS (.inl (.inl h.at_)) fun q hq => .inl (.inl (h.own q hq))
theorem LL.fr {H H' : Hp} {a : Addr} {A : List Addr} {ps : List (Addr × List Str)} (h : LL H a ps) (fr : ∀ b o, b ∉ A → H b = some o → H' b = some o) (na : a ∉ A) (nq : ∀ q ∈ ps, q.1 ∉ A) : LL H' a ps := ⟨fr _ _ na h.at_, fun q hq => fr _ _ (nq q hq) (h.own q hq)⟩
/-- told lists are none of what stood -/
theorem Told.off {H H' : Hp} {p x : Addr} {o : HO} {ps : List (Addr × List Str)} (T : Told H H' p ps) (e : H x = some o) : x ≠ p ∧ ∀ q ∈ ps, x ≠ q.1 := ⟨ne_of_none e T.new, fun q hq => ne_of_none e (T.own q hq).1⟩
section
variable {P : Program} {w : World} {K : PySem.W.Frag} {mg : Str → Option Value} {base : Heap} {f fR fL fS : Addr} {fd fdR fdL fdS : FuncData} {p : He.Defn} {T T2 : Addr}
/-! ### _law_told_right -/
abbrev nTold : List Str := ["_law_some", "_law_sets_here", "_law_due", "_law_best", "_law_one", "_law_handed", "_law_least", "_law_ready", "_law_told"]
theorem scTold : FnScope nTold ["_law_some", "_law_sets_here", "_law_due", "_law_best"] (defScope sTold) := ⟨rfl, rfl, rfl, by decide +kernel, rfl, by decide +kernel, by decide +kernel⟩
def spTold (T T2 : Addr) : Sp := fun vs H Q _ => ∃ (s h d b : Addr) (ps hs ds bs : List (Addr × List Str)), vs = [.ref s, .ref h, .ref d, .ref b] ∧ LL H s ps ∧ LL H h hs ∧ LL H d ds ∧ LL H b bs ∧ Fit (ps.map (·.2)) ∧ Fit (hs.map (·.2)) ∧
  ds.map (·.2) = rkd (hs.map (·.2)) ∧ bs.map (·.2) = least ((ps.map (·.2)).map once) ∧ TabG H T ∧ TabG H T2 ∧ ∀ H', Gr H H' → Q (.bl true) H'
theorem ok_told (F : FnP K "_law_told_right" sTold f fd) (GR : FnOk P w K mg base CX0 4 fR fdR ["sets"] (spRanked K)) (bR : Binds K fdR ["sets"] []) (kR : PySem.W.keepIn K (.ref fR) = true) (gR : mg "ranked" = some (.ref fR))
    (GL : FnOk P w K mg base CX0 5 fL fdL ["sets"] (spLeast K T T2)) (bL : Binds K fdL ["sets"] []) (kL : PySem.W.keepIn K (.ref fL) = true) (gL : mg "least_of" = some (.ref fL))
    (GS : FnOk P w K mg base CX0 1 fS fdS ["_law_found", "_law_due"] spSets) (bS : Binds K fdS ["_law_found", "_law_due"] []) (kS : PySem.W.keepIn K (.ref fS) = true) (gS : mg "_law_sets" = some (.ref fS)) (gLi : mg "list" = none) :
    FnOk P w K mg base CX0 6 f fd ["_law_some", "_law_sets_here", "_law_due", "_law_best"] (spTold T T2) := by
  refine F.ok scTold (fun vs H Q E h => ?_) (fun cdv A outer s H vs Q E hr h => ?_)
  · obtain ⟨s, h, d, b, ps, hs, ds, bs, rfl, _⟩ := h
    rfl
  · obtain ⟨s, h, d, b, ps, hs, ds, bs, rfl, lS, lH, lD, lB, fitS, fitH, eD, eB, hT, hT2, q⟩ := h
    refine ⟨_, PSs.nox (pss_cons (ps_setLc (i := 5) (own := [("_law_one", 4)]) (g := gName 4) (tt := tYes) rfl scTold.nd rfl rfl (sw_true rfl rfl rfl (by decide +kernel)) (pi_list (pv 0)) (blkOk_by (N := nTold) (sc := defScope sTold) (by decide +kernel)) (fun _ _ _ _ _ => pg_name (i := 4) scTold.nd rfl (.inl rfl)) (fun _ _ _ _ _ => pts_nil)
          (fun _ _ _ _ _ => pe_callTy (r := rListOf K) call_list_of (by rfl) gLi boot_list (pa_cons (pv 4) pa_nil)))
      (pss_cons (ps_set (i := 6) scTold.nd rfl (.inl rfl) (pe_call GL hr (by rfl) gL kL bL .nil pass0 (pa_cons (pv 5) pa_nil)))
      (pss_cons (ps_if (PW.pt (pw_or (pt_not (pt_val (pe_call GS (hr.mono (by decide)) (by rfl) gS kS bS .nil pass0 (pa_cons (pv 6) (pa_cons (pv 3) pa_nil))))) (pw_or1 (pt_cmpR (op_neD (hu64 hr)) (pv 5) (pv 0) (nomark _))))) (pss_one (ps_ret pe_bl)) pss_nil)
      (pss_cons (ps_setLc (i := 7) (own := [("_law_one", 4)]) (g := gName 4) (tt := tYes) rfl scTold.nd rfl rfl (sw_true rfl rfl rfl (by decide +kernel)) (pi_list (pv 1)) (blkOk_by (N := nTold) (sc := defScope sTold) (by decide +kernel)) (fun _ _ _ _ _ => pg_name (i := 4) scTold.nd rfl (.inl rfl)) (fun _ _ _ _ _ => pts_nil)
          (fun _ _ _ _ _ => pe_callTy (r := rListOf K) call_list_of (by rfl) gLi boot_list (pa_cons (pv 4) pa_nil)))
      (pss_cons (ps_set (i := 8) scTold.nd rfl (.inl rfl) (pe_call GR (hr.mono (by decide)) (by rfl) gR kR bR .nil pass0 (pa_cons (pv 7) pa_nil)))
      (pss_cons (ps_if (PW.pt (pw_or (pt_not (pt_val (pe_call GS (hr.mono (by decide)) (by rfl) gS kS bS .nil pass0 (pa_cons (pv 8) (pa_cons (pv 2) pa_nil))))) (pw_or1 (pt_cmpR (op_neD (hu64 hr)) (pv 7) (pv 1) (nomark _))))) (pss_one (ps_ret pe_bl)) pss_nil)
      (pss_cons (ps_for PassesOwn.never rfl (pi_list (pe_op op_cat (pv 5) (pv 7))) (pg_name (i := 4) scTold.nd rfl (.inl rfl)) (pss_one (ps_expr (pe_bm PySem.F.plainAttrs_list PySem.F.slot_list_append PySem.F.type_list_append mt_append (pv 4) (pa_cons pe_str pa_nil)))))
      (pss_cons (ps_if (PW.pt (pw_or (pt_not (pt_val (pe_call GS (hr.mono (by decide)) (by rfl) gS kS bS .nil pass0 (pa_cons (pv 6) (pa_cons (pv 3) pa_nil))))) (pw_or1 (pt_not (pt_val (pe_call GS (hr.mono (by decide)) (by rfl) gS kS bS .nil pass0 (pa_cons (pv 8) (pa_cons (pv 2) pa_nil)))))))) (pss_one (ps_ret pe_bl)) pss_nil)
      (pss_cons (ps_for PassesOwn.never rfl (pi_list (pe_op op_cat (pv 8) (pv 6))) (pg_name (i := 4) scTold.nd rfl (.inl rfl)) (pss_one (ps_expr (pe_bm PySem.F.plainAttrs_list PySem.F.slot_list_append PySem.F.type_list_append mt_append (pv 4) (pa_cons pe_str pa_nil)))))
      (pss_one (ps_ret (pe_and (pe_call GS (hr.mono (by decide)) (by rfl) gS kS bS .nil pass0 (pa_cons (pe_call GL hr (by rfl) gL kL bL .nil pass0 (pa_cons (pv 0) pa_nil)) (pa_cons (pv 3) pa_nil)))
        (pe_one (pe_call GS (hr.mono (by decide)) (by rfl) gS kS bS .nil pass0 (pa_cons (pe_call GR (hr.mono (by decide)) (by rfl) gR kR bR .nil pass0 (pa_cons (pv 1) pa_nil)) (pa_cons (pv 2) pa_nil)))))))))))))))), ?_⟩
    obtain ⟨fewS, fS⟩ := lens_of fitS
    obtain ⟨fewH, fH⟩ := lens_of fitH
    -- handed
    refine ⟨_, rfl, s, rfl, ⟨_, .inl (.inl lS.at_)⟩, fun Hd nHd => lc_fresh (K := K) (fun x => x) (ps0 := ps) (.inl (.inl lS.at_)) (small1000 fewS) (Gr.refl H) nHd (fun v => rfl) (fun q0 hq0 H4 Q' g4 h4 => ⟨_, rfl, q0.1, q0.2.map V.str, rfl, .inl (.inl (.inl (g4.lst (lS.own q0 hq0)))), h4⟩) (fun H1 hps g1 T1 e1 => ?_)⟩
    have e1 : hps.map (·.2) = ps.map (·.2) := e1
    have fit1 : Fit (hps.map (·.2)) := e1 ▸ fitS
    obtain ⟨few1, f1⟩ := lens_of fit1
    -- least
    refine ⟨_, rfl, Hd, hps, rfl, .inl (.inl T1.at_), fun q hq => ⟨.inl (.inl (T1.own q hq).2.2), (f1 q hq).2⟩, few1, g1.tabG hT, g1.tabG hT2, fun Le H2 lps g2 TL eL => ?_⟩
    rw [e1] at eL
    have fitL : Fit (lps.map (·.2)) := eL ▸ fit_least fitS
    have g02 := g1.trans g2
    refine ⟨_, rfl, _, rfl, Le, b, lps, bs, rfl, TL.ll, lB.gr g02, eL.trans eB.symm, fitL, fun H3 g3 => ⟨_, rfl, ?_⟩⟩
    have g03 := g02.trans g3
    refine iteF ?_
    have lHd3 : LL H3 Hd hps := T1.ll.gr (g2.trans g3)
    refine ⟨_, rfl, _, rfl, _, _, lHd3.dp, (lS.gr g03).dp, shaped_dSS (fun x hx => (fit1.2 x hx).1), shaped_dSS (fun x hx => (fitS.2 x hx).1), _, rfl, ?_⟩
    rw [eqv_dSS, decide_eq_true e1]
    refine iteF ?_
    have lL3 : LL H3 Le lps := TL.ll.gr g3
    have lH3 := lH.gr g03
    -- ready
    refine ⟨_, rfl, h, rfl, ⟨_, .inl (.inl lH3.at_)⟩, fun Re nRe => lc_fresh (K := K) (fun x => x) (ps0 := hs) (.inl (.inl lH3.at_)) (small1000 fewH) (Gr.refl H3) nRe (fun v => rfl) (fun q0 hq0 H4 Q' g4 h4 => ⟨_, rfl, q0.1, q0.2.map V.str, rfl, .inl (.inl (.inl (g4.lst (lH3.own q0 hq0)))), h4⟩) (fun H4 rps g4 T4 e4 => ?_)⟩
    have e4 : rps.map (·.2) = hs.map (·.2) := e4
    have fit4 : Fit (rps.map (·.2)) := e4 ▸ fitH
    obtain ⟨few4, f4⟩ := lens_of fit4
    have g04 := g03.trans g4
    -- told
    refine ⟨_, rfl, Re, rps, rfl, .inl (.inl T4.at_), fun q hq => .inl (.inl (.inl (T4.own q hq).2.2)), small1000 few4, fun To H5 tps g5 TT eT => ?_⟩
    rw [e4] at eT
    have fitT : Fit (tps.map (·.2)) := eT ▸ fit_rkd fitH
    have g05 := g04.trans g5
    refine ⟨_, rfl, _, rfl, To, d, tps, ds, rfl, TT.ll, lD.gr g05, eT.trans eD.symm, fitT, fun H6 g6 => ⟨_, rfl, ?_⟩⟩
    have g06 := g05.trans g6
    refine iteF ?_
    have lRe6 : LL H6 Re rps := T4.ll.gr (g5.trans g6)
    refine ⟨_, rfl, _, rfl, _, _, lRe6.dp, (lH.gr g06).dp, shaped_dSS (fun x hx => (fit4.2 x hx).1), shaped_dSS (fun x hx => (fitH.2 x hx).1), _, rfl, ?_⟩
    rw [eqv_dSS, decide_eq_true e4]
    refine iteF ?_
    have lHd6 : LL H6 Hd hps := lHd3.gr ((g4.trans g5).trans g6)
    have lL6 : LL H6 Le lps := lL3.gr ((g4.trans g5).trans g6)
    have lT6 : LL H6 To tps := TT.ll.gr g6
    -- handed + ready, changed
    refine ⟨_, rfl, _, rfl, Hd, Re, _, _, rfl, rfl, lHd6.at_, lRe6.at_, ?_, fun C nC => ?_⟩
    · rw [List.length_map, List.length_map, sizeLine_eq]
      omega
    have g7 : Gr H6 (upd H6 C (.lst ((hps.map fun q => V.ref q.1) ++ rps.map fun q => V.ref q.1))) := Gr.new nC
    have eC : (upd H6 C (.lst ((hps.map fun q => V.ref q.1) ++ rps.map fun q => V.ref q.1))) C = some (.lst ((hps.map (·.1) ++ rps.map (·.1)).map V.ref)) := by
      rw [upd_same, List.map_append, List.map_map, List.map_map]
      rfl
    have nCA : C ∉ hps.map (·.1) ++ rps.map (·.1) := by
      intro z
      rcases List.mem_append.mp z with z | z
      · obtain ⟨q, hq, e⟩ := List.mem_map.mp z
        exact (ne_of_none (lHd6.own q hq) nC) e
      · obtain ⟨q, hq, e⟩ := List.mem_map.mp z
        exact (ne_of_none (lRe6.own q hq) nC) e
    refine ⟨C, rfl, ⟨_, .inl (.inl eC)⟩, ?_⟩
    generalize upd H6 C (.lst ((hps.map fun q => V.ref q.1) ++ rps.map fun q => V.ref q.1)) = H7 at g7 eC
    have g07 := g06.trans g7
    have lHd7 := lHd6.gr g7
    have lRe7 := lRe6.gr g7
    have lL7 := lL6.gr g7
    have lT7 := lT6.gr g7
    refine for_more (K := K) (A := hps.map (·.1) ++ rps.map (·.1)) (H := H) eC g07 nCA (fun x hx => ?_) (fun x hx => ?_) ?_ (show 4 < 9 by decide) (fun v H8 g8 fr8 => ?_)
    · rcases List.mem_append.mp hx with z | z
      · obtain ⟨q, hq, rfl⟩ := List.mem_map.mp z
        exact (T1.own q hq).1
      · obtain ⟨q, hq, rfl⟩ := List.mem_map.mp z
        exact g03.free (T4.own q hq).1
    · rcases List.mem_append.mp hx with z | z
      · obtain ⟨q, hq, rfl⟩ := List.mem_map.mp z
        exact ⟨_, lHd7.own q hq, by rw [List.length_map]; exact (f1 q hq).2⟩
      · obtain ⟨q, hq, rfl⟩ := List.mem_map.mp z
        exact ⟨_, lRe7.own q hq, by rw [List.length_map]; exact (f4 q hq).2⟩
    · rw [List.length_append, List.length_map, List.length_map]
      omega
    have offL : ∀ (x : Addr) (o : HO), H3 x = some o → (∀ q ∈ hps, q.1 ≠ x) → x ∉ hps.map (·.1) ++ rps.map (·.1) := by
      intro x o e n z
      rcases List.mem_append.mp z with z | z
      · obtain ⟨q, hq, e2⟩ := List.mem_map.mp z
        exact n q hq e2
      · obtain ⟨q, hq, e2⟩ := List.mem_map.mp z
        exact (T4.off e).2 q hq e2.symm
    have lL8 : LL H8 Le lps := lL7.fr fr8 (offL Le _ lL3.at_ fun q hq => (TL.off (T1.own q hq).2.2).1) (fun l hl => offL l.1 _ (lL3.own l hl) fun q hq => (TL.off (T1.own q hq).2.2).2 l hl)
    have offT : ∀ (x : Addr), (∀ (y : Addr) (o : HO), H4 y = some o → y ≠ x) → x ∉ hps.map (·.1) ++ rps.map (·.1) := by
      intro x n z
      rcases List.mem_append.mp z with z | z
      · obtain ⟨q, hq, e2⟩ := List.mem_map.mp z
        exact n q.1 _ (g4.lst (lHd3.own q hq)) e2
      · obtain ⟨q, hq, e2⟩ := List.mem_map.mp z
        exact n q.1 _ (T4.own q hq).2.2 e2
    have lT8 : LL H8 To tps := lT7.fr fr8 (offT To fun y o e => (TT.off e).1) (fun l hl => offT l.1 fun y o e => (TT.off e).2 l hl)
    -- all as told
    refine ⟨_, rfl, _, rfl, Le, b, lps, bs, rfl, lL8, lB.gr g8, eL.trans eB.symm, fitL, fun H9 g9 => ⟨_, rfl, ?_⟩⟩
    refine iteF ?_
    have g09 := g8.trans g9
    have lT9 := lT8.gr g9
    refine ⟨_, rfl, _, rfl, To, d, tps, ds, rfl, lT9, lD.gr g09, eT.trans eD.symm, fitT, fun H10 g10 => ⟨_, rfl, ?_⟩⟩
    refine iteF ?_
    have g010 := g09.trans g10
    have lT10 := lT9.gr g10
    have lL10 := (lL8.gr g9).gr g10
    obtain ⟨fewL, fL⟩ := lens_of fitL
    obtain ⟨fewT, fT⟩ := lens_of fitT
    -- told + least, changed
    refine ⟨_, rfl, _, rfl, To, Le, _, _, rfl, rfl, lT10.at_, lL10.at_, ?_, fun C2 nC2 => ?_⟩
    · rw [List.length_map, List.length_map, sizeLine_eq]
      omega
    have g11 : Gr H10 (upd H10 C2 (.lst ((tps.map fun q => V.ref q.1) ++ lps.map fun q => V.ref q.1))) := Gr.new nC2
    have eC2 : (upd H10 C2 (.lst ((tps.map fun q => V.ref q.1) ++ lps.map fun q => V.ref q.1))) C2 = some (.lst ((tps.map (·.1) ++ lps.map (·.1)).map V.ref)) := by
      rw [upd_same, List.map_append, List.map_map, List.map_map]
      rfl
    have nCA2 : C2 ∉ tps.map (·.1) ++ lps.map (·.1) := by
      intro z
      rcases List.mem_append.mp z with z | z
      · obtain ⟨q, hq, e⟩ := List.mem_map.mp z
        exact (ne_of_none (lT10.own q hq) nC2) e
      · obtain ⟨q, hq, e⟩ := List.mem_map.mp z
        exact (ne_of_none (lL10.own q hq) nC2) e
    refine ⟨C2, rfl, ⟨_, .inl (.inl eC2)⟩, ?_⟩
    generalize upd H10 C2 (.lst ((tps.map fun q => V.ref q.1) ++ lps.map fun q => V.ref q.1)) = H11 at g11 eC2
    have lT11 := lT10.gr g11
    have lL11 := lL10.gr g11
    refine for_more (K := K) (A := tps.map (·.1) ++ lps.map (·.1)) (H := H) eC2 (g010.trans g11) nCA2 (fun x hx => ?_) (fun x hx => ?_) ?_ (show 4 < 9 by decide) (fun v2 H12 g12 fr12 => ?_)
    · rcases List.mem_append.mp hx with z | z
      · obtain ⟨q, hq, rfl⟩ := List.mem_map.mp z
        exact g04.free (TT.own q hq).1
      · obtain ⟨q, hq, rfl⟩ := List.mem_map.mp z
        exact g1.free (TL.own q hq).1
    · rcases List.mem_append.mp hx with z | z
      · obtain ⟨q, hq, rfl⟩ := List.mem_map.mp z
        exact ⟨_, lT11.own q hq, by rw [List.length_map]; exact (fT q hq).2⟩
      · obtain ⟨q, hq, rfl⟩ := List.mem_map.mp z
        exact ⟨_, lL11.own q hq, by rw [List.length_map]; exact (fL q hq).2⟩
    · rw [List.length_append, List.length_map, List.length_map]
      omega
    -- told again
    have lS12 := lS.gr g12
    refine ⟨_, rfl, s, ps, rfl, .inl (.inl lS12.at_), fun q hq => ⟨.inl (.inl (lS12.own q hq)), (fS q hq).2⟩, fewS, g12.tabG hT, g12.tabG hT2, fun Z H13 zps g13 TZ eZ => ?_⟩
    have g013 := g12.trans g13
    refine ⟨_, rfl, Z, b, zps, bs, rfl, TZ.ll, lB.gr g013, eZ.trans eB.symm, by rw [eZ]; exact fit_least fitS, fun H14 g14 => ⟨_, rfl, ?_⟩⟩
    have g014 := g013.trans g14
    have lH14 := lH.gr g014
    refine iteT ?_
    refine ⟨_, rfl, h, hs, rfl, .inl (.inl lH14.at_), fun q hq => .inl (.inl (.inl (lH14.own q hq))), small1000 fewH, fun Y H15 yps g15 TY eY => ?_⟩
    have g015 := g014.trans g15
    exact ⟨_, rfl, Y, d, yps, ds, rfl, TY.ll, lD.gr g015, eY.trans eD.symm, by rw [eY]; exact fit_rkd fitH, fun H16 g16 => q _ (g015.trans g16)⟩
end
end K1
end
section
namespace K1
open PySem PySem.Spec PyProof.Rows L2
/-! ### the drawn names -/
def L0 : List Nat := List.range' 97 26
theorem letters_eq : Str.ofString "abcdefghijklmnopqrstuvwxyz" = SX.S L0 := by decide +kernel
def let_ (x : Int) : Nat := L0.getD (x % 26).toNat 0
def nm1 (d k : Nat) : Str := SX.S ((L0.drop d).take (k + 1))
def turned (d : Nat) : List Nat := (L0.drop d).take 8
def nm2 (d k : Nat) : Str := SX.S ((turned d).drop k ++ (turned d).take k)
def nm3 (base : List Nat) (at_ : Nat) (x : Int) (k : Nat) : Str := SX.S (base.take at_ ++ [let_ (x + 3 * (k : Int))] ++ base.drop at_)
def baseOf (c : Int) (size : Nat) : List Nat := (List.range size).map fun j : Nat => let_ (c / 224 + 5 * (j : Int))
def many (c : Int) : Nat := (1 + c % 7).toNat
def names (c : Int) : List Str :=
  if c / 7 % 4 = 1 then (List.range (many c)).map (nm1 (c / 28 % 18).toNat)
  else if c / 7 % 4 = 2 then (List.range (many c)).map (nm2 (c / 28 % 18).toNat)
  else (List.range (many c)).map (nm3 (baseOf c (c / 28 % 8).toNat) (c / 7 % ((c / 28 % 8) + 1)).toNat (c / 1000))
theorem many_lt (c : Int) : 1 ≤ many c ∧ many c ≤ 7 := by
  unfold many
  omega
theorem L0_at {j : Nat} (h : j < 26) : L0[j]? = some (97 + j) := by
  unfold L0
  rw [List.getElem?_range' (by omega)]
  simp
theorem L0_len : L0.length = 26 := by decide
theorem L0_small : ∀ x ∈ L0, small x = true := by decide +kernel
theorem let_eq (x : Int) : let_ x = 97 + (x % 26).toNat := by
  unfold let_
  rw [List.getD_eq_getElem?_getD, L0_at (by omega)]
  rfl
theorem let_mem (x : Int) : let_ x ∈ L0 := by
  rw [let_eq]
  exact List.mem_of_getElem? (L0_at (j := (x % 26).toNat) (by omega))
theorem nm_S {l : List Nat} (h1 : 1 ≤ l.length) (h8 : l.length ≤ 8) (hs : ∀ x ∈ l, x ∈ L0) : isNm (SX.S l) = true := by
  unfold isNm
  rw [SX.S_len, decide_eq_true h1, decide_eq_true h8, Bool.true_and, Bool.true_and, List.all_eq_true]
  intro x hx
  exact L0_small x (hs x hx)
theorem nodup_range_map {α : Type} {f : Nat → α} {n : Nat} (h : ∀ i j, i < n → j < n → f i = f j → i = j) : ((List.range n).map f).Nodup := by
  unfold List.Nodup
  rw [List.pairwise_map]
  refine List.Pairwise.imp_of_mem ?_ (List.nodup_range (n := n))
  intro a b ha hb ne e
  exact ne (h a b (List.mem_range.mp ha) (List.mem_range.mp hb) e)
theorem names_ok (c : Int) : Nms (names c) ∧ (names c).Nodup ∧ names c ≠ [] ∧ (names c).length ≤ 7 := by
  obtain ⟨m1, m7⟩ := many_lt c
  have ne : ∀ f : Nat → Str, (List.range (many c)).map f ≠ [] := by
    intro f z
    have := congrArg List.length z
    rw [List.length_map, List.length_range] at this
    simp at this
    omega
  have ln : ∀ f : Nat → Str, ((List.range (many c)).map f).length ≤ 7 := by
    intro f
    rw [List.length_map, List.length_range]
    exact m7
  have nms : ∀ f : Nat → Str, (∀ k, k < many c → isNm (f k) = true) → Nms ((List.range (many c)).map f) := by
    intro f h x hx
    obtain ⟨k, hk, rfl⟩ := List.mem_map.mp hx
    exact h k (List.mem_range.mp hk)
  unfold names
  have hd : (c / 28 % 18).toNat ≤ 17 := by omega
  generalize (c / 28 % 18).toNat = d at hd
  split
  · refine ⟨nms _ fun k hk => ?_, nodup_range_map fun i j hi hj e => ?_, ne _, ln _⟩
    · refine nm_S ?_ ?_ fun x hx => List.mem_of_mem_drop (List.mem_of_mem_take hx)
      · rw [List.length_take, List.length_drop, L0_len]; omega
      · rw [List.length_take, List.length_drop, L0_len]; omega
    · have e := congrArg List.length (SX.S_inj e)
      rw [List.length_take, List.length_take, List.length_drop, L0_len] at e
      omega
  · split
    · have tl : (turned d).length = 8 := by
        unfold turned
        rw [List.length_take, List.length_drop, L0_len]; omega
      have tm : ∀ x ∈ turned d, x ∈ L0 := fun x hx => List.mem_of_mem_drop (List.mem_of_mem_take hx)
      have ta : ∀ k, k < 8 → (turned d)[k]? = some (97 + (d + k)) := by
        intro k hk
        unfold turned
        rw [List.getElem?_take_of_lt hk, List.getElem?_drop, L0_at (by omega)]
      refine ⟨nms _ fun k hk => ?_, nodup_range_map fun i j hi hj e => ?_, ne _, ln _⟩
      · refine nm_S ?_ ?_ fun x hx => ?_
        · rw [List.length_append, List.length_drop, List.length_take, tl]; omega
        · rw [List.length_append, List.length_drop, List.length_take, tl]; omega
        · rcases List.mem_append.mp hx with h | h
          · exact tm x (List.mem_of_mem_drop h)
          · exact tm x (List.mem_of_mem_take h)
      · have e := congrArg (fun l : List Nat => l[0]?) (SX.S_inj e)
        have hh : ∀ k, k < many c → ((turned d).drop k ++ (turned d).take k)[0]? = some (97 + (d + k)) := by
          intro k hk
          rw [List.getElem?_append_left (by rw [List.length_drop, tl]; omega), List.getElem?_drop]
          exact ta k (by omega)
        have e : ((turned d).drop i ++ (turned d).take i)[0]? = ((turned d).drop j ++ (turned d).take j)[0]? := e
        rw [hh i hi, hh j hj] at e
        have e := Option.some.inj e
        omega
    · have hsz : (c / 28 % 8).toNat ≤ 7 := by omega
      have hat : (c / 7 % ((c / 28 % 8) + 1)).toNat ≤ (c / 28 % 8).toNat := by
        have h1 : 0 ≤ c / 28 % 8 := Int.emod_nonneg _ (by omega)
        have h2 := Int.emod_lt_of_pos (c / 7) (show (0 : Int) < c / 28 % 8 + 1 by omega)
        have h3 := Int.emod_nonneg (c / 7) (show (c / 28 % 8 + 1 : Int) ≠ 0 by omega)
        omega
      generalize (c / 28 % 8).toNat = size at hsz hat
      generalize (c / 7 % ((c / 28 % 8) + 1)).toNat = at_ at hat
      have bl : (baseOf c size).length = size := by
        unfold baseOf
        rw [List.length_map, List.length_range]
      have bm : ∀ x ∈ baseOf c size, x ∈ L0 := by
        intro x hx
        obtain ⟨j, _, rfl⟩ := List.mem_map.mp hx
        exact let_mem _
      refine ⟨nms _ fun k hk => ?_, nodup_range_map fun i j hi hj e => ?_, ne _, ln _⟩
      · refine nm_S ?_ ?_ fun x hx => ?_
        · rw [List.length_append, List.length_append, List.length_take, List.length_drop, bl]; simp; omega
        · rw [List.length_append, List.length_append, List.length_take, List.length_drop, bl, List.length_singleton]; omega
        · rcases List.mem_append.mp hx with h | h
          · rcases List.mem_append.mp h with h | h
            · exact bm x (List.mem_of_mem_take h)
            · have h : x = let_ (c / 1000 + 3 * (k : Int)) := by simpa using h
              rw [h]
              exact let_mem _
          · exact bm x (List.mem_of_mem_drop h)
      · have hh : ∀ k : Nat, ((baseOf c size).take at_ ++ [let_ (c / 1000 + 3 * (k : Int))] ++ (baseOf c size).drop at_)[at_]? = some (let_ (c / 1000 + 3 * (k : Int))) := by
          intro k
          have tk : ((baseOf c size).take at_).length = at_ := by rw [List.length_take, bl]; omega
          rw [List.append_assoc, List.getElem?_append_right (by omega), tk, Nat.sub_self]
          rfl
        have e : ((baseOf c size).take at_ ++ [let_ (c / 1000 + 3 * (i : Int))] ++ (baseOf c size).drop at_)[at_]? = ((baseOf c size).take at_ ++ [let_ (c / 1000 + 3 * (j : Int))] ++ (baseOf c size).drop at_)[at_]? := congrArg (fun l : List Nat => l[at_]?) (SX.S_inj e)
        rw [hh i, hh j] at e
        have e := Option.some.inj e
        rw [let_eq, let_eq] at e
        omega
end K1
end
section
set_option maxHeartbeats 4000000
namespace K1
open PySem PySem.Spec PyProof.Rows L2 Gr GxR Srx Skx Dcx
theorem lc_texts {D : Addr} {j n : Nat} {σ : L2.St} {vs : List Nat} {te : TE} {H H1 : Hp} {Qd : Hp → Prop} (F : Nat → Str) (few : n ≤ 1000) (gr : Gr H H1) (hD : H1 D = none) (hw : ∀ v, wipe ((wipe σ vs).set j (some v)) vs = wipe σ vs)
    (he : ∀ (k : Nat) (H4 : Hp) (Q' : VK), k < n → Q' (.str (F k)) H4 → te ((wipe σ vs).set j (some (.int ((0 : Int) + (k : Nat))))) H4 Q')
    (q : ∀ H2, Gr H H2 → H2 D = some (.lst (((List.range n).map F).map V.str)) → Qd H2) :
    ∃ W : Nat → Nat → Hp → Prop, (∃ m, W 0 m (upd H1 D (.lst []))) ∧ ∀ i m H, W i m H →
      ((Itr 0 n).stop i H ∧ Qd H) ∨ ((Itr 0 n).go i H ∧ ∃ Nx : Hp → Prop, (∀ H', Nx H' → ∃ m', m' < m ∧ W (i + 1) m' H') ∧ ∀ x H', (Itr 0 n).yld i H x H' → gName j x (wipe σ vs) H' fun σ2 H2 => wipe σ2 vs = wipe σ vs ∧ tYes σ2 H2 fun b H3 =>
        if b = true then te σ2 H3 fun y H4 => ∃ acc, H4 D = some (.lst acc) ∧ acc.length < sizeLine ∧ Nx (upd H4 D (.lst (acc ++ [y]))) else Nx H3) := by
  have hD0 : H D = none := gr.free hD
  refine lc_range (Qd := Qd) (fun i H2 => Gr H H2 ∧ H2 D = some (.lst (((List.range i).map F).map V.str))) ⟨gr.mut hD0, upd_same⟩ (fun i H2 hi h => ?_) (fun H2 h => q H2 h.1 h.2)
  obtain ⟨g2, e⟩ := h
  refine ⟨hw _, yesIf (he i H2 _ hi ⟨_, e, ?_, g2.mut hD0, ?_⟩)⟩
  · rw [List.length_map, List.length_map, List.length_range]
    exact small1000 (by omega)
  · rw [upd_same, List.range_succ, List.map_append, List.map_append]
    rfl
theorem let_at (x : Int) : atI (Str.ofString "abcdefghijklmnopqrstuvwxyz").cps.toList (x % 26) = some (let_ x) := by
  rw [letters_eq]
  show atI L0 (x % 26) = _
  have h0 : 0 ≤ x % 26 := Int.emod_nonneg _ (by omega)
  obtain ⟨j, hj⟩ := Int.eq_ofNat_of_zero_le h0
  rw [let_eq, hj]
  exact atI_nat (L0_at (by omega))
theorem joinL_ones : ∀ l : List Nat, TL.joinL [] (l.map fun x => [x]) = l
  | [] => rfl
  | [x] => rfl
  | x :: y :: r => by
    show [x] ++ ([] ++ _) = _
    rw [List.nil_append]
    exact congrArg (fun z => x :: z) (joinL_ones (y :: r))
section
variable {P : Program} {w : World} {K : PySem.W.Frag} {mg : Str → Option Value} {base : Heap} {f fD : Addr} {fd fdD : FuncData} {p : He.Defn} {T T2 : Addr}
/-! ### _law_names -/
abbrev nNames : List Str := ["_law_script", "_law_letters", "_law_cell", "_law_many", "_law_turned", "_law_size", "_law_base", "_law_at", "_law_k", "_law_j"]
theorem scNames : FnScope nNames ["_law_script"] (defScope sNames) := ⟨rfl, rfl, rfl, by decide +kernel, rfl, by decide +kernel, by decide +kernel⟩
def spNames (K : PySem.W.Frag) : Sp := fun vs H Q _ => ∃ (a : Addr) (ns : List Int), vs = [.ref a] ∧ SqL K H a (ns.map V.int) ∧ ∀ p H', Gr H H' → H p = none → H' p = some (.lst ((names (ns.getD 0 0)).map V.str)) → Q (.ref p) H'
theorem ok_names (F : FnP K "_law_names" sNames f fd) (GD : FnOk P w K mg base CX0 1 fD fdD ["_law_script", "_law_k"] (spDraw K)) (bD : Binds K fdD ["_law_script", "_law_k"] []) (kD : PySem.W.keepIn K (.ref fD) = true) (gD : mg "_law_draw" = some (.ref fD)) (gR : mg "range" = none) :
    FnOk P w K mg base CX0 2 f fd ["_law_script"] (spNames K) := by
  refine F.ok scNames (fun vs H Q E h => ?_) (fun cdv A outer s H vs Q E hr h => ?_)
  · obtain ⟨a, ns, rfl, _⟩ := h
    rfl
  · obtain ⟨a, ns, rfl, hS, q⟩ := h
    refine ⟨_, PSs.nox (pss_cons (ps_set (i := 1) scNames.nd rfl (.inr rfl) pe_str)
      (pss_cons (ps_set (i := 2) scNames.nd rfl (.inr rfl) (pe_call GD hr (by rfl) gD kD bD .nil pass0 (pa_cons (pv 0) (pa_cons pe_int pa_nil))))
      (pss_cons (ps_set (i := 3) scNames.nd rfl (.inl rfl) (pe_op op_add pe_int (pe_op op_mod (pv 2) pe_int)))
      (pss_cons (ps_if (pt_cmpR op_eq (pe_op op_mod (pe_op op_fdiv (pv 2) pe_int) pe_int) pe_int (nomark _))
        (pss_one (ps_ret (pe_lc (own := [("_law_k", 8)]) (g := gName 8) (tt := tYes) rfl scNames.nd (pi_range1 (by rfl) gR (pa_cons (pv 3) pa_nil)) (blkOk_by (N := nNames) (sc := defScope sNames) (by decide +kernel)) (fun _ _ _ _ _ => pg_name (i := 8) scNames.nd rfl (.inl rfl)) (fun _ _ _ _ _ => pts_nil)
          (fun _ _ _ _ _ => pe_slice C8.sl_txt (pe_slice C8.sl_txt (pv 1) (po_some (pe_op op_mod (pe_op op_fdiv (pv 2) pe_int) pe_int)) po_none) po_none (po_some (pe_op op_add (pv 8) pe_int)))))) pss_nil)
      (pss_cons (ps_if (pt_cmpR op_eq (pe_op op_mod (pe_op op_fdiv (pv 2) pe_int) pe_int) pe_int (nomark _))
        (pss_cons (ps_set (i := 4) scNames.nd rfl (.inr rfl) (pe_slice C8.sl_txt (pe_slice C8.sl_txt (pv 1) (po_some (pe_op op_mod (pe_op op_fdiv (pv 2) pe_int) pe_int)) po_none) po_none (po_some pe_int)))
        (pss_one (ps_ret (pe_lc (own := [("_law_k", 8)]) (g := gName 8) (tt := tYes) rfl scNames.nd (pi_range1 (by rfl) gR (pa_cons (pv 3) pa_nil)) (blkOk_by (N := nNames) (sc := defScope sNames) (by decide +kernel)) (fun _ _ _ _ _ => pg_name (i := 8) scNames.nd rfl (.inl rfl)) (fun _ _ _ _ _ => pts_nil)
          (fun _ _ _ _ _ => pe_op op_add_str (pe_slice C8.sl_txt (pv 4) (po_some (pv 8)) po_none) (pe_slice C8.sl_txt (pv 4) po_none (po_some (pv 8)))))))) pss_nil)
      (pss_cons (ps_set (i := 5) scNames.nd rfl (.inl rfl) (pe_op op_mod (pe_op op_fdiv (pv 2) pe_int) pe_int))
      (pss_cons (ps_set (i := 6) scNames.nd rfl (.inr rfl) (pe_join pe_str (pe_lc (own := [("_law_j", 9)]) (g := gName 9) (tt := tYes) rfl scNames.nd (pi_range1 (by rfl) gR (pa_cons (pv 5) pa_nil)) (blkOk_by (N := nNames) (sc := defScope sNames) (by decide +kernel)) (fun _ _ _ _ _ => pg_name (i := 9) scNames.nd rfl (.inl rfl)) (fun _ _ _ _ _ => pts_nil)
          (fun _ _ _ _ _ => pe_ix ix_str (pv 1) (pe_op op_mod (pe_op op_add (pe_op op_fdiv (pv 2) pe_int) (pe_op op_mul pe_int (pv 9))) pe_int) (fun _ _ => rfl)))))
      (pss_cons (ps_set (i := 7) scNames.nd rfl (.inr rfl) (pe_op op_mod (pe_op op_fdiv (pv 2) pe_int) (pe_op op_add (pv 5) pe_int)))
      (pss_one (ps_ret (pe_lc (own := [("_law_k", 8)]) (g := gName 8) (tt := tYes) rfl scNames.nd (pi_range1 (by rfl) gR (pa_cons (pv 3) pa_nil)) (blkOk_by (N := nNames) (sc := defScope sNames) (by decide +kernel)) (fun _ _ _ _ _ => pg_name (i := 8) scNames.nd rfl (.inl rfl)) (fun _ _ _ _ _ => pts_nil)
          (fun _ _ _ _ _ => pe_op op_add_str (pe_op op_add_str (pe_slice C8.sl_txt (pv 6) po_none (po_some (pv 7))) (pe_ix ix_str (pv 1) (pe_op op_mod (pe_op op_add (pe_op op_fdiv (pv 2) pe_int) (pe_op op_mul pe_int (pv 8))) pe_int) (fun _ _ => rfl))) (pe_slice C8.sl_txt (pv 6) (po_some (pv 7)) po_none))))))))))))), ?_⟩
    refine ⟨_, rfl, a, ns, 0, rfl, hS, ?_⟩
    generalize ns.getD 0 0 = c at q ⊢
    obtain ⟨m1, m7⟩ := many_lt c
    have big : ∀ x : Str, x.length ≤ 100 → x.length ≤ sizeLine := fun x h => by rw [sizeLine_eq]; omega
    have Lbig : (Str.ofString "abcdefghijklmnopqrstuvwxyz").length ≤ sizeLine := big _ (by decide +kernel)
    have d0 : 0 ≤ c / 28 % 18 := Int.emod_nonneg _ (by omega)
    have d1 : c / 28 % 18 < 18 := Int.emod_lt_of_pos _ (by omega)
    refine ⟨_, rfl, _, _, rfl, rfl, (by show (0 : Int) < 7; decide), _, _, rfl, rfl, ?_⟩
    refine ⟨_, rfl, _, _, rfl, rfl, ⟨by decide, by decide⟩, _, _, rfl, rfl, (by show (0 : Int) < 4; decide), rfl, _, rfl, ite2 (fun h1 => ?_) (fun h1 => ?_)⟩
    · have h1 : V.int (c / 7 % 4) = V.int 1 := of_decide_eq_true h1
      injection h1 with h1
      refine ⟨_, rfl, _, rfl, ?_, ?_, fun D hD => lc_texts (H := H) (n := many c) (nm1 (c / 28 % 18).toNat) (by omega) (Gr.refl H) hD (fun v => rfl) (fun k H4 Q' hk hq => ?_) (fun H2 g2 e2 => ?_)⟩
      · show -(2 ^ 62) ≤ 1 + c % 7
        omega
      · show 1 + c % 7 < 2 ^ 62
        omega
      · refine ⟨_, rfl, _, rfl, _, _, rfl, rfl, ⟨by decide, by decide⟩, _, _, rfl, rfl, (by show (0 : Int) < 18; decide), _, rfl, ?_⟩
        refine ⟨_, rfl, Lbig, _, rfl, _, _, rfl, rfl, _, rfl, _, rfl, ?_, ?_⟩
        · rw [letters_eq, SX.slice_from d0]
          exact big _ (by rw [SX.S_len, List.length_drop, L0_len]; omega)
        · rw [letters_eq, SX.slice_from d0, SX.slice_to (show (0 : Int) ≤ 0 + (k : Nat) + 1 by omega)]
          rw [show ((0 : Int) + (k : Nat) + 1).toNat = k + 1 by omega]
          exact hq
      · refine q D H2 g2 hD ?_
        rw [e2]
        unfold names
        rw [if_pos h1]
    · have h1 : ¬ c / 7 % 4 = 1 := fun z => h1 (decide_eq_true (congrArg V.int z))
      refine ⟨_, rfl, _, _, rfl, rfl, ⟨by decide, by decide⟩, _, _, rfl, rfl, (by show (0 : Int) < 4; decide), rfl, _, rfl, ite2 (fun h2 => ?_) (fun h2 => ?_)⟩
      · have h2 : V.int (c / 7 % 4) = V.int 2 := of_decide_eq_true h2
        injection h2 with h2
        have e0 : Txt.slice (Txt.slice (Str.ofString "abcdefghijklmnopqrstuvwxyz") (some (c / 28 % 18)) none) none (some 8) = SX.S (turned (c / 28 % 18).toNat) := by
          rw [letters_eq, SX.slice_from d0, SX.slice_to (by decide)]
          rfl
        have tl : (turned (c / 28 % 18).toNat).length ≤ 8 := by
          unfold turned
          rw [List.length_take]; omega
        refine ⟨_, rfl, _, rfl, _, _, rfl, rfl, ⟨by decide, by decide⟩, _, _, rfl, rfl, (by show (0 : Int) < 18; decide), _, rfl, ?_⟩
        refine ⟨_, rfl, Lbig, _, rfl, _, rfl, ?_, ?_⟩
        · rw [letters_eq, SX.slice_from d0]
          exact big _ (by rw [SX.S_len, List.length_drop, L0_len]; omega)
        rw [e0]
        refine ⟨_, rfl, _, rfl, ?_, ?_, fun D hD => lc_texts (H := H) (n := many c) (nm2 (c / 28 % 18).toNat) (by omega) (Gr.refl H) hD (fun v => rfl) (fun k H4 Q' hk hq => ?_) (fun H2 g2 e2 => ?_)⟩
        · show -(2 ^ 62) ≤ 1 + c % 7
          omega
        · show 1 + c % 7 < 2 ^ 62
          omega
        · have k0 : (0 : Int) ≤ 0 + (k : Nat) := by omega
          have kk : ((0 : Int) + (k : Nat)).toNat = k := by omega
          have tb : (SX.S (turned (c / 28 % 18).toNat)).length ≤ sizeLine := big _ (by rw [SX.S_len]; omega)
          refine ⟨_, rfl, _, rfl, _, rfl, _, rfl, tb, _, rfl, _, rfl, _, rfl, _, rfl, tb, _, _, rfl, rfl, ?_, ?_⟩
          · rw [SX.slice_from k0, SX.slice_to k0, SX.S_len, SX.S_len, List.length_drop, List.length_take, sizeLine_eq]
            omega
          · rw [SX.slice_from k0, SX.slice_to k0, SX.S_cat, kk]
            exact hq
        · refine q D H2 g2 hD ?_
          rw [e2]
          unfold names
          rw [if_neg h1, if_pos h2]
      · have h2 : ¬ c / 7 % 4 = 2 := fun z => h2 (decide_eq_true (congrArg V.int z))
        have s0 : 0 ≤ c / 28 % 8 := Int.emod_nonneg _ (by omega)
        have s1 : c / 28 % 8 < 8 := Int.emod_lt_of_pos _ (by omega)
        have a0 : 0 ≤ c / 7 % (c / 28 % 8 + 1) := Int.emod_nonneg _ (by omega)
        have a1 : c / 7 % (c / 28 % 8 + 1) < c / 28 % 8 + 1 := Int.emod_lt_of_pos _ (by omega)
        -- size
        refine ⟨_, rfl, _, _, rfl, rfl, ⟨by decide, by decide⟩, _, _, rfl, rfl, (by show (0 : Int) < 8; decide), ?_⟩
        -- base
        refine ⟨⟨_, rfl⟩, _, rfl, _, rfl, ?_, ?_, fun D hD => lc_texts (H := H) (n := (c / 28 % 8).toNat) (fun j => SX.S [let_ (c / 224 + 5 * (j : Int))]) (by omega) (Gr.refl H) hD (fun v => rfl) (fun k H4 Q' hk hq => ?_) (fun H2 g2 e2 => ?_)⟩
        · show -(2 ^ 62) ≤ c / 28 % 8
          omega
        · show c / 28 % 8 < 2 ^ 62
          omega
        · refine ⟨_, rfl, _, rfl, _, _, rfl, rfl, ⟨by decide, by decide⟩, _, rfl, _, _, rfl, rfl, .inl ⟨by decide, by decide⟩, _, _, rfl, rfl, _, _, rfl, rfl, (by show (0 : Int) < 26; decide), _, _, _, rfl, rfl, Lbig, let_at _, ?_⟩
          rw [Int.zero_add]
          exact hq
        · have eb : ((List.range (c / 28 % 8).toNat).map fun j : Nat => SX.S [let_ (c / 224 + 5 * (j : Int))]) = ((baseOf c (c / 28 % 8).toNat).map fun x => [x]).map SX.S := by
            unfold baseOf
            rw [List.map_map, List.map_map]
            rfl
          refine ⟨_, D, _, rfl, rfl, .inl (.inl (.inl e2)), ?_, ?_⟩
          · rw [List.length_map, List.length_range, List.map_map]
            have h3 : ∀ l : List Nat, (l.map ((fun x : Str => x.length) ∘ fun j : Nat => SX.S [let_ (c / 224 + 5 * (j : Int))])).sum = l.length := by
              intro l
              induction l with
              | nil => rfl
              | cons x r ih =>
                rw [List.map_cons, List.sum_cons, ih, List.length_cons]
                show 1 + r.length = _
                omega
            rw [h3, List.length_range]
            show _ + _ * 0 ≤ _
            omega
          · rw [eb, show (Str.ofString "") = SX.S [] by decide +kernel, SX.join_S, joinL_ones]
            have bl : (baseOf c (c / 28 % 8).toNat).length = (c / 28 % 8).toNat := by
              unfold baseOf
              rw [List.length_map, List.length_range]
            have bb : (SX.S (baseOf c (c / 28 % 8).toNat)).length ≤ sizeLine := big _ (by rw [SX.S_len, bl]; omega)
            -- at
            refine ⟨_, rfl, _, _, rfl, rfl, ⟨by decide, by decide⟩, _, rfl, _, _, rfl, rfl, _, _, rfl, rfl, (by show (0 : Int) < c / 28 % 8 + 1; omega), ?_⟩
            refine ⟨_, rfl, _, rfl, ?_, ?_, fun D3 hD3 => lc_texts (H := H) (n := many c) (nm3 (baseOf c (c / 28 % 8).toNat) (c / 7 % ((c / 28 % 8) + 1)).toNat (c / 1000)) (by omega) g2 hD3 (fun v => rfl) (fun k H4 Q' hk hq => ?_) (fun H3 g3 e3 => ?_)⟩
            · show -(2 ^ 62) ≤ 1 + c % 7
              omega
            · show 1 + c % 7 < 2 ^ 62
              omega
            · refine ⟨_, rfl, _, rfl, _, rfl, _, rfl, bb, ?_⟩
              refine ⟨_, rfl, _, rfl, _, _, rfl, rfl, ⟨by decide, by decide⟩, _, rfl, _, _, rfl, rfl, .inl ⟨by decide, by decide⟩, _, _, rfl, rfl, _, _, rfl, rfl, (by show (0 : Int) < 26; decide), _, _, _, rfl, rfl, Lbig, let_at _, ?_⟩
              refine ⟨_, _, rfl, rfl, ?_, ?_⟩
              · rw [SX.slice_to a0, SX.S_len, List.length_take, bl]
                show _ + 1 ≤ _
                rw [sizeLine_eq]
                omega
              · refine ⟨_, rfl, _, rfl, _, rfl, _, rfl, bb, _, _, rfl, rfl, ?_, ?_⟩
                · rw [SX.slice_to a0, SX.slice_from a0, Str.length_append, SX.S_len, SX.S_len, SX.S_len, List.length_take, List.length_drop, bl]
                  show _ + 1 + _ ≤ _
                  rw [sizeLine_eq]
                  omega
                · rw [SX.slice_to a0, SX.slice_from a0, Int.zero_add]
                  show Q' (.str (SX.S _ ++ SX.S [_] ++ SX.S _)) H4
                  rw [SX.S_cat, SX.S_cat]
                  exact hq
            · refine q D3 H3 g3 (g2.free hD3) ?_
              rw [e3]
              unfold names
              rw [if_neg h1, if_neg h2]
end
end K1
end
section
set_option maxHeartbeats 4000000
namespace K1
open PySem PySem.Spec PyProof.Rows L2 Gr GxR Srx Skx Dcx
theorem cut_map (xs : List Str) (lo hi : Option Int) : ∃ zs : List Str, cutV (xs.map V.str) lo hi = zs.map V.str ∧ (∀ z ∈ zs, z ∈ xs) ∧ zs.length ≤ xs.length := by
  refine ⟨(xs.drop (HT.sIx (xs.map V.str).length 0 lo)).take (HT.sIx (xs.map V.str).length (xs.map V.str).length hi - HT.sIx (xs.map V.str).length 0 lo), ?_, fun z hz => List.mem_of_mem_drop (List.mem_of_mem_take hz), ?_⟩
  · unfold cutV
    rw [List.map_take, List.map_drop]
  · rw [List.length_take, List.length_drop]
    omega
theorem once_same {xs zs : List Str} (nd : xs.Nodup) (h : ∀ y, y ∈ zs ↔ y ∈ xs) : once zs = srt xs := by
  unfold once
  refine srt_eq ((List.perm_ext_iff_of_nodup (Sx.dd_nodup zs) nd).mpr fun q => ?_)
  rw [Sx.dd_mem]
  exact h q
def rLenQ (K : PySem.W.Frag) : List V → Hp → VK → Prop := fun xs H Q => ∃ p ys, xs = [V.ref p] ∧ (SqL K H p ys ∨ SqT K H p ys) ∧ Q (.int ys.length) H
structure Calls (P : Program) (w : World) (K : PySem.W.Frag) (mg : Str → Option Value) (base : Heap) (CX : CXT) (k : Nat) (x : Str) (ps : List Str) (sp : Sp) : Prop where
  ex : ∃ (f : Addr) (fd : FuncData), FnOk P w K mg base CX k f fd ps sp ∧ mg x = some (.ref f) ∧ PySem.W.keepIn K (.ref f) = true ∧ Binds K fd ps []
section
variable {X : Cx} {k j : Nat} {x : Str} {ps : List Str} {sp : Sp} {p pos : Pos} {e : Expr} {es : List Expr} {t : TA}
theorem pe_k (c : Calls X.prog X.w X.K X.mg X.base CX0 k x ps sp) (hr : Room j X.A) (hk : k ≤ j) (hg : Gl X x) (ha : PA X (e :: es) t)
    (hdb : (x == ("__debug__" : Str)) = false := by decide) (he : starEach (e :: es) X.env = (false, eval e X.env) :: starEach es X.env := by rfl) (hpl : (backTo pos (starEach es X.env)).any (·.1) = false := by rfl) :
    PE X (.Call (.Name x p) (e :: es) [] pos) (tCall sp [] E0 t) := by
  obtain ⟨f, fd, F, hm, kp, b⟩ := c.ex
  exact pe_call F (hr.mono hk) hg hm kp b .nil pass0 ha hdb he hpl
theorem pe_kX (c : Calls X.prog X.w X.K X.mg X.base (L2.CX X.prog X.w) k x ps sp) (hr : Room j X.A) (hk : k ≤ j) (hg : Gl X x) (ha : PA X (e :: es) t)
    (hdb : (x == ("__debug__" : Str)) = false := by decide) (he : starEach (e :: es) X.env = (false, eval e X.env) :: starEach es X.env := by rfl) (hpl : (backTo pos (starEach es X.env)).any (·.1) = false := by rfl) :
    PE X (.Call (.Name x p) (e :: es) [] pos) (tCall sp [] E0 t) := by
  obtain ⟨f, fd, F, hm, kp, b⟩ := c.ex
  exact pe_call F (hr.mono hk) hg hm kp b .nil passL ha hdb he hpl
end
section
variable {P : Program} {w : World} {K : PySem.W.Frag} {mg : Str → Option Value} {base : Heap} {f : Addr} {fd : FuncData} {p : He.Defn} {T TI TW TM TL C : Addr}
/-- what the law calls -/
structure Env1 (P : Program) (w : World) (K : PySem.W.Frag) (mg : Str → Option Value) (base : Heap) (TI TW TM TL C : Addr) : Prop where
  draw : Calls P w K mg base CX0 1 "_law_draw" ["_law_script", "_law_k"] (spDraw K)
  names : Calls P w K mg base CX0 2 "_law_names" ["_law_script"] (spNames K)
  row : Calls P w K mg base CX0 1 "_law_row" ["_law_names_here", "_law_cell"] (spRow K)
  odd : Calls P w K mg base CX0 1 "_law_odd" ["_law_cell"] (spOdd K)
  truth : Calls P w K mg base CX0 1 "_law_truth" ["_law_found", "_law_due"] spTruth
  lmeets : Calls P w K mg base CX0 1 "_law_meets" ["_law_one", "_law_row_here"] (spLMeets K)
  lwithin : Calls P w K mg base CX0 1 "_law_within" ["_law_one", "_law_other"] (spLWithin K)
  refused : Calls P w K mg base CX0 3 "_law_refused" ["_law_names_here"] (spRefused K TI)
  told : Calls P w K mg base CX0 6 "_law_told_right" ["_law_some", "_law_sets_here", "_law_due", "_law_best"] (spTold TL TW)
  isname : Calls P w K mg base CX0 1 "is_name" ["thing"] (spIsName K TI)
  rising : Calls P w K mg base (L2.CX P w) 2 "rising" ["names"] (spRising K TI C)
  within : Calls P w K mg base CX0 1 "within" ["one", "other"] (spWithin K TW)
  meets : Calls P w K mg base CX0 1 "meets" ["one", "other"] (spMeets K TM)
  gR : mg "range" = none
  gA : mg "all" = none
  gLi : mg "list" = none
  gL : mg "len" = none
  gS : mg "sorted" = none
abbrev nLaw : List Str := ["_law_script", "_law_names_here", "_law_some", "_law_k", "_law_odd_here", "_law_one", "_law_twice", "_law_handed", "_law_found", "_law_at", "_law_ready", "_law_other", "_law_sets_here", "_law_due", "_law_best", "_law_name", "_law_pair"]
theorem scLaw : FnScope nLaw ["_law_script"] (defScope sLaw) := ⟨rfl, rfl, rfl, by decide +kernel, rfl, by decide +kernel, by decide +kernel⟩
def spLaw (K : PySem.W.Frag) (TI TW TM TL : Addr) : Sp := fun vs H Q _ => ∃ (a : Addr) (ns : List Int), vs = [.ref a] ∧ SqL K H a (ns.map V.int) ∧ TabG H TI ∧ TabG H TW ∧ TabG H TM ∧ TabG H TL ∧ ∀ H', Q (.bl true) H'
theorem ok_law (F : FnP K "law" sLaw f fd) (G : Env1 P w K mg base TI TW TM TL C) : FnOk P w K mg base CX0 7 f fd ["_law_script"] (spLaw K TI TW TM TL) := by
  refine F.ok scLaw (fun vs H Q E h => ?_) (fun cdv A outer s H vs Q E hr h => ?_)
  · obtain ⟨a, ns, rfl, _⟩ := h
    rfl
  · obtain ⟨a, ns, rfl, hS, hI, hW, hM, hL, q⟩ := h
    refine ⟨_, PSs.nox (pss_cons (ps_set (i := 1) scLaw.nd rfl (.inl rfl) (pe_k G.names hr (by decide) (by rfl) (pa_cons (pv 0) pa_nil))) (pss_cons (ps_set (i := 2) scLaw.nd rfl (.inl rfl) (pe_lst pa_nil)) (pss_cons (ps_for PassesOwn.never rfl (pi_range1 (by rfl) G.gR (pa_cons (pe_op op_mod (pe_k G.draw hr (by decide) (by rfl) (pa_cons (pv 0) (pa_cons pe_int pa_nil))) pe_int) pa_nil)) (pg_name (i := 3) scLaw.nd rfl (.inl rfl)) (pss_one (ps_expr (pe_bm PySem.F.plainAttrs_list PySem.F.slot_list_append PySem.F.type_list_append mt_append (pv 2) (pa_cons (pe_k G.row hr (by decide) (by rfl) (pa_cons (pv 1) (pa_cons (pe_k G.draw hr (by decide) (by rfl) (pa_cons (pv 0) (pa_cons (pe_op op_add pe_int (pv 3)) pa_nil))) pa_nil))) pa_nil))))) (pss_cons (ps_set (i := 4) scLaw.nd rfl (.inl rfl) (pe_k G.odd hr (by decide) (by rfl) (pa_cons (pe_k G.draw hr (by decide) (by rfl) (pa_cons (pv 0) (pa_cons pe_int pa_nil))) pa_nil))) (pss_cons (ps_if (PW.pt (pw_or (pt_not (pt_val (pe_callB (cr_all rfl) (by rfl) G.gA (by decide +kernel) (pa_cons (pe_lc (own := [("_law_name", 15)]) (g := gName 15) (tt := tYes) rfl scLaw.nd (pi_list (pv 1)) (blkOk_by (N := nLaw) (sc := defScope sLaw) (by decide +kernel)) (fun _ _ _ _ _ => pg_name (i := 15) scLaw.nd rfl (.inl rfl)) (fun _ _ _ _ _ => pts_nil) (fun _ _ _ _ _ => pe_k G.truth hr (by decide) (by rfl) (pa_cons (pe_k G.isname hr (by decide) (by rfl) (pa_cons (pv 15) pa_nil)) (pa_cons pe_bl pa_nil)))) pa_nil)))) (pw_or1 (pt_not (pt_val (pe_k G.truth hr (by decide) (by rfl) (pa_cons (pe_k G.isname hr (by decide) (by rfl) (pa_cons (pv 4) pa_nil)) (pa_cons pe_bl pa_nil)))))))) (pss_one (ps_ret pe_bl)) (pss_nil)) (pss_cons (ps_for PassesOwn.never rfl (pi_list (pv 2)) (pg_name (i := 5) scLaw.nd rfl (.inr rfl)) (pss_cons (ps_set (i := 6) scLaw.nd rfl (.inl rfl) (pe_op op_cat (pv 5) (pe_slice sl_list (pv 5) po_none (po_some (pe_op op_mod (pe_k G.draw hr (by decide) (by rfl) (pa_cons (pv 0) (pa_cons pe_int pa_nil))) pe_int))))) (pss_cons (ps_set (i := 7) scLaw.nd rfl (.inl rfl) (pe_callTy call_list_of (by rfl) G.gLi boot_list (pa_cons (pv 6) pa_nil))) (pss_cons (ps_set (i := 8) scLaw.nd rfl (.inl rfl) (pe_kX G.rising hr (by decide) (by rfl) (pa_cons (pv 7) pa_nil))) (pss_cons (ps_set (i := 9) scLaw.nd rfl (.inl rfl) (pe_op op_mod (pe_k G.draw hr (by decide) (by rfl) (pa_cons (pv 0) (pa_cons pe_int pa_nil))) (pe_op op_add (pe_callB call_len_seq (by rfl) G.gL boot_len (pa_cons (pv 5) pa_nil)) pe_int))) (pss_cons (ps_if (PW.pt (pw_or (pt_cmpR (op_neD (hu64 hr)) (pv 8) (pe_callB (cr_sortedD Ord.strs (hu64 hr)) (by rfl) G.gS boot_sorted (pa_cons (pv 5) pa_nil)) (nomark _)) (pw_or (pt_cmpR (op_neD (hu64 hr)) (pv 7) (pv 6) (nomark _)) (pw_or1 (pt_not (pt_val (pe_k G.refused hr (by decide) (by rfl) (pa_cons (pe_op op_cat (pe_op op_cat (pe_slice sl_list (pv 5) po_none (po_some (pv 9))) (pe_lst (pa_cons (pv 4) pa_nil))) (pe_slice sl_list (pv 5) (po_some (pv 9)) po_none)) pa_nil)))))))) (pss_one (ps_ret pe_bl)) (pss_nil)) (pss_cons (ps_set (i := 10) scLaw.nd rfl (.inl rfl) (pe_callB (cr_sortedD Ord.strs (hu64 hr)) (by rfl) G.gS boot_sorted (pa_cons (pv 5) pa_nil))) (pss_cons (ps_expr (pe_bm PySem.F.plainAttrs_list PySem.F.slot_list_append PySem.F.type_list_append mt_append (pe_kX G.rising hr (by decide) (by rfl) (pa_cons (pv 10) pa_nil)) (pa_cons pe_str pa_nil))) (pss_cons (ps_if (pt_cmpR (op_neD (hu64 hr)) (pv 10) (pe_callB (cr_sortedD Ord.strs (hu64 hr)) (by rfl) G.gS boot_sorted (pa_cons (pv 5) pa_nil)) (nomark _)) (pss_one (ps_ret pe_bl)) (pss_nil)) (pss_one (ps_for PassesOwn.never rfl (pi_list (pv 2)) (pg_name (i := 11) scLaw.nd rfl (.inl rfl)) (pss_cons (ps_if (pt_not (pt_val (pe_k G.truth hr (by decide) (by rfl) (pa_cons (pe_k G.within hr (by decide) (by rfl) (pa_cons (pv 5) (pa_cons (pv 11) pa_nil))) (pa_cons (pe_k G.lwithin hr (by decide) (by rfl) (pa_cons (pv 5) (pa_cons (pv 11) pa_nil))) pa_nil))))) (pss_one (ps_ret pe_bl)) (pss_nil)) (pss_one (ps_if (pt_not (pt_val (pe_k G.truth hr (by decide) (by rfl) (pa_cons (pe_k G.meets hr (by decide) (by rfl) (pa_cons (pv 5) (pa_cons (pv 11) pa_nil))) (pa_cons (pe_k G.lmeets hr (by decide) (by rfl) (pa_cons (pv 5) (pa_cons (pv 11) pa_nil))) pa_nil))))) (pss_one (ps_ret pe_bl)) (pss_nil))))))))))))))) (pss_cons (ps_setLc (i := 12) (own := [("_law_one", 5)]) (g := gName 5) (tt := tYes) rfl scLaw.nd rfl rfl (sw_true rfl rfl rfl (by decide +kernel)) (pi_list (pv 2)) (blkOk_by (N := nLaw) (sc := defScope sLaw) (by decide +kernel)) (fun _ _ _ _ _ => pg_name (i := 5) scLaw.nd rfl (.inl rfl)) (fun _ _ _ _ _ => pts_nil) (fun _ _ _ _ _ => pe_callB (r := rSortedD K fun x : Str => PyData.str x) (cr_sortedD Ord.strs (hu64 hr)) (by rfl) G.gS boot_sorted (pa_cons (pv 5) pa_nil))) (pss_cons (ps_setLc (i := 13) (own := [("_law_pair", 16)]) (g := gName 16) (tt := tYes) rfl scLaw.nd rfl rfl (sw_true rfl rfl rfl (by decide +kernel)) (pi_list (pe_callB (cr_sortedD (γ := Addr × List Str) (ordRk.comap Prod.snd) (hu64 hr)) (by rfl) G.gS boot_sorted (pa_cons (pe_lc (own := [("_law_one", 5)]) (g := gName 5) (tt := tYes) rfl scLaw.nd (pi_list (pv 12)) (blkOk_by (N := nLaw) (sc := defScope sLaw) (by decide +kernel)) (fun _ _ _ _ _ => pg_name (i := 5) scLaw.nd rfl (.inl rfl)) (fun _ _ _ _ _ => pts_nil) (fun _ _ _ _ _ => pe_tup (pa_cons (pe_callB (r := rLenQ K) call_len_seq (by rfl) G.gL boot_len (pa_cons (pv 5) pa_nil)) (pa_cons (pv 5) pa_nil)))) pa_nil))) (blkOk_by (N := nLaw) (sc := defScope sLaw) (by decide +kernel)) (fun _ _ _ _ _ => pg_name (i := 16) scLaw.nd rfl (.inl rfl)) (fun _ _ _ _ _ => pts_nil) (fun _ _ _ _ _ => pe_ix (r := rIxT K) ix_tup (pv 16) pe_int (fun _ _ => rfl))) (pss_cons (ps_set (i := 14) scLaw.nd rfl (.inl rfl) (pe_lst pa_nil)) (pss_cons (ps_for PassesOwn.never rfl (pi_list (pv 13)) (pg_name (i := 5) scLaw.nd rfl (.inr rfl)) (pss_one (ps_if (pt_cmpR (op_eqD (hu64 hr)) (pe_lc (own := [("_law_other", 11)]) (g := gName 11) rfl scLaw.nd (pi_list (pv 14)) (blkOk_by (N := nLaw) (sc := defScope sLaw) (by decide +kernel)) (fun _ _ _ _ _ => pg_name (i := 11) scLaw.nd rfl (.inl rfl)) (fun _ _ _ _ _ => pts_one (pt_val (pe_k G.lwithin hr (by decide) (by rfl) (pa_cons (pv 11) (pa_cons (pv 5) pa_nil))))) (fun _ _ _ _ _ => pv 11)) (pe_lst pa_nil) (nomark _)) (pss_one (ps_expr (pe_bm PySem.F.plainAttrs_list PySem.F.slot_list_append PySem.F.type_list_append mt_append (pv 14) (pa_cons (pv 5) pa_nil)))) (pss_nil)))) (pss_one (ps_ret (pe_k G.told hr (by decide) (by rfl) (pa_cons (pv 2) (pa_cons (pv 12) (pa_cons (pv 13) (pa_cons (pv 14) pa_nil))))))))))))))))), ?_⟩
    -- names
    refine ⟨_, rfl, a, ns, rfl, hS, fun Nm H1 g1 nN eN => ?_⟩
    obtain ⟨nms, nnd, nne, nlen⟩ := names_ok (ns.getD 0 0)
    generalize names (ns.getD 0 0) = nm at nms nnd nne nlen eN
    -- some = []
    refine ⟨Nat.zero_le _, fun S nS => ?_⟩
    have nSH : H S = none := g1.free nS
    have g2 : Gr H (upd H1 S (.lst [])) := g1.trans (Gr.new nS)
    have eN2 : (upd H1 S (.lst [])) Nm = some (.lst (nm.map V.str)) := (Gr.new nS).lst eN
    have eS2 : (upd H1 S (.lst [])) S = some (.lst []) := upd_same
    generalize upd H1 S (.lst []) = H2 at g2 eN2 eS2
    have m0 : 0 ≤ ns.getD 1 0 % 9 := Int.emod_nonneg _ (by omega)
    have m9 : ns.getD 1 0 % 9 < 9 := Int.emod_lt_of_pos _ (by omega)
    refine ⟨_, rfl, a, ns, 1, rfl, g2.seq hS, _, _, rfl, rfl, (by show (0 : Int) < 9; decide), _, rfl, ?_, ?_, for_range (lo := 0) (n := (ns.getD 1 0 % 9).toNat) (fun i σ H3 => ∃ (ps : List (Addr × List Str)) (v : Option V), Gr H H3 ∧ H3 S = some (.lst (ps.map fun q => V.ref q.1)) ∧ (∀ q ∈ ps, H3 q.1 = some (.lst (q.2.map V.str)) ∧ q.1 ≠ S ∧ q.2.Nodup ∧ (∀ y ∈ q.2, y ∈ nm) ∧ q.2.length ≤ nm.length) ∧ ps.length = i ∧ H3 Nm = some (.lst (nm.map V.str)) ∧
      σ = [some (.ref a), some (.ref Nm), some (.ref S), v, none, none, none, none, none, none, none, none, none, none, none, none, none]) ⟨[], _, g2, eS2, fun _ z => absurd z List.not_mem_nil, rfl, eN2, rfl⟩ (fun i σ H3 hi h => ?_) (fun σ H3 h => ?_)⟩
    · show -(2 ^ 62) ≤ ns.getD 1 0 % 9
      omega
    · show ns.getD 1 0 % 9 < 2 ^ 62
      omega
    · obtain ⟨ps, v, g3, eS3, own, hl, eN3, rfl⟩ := h
      refine ⟨_, rfl, .inl ⟨rfl, _, .inl (.inl eS3)⟩, _, rfl, _, rfl, _, rfl, _, _, rfl, rfl, a, ns, 4 + i, ?_, g3.seq hS, Nm, _, nm, rfl, .inl (.inl eN3), nne, nnd, nms, by omega, fun p H4 ys g4 np ep nd mem ln => ?_⟩
      · show [V.ref a, V.int (4 + ((0 : Int) + (i : Nat)))] = [V.ref a, V.int ((4 + i : Nat) : Int)]
        rw [show (4 + ((0 : Int) + (i : Nat))) = ((4 + i : Nat) : Int) by omega]
      · have eS4 := g4.lst eS3
        have nSp : p ≠ S := (ne_of_none eS3 np).symm
        refine ⟨S, _, _, rfl, rfl, eS4, ?_, ps ++ [(p, ys)], _, (g3.trans g4).mut nSH, ?_, fun q hq => ?_, ?_, ?_, rfl⟩
        · rw [List.length_map, hl]
          exact small1000 (by omega)
        · rw [upd_same, List.map_append]
          rfl
        · rcases List.mem_append.mp hq with hq | hq
          · obtain ⟨h1, h2, h3⟩ := own q hq
            exact ⟨by rw [upd_ne h2]; exact g4.lst h1, h2, h3⟩
          · have hq : q = (p, ys) := by simpa using hq
            rw [hq]
            exact ⟨by rw [upd_ne nSp]; exact ep, nSp, nd, mem, ln⟩
        · rw [List.length_append, hl]
          rfl
        · rw [upd_ne (show Nm ≠ S from ne_of_none eN nS)]
          exact g4.lst eN3
    · obtain ⟨ps, v, g3, eS3, own, hl, eN3, rfl⟩ := h
      -- odd
      refine ⟨_, rfl, a, ns, 2, rfl, g3.seq hS, _, rfl, fun od H4 g34 th nn => ?_⟩
      have g4 := g3.trans g34
      have lS : LL H4 S ps := ⟨g34.lst eS3, fun q hq => g34.lst (own q hq).1⟩
      have eN4 := g34.lst eN3
      have pl : ps.length ≤ 8 := by omega
      have own2 : ∀ q ∈ ps, q.2.Nodup ∧ Nms q.2 ∧ q.2.length ≤ 7 := fun q hq => ⟨(own q hq).2.2.1, fun y hy => nms y ((own q hq).2.2.2.1 y hy), Nat.le_trans (own q hq).2.2.2.2 nlen⟩
      clear own eS3 eN3 eS2 eN2 g34 g3 g2
      have big : ∀ n : Nat, n ≤ 2000 → n < sizeLine := fun n hn => by rw [sizeLine_eq]; omega
      have thN : ∀ (x : Str) (H' : Hp), isNm x = true → Thing K H' (.str x) := fun x H' h => thing_str (Nat.le_of_lt (big _ (by have := nm_len h; omega)))
      -- all names are names
      refine ⟨_, rfl, Nm, rfl, ⟨_, .inl (.inl eN4)⟩, fun D hD => lc_list (K := K) (xs := nm.map V.str) (fun i H5 => Gr H4 H5 ∧ H5 D = some (.lst ((List.replicate i true).map V.bl))) ⟨Gr.new hD, upd_same⟩ (fun i H5 _ h => .inl (.inl (h.1.lst eN4))) (fun i x H5 hx h => ?_) (fun H5 h => ?_)⟩
      · obtain ⟨g5, e5⟩ := h
        obtain ⟨y, hy, rfl⟩ := get_map hx
        have hi : i < nm.length := (List.getElem?_eq_some_iff.mp hy).1
        have ny := nms y (List.mem_of_getElem? hy)
        refine ⟨rfl, yesIf ?_⟩
        refine ⟨_, rfl, .str y, rfl, thN y _ ny, (g4.trans g5).tabG hI, fun H6 g6 => ⟨_, _, rfl, ?_⟩⟩
        rw [show nmV (V.str y) = true from ny]
        refine ⟨_, g6.lst e5, ?_, (g5.trans g6).mut hD, ?_⟩
        · rw [List.length_map, List.length_replicate]
          exact big _ (by omega)
        · rw [upd_same, List.replicate_succ', List.map_append]
          rfl
      · obtain ⟨g5, e5⟩ := h
        refine ⟨D, _, rfl, .inl (.inl e5), _, rfl, ?_⟩
        rw [show ((List.replicate (nm.map V.str).length true).all id) = true by
          rw [List.all_eq_true]
          intro z hz
          rw [List.eq_of_mem_replicate hz]
          rfl]
        refine iteF ?_
        refine ⟨_, rfl, od, rfl, Thing.gr g5 th, (g4.trans g5).tabG hI, fun H6 g56 => ⟨_, _, rfl, _, rfl, ?_⟩⟩
        rw [nn]
        refine iteF ?_
        have g46 := g5.trans g56
        clear e5 g56 g5
        -- the lists, one by one
        refine ⟨_, rfl, S, rfl, ⟨_, .inl (.inl (lS.gr g46).at_)⟩, for_list (K := K) (xs := ps.map fun q : Addr × List Str => V.ref q.1) (fun i σ H7 => Gr H4 H7 ∧ ∃ v3 v5 v6 v7 v8 v9 v10 v11, σ = [some (.ref a), some (.ref Nm), some (.ref S), v3, some od, v5, v6, v7, v8, v9, v10, v11, none, none, none, none, none]) ⟨g46, _, _, _, _, _, _, _, _, rfl⟩ (fun i σ H7 _ h => .inl (.inl (lS.gr h.1).at_)) (fun i x σ H7 hx h => ?_) (fun σ H7 h => ?_)⟩
        · obtain ⟨g7, v3, v5, v6, v7, v8, v9, v10, v11, rfl⟩ := h
          obtain ⟨q0, hq0, rfl⟩ := get_map hx
          have m0 := List.mem_of_getElem? hq0
          obtain ⟨nd0, nm0, ln0⟩ := own2 q0 m0
          have e0 : H7 q0.1 = some (.lst (q0.2.map V.str)) := (lS.gr g7).own q0 m0
          have gH7 : Gr H H7 := g4.trans g7
          have nmS : Nms (srt q0.2) := fun y hy => nm0 y (srt_mem.mp hy)
          -- twice
          refine ⟨_, rfl, _, rfl, _, rfl, a, ns, 3, rfl, gH7.seq hS, _, _, rfl, rfl, (by show (0 : Int) < 3; decide), _, rfl, q0.1, _, rfl, .inl (.inl e0), fun c1 nc1 => ?_⟩
          obtain ⟨zs, ez, mz, lz⟩ := cut_map q0.2 none (some (ns.getD 3 0 % 3))
          rw [ez]
          have ga : Gr H7 (upd H7 c1 (.lst (zs.map V.str))) := Gr.new nc1
          have ea : (upd H7 c1 (.lst (zs.map V.str))) c1 = some (.lst (zs.map V.str)) := upd_same
          generalize upd H7 c1 (.lst (zs.map V.str)) = Ha at ga ea
          refine ⟨_, _, _, _, rfl, rfl, ga.lst e0, ea, ?_, fun c2 nc2 => ?_⟩
          · rw [List.length_map, List.length_map]
            exact Nat.le_of_lt (big _ (by omega))
          rw [← List.map_append]
          have mtw : ∀ y, y ∈ q0.2 ++ zs ↔ y ∈ q0.2 := fun y => ⟨fun h => (List.mem_append.mp h).elim id (mz y), fun h => List.mem_append_left _ h⟩
          have ltw : (q0.2 ++ zs).length ≤ 14 := by rw [List.length_append]; omega
          generalize q0.2 ++ zs = tw at mtw ltw
          have nmtw : Nms tw := fun y hy => nm0 y ((mtw y).mp hy)
          have gb : Gr H7 (upd Ha c2 (.lst (tw.map V.str))) := ga.trans (Gr.new nc2)
          have eb : (upd Ha c2 (.lst (tw.map V.str))) c2 = some (.lst (tw.map V.str)) := upd_same
          generalize upd Ha c2 (.lst (tw.map V.str)) = Hb at gb eb
          clear ea ga nc1 nc2 Ha
          -- handed
          refine ⟨_, rfl, c2, _, rfl, .inl (.inl (.inl eb)), fun Hd nHd => ?_⟩
          have gc : Gr H7 (upd Hb Hd (.lst (tw.map V.str))) := gb.trans (Gr.new nHd)
          have eb2 := (Gr.new (o := .lst (tw.map V.str)) nHd).lst eb
          have ec : (upd Hb Hd (.lst (tw.map V.str))) Hd = some (.lst (tw.map V.str)) := upd_same
          generalize upd Hb Hd (.lst (tw.map V.str)) = Hc at gc ec eb2
          -- found
          have thS : ∀ (xs : List Str) (H' : Hp), Nms xs → ∀ v ∈ xs.map V.str, Thing K H' v := fun xs H' h v hv => by
            obtain ⟨y, hy, rfl⟩ := List.mem_map.mp hv
            exact thN y H' (h y hy)
          refine ⟨_, rfl, Hd, tw.map V.str, rfl, .inl (.inl ec), thS tw _ nmtw, by rw [List.length_map]; omega, (gH7.trans gc).tabG hI, .inl ⟨tw, rfl, List.all_eq_true.mpr nmtw, fun Fo Hf gcf nFo eFo => ?_⟩⟩
          rw [once_same nd0 mtw] at eFo
          have gf := gc.trans gcf
          have eb3 := gcf.lst eb2
          have ec3 := gcf.lst ec
          clear eb eb2 ec gcf nFo gc nHd gb
          -- at
          refine ⟨_, rfl, a, ns, 3, rfl, (gH7.trans gf).seq hS, _, rfl, q0.1, _, rfl, .inl (.inl (.inl (gf.lst e0))), _, _, rfl, rfl, _, _, rfl, rfl, ?_, ?_⟩
          · show (0 : Int) < ((q0.2.map V.str).length : Int) + 1
            omega
          -- found != sorted(one)
          refine ⟨_, rfl, _, rfl, ?_⟩
          dsimp only [tNil]
          refine sortedS_texts (K := K) (xs := q0.2) (.inl (.inl (gf.lst e0))) fun so nso => ?_
          have gg : Gr Hf (upd Hf so (.lst ((srt q0.2).map V.str))) := Gr.new nso
          have eso : (upd Hf so (.lst ((srt q0.2).map V.str))) so = some (.lst ((srt q0.2).map V.str)) := upd_same
          generalize upd Hf so (.lst ((srt q0.2).map V.str)) = Hg at gg eso
          refine ⟨dS (srt q0.2), dS (srt q0.2), dp_dS (.inl (.inl (gg.lst eFo))), dp_dS (.inl (.inl eso)), shaped_dS nmS, shaped_dS nmS, _, rfl, ?_⟩
          rw [eqv_dS, decide_eq_true rfl]
          refine iteF ?_
          refine ⟨_, rfl, _, rfl, dS tw, dS tw, dp_dS (.inl (.inl (gg.lst ec3))), dp_dS (.inl (.inl (gg.lst eb3))), shaped_dS nmtw, shaped_dS nmtw, _, rfl, ?_⟩
          rw [eqv_dS, decide_eq_true rfl]
          refine iteF ?_
          have gh := gf.trans gg
          clear eso eFo ec3 eb3 gg gf nso
          -- refused
          refine ⟨_, rfl, _, rfl, _, rfl, q0.1, _, rfl, .inl (.inl (gh.lst e0)), fun c3 nc3 => ?_⟩
          obtain ⟨z1, ez1, mz1, lz1⟩ := cut_map q0.2 none (some (ns.getD 3 0 % (((q0.2.map V.str).length : Int) + 1)))
          rw [ez1]
          have gi : Gr Hg (upd Hg c3 (.lst (z1.map V.str))) := Gr.new nc3
          have e3 : (upd Hg c3 (.lst (z1.map V.str))) c3 = some (.lst (z1.map V.str)) := upd_same
          generalize upd Hg c3 (.lst (z1.map V.str)) = Hi at gi e3
          refine ⟨_, rfl, (by show 1 ≤ sizeLine; rw [sizeLine_eq]; omega), fun c4 nc4 => ?_⟩
          have gj : Gr Hi (upd Hi c4 (.lst [od])) := Gr.new nc4
          have e4 : (upd Hi c4 (.lst [od])) c4 = some (.lst [od]) := upd_same
          generalize upd Hi c4 (.lst [od]) = Hj at gj e4
          refine ⟨_, _, _, _, rfl, rfl, gj.lst e3, e4, ?_, fun c5 nc5 => ?_⟩
          · rw [List.length_map]
            exact Nat.le_of_lt (big _ (by show z1.length + 1 ≤ _; omega))
          have gk : Gr Hj (upd Hj c5 (.lst (z1.map V.str ++ [od]))) := Gr.new nc5
          have e5 : (upd Hj c5 (.lst (z1.map V.str ++ [od]))) c5 = some (.lst (z1.map V.str ++ [od])) := upd_same
          generalize upd Hj c5 (.lst (z1.map V.str ++ [od])) = Hk at gk e5
          have gl := ((gh.trans gi).trans gj).trans gk
          refine ⟨_, rfl, _, rfl, _, rfl, q0.1, _, rfl, .inl (.inl (gl.lst e0)), fun c6 nc6 => ?_⟩
          obtain ⟨z2, ez2, mz2, lz2⟩ := cut_map q0.2 (some (ns.getD 3 0 % (((q0.2.map V.str).length : Int) + 1))) none
          rw [ez2]
          have gm : Gr Hk (upd Hk c6 (.lst (z2.map V.str))) := Gr.new nc6
          have e6 : (upd Hk c6 (.lst (z2.map V.str))) c6 = some (.lst (z2.map V.str)) := upd_same
          generalize upd Hk c6 (.lst (z2.map V.str)) = Hm at gm e6
          refine ⟨_, _, _, _, rfl, rfl, gm.lst e5, e6, ?_, fun c7 nc7 => ?_⟩
          · rw [List.length_append, List.length_map, List.length_map]
            exact Nat.le_of_lt (big _ (by show z1.length + 1 + z2.length ≤ _; omega))
          have gn : Gr H7 (upd Hm c7 (.lst ((z1.map V.str ++ [od]) ++ z2.map V.str))) := (gl.trans gm).trans (Gr.new nc7)
          have e7 : (upd Hm c7 (.lst ((z1.map V.str ++ [od]) ++ z2.map V.str))) c7 = some (.lst ((z1.map V.str ++ [od]) ++ z2.map V.str)) := upd_same
          generalize upd Hm c7 (.lst ((z1.map V.str ++ [od]) ++ z2.map V.str)) = Hn at gn e7
          refine ⟨c7, _, rfl, .inl (.inl e7), fun v hv => ?_, ?_, (gH7.trans gn).tabG hI, ⟨od, ?_, nn⟩, fun Hp1 gnp => ⟨_, rfl, ?_⟩⟩
          · rcases List.mem_append.mp hv with hv | hv
            · rcases List.mem_append.mp hv with hv | hv
              · exact thS z1 _ (fun y hy => nm0 y (mz1 y hy)) v hv
              · have hv : v = od := by simpa using hv
                rw [hv]
                exact Thing.gr (g7.trans gn) th
            · exact thS z2 _ (fun y hy => nm0 y (mz2 y hy)) v hv
          · rw [List.length_append, List.length_append, List.length_map, List.length_map]
            show z1.length + 1 + z2.length ≤ 1000
            omega
          · exact List.mem_append_left _ (List.mem_append_right _ List.mem_cons_self)
          refine iteF ?_
          have gp := gn.trans gnp
          clear e7 e6 e5 e4 e3 gn gm gl gk gj gi gh gnp nc3 nc4 nc5 nc6 nc7
          -- ready
          refine ⟨_, rfl, ?_⟩
          dsimp only [tNil]
          refine sortedS_texts (K := K) (xs := q0.2) (.inl (.inl (gp.lst e0))) fun Rd nRd => ?_
          have gq : Gr H7 (upd Hp1 Rd (.lst ((srt q0.2).map V.str))) := gp.trans (Gr.new nRd)
          have eRd : (upd Hp1 Rd (.lst ((srt q0.2).map V.str))) Rd = some (.lst ((srt q0.2).map V.str)) := upd_same
          generalize upd Hp1 Rd (.lst ((srt q0.2).map V.str)) = Hq at gq eRd
          refine ⟨_, rfl, Rd, (srt q0.2).map V.str, rfl, .inl (.inl eRd), thS _ _ nmS, by rw [List.length_map, srt_len]; omega, (gH7.trans gq).tabG hI, .inl ⟨srt q0.2, rfl, List.all_eq_true.mpr nmS, fun Fo2 Hr gqr nF2 eF2 => ⟨.inl ⟨rfl, _, .inl (.inl eF2)⟩, Fo2, _, _, rfl, rfl, eF2, ?_, ?_⟩⟩⟩
          · rw [List.length_map]
            have h1 := once_len (xs := srt q0.2)
            rw [srt_len] at h1
            exact big _ (by omega)
          have nRF : Rd ≠ Fo2 := ne_of_none eRd nF2
          have gr2 : Gr H7 (upd Hr Fo2 (.lst ((once (srt q0.2)).map V.str ++ [V.str "more"]))) := (gq.trans gqr).mut (gq.free nF2)
          have eRd2 : (upd Hr Fo2 (.lst ((once (srt q0.2)).map V.str ++ [V.str "more"]))) Rd = some (.lst ((srt q0.2).map V.str)) := by
            rw [upd_ne nRF]
            exact gqr.lst eRd
          generalize upd Hr Fo2 (.lst ((once (srt q0.2)).map V.str ++ [V.str "more"])) = Hs at gr2 eRd2
          -- ready != sorted(one)
          refine ⟨_, rfl, _, rfl, ?_⟩
          dsimp only [tNil]
          refine sortedS_texts (K := K) (xs := q0.2) (.inl (.inl (gr2.lst e0))) fun so2 nso2 => ?_
          have gt : Gr Hs (upd Hs so2 (.lst ((srt q0.2).map V.str))) := Gr.new nso2
          have eso2 : (upd Hs so2 (.lst ((srt q0.2).map V.str))) so2 = some (.lst ((srt q0.2).map V.str)) := upd_same
          generalize upd Hs so2 (.lst ((srt q0.2).map V.str)) = Ht at gt eso2
          refine ⟨dS (srt q0.2), dS (srt q0.2), dp_dS (.inl (.inl (gt.lst eRd2))), dp_dS (.inl (.inl eso2)), shaped_dS nmS, shaped_dS nmS, _, rfl, ?_⟩
          rw [eqv_dS, decide_eq_true rfl]
          refine iteF ?_
          have gu := gr2.trans gt
          clear eso2 eRd2 eF2 eRd gt gr2 gqr gq gp
          -- the others
          refine ⟨_, rfl, S, rfl, ⟨_, .inl (.inl (lS.gr (g7.trans gu)).at_)⟩, for_list (K := K) (xs := ps.map fun q : Addr × List Str => V.ref q.1) (fun j σ H9 => Gr H7 H9 ∧ ∃ w3 w6 w7 w8 w9 w10 w11, σ = [some (.ref a), some (.ref Nm), some (.ref S), w3, some od, some (.ref q0.1), w6, w7, w8, w9, w10, w11, none, none, none, none, none]) ⟨gu, _, _, _, _, _, _, _, rfl⟩ (fun j σ H9 _ h => .inl (.inl (lS.gr (g7.trans h.1)).at_)) (fun j x σ H9 hx2 h => ?_) (fun σ H9 h => ?_)⟩
          · obtain ⟨g9, w3, w6, w7, w8, w9, w10, w11, rfl⟩ := h
            obtain ⟨p1, hp1, rfl⟩ := get_map hx2
            have lS9 := lS.gr (g7.trans g9)
            have ePo := lS9.own p1 (List.mem_of_getElem? hp1)
            have eQ := g9.lst e0
            refine ⟨_, rfl, _, rfl, q0.1, p1.1, q0.2, p1.2, rfl, .inl (.inl eQ), .inl (.inl ePo), (gH7.trans g9).tabG hW, fun H10 g10 => ?_⟩
            refine ⟨_, rfl, _, rfl, q0.1, p1.1, q0.2, p1.2, rfl, .inl (.inl (g10.lst eQ)), .inl (.inl (g10.lst ePo)), _, _, rfl, _, rfl, ?_⟩
            rw [beq_self_eq_true]
            refine iteF ?_
            have g910 := g9.trans g10
            refine ⟨_, rfl, _, rfl, q0.1, p1.1, q0.2, p1.2, rfl, .inl (.inl (g10.lst eQ)), .inl (.inl (g10.lst ePo)), (gH7.trans g910).tabG hM, fun H11 g11 => ?_⟩
            have g1011 := g10.trans g11
            refine ⟨_, rfl, _, rfl, q0.1, p1.1, q0.2, p1.2, rfl, .inl (.inl (g1011.lst eQ)), .inl (.inl (g1011.lst ePo)), _, _, rfl, _, rfl, ?_⟩
            rw [beq_self_eq_true]
            exact iteF ⟨g910.trans g11, _, _, _, _, _, _, _, rfl⟩
          · obtain ⟨g9, w3, w6, w7, w8, w9, w10, w11, rfl⟩ := h
            exact ⟨g7.trans g9, _, _, _, _, _, _, _, _, rfl⟩
        · obtain ⟨g7, v3, v5, v6, v7, v8, v9, v10, v11, rfl⟩ := h
          have lS7 := lS.gr g7
          -- sets_here
          refine ⟨_, rfl, S, rfl, ⟨_, .inl (.inl lS7.at_)⟩, fun Sh nSh => lc_fresh (K := K) srt (ps0 := ps) (.inl (.inl lS7.at_)) (big _ (by omega)) (Gr.refl H7) nSh (fun v => rfl) (fun q0 hq0 H8 Q' g8 h8 => ⟨_, rfl, sortedS_texts (xs := q0.2) (.inl (.inl (g8.lst (lS7.own q0 hq0)))) h8⟩) (fun H8 hps g8 T8 e8 => ?_)⟩
          have hpl : hps.length = ps.length := by
            have := congrArg List.length e8
            rw [List.length_map, List.length_map] at this
            exact this
          have lH8 : LL H8 Sh hps := T8.ll
          have hown : ∀ xs ∈ hps.map (·.2), xs.Nodup ∧ Nms xs ∧ xs.length ≤ 7 := by
            intro xs hx
            rw [e8] at hx
            obtain ⟨q0, hq0, rfl⟩ := List.mem_map.mp hx
            obtain ⟨h1, h2, h3⟩ := own2 q0 hq0
            exact ⟨((srt_perm q0.2).nodup_iff).mpr h1, fun y hy => h2 y (srt_mem.mp hy), by rw [srt_len]; exact h3⟩
          -- the pairs
          refine ⟨_, rfl, Sh, rfl, ⟨_, .inl (.inl lH8.at_)⟩, fun D1 nD1 => lc_list (K := K) (xs := hps.map fun q : Addr × List Str => V.ref q.1) (fun i H9 => Gr H8 H9 ∧ ∃ ts : List (Addr × (Addr × List Str)), H9 D1 = some (.lst (ts.map fun t => V.ref t.1)) ∧ (∀ t ∈ ts, H9 t.1 = some (.tup [.int (t.2.2.length : Nat), .ref t.2.1])) ∧ ts.map (·.2) = hps.take i) ⟨Gr.new nD1, [], upd_same, fun _ z => absurd z List.not_mem_nil, rfl⟩ (fun i H9 _ h => .inl (.inl (h.1.lst lH8.at_))) (fun i x H9 hx h => ?_) (fun H9 h => ?_)⟩
          · obtain ⟨g9, ts, eD, et, em⟩ := h
            obtain ⟨q0, hq0, rfl⟩ := get_map hx
            have hi : i < hps.length := (List.getElem?_eq_some_iff.mp hq0).1
            have eq0 := g9.lst (lH8.own q0 (List.mem_of_getElem? hq0))
            refine ⟨rfl, yesIf ?_⟩
            refine ⟨_, rfl, q0.1, _, rfl, .inl (.inl (.inl eq0)), _, rfl, (by show 2 ≤ sizeLine; rw [sizeLine_eq]; omega), fun t nt => ⟨_, (Gr.new nt).lst eD, ?_, (g9.trans (Gr.new nt)).mut nD1, ts ++ [(t, q0)], ?_, fun z hz => ?_, ?_⟩⟩
            · have h1 := congrArg List.length em
              rw [List.length_map, List.length_take] at h1
              rw [List.length_map]
              exact big _ (by omega)
            · rw [upd_same, List.map_append]
              rfl
            · have nDt : D1 ≠ t := ne_of_none eD nt
              rcases List.mem_append.mp hz with hz | hz
              · have h1 := et z hz
                rw [upd_ne (ne_of h1 eD (by intro z; cases z)), upd_ne (ne_of_none h1 nt)]
                exact h1
              · have hz : z = (t, q0) := by simpa using hz
                rw [hz, upd_ne nDt.symm, upd_same, List.length_map]
            · rw [List.map_append, em, List.take_add_one, hq0]
              rfl
          · obtain ⟨g9, ts, eD, et, em⟩ := h
            rw [List.length_map, List.take_length] at em
            -- sorted
            refine ⟨D1, ts.map fun t => (V.ref t.1, t.2), rfl, ?_, fun b hb => ?_, fun Du0 nDu => ?_⟩
            · rw [List.map_map]
              exact .inl (.inl eD)
            · obtain ⟨t, ht, rfl⟩ := List.mem_map.mp hb
              have mt : t.2 ∈ hps := by rw [← em]; exact List.mem_map.mpr ⟨t, ht, rfl⟩
              exact .tup (.inl (.inl (et t ht))) (.cons (.int _) (.cons (dp_dS (.inl (.inl (g9.lst (lH8.own t.2 mt))))) .nil))
            have eq1 : (ts.map fun t => (V.ref t.1, t.2)).mergeSort (PySem.W.dataLe false fun b => rk b.2.2) = (ts.mergeSort fun a b => leR a.2.2 b.2.2).map fun t => (V.ref t.1, t.2) := by
              rw [List.map_mergeSort]
              intro a _ b _
              rfl
            have eq2 : ((ts.mergeSort fun a b => leR a.2.2 b.2.2).map (·.2)).map (·.2) = rkd (hps.map (·.2)) := by
              unfold rkd
              rw [← em, List.map_map, List.map_map, List.map_mergeSort]
              intro a _ b _
              rfl
            have pm : (ts.mergeSort fun a b => leR a.2.2 b.2.2).Perm ts := List.mergeSort_perm _ _
            rw [eq1, List.map_map]
            generalize (ts.mergeSort fun a b => leR a.2.2 b.2.2) = us at eq2 pm
            have et2 : ∀ t ∈ us, H9 t.1 = some (.tup [.int (t.2.2.length : Nat), .ref t.2.1]) ∧ t.2 ∈ hps := fun t ht => ⟨et t (pm.mem_iff.mp ht), by rw [← em]; exact List.mem_map.mpr ⟨t, pm.mem_iff.mp ht, rfl⟩⟩
            have hul : us.length ≤ 8 := by
              have h1 := pm.length_eq
              have h2 := congrArg List.length em
              rw [List.length_map] at h2
              omega
            have g10 : Gr H9 (upd H9 Du0 (.lst (us.map ((fun x => x.1) ∘ fun t : Addr × (Addr × List Str) => (V.ref t.1, t.2))))) := Gr.new nDu
            have eU : (upd H9 Du0 (.lst (us.map ((fun x => x.1) ∘ fun t : Addr × (Addr × List Str) => (V.ref t.1, t.2))))) Du0 = some (.lst (us.map fun t => V.ref t.1)) := upd_same
            generalize upd H9 Du0 (.lst (us.map ((fun x => x.1) ∘ fun t : Addr × (Addr × List Str) => (V.ref t.1, t.2)))) = H10 at g10 eU
            -- due
            refine ⟨Du0, rfl, ⟨_, .inl (.inl eU)⟩, fun Du nD2 => lc_list (K := K) (xs := us.map fun t : Addr × (Addr × List Str) => V.ref t.1) (fun i H11 => Gr H10 H11 ∧ H11 Du = some (.lst ((us.take i).map fun t => V.ref t.2.1))) ⟨Gr.new nD2, upd_same⟩ (fun i H11 _ h => .inl (.inl (h.1.lst eU))) (fun i x H11 hx h => ?_) (fun H11 h => ?_)⟩
            · obtain ⟨g11, eD2⟩ := h
              obtain ⟨t, ht, rfl⟩ := get_map hx
              have hi : i < us.length := (List.getElem?_eq_some_iff.mp ht).1
              refine ⟨rfl, yesIf ?_⟩
              refine ⟨_, rfl, t.1, _, 1, .ref t.2.1, rfl, rfl, .inl (.inl ((g10.trans g11).tup (et2 t (List.mem_of_getElem? ht)).1)), atI_nat (j := 1) rfl, _, eD2, ?_, g11.mut nD2, ?_⟩
              · rw [List.length_map, List.length_take]
                exact big _ (by omega)
              · rw [upd_same, take_map ht]
            · obtain ⟨g11, eD2⟩ := h
              rw [List.length_map, List.take_length] at eD2
              have g811 := (g9.trans g10).trans g11
              have lD11 : LL H11 Du (us.map (·.2)) := ⟨by rw [List.map_map]; exact eD2, fun q hq => by
                obtain ⟨t, ht, rfl⟩ := List.mem_map.mp hq
                exact g811.lst (lH8.own t.2 (et2 t ht).2)⟩
              have downs : ∀ q ∈ us.map (·.2), Nms q.2 := fun q hq => by
                obtain ⟨t, ht, rfl⟩ := List.mem_map.mp hq
                exact (hown t.2.2 (List.mem_map.mpr ⟨t.2, (et2 t ht).2, rfl⟩)).2.1
              have dlen : (us.map (·.2)).length ≤ 8 := by rw [List.length_map]; exact hul
              generalize us.map (·.2) = ds at eq2 lD11 downs dlen
              clear eU et2 eD2 hul pm eq1 et eD em
              have g711 := g8.trans g811
              have lS11 := lS7.gr g711
              have lH11 := lH8.gr g811
              -- best
              refine ⟨Nat.zero_le _, fun B nB => ?_⟩
              have eB0 : (upd H11 B (.lst [])) B = some (.lst []) := upd_same
              have gB0 : Gr H11 (upd H11 B (.lst [])) := Gr.new nB
              generalize upd H11 B (.lst []) = H12 at gB0 eB0
              refine ⟨_, rfl, Du, rfl, ⟨_, .inl (.inl (lD11.gr gB0).at_)⟩, for_list (K := K) (xs := ds.map fun q : Addr × List Str => V.ref q.1) (fun i σ H13 => Gr H11 H13 ∧ ∃ (kps : List (Addr × List Str)), H13 B = some (.lst (kps.map fun q => V.ref q.1)) ∧ (∀ q ∈ kps, q ∈ ds) ∧ kps.length ≤ i ∧ kps.map (·.2) = ((ds.take i).map (·.2)).foldl keep [] ∧
                ∃ w3 w5 w6 w7 w8 w9 w10 w11, σ = [some (.ref a), some (.ref Nm), some (.ref S), w3, some od, w5, w6, w7, w8, w9, w10, w11, some (.ref Sh), some (.ref Du), some (.ref B), none, none]) ⟨gB0, [], eB0, fun _ z => absurd z List.not_mem_nil, Nat.le_refl _, rfl, _, _, _, _, _, _, _, _, rfl⟩ (fun i σ H13 _ h => .inl (.inl (lD11.gr h.1).at_)) (fun i x σ H13 hx h => ?_) (fun σ H13 h => ?_)⟩
              · obtain ⟨g13, kps, eB, sub, kl, km, w3, w5, w6, w7, w8, w9, w10, w11, rfl⟩ := h
                obtain ⟨q0, hq0, rfl⟩ := get_map hx
                have m0 := List.mem_of_getElem? hq0
                have hi : i < ds.length := (List.getElem?_eq_some_iff.mp hq0).1
                refine ⟨_, rfl, B, rfl, ⟨_, .inl (.inl eB)⟩, fun D5 nD5 => lc_list (K := K) (xs := kps.map fun q : Addr × List Str => V.ref q.1) (fun j H14 => Gr H13 H14 ∧ H14 D5 = some (.lst (((kps.take j).filter fun q => wi q.2 q0.2).map fun q => V.ref q.1))) ⟨Gr.new nD5, upd_same⟩ (fun j H14 _ h => .inl (.inl (h.1.lst eB))) (fun j x H14 hx h => ?_) (fun H14 h => ?_)⟩
                · obtain ⟨g14, eD5⟩ := h
                  obtain ⟨k0, hk0, rfl⟩ := get_map hx
                  have hj : j < kps.length := (List.getElem?_eq_some_iff.mp hk0).1
                  have g1114 := g13.trans g14
                  refine ⟨rfl, ?_⟩
                  refine ⟨_, rfl, _, rfl, k0.1, q0.1, k0.2, q0.2, rfl, .inl (.inl (g1114.lst (lD11.own k0 (sub k0 (List.mem_of_getElem? hk0))))), .inl (.inl (g1114.lst (lD11.own q0 m0))), _, rfl, ?_⟩
                  have tk : (kps.take (j + 1)).filter (fun q => wi q.2 q0.2) = (kps.take j).filter (fun q => wi q.2 q0.2) ++ (if wi k0.2 q0.2 = true then [k0] else []) := by
                    rw [List.take_add_one, hk0, List.filter_append]
                    congr 1
                    show List.filter _ [k0] = _
                    rw [List.filter_cons]
                    rfl
                  cases e : wi k0.2 q0.2 with
                  | true =>
                    rw [show k0.2.all q0.2.contains = true from e]
                    refine iteT ⟨_, rfl, _, eD5, ?_, g14.mut nD5, ?_⟩
                    · rw [List.length_map]
                      refine Nat.lt_of_le_of_lt (List.length_filter_le _ _) ?_
                      rw [List.length_take]
                      exact big _ (by omega)
                    · rw [upd_same, tk, e, List.map_append]
                      rfl
                  | false =>
                    rw [show k0.2.all q0.2.contains = false from e]
                    refine iteF ⟨g14, ?_⟩
                    rw [tk, e]
                    simp only [Bool.false_eq_true, if_false, List.append_nil]
                    exact eD5
                · obtain ⟨g14, eD5⟩ := h
                  rw [List.length_map, List.take_length] at eD5
                  refine ⟨Nat.zero_le _, fun E6 nE6 => ?_⟩
                  have g15 : Gr H14 (upd H14 E6 (.lst [])) := Gr.new nE6
                  have eE6 : (upd H14 E6 (.lst [])) E6 = some (.lst []) := upd_same
                  generalize upd H14 E6 (.lst []) = H15 at g15 eE6
                  have g1115 := (g13.trans g14).trans g15
                  have g1315 := g14.trans g15
                  have fsub : ∀ q ∈ kps.filter (fun q => wi q.2 q0.2), q ∈ ds := fun q hq => sub q (List.mem_filter.mp hq).1
                  refine ⟨dSS ((kps.filter fun q => wi q.2 q0.2).map (·.2)), dSS (([] : List (Addr × List Str)).map (·.2)), dp_dSS (.inl (.inl (g15.lst eD5))) (fun q hq => .inl (.inl (g1115.lst (lD11.own q (fsub q hq))))), dp_dSS (.inl (.inl eE6)) (fun q hq => absurd hq List.not_mem_nil), shaped_dSS (fun xs hx => ?_), shaped_dSS (fun xs hx => absurd hx List.not_mem_nil), _, rfl, ?_⟩
                  · obtain ⟨q, hq, rfl⟩ := List.mem_map.mp hx
                    exact downs q (fsub q hq)
                  · rw [eqv_dSS]
                    have anyeq : (kps.map (·.2)).any (fun l => wi l q0.2) = kps.any (fun q => wi q.2 q0.2) := by
                      rw [List.any_map]
                      rfl
                    by_cases hany : kps.any (fun q => wi q.2 q0.2) = true
                    · have ne1 : ¬ ((kps.filter fun q => wi q.2 q0.2).map (·.2) = ([] : List (Addr × List Str)).map (·.2)) := by
                        intro z
                        obtain ⟨k0, mk, wk⟩ := List.any_eq_true.mp hany
                        have z : (kps.filter fun q => wi q.2 q0.2) = [] := List.map_eq_nil_iff.mp z
                        have mf : k0 ∈ kps.filter (fun q => wi q.2 q0.2) := List.mem_filter.mpr ⟨mk, wk⟩
                        rw [z] at mf
                        exact absurd mf List.not_mem_nil
                      rw [decide_eq_false ne1]
                      refine iteF ⟨g1115, kps, g1315.lst eB, sub, by omega, ?_, _, _, _, _, _, _, _, _, rfl⟩
                      rw [take_map hq0, List.foldl_append, ← km]
                      exact (if_pos (anyeq.trans hany)).symm
                    · have e1 : ((kps.filter fun q => wi q.2 q0.2).map (·.2) = ([] : List (Addr × List Str)).map (·.2)) := by
                        have fe : kps.filter (fun q => wi q.2 q0.2) = [] := List.filter_eq_nil_iff.mpr fun q hq z => hany (List.any_eq_true.mpr ⟨q, hq, z⟩)
                        rw [fe]
                      rw [decide_eq_true e1]
                      have eB15 := g1315.lst eB
                      refine iteT ⟨_, rfl, .inl ⟨rfl, _, .inl (.inl eB15)⟩, _, rfl, B, _, _, rfl, rfl, eB15, ?_, ?_⟩
                      · rw [List.length_map]
                        exact big _ (by omega)
                      · refine ⟨g1115.mut nB, kps ++ [q0], ?_, fun q hq => ?_, ?_, ?_, _, _, _, _, _, _, _, _, rfl⟩
                        · rw [upd_same, List.map_append]
                          rfl
                        · rcases List.mem_append.mp hq with hq | hq
                          · exact sub q hq
                          · have hq : q = q0 := by simpa using hq
                            rw [hq]; exact m0
                        · rw [List.length_append, List.length_singleton]; omega
                        · rw [take_map hq0, List.foldl_append, List.map_append, ← km]
                          exact (if_neg (fun z => hany (anyeq.symm.trans z))).symm
              · obtain ⟨g13, kps, eB, sub, kl, km, w3, w5, w6, w7, w8, w9, w10, w11, rfl⟩ := h
                rw [List.length_map, List.take_length] at km
                have gAll := ((g4.trans g7).trans g711).trans g13
                have fitP : Fit (ps.map (·.2)) := ⟨by rw [List.length_map]; omega, fun xs hx => by
                  obtain ⟨q0, hq0, rfl⟩ := List.mem_map.mp hx
                  obtain ⟨h1, h2, h3⟩ := own2 q0 hq0
                  exact ⟨h2, by omega⟩⟩
                have fitH : Fit (hps.map (·.2)) := ⟨by rw [List.length_map]; omega, fun xs hx => by
                  obtain ⟨h1, h2, h3⟩ := hown xs hx
                  exact ⟨h2, by omega⟩⟩
                refine ⟨_, rfl, _, rfl, _, rfl, _, rfl, S, Sh, Du, B, ps, hps, ds, kps, rfl, lS11.gr g13, lH11.gr g13, lD11.gr g13, ⟨eB, fun q hq => (lD11.gr g13).own q (sub q hq)⟩, fitP, fitH, eq2, ?_, gAll.tabG hL, gAll.tabG hW, fun H16 _ => q H16⟩
                rw [km, eq2, ← least_eq, e8]
                congr 1
                rw [List.map_map]
                refine List.map_congr_left fun q0 hq0 => ?_
                show srt q0.2 = once q0.2
                exact (once_same (own2 q0 hq0).1 fun y => Iff.rfl).symm
end
end K1
end
section
set_option maxHeartbeats 0
namespace K1
open PySem PySem.Spec PyProof.Rows L2
def dOf (x : Str) (st : Stmt) : He.DefD := ⟨(x, none), x, x, defArgs st, defBody st, defScope st, [], []⟩
def fn : List He.DefD := [dOf "is_name" sIsName, dOf "rising" sRising, dOf "within" sWithin, dOf "meets" sMeets, dOf "ranked" sRanked, dOf "least_of" sLeast, dOf "_once_each" sOnce, dOf "_rank" sRank,
  dOf "_law_draw" sDraw, dOf "_law_names" sNames, dOf "_law_row" sRow, dOf "_law_meets" sLMeets, dOf "_law_within" sLWithin, dOf "_law_sets" sSets, dOf "_law_refused" sRefused, dOf "_law_odd" sOdd, dOf "_law_truth" sTruth, dOf "_law_told_right" sTold, dOf "law" sLaw]
def globs : List Str := ["is_name", "rising", "within", "meets", "ranked", "least_of", "_once_each", "_rank", "_law_draw", "_law_names", "_law_row", "_law_meets", "_law_within", "_law_sets", "_law_refused", "_law_odd", "_law_truth", "_law_told_right", "law",
  "MeetError", "BadName", "BadRow", "NoRow", "TooMany", "NoMeet", "Unread"]
def frees : List Str := ["len", "isinstance", "bool", "all", "any", "str", "list", "tuple", "set", "sorted", "zip", "range", "enumerate", "ValueError"]
def fa : List He.Fa := globs.map He.Fa.glo ++ frees.map He.Fa.free ++ [.int "MOST_LETTERS" 8, .exc "BadName", .exm "BadName" "MeetError" true]
def ts : List He.Tab := []
def tf : List He.Defn := [("is_name", none), ("within", none), ("meets", none), ("least_of", none)]
def ex (K : PySem.W.Frag) : Bool :=
  He.eqO (PySem.W.findIn K (.ref (He.ga K "BadName")) "__getattribute__") (some (some (.builtin "BaseException.__getattribute__"))) &&
  (He.eqO (PySem.W.findIn K (.ref (He.ga K "BadName")) "__getattr__") (some none) &&
  (PySem.W.hasDictIn K (He.ga K "BadName") &&
  (He.eqO (PySem.W.findIn K (.ref (He.ga K "BadName")) "__class__") (some (some (.builtin "object.__class__"))) &&
  (He.eqO (PySem.W.specialIn K (.builtin "object.__class__") "__get__") (some (some (.builtin "getset_descriptor.__get__"))) &&
  (decide (PySem.W.takesIn K (.builtin "object.__class__") = some true) &&
  (decide (PySem.W.mroIn K (He.ga K "BadName") (.type "object") = some true) &&
  (decide (PySem.W.kitAny K (.ref (He.ga K "BadName")) [.ref (He.ga K "BadRow"), .ref (He.ga K "NoRow"), .ref (He.ga K "TooMany"), .ref (He.ga K "NoMeet"), .ref (He.ga K "Unread")] = some false) &&
  (decide (PySem.W.kitOne K (.ref (He.ga K "BadName")) (.ref (He.ga K "BadName")) = some true) &&
  decide (PySem.W.kitOne K (.ref (He.ga K "BadName")) (.type "ValueError") = some true)))))))))
abbrev R : PySem.W.OpenRow := PySem.W.OpenLaw.row PySem.Challenge.rw_meetrows_k01_sets_of_names
abbrev hk : PySem.W.Hook := He.hookX 4 fa fn ts tf ex
def ob (s : PySem.W.SharedT) : He.AlX := He.obsX 4 fa fn ts tf ex (HandSHeadRun.getT s)
theorem ob_eq (s : PySem.W.SharedT) : ob s = hk.obs s.abs := He.obsX_eq (HandSHeadRun.getT_eq s)
def loose : List Str := ["MeetError", "BadName", "BadRow", "NoRow", "TooMany", "NoMeet", "Unread", "MOST_LETTERS", "is_name", "rising", "within", "meets", "ranked", "least_of", "_once_each", "_rank", "_law_draw", "_law_names", "_law_row", "_law_meets", "_law_meets_all", "_law_within", "_law_sets", "_law_refused", "_law_odd", "_law_truth", "_law_told_right"]
theorem run (w : World) : HandSHeadRun.RunEq R (PySem.W.view R.prog [30]) hk ob 4000 loose w := by
  intro os
  kernel_rfl
end K1
end
section
set_option maxHeartbeats 0
namespace K1
open PySem PySem.Spec PyProof.Rows L2 GxR
theorem facts {w : World} {K : PySem.W.Frag} {h : Heap} {mg : Str → Option Value} {f : Addr} (X : K.In h) (G : h.Ns mainGlobals mg) (hfa : mg ("law" : Str) = some (.ref f)) (c : He.SaysX fa fn ts tf ex w h K) :
    LamX.LawAtS PySem.Challenge.rw_meetrows_k01_sets_of_names w K CX0 7 63 "_law_script" mg f h := by
  have cd := c.t.d
  have gl : ∀ x ∈ globs, mg x = some (.ref (He.ga K x)) := fun x hx => He.glo_ok X G (He.SaysD.facts cd (List.mem_append_left _ (List.mem_append_left _ (List.mem_map.mpr ⟨x, hx, rfl⟩))))
  have fr : ∀ x ∈ frees, mg x = none := fun x hx => He.free_ok X G (He.SaysD.facts cd (List.mem_append_left _ (List.mem_append_right _ (List.mem_map.mpr ⟨x, hx, rfl⟩))))
  have gM : ∃ t, mg "MOST_LETTERS" = some (.int 8 t) := He.int_ok X G (He.SaysD.facts cd (f := .int "MOST_LETTERS" 8) (List.mem_append_right _ List.mem_cons_self))
  obtain ⟨fdIs, F0⟩ := cd.def_ 0 (d := dOf "is_name" sIsName) rfl
  obtain ⟨fdRi, F1⟩ := cd.def_ 1 (d := dOf "rising" sRising) rfl
  obtain ⟨fdWi, F2⟩ := cd.def_ 2 (d := dOf "within" sWithin) rfl
  obtain ⟨fdMe, F3⟩ := cd.def_ 3 (d := dOf "meets" sMeets) rfl
  obtain ⟨fdRa, F4⟩ := cd.def_ 4 (d := dOf "ranked" sRanked) rfl
  obtain ⟨fdLe, F5⟩ := cd.def_ 5 (d := dOf "least_of" sLeast) rfl
  obtain ⟨fdOn, F6⟩ := cd.def_ 6 (d := dOf "_once_each" sOnce) rfl
  obtain ⟨fdRk, F7⟩ := cd.def_ 7 (d := dOf "_rank" sRank) rfl
  obtain ⟨fdDr, F8⟩ := cd.def_ 8 (d := dOf "_law_draw" sDraw) rfl
  obtain ⟨fdNa, F9⟩ := cd.def_ 9 (d := dOf "_law_names" sNames) rfl
  obtain ⟨fdRo, F10⟩ := cd.def_ 10 (d := dOf "_law_row" sRow) rfl
  obtain ⟨fdLm, F11⟩ := cd.def_ 11 (d := dOf "_law_meets" sLMeets) rfl
  obtain ⟨fdLw, F12⟩ := cd.def_ 12 (d := dOf "_law_within" sLWithin) rfl
  obtain ⟨fdSe, F13⟩ := cd.def_ 13 (d := dOf "_law_sets" sSets) rfl
  obtain ⟨fdRe, F14⟩ := cd.def_ 14 (d := dOf "_law_refused" sRefused) rfl
  obtain ⟨fdOd, F15⟩ := cd.def_ 15 (d := dOf "_law_odd" sOdd) rfl
  obtain ⟨fdTr, F16⟩ := cd.def_ 16 (d := dOf "_law_truth" sTruth) rfl
  obtain ⟨fdTo, F17⟩ := cd.def_ 17 (d := dOf "_law_told_right" sTold) rfl
  obtain ⟨fdLa, F18⟩ := cd.def_ 18 (d := dOf "law" sLaw) rfl
  have e := hfa.symm.trans (gl "law" (by decide))
  have ef : f = He.ga K "law" := by injection e with e; injection e
  subst ef
  -- the errors
  have xE := He.SaysD.facts cd (f := .exc "BadName") (List.mem_append_right _ (List.mem_cons_of_mem _ List.mem_cons_self))
  have xM := He.SaysD.facts cd (f := .exm "BadName" "MeetError" true) (List.mem_append_right _ (List.mem_cons_of_mem _ (List.mem_cons_of_mem _ List.mem_cons_self)))
  obtain ⟨x1, xE⟩ := He.ba xE
  obtain ⟨x2, xE⟩ := He.ba xE
  obtain ⟨x3, x4⟩ := He.ba xE
  have EC : ErrC K mg "BadName" (He.ga K "BadName") := ⟨gl "BadName" (by decide), x1, x2, of_decide_eq_true x3, of_decide_eq_true x4⟩
  obtain ⟨y1, m⟩ := He.ba c.more
  obtain ⟨y2, m⟩ := He.ba m
  obtain ⟨y3, m⟩ := He.ba m
  obtain ⟨y4, m⟩ := He.ba m
  obtain ⟨y5, m⟩ := He.ba m
  obtain ⟨y6, m⟩ := He.ba m
  obtain ⟨y7, m⟩ := He.ba m
  obtain ⟨y8, m⟩ := He.ba m
  obtain ⟨y9, y10⟩ := He.ba m
  have XC : ExcC K (He.ga K "BadName") := ⟨He.eqO_ok y1, He.eqO_ok y2, of_decide_eq_true x3, y3, He.eqO_ok y4, He.eqO_ok y5, of_decide_eq_true y6, of_decide_eq_true y7⟩
  have RC : RefC K mg (He.ga K "BadName") (He.ga K "MeetError") (He.ga K "BadRow") (He.ga K "NoRow") (He.ga K "TooMany") (He.ga K "NoMeet") (He.ga K "Unread") :=
    ⟨gl "MeetError" (by decide), gl "BadName" (by decide), gl "BadRow" (by decide), gl "NoRow" (by decide), gl "TooMany" (by decide), gl "NoMeet" (by decide), gl "Unread" (by decide), of_decide_eq_true xM, of_decide_eq_true y8, of_decide_eq_true y9, of_decide_eq_true y10, XC⟩
  have b := FunD.bindsA (ps := ["_law_script"]) F18 fun _ _ _ _ _ _ us hl => match us, hl with | [_], _ => rfl
  refine ⟨fdLa, tf.map (He.cT K), spLaw K (He.cT K ("is_name", none)).2 (He.cT K ("within", none)).2 (He.cT K ("meets", none)).2 (He.cT K ("least_of", none)).2, fun p hp => ?_, fun p hp => ?_, fun p hp => ?_, fun s v => b s [v] rfl, fun H a ns hl hb ht hS => ?_, fun base hB gB hT => ?_⟩
  · obtain ⟨d, hd, rfl⟩ := List.mem_map.mp hp
    exact c.empty d hd
  · obtain ⟨d, hd, rfl⟩ := List.mem_map.mp hp
    exact c.out d hd
  · obtain ⟨d, hd, rfl⟩ := List.mem_map.mp hp
    exact PySem.W.codeHd_of_K X (c.hd d hd)
  · have tg : ∀ d ∈ tf, TabG H (He.cT K d).2 := fun d hd => ⟨#[], ht _ (List.mem_map.mpr ⟨d, hd, rfl⟩), trivial⟩
    exact ⟨a, ns, rfl, hS, tg _ (by decide), tg _ (by decide), tg _ (by decide), tg _ (by decide), fun _ => rfl⟩
  · have tb : ∀ d ∈ tf, Tb K base mg d := fun d hd => have z := hT _ (List.mem_map.mpr ⟨d, hd, rfl⟩); ⟨z.code, z.bm, z.gP⟩
    have GI : FnOk PySem.Challenge.rw_meetrows_k01_sets_of_names.prog w K mg base CX0 1 _ fdIs ["thing"] (spIsName K (He.cT K ("is_name", none)).2) := ok_isname F0 (tb _ (by decide)) (fr "all" (by decide)) (fr "isinstance" (by decide)) (fr "str" (by decide)) (fr "len" (by decide)) gM
    have BI : Binds K fdIs ["thing"] [] := F0.bindsN fun _ _ _ _ _ _ us hl => match us, hl with | [_], _ => rfl
    have GO : FnOk PySem.Challenge.rw_meetrows_k01_sets_of_names.prog w K mg base CX0 1 _ fdOn ["names"] (spOnce K) := ok_once F6 (fr "sorted" (by decide)) (fr "set" (by decide))
    have BO : Binds K fdOn ["names"] [] := F6.bindsN fun _ _ _ _ _ _ us hl => match us, hl with | [_], _ => rfl
    have GW : FnOk PySem.Challenge.rw_meetrows_k01_sets_of_names.prog w K mg base CX0 1 _ fdWi ["one", "other"] (spWithin K (He.cT K ("within", none)).2) := ok_within F2 (tb _ (by decide)) (fr "all" (by decide))
    have BW : Binds K fdWi ["one", "other"] [] := F2.bindsN fun _ _ _ _ _ _ us hl => match us, hl with | [_, _], _ => rfl
    have GM : FnOk PySem.Challenge.rw_meetrows_k01_sets_of_names.prog w K mg base CX0 1 _ fdMe ["one", "other"] (spMeets K (He.cT K ("meets", none)).2) := ok_meets F3 (tb _ (by decide)) (fr "any" (by decide))
    have BM : Binds K fdMe ["one", "other"] [] := F3.bindsN fun _ _ _ _ _ _ us hl => match us, hl with | [_, _], _ => rfl
    have GR : FnOk PySem.Challenge.rw_meetrows_k01_sets_of_names.prog w K mg base CX0 4 _ fdRa ["sets"] (spRanked K) := ok_ranked F4 F7 (gl "_rank" (by decide)) (fr "sorted" (by decide)) (fr "list" (by decide)) (fr "len" (by decide))
    have BR : Binds K fdRa ["sets"] [] := F4.bindsN fun _ _ _ _ _ _ us hl => match us, hl with | [_], _ => rfl
    have GL : FnOk PySem.Challenge.rw_meetrows_k01_sets_of_names.prog w K mg base CX0 5 _ fdLe ["sets"] (spLeast K (He.cT K ("least_of", none)).2 (He.cT K ("within", none)).2) := ok_least F5 (tb _ (by decide)) GR BR F4.kp (gl "ranked" (by decide)) GO BO F6.kp (gl "_once_each" (by decide)) GW BW F2.kp (gl "within" (by decide)) (fr "any" (by decide)) (fr "tuple" (by decide)) (fr "list" (by decide))
    have BL : Binds K fdLe ["sets"] [] := F5.bindsN fun _ _ _ _ _ _ us hl => match us, hl with | [_], _ => rfl
    have GRi : FnOk PySem.Challenge.rw_meetrows_k01_sets_of_names.prog w K mg base (L2.CX PySem.Challenge.rw_meetrows_k01_sets_of_names.prog w) 2 _ fdRi ["names"] (spRising K (He.cT K ("is_name", none)).2 (He.ga K "BadName")) := ok_rising F1 GI BI F0.kp (gl "is_name" (by decide)) GO BO F6.kp (gl "_once_each" (by decide)) EC (fr "enumerate" (by decide)) gM
    have BRi : Binds K fdRi ["names"] [] := F1.bindsN fun _ _ _ _ _ _ us hl => match us, hl with | [_], _ => rfl
    have GD : FnOk PySem.Challenge.rw_meetrows_k01_sets_of_names.prog w K mg base CX0 1 _ fdDr ["_law_script", "_law_k"] (spDraw K) := ok_draw F8 (fr "len" (by decide))
    have BD : Binds K fdDr ["_law_script", "_law_k"] [] := F8.bindsN fun _ _ _ _ _ _ us hl => match us, hl with | [_, _], _ => rfl
    have GS : FnOk PySem.Challenge.rw_meetrows_k01_sets_of_names.prog w K mg base CX0 1 _ fdSe ["_law_found", "_law_due"] spSets := ok_sets F13 (fr "isinstance" (by decide)) (fr "list" (by decide)) (fr "len" (by decide)) (fr "zip" (by decide)) (fr "all" (by decide)) (fr "str" (by decide))
    have BS : Binds K fdSe ["_law_found", "_law_due"] [] := F13.bindsN fun _ _ _ _ _ _ us hl => match us, hl with | [_, _], _ => rfl
    refine ok_law F18 (C := He.ga K "BadName") ⟨⟨_, _, GD, gl "_law_draw" (by decide), F8.kp, BD⟩,
      ⟨_, _, ok_names F9 GD BD F8.kp (gl "_law_draw" (by decide)) (fr "range" (by decide)), gl "_law_names" (by decide), F9.kp, F9.bindsN fun _ _ _ _ _ _ us hl => match us, hl with | [_], _ => rfl⟩,
      ⟨_, _, ok_row F10 (fr "len" (by decide)), gl "_law_row" (by decide), F10.kp, F10.bindsN fun _ _ _ _ _ _ us hl => match us, hl with | [_, _], _ => rfl⟩,
      ⟨_, _, ok_odd F15, gl "_law_odd" (by decide), F15.kp, F15.bindsN fun _ _ _ _ _ _ us hl => match us, hl with | [_], _ => rfl⟩,
      ⟨_, _, ok_truth F16 (fr "isinstance" (by decide)) (fr "bool" (by decide)), gl "_law_truth" (by decide), F16.kp, F16.bindsN fun _ _ _ _ _ _ us hl => match us, hl with | [_, _], _ => rfl⟩,
      ⟨_, _, ok_lmeets F11, gl "_law_meets" (by decide), F11.kp, F11.bindsN fun _ _ _ _ _ _ us hl => match us, hl with | [_, _], _ => rfl⟩,
      ⟨_, _, ok_lwithin F12, gl "_law_within" (by decide), F12.kp, F12.bindsN fun _ _ _ _ _ _ us hl => match us, hl with | [_, _], _ => rfl⟩,
      ⟨_, _, ok_refused F14 GRi BRi F1.kp (gl "rising" (by decide)) RC (fr "isinstance" (by decide)) (fr "ValueError" (by decide)), gl "_law_refused" (by decide), F14.kp, F14.bindsN fun _ _ _ _ _ _ us hl => match us, hl with | [_], _ => rfl⟩,
      ⟨_, _, ok_told F17 GR BR F4.kp (gl "ranked" (by decide)) GL BL F5.kp (gl "least_of" (by decide)) GS BS F13.kp (gl "_law_sets" (by decide)) (fr "list" (by decide)), gl "_law_told_right" (by decide), F17.kp, F17.bindsN fun _ _ _ _ _ _ us hl => match us, hl with | [_, _, _, _], _ => rfl⟩,
      ⟨_, _, GI, gl "is_name" (by decide), F0.kp, BI⟩,
      ⟨_, _, GRi, gl "rising" (by decide), F1.kp, BRi⟩,
      ⟨_, _, GW, gl "within" (by decide), F2.kp, BW⟩,
      ⟨_, _, GM, gl "meets" (by decide), F3.kp, BM⟩,
      fr "range" (by decide), fr "all" (by decide), fr "list" (by decide), fr "len" (by decide), fr "sorted" (by decide)⟩
end K1
open PySem PySem.W PySem.Calls PyProof.Rows
theorem PySem.Challenge.cw_meetrows_k01_sets_of_names_holds : PySem.Challenge.rw_meetrows_k01_sets_of_names.Holds := by
  w_on; o_law
  refine HandSHeadRun.head_any (r := OpenLaw.row PySem.Challenge.rw_meetrows_k01_sets_of_names) (q := view (OpenLaw.row PySem.Challenge.rw_meetrows_k01_sets_of_names).prog [30]) (H := K1.hk) (ob := K1.ob) (M := 4000) (loose := K1.loose) (d := HandSHeadRun.topDef (OpenLaw.row PySem.Challenge.rw_meetrows_k01_sets_of_names).prog 30) (kwd := []) K1.ob_eq
    (by kernel_rfl) (fun s => by kernel_rfl) K1.run (by kernel_rfl) (by kernel_rfl) (by kernel_rfl) (by rfl) (by first | assumption | decide +kernel) (by decide +kernel) ⟨rfl, rfl, rfl, rfl, rfl, by decide +kernel⟩ ?hw ?hc
  case hw => w_witness2
  case hc =>
    refine LamX.walk_ofTsE (l := PySem.Challenge.rw_meetrows_k01_sets_of_names) (n := 63) (k := 7) (x := "_law_script") (CX := fun _ => L2.CX0) rfl (by decide) (by kernel_rfl) ⟨rfl, by decide, by decide⟩ ?F (fun _ _ _ _ _ z => z)
    intro w mg fa h Y G hmg0
    obtain ⟨K, KX, c⟩ := Y
    have hmg : mg ("law" : PySem.Str) = some (.ref fa) := by
      have e : (HandSHeadRun.topDef (OpenLaw.row PySem.Challenge.rw_meetrows_k01_sets_of_names).prog 30).name = ("law" : PySem.Str) := by kernel_rfl
      rw [← e]
      exact hmg0
    exact ⟨K, KX, K1.facts KX G hmg c⟩
end
