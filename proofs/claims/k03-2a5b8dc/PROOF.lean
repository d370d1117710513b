import PyProof.Rows.All
import Wide.All
import OpenK.AllK
import Wide.FinOn
import PySem.Challenge.RW_meetrows_k03_least_sets_by_own_rows
import PyProof.EqAt
import PyProof.EqKinds
import PyProof.TupleCall
import KE.SortKeyHeap
import HandS.Base
import HandS.Call
import HandS.List
import HandS.Set
import HandS.Strs
import HandS.TupSets
import HandS.Words
import HandS.AnyAll
import KE.KNest
import HandS.Comp
import HandS.GenOver
import HandS.SortKw
import HandS.SlotsOwn
import HandS.Dict
import HandS.More
import HandS.Conv
import HandS.DictComp
import HandS.ForMost
import HandS.ForExc
import HandS.Flow
import HandS.IsInst
import HandS.Iter
import HandS.Text
import HandS.FStr
import HandS.HeadHook4
import HandS.HeadWalk
import KE.DatumOrd
import HandS.RaiseMore
import HandS.TryOnly
import HandS.ExcIs
import KE.KxText
import HandS.Style
import HandS.Zip
import HandS.Codes
import HandS.Deep
import HandS.SetBool
import HandS.ListItems
import HandS.Star
import HandS.Walk
import KE.DataCmp
import PyProof.SetRoads
import HandS.Head0
import HandS.Head1
import HandS.Head2
import HandS.HeadEnd
set_option Elab.async false
set_option linter.all false
set_option maxRecDepth 100000
section
set_option maxHeartbeats 4000000
/-! set(xs) of a list of texts, and what is sorted of it. -/
namespace Sx
open PySem PySem.Spec PyProof.Rows L2

/-! ### each once -/
def once (acc : List Str) (x : Str) : List Str := if x ∈ acc then acc else acc ++ [x]
def dd (xs : List Str) : List Str := xs.foldl once []
theorem once_mem {acc : List Str} {x y : Str} : y ∈ once acc x ↔ y ∈ acc ∨ y = x := by
  unfold once
  split
  · rename_i h
    exact ⟨.inl, fun z => z.elim id fun e => e ▸ h⟩
  · simp
theorem once_nodup {acc : List Str} {x : Str} (h : acc.Nodup) : (once acc x).Nodup := by
  unfold once
  split
  · exact h
  · rename_i hx
    refine List.nodup_append.mpr ⟨h, by simp, fun a ha b hb e => ?_⟩
    have hb : b = x := by simpa using hb
    rw [e, hb] at ha
    exact hx ha
theorem fold_mem : ∀ (xs acc : List Str) (y : Str), y ∈ xs.foldl once acc ↔ y ∈ acc ∨ y ∈ xs
  | [], acc, y => by simp
  | x :: xs, acc, y => by
    rw [List.foldl_cons, fold_mem xs, once_mem, List.mem_cons, or_assoc]
theorem fold_nodup : ∀ (xs acc : List Str), acc.Nodup → (xs.foldl once acc).Nodup
  | [], _, h => h
  | _ :: xs, _, h => fold_nodup xs _ (once_nodup h)
theorem once_len (acc : List Str) (x : Str) : (once acc x).length ≤ acc.length + 1 := by
  unfold once
  split <;> simp
theorem fold_len : ∀ (xs acc : List Str), (xs.foldl once acc).length ≤ acc.length + xs.length
  | [], acc => by simp
  | x :: xs, acc => by
    have h1 := fold_len xs (once acc x)
    have h2 := once_len acc x
    rw [List.foldl_cons, List.length_cons]
    omega
theorem dd_mem {xs : List Str} {y : Str} : y ∈ dd xs ↔ y ∈ xs := by
  unfold dd
  rw [fold_mem]
  simp
theorem dd_nodup (xs : List Str) : (dd xs).Nodup := fold_nodup xs [] List.nodup_nil
theorem dd_len (xs : List Str) : (dd xs).length ≤ xs.length := by
  have h := fold_len xs []
  simpa [dd] using h
theorem dd_id {xs : List Str} (h : xs.Nodup) : dd xs = xs := by
  have gen : ∀ (l acc : List Str), (acc ++ l).Nodup → l.foldl once acc = acc ++ l := by
    intro l
    induction l with
    | nil => intro acc _; simp
    | cons x l ih =>
      intro acc hn
      have hx : x ∉ acc := by
        intro z
        exact (List.nodup_append.mp hn).2.2 x z x List.mem_cons_self rfl
      have e : once acc x = acc ++ [x] := if_neg hx
      rw [List.foldl_cons, e, ih (acc ++ [x]) (by rw [List.append_assoc]; exact hn), List.append_assoc]
      rfl
  exact gen xs [] (by simpa using h)

/-! ### a set of texts, as it stands -/
def kS : Value → Str
  | .str x _ => x
  | _ => Str.empty
def Row (w : World) (e : Int × Value) : Prop := ∃ tk, e.2 = Value.str (kS e.2) tk ∧ e.1 = hashStr w (kS e.2)
/-- at a: a set of just the texts ks -/
def SetS (w : World) (h : Heap) (a : Addr) (ks : List Str) : Prop :=
  ∃ o es ep t, h.get? a = some o ∧ o.ExactSet ∧ o.data = .set es ep t ∧ (∀ e ∈ es.toList, Row w e) ∧ (es.toList.map fun e => kS e.2).Perm ks ∧ ks.Nodup ∧
    es.size < scanBound ∧ t.fits es.size = true ∧ Ris t.place.toList ∧ (w.params.followText "set-order" = true ∨ t.led = true)
section
variable {P : Program} {w : World} {h h' : Heap} {a : Addr} {ks : List Str}
theorem SetS.at (R : SetS w h a ks) (k : ∀ o, h.get? a = some o → h'.get? a = some o) : SetS w h' a ks :=
  let ⟨o, es, ep, t, ho, r⟩ := R
  ⟨o, es, ep, t, k o ho, r⟩
theorem Row.str {e : Int × Value} (g : Row w e) : ∃ x tk, e.2 = Value.str x tk ∧ e.1 = hashStr w x ∧ kS e.2 = x := let ⟨tk, h1, h2⟩ := g; ⟨_, tk, h1, h2, rfl⟩
theorem rows_elems {l : List (Int × Value)} (g : ∀ e ∈ l, Row w e) : ElemsOf (PySem.strKind P w) l := by
  intro e he
  obtain ⟨x, tk, h1, h2, _⟩ := (g e he).str
  exact ⟨⟨x, by rw [h1]; exact strKind_is P w x tk, h2⟩, by rw [h1]; rfl⟩
theorem row_is {e : Int × Value} (g : Row w e) (x : Str) : (PySem.strKind P w).is x e.2 = true ↔ kS e.2 = x := by
  obtain ⟨y, tk, h1, _, h3⟩ := g.str
  rw [h1]
  show Value.isStrOf x (.str y tk) = true ↔ y = x
  simp [Value.isStrOf]
theorem SetS.setOf (R : SetS w h a ks) : h.SetOf (PySem.strKind P w) a (fun x => decide (x ∈ ks)) ks.length := by
  obtain ⟨o, es, ep, t, ho, hx, hd, g, pm, nd, hb, hf, _⟩ := R
  refine ⟨o, es, ep, t, ho, hx, hd, rows_elems g, fun x => ?_, hb, hf, ?_⟩
  · rw [decide_eq_true_eq, ← pm.mem_iff, List.mem_map]
    constructor
    · rintro ⟨e, he, q⟩
      exact ⟨e, he, (row_is (g e he) x).2 q⟩
    · rintro ⟨e, he, q⟩
      exact ⟨e, he, (row_is (g e he) x).1 q⟩
  · rw [← pm.length_eq, List.length_map, Array.length_toList]
end

section
variable {P : Program} {w : World} {A : Around} {E : Value → Shared → Prop} {s : Shared} {a : Addr} {ks : List Str}
theorem put_tail {g : Bool → Sem Unit} (hg : ∀ (b : Bool) (s₁ : Shared) (Q' : Unit → Shared → Prop), Q' () s₁ → wpAny (model P w) A (g b) Q' E s₁)
    {o : Obj} {es es1 : Array (Int × Value)} {ep : Nat} {t t2 : SetTable} {zs : List Str} (h1 : s.heap.get? a = some o) (h2 : o.ExactSet) (h3 : o.data = .set es ep t)
    (g1 : ∀ e ∈ es1.toList, Row w e) (pm1 : (es1.toList.map fun e => kS e.2).Perm zs) (nd1 : zs.Nodup) (hb1 : es1.size < scanBound) (hf2 : t2.fits es1.size = true) (hr2 : Ris t2.place.toList) (hl2 : w.params.followText "set-order" = true ∨ t2.led = true) {wd : Bool} {R : Option Bool → Shared → Prop}
    (hR : ∀ h', Heap.SameBut a s.heap h' → SetS w h' a zs → R (some true) { s with heap := h' }) :
    wpAny (model P w) A (do
        storeSet a es1 t2
        if (!wd && t2.tooFull) = true then do
            g (relayAll t2 es1 (SetTable.grown es1.size)).2.2
            storeSet a (relayAll t2 es1 (SetTable.grown es1.size)).1 (relayAll t2 es1 (SetTable.grown es1.size)).2.1
            pure (some true)
          else pure (some true)) R E s := by
  refine wpAny_bind (wpAny_storeSet_of h1 h3 ?_ (fits_of_scanBound hb1))
  have k1 := store_at (es' := es1) (t' := t2) h1 h3
  have k2 := Heap.SameBut.update s.heap a (Obj.putSet es1 t2)
  by_cases full : (!wd && t2.tooFull) = true
  · rw [if_pos full]
    have pm := relayAll_perm t2 es1 (SetTable.grown es1.size)
    have f3 := relayAll_fits t2 es1 (SetTable.grown es1.size)
    have r3 := relayAll_ris t2 es1 (SetTable.grown es1.size)
    have l3 := relayAll_led t2 es1 (SetTable.grown es1.size)
    generalize relayAll t2 es1 (SetTable.grown es1.size) = Z at pm f3 r3 l3 ⊢
    obtain ⟨es2, t3, gv⟩ := Z
    dsimp only at pm f3 r3 l3 ⊢
    have z2 : es2.size = es1.size := by rw [← Array.length_toList, pm.length_eq, Array.length_toList]
    have b2 : es2.size < scanBound := by rw [z2]; exact hb1
    refine wpAny_bind (hg _ _ _ (wpAny_bind (wpAny_storeSet_of k1 rfl ?_ (fits_of_scanBound b2))))
    have k3 := store_at (es' := es2) (t' := t3) k1 rfl
    refine wpAny_pure (hR _ (k2.trans (Heap.SameBut.update _ a _)) ⟨_, es2, _, t3, k3, h2, rfl, fun e he => g1 e (pm.mem_iff.mp he), (pm.map _).trans pm1, nd1, b2, f3, r3, hl2.imp id fun z => ?_⟩)
    rw [l3]; exact z
  · rw [if_neg full]
    exact wpAny_pure (hR _ k2 ⟨_, es1, _, t2, k1, h2, rfl, g1, pm1, nd1, hb1, hf2, hr2, hl2⟩)

theorem put_hashed {x : Str} {tk : Tok} {Q : Bool → Shared → Prop} (R : SetS w s.heap a ks) (room : ks.length + 1 < scanBound)
    (hQ : ∀ h' b, Heap.SameBut a s.heap h' → SetS w h' a (once ks x) → Q b { s with heap := h' }) :
    wpAny (model P w) A (setAddHashed a (.str x tk) ((PySem.strKind P w).hash x)) Q E s := by
  have R0 := R
  obtain ⟨o, es, ep, t, ho, hex, hd, g, pm0, nd, hb, hf, hr, hl⟩ := R
  have key : (PySem.strKind P w).is x (.str x tk) = true := strKind_is P w x tk
  have sc : (Value.str x tk).scannable = true := rfl
  have el : ElemsOf (PySem.strKind P w) es.toList := rows_elems g
  have zn : es.size = ks.length := by rw [← pm0.length_eq, List.length_map, Array.length_toList]
  unfold setAddHashed setAddHashedIn
  refine wpAny_holding (wpAny_bind (wpAny_setState_of ho hd hf ?_))
  dsimp only
  rw [byScan_of sc hb el]
  simp only [↓reduceIte]
  unfold setAddByScan
  refine wpAny_bind (wpAny_bind (wpAny_rule (wpAny_bind (wpAny_setScan_of key ho hd hf el ?_))))
  cases hfi : List.findIdx? (fun e => (PySem.strKind P w).is x e.2) es.toList with
  | some j =>
    dsimp only
    obtain ⟨hj, pj, _⟩ := List.findIdx?_eq_some_iff_getElem.mp hfi
    have hx : x ∈ ks := pm0.mem_iff.mp (List.mem_map.mpr ⟨es.toList[j], List.getElem_mem hj, (row_is (P := P) (g _ (List.getElem_mem hj)) x).1 pj⟩)
    refine wpAny_pure (wpAny_pure ?_)
    have e1 : once ks x = ks := by unfold once; rw [if_pos hx]
    exact hQ s.heap false (Heap.SameBut.refl a s.heap) (by rw [e1]; exact R0)
  | none =>
    dsimp only
    have hx : x ∉ ks := by
      intro z
      obtain ⟨e, he, q⟩ := List.mem_map.mp (pm0.mem_iff.mpr z)
      have c := List.findIdx?_eq_none_iff.mp hfi e he
      rw [(row_is (P := P) (g e he) x).2 q] at c
      cases c
    have e1 : once ks x = ks ++ [x] := by unfold once; rw [if_neg hx]
    have hgw : ∀ (b : Bool) {s₁ : Shared} {Q' : Unit → Shared → Prop}, Q' () s₁ → wpAny (model P w) A (match b with | true => rule "set.scan.the-table-gave-way" | false => pure ()) Q' E s₁ := by
      intro b s₁ Q' q
      cases b <;> first | exact wpAny_pure q | exact wpAny_rule q
    have p1 := layNew_perm t es ((PySem.strKind P w).hash x) (.str x tk)
    have f1 := layNew_fits t es ((PySem.strKind P w).hash x) (.str x tk)
    have r1 := layNew_ris t es ((PySem.strKind P w).hash x) (.str x tk) hr
    have l1 := layNew_led t es ((PySem.strKind P w).hash x) (.str x tk)
    generalize layNew t es ((PySem.strKind P w).hash x) (.str x tk) = Z at p1 f1 r1 l1 ⊢
    obtain ⟨es1, t1, wd, gv⟩ := Z
    dsimp only at p1 f1 r1 l1 ⊢
    rw [Array.toList_push] at p1
    have g1 : ∀ e ∈ es1.toList, Row w e := by
      intro e he
      rcases List.mem_append.mp (p1.mem_iff.mp he) with z | z
      · exact g e z
      · have z : e = ((PySem.strKind P w).hash x, Value.str x tk) := by simpa using z
        rw [z]
        exact ⟨tk, rfl, rfl⟩
    have pm1 : (es1.toList.map fun e => kS e.2).Perm (ks ++ [x]) := by
      have q := p1.map fun e : Int × Value => kS e.2
      rw [List.map_append] at q
      exact q.trans (pm0.append_right _)
    have nd1 : (ks ++ [x]).Nodup := by
      have q := once_nodup (x := x) nd
      rw [e1] at q
      exact q
    have z1 : es1.size = ks.length + 1 := by
      have q := p1.length_eq
      rw [List.length_append, Array.length_toList, Array.length_toList] at q
      simp at q
      omega
    have b1 : es1.size < scanBound := by rw [z1]; exact room
    have led1 : w.params.followText "set-order" = true ∨ t1.led = true := hl.imp id fun z => by rw [l1]; exact z
    have fin : ∀ h', Heap.SameBut a s.heap h' → SetS w h' a (ks ++ [x]) → Q true { s with heap := h' } := fun h' sb r => hQ h' true sb (by rw [e1]; exact r)
    refine wpAny_bind (hgw _ ?_)
    have hgb : ∀ (b : Bool) (s₁ : Shared) (Q' : Unit → Shared → Prop), Q' () s₁ → wpAny (model P w) A (match b with | true => rule "set.scan.the-table-gave-way" | false => pure ()) Q' E s₁ := fun b s₁ Q' q => hgw b q
    split
    · refine wpAny_bind ?_
      rw [hashByValue_scannable 8 sc]
      refine wpAny_pure ?_
      refine put_tail ?_ ho hex hd g1 pm1 nd1 b1 ?_ ?_ ?_ ?_
      · intro b s₁ Q' q; cases b <;> first | exact wpAny_pure q | exact wpAny_rule q
      · first | (split <;> first | exact f1 | exact SetTable.fits_plain_off f1) | exact f1
      · first | (split <;> exact r1) | exact r1
      · first | (split <;> exact led1) | exact led1
      · intro h' sb r; dsimp only; exact wpAny_pure (fin h' sb r)
    · refine wpAny_bind (wpAny_pure ?_)
      simp only [↓reduceIte]
      refine put_tail ?_ ho hex hd g1 pm1 nd1 b1 f1 r1 led1 ?_
      · intro b s₁ Q' q; cases b <;> first | exact wpAny_pure q | exact wpAny_rule q
      · intro h' sb r; dsimp only; exact wpAny_pure (fin h' sb r)
end

section
variable {P : Program} {w : World} {A : Around}
theorem update_strs {I : Addr} {fp wr : List Addr} {G : Array GenState → Array GenState → Prop} {n : Nat} {Pv : Nat → Value → Prop} {St : Nat → Shared → Prop} {R : Result → Shared → Prop}
    (W : WalksS P w A.in1 I fp wr G n Pv St) (S : Addr) (hSf : S ∉ fp) (xs : List Str) (hn : n = xs.length) (few : xs.length + 1 < scanBound) (val : ∀ i v, Pv i v → ∃ x tk, xs[i]? = some x ∧ v = .str x tk) :
    ∀ (k i : Nat) (s : Shared), n - i = k → i ≤ n → St i s → SetS w s.heap S (dd (xs.take i)) →
      (∀ s', Moved (S :: wr) G s s' → SetS w s'.heap S (dd xs) → R (.ok (.ret .none)) s') → codeAny (model P w) A (.builtin "set.update.loop" ⟨[.ref S, .ref I], []⟩) R s := by
  have nw : S ∉ wr := fun z => hSf (W.sub _ z)
  have more : ∀ b ∈ wr, b ∈ S :: wr := fun b hb => List.mem_cons_of_mem _ hb
  intro k
  induction k with
  | zero =>
    intro i s e1 e2 st hS hR
    obtain rfl : i = n := by omega
    refine codeAny_builtin F.entry_set_update_loop ?_
    rw [Around.under_plainId F.plain_set_update_loop _]
    show wpAny _ A.in1 (pyNext (.ref I) >>= _) _ _ s
    refine wpAny_bind (W.done s _ _ st fun s' mv => ?_)
    have hS' := hS.at (h' := s'.heap) fun o e => mv.heap S o nw e
    rw [hn, List.take_length] at hS'
    exact wpAny_pure (hR s' (mv.mono more) hS')
  | succ k ih =>
    intro i s e1 e2 st hS hR
    have lt : i < n := by omega
    refine codeAny_builtin F.entry_set_update_loop ?_
    rw [Around.under_plainId F.plain_set_update_loop _]
    show wpAny _ A.in1 (pyNext (.ref I) >>= _) _ _ s
    refine wpAny_bind (W.item i s _ _ lt st fun v s' hP st' mv => ?_)
    obtain ⟨x, tk, hx, rfl⟩ := val i v hP
    have hS' := hS.at (h' := s'.heap) fun o e => mv.heap S o nw e
    show wpAny _ A.in1 (holding [Value.str x tk] (setAdd S (.str x tk)) >>= _) _ _ s'
    refine wpAny_bind (wpAny_holding ?_)
    unfold setAdd
    refine wpAny_holding (wpAny_bind ((PySem.strKind P w).pyHash (k := x) (strKind_is P w x tk) ?_))
    have room : (dd (xs.take i)).length + 1 < scanBound := by
      have h1 := dd_len (xs.take i)
      rw [List.length_take] at h1
      omega
    refine put_hashed (s := { s' with toks := s'.toks + 1 }) hS' room fun h' b sb hS2 => ?_
    have e3 : dd (xs.take (i + 1)) = once (dd (xs.take i)) x := by
      unfold dd
      rw [List.take_add_one, hx, List.foldl_append]
      rfl
    rw [← e3] at hS2
    refine wpAny_pure ⟨plainId_quiet F.plain_set_update_loop _, ih (i + 1) _ (by omega) lt (W.frame _ s' _ _ st' (Nat.le_succ _) fun c hc o e => ?_) hS2 fun s'' mv2 hS3 => ?_⟩
    · exact (sb.2 c fun z => hSf (z ▸ hc)).trans e
    · refine hR s'' (Moved.trans W.gtrans ((mv.mono more).then_heap (Nat.le_succ _) fun c o hc e => ?_) mv2) hS3
      exact (sb.2 c fun z => hc (z ▸ List.mem_cons_self)).trans e
end

section
variable {P : Program} {w : World} {A : Around} {E : Value → Shared → Prop} {s : Shared}
abbrev setObj0 (w : World) : Obj := { cls := .type "set", dict := none, data := .set #[] 0 (.fresh 0 0 (!w.params.followText "set-order")) }
theorem setS_fresh {h : Heap} {a : Addr} (e : h.get? a = some (setObj0 w)) : SetS w h a [] := by
  refine ⟨_, #[], 0, _, e, ⟨rfl, rfl, rfl⟩, rfl, fun e he => by simp at he, by simp, List.nodup_nil, by decide, by rfl, List.Pairwise.nil, ?_⟩
  show _ ∨ (!w.params.followText "set-order") = true
  cases w.params.followText "set-order"
  · exact .inr rfl
  · exact .inl rfl
set_option maxHeartbeats 3200000 in
/-- set(l), l a list of the texts xs -/
theorem call_set_strs {l : Addr} {items : Array Value} (xs : List Str) {Q : Value → Shared → Prop} (hh : A.handled = none) (hl : s.heap.IsList l items) (hv : ∀ (i : Nat) (v : Value), items[i]? = some v → ∃ x tk, xs[i]? = some x ∧ v = Value.str x tk) (hz : items.size = xs.length) (few : xs.length + 1 < scanBound)
    (h : ∀ (h' : Heap) (tk : Nat), SetS w h' s.heap.objs.size (dd xs) → (∀ b o, s.heap.get? b = some o → h'.get? b = some o) → Q (.ref s.heap.objs.size) { s with heap := h', toks := tk }) :
    wpAny (model P w) A (call (.type "set") [.ref l]) Q E s := by
  obtain ⟨c, tl, hmro⟩ := F.called_set.mro
  have hmade := F.called_set.made
  have hsub := F.called_set.sub
  refine wpAny_call (codeAny_of_tree ?_)
  show wpAny _ _ (callAny (.type "set") _) _ _ _
  refine wpAny_pure ⟨Code.quiet_builtin _ (by decide +kernel), codeAny_builtin F.entry_type_call ?_⟩
  rw [Around.under_plain (weight_type_call_type "set" [.ref l] []) rfl]
  have h1 := F.called_set.notType
  have h2 := F.called_set.canCreate
  have hct := F.typeCall_set_1 (.ref l)
  repeat (any_goals (first | assumption | wp_step))
  refine codeAny_mono (code_set_led1 (.ref l) (E := E) (Q₁ := fun obj s₁ => obj = .ref s.heap.objs.size ∧ s₁ = { s with heap := s.heap.push (setObj0 w) }) ⟨rfl, rfl⟩) fun r s₁ hr => ?_
  cases r with
  | error e => exact hr
  | ok fl =>
    cases fl with
    | ret obj =>
      obtain ⟨rfl, rfl⟩ := hr
      have hS : (s.heap.push (setObj0 w)).get? s.heap.objs.size = some (setObj0 w) := Heap.get?_push_size _ rfl
      have hT : Shared.TypeIs { s with heap := s.heap.push (setObj0 w) } (.ref s.heap.objs.size) "set" := ⟨_, hS, rfl⟩
      have hli := F.called_set.init.lookup
      have hbi := F.called_set.init.bind (.ref s.heap.objs.size)
      repeat (any_goals (first | assumption | wp_step))
      refine codeAny_mono (codeAny_call_builtin (R := wants (fun r s₂ => r = .none ∧ ∃ h' tk, s₂ = { s with heap := h', toks := tk } ∧ SetS w h' s.heap.objs.size (dd xs) ∧
          (∀ b o, s.heap.get? b = some o → h'.get? b = some o)) E) F.called_set.init.plain F.entry_set_init (check_set_init_1 hT ?_)) fun r₂ s₂ hr₂ => ?_
      · obtain ⟨ol, hol, hcl, nl, hdl⟩ := hl
        obtain ⟨ocls, odict, odata, oslots⟩ := ol
        simp only at hcl hdl
        subst hcl; subst hdl
        have hol' : (s.heap.push (setObj0 w)).get? l = some { cls := .type "list", dict := odict, data := .seq items nl, slots := oslots } := Heap.get?_push_of_some _ hol
        have hsls := F.sub_list_set
        have hslf := F.sub_list_frozenset
        have hne : (Value.type "list" == Value.type "dict") = false := by decide
        have hl1 : (s.heap.push (setObj0 w)).IsList l items := ⟨_, hol', rfl, nl, rfl⟩
        unfold Builtin.«set.__init__» noKeywords Builtin.Frozenset.updateFrom
        generalize hPI : pyIter = PI
        wp_walk
        subst hPI
        refine wpAny_pyIter_list hl1 ?_
        refine wpAny_bind (wpAny_runValue ?_)
        have hlS : l < s.heap.objs.size := Heap.lt_size hol
        have hh3 : A.in1.in1.in1.handled = none := by simp [hh]
        have sz1 : (s.heap.push (setObj0 w)).objs.size = s.heap.objs.size + 1 := Heap.size_push ..
        have hneI : l ≠ (s.heap.push (setObj0 w)).objs.size := by
          rw [sz1]; exact Nat.ne_of_lt (Nat.lt_succ_of_lt hlS)
        have hSf : s.heap.objs.size ∉ [(s.heap.push (setObj0 w)).objs.size, l] := by
          rw [sz1]; simp only [List.mem_cons, List.mem_singleton, List.not_mem_nil, or_false, not_or]
          exact ⟨Nat.ne_of_lt (Nat.lt_succ_self _), Nat.ne_of_gt hlS⟩
        refine update_strs ((Walks.list hh3 _ l hneI items).toS) s.heap.objs.size hSf xs hz few hv (items.size - 0) 0 _ (by omega) (Nat.zero_le _)
          ⟨⟨_, Heap.get?_push_size _ rfl, rfl, rfl⟩, (hl1.push _)⟩ ?hS0 ?hR
        case hS0 =>
          rw [List.take_zero]
          exact setS_fresh (Heap.get?_push_of_some _ hS)
        case hR =>
          intro s' hm hS'
          obtain ⟨h', g', d', tk', os'⟩ := s'
          have eg : g' = s.gens := hm.gens
          have ed : d' = s.drawn := hm.drawn
          have eo : os' = s.os := hm.os
          subst eg; subst ed; subst eo
          show wpAny _ _ _ _ _ _
          refine wpAny_pure ?_
          show wpAny _ _ (ret Value.none) _ _ _
          refine wpAny_pure ⟨rfl, h', tk', rfl, hS', fun b o e => ?_⟩
          have lt := Heap.lt_size e
          refine hm.heap b o ?_ (Heap.get?_push_of_some _ (Heap.get?_push_of_some _ e))
          simp only [List.mem_cons, List.mem_singleton, List.not_mem_nil, or_false, not_or]
          exact ⟨Nat.ne_of_lt lt, by rw [sz1]; exact Nat.ne_of_lt (Nat.lt_succ_of_lt lt)⟩
      · cases r₂ with
        | error e => exact hr₂
        | ok fl₂ =>
          cases fl₂ with
          | ret r =>
            obtain ⟨rfl, h', tk, rfl, hS', hk'⟩ := hr₂
            repeat (any_goals (first | assumption | wp_step))
            exact h _ _ hS' hk'
          | _ => exact hr₂.elim
    | _ => exact hr.elim
end
end Sx
end
section
set_option maxHeartbeats 4000000
/-! sorted(..) of lists of data, of sets of texts. -/
namespace Srx
open PySem PySem.Spec PyProof.Rows L2 Sx
open PySem.W (dataLe dataLt alike AllAlike EachIs)

/-! ### texts in order -/
def leS (a b : Str) : Bool := dataLe false (fun x : Str => PyData.str x) a b
theorem leS_iff {a b : Str} : leS a b = true ↔ a.cps.toList ≤ b.cps.toList := by
  unfold leS
  rw [PySem.W.dataLe_str (fun x : Str => x)]
  exact decide_eq_true_iff
theorem leS_total (a b : Str) : leS a b = true ∨ leS b a = true := by
  rw [leS_iff, leS_iff]
  exact List.le_total _ _
theorem leS_trans {a b c : Str} (h1 : leS a b = true) (h2 : leS b c = true) : leS a c = true := by
  rw [leS_iff] at *
  exact List.le_trans h1 h2
theorem leS_anti {a b : Str} (h1 : leS a b = true) (h2 : leS b a = true) : a = b := by
  rw [leS_iff] at *
  exact PySem.W.str_of_cps (List.le_antisymm h1 h2)
def srt (xs : List Str) : List Str := xs.mergeSort leS
theorem srt_perm (xs : List Str) : (srt xs).Perm xs := List.mergeSort_perm _ _
theorem leS_or (a b : Str) : (leS a b || leS b a) = true := by
  rw [Bool.or_eq_true]
  exact leS_total a b
theorem srt_sorted (xs : List Str) : (srt xs).Pairwise (fun a b => leS a b = true) :=
  List.pairwise_mergeSort (le := leS) (fun _ _ _ h1 h2 => leS_trans h1 h2) leS_or xs
theorem sorted_one {xs ys : List Str} (p : xs.Perm ys) (h1 : xs.Pairwise (fun a b => leS a b = true)) (h2 : ys.Pairwise (fun a b => leS a b = true)) : xs = ys :=
  List.Perm.eq_of_pairwise (fun a b _ _ z1 z2 => leS_anti z1 z2) h1 h2 p
theorem srt_eq {xs ys : List Str} (p : xs.Perm ys) : srt xs = srt ys := sorted_one ((srt_perm xs).trans (p.trans (srt_perm ys).symm)) (srt_sorted xs) (srt_sorted ys)
theorem srt_len (xs : List Str) : (srt xs).length = xs.length := (srt_perm xs).length_eq
theorem srt_mem {xs : List Str} {x : Str} : x ∈ srt xs ↔ x ∈ xs := (srt_perm xs).mem_iff
theorem srt_id {xs : List Str} (h : xs.Pairwise (fun a b => leS a b = true)) : srt xs = xs := sorted_one (srt_perm xs) (srt_sorted xs) h

/-! ### sorted(list) -/
/-- data that Python orders -/
structure Ord {γ : Type} (enc : γ → PyData) : Prop where
  alike : ∀ x y, PySem.W.alike (enc x) (enc y) = true
  kind : (∀ x, ∃ d r, enc x = .tuple (d :: r)) ∨ ∀ x, enc x ≠ .none ∧ ∀ ds, enc x ≠ .tuple ds
  depth : ∀ x, (enc x).depth ≤ 60
theorem Ord.strs : Ord (fun x : Str => PyData.str x) := ⟨fun _ _ => by simp [PySem.W.alike], .inr fun _ => ⟨by simp, by simp⟩, fun _ => by simp [PyData.depth]⟩
theorem Ord.comap {γ δ : Type} {enc : γ → PyData} (o : Ord enc) (f : δ → γ) : Ord fun x => enc (f x) := ⟨fun _ _ => o.alike _ _, o.kind.imp (fun h x => h _) fun h x => h _, fun _ => o.depth _⟩
theorem Ord.sortable {γ : Type} {enc : γ → PyData} (o : Ord enc) (bs : List γ) : PySem.W.Sortable (bs.map enc) := by
  rcases o.kind with h | h
  · exact PySem.W.Sortable.tuples h
  · exact PySem.W.Sortable.others h
theorem each_vals {γ : Type} : ∀ {bs : List (V × γ)} {us : List Value}, Vals (bs.map (·.1)) us → EachIs (fun u b => RelV b.1 u) us bs
  | [], _, .nil => .nil
  | b :: bs, _, .cons r t => .cons r (each_vals t)
theorem vals_each {γ : Type} : ∀ {bs : List (V × γ)} {us : List Value}, EachIs (fun u b => RelV b.1 u) us bs → Vals (bs.map (·.1)) us
  | [], _, .nil => .nil
  | b :: bs, _, .cons r t => .cons r (vals_each t)
theorem each_mem {α β : Type} {R S : α → β → Prop} : ∀ {as : List α} {bs : List β}, EachIs R as bs → (∀ a b, b ∈ bs → R a b → S a b) → EachIs S as bs
  | _, _, .nil, _ => .nil
  | _, _, .cons r t, h => .cons (h _ _ List.mem_cons_self r) (each_mem t fun a b hb => h a b (List.mem_cons_of_mem _ hb))
def rSortedD {γ : Type} (K : PySem.W.Frag) (enc : γ → PyData) : List V → Hp → VK → Prop := fun vs H Q => ∃ (a : Addr) (bs : List (V × γ)), vs = [V.ref a] ∧ SqL K H a (bs.map (·.1)) ∧ (∀ b ∈ bs, Dp K H b.1 (enc b.2)) ∧
  ∀ p, H p = none → Q (.ref p) (upd H p (.lst ((bs.mergeSort (dataLe false fun b => enc b.2)).map (·.1))))
section
variable {X : Cx}
theorem cr_sortedD {γ : Type} {enc : γ → PyData} (o : Ord enc) (hu : X.A.units + 64 < cLine) : CallR X (.builtin "sorted") (rSortedD X.K enc) := by
  intro pins s σ H vs us Q I r h
  obtain ⟨a, bs, rfl, hs, hd, q⟩ := h
  obtain ⟨its, rv, hl, hz⟩ := I.list hs
  rw [Vals.ref1 r]
  have e := each_vals rv
  have er : EachIs (fun u b => ∃ as, PySem.Reads s.heap u (enc b.2) as) its bs := each_mem e fun u b hb rb => Dp.reads I _ b.1 u (hd b hb) rb
  have hbz : bs.length ≤ sizeLine := by simpa using hz
  refine PySem.W.sorted_data (R := fun u b => RelV b.1 u) (enc := fun b : V × γ => enc b.2) hl.isList e er (PySem.W.AllAlike.of fun x y => o.alike _ _) ((o.comap Prod.snd).sortable bs) hbz (fun b _ => by have := o.depth b.2; omega) fun out ho hout => ?_
  obtain ⟨ep, he⟩ := PyProof.Rows.sortedAll_at s.heap its out.toArray
  refine ⟨.ref (s.heap.objs.size + 1), upd H (s.heap.objs.size + 1) (.lst ((bs.mergeSort (dataLe false fun b => enc b.2)).map (·.1))), I.laid (t' := s.toks) (fun _ _ => PyProof.Rows.sortedAll_old) (Nat.le_succ _) ⟨?_, out, ep, vals_each hout, he⟩, rfl, q _ (I.hok.fresh (Nat.le_succ _))⟩
  rw [List.length_map, List.length_mergeSort]
  exact hbz
/-- sorted(xs), texts -/
theorem sortedS_texts {K : PySem.W.Frag} {H : Hp} {a : Addr} {xs : List Str} {Q : VK} (hs : SqL K H a (xs.map V.str)) (q : ∀ p, H p = none → Q (.ref p) (upd H p (.lst ((srt xs).map V.str)))) : rSortedD K (fun x : Str => PyData.str x) [V.ref a] H Q := by
  refine ⟨a, xs.map fun x => (V.str x, x), rfl, ?_, ?_, fun p hp => ?_⟩
  · rw [List.map_map]; exact hs
  · intro b hb
    obtain ⟨x, _, rfl⟩ := List.mem_map.mp hb
    exact .str x
  · have e : ((xs.map fun x => (V.str x, x)).mergeSort (dataLe false fun b => PyData.str b.2)).map (·.1) = (srt xs).map V.str := by
      have e2 : (xs.map fun x => (V.str x, x)).mergeSort (dataLe false fun b => PyData.str b.2) = (srt xs).map fun x => (V.str x, x) := by
        unfold srt
        rw [List.map_mergeSort]
        intro a _ b _
        rfl
      rw [e2, List.map_map]
      rfl
    rw [e]
    exact q p hp

/-! ### sets of texts -/
def SetTx (w : World) (a : Addr) (ks : List Str) : HO := .ext fun h => SetS w h a ks
theorem setTx_new {w : World} {P : Program} {H : Hp} {h : Heap} {a : Addr} {ks : List Str} (R : SetS w h a ks) : ObjOk P w H h a (SetTx w a ks) := by
  have ⟨o, es, ep, t, ho, r⟩ := R
  exact ⟨R, ⟨o, ho⟩, fun h1 h2 p k => p.at k⟩
theorem setTx_get {pins : List (Addr × Obj)} {σ : L2.St} {H : Hp} {s : Shared} {a : Addr} {ks : List Str} (I : Inv X pins σ H s) (ha : H a = some (SetTx X.w a ks)) : SetS X.w s.heap a ks := (I.hok a _ ha).1
def rSetTx (K : PySem.W.Frag) (w : World) : List V → Hp → VK → Prop := fun vs H Q => ∃ (l : Addr) (xs : List Str), vs = [V.ref l] ∧ SqL K H l (xs.map V.str) ∧ xs.length ≤ 1000 ∧ ∀ p, H p = none → Q (.ref p) (upd H p (SetTx w p (dd xs)))
theorem cr_setTx (hc : X.calm = true) : CallR X (.type "set") (rSetTx X.K X.w) := by
  intro pins s σ H vs us Q I r h
  obtain ⟨l, xs, rfl, hs, few, q⟩ := h
  rw [Vals.ref1 r]
  obtain ⟨its, rv, pl, hz⟩ := I.list hs
  have hlen : its.toArray.size = xs.length := by rw [List.size_toArray, ← rv.length, List.length_map]
  have hv : ∀ (i : Nat) (v : Value), its.toArray[i]? = some v → ∃ x tk, xs[i]? = some x ∧ v = Value.str x tk := by
    intro i v e
    have e : its[i]? = some v := by simpa using e
    have lt : i < xs.length := by
      have := (List.getElem?_eq_some_iff.mp e).1
      have h2 := rv.length
      rw [List.length_map] at h2
      omega
    have g : (xs.map V.str)[i]? = some (.str xs[i]) := by rw [List.getElem?_map, List.getElem?_eq_getElem lt]; rfl
    obtain ⟨u, e2, tk, e3⟩ := rv.get g
    rw [e] at e2
    cases e2
    exact ⟨xs[i], tk, List.getElem?_eq_getElem lt, e3⟩
  refine call_set_strs (P := X.prog) (w := X.w) xs (I.ok.hd hc) pl.isList hv hlen (by unfold scanBound; omega) fun h' tk R k => ?_
  exact ⟨.ref s.heap.objs.size, upd H s.heap.objs.size (SetTx X.w s.heap.objs.size (dd xs)), I.laid (t' := tk) k (Nat.le_refl _) (setTx_new R), rfl, q _ (I.hok.fresh (Nat.le_refl _))⟩
def rSortedTx (w : World) : List V → Hp → VK → Prop := fun vs H Q => ∃ (a : Addr) (ks : List Str), vs = [V.ref a] ∧ H a = some (SetTx w a ks) ∧ ∀ p, H p = none → Q (.ref p) (upd H p (.lst ((srt ks).map V.str)))
theorem strs_out : ∀ {us : List Value} {xs : List Str}, EachIs (fun u x => ∃ tk, u = Value.str x tk) us xs → Vals (xs.map V.str) us
  | _, _, .nil => .nil
  | _, _, .cons r t => .cons r (strs_out t)
theorem cr_sortedTx (hc : X.calm = true) (hu : X.A.units + 64 < cLine) : CallR X (.builtin "sorted") (rSortedTx X.w) := by
  intro pins s σ H vs us Q I r h
  obtain ⟨a, ks, rfl, ha, q⟩ := h
  rw [Vals.ref1 r]
  obtain ⟨o, es, ep, t, ho, hex, hd, g, pm0, nd, hb, hf, hr, hl⟩ := setTx_get I ha
  refine Calls.call_function_entry kind_sorted plain_sorted entry_sorted (args_sorted1 _) ?_
  unfold Builtin.«sorted»
  refine wpAny_bind (m := checkCount "sorted" 1 1 _) (wpAny_pure ?_)
  refine wpAny_bind (collect_set (A := X.A.in1) (I.ok.hd hc) ⟨o, ho, hex.1, hd⟩ hf hb hr hl fun s1 zs k1 hz g1 o1 pm => ?_)
  have hS : ∀ z ∈ zs, ∃ x tk, z = Value.str x tk := by
    intro z hz
    obtain ⟨e, he, q⟩ := List.mem_map.mp (pm.mem_iff.mp hz)
    obtain ⟨x, tk, h1, _⟩ := (g e he).str
    exact ⟨x, tk, by rw [← q]; exact h1⟩
  have gen : ∀ l : List Value, (∀ z ∈ l, ∃ x tk, z = Value.str x tk) → EachIs (fun u x => ∃ tk, u = Value.str x tk) l (l.map kS) := by
    intro l
    induction l with
    | nil => intro _; exact .nil
    | cons z l ih =>
      intro h
      obtain ⟨x, tk, rfl⟩ := h z List.mem_cons_self
      exact .cons ⟨tk, rfl⟩ (ih fun y hy => h y (List.mem_cons_of_mem _ hy))
  have e := gen zs hS
  have hzl : zs.length < 5000 := by
    rw [pm.length_eq, List.length_map, Array.length_toList]
    unfold scanBound at hb
    omega
  have hzs : zs.length ≤ sizeLine := by rw [sizeLine_eq]; omega
  refine wpAny_bind (wpAny_newList ?_ hzs)
  have hoL : (s1.heap.push (seqObj "list" zs.toArray 0)).get? s1.heap.objs.size = some (seqObj "list" zs.toArray 0) := Heap.get?_push_size _ rfl
  have er : EachIs (fun u x => ∃ as, PySem.Reads (s1.heap.push (seqObj "list" zs.toArray 0)) u (PyData.str x) as ∧ s1.heap.objs.size ∉ as) zs (zs.map kS) := e.mono fun u x ⟨tk, h⟩ => ⟨[], by rw [h]; exact .str x tk, by simp⟩
  refine wpAny_bind (wpAny_holding (PySem.W.list_sort_data (s := { s1 with heap := s1.heap.push (seqObj "list" zs.toArray 0) }) (R := fun u x => ∃ tk, u = Value.str x tk) (enc := fun x : Str => PyData.str x) hoL e er (PySem.W.AllAlike.of fun x y => Ord.strs.alike _ _) (Ord.strs.sortable _) (by rw [List.length_map]; exact hzs) (fun x _ => by have := Ord.strs.depth x; show X.A.units + 1 + 1 + _ < _; omega) fun out hlen hout => ?_))
  obtain ⟨c2, hc2⟩ := sortedHeap_at (vs := zs) (out := out.toArray) hoL
  have hE : (zs.map kS).mergeSort (dataLe false fun x : Str => PyData.str x) = srt ks := by
    show srt (zs.map kS) = srt ks
    refine srt_eq ?_
    have p2 := pm.map kS
    rw [List.map_map] at p2
    exact p2.trans pm0
  rw [hE] at hout
  have hn : H s1.heap.objs.size = none := I.hok.fresh hz
  have hlen2 : ((srt ks).map V.str).length ≤ sizeLine := by
    have h1 := hout.length
    rw [List.length_map] at hlen ⊢
    omega
  have keep : ∀ b u, s.heap.get? b = some u → (sortedHeap (s1.heap.push (seqObj "list" zs.toArray 0)) s1.heap.objs.size zs out.toArray).get? b = some u := by
    intro b u e
    have q1 := k1 b u e
    have lt := Heap.lt_size q1
    rw [sortedHeap_old (Nat.ne_of_lt lt) (by rw [size_push']; exact Nat.lt_succ_of_lt lt)]
    exact Heap.get?_push_of_some _ q1
  refine wpAny_pure ⟨.ref s1.heap.objs.size, rfl, ?_⟩
  refine ⟨.ref s1.heap.objs.size, upd H s1.heap.objs.size (.lst ((srt ks).map V.str)), ?_, rfl, q _ hn⟩
  have J := I.call (g' := s1.gens) (t' := s1.toks) (d' := s1.drawn) (ch := []) (Un.laid (o := .lst ((srt ks).map V.str)) keep hz hn) (I.hok.laid keep hz ⟨hlen2, out, c2, strs_out hout, hc2⟩) (by rw [g1]; exact I.bare) (fun _ z => nomatch z)
  rw [← o1] at J
  exact J
end
end Srx
end
section
set_option maxHeartbeats 4000000
/-! heaps that grow: all stands, but that the defs' tables of code may have grown -/
namespace Gr
open PySem PySem.Spec PyProof.Rows L2 GxR
def NoTbl (o : HO) : Prop := ∀ ps, o ≠ .tbl ps
/-- H' holds what H holds; tables may have grown -/
structure Gr (H H' : Hp) : Prop where
  at_ : ∀ b o, H b = some o → NoTbl o → H' b = some o
  tab : ∀ b ps, H b = some (.tbl ps) → ∃ ps', H' b = some (.tbl ps') ∧ (TriplesOk ps.toList → TriplesOk ps'.toList)
theorem Gr.refl (H : Hp) : Gr H H := ⟨fun _ _ e _ => e, fun _ ps e => ⟨ps, e, fun h => h⟩⟩
theorem Gr.trans {H H1 H2 : Hp} (a : Gr H H1) (b : Gr H1 H2) : Gr H H2 :=
  ⟨fun c o e n => b.at_ c o (a.at_ c o e n) n, fun c ps e => by
    obtain ⟨p1, e1, k1⟩ := a.tab c ps e
    obtain ⟨p2, e2, k2⟩ := b.tab c p1 e1
    exact ⟨p2, e2, fun h => k2 (k1 h)⟩⟩
theorem notbl_lst {xs : List V} : NoTbl (.lst xs) := fun _ e => nomatch e
theorem notbl_tup {xs : List V} : NoTbl (.tup xs) := fun _ e => nomatch e
theorem notbl_frz {o : Obj} {u : HO} : NoTbl (.frz o u) := fun _ e => nomatch e
theorem Gr.lst {H H' : Hp} (g : Gr H H') {a : Addr} {xs : List V} (e : H a = some (.lst xs)) : H' a = some (.lst xs) := g.at_ a _ e notbl_lst
theorem Gr.tup {H H' : Hp} (g : Gr H H') {a : Addr} {xs : List V} (e : H a = some (.tup xs)) : H' a = some (.tup xs) := g.at_ a _ e notbl_tup
theorem Gr.seq {K : PySem.W.Frag} {H H' : Hp} {a : Addr} {xs : List V} (g : Gr H H') (h : SqL K H a xs) : SqL K H' a xs := by
  rcases h with (h | ⟨o, h⟩) | h
  · exact .inl (.inl (g.lst h))
  · exact .inl (.inr ⟨o, g.at_ _ _ h notbl_frz⟩)
  · exact .inr h
theorem Gr.seqT {K : PySem.W.Frag} {H H' : Hp} {a : Addr} {xs : List V} (g : Gr H H') (h : SqT K H a xs) : SqT K H' a xs := by
  rcases h with (h | ⟨o, h⟩) | h
  · exact .inl (.inl (g.tup h))
  · exact .inl (.inr ⟨o, g.at_ _ _ h notbl_frz⟩)
  · exact .inr h
theorem Gr.some {H H' : Hp} (g : Gr H H') {b : Addr} {o : HO} (e : H b = some o) : ∃ o', H' b = some o' := by
  by_cases h : ∃ ps, o = .tbl ps
  · obtain ⟨ps, rfl⟩ := h
    obtain ⟨p1, e1, _⟩ := g.tab b ps e
    exact ⟨_, e1⟩
  · exact ⟨o, g.at_ b o e fun ps z => h ⟨ps, z⟩⟩
theorem Gr.free {H H' : Hp} (g : Gr H H') {b : Addr} (e : H' b = none) : H b = none := by
  cases q : H b with
  | none => rfl
  | some o =>
    obtain ⟨o', z⟩ := g.some q
    rw [e] at z
    cases z
theorem Gr.new {H : Hp} {p : Addr} {o : HO} (h : H p = none) : Gr H (upd H p o) :=
  ⟨fun b u e _ => by rw [upd_ne (ne_of_none e h)]; exact e, fun b ps e => ⟨ps, by rw [upd_ne (ne_of_none e h)]; exact e, fun h => h⟩⟩
/-- what is younger may change -/
theorem Gr.mut {H H' : Hp} {p : Addr} {o : HO} (g : Gr H H') (h : H p = none) : Gr H (upd H' p o) :=
  ⟨fun b u e n => by rw [upd_ne (ne_of_none e h)]; exact g.at_ b u e n, fun b ps e => by
    obtain ⟨p1, e1, k1⟩ := g.tab b ps e
    exact ⟨p1, by rw [upd_ne (ne_of_none e h)]; exact e1, k1⟩⟩
theorem Gr.same {H H' : Hp} (s : Same H H') : Gr H H' := ⟨fun b o e _ => s b o e, fun b ps e => ⟨ps, s _ _ e, fun h => h⟩⟩
theorem Gr.tabbed {H H' : Hp} {P : Addr} (hP : TabG H P) (t : Tabbed P H H') : Gr H H' := by
  obtain ⟨ps, e0, _⟩ := hP
  obtain ⟨⟨ps', e1, k1⟩, rest⟩ := t
  refine ⟨fun b o e n => ?_, fun b qs e => ?_⟩
  · have hb : b ≠ P := by
      intro z
      rw [z, e0] at e
      exact n ps (Option.some.inj e).symm
    rw [rest b hb]; exact e
  · by_cases hb : b = P
    · subst hb
      exact ⟨ps', e1, fun _ => k1⟩
    · exact ⟨qs, by rw [rest b hb]; exact e, fun h => h⟩
theorem Gr.tabG {H H' : Hp} (g : Gr H H') {P : Addr} (h : TabG H P) : TabG H' P := by
  obtain ⟨ps, e, k⟩ := h
  obtain ⟨p1, e1, k1⟩ := g.tab P ps e
  exact ⟨p1, e1, k1 k⟩
mutual
theorem dp_gr {K : PySem.W.Frag} {H H' : Hp} (g : Gr H H') : ∀ (d : PyData) (v : V), Dp K H v d → Dp K H' v d
  | .none, v, h => by cases h; exact .non
  | .bool b, v, h => by cases h; exact .bl b
  | .int i, v, h => by cases h; exact .int i
  | .str x, v, h => by cases h; exact .str x
  | .list ds, v, h => by
    cases h with
    | lst hs ha => exact .lst (g.seq hs) (dpAll_gr g ds _ ha)
  | .tuple ds, v, h => by
    cases h with
    | tup hs ha => exact .tup (g.seqT hs) (dpAll_gr g ds _ ha)
  | .dict _, v, h => by cases h
theorem dpAll_gr {K : PySem.W.Frag} {H H' : Hp} (g : Gr H H') : ∀ (ds : List PyData) (vs : List V), DpAll K H vs ds → DpAll K H' vs ds
  | [], vs, h => by cases h; exact .nil
  | d :: ds, vs, h => by
    cases h with
    | cons h1 h2 => exact .cons (dp_gr g d _ h1) (dpAll_gr g ds _ h2)
end
theorem Gr.dp {K : PySem.W.Frag} {H H' : Hp} (g : Gr H H') {d : PyData} {v : V} (h : Dp K H v d) : Dp K H' v d := dp_gr g d v h
end Gr
end
section
set_option maxHeartbeats 4000000
/-! any(..), all(..) of a generator expression over whatever PI walks; its element is read in a frame of its own and may call defs. -/
namespace Gx
open PySem PySem.Spec PyProof.Rows L2 GxR

section
variable {prog : Program} {w : World} {A : Around} {R : Result → Shared → Prop} {I : Addr}
/-- the turn of a quantifier's loop; stp: the truth that ends it -/
def Turned (R : Result → Shared → Prop) (stp : Bool) (W : Nat → Shared → Prop) (n : Nat) (r : Option Value) (s' : Shared) : Prop :=
  match r with
  | none => R (.ok (.ret (.bool (!stp)))) s'
  | some v => ∃ b, v = .bool b ∧ (b = stp → R (.ok (.ret (.bool stp))) s') ∧ (b ≠ stp → ∃ m, m < n ∧ W m s')
theorem loop_any (W : Nat → Shared → Prop) (step : ∀ n s, W n s → wpAny (model prog w) A.in1 (pyNext (.ref I)) (Turned R true W n) (fun _ _ => False) s) :
    ∀ n s, W n s → codeAny (model prog w) A (.builtin "any.loop" ⟨[.ref I], []⟩) R s := by
  intro n
  induction n using Nat.strongRecOn with
  | ind n ih =>
    intro s hW
    refine codeAny_builtin F.entry_any_loop ?_
    rw [Around.under_plainId F.plain_any_loop _]
    show wpAny _ A.in1 (pyNext (.ref I) >>= _) _ _ s
    refine wpAny_bind (wpAny_mono (step n s hW) (fun r s' hr => ?_) fun _ _ z => z.elim)
    cases r with
    | none => exact wpAny_bind (wpAny_rule (wpAny_pure hr))
    | some v =>
      obtain ⟨b, rfl, h1, h2⟩ := hr
      refine wpAny_bind (wpAny_holding (wpAny_truthy_bool ?_))
      refine wpAny_bind (wpAny_letGo ?_)
      cases b with
      | true => exact wpAny_bind (wpAny_rule (wpAny_pure (h1 rfl)))
      | false =>
        obtain ⟨m, hm, q⟩ := h2 Bool.false_ne_true
        exact wpAny_pure ⟨plainId_quiet F.plain_any_loop _, ih m hm _ q⟩
theorem loop_all (W : Nat → Shared → Prop) (step : ∀ n s, W n s → wpAny (model prog w) A.in1 (pyNext (.ref I)) (Turned R false W n) (fun _ _ => False) s) :
    ∀ n s, W n s → codeAny (model prog w) A (.builtin "all.loop" ⟨[.ref I], []⟩) R s := by
  intro n
  induction n using Nat.strongRecOn with
  | ind n ih =>
    intro s hW
    refine codeAny_builtin F.entry_all_loop ?_
    rw [Around.under_plainId F.plain_all_loop _]
    show wpAny _ A.in1 (pyNext (.ref I) >>= _) _ _ s
    refine wpAny_bind (wpAny_mono (step n s hW) (fun r s' hr => ?_) fun _ _ z => z.elim)
    cases r with
    | none => exact wpAny_bind (wpAny_rule (wpAny_pure hr))
    | some v =>
      obtain ⟨b, rfl, h1, h2⟩ := hr
      refine wpAny_bind (wpAny_holding (wpAny_truthy_bool ?_))
      refine wpAny_bind (wpAny_letGo ?_)
      cases b with
      | false => exact wpAny_bind (wpAny_rule (wpAny_pure (h1 rfl)))
      | true =>
        obtain ⟨m, hm, q⟩ := h2 (fun z => Bool.false_ne_true z.symm)
        exact wpAny_pure ⟨plainId_quiet F.plain_all_loop _, ih m hm _ q⟩
end

/-! ### the frame of the generator expression -/
abbrev gx (X : Cx) (Ag : Around) (s : Shared) (H : Hp) (cenv : Env) (fp : List Addr) (pn : List (Addr × Obj)) : Cx :=
  { X with A := Ag.deeper cenv, s_0 := s, H_0 := H, env := cenv, outer := X.stack, stack := cenv :: X.stack, ex := fp, fn := fun _ => false, pn := pn, xe := fun _ _ => False }
abbrev gEnv (scope : Scope) (X : Cx) (C : Addr) (code : Value) : Env := genEnv scope (cloFrom X.env.cells scope.names []) C code builtinsNs X.env
section
variable {X : Cx} {pins : List (Addr × Obj)} {σ : L2.St} {H : Hp} {s : Shared}
theorem gx_start {scope : Scope} {own : List (Str × Nat)} {fp : List Addr} {Ag : Around} {code : Value} {a : Addr} {go : Obj} {m0 : Str → Option Value} {h5 : Heap} {g5 : Array GenState} {t5 : Nat}
    (I : Inv X pins σ H s) (ok : BlkOk X.N X.env.scope scope own) (nocell : ∀ y ∈ scope.names, y.2 ≠ NameKind.cell) (hN : X.N.Nodup) (hAf : Ag.frames = X.A.frames) (hAh : Ag.handled = X.A.handled)
    (hfp : ∀ b ∈ fp, FpOk X pins H b ∧ b < s.heap.objs.size) (kp : ∀ b o, s.heap.get? b = some o → h5.get? b = some o) (hns : h5.Ns s.heap.objs.size m0) (hg : AllBare g5)
    (ha : h5.get? a = some go) (haz : s.heap.objs.size < a) (hgo : ∀ v, go.data ≠ .cell v) :
    Inv (gx X Ag s H (gEnv scope X s.heap.objs.size code) fp [(a, go)]) [] (wipe σ (own.map (·.2))) H { s with heap := h5, gens := g5, toks := t5 } := by
  have hfree : ∀ y ∈ scope.names, y.2 = .free → ∃ c, X.env.cells.lookup y.1 = some c := by
    intro y hy e
    rcases ok.free y hy e with k | k
    · exact I.ok.has _ (.inl k)
    · exact I.ok.has _ (.inr k)
  generalize hcenv : gEnv scope X s.heap.objs.size code = cenv
  have hL : cenv.locals = s.heap.objs.size := by subst hcenv; rfl
  have hcl : cenv.cells = cloFrom X.env.cells scope.names [] := by subst hcenv; rfl
  have hsc : cenv.scope = scope := by subst hcenv; rfl
  have mem : ∀ {y c}, cenv.cells.lookup y = some c → X.env.cells.lookup y = some c ∧ c < s.heap.objs.size := by
    intro y c e
    rw [hcl] at e
    rcases cloFrom_mem (PySem.mem_of_lookup e) with hm | ⟨h1, h2⟩
    · cases hm
    · subst h2
      obtain ⟨c', hc⟩ := hfree _ h1 rfl
      rw [hc]
      obtain ⟨v, z⟩ := I.cell _ _ hc
      exact ⟨rfl, z.lt⟩
  have look : ∀ {y}, scope.names.lookup y = some NameKind.free → ∃ c, cenv.cells.lookup y = some c ∧ X.env.cells.lookup y = some c := by
    intro y hl
    obtain ⟨c', e'⟩ := mem_lookup (cloFrom_has (cells := X.env.cells) (acc := []) (PySem.mem_of_lookup hl))
    rw [← hcl] at e'
    exact ⟨c', e', (mem e').1⟩
  have nokc : ∀ {y}, scope.names.lookup y ≠ some NameKind.cell := fun {y} e => nocell _ (PySem.mem_of_lookup e) rfl
  have okG : (gx X Ag s H cenv fp [(a, go)]).Ok := by
    refine ⟨I.ok.mod, ?_, ?_, ?_, ?_, ?_, ?_, fun _ _ z => (Bool.false_ne_true z).elim, ?_, ?_, .inr ⟨rfl, ?_⟩, ?_, I.bs, Nat.le_trans I.ok.bsz I.sz, ?_, ?_, I.stack, I.stkFree⟩
    · show cenv.scope.kind = _
      rw [hsc]; exact ok.kind
    · show cenv.globals = _
      subst hcenv; exact I.ok.glob
    · show cenv.builtins = _
      subst hcenv; rfl
    · show s.heap.objs.size ≤ cenv.locals
      rw [hL]; exact Nat.le_refl _
    · exact fun y z c e1 e2 => I.ok.inj y z c (mem e1).1 (mem e2).1
    · intro y hy
      have k : cenv.kindOf y = some .free := by
        rcases hy with k | k
        · have k2 : cenv.scope.names.lookup y = some .cell := k
          rw [hsc] at k2
          exact (nokc k2).elim
        · exact k
      have k2 : cenv.scope.names.lookup y = some .free := k
      rw [hsc] at k2
      obtain ⟨c, h1, _⟩ := look k2
      exact ⟨c, h1⟩
    · intro hc
      show Ag.handled = none
      rw [hAh]; exact I.ok.hd hc
    · show Ag.frames.map (cenv :: ·) = some (cenv :: X.stack)
      rw [hAf, I.ok.frames]; rfl
    · show cenv.frame = some cenv.locals
      subst hcenv; rfl
    · intro b hb
      refine ⟨?_, fun y c e z => (hfp b hb).1.2.2.2.2.1 y c (mem e).1 z⟩
      show b ≠ cenv.locals
      rw [hL]; exact Nat.ne_of_lt (hfp b hb).2
    · intro b o e hb
      rcases (hfp b hb).1.2.2.2.1 with z | z
      · exact I.ok.noex b o e z
      · exact absurd (Nat.lt_of_lt_of_le (Heap.lt_size e) (Nat.le_trans I.ok.bsz z)) (Nat.lt_irrefl _)
    · intro b hb z
      rcases List.mem_cons.mp (I.stkSub b z) with z | z
      · exact (hfp b hb).1.2.1 z
      · exact (hfp b hb).1.2.2.1 z
  refine ⟨okG, rfl, hg, Un.kept kp, ⟨m0, ?_, ?_⟩, ?_, ?_, fun y c e => I.freeC y c (mem e).1, ?_, I.hok.kept kp, by rw [wipe_length]; exact I.len⟩
  · show h5.Ns cenv.locals m0
    rw [hL]; exact hns
  · intro i y av e1 e2 e3
    obtain ⟨e2, hne⟩ := wipe_some e2
    have e3 : Vis cenv.scope y := e3
    rw [hsc] at e3
    have hfr : scope.names.lookup y = some .free := by
      have no : ∀ k', scope.names.lookup y = some k' → ¬ (k' = .local ∨ k' = .cell) := by
        intro k' e hh
        rcases ok.own _ (PySem.mem_of_lookup e) hh with e' | e'
        · obtain ⟨p, hp, hpy⟩ := List.mem_map.mp e'
          have e4 := ok.ix p hp
          have hpy : p.1 = y := hpy
          rw [hpy] at e4
          exact hne (List.mem_map.mpr ⟨p, hp, nodup_ix hN e4 e1⟩)
        · exact e' (List.mem_of_getElem? e1)
      rcases e3 with e3 | e3 | e3
      · exact (no _ e3 (.inl rfl)).elim
      · exact (no _ e3 (.inr rfl)).elim
      · exact e3
    have hkf : cenv.kindOf y = some .free := by
      show cenv.scope.names.lookup y = _
      rw [hsc]; exact hfr
    obtain ⟨m, hn, hl⟩ := I.loc
    have hvis : Vis X.env.scope y := (ok.free _ (PySem.mem_of_lookup hfr) rfl).elim (fun k => .inr (.inl k)) fun k => .inr (.inr k)
    obtain ⟨u, r, q⟩ := hl i y av e1 e2 hvis
    refine ⟨u, r, .inr ⟨.inr hkf, ?_⟩⟩
    obtain ⟨c, h1, h2⟩ := look hfr
    rcases q with ⟨k, _⟩ | ⟨_, c', e', z⟩
    · have k : X.env.scope.names.lookup y = some .local := k
      rcases ok.free _ (PySem.mem_of_lookup hfr) rfl with k' | k'
      · exact absurd (k.symm.trans k') (by simp)
      · exact absurd (k.symm.trans k') (by simp)
    · rw [h2] at e'; cases e'
      exact ⟨c, h1, z.keeps kp⟩
  · intro y c e
    obtain ⟨v, z⟩ := I.cell y c (mem e).1
    exact ⟨v, z.keeps kp⟩
  · show H cenv.locals = none
    rw [hL]; exact I.hok.fresh (Nat.le_refl _)
  · intro p hp
    have e : p = (a, go) := by simpa using hp
    subst e
    have hn : H a = none := I.hok.fresh (Nat.le_of_lt haz)
    refine ⟨ha, hn, ?_, ?_, hgo⟩
    · show a ≠ cenv.locals
      rw [hL]; exact Nat.ne_of_gt haz
    · intro hb
      have hb : a ∈ frs X.stack := hb
      rcases List.mem_cons.mp (I.stkSub a hb) with z | z
      · have h1 := I.lt
        rw [← z] at h1
        exact absurd (Nat.lt_trans haz h1) (Nat.lt_irrefl _)
      · exact I.nofs (Nat.le_of_lt haz) z
end
/-! ### the reading -/
/-- any (stp = true), all (stp = false) of elt for tg in iter if ..: W by the turn and a measure; behind it the def's table may have grown -/
def tGx (P : Addr) (stp : Bool) (wi : TI) (g : TG) (tt : TT) (te : TE) (vs : List Nat) : TE := fun σ H Q => wi σ H fun J H1 => TabG H1 P ∧ ∀ H2, Tabbed P H1 H2 → ∃ W : Nat → Nat → Hp → Prop, (∃ m, W 0 m H2) ∧ ∀ i m H, W i m H →
  (J.stop i H ∧ Q (.bl (!stp)) H) ∨ (J.go i H ∧ ∀ x H', J.yld i H x H' → g x (wipe σ vs) H' fun σ2 H3 => wipe σ2 vs = wipe σ vs ∧ tt σ2 H3 fun c H4 =>
    if c = true then te σ2 H4 fun y H5 => ∃ b, y = .bl b ∧ (b = stp → Q (.bl stp) H5) ∧ (b ≠ stp → ∃ m', m' < m ∧ W (i + 1) m' H5) else ∃ m', m' < m ∧ W (i + 1) m' H4)
/-- sleeping states that the consumer may wake: nothing but the generators' table and the tokens differ -/
structure Like (s s' : Shared) : Prop where
  heap : s'.heap = s.heap
  os : s'.os = s.os
  drawn : s'.drawn = s.drawn
  bare : AllBare s'.gens
  gsz : s.gens.size ≤ s'.gens.size
section
variable {X : Cx}
theorem like_inv {pins : List (Addr × Obj)} {σ : L2.St} {H : Hp} {s s' : Shared} (I : Inv X pins σ H s) (z : Like s s') : Inv X pins σ H s' := by
  obtain ⟨h', g', d', t', o'⟩ := s'
  obtain ⟨z1, z2, z3, z4, _⟩ := z
  have z1 : h' = s.heap := z1
  have z2 : o' = s.os := z2
  have z3 : d' = s.drawn := z3
  subst z1 z2 z3
  exact ⟨I.ok, I.os, z4, I.base, I.loc, I.cell, I.free, I.freeC, I.pin, I.hok, I.len⟩
/-- what is handed out; kap: how it goes on -/
def GxY (X : Cx) (fp : List Addr) (tn : Nat → Heap → Prop) (σw : L2.St) (g : Nat) (stp : Bool) (Q : VK) (W : Nat → Nat → Hp → Prop) : Protocol := fun _ _ v s kap =>
  ∃ b H', v = .bool b ∧ Inv X [] σw H' s ∧ g < s.gens.size ∧ (b = stp → Q (.bl stp) H') ∧ (b ≠ stp → ∀ s', Like s s' → kap (.send .none) s')
def GxP (X : Cx) (σw : L2.St) (g : Nat) (stp : Bool) (Q : VK) (s : Shared) : Prop := ∃ H', Inv X [] σw H' s ∧ g < s.gens.size ∧ Q (.bl (!stp)) H'
abbrev GxR' (X : Cx) (σw : L2.St) (g : Nat) (stp : Bool) (Q : VK) : GenEnd := fun _ _ r s => r = .ok .next ∧ GxP X σw g stp Q s

theorem seg_bindw {M : Model} {A : Around} {R : GenEnd} {Y : Protocol} {n : Nat} {s₀ : Shared} {c : Code} {fs : List Frame} {s : Shared} {α β : Type} {m : Sem α} {K : α → Sem β} {K' : β → Sem PySem.Fin} {H' : Value → Sem PySem.Fin} {gd lv} {N : Nat} (hN : N ≤ s.gens.size)
    (h : wpAny M (A.over c fs) m (fun a s' => N ≤ s'.gens.size → Seg M A R Y n s₀ c ((K a).wrap K' H' gd lv) fs s') (fun _ _ => False) s) :
    Seg M A R Y n s₀ c ((m >>= K).wrap K' H' gd lv) fs s := by
  refine seg_bind_wrap ?_
  refine GenW.wpAny_gsz hN ?_
  exact wpAny_mono h (fun _ _ q => q) fun _ _ z => z.elim

variable {Ag : Around} {fp : List Addr} {tn : Nat → Heap → Prop} {σw : L2.St} {g : Nat} {stp : Bool} {Q : VK} {W : Nat → Nat → Hp → Prop} {J : It} {it : Addr} {elt tg iter : Expr} {ifs : List Expr} {scope : Scope} {pos : Pos} {gt : TG} {tt : TT} {te : TE} {vs : List Nat}
theorem over_gx {cenv : Env} : Ag.over (.compLoop (.GeneratorExp elt [⟨tg, iter, ifs, 0⟩] scope pos) 0 (.ref it) .none cenv) [] = Ag.deeper cenv := by
  obtain ⟨hd, d, fr, gs, u⟩ := Ag
  rfl
theorem over_gx0 {cenv : Env} : Ag.over (.compStart (.GeneratorExp elt [⟨tg, iter, ifs, 0⟩] scope pos) 0 (.ref it) .none cenv) [] = Ag.deeper cenv := by
  obtain ⟨hd, d, fr, gs, u⟩ := Ag
  rfl
theorem seg_gx (hA : X.A = Ag.deeper X.env) (hc : X.calm = true) (hpn : True) (hco : X.env.scope.isCoroutine = false) (hxe : X.xe = fun _ _ => False) (hex : X.ex = fp)
    (hpnx : ∀ b ∈ fp, ∀ p ∈ X.pn, p.1 ≠ b) (hw : wipe σw vs = σw)
    (T : Turn X.prog X.w X.K tg J fp it tn) (pg : PG X tg gt) (pt : PTs X ifs tt) (pe : PE X elt te)
    (turn : ∀ i m H, W i m H → (J.stop i H ∧ Q (.bl (!stp)) H) ∨ (J.go i H ∧ ∀ x H', J.yld i H x H' → gt x σw H' fun σ2 H3 => wipe σ2 vs = σw ∧ tt σ2 H3 fun c H4 =>
      if c = true then te σ2 H4 fun y H5 => ∃ b, y = .bl b ∧ (b = stp → Q (.bl stp) H5) ∧ (b ≠ stp → ∃ m', m' < m ∧ W (i + 1) m' H5) else ∃ m', m' < m ∧ W (i + 1) m' H4)) :
    ∀ (m n i : Nat) (s₀ s : Shared) (H : Hp), m < n → W i m H → Inv X [] σw H s → tn i s.heap → (∀ b ∈ fp, H b = none) → g < s.gens.size →
      Seg (model X.prog X.w) Ag (GxR' X σw g stp Q) (GxY X fp tn σw g stp Q W) n s₀
        (.compLoop (.GeneratorExp elt [⟨tg, iter, ifs, 0⟩] scope pos) 0 (.ref it) .none X.env)
        ((model X.prog X.w).den (.compLoop (.GeneratorExp elt [⟨tg, iter, ifs, 0⟩] scope pos) 0 (.ref it) .none X.env)) [] s := by
  intro m
  induction m using Nat.strongRecOn with
  | ind m ih =>
    intro n i s₀ s H hmn hW I st nfp hg
    have eA := over_gx (Ag := Ag) (elt := elt) (tg := tg) (iter := iter) (ifs := ifs) (scope := scope) (pos := pos) (it := it) (cenv := X.env)
    rw [← hA] at eA
    have stat : ∀ {pins : List (Addr × Obj)} {σ' : L2.St} {H' : Hp} {s' : Shared}, Inv X pins σ' H' s' → pins = [] → (∀ b ∈ fp, H' b = none) → ∀ b ∈ fp, FpOk X pins H' b := by
      intro pins σ' H' s' I' hp hn b hb
      have hb' : b ∈ X.ex := by rw [hex]; exact hb
      refine ⟨hn b hb, (I'.ok.exf b hb').1, I'.ok.exfs b hb', .inl hb', fun x c e => (I'.ok.exf b hb').2 x c e, fun p hp2 => ?_⟩
      rw [hp, List.append_nil] at hp2
      exact hpnx b hb p hp2
    show Seg _ Ag _ _ _ s₀ _ ((compTurn (.GeneratorExp elt [⟨tg, iter, ifs, 0⟩] scope pos) 0 (.ref it) .none X.env).onRaise (leaving X.env)) [] s
    rw [compTurn_gen, Sem.onRaise_eq_wrap]
    refine seg_bindw hg (wpAny_standAt fun _ => ?_)
    rcases turn i m H hW with ⟨stop, qq⟩ | ⟨go, step⟩
    · refine seg_bindw hg ?_
      rw [eA]
      refine wpAny_mono (T.done X rfl rfl rfl hc i [] s σw H (fun _ _ => False) I (stat I rfl nfp) st stop) (fun r s6 ⟨hr, I6⟩ => ?_) fun _ _ z => z
      subst hr
      intro hg6
      exact seg_end (.ok .next) ⟨rfl, H, I6, hg6, qq⟩
    · refine seg_bindw hg ?_
      rw [eA]
      refine wpAny_mono (T.item X rfl rfl rfl hc i [] s σw H (fun _ _ => False) I (stat I rfl nfp) st go) (fun r s6 ⟨u, hr, h6⟩ => ?_) fun _ _ z => z
      subst hr
      intro hg6
      refine seg_bindw hg6 ?_
      rw [eA]
      refine wpAny_mono h6 (fun _ s7 ⟨x, H7, I7, r7, y7, st7, n7⟩ => ?_) fun _ _ z => z
      intro hg7
      have I7' := I7.pinned (stat I7 rfl n7) (T.obj _ _ st7)
      refine seg_bindw hg7 ?_
      rw [eA]
      refine wpAny_mono (pg.run _ s7 σw H7 x u _ I7' r7 (step x H7 y7)) (fun _ s8 ⟨σ8, H8, I8, hw8, q8⟩ => ?_) fun _ _ z => by rw [hxe] at z; exact z
      intro hg8
      refine seg_bindw hg8 ?_
      rw [eA]
      refine wpAny_mono (pt.run _ s8 σ8 H8 _ I8 q8) (fun c s9 ⟨H9, I9, q9⟩ => ?_) fun _ _ z => by rw [hxe] at z; exact z
      intro hg9
      -- behind the turn
      have fin : ∀ {s' : Shared} {H' : Hp}, Inv X ([] ++ pinsAt fp s7.heap) σ8 H' s' → Inv X [] σw H' s' ∧ tn (i + 1) s'.heap ∧ ∀ b ∈ fp, H' b = none := by
        intro s' H' I'
        have pin' : ∀ b ∈ fp, ∀ o, s7.heap.get? b = some o → s'.heap.get? b = some o ∧ H' b = none := by
          intro b hb o e
          have z := I'.pin (b, o) (List.mem_append_right _ (List.mem_append_right _ (mem_pinsAt hb e)))
          exact ⟨z.1, z.2.1⟩
        have hl : σw.length = σ8.length := by rw [← hw8, wipe_length]
        refine ⟨(I'.unpinned (pins := [])).weak hl fun j v e => ?_, T.keep _ _ _ st7 fun b hb o e => (pin' b hb o e).1, fun b hb => ?_⟩
        · rw [← hw8] at e
          exact (wipe_some e).1
        · obtain ⟨o, e, _⟩ := T.obj _ _ st7 b hb
          exact (pin' b hb o e).2
      cases c with
      | false =>
        simp only [Bool.false_eq_true, if_false] at q9 ⊢
        obtain ⟨m', hm', w'⟩ := q9
        obtain ⟨J1, J2, J3⟩ := fin I9
        exact seg_again rfl (ih m' hm' n (i + 1) s₀ s9 H9 (by omega) w' J1 J2 J3 hg9)
      | true =>
        simp only [if_true] at q9 ⊢
        have hy : ∀ v, yieldOut X.env v = yieldValue v := fun v => by simp only [yieldOut, hco, Bool.false_eq_true, if_false]
        simp only [hy]
        rw [Sem.bind_eq_wrap', Sem.bind_eq_wrap', Sem.wrap_wrap, Sem.wrap_wrap]
        refine seg_wrap (GenW.wpAny_gsz hg9 ?_)
        rw [eA]
        refine wpAny_mono (pe.run _ s9 σ8 H9 _ I9 q9) (fun y s10 ⟨yv, H10, I10, r10, b, hb, q1, q2⟩ => ?_) fun _ _ z => by rw [hxe] at z; exact z.elim
        intro hg10
        subst hb
        have r10 : y = Value.bool b := r10
        subst r10
        obtain ⟨J1, J2, J3⟩ := fin I10
        obtain ⟨n', rfl⟩ : ∃ n', n = n' + 1 := ⟨n - 1, by omega⟩
        refine seg_at (seg_yield rfl rfl rfl ⟨b, H10, rfl, J1, hg10, q1, fun hb s' hl => ?_⟩)
        obtain ⟨m', hm', w'⟩ := q2 hb
        refine seg_again rfl (ih m' hm' n' (i + 1) s' s' H10 (by omega) w' (like_inv J1 hl) ?_ J3 (Nat.lt_of_lt_of_le hg10 hl.gsz))
        rw [hl.heap]; exact J2

theorem seg_gx0 (hA : X.A = Ag.deeper X.env) {s₀ s : Shared} {n : Nat} (T : Turn X.prog X.w X.K tg J fp it tn) (st : tn 0 s.heap)
    (loop : Seg (model X.prog X.w) Ag (GxR' X σw g stp Q) (GxY X fp tn σw g stp Q W) n s₀ (.compLoop (.GeneratorExp elt [⟨tg, iter, ifs, 0⟩] scope pos) 0 (.ref it) .none X.env)
        ((model X.prog X.w).den (.compLoop (.GeneratorExp elt [⟨tg, iter, ifs, 0⟩] scope pos) 0 (.ref it) .none X.env)) [] s) :
    Seg (model X.prog X.w) Ag (GxR' X σw g stp Q) (GxY X fp tn σw g stp Q W) n s₀ (.compStart (.GeneratorExp elt [⟨tg, iter, ifs, 0⟩] scope pos) 0 (.ref it) .none X.env)
        ((model X.prog X.w).den (.compStart (.GeneratorExp elt [⟨tg, iter, ifs, 0⟩] scope pos) 0 (.ref it) .none X.env)) [] s := by
  show Seg _ Ag _ _ _ s₀ _ ((compStart (.GeneratorExp elt [⟨tg, iter, ifs, 0⟩] scope pos) 0 (.ref it) .none X.env).onRaise (leaving X.env)) [] s
  unfold compStart
  rw [Sem.onRaise_eq_wrap]
  show Seg _ Ag _ _ _ s₀ _ ((ask >>= _).wrap _ _ _ _) [] s
  refine seg_bind_wrap (wpAny_askSetting ?_)
  split
  · exact seg_again rfl loop
  · first
      | exact seg_bind_wrap (wpAny_rule (seg_bind_wrap (wpAny_standAt (seg_bind_wrap (T.self _ 0 s _ _ st (seg_again rfl loop))))))
      | (refine seg_bind_wrap (wpAny_rule ?_); show Seg _ Ag _ _ _ s₀ _ ((standAt iter.pos >>= _).wrap _ _ _ _) [] s; exact seg_bind_wrap (wpAny_standAt (seg_bind_wrap (T.self _ 0 s _ _ st (seg_again rfl loop)))))

/-! ### what the consumer holds -/
theorem bare_setGen {s : Shared} {g : Nat} {x : GenState} (h : AllBare s.gens) (hx : x.bare = true) : AllBare (s.setGen g x).gens := by
  intro y hy
  have hy : y ∈ s.gens.setIfInBounds g x := hy
  obtain ⟨i, hi, e⟩ := Array.mem_iff_getElem.mp hy
  rw [Array.getElem_setIfInBounds] at e
  by_cases c : g = i
  · rw [if_pos c] at e; rw [← e]; exact hx
  · rw [if_neg c] at e; rw [← e]; exact h _ (Array.getElem_mem _)
  · simpa using hi
theorem like_setGen {s : Shared} {g : Nat} {x : GenState} (h : AllBare s.gens) (hx : x.bare = true) : Like s (s.setGen g x) := ⟨rfl, rfl, rfl, bare_setGen h hx, Nat.le_of_eq (GenW.setGen_size s g x).symm⟩
theorem Like.trans {s s' s'' : Shared} (a : Like s s') (b : Like s' s'') : Like s s'' := ⟨b.heap.trans a.heap, b.os.trans a.os, b.drawn.trans a.drawn, b.bare, Nat.le_trans a.gsz b.gsz⟩
theorem like_refl {s : Shared} (h : AllBare s.gens) : Like s s := ⟨rfl, rfl, rfl, h, Nat.le_refl _⟩
def GenO (go : Obj) (g : Nat) : Prop := ∃ nm qn, go.cls = .type "generator" ∧ go.data = .fields #[.int g 0, nm, qn] ∧ go.slots = #[]
/-- X: the generator's own context -/
def Held (X : Cx) (Ag : Around) (fp : List Addr) (tn : Nat → Heap → Prop) (σw : L2.St) (g : Nat) (stp : Bool) (Q : VK) (W : Nat → Nat → Hp → Prop) (n : Nat) (s : Shared) : Prop :=
  (∃ H', Inv X [] σw H' s) ∧ ∃ gs, s.gens[g]? = some gs ∧ AllBare s.gens ∧ ∀ s'', Like s s'' → gs.Goes (model X.prog X.w) Ag (GxR' X σw g stp Q) (GxY X fp tn σw g stp Q W) n (.send .none) s''
theorem get_setGen {s : Shared} {g : Nat} {x : GenState} (h : g < s.gens.size) : (s.setGen g x).gens[g]? = some x := by
  simp [Shared.setGen, h]
theorem held_turn {A : Around} {R : Result → Shared → Prop} {a : Addr} {go : Obj} (hAg : Ag = A.in1.in1) (hh : A.handled = none) (hroom : A.depth < recursionLimit) (hpn : X.pn = [(a, go)]) (hgo : GenO go g)
    (hR : ∀ (b : Bool) H' s', Inv X [] σw H' s' → Q (.bl b) H' → ∀ h', (∀ x o, s'.heap.get? x = some o → h'.get? x = some o) → R (.ok (.ret (.bool b))) { s' with heap := h' })
    (n : Nat) (s : Shared) (h : Held X Ag fp tn σw g stp Q W n s) :
    wpAny (model X.prog X.w) A.in1 (pyNext (.ref a)) (Turned R stp (Held X Ag fp tn σw g stp Q W) n) (fun _ _ => False) s := by
  obtain ⟨⟨H0, I0⟩, gs, hgs, hbare, hgoes⟩ := h
  subst hAg
  have pinned : ∀ {H' : Hp} {s' : Shared}, Inv X [] σw H' s' → s'.heap.IsGen a g := by
    intro H' s' I'
    obtain ⟨nm, qn, h1, h2, h3⟩ := hgo
    exact ⟨go, nm, qn, (I'.pin (a, go) (List.mem_append_left _ (by rw [hpn]; exact List.mem_cons_self))).1, h1, h2, h3⟩
  refine wpAny_pyNext_genexpQ (P := fun _ _ s => GxP X σw g stp Q s) (Y := GxY X fp tn σw g stp Q W) (n := n) hh I0.nolimit hroom (pinned I0) hgs (hgoes _ (like_setGen hbare rfl)) (fun v s₁ gs' hb hv => ?_) (fun s₁ hp h' hk => ?_)
  · obtain ⟨b, H', rfl, I1, hg1, q1, q2⟩ := hv
    have L1 : Like s₁ (s₁.setGen g gs') := like_setGen I1.bare hb
    have I2 := like_inv I1 L1
    refine ⟨b, rfl, fun e => ?_, fun e => ?_⟩
    · have z := hR stp H' (s₁.setGen g gs') I2 (q1 e) (s₁.setGen g gs').heap fun _ _ e => e
      exact z
    · cases n with
      | zero => exact (q2 e s₁ (like_refl I1.bare)).elim
      | succ m =>
        refine ⟨m, Nat.lt_succ_self m, ⟨H', I2⟩, gs', get_setGen hg1, I2.bare, fun s'' hl => ?_⟩
        exact q2 e s'' (L1.trans hl)
  · obtain ⟨H', I1, hg1, q⟩ := hp
    exact hR (!stp) H' (s₁.setGen g .finished) (like_inv I1 (like_setGen I1.bare rfl)) q h' hk
end

/-! ### the rules -/
theorem wipe_of {τ : L2.St} : ∀ vs : List Nat, (∀ i ∈ vs, ∀ x, τ[i]? = some x → x = none) → wipe τ vs = τ
  | [], _ => rfl
  | v :: r, h => by
    show (wipe τ r).set v none = τ
    rw [wipe_of r fun i hi x hx => h i (List.mem_cons_of_mem _ hi) x hx]
    apply List.ext_getElem?
    intro j
    by_cases hj : v = j
    · subst hj
      rw [List.getElem?_set]
      cases hx : τ[v]? with
      | none =>
        have := List.getElem?_eq_none_iff.mp hx
        rw [if_pos rfl, if_neg (by omega)]
      | some x =>
        have := (List.getElem?_eq_some_iff.mp hx).1
        rw [if_pos rfl, if_pos this, h v List.mem_cons_self x hx]
    · rw [List.getElem?_set_ne hj]
theorem wipe_wipe (σ : L2.St) (vs : List Nat) : wipe (wipe σ vs) vs = wipe σ vs := wipe_of vs fun i hi x hx => by
  cases x with
  | none => rfl
  | some v => exact absurd hi (wipe_some hx).2
/-- the scope of the generator expression -/
structure GxS (scope : Scope) : Prop where
  co : scope.isCoroutine = false
  cell : ∀ y ∈ scope.names, y.2 ≠ NameKind.cell
  dot : scope.names.lookup (".0" : Str) = some NameKind.local
def gxsB (scope : Scope) : Bool := !scope.isCoroutine && (scope.names.all fun y => y.2 != NameKind.cell) && scope.names.lookup (".0" : Str) == some NameKind.local
theorem gxs_by {scope : Scope} (h : gxsB scope = true) : GxS scope := by
  unfold gxsB at h
  simp only [Bool.and_eq_true, List.all_eq_true, beq_iff_eq, Bool.not_eq_true', bne_iff_ne] at h
  exact ⟨h.1.1, h.1.2, h.2⟩
theorem room_gx {k : Nat} {A : Around} (r : Room (k + 1) A) (env : Env) : Room k (A.in1.in1.deeper env) :=
  ⟨r.hd, by have := r.dp; show A.depth + 1 + 3 * k + 5 < _; omega, by have := r.un; show A.units + 1 + 1 + 3 + 16 * k + 200 < _; omega⟩
section
variable {X : Cx} {c P : Addr} {elt tg iter : Expr} {ifs : List Expr} {scope : Scope} {own : List (Str × Nat)} {gpos : Pos} {stp : Bool} {wi : TI} {gt : TG} {tt : TT} {te : TE} {k : Nat}
theorem gx_eval {pins : List (Addr × Obj)} {σ : L2.St} {H : Hp} {s : Shared} {Q : VK} {Q' : Value → Shared → Prop} (hr : Room k X.A) (hc : X.calm = true) (hN : X.N.Nodup) (TB : TabB X.base X.mg c P) (hcode : X.env.code = .ref c) (ok : BlkOk X.N X.env.scope scope own) (S : GxS scope) (hi : PI X tg iter wi)
    (hg : ∀ (s : Shared) (H : Hp) (C : Addr) (cd : Value) (fp : List Addr) (pn : List (Addr × Obj)), PG (gx X X.A.in1.in1 s H (gEnv scope X C cd) fp pn) tg gt)
    (ht : ∀ (s : Shared) (H : Hp) (C : Addr) (cd : Value) (fp : List Addr) (pn : List (Addr × Obj)), PTs (gx X X.A.in1.in1 s H (gEnv scope X C cd) fp pn) ifs tt)
    (he : ∀ (s : Shared) (H : Hp) (C : Addr) (cd : Value) (fp : List Addr) (pn : List (Addr × Obj)), PE (gx X X.A.in1.in1 s H (gEnv scope X C cd) fp pn) elt te)
    (hs : ∀ v, genFold iter X.env v = pure v) (I : Inv X pins σ H s) (h : tGx P stp wi gt tt te (own.map (·.2)) σ H Q)
    (hQ : ∀ (XG : Cx) (a : Addr) (g : Nat) (go : Obj) (fp : List Addr) (tn : Nat → Heap → Prop) (σw : L2.St) (W : Nat → Nat → Hp → Prop) (n : Nat) (s5 : Shared), XG.prog = X.prog → XG.w = X.w → XG.pn = [(a, go)] → GenO go g → (∀ H' s', Inv XG [] σw H' s' → Inv X pins σ H' s') →
      Held XG X.A.in1.in1 fp tn σw g stp Q W n s5 → Q' (.ref a) s5) :
    wpAny (model X.prog X.w) X.A (eval (.GeneratorExp elt [⟨tg, iter, ifs, 0⟩] scope gpos) X.env) Q' X.xe s := by
  have hfree : ∀ y ∈ scope.names, y.2 = .free → ∃ c, X.env.cells.lookup y.1 = some c := by
    intro y hy e
    rcases ok.free y hy e with z | z
    · exact I.ok.has _ (.inl z)
    · exact I.ok.has _ (.inr z)
  refine wpAny_GeneratorExp_make S.co (closure_ok hfree) S.cell S.dot ok.kind (by have := hr.dp; omega) ?_ hs
  refine thn (hi.run pins s σ H _ I h) fun xv s1 hx => thn hx fun itv s2 h2 => ?_
  obtain ⟨it, fp, tn, J, H1, e, I2, T, st2, f2, ⟨ps, hP, htr⟩, q⟩ := h2
  subst e
  have hPs : s2.heap.get? P = some { cls := .none, data := .fields ps } := I2.hok P _ hP
  have cd0 : PySem.W.CodeHd s2.heap c P := TB.code.keeps I2.bk
  refine ⟨I2.nolimit, ?_⟩
  have nP : ∀ b ∈ fp, b ≠ P := by
    intro b hb e
    have z := (f2 b hb).1
    rw [e, hP] at z
    cases z
  have cont : ∀ (code : Value) (H2 : Hp) (s3 : Shared), Tabbed P H1 H2 → Inv X pins σ H2 s3 → (∀ b o, b ≠ P → s2.heap.get? b = some o → s3.heap.get? b = some o) →
      wpAny (model X.prog X.w) X.A (builtinsFor X.env.globals X.env.builtins) (fun bi s₄ =>
        ∀ h', h'.Ns s₄.heap.objs.size (fun y => if y = ".0" then some (.ref it) else none) → Heap.SameBut s₄.heap.objs.size (s₄.heap.push { cls := .type "frame", data := .dict #[] }) h' →
          Q' (.ref h'.objs.size) { s₄ with
            gens := s₄.gens.push (.fresh (.compStart (.GeneratorExp elt [⟨tg, iter, ifs, 0⟩] scope gpos) 0 (.ref it) .none (genEnv scope (cloFrom X.env.cells scope.names []) s₄.heap.objs.size code bi X.env))),
            toks := s₄.toks + 1 + 1 + 1,
            heap := h'.push { cls := .type "generator", data := .fields #[.int s₄.gens.size 0, .str "<genexpr>" (s₄.toks + 1), .str (X.env.qual ++ "<genexpr>") (s₄.toks + 1 + 1)] } }) X.xe s3 := by
    intro code H2 s3 hT I3 k3
    obtain ⟨bm, ob, e1, e2, e3, e4, e5, e6, e7, e8⟩ := TB.bm
    refine wpAny_builtinsFor (m := X.mg) (by rw [I3.ok.glob]; exact I3.mod.glob.keeps I3.bk) e1 e2 (I3.bk _ _ e5) e6 e7 e8 ?_
    intro h' hns hsb
    obtain ⟨W, ⟨m0, w0⟩, turn⟩ := q H2 hT
    have sz : h'.objs.size = s3.heap.objs.size + 1 := by rw [hsb.1, Heap.size_push]
    generalize hgo : ({ cls := .type "generator", data := .fields #[.int s3.gens.size 0, .str "<genexpr>" (s3.toks + 1), .str (X.env.qual ++ "<genexpr>") (s3.toks + 1 + 1)] } : Obj) = go
    have hgoO : GenO go s3.gens.size := by
      subst hgo
      exact ⟨_, _, rfl, rfl, rfl⟩
    have hcl : ∀ v, go.data ≠ .cell v := by
      subst hgo
      intro v z
      cases z
    have pushed : (h'.push go).get? h'.objs.size = some go := by
      subst hgo
      exact Heap.get?_push_size _ rfl
    have keep3 : ∀ b o, s3.heap.get? b = some o → (h'.push go).get? b = some o := by
      intro b o e
      exact Heap.get?_push_of_some _ (hsb.extBut b o (Nat.ne_of_lt (Heap.lt_size e)) (Heap.get?_push_of_some _ e))
    have st3 : tn 0 s3.heap := T.keep _ _ _ st2 fun b hb o e => k3 b o (nP b hb) e
    have f3 : ∀ b ∈ fp, FpOk X pins H2 b ∧ b < s3.heap.objs.size := by
      intro b hb
      obtain ⟨o, e, _⟩ := T.obj _ _ st3 b hb
      refine ⟨⟨?_, (f2 b hb).2⟩, Heap.lt_size e⟩
      rw [hT.2 b (nP b hb)]
      exact (f2 b hb).1
    have gz : ∀ (s : Shared) (x : GenState), s.gens.size < (s.gens.push x).size := fun s x => by rw [Array.size_push]; exact Nat.lt_succ_self _
    have IG := gx_start (Ag := X.A.in1.in1) (code := code) (a := h'.objs.size) (go := go) (h5 := h'.push go) (t5 := s3.toks + 1 + 1 + 1)
      (g5 := s3.gens.push (.fresh (.compStart (.GeneratorExp elt [⟨tg, iter, ifs, 0⟩] scope gpos) 0 (.ref it) .none (gEnv scope X s3.heap.objs.size code))))
      I3 ok S.cell hN rfl rfl f3 keep3 (hns.push _) (I3.bare.push rfl) pushed (by omega) hcl
    have pg := hg s3 H2 s3.heap.objs.size code fp [(h'.objs.size, go)]
    have pt := ht s3 H2 s3.heap.objs.size code fp [(h'.objs.size, go)]
    have pe := he s3 H2 s3.heap.objs.size code fp [(h'.objs.size, go)]
    have back : ∀ H' s', Inv (gx X X.A.in1.in1 s3 H2 (gEnv scope X s3.heap.objs.size code) fp [(h'.objs.size, go)]) [] (wipe σ (own.map (·.2))) H' s' → Inv X pins σ H' s' := by
      intro H' s' J'
      exact I3.call' (ch := fp) J'.os J'.base J'.hok J'.bare fun b hb => ⟨(f3 b hb).1.2.2.2.1, (f3 b hb).1.2.1, (f3 b hb).1.2.2.2.2.1, (f3 b hb).1.2.2.2.2.2⟩
    have n5 : ∀ b ∈ fp, H2 b = none := fun b hb => (f3 b hb).1.1
    have st5 : ∀ h'' : Heap, (∀ b o, s3.heap.get? b = some o → h''.get? b = some o) → tn 0 h'' := fun h'' kk => T.keep _ _ _ st3 fun b _ o e => kk b o e
    have wipe2 := wipe_wipe σ (own.map (·.2))
    have pnx : ∀ b ∈ fp, ∀ p ∈ [(h'.objs.size, go)], p.1 ≠ b := by
      intro b hb p hp e
      have hp : p = (h'.objs.size, go) := by simpa using hp
      have hlt := (f3 b hb).2
      rw [← e, hp] at hlt
      have hlt : h'.objs.size < s3.heap.objs.size := hlt
      omega
    refine hQ (gx X X.A.in1.in1 s3 H2 (gEnv scope X s3.heap.objs.size code) fp [(h'.objs.size, go)]) h'.objs.size s3.gens.size go fp tn (wipe σ (own.map (·.2))) W (m0 + 1) _ rfl rfl rfl hgoO back ⟨⟨H2, IG⟩, _, Array.getElem?_push_size .., IG.bare, fun s'' hl => ⟨rfl, ?_⟩⟩
    have hst'' : tn 0 s''.heap := by
      rw [hl.heap]
      exact st5 _ keep3
    have hg'' : s3.gens.size < s''.gens.size := Nat.lt_of_lt_of_le (gz s3 _) hl.gsz
    have loop := seg_gx (X := gx X X.A.in1.in1 s3 H2 (gEnv scope X s3.heap.objs.size code) fp [(h'.objs.size, go)]) (Ag := X.A.in1.in1) (iter := iter) (scope := scope) (pos := gpos) (σw := wipe σ (own.map (·.2))) (g := s3.gens.size) (stp := stp) (Q := Q) (vs := own.map (·.2))
      rfl hc trivial S.co rfl rfl pnx wipe2 T pg pt pe turn m0 (m0 + 1) 0 s'' s'' H2 (Nat.lt_succ_self _) w0 (like_inv IG hl) hst'' n5 hg''
    exact seg_gx0 (X := gx X X.A.in1.in1 s3 H2 (gEnv scope X s3.heap.objs.size code) fp [(h'.objs.size, go)]) (Ag := X.A.in1.in1) rfl T hst'' loop
  cases hf : codeAmong gpos ps.toList with
  | none =>
    refine wpAny_genexprCodeX hcode (cd0.code hPs htr) (cd0.tab hPs) hf fun c' h' tk hx hge hlt hco' _ htab' _ => ?_
    obtain ⟨o1, vs1, f1, tf, fl, tg1, inF, tx, tt1, op, _, _, _, _, _, _, _, _, _, htr', _⟩ := hco'
    have J := inv_tab (more := #[rawInt gpos.line, rawInt gpos.col, .ref c']) (h' := h') (g' := s2.gens) (d' := s2.drawn) (t' := tk) I2 hP (fun b u hb e => hx b u hb e) htab'.2 I2.bare
    exact cont _ _ _ ⟨⟨_, upd_same, htr'⟩, fun b hb => upd_ne hb⟩ J fun b o hb e => hx b o hb e
  | some cv =>
    refine wpAny_genexprCode_hit hcode (cd0.code hPs htr) hf ?_
    exact cont cv H1 s2 ⟨⟨ps, hP, htr⟩, fun _ _ => rfl⟩ I2 fun _ _ _ e => e
variable {p pos : Pos}
theorem pe_any (hr : Room k X.A) (hc : X.calm = true) (hN : X.N.Nodup) (hgl : Gl X "any") (hm : X.mg "any" = none) (TB : TabB X.base X.mg c P) (hcode : X.env.code = .ref c) (ok : BlkOk X.N X.env.scope scope own) (S : GxS scope) (hi : PI X tg iter wi)
    (hg : ∀ (s : Shared) (H : Hp) (C : Addr) (cd : Value) (fp : List Addr) (pn : List (Addr × Obj)), PG (gx X X.A.in1.in1 s H (gEnv scope X C cd) fp pn) tg gt)
    (ht : ∀ (s : Shared) (H : Hp) (C : Addr) (cd : Value) (fp : List Addr) (pn : List (Addr × Obj)), PTs (gx X X.A.in1.in1 s H (gEnv scope X C cd) fp pn) ifs tt)
    (he : ∀ (s : Shared) (H : Hp) (C : Addr) (cd : Value) (fp : List Addr) (pn : List (Addr × Obj)), PE (gx X X.A.in1.in1 s H (gEnv scope X C cd) fp pn) elt te)
    (hs : ∀ v, genFold iter X.env v = pure v := by intro _; rfl)
    (hst : starEach [.GeneratorExp elt [⟨tg, iter, ifs, 0⟩] scope gpos] X.env = (false, eval (.GeneratorExp elt [⟨tg, iter, ifs, 0⟩] scope gpos) X.env) :: starEach [] X.env := by rfl) :
    PE X (.Call (.Name "any" p) [.GeneratorExp elt [⟨tg, iter, ifs, 0⟩] scope gpos] [] pos) (tGx P true wi gt tt te (own.map (·.2))) := by
  refine ⟨fun pins s σ H Q I h => ?_⟩
  refine wpAny_Call_Name_kw (ld_blt I hgl hm boot_any ?_)
  refine PyProof.Rows.callWith_builtin1 ?_ hst (by rfl)
  rw [hst]
  show wpAny _ _ (spliced ((false, eval (.GeneratorExp elt [⟨tg, iter, ifs, 0⟩] scope gpos) X.env) :: backTo pos (starEach [] X.env))) _ _ s
  refine Calls.spliced_cons (gx_eval (Q := Q) (stp := true) hr hc hN TB hcode ok S hi hg ht he hs I h fun XG a g go fp tn σw W n s5 hp hw hpn hgo back hheld => ?_)
  refine Calls.spliced_nil ?_
  have hheld0 := hheld
  obtain ⟨⟨H0, I0⟩, _⟩ := hheld0
  have hig : s5.heap.IsGen a g := by
    obtain ⟨nm, qn, h1, h2, h3⟩ := hgo
    exact ⟨go, nm, qn, (I0.pin (a, go) (List.mem_append_left _ (by rw [hpn]; exact List.mem_cons_self))).1, h1, h2, h3⟩
  refine call_function_tree F.kind_any F.plain_any F.entry_any (F.args_any1 _) ?_
  unfold Builtin.«any»
  refine wpAny_bind (m := oneArg "any" _) (wpAny_pure ?_)
  refine wpAny_bind (wpAny_pyIter_gen hig ?_)
  refine wpAny_pure ⟨plainId_quiet F.plain_any_loop _, ?_⟩
  rw [← hp, ← hw] at *
  refine loop_any (Held XG X.A.in1.in1 fp tn σw g true Q W) (held_turn rfl hr.hd (by have := hr.dp; omega) hpn hgo fun b H' s' J' qq h' hk => ?_) n s5 hheld
  exact ⟨.bl b, H', (back H' s' J').kept (t' := s'.toks) hk, rfl, qq⟩
theorem pe_all (hr : Room k X.A) (hc : X.calm = true) (hN : X.N.Nodup) (hgl : Gl X "all") (hm : X.mg "all" = none) (TB : TabB X.base X.mg c P) (hcode : X.env.code = .ref c) (ok : BlkOk X.N X.env.scope scope own) (S : GxS scope) (hi : PI X tg iter wi)
    (hg : ∀ (s : Shared) (H : Hp) (C : Addr) (cd : Value) (fp : List Addr) (pn : List (Addr × Obj)), PG (gx X X.A.in1.in1 s H (gEnv scope X C cd) fp pn) tg gt)
    (ht : ∀ (s : Shared) (H : Hp) (C : Addr) (cd : Value) (fp : List Addr) (pn : List (Addr × Obj)), PTs (gx X X.A.in1.in1 s H (gEnv scope X C cd) fp pn) ifs tt)
    (he : ∀ (s : Shared) (H : Hp) (C : Addr) (cd : Value) (fp : List Addr) (pn : List (Addr × Obj)), PE (gx X X.A.in1.in1 s H (gEnv scope X C cd) fp pn) elt te)
    (hs : ∀ v, genFold iter X.env v = pure v := by intro _; rfl) (hb : bootBuiltins "all" = some (.builtin "all") := by first | rfl | decide +kernel)
    (hst : starEach [.GeneratorExp elt [⟨tg, iter, ifs, 0⟩] scope gpos] X.env = (false, eval (.GeneratorExp elt [⟨tg, iter, ifs, 0⟩] scope gpos) X.env) :: starEach [] X.env := by rfl) :
    PE X (.Call (.Name "all" p) [.GeneratorExp elt [⟨tg, iter, ifs, 0⟩] scope gpos] [] pos) (tGx P false wi gt tt te (own.map (·.2))) := by
  refine ⟨fun pins s σ H Q I h => ?_⟩
  refine wpAny_Call_Name_kw (ld_blt I hgl hm hb ?_)
  refine PyProof.Rows.callWith_builtin1 ?_ hst (by rfl)
  rw [hst]
  show wpAny _ _ (spliced ((false, eval (.GeneratorExp elt [⟨tg, iter, ifs, 0⟩] scope gpos) X.env) :: backTo pos (starEach [] X.env))) _ _ s
  refine Calls.spliced_cons (gx_eval (Q := Q) (stp := false) hr hc hN TB hcode ok S hi hg ht he hs I h fun XG a g go fp tn σw W n s5 hp hw hpn hgo back hheld => ?_)
  refine Calls.spliced_nil ?_
  have hheld0 := hheld
  obtain ⟨⟨H0, I0⟩, _⟩ := hheld0
  have hig : s5.heap.IsGen a g := by
    obtain ⟨nm, qn, h1, h2, h3⟩ := hgo
    exact ⟨go, nm, qn, (I0.pin (a, go) (List.mem_append_left _ (by rw [hpn]; exact List.mem_cons_self))).1, h1, h2, h3⟩
  refine call_function_tree F.kind_all F.plain_all F.entry_all (F.args_all1 _) ?_
  unfold Builtin.«all»
  refine wpAny_bind (m := oneArg "all" _) (wpAny_pure ?_)
  refine wpAny_bind (wpAny_pyIter_gen hig ?_)
  refine wpAny_pure ⟨plainId_quiet F.plain_all_loop _, ?_⟩
  rw [← hp, ← hw] at *
  refine loop_all (Held XG X.A.in1.in1 fp tn σw g false Q W) (held_turn rfl hr.hd (by have := hr.dp; omega) hpn hgo fun b H' s' J' qq h' hk => ?_) n s5 hheld
  exact ⟨.bl b, H', (back H' s' J').kept (t' := s'.toks) hk, rfl, qq⟩
end
end Gx
end
section
set_option maxHeartbeats 4000000
/-! sorted(list, key=f), f a def of one's own whose answers are data, lists among them. -/
namespace Skx
open PySem PySem.Spec PyProof.Rows L2 Srx Gr
open PySem.W (dataLe alike AllAlike EachIs KeepsBut dataKind SortsAt sortVals KeyedOut)

section
variable {X : Cx} {k : Nat} {f : Addr} {fd : FuncData} {ps : List Str} {sp : Sp} {γ : Type} {enc : γ → PyData}
/-- what the key's call must give, wherever it stands -/
def KeyOf (K : PySem.W.Frag) (sp : Sp) (enc : γ → PyData) (b : V × γ) (H : Hp) : Prop := ∀ H1, Gr H H1 → ∀ Q : VK, (∀ v H2, Gr H1 H2 → Dp K H2 v (enc b.2) → Q v H2) → sp [b.1] H1 Q E0
def rSortedKey (K : PySem.W.Frag) (f : Addr) (sp : Sp) (enc : γ → PyData) : List V → List V → Hp → VK → Prop := fun vs zs H Q => ∃ (a : Addr) (bs : List (V × γ)), vs = [V.ref a] ∧ zs = [V.ref f] ∧ SqL K H a (bs.map (·.1)) ∧ (∀ b ∈ bs, KeyOf K sp enc b H) ∧
  ∀ H1 p, Gr H H1 → H1 p = none → Q (.ref p) (upd H1 p (.lst ((bs.mergeSort (dataLe false fun b => enc b.2)).map (·.1))))
theorem paired_each {K : PySem.W.Frag} {pins : List (Addr × Obj)} {σ : L2.St} {H : Hp} {s : Shared} (I : Inv X pins σ H s) (hK : X.K = K) : ∀ {kvs : List V} {us : List Value} {ds : List PyData}, Vals kvs us → Paired (fun v d => Dp K H v d) kvs ds → EachIs (fun u d => ∃ as, PySem.Reads s.heap u d as) us ds
  | _, _, _, .nil, .nil => .nil
  | _, _, _, .cons r t, .cons h t2 => by
    subst hK
    exact .cons (Dp.reads I _ _ _ h r) (paired_each I rfl t t2)
theorem paired_snoc {α β : Type} {R : α → β → Prop} : ∀ {as : List α} {bs : List β} {a : α} {b : β}, Paired R as bs → R a b → Paired R (as ++ [a]) (bs ++ [b])
  | _, _, _, _, .nil, h => .cons h .nil
  | _, _, _, _, .cons r t, h => .cons r (paired_snoc t h)
theorem paired_imp {α β : Type} {R S : α → β → Prop} (f : ∀ a b, R a b → S a b) : ∀ {as : List α} {bs : List β}, Paired R as bs → Paired S as bs
  | _, _, .nil => .nil
  | _, _, .cons r t => .cons (f _ _ r) (paired_imp f t)

set_option maxHeartbeats 8000000 in
theorem cr_sortedKey (o : Ord enc) (F : FnOk X.prog X.w X.K X.mg X.base CX0 k f fd ps sp) (hb : Binds X.K fd ps []) (hr : Room (k + 2) X.A) : CallRK X (.builtin "sorted") [Str.ofString "key"] (rSortedKey X.K f sp enc) := by
  intro pins s σ H vs zs us ws Q I r rz h
  obtain ⟨l, bs, rfl, rfl, hs, hkey, q⟩ := h
  obtain rfl := Vals.ref1 r
  obtain rfl := Vals.ref1 rz
  obtain ⟨its, rv, hl, hz⟩ := I.list hs
  have hbz : bs.length ≤ sizeLine := by simpa using hz
  have e0 := each_vals rv
  have hil : its.length = bs.length := by rw [← rv.length, List.length_map]
  have hr2 : Room k X.A.in1.in1 := (show Room (k + 1) X.A.in1 from Room.in1 hr).in1
  show wpAny _ _ (call (.builtin "sorted") [.ref l] [(Str.ofString "key", .ref f)]) _ _ _
  refine PySem.W.sorted_of_sort hl.isList (by rw [hil]; exact hbz) (PyProof.Rows.ksk_s1 _ _) (fun _ => PyProof.Rows.ksk_l1 _ _) fun E' => ?_
  rw [PyProof.Rows.ksk_t1]
  -- the copy at L, the tuple, the keys' list at kS
  generalize hL : s.heap.objs.size + 1 = L
  have hLat : (PySem.W.copyHeap s.heap its).get? L = some (seqObj "list" its.toArray 0) := by
    rw [← hL]; exact PySem.W.copyHeap_at s.heap its
  obtain ⟨e1, hL1⟩ : ∃ e1, ((PySem.W.copyHeap s.heap its).update L (Obj.mapSeq fun _ => (#[] : Array Value))).get? L = some (seqObj "list" #[] e1) := ⟨_, get?_update_seq hLat fun _ => #[]⟩
  unfold PyProof.Rows.ksk_tree
  refine wpAny_bind (listItems_at hLat rfl ?_)
  refine wpAny_bind (listUpdate_at hLat rfl ?_ (by rw [List.size_toArray, hil]; exact hbz) (Nat.zero_le _))
  refine wpAny_bind (seqEpoch_at hL1 rfl ?_)
  refine wpAny_bind (wpAny_newTuple ?_ (by show its.length ≤ _; rw [hil]; exact hbz))
  refine wpAny_bind (wpAny_newList ?_ (Nat.zero_le _))
  refine wpAny_holding ?_
  generalize hkS : (((PySem.W.copyHeap s.heap its).update L (Obj.mapSeq fun _ => (#[] : Array Value))).push (seqObj "tuple" its.toArray 0)).objs.size = kS
  generalize hg : ((((PySem.W.copyHeap s.heap its).update L (Obj.mapSeq fun _ => (#[] : Array Value))).push (seqObj "tuple" its.toArray 0)).push (seqObj "list" #[] 0)) = g0
  have keep0 : ∀ b u, s.heap.get? b = some u → g0.get? b = some u := by
    intro b u e
    have lt := Heap.lt_size e
    rw [← hg]
    exact PySem.W.sortingHeap_old (by rw [← hL]; exact Nat.ne_of_lt (Nat.lt_succ_of_lt lt)) (PySem.W.copyHeap_old e)
  have hLlt : L < ((PySem.W.copyHeap s.heap its).update L (Obj.mapSeq fun _ => (#[] : Array Value))).objs.size := Heap.lt_size hL1
  have hkL : kS ≠ L := by
    rw [← hkS, size_push']
    exact Nat.ne_of_gt (Nat.lt_succ_of_lt hLlt)
  have hkz : s.heap.objs.size ≤ kS := by
    rw [← hkS, size_push']
    have : s.heap.objs.size < L := by rw [← hL]; exact Nat.lt_succ_self _
    exact Nat.le_succ_of_le (Nat.le_of_lt (Nat.lt_trans this hLlt))
  have hLz : s.heap.objs.size ≤ L := by rw [← hL]; exact Nat.le_succ _
  have gL : g0.get? L = some (seqObj "list" #[] e1) := by
    rw [← hg]; exact Heap.get?_push_of_some _ (Heap.get?_push_of_some _ hL1)
  have gk : g0.get? kS = some (seqObj "list" #[] 0) := by
    rw [← hg, ← hkS]; exact Heap.get?_push_size _ rfl
  have nk : H kS = none := I.hok.fresh hkz
  have nL : H L = none := I.hok.fresh hLz
  have fk := I.fpOk hkz nk
  have fL := I.fpOk hLz nL
  have I0 : Inv X pins σ H { s with heap := g0 } := I.kept (t' := s.toks) keep0
  have ncell : ∀ (kA : Array Value) (e : Nat) (v : Option Value), (seqObj "list" kA e).data ≠ .cell v := fun kA e v z => nomatch z
  -- the state behind i keys
  have pinned : ∀ {H' : Hp} {s' : Shared} {kA : Array Value} {e : Nat}, Inv X pins σ H' s' → H' kS = none → H' L = none → s'.heap.get? kS = some (seqObj "list" kA e) → s'.heap.get? L = some (seqObj "list" #[] e1) →
      Inv X (pins ++ [(kS, seqObj "list" kA e), (L, seqObj "list" #[] e1)]) σ H' s' := by
    intro H' s' kA e I' n1 n2 g1 g2
    refine I'.pins_of fun p hp => ?_
    rcases List.mem_append.mp hp with hp | hp
    · exact I'.pin p (List.mem_append_right _ hp)
    · rcases List.mem_cons.mp hp with z | hp
      · rw [z]; exact ⟨g1, n1, fk.2.1, fk.2.2.1, ncell _ _⟩
      · have z : p = (L, seqObj "list" #[] e1) := by simpa using hp
        rw [z]; exact ⟨g2, n2, fL.2.1, fL.2.2.1, ncell _ _⟩
  show wpAny _ _ (PyProof.Rows.ksk_rest L (.ref f) false its.toArray e1 (.ref kS)) _ _ { s with heap := g0 }
  unfold PyProof.Rows.ksk_rest
  refine wpAny_bind (wpAny_rule ?_)
  first
    | rw [List.forIn_toArray]
    | (rw [← Array.forIn_toList]; simp only [List.toList_toArray])
    | rw [← Array.forIn_toList]
  refine wpAny_bind (PyProof.Rows.ksk_fold (fun i s' => ∃ (H' : Hp) (kA : Array Value) (e : Nat) (kvs : List V), Inv X pins σ H' s' ∧ Gr H H' ∧ H' kS = none ∧ H' L = none ∧ s'.heap.get? kS = some (seqObj "list" kA e) ∧ s'.heap.get? L = some (seqObj "list" #[] e1) ∧
      Vals kvs kA.toList ∧ Paired (fun v d => Dp X.K H' v d) kvs ((bs.take i).map fun b => enc b.2)) its 0 _
    ⟨H, #[], 0, [], I0, Gr.refl H, nk, nL, gk, gL, .nil, by rw [List.take_zero]; exact .nil⟩ ?step ?done)
  case step =>
    rintro j x s' hx ⟨H', kA, e, kvs, I', gr, n1, n2, g1, g2, vk, pk⟩
    simp only [Nat.zero_add] at pk ⊢
    have hj : j < its.length := (List.getElem?_eq_some_iff.mp hx).1
    have hjb : j < bs.length := by omega
    have hbj : bs[j]? = some bs[j] := List.getElem?_eq_getElem hjb
    obtain ⟨u, hu, ru⟩ := rv.get (i := j) (x := bs[j].1) (by rw [List.getElem?_map, hbj]; rfl)
    rw [hx] at hu
    cases hu
    have J := pinned I' n1 n2 g1 g2
    have hsp : sp [bs[j].1] H' (fun v H2 => Gr H' H2 ∧ Dp X.K H2 v (enc bs[j].2)) E0 := hkey _ (List.getElem_mem hjb) H' gr _ fun v H2 h1 h2 => ⟨h1, h2⟩
    have hlen : (([x] : List Value) ++ []).length = ps.length := F.len _ _ _ _ hsp
    refine wpAny_bind (wpAny_attempt (wpAny_call (codeAny_mono (F.run X.A.in1.in1 X.stack s' H' ⟨[x], []⟩ ([x] ++ []) [bs[j].1] _ E0 hr2 J.env0.in1.in1 (hb s' [x] J.kIn hlen) (.cons ru .nil) hsp) fun rr s'' hq => ?_)))
    cases rr with
    | error er => exact hq.elim
    | ok fl =>
      cases fl with
      | next => exact False.elim hq
      | brk => exact False.elim hq
      | cont => exact False.elim hq
      | ret u =>
        obtain ⟨v, H2, J2, rv2, gr2, dp2⟩ := J.after hq
        have pk1 := J2.pin (kS, seqObj "list" kA e) (List.mem_append_right _ (List.mem_append_right _ List.mem_cons_self))
        have pL1 := J2.pin (L, seqObj "list" #[] e1) (List.mem_append_right _ (List.mem_append_right _ (List.mem_cons_of_mem _ List.mem_cons_self)))
        have I2 : Inv X pins σ H2 s'' := J2.unpinned
        have hkAz : kA.size ≤ bs.length := by
          have h1 : kvs.length = kA.toList.length := Paired.length vk
          have h2 : kvs.length = ((bs.take j).map fun b => enc b.2).length := Paired.length pk
          have h3 : ((bs.take j).map fun b => enc b.2).length ≤ bs.length := by
            rw [List.length_map, List.length_take]
            exact Nat.min_le_right _ _
          have h4 : kA.toList.length = kA.size := Array.length_toList
          rw [← h4, ← h1, h2]
          exact h3
        have sb := Heap.SameBut.update s''.heap kS (Obj.mapSeq (·.push u))
        obtain ⟨c2, hc2⟩ : ∃ c2, (s''.heap.update kS (Obj.mapSeq (·.push u))).get? kS = some (seqObj "list" (kA.push u) c2) := ⟨_, get?_update_seq pk1.1 (·.push u)⟩
        refine wpAny_bind (listUpdate_at pk1.1 rfl ?_ (Nat.le_trans hkAz hbz) (Nat.le_trans (Nat.le_of_eq (Array.size_push ..)) (Nat.succ_le_succ (Nat.le_trans hkAz hbz))))
        have I3 : Inv X pins σ H2 { s'' with heap := s''.heap.update kS (Obj.mapSeq (·.push u)) } := I2.turned (t' := s''.toks) (fun b o hb e => (sb.2 b hb).trans e) pk1.2.1 fk.2.1 fk.2.2.2.1 fk.2.2.2.2.1 fk.2.2.2.2.2
        refine wpAny_pure ⟨rfl, H2, kA.push u, c2, kvs ++ [v], I3, gr.trans gr2, pk1.2.1, pL1.2.1, hc2, (sb.2 L hkL.symm).trans pL1.1, ?_, ?_⟩
        · rw [Array.toList_push]
          exact vk.append (.cons rv2 .nil)
        · rw [List.take_add_one, hbj, Option.toList_some, List.map_append]
          exact paired_snoc (paired_imp (fun v d h => gr2.dp h) pk) dp2
  case done =>
    rintro s' ⟨H', kA, e, kvs, I', gr, n1, n2, g1, g2, vk, pk⟩
    rw [Nat.zero_add, hil, List.take_length] at pk
    have ek : EachIs (fun u d => ∃ as, PySem.Reads s'.heap u d as) kA.toList (bs.map fun b => enc b.2) := paired_each I' rfl vk pk
    have hsz : kA.size = its.length := by
      have h1 := ek.length
      rw [Array.length_toList, List.length_map] at h1
      omega
    have hal : AllAlike (bs.map fun b => enc b.2) := PySem.W.AllAlike.of fun x y => o.alike _ _
    refine wpAny_bind (listItems_at g1 rfl ?_)
    refine PySem.W.keyH_end (κ := dataKind s'.heap (bs.map fun b => enc b.2)) (h₁ := PySem.W.hideAll s'.heap [kS]) (vs := its) (fun b o _ e => PySem.W.of_hideAll [kS] e) (PySem.W.hideAll_none [kS] List.mem_cons_self) g1 g2 hkL
      (SortsAt.data (s := s') ek hal ((o.comap Prod.snd).sortable bs) (fun d hd => by
        obtain ⟨b, _, rfl⟩ := List.mem_map.mp hd
        have h1 := o.depth b.2
        have h2 := hr.un
        show X.A.units + 1 + 1 + _ < _
        omega)) hsz (by rw [hil]; exact hbz) fun h' tk c kp hat => ⟨rfl, ?_⟩
    have ko : KeyedOut false (bs.map fun b => enc b.2) its (sortVals (dataKind s'.heap (bs.map fun b => enc b.2)) false kA.toList its) := ⟨s'.heap, kA.toList, hal, rfl, ek⟩
    have hout := PySem.W.keyedOut_each (fun b : V × γ => enc b.2) ko e0
    have keepB : ∀ b u, b ≠ L → b ≠ kS → s'.heap.get? b = some u → h'.get? b = some u := by
      intro b u h1 h2 e
      exact kp b u h1 (PySem.W.hideAll_get [kS] e (by simpa using h2))
    have nT : ∀ b u, H' b = some u → b ≠ L ∧ b ≠ kS := by
      intro b u e
      exact ⟨fun z => (by rw [z, n2] at e; cases e), fun z => (by rw [z, n1] at e; cases e)⟩
    have there : ∃ u, h'.get? kS = some u ∨ h'.get? kS = none := by
      cases z : h'.get? kS with
      | none => exact ⟨seqObj "list" #[] 0, .inr rfl⟩
      | some u => exact ⟨u, .inl rfl⟩
    have hylen : ((bs.mergeSort (dataLe false fun b => enc b.2)).map (·.1)).length ≤ sizeLine := by
      rw [List.length_map, List.length_mergeSort]; exact hbz
    refine ⟨.ref L, upd H' L (.lst ((bs.mergeSort (dataLe false fun b => enc b.2)).map (·.1))), ?_, rfl, q H' L gr n2⟩
    refine I'.step (g' := s'.gens) (t' := tk) (d' := s'.drawn) (ch := [kS, L]) (fun b hb => ?_) (fun b o h1 h2 hc e n => ?_) (fun b o h1 h2 hc e n => ?_) (fun b o hc e n => ?_) (fun b o hc e => ?_) (fun b xs e => ?_) (fun b o u e => ?_) (fun b qs e => ?_) (fun m hm => ?_) (fun b u e => ?_) I'.bare
    · rcases List.mem_cons.mp hb with z | hb
      · rw [z]; exact ⟨fk.2.2.2.1, fk.2.1, fk.2.2.2.2.1, fk.2.2.2.2.2⟩
      · have z : b = L := by simpa using hb
        rw [z]; exact ⟨fL.2.2.2.1, fL.2.1, fL.2.2.2.2.1, fL.2.2.2.2.2⟩
    · exact keepB b o (fun z => hc (by rw [z]; simp)) (fun z => hc (by rw [z]; simp)) e
    · exact ⟨o.slots, keepB b o (fun z => hc (by rw [z]; simp)) (fun z => hc (by rw [z]; simp)) e⟩
    · rw [upd_ne (fun z => hc (by rw [z]; simp))]; exact n
    · exact ⟨o, keepB b o (fun z => hc (by rw [z]; simp)) (fun z => hc (by rw [z]; simp)) e⟩
    · rw [upd_ne (nT b _ e).1]; exact e
    · rw [upd_ne (nT b _ e).1]; exact e
    · exact ⟨#[], by rw [upd_ne (nT b _ e).1, e]; simp⟩
    · obtain ⟨o', es, ep, ho, rr⟩ := hm
      exact ⟨o', es, ep, keepB _ o' (Ne.symm fL.2.1) (Ne.symm fk.2.1) ho, rr⟩
    · by_cases hbL : b = L
      · subst hbL
        rw [upd_same] at e
        cases e
        exact ⟨hylen, _, c, vals_each hout, hat⟩
      · rw [upd_ne hbL] at e
        refine (I'.hok b u e).stay (fun c' v hc' qq => ?_) (fun c' qq => by rw [upd_ne (nT c' _ qq).1]; exact qq) fun c' xs qq => by rw [upd_ne (nT c' _ qq).1]; exact qq
        rcases hc' with z | z
        · rw [z] at qq ⊢
          exact keepB b v (nT b _ e).1 (nT b _ e).2 qq
        · exact keepB c' v (nT c' _ z).1 (nT c' _ z).2 qq
end
end Skx
end
section
set_option maxHeartbeats 4000000
/-! {k: v for ..} whose keys are tuples of ints and texts. -/
namespace Dcx
open PySem PySem.Spec PyProof.Rows L2
theorem put_tup {X : Cx} {pins : List (Addr × Obj)} {σ : L2.St} {H : Hp} {s : Shared} {E : Value → Shared → Prop} {D b : Addr} {kvs : List (List Key × V)} {k : List Key} {v : V} {r : Value} {Q : Unit → Shared → Prop} (hu : X.A.units + 1 < cLine)
    (I : Inv X pins σ H s) (hD : H D = some (.dT kvs)) (hb : H b = some (.tup (k.map kV))) (hz : kvs.length < sizeLine) (rv : RelV v r) (h : ∀ s', Inv X pins σ (upd H D (.dT (putK kvs k v))) s' → Q () s') :
    wpAny (model X.prog X.w) X.A (dictSet D (.ref b) r) Q E s := by
  obtain ⟨z, hd, xs, rel, dd⟩ := dt_of I.hok hD
  have hxs : xs.length ≤ sizeLine := by
    rw [← Paired.length rel]; exact z
  have hl : (putK kvs k v).length ≤ sizeLine := by
    have := length_putK kvs k v
    omega
  refine wpAny_dictSet_heap (hsz := hxs) (show X.A.units < cLine by omega) (key_of I.hok hb) dd fun h' dd' sb => h _ ?_
  obtain ⟨q, es, ep, e1, e2, e3, e4, _, e5⟩ := dd'
  refine d_write I (by rw [hD]; exact True.intro) sb ⟨q, e1⟩ ⟨hl, hd, _, (rel.put k hb rv).keeps fun c ys ec => ?_, q, es, ep, e1, e2, e3, e4, e5⟩
  rw [upd_ne (ne_of ec hD fun z => nomatch z)]
  exact ec
section
variable {X : Cx}
/-- D: the new dict; a turn's key is a tuple at b -/
def tDt (wi : TI) (g : TG) (tt : TT) (tk tv : TE) (vs : List Nat) : TE := fun σ H Q => wi σ H fun J H1 => ∀ D, H1 D = none → ∃ W : Nat → Nat → Hp → Prop, (∃ m, W 0 m (upd H1 D (.dT []))) ∧ ∀ i m H, W i m H →
  (J.stop i H ∧ Q (.ref D) H) ∨ (J.go i H ∧ ∀ x H', J.yld i H x H' → g x (wipe σ vs) H' fun σ2 H2 => wipe σ2 vs = wipe σ vs ∧ tt σ2 H2 fun c H3 =>
    if c = true then tk σ2 H3 fun y H4 => tv σ2 H4 fun z H5 => ∃ kvs k b, y = .ref b ∧ H5 b = some (.tup (k.map kV)) ∧ H5 D = some (.dT kvs) ∧ kvs.length < sizeLine ∧ ∃ m', m' < m ∧ W (i + 1) m' (upd H5 D (.dT (putK kvs k z)))
    else ∃ m', m' < m ∧ W (i + 1) m' H3)
abbrev blkE (X : Cx) (scope : Scope) (s : Shared) : Env := compEnvC scope (cellsFrom (s.heap.objs.size + 1) scope.names (cloFrom X.env.cells scope.names [])) s.heap.objs.size X.env
theorem dt_core {pins : List (Addr × Obj)} {s : Shared} {σ : L2.St} {H : Hp} {Q : VK} {kx vx tg iter : Expr} {ifs : List Expr} {scope : Scope} {own : List (Str × Nat)} {pos pos' : Pos} {wi : TI} {g : TG} {tt : TT} {tk tv : TE} {use : Option (Value → Sem Unit)} {Qf : Value → Shared → Prop}
    (hu : X.A.units + 1 < cLine) (hc : X.calm = true) (hN : X.N.Nodup) (I : Inv X pins σ H s) (hi : PI X tg iter wi) (ok : BlkOk X.N X.env.scope scope own)
    (hg : ∀ (s : Shared) (H : Hp) (C : Addr) (cl : List (Str × Addr)) (fp : List Addr), PG (X.blk s H scope (compEnvC scope cl C X.env) fp) tg g)
    (ht : ∀ (s : Shared) (H : Hp) (C : Addr) (cl : List (Str × Addr)) (fp : List Addr), PTs (X.blk s H scope (compEnvC scope cl C X.env) fp) ifs tt)
    (hk : ∀ (s : Shared) (H : Hp) (C : Addr) (cl : List (Str × Addr)) (fp : List Addr), PE (X.blk s H scope (compEnvC scope cl C X.env) fp) kx tk)
    (he : ∀ (s : Shared) (H : Hp) (C : Addr) (cl : List (Str × Addr)) (fp : List Addr), PE (X.blk s H scope (compEnvC scope cl C X.env) fp) vx tv) (hs : ∀ x, foldedSetIterable iter X.env x = pure x)
    (h : tDt wi g tt tk tv (own.map (·.2)) σ H Q)
    (hRR : ∀ D C s' m H', Inv X pins σ H' s' → Q (.ref D) H' → s'.heap.Ns C m → FpOk X pins H' C → compPost (model X.prog X.w) X.A X.xe use Qf (.ref D) C (.ok .next) s') :
    wpAny (model X.prog X.w) X.A (comprehension (.DictComp kx vx [⟨tg, iter, ifs, 0⟩] scope pos) scope X.env pos' newDict false (eval iter X.env) use) Qf X.xe s := by
  have hfree : ∀ y ∈ scope.names, y.2 = .free → ∃ c, X.env.cells.lookup y.1 = some c := by
    intro y hy e
    rcases ok.free y hy e with z | z
    · exact I.ok.has _ (.inl z)
    · exact I.ok.has _ (.inr z)
  refine wpAny_comprehension_free (use := use) rfl hs (closure_ok hfree) ok.kind (fun y hy e => by rw [ok.uniq y hy, e]) (thn (hi.run pins s σ H _ I h) fun _ _ hx => thn hx fun itv s2 h2 => ?_)
  obtain ⟨it, fp, tn, J, H2, e, I2, T, st2, f2, q⟩ := h2
  subst e
  refine wpAny_newObj_type (newEnv_comp ?_)
  generalize hD : s2.heap.objs.size = D
  have nD : H2 D = none := I2.hok.fresh (Nat.le_of_eq hD)
  obtain ⟨W, ⟨m0, w0⟩, turn⟩ := q D nD
  generalize hs3 : ({ s2 with heap := s2.heap.push { cls := .type "dict", data := .dict #[] } } : Shared) = s3
  have h3 : s3.heap = s2.heap.push { cls := .type "dict", data := .dict #[] } := by subst hs3; rfl
  have I3 : Inv X pins σ (upd H2 D (.dT [])) s3 := by
    subst hs3 hD
    exact I2.laid (t' := s2.toks) (fun _ _ e => Heap.get?_push_of_some _ e) (Nat.le_refl _) (dt_empty s2.heap I2.big)
  have f3 : ∀ b ∈ fp, FpOk X pins (upd H2 D (.dT [])) b ∧ b < s3.heap.objs.size := by
    intro b hb
    obtain ⟨o, e, _⟩ := T.obj _ _ st2 b hb
    have lt := Heap.lt_size e
    refine ⟨⟨?_, (f2 b hb).2⟩, ?_⟩
    · rw [upd_ne (by subst hD; exact Nat.ne_of_lt lt)]
      exact (f2 b hb).1
    · rw [h3, Heap.size_push]
      exact Nat.lt_succ_of_lt lt
  have st3 : tn 0 s3.heap := T.keep _ _ _ st2 fun b _ o e => by
    rw [h3]; exact Heap.get?_push_of_some _ e
  have I4 := block_start I3 ok hN f3
  show codeAny _ _ (.compStart (.DictComp kx vx [⟨tg, iter, ifs, 0⟩] scope pos) 0 (.ref it) (.ref D) (blkE X scope s3)) (compPost (model X.prog X.w) X.A X.xe use Qf (.ref D) s3.heap.objs.size) { s3 with heap := pushCells (s3.heap.push { cls := .type "dict", data := .dict #[] }) scope.names }
  generalize hce : blkE X scope s3 = ce
  rw [show compEnvC scope (cellsFrom (s3.heap.objs.size + 1) scope.names (cloFrom X.env.cells scope.names [])) s3.heap.objs.size X.env = ce from hce] at I4
  have pg := hg s3 (upd H2 D (.dT [])) s3.heap.objs.size (cellsFrom (s3.heap.objs.size + 1) scope.names (cloFrom X.env.cells scope.names [])) fp
  have pt := ht s3 (upd H2 D (.dT [])) s3.heap.objs.size (cellsFrom (s3.heap.objs.size + 1) scope.names (cloFrom X.env.cells scope.names [])) fp
  have pk := hk s3 (upd H2 D (.dT [])) s3.heap.objs.size (cellsFrom (s3.heap.objs.size + 1) scope.names (cloFrom X.env.cells scope.names [])) fp
  have pe := he s3 (upd H2 D (.dT [])) s3.heap.objs.size (cellsFrom (s3.heap.objs.size + 1) scope.names (cloFrom X.env.cells scope.names [])) fp
  rw [show compEnvC scope (cellsFrom (s3.heap.objs.size + 1) scope.names (cloFrom X.env.cells scope.names [])) s3.heap.objs.size X.env = ce from hce] at pg pt pk pe
  have cL : ce.locals = s3.heap.objs.size := by subst hce; rfl
  have n3 : ∀ b ∈ fp, (upd H2 D (.dT [])) b = none := fun b hb => (f3 b hb).1.1
  generalize hH3 : upd H2 D (.dT []) = H3 at I3 I4 pg pt pk pe w0 n3 f3
  generalize hs4 : ({ s3 with heap := pushCells (s3.heap.push { cls := .type "dict", data := .dict #[] }) scope.names } : Shared) = s4 at I4 ⊢
  have st4 : tn 0 s4.heap := T.keep _ _ _ st3 fun b _ o e => by
    subst hs4
    exact pushCells_keeps _ _ _ _ (Heap.get?_push_of_some _ e)
  have stat : ∀ {σ' : L2.St} {H' : Hp} {s' : Shared}, Inv (X.blk s3 H3 scope ce fp) [] σ' H' s' → (∀ b ∈ fp, H' b = none) → ∀ b ∈ fp, FpOk (X.blk s3 H3 scope ce fp) [] H' b := by
    intro σ' H' s' I' hn b hb
    refine ⟨hn b hb, (I'.ok.exf b hb).1, I'.ok.exfs b hb, .inl hb, fun x c e => (I'.ok.exf b hb).2 x c e, fun p hp => ?_⟩
    have hp : p ∈ ([] : List (Addr × Obj)) ++ [] := hp
    simp at hp
  have loop : codeAny (model X.prog X.w) X.A (.compLoop (.DictComp kx vx [⟨tg, iter, ifs, 0⟩] scope pos) 0 (.ref it) (.ref D) ce) (compPost (model X.prog X.w) X.A X.xe use Qf (.ref D) s3.heap.objs.size) s4 := ?loop
  exact codeAny_compStart_dict loop (T.self X.A 0 _ _ _ st4 loop)
  refine compLoop_anyD (fun n s' => ∃ i H', Inv (X.blk s3 H3 scope ce fp) [] (wipe σ (own.map (·.2))) H' s' ∧ tn i s'.heap ∧ (∀ b ∈ fp, H' b = none) ∧ W i n H') ?_ m0 ⟨0, H3, I4, st4, n3, w0⟩
  rintro n s5 ⟨i, H5, I5, st5, n5, w5⟩
  rcases turn i n H5 w5 with ⟨stop, qq⟩ | ⟨go, step⟩
  · refine thnF (T.done (X.blk s3 H3 scope ce fp) rfl rfl rfl hc i [] s5 _ H5 (fun _ _ => False) I5 (stat I5 n5) st5 stop) fun r s6 ⟨hr, I6⟩ => ?_
    subst hr
    have I7 : Inv X pins σ H5 s6 := I3.call' (ch := fp) I6.os I6.base I6.hok I6.bare fun b hb => by
      obtain ⟨z0, z1, z2, z3, z4, z5⟩ := (f3 b hb).1
      exact ⟨z3, z1, z4, z5⟩
    have nC : H5 s3.heap.objs.size = none := by
      have z : H5 ce.locals = none := I6.free
      rw [cL] at z; exact z
    obtain ⟨m, hn, _⟩ := I6.loc
    have hn : s6.heap.Ns ce.locals m := hn
    rw [cL] at hn
    exact hRR D s3.heap.objs.size s6 m H5 I7 qq hn (I3.fpOk (Nat.le_refl _) nC)
  · refine thnF (T.item (X.blk s3 H3 scope ce fp) rfl rfl rfl hc i [] s5 _ H5 (fun _ _ => False) I5 (stat I5 n5) st5 go) fun r s6 ⟨u, hr, h6⟩ => ?_
    subst hr
    refine thnF h6 fun _ s7 ⟨x, H7, I7, r7, y7, st7, n7⟩ => ?_
    have I7' := I7.pinned (stat I7 n7) (T.obj _ _ st7)
    refine thnF (pg.run _ s7 _ H7 x u _ I7' r7 (step x H7 y7)) fun _ s8 ⟨σ8, H8, I8, hw8, q8⟩ => ?_
    refine thnF (pt.run _ s8 σ8 H8 _ I8 q8) fun c s9 ⟨H9, I9, q9⟩ => ?_
    have fin : ∀ {s' : Shared} {H' : Hp}, Inv (X.blk s3 H3 scope ce fp) ([] ++ pinsAt fp s7.heap) σ8 H' s' → (∃ m', m' < n ∧ W (i + 1) m' H') →
        ∃ m, m < n ∧ ∃ i H', Inv (X.blk s3 H3 scope ce fp) [] (wipe σ (own.map (·.2))) H' s' ∧ tn i s'.heap ∧ (∀ b ∈ fp, H' b = none) ∧ W i m H' := by
      intro s' H' I' ⟨m', hm, w'⟩
      have pin' : ∀ b ∈ fp, ∀ o, s7.heap.get? b = some o → s'.heap.get? b = some o ∧ H' b = none := by
        intro b hb o e
        have z := I'.pin (b, o) (List.mem_append_right _ (List.mem_append_right _ (mem_pinsAt hb e)))
        exact ⟨z.1, z.2.1⟩
      have hl : (wipe σ (own.map (·.2))).length = σ8.length := by rw [← hw8, wipe_length]
      refine ⟨m', hm, i + 1, H', (I'.unpinned (pins := [])).weak hl (fun j v e => ?_), T.keep _ _ _ st7 fun b hb o e => (pin' b hb o e).1, fun b hb => ?_, w'⟩
      · rw [← hw8] at e
        exact (wipe_some e).1
      · obtain ⟨o, e, _⟩ := T.obj _ _ st7 b hb
        exact (pin' b hb o e).2
    cases c with
    | false =>
      simp only [Bool.false_eq_true, if_false] at q9 ⊢
      exact fin I9 q9
    | true =>
      simp only [if_true] at q9 ⊢
      refine thnF (pk.run _ s9 σ8 H9 _ I9 q9) fun z s10 ⟨yk, H10, I10, r10, q10⟩ => ?_
      refine thnF (pe.run _ s10 σ8 H10 _ I10 q10) fun z2 s11 ⟨yv, H11, I11, r11, kvs, k, b, ek, hb11, hD11, hz11, nx⟩ => ?_
      subst ek
      cases (show z = Value.ref b from r10)
      exact put_tup (X := X.blk s3 H3 scope ce fp) hu I11 hD11 hb11 hz11 r11 fun s12 I12 => fin I12 nx
variable {kx vx tg iter : Expr} {ifs : List Expr} {scope : Scope} {own : List (Str × Nat)} {pos spos : Pos} {wi : TI} {g : TG} {tt : TT} {tk tv : TE}
/-- name = {..}, the name a local, on one line -/
theorem ps_setDt {i : Nat} {y : Str} {py : Pos} (hu : X.A.units + 1 < cLine) (hc : X.calm = true) (hN : X.N.Nodup) (hy : X.N[i]? = some y) (hyl : X.env.scope.names.lookup y = some .local)
    (hsw : swapsWith (.DictComp kx vx [⟨tg, iter, ifs, 0⟩] scope pos) (some (.Name y py)) spos.line X.env = pure true) (hi : PI X tg iter wi) (ok : BlkOk X.N X.env.scope scope own)
    (hg : ∀ (s : Shared) (H : Hp) (C : Addr) (cl : List (Str × Addr)) (fp : List Addr), PG (X.blk s H scope (compEnvC scope cl C X.env) fp) tg g)
    (ht : ∀ (s : Shared) (H : Hp) (C : Addr) (cl : List (Str × Addr)) (fp : List Addr), PTs (X.blk s H scope (compEnvC scope cl C X.env) fp) ifs tt)
    (hk : ∀ (s : Shared) (H : Hp) (C : Addr) (cl : List (Str × Addr)) (fp : List Addr), PE (X.blk s H scope (compEnvC scope cl C X.env) fp) kx tk)
    (he : ∀ (s : Shared) (H : Hp) (C : Addr) (cl : List (Str × Addr)) (fp : List Addr), PE (X.blk s H scope (compEnvC scope cl C X.env) fp) vx tv) (hs : ∀ x, foldedSetIterable iter X.env x = pure x := by intro _; rfl) :
    PS X (.Assign [.Name y py] (.DictComp kx vx [⟨tg, iter, ifs, 0⟩] scope pos) spos) (tAsg (tDt wi g tt tk tv (own.map (·.2))) (gName i)) := by
  refine ⟨fun pins s σ H D I h => ?_⟩
  rw [exec_Assign_Name_used _ _ _ _ hsw]
  refine wpAny_bind (wpAny_standAt (wpAny_bind ?_))
  show wpAny _ X.A (do let _ ← comprehension (.DictComp kx vx [⟨tg, iter, ifs, 0⟩] scope pos) scope X.env (firstIterPos [⟨tg, iter, ifs, 0⟩] pos) newDict false (eval iter X.env) (some (assign (.Name y py) X.env))) _ _ s
  have h : tDt wi g tt tk tv (own.map (·.2)) σ H (fun x H1 => gName i x σ H1 D.nx) := h
  refine wpAny_bind (thn (dt_core (Qf := fun _ s' => SP X pins D .next s') hu hc hN I hi ok hg ht hk he hs h fun L C s' m H' I' q hn f => ?_) fun _ s' hq => wpAny_pure (wpAny_pure hq))
  show wpAny _ _ (assign (.Name y py) X.env (.ref L)) _ _ _
  refine wpAny_assign_Name (store_ok2 (v := V.ref L) I' hN hy (.inl hyl) rfl (fun s2 I2 ⟨a, sb, ha⟩ => ?_) (.inr hyl))
  obtain ⟨f0, f1, f2, f3, f4, f5⟩ := f
  have haC : C ≠ a := by
    rcases ha with z | z
    · rw [z]; exact f1
    · exact fun e => f4 y a z e.symm
  refine ⟨m, hn.sameBut sb haC, fun h3 sb3 => ?_⟩
  exact ⟨_, H', I2.turned (t' := s2.toks) (fun b o hb e => (sb3.2 b hb).trans e) f0 f1 f3 f4 f5, q⟩
theorem swd_true {l : Nat} {y : Str} {py : Pos} {env : Env} (hk : env.scope.kind = .function) (hy : env.scope.names.lookup y = some .local) (hl : (py.line == pos.line) = true)
    (ha : (scope.names.any fun (n, k) => n == y && (k == .local || k == .cell)) = false) {gs : List Comprehension} : swapsWith (.DictComp kx vx gs scope pos) (some (.Name y py)) l env = pure true := by
  have ky : env.kindOf y = some .local := hy
  have hb : env.blockKind = .function := by
    unfold Env.blockKind
    rw [hk]; rfl
  unfold swapsWith
  simp only [hb, ky, ha, Expr.pos, hl]
  rfl
end
end Dcx
end
section
set_option maxHeartbeats 8000000
namespace K1
open PySem PySem.Spec PyProof.Rows L2 Gr GxR
abbrev FnP (K : PySem.W.Frag) (x : Str) (st : Stmt) (f : Addr) (fd : FuncData) : Prop := FunD K x x (defArgs st) (defBody st) (defScope st) [] [] f fd
/-- the def's code object is known: it is the one its table hangs on -/
theorem okC {P : Program} {w : World} {K : PySem.W.Frag} {mg : Str → Option Value} {base : Heap} {x qual : Str} {params : Arguments} {body : List Stmt} {scope : Scope} {dvs : List V} {kws : List (Str × V)} {fd : FuncData} {p : He.Defn} {CX : CXT} {N ps : List Str} {k : Nat} {sp : Sp}
    (F : FunD K x qual params body scope dvs kws (He.fAd K p) fd) (S : FnScope N ps scope) (len : ∀ vs H Q E, sp vs H Q E → vs.length = ps.length)
    (hbody : ∀ (A : Around) (outer : List Env) (s : Shared) (H : Hp) (vs : List V) (Q : VK) (E : XK), Room k (A.deeper (envOfC qual scope s.heap.objs.size (He.fAd K p) (.ref (He.cT K p).1))) → sp vs H Q E →
      ∃ t, PSs (cxOf CX P w K mg base N qual scope (He.fAd K p) (.ref (He.cT K p).1) A outer s H E) body t ∧ t { nx := fun _ H' => Q .non H', rt := Q } (start N vs) H) : FnOk P w K mg base CX (k + 1) (He.fAd K p) fd ps sp := by
  obtain ⟨oc, od, dV, kV, doc, pm, an, cdv, ct, osl, rfl, lk, hcd, _, _⟩ := F.ex
  obtain ⟨c, rfl⟩ := He.codeIn_ref hcd
  have e : (He.cT K p).1 = c := He.codeOf_eq lk rfl
  rw [e] at hbody
  exact fn_of lk hcd S len fun A outer s H vs Q E hr hsp => hbody A outer s H vs Q E hr hsp
theorem inV_str (x : Str) (xs : List Str) : inV (.str x) (xs.map V.str) = xs.contains x := by
  unfold inV
  induction xs with
  | nil => rfl
  | cons y r ih =>
    rw [List.map_cons, List.any_cons, List.contains_cons, ih]
    show ((y == x) || _) = _
    rw [BEq.comm]
theorem flat_str (xs : List Str) : (xs.map V.str).all flatV = true := by
  rw [List.all_eq_true]
  intro v hv
  obtain ⟨x, _, rfl⟩ := List.mem_map.mp hv
  rfl
theorem get_map {α β : Type} {f : α → β} {xs : List α} {i : Nat} {v : β} (h : (xs.map f)[i]? = some v) : ∃ x, xs[i]? = some x ∧ v = f x := by
  rw [List.getElem?_map] at h
  cases e : xs[i]? with
  | none => rw [e] at h; cases h
  | some x =>
    rw [e] at h
    exact ⟨x, rfl, (Option.some.inj h).symm⟩
end K1
namespace K1
open PySem PySem.Spec PyProof.Rows L2 Gr GxR
section
variable {P : Program} {w : World} {K : PySem.W.Frag} {mg : Str → Option Value} {base : Heap} {f : Addr} {fd : FuncData}
def spDraw (K : PySem.W.Frag) : Sp := fun vs H Q _ => ∃ (a : Addr) (ns : List Int) (k : Nat), vs = [.ref a, .int (k : Int)] ∧ SqL K H a (ns.map V.int) ∧ Q (.int (ns.getD k 0)) H
def spLMeets (K : PySem.W.Frag) : Sp := fun vs H Q _ => ∃ (a b : Addr) (xs ys : List Str), vs = [.ref a, .ref b] ∧ SqL K H a (xs.map V.str) ∧ SqL K H b (ys.map V.str) ∧ Q (.bl (xs.any ys.contains)) H
theorem any_at {p : Str → Bool} {xs : List Str} {i : Nat} {x : Str} (h : xs[i]? = some x) : (xs.take (i + 1)).any p = ((xs.take i).any p || p x) := by
  rw [List.take_add_one, h, List.any_append]
  simp
theorem all_at {p : Str → Bool} {xs : List Str} {i : Nat} {x : Str} (h : xs[i]? = some x) : (xs.take (i + 1)).all p = ((xs.take i).all p && p x) := by
  rw [List.take_add_one, h, List.all_append]
  simp
def spLWithin (K : PySem.W.Frag) : Sp := fun vs H Q _ => ∃ (a b : Addr) (xs ys : List Str), vs = [.ref a, .ref b] ∧ SqL K H a (xs.map V.str) ∧ SqL K H b (ys.map V.str) ∧ Q (.bl (xs.all ys.contains)) H
def spTruth : Sp := fun vs H Q _ => ∃ (a b : Bool), vs = [.bl a, .bl b] ∧ Q (.bl (a == b)) H
def rk (xs : List Str) : PyData := .tuple [.int xs.length, .list (xs.map PyData.str)]
def spRank (K : PySem.W.Frag) : Sp := fun vs H Q _ => ∃ (a : Addr) (xs : List Str), vs = [.ref a] ∧ SqL K H a (xs.map V.str) ∧ ∀ v H', Gr H H' → Dp K H' v (rk xs) → Q v H'
theorem dp_strs {K : PySem.W.Frag} {H : Hp} (xs : List Str) : DpAll K H (xs.map V.str) (xs.map PyData.str) := by
  induction xs with
  | nil => exact .nil
  | cons x r ih => exact .cons (.str x) ih
end
end K1
namespace Gx
open PySem PySem.Spec PyProof.Rows L2 GxR
theorem gx_list {K : PySem.W.Frag} {a : Addr} {xs : List V} {P : Addr} {stp : Bool} {g : TG} {tt : TT} {te : TE} {vs : List Nat} {σ : L2.St} {H1 : Hp} {Qs Qn : Hp → Prop} (hT : TabG H1 P) (Pv : Nat → Hp → Prop) (h0 : ∀ H2, Tabbed P H1 H2 → Pv 0 H2) (hl : ∀ i H, i ≤ xs.length → Pv i H → SqL K H a xs)
    (hs : ∀ i x H (Nx : Hp → Prop), (∀ H', Pv (i + 1) H' → Nx H') → xs[i]? = some x → Pv i H → g x (wipe σ vs) H fun σ2 H3 => wipe σ2 vs = wipe σ vs ∧ tt σ2 H3 fun c H4 =>
      if c = true then te σ2 H4 fun y H5 => ∃ b, y = .bl b ∧ (b = stp → Qs H5) ∧ (b ≠ stp → Nx H5) else Nx H4) (hd : ∀ H, Pv xs.length H → Qn H) :
    TabG H1 P ∧ ∀ H2, Tabbed P H1 H2 → ∃ W : Nat → Nat → Hp → Prop, (∃ m, W 0 m H2) ∧ ∀ i m H, W i m H →
      ((Itl K a).stop i H ∧ Qn H) ∨ ((Itl K a).go i H ∧ ∀ x H', (Itl K a).yld i H x H' → g x (wipe σ vs) H' fun σ2 H3 => wipe σ2 vs = wipe σ vs ∧ tt σ2 H3 fun c H4 =>
        if c = true then te σ2 H4 fun y H5 => ∃ b, y = .bl b ∧ (b = stp → Qs H5) ∧ (b ≠ stp → ∃ m', m' < m ∧ W (i + 1) m' H5) else ∃ m', m' < m ∧ W (i + 1) m' H4) := by
  refine ⟨hT, fun H2 t2 => ⟨fun i m H => m = xs.length - i ∧ i ≤ xs.length ∧ Pv i H, ⟨xs.length, by simp, Nat.zero_le _, h0 H2 t2⟩, ?_⟩⟩
  rintro i m H ⟨rfl, hi, p⟩
  have q := hl i H hi p
  by_cases hlt : i < xs.length
  · refine .inr ⟨⟨xs, xs[i], q, by simp [hlt]⟩, fun x H' y => ?_⟩
    obtain ⟨e, y⟩ := y
    subst e
    exact hs i x _ _ (fun H6 p6 => ⟨xs.length - (i + 1), by omega, rfl, hlt, p6⟩) (y xs q) p
  · have e : i = xs.length := by omega
    subst e
    exact .inl ⟨⟨xs, q, Nat.le_refl _⟩, hd H p⟩
end Gx
namespace K1
open PySem PySem.Spec PyProof.Rows L2 Gr GxR Srx
theorem yesIf {A B : Hp → Prop} {σ : L2.St} {H : Hp} (h : A H) : tYes σ H fun c H4 => if c = true then A H4 else B H4 := h
theorem hu64 {k : Nat} {A : Around} (hr : Room k A) : A.units + 64 < cLine := by
  have := hr.un
  omega
section
variable {P : Program} {w : World} {K : PySem.W.Frag} {mg : Str → Option Value} {base : Heap} {f : Addr} {fd : FuncData} {p : He.Defn}
abbrev Tb (K : PySem.W.Frag) (base : Heap) (mg : Str → Option Value) (p : He.Defn) : Prop := TabB base mg (He.cT K p).1 (He.cT K p).2
def spWithin (K : PySem.W.Frag) (T : Addr) : Sp := fun vs H Q _ => ∃ (a b : Addr) (xs ys : List Str), vs = [.ref a, .ref b] ∧ SqL K H a (xs.map V.str) ∧ SqL K H b (ys.map V.str) ∧ TabG H T ∧ ∀ H', Gr H H' → Q (.bl (xs.all ys.contains)) H'
def gexp : Stmt → Scope
  | .FunctionDef (body := [.Return (some (.Call _ [.GeneratorExp _ _ s _] _ _)) _]) .. => s
  | _ => ⟨.function, [], false, false, []⟩
def spMeets (K : PySem.W.Frag) (T : Addr) : Sp := fun vs H Q _ => ∃ (a b : Addr) (xs ys : List Str), vs = [.ref a, .ref b] ∧ SqL K H a (xs.map V.str) ∧ SqL K H b (ys.map V.str) ∧ TabG H T ∧ ∀ H', Gr H H' → Q (.bl (xs.any ys.contains)) H'
/-- a list's names in order, each once -/
def once (xs : List Str) : List Str := srt (Sx.dd xs)
def spOnce (K : PySem.W.Frag) : Sp := fun vs H Q _ => ∃ (a : Addr) (xs : List Str), vs = [.ref a] ∧ SqL K H a (xs.map V.str) ∧ xs.length ≤ 1000 ∧ ∀ p H', Gr H H' → H p = none → H' p = some (.lst ((once xs).map V.str)) → Q (.ref p) H'
end
end K1
namespace Gx
open PySem PySem.Spec PyProof.Rows L2 GxR
theorem gx_text {x : Str} {P : Addr} {stp : Bool} {g : TG} {tt : TT} {te : TE} {vs : List Nat} {σ : L2.St} {H1 : Hp} {Qs Qn : Hp → Prop} (hT : TabG H1 P) (Pv : Nat → Hp → Prop) (h0 : ∀ H2, Tabbed P H1 H2 → Pv 0 H2)
    (hs : ∀ i c H (Nx : Hp → Prop), (∀ H', Pv (i + 1) H' → Nx H') → x.cps.toList[i]? = some c → Pv i H → g (.str ⟨#[c]⟩) (wipe σ vs) H fun σ2 H3 => wipe σ2 vs = wipe σ vs ∧ tt σ2 H3 fun c H4 =>
      if c = true then te σ2 H4 fun y H5 => ∃ b, y = .bl b ∧ (b = stp → Qs H5) ∧ (b ≠ stp → Nx H5) else Nx H4) (hd : ∀ H, Pv x.cps.toList.length H → Qn H) :
    TabG H1 P ∧ ∀ H2, Tabbed P H1 H2 → ∃ W : Nat → Nat → Hp → Prop, (∃ m, W 0 m H2) ∧ ∀ i m H, W i m H →
      ((Its x).stop i H ∧ Qn H) ∨ ((Its x).go i H ∧ ∀ v H', (Its x).yld i H v H' → g v (wipe σ vs) H' fun σ2 H3 => wipe σ2 vs = wipe σ vs ∧ tt σ2 H3 fun c H4 =>
        if c = true then te σ2 H4 fun y H5 => ∃ b, y = .bl b ∧ (b = stp → Qs H5) ∧ (b ≠ stp → ∃ m', m' < m ∧ W (i + 1) m' H5) else ∃ m', m' < m ∧ W (i + 1) m' H4) := by
  refine ⟨hT, fun H2 t2 => ⟨fun i m H => m = x.cps.size - i ∧ i ≤ x.cps.size ∧ Pv i H, ⟨x.cps.size, by simp, Nat.zero_le _, h0 H2 t2⟩, ?_⟩⟩
  rintro i m H ⟨rfl, hi, p⟩
  by_cases hlt : i < x.cps.size
  · refine .inr ⟨hlt, fun v H' y => ?_⟩
    obtain ⟨e, c, hc, rfl⟩ := y
    subst e
    exact hs i c _ _ (fun H6 p6 => ⟨x.cps.size - (i + 1), by omega, rfl, hlt, p6⟩) (by rw [Array.getElem?_toList]; exact hc) p
  · have e : i = x.cps.size := by omega
    subst e
    exact .inl ⟨Nat.le_refl _, hd H (by rw [Array.length_toList]; exact p)⟩
end Gx
namespace K1
open PySem PySem.Spec PyProof.Rows L2 Gr GxR Srx
def small (c : Nat) : Bool := decide (97 ≤ c) && decide (c ≤ 122)
/-- a text of 1 to 8 small letters -/
def isNm (x : Str) : Bool := decide (1 ≤ x.length) && (decide (x.length ≤ 8) && x.cps.toList.all small)
def nmV : V → Bool
  | .str x => isNm x
  | _ => false
def strV : V → Bool
  | .str _ => true
  | _ => false
/-- a thing whose kind is_name can ask -/
def Thing (K : PySem.W.Frag) (H : Hp) (v : V) : Prop := ∃ t : String, TyX K H v (.type t) ∧ kitB t "str" = some (strV v) ∧ (∀ x, v = .str x → x.length ≤ sizeLine)
theorem lt_one (c d : Nat) : (([c] : List Nat) < [d]) ↔ c < d := by
  rw [List.cons_lt_cons_iff]
  constructor
  · rintro (h | ⟨_, h⟩)
    · exact h
    · exact absurd h (List.not_lt_nil _)
  · exact .inl
section
variable {P : Program} {w : World} {K : PySem.W.Frag} {mg : Str → Option Value} {base : Heap} {f : Addr} {fd : FuncData} {p : He.Defn}
def spIsName (K : PySem.W.Frag) (T : Addr) : Sp := fun vs H Q _ => ∃ v, vs = [v] ∧ Thing K H v ∧ TabG H T ∧ ∀ H', Gr H H' → Q (.bl (nmV v)) H'
def gexp2 : Stmt → Scope
  | .FunctionDef (body := [_, .Return (some (.Call _ [.GeneratorExp _ _ s _] _ _)) _]) .. => s
  | _ => ⟨.function, [], false, false, []⟩
end
end K1
namespace K1
open PySem PySem.Spec PyProof.Rows L2 Gr GxR Srx
open PySem.W (dataLe dataLt DatumOrd Datum)
def leR (a b : List Str) : Bool := dataLe false rk a b
theorem leR_eq (a b : List Str) : leR a b = !dataLt (rk b) (rk a) := rfl
theorem toD_eq (xs : List Str) : (Datum.toD ((xs.length : Int), xs) : PyData) = rk xs := rfl
theorem str_anti {a b : Str} (h1 : decide (a.cps.toList < b.cps.toList) = false) (h2 : decide (b.cps.toList < a.cps.toList) = false) : a = b := by
  have h1 := of_decide_eq_false h1
  have h2 := of_decide_eq_false h2
  exact PySem.W.str_of_cps (List.le_antisymm h2 h1)
theorem listLt_anti : ∀ (xs ys : List Str), PySem.W.listLt xs ys = false → PySem.W.listLt ys xs = false → xs = ys
  | [], [], _, _ => rfl
  | [], y :: ys, h, _ => by cases (show true = false from h)
  | x :: xs, [], _, h => by cases (show true = false from h)
  | x :: xs, y :: ys, h1, h2 => by
    unfold PySem.W.listLt at h1 h2
    by_cases e : x = y
    · rw [if_pos e] at h1
      rw [if_pos e.symm] at h2
      rw [e, listLt_anti xs ys h1 h2]
    · rw [if_neg e] at h1
      rw [if_neg (fun z => e z.symm)] at h2
      exact absurd (str_anti h1 h2) e
theorem leR_anti {a b : List Str} (h1 : leR a b = true) (h2 : leR b a = true) : a = b := by
  rw [leR_eq, Bool.not_eq_true'] at h1 h2
  rw [← toD_eq, ← toD_eq, DatumOrd.lt_eq] at h1 h2
  have h1 : (if (b.length : Int) = a.length then PySem.W.listLt b a else decide ((b.length : Int) < a.length)) = false := h1
  have h2 : (if (a.length : Int) = b.length then PySem.W.listLt a b else decide ((a.length : Int) < b.length)) = false := h2
  by_cases e : (a.length : Int) = b.length
  · rw [if_pos e.symm] at h1
    rw [if_pos e] at h2
    exact listLt_anti a b h2 h1
  · rw [if_neg (fun z => e z.symm)] at h1
    rw [if_neg e] at h2
    have := of_decide_eq_false h1
    have := of_decide_eq_false h2
    omega
theorem leR_trans {a b c : List Str} (h1 : leR a b = true) (h2 : leR b c = true) : leR a c = true := by
  rw [leR_eq, Bool.not_eq_true'] at *
  by_cases z : dataLt (rk c) (rk a) = true
  · rcases PyProof.Rows.lex_negTrans _ (PySem.W.keyToks (rk b)) _ z with y | y
    · rw [show dataLt (rk c) (rk b) = true from y] at h2
      cases h2
    · rw [show dataLt (rk b) (rk a) = true from y] at h1
      cases h1
  · simpa using z
theorem leR_total (a b : List Str) : (leR a b || leR b a) = true := by
  rw [leR_eq, leR_eq]
  cases h : dataLt (rk b) (rk a) with
  | false => rfl
  | true =>
    cases h2 : dataLt (rk a) (rk b) with
    | false => rfl
    | true =>
      have := PyProof.Rows.lex_trans _ _ _ (show PyProof.Rows.lexLt _ _ _ = true from h) (show PyProof.Rows.lexLt _ _ _ = true from h2)
      have e := PySem.W.dataLt_self (rk b)
      rw [show dataLt (rk b) (rk b) = true from this] at e
      cases e
def rkd (xss : List (List Str)) : List (List Str) := xss.mergeSort leR
theorem rkd_perm (xss : List (List Str)) : (rkd xss).Perm xss := List.mergeSort_perm _ _
theorem rkd_sorted (xss : List (List Str)) : (rkd xss).Pairwise (fun a b => leR a b = true) := List.pairwise_mergeSort (le := leR) (fun _ _ _ h1 h2 => leR_trans h1 h2) leR_total xss
theorem rkd_one {xs ys : List (List Str)} (p : xs.Perm ys) (h1 : xs.Pairwise (fun a b => leR a b = true)) (h2 : ys.Pairwise (fun a b => leR a b = true)) : xs = ys :=
  List.Perm.eq_of_pairwise (fun a b _ _ z1 z2 => leR_anti z1 z2) h1 h2 p
section
variable {α : Type} [DecidableEq α]
def once1 (acc : List α) (x : α) : List α := if x ∈ acc then acc else acc ++ [x]
def ddG (xs : List α) : List α := xs.foldl once1 []
theorem ddG_snoc (xs : List α) (x : α) : ddG (xs ++ [x]) = once1 (ddG xs) x := by
  unfold ddG
  rw [List.foldl_append]
  rfl
theorem once1_mem {acc : List α} {x y : α} : y ∈ once1 acc x ↔ y ∈ acc ∨ y = x := by
  unfold once1
  split
  · rename_i h
    exact ⟨.inl, fun z => z.elim id fun e => e ▸ h⟩
  · simp
theorem once1_nodup {acc : List α} {x : α} (h : acc.Nodup) : (once1 acc x).Nodup := by
  unfold once1
  split
  · exact h
  · rename_i hx
    refine List.nodup_append.mpr ⟨h, by simp, fun a ha b hb e => ?_⟩
    have hb : b = x := by simpa using hb
    rw [e, hb] at ha
    exact hx ha
theorem fold1_mem : ∀ (xs acc : List α) (y : α), y ∈ xs.foldl once1 acc ↔ y ∈ acc ∨ y ∈ xs
  | [], acc, y => by simp
  | x :: xs, acc, y => by
    rw [List.foldl_cons, fold1_mem xs, once1_mem, List.mem_cons, or_assoc]
theorem fold1_nodup : ∀ (xs acc : List α), acc.Nodup → (xs.foldl once1 acc).Nodup
  | [], _, h => h
  | _ :: xs, _, h => fold1_nodup xs _ (once1_nodup h)
theorem fold1_sub : ∀ (xs acc : List α), List.Sublist (xs.foldl once1 acc) (acc ++ xs)
  | [], acc => by rw [List.append_nil]; exact List.Sublist.refl _
  | x :: xs, acc => by
    rw [List.foldl_cons]
    refine (fold1_sub xs _).trans ?_
    unfold once1
    split
    · exact List.Sublist.append (List.Sublist.refl _) (List.sublist_cons_self _ _)
    · rw [List.append_assoc]
      exact List.Sublist.refl _
theorem ddG_mem {xs : List α} {y : α} : y ∈ ddG xs ↔ y ∈ xs := by
  unfold ddG
  rw [fold1_mem]
  simp
theorem ddG_nodup (xs : List α) : (ddG xs).Nodup := fold1_nodup xs [] List.nodup_nil
theorem ddG_sub (xs : List α) : List.Sublist (ddG xs) xs := fold1_sub xs []
theorem ddG_len (xs : List α) : (ddG xs).length ≤ xs.length := (ddG_sub xs).length_le
end
theorem rkd_dd (xss : List (List Str)) : rkd (ddG xss) = ddG (rkd xss) := by
  refine rkd_one ((rkd_perm _).trans ?_) (rkd_sorted _) ((rkd_sorted xss).sublist (ddG_sub _))
  refine (List.perm_ext_iff_of_nodup (ddG_nodup _) (ddG_nodup _)).mpr fun q => ?_
  rw [ddG_mem, ddG_mem, (rkd_perm xss).mem_iff]
def wi (a b : List Str) : Bool := a.all b.contains
def keep (acc : List (List Str)) (x : List Str) : List (List Str) := if acc.any (fun l => wi l x) = true then acc else acc ++ [x]
theorem wi_self (x : List Str) : wi x x = true := List.all_eq_true.mpr fun y hy => List.contains_iff_mem.mpr hy
theorem keep_any {acc : List (List Str)} {x y : List Str} (h : acc.any (fun l => wi l y) = true) : (keep acc x).any (fun l => wi l y) = true := by
  unfold keep
  split
  · exact h
  · rw [List.any_append, h]
    rfl
theorem keep_self (acc : List (List Str)) (x : List Str) : (keep acc x).any (fun l => wi l x) = true := by
  unfold keep
  split
  · assumption
  · rw [List.any_append]
    simp [wi_self]
theorem fold_any : ∀ (l acc : List (List Str)) (y : List Str), (acc.any (fun l => wi l y) = true ∨ y ∈ l) → (l.foldl keep acc).any (fun l => wi l y) = true
  | [], acc, y, h => h.elim id fun z => nomatch z
  | x :: l, acc, y, h => by
    refine fold_any l _ y ?_
    rcases h with h | h
    · exact .inl (keep_any h)
    · rcases List.mem_cons.mp h with e | h
      · rw [e]
        exact .inl (keep_self acc x)
      · exact .inr h
theorem snoc_ind {α : Type} {p : List α → Prop} (h0 : p []) (h1 : ∀ xs x, p xs → p (xs ++ [x])) : ∀ xs, p xs := by
  intro xs
  rw [← List.reverse_reverse xs]
  induction xs.reverse with
  | nil => exact h0
  | cons x r ih =>
    rw [List.reverse_cons]
    exact h1 _ _ ih
theorem keep_dd (l : List (List Str)) : (ddG l).foldl keep [] = l.foldl keep [] := by
  refine snoc_ind (p := fun l => (ddG l).foldl keep [] = l.foldl keep []) rfl (fun xs x ih => ?_) l
  rw [ddG_snoc, List.foldl_append]
  show _ = keep (xs.foldl keep []) x
  unfold once1
  split
  · rename_i h
    rw [ih]
    have z := fold_any xs [] x (.inr (ddG_mem.mp h))
    exact (if_pos z).symm
  · rw [List.foldl_append, ih]
    rfl
/-- least_of's sets, told -/
def least (xss : List (List Str)) : List (List Str) := (rkd (ddG xss)).foldl keep []
theorem least_eq (xss : List (List Str)) : least xss = (rkd xss).foldl keep [] := by
  unfold least
  rw [rkd_dd, keep_dd]
end K1
namespace K1
open PySem PySem.Spec PyProof.Rows L2 Gr GxR Srx Skx
open PySem.W (dataLe dataLt DatumOrd Datum)
/-- p: a new list of new lists: ps tells where they stand and what they are -/
structure Told (H H' : Hp) (p : Addr) (ps : List (Addr × List Str)) : Prop where
  new : H p = none
  at_ : H' p = some (.lst (ps.map fun q => V.ref q.1))
  own : ∀ q ∈ ps, H q.1 = none ∧ q.1 ≠ p ∧ H' q.1 = some (.lst (q.2.map V.str))
  nd : (ps.map (·.1)).Nodup
theorem Told.nil {H H1 : Hp} {p : Addr} (h : H p = none) : Told H (upd H1 p (.lst [])) p [] :=
  { new := h, at_ := upd_same, own := (fun q z => absurd z List.not_mem_nil), nd := List.nodup_nil }
theorem Told.snoc {H H2 : Hp} {D l : Addr} {ps : List (Addr × List Str)} {x : List Str} (T : Told H H2 D ps) (g : Gr H H2) (hl : H2 l = none) : Told H (upd (upd H2 l (.lst (x.map V.str))) D (.lst ((ps.map fun q => V.ref q.1) ++ [V.ref l]))) D (ps ++ [(l, x)]) := by
  have nD : D ≠ l := ne_of_none T.at_ hl
  refine ⟨T.new, ?_, fun q hq => ?_, ?_⟩
  · rw [upd_same, List.map_append]
    rfl
  · rcases List.mem_append.mp hq with hq | hq
    · obtain ⟨h1, h2, h3⟩ := T.own q hq
      refine ⟨h1, h2, ?_⟩
      rw [upd_ne h2, upd_ne (ne_of_none h3 hl)]
      exact h3
    · have e : q = (l, x) := by simpa using hq
      subst e
      refine ⟨g.free hl, nD.symm, ?_⟩
      rw [upd_ne nD.symm, upd_same]
  · rw [List.map_append]
    refine List.nodup_append.mpr ⟨T.nd, by simp, fun a ha b hb e => ?_⟩
    have hb : b = l := by simpa using hb
    obtain ⟨q, hq, rfl⟩ := List.mem_map.mp ha
    have h3 := (T.own q hq).2.2
    rw [e, hb, hl] at h3
    cases h3
theorem Told.gr {H H' H2 : Hp} {p : Addr} {ps : List (Addr × List Str)} (T : Told H H' p ps) (g : Gr H' H2) : Told H H2 p ps :=
  ⟨T.new, g.lst T.at_, fun q hq => ⟨(T.own q hq).1, (T.own q hq).2.1, g.lst (T.own q hq).2.2⟩, T.nd⟩
theorem Told.from {H0 H H' : Hp} {p : Addr} {ps : List (Addr × List Str)} (T : Told H H' p ps) (g : Gr H0 H) : Told H0 H' p ps :=
  ⟨g.free T.new, T.at_, fun q hq => ⟨g.free (T.own q hq).1, (T.own q hq).2⟩, T.nd⟩
theorem take_map {α β : Type} {f : α → β} {xs : List α} {i : Nat} {x : α} (h : xs[i]? = some x) : (xs.take (i + 1)).map f = (xs.take i).map f ++ [f x] := by
  rw [List.take_add_one, h, List.map_append]
  rfl
theorem lc_fresh {K : PySem.W.Frag} {a D : Addr} {j : Nat} {σ : L2.St} {vs : List Nat} {te : TE} {H H1 : Hp} {Qd : Hp → Prop} {ps0 : List (Addr × List Str)} (F : List Str → List Str)
    (hA : SqL K H a (ps0.map fun q => V.ref q.1)) (few : ps0.length < sizeLine) (gr : Gr H H1) (hD : H1 D = none) (hw : ∀ v, wipe ((wipe σ vs).set j (some v)) vs = wipe σ vs)
    (he : ∀ q ∈ ps0, ∀ (H4 : Hp) (Q' : VK), Gr H H4 → (∀ l, H4 l = none → Q' (.ref l) (upd H4 l (.lst ((F q.2).map V.str)))) → te ((wipe σ vs).set j (some (.ref q.1))) H4 Q')
    (q : ∀ H2 ps, Gr H H2 → Told H H2 D ps → ps.map (·.2) = ps0.map (fun q => F q.2) → Qd H2) :
    ∃ W : Nat → Nat → Hp → Prop, (∃ m, W 0 m (upd H1 D (.lst []))) ∧ ∀ i m H, W i m H →
      ((Itl K a).stop i H ∧ Qd H) ∨ ((Itl K a).go i H ∧ ∃ Nx : Hp → Prop, (∀ H', Nx H' → ∃ m', m' < m ∧ W (i + 1) m' H') ∧ ∀ x H', (Itl K a).yld i H x H' → gName j x (wipe σ vs) H' fun σ2 H2 => wipe σ2 vs = wipe σ vs ∧ tYes σ2 H2 fun b H3 =>
        if b = true then te σ2 H3 fun y H4 => ∃ acc, H4 D = some (.lst acc) ∧ acc.length < sizeLine ∧ Nx (upd H4 D (.lst (acc ++ [y]))) else Nx H3) := by
  have hD0 : H D = none := gr.free hD
  refine lc_list (xs := ps0.map fun q => V.ref q.1) (Qd := Qd) (fun i H2 => Gr H H2 ∧ ∃ ps, Told H H2 D ps ∧ ps.map (·.2) = (ps0.take i).map (fun q => F q.2)) ⟨gr.mut hD0, [], Told.nil hD0, rfl⟩ (fun i H2 _ h => h.1.seq hA) (fun i x H2 hx h => ?_) (fun H2 h => ?_)
  · obtain ⟨g2, ps, T, e⟩ := h
    obtain ⟨q0, hq0, rfl⟩ := get_map hx
    refine ⟨hw _, yesIf (he q0 (List.mem_of_getElem? hq0) H2 _ g2 fun l hl => ⟨_, ?_, ?_, g2.trans (Gr.new hl) |>.mut hD0, ps ++ [(l, F q0.2)], T.snoc g2 hl, ?_⟩)⟩
    · rw [upd_ne (ne_of_none T.at_ hl)]
      exact T.at_
    · rw [List.length_map]
      have h1 : ps.length = ((ps0.take i).map (fun q => F q.2)).length := by rw [← e, List.length_map]
      rw [h1, List.length_map, List.length_take]
      omega
    · rw [List.map_append, e, take_map hq0]
      rfl
  · obtain ⟨g2, ps, T, e⟩ := h
    rw [List.length_map, List.take_length] at e
    exact q H2 ps g2 T e
section
variable {P : Program} {w : World} {K : PySem.W.Frag} {mg : Str → Option Value} {base : Heap} {f fR : Addr} {fd fdR : FuncData} {p : He.Defn}
theorem ordRk : Ord rk := ⟨fun x y => by rw [← toD_eq, ← toD_eq]; exact DatumOrd.alike _ _, .inl fun x => ⟨_, _, rfl⟩, fun x => by
  rw [← toD_eq]
  exact Nat.le_trans (Datum.depth_le _) (by decide)⟩
/-- a list or tuple of texts -/
def Sq (K : PySem.W.Frag) (H : Hp) (a : Addr) (xs : List Str) : Prop := SqL K H a (xs.map V.str) ∨ SqT K H a (xs.map V.str)
theorem Sq.gr {H H' : Hp} {a : Addr} {xs : List Str} (h : Sq K H a xs) (g : Gr H H') : Sq K H' a xs := h.imp (fun z => g.seq z) fun z => g.seqT z
def rListOf (K : PySem.W.Frag) : List V → Hp → VK → Prop := fun xs H Q => ∃ p ys, xs = [V.ref p] ∧ (SqL K H p ys ∨ SqT K H p ys) ∧ ∀ l, H l = none → Q (.ref l) (upd H l (.lst ys))
def spRanked (K : PySem.W.Frag) : Sp := fun vs H Q _ => ∃ (a : Addr) (ps0 : List (Addr × List Str)), vs = [.ref a] ∧ SqL K H a (ps0.map fun q => V.ref q.1) ∧ (∀ q ∈ ps0, Sq K H q.1 q.2) ∧ ps0.length < sizeLine ∧
  ∀ p H' ps, Gr H H' → Told H H' p ps → ps.map (·.2) = rkd (ps0.map (·.2)) → Q (.ref p) H'
end
end K1
namespace Dcx
open PySem PySem.Spec PyProof.Rows L2
theorem dt_list {K : PySem.W.Frag} {a : Addr} {xs : List V} {g : TG} {tt : TT} {tk tv : TE} {vs : List Nat} {σ : L2.St} {H1 : Hp} {D : Addr} {Qd : Hp → Prop} (Pv : Nat → Hp → Prop) (h0 : Pv 0 (upd H1 D (.dT []))) (hl : ∀ i H, i ≤ xs.length → Pv i H → SqL K H a xs)
    (hs : ∀ i x H (Nx : Hp → Prop), (∀ H', Pv (i + 1) H' → Nx H') → xs[i]? = some x → Pv i H → g x (wipe σ vs) H fun σ2 H2 => wipe σ2 vs = wipe σ vs ∧ tt σ2 H2 fun c H3 =>
      if c = true then tk σ2 H3 fun y H4 => tv σ2 H4 fun z H5 => ∃ kvs k b, y = .ref b ∧ H5 b = some (.tup (k.map kV)) ∧ H5 D = some (.dT kvs) ∧ kvs.length < sizeLine ∧ Nx (upd H5 D (.dT (putK kvs k z))) else Nx H3) (hd : ∀ H, Pv xs.length H → Qd H) :
    ∃ W : Nat → Nat → Hp → Prop, (∃ m, W 0 m (upd H1 D (.dT []))) ∧ ∀ i m H, W i m H →
      ((Itl K a).stop i H ∧ Qd H) ∨ ((Itl K a).go i H ∧ ∀ x H', (Itl K a).yld i H x H' → g x (wipe σ vs) H' fun σ2 H2 => wipe σ2 vs = wipe σ vs ∧ tt σ2 H2 fun c H3 =>
        if c = true then tk σ2 H3 fun y H4 => tv σ2 H4 fun z H5 => ∃ kvs k b, y = .ref b ∧ H5 b = some (.tup (k.map kV)) ∧ H5 D = some (.dT kvs) ∧ kvs.length < sizeLine ∧ ∃ m', m' < m ∧ W (i + 1) m' (upd H5 D (.dT (putK kvs k z))) else ∃ m', m' < m ∧ W (i + 1) m' H3) := by
  refine ⟨fun i m H => m = xs.length - i ∧ i ≤ xs.length ∧ Pv i H, ⟨xs.length, by simp, Nat.zero_le _, h0⟩, ?_⟩
  rintro i m H ⟨rfl, hi, p⟩
  have q := hl i H hi p
  by_cases hlt : i < xs.length
  · refine .inr ⟨⟨xs, xs[i], q, by simp [hlt]⟩, fun x H' y => ?_⟩
    obtain ⟨e, y⟩ := y
    subst e
    exact hs i x _ (fun H6 => ∃ m', m' < xs.length - i ∧ m' = xs.length - (i + 1) ∧ i + 1 ≤ xs.length ∧ Pv (i + 1) H6) (fun H6 p6 => ⟨xs.length - (i + 1), by omega, rfl, hlt, p6⟩) (y xs q) p
  · have e : i = xs.length := by omega
    subst e
    exact .inl ⟨⟨xs, q, Nat.le_refl _⟩, hd H p⟩
end Dcx
namespace K1
open PySem PySem.Spec PyProof.Rows L2 Gr GxR Srx Skx Dcx
def kvT (l : List (List Str)) : List (List Key × V) := l.map fun x => (x.map Sum.inr, V.bl true)
theorem inr_inj : ∀ {x y : List Str}, x.map (Sum.inr : Str → Key) = y.map Sum.inr → x = y
  | [], [], _ => rfl
  | [], _ :: _, h => by cases h
  | _ :: _, [], h => by cases h
  | a :: x, b :: y, h => by
    rw [List.map_cons, List.map_cons] at h
    injection h with h1 h2
    injection h1 with h1
    rw [h1, inr_inj h2]
theorem put_once (l : List (List Str)) (x : List Str) : putK (kvT l) (x.map Sum.inr) (V.bl true) = kvT (once1 l x) := by
  unfold putK kvT once1
  by_cases h : x ∈ l
  · rw [if_pos h, if_pos]
    · rw [List.map_map]
      refine List.map_congr_left fun y hy => ?_
      show (if _ then _ else _) = _
      split <;> rfl
    · rw [List.any_eq_true]
      exact ⟨_, List.mem_map.mpr ⟨x, h, rfl⟩, decide_eq_true rfl⟩
  · rw [if_neg h, if_neg]
    · rw [List.map_append]
      rfl
    · intro z
      rw [List.any_eq_true] at z
      obtain ⟨q, hq, e⟩ := z
      obtain ⟨y, hy, rfl⟩ := List.mem_map.mp hq
      have e := inr_inj (of_decide_eq_true e)
      rw [e] at hy
      exact h hy
theorem kV_inr (x : List Str) : (x.map (Sum.inr : Str → Key)).map kV = x.map V.str := by
  rw [List.map_map]
  rfl
theorem keys_ps {H : Hp} : ∀ {l : List (List Str)} {bs : List Addr}, IsKeys H (kvT l) bs → ∃ ps : List (Addr × List Str), bs.map V.ref = ps.map (fun q => V.ref q.1) ∧ ps.map (·.2) = l ∧ ∀ q ∈ ps, H q.1 = some (.tup (q.2.map V.str))
  | [], bs, h => by
    have h : Paired _ ([] : List (List Key × V)) bs := h
    cases h
    exact ⟨[], rfl, rfl, fun _ z => absurd z List.not_mem_nil⟩
  | x :: l, bs, h => by
    have h : Paired _ ((x.map Sum.inr, V.bl true) :: kvT l) bs := h
    cases h with
    | cons h1 h2 =>
      rename_i b bs
      obtain ⟨ps, e1, e2, e3⟩ := keys_ps h2
      refine ⟨(b, x) :: ps, by rw [List.map_cons, List.map_cons, e1], by rw [List.map_cons, e2], fun q hq => ?_⟩
      rcases List.mem_cons.mp hq with e | hq
      · rw [e]
        have h1 : H b = some (.tup ((x.map Sum.inr).map kV)) := h1
        rw [kV_inr] at h1
        exact h1
      · exact e3 q hq
theorem small60 {n : Nat} (h : n ≤ 60000) : n < sizeLine := Nat.lt_of_le_of_lt h (by decide)
def rTupOf (K : PySem.W.Frag) : List V → Hp → VK → Prop := fun xs H Q => ∃ p ys, xs = [V.ref p] ∧ ((SqL K H p ys ∧ ∀ l, H l = none → Q (.ref l) (upd H l (.tup ys))) ∨ (SqT K H p ys ∧ Q (.ref p) H))
section
variable {P : Program} {w : World} {K : PySem.W.Frag} {mg : Str → Option Value} {base : Heap} {f fR fO : Addr} {fd fdR fdO fdW : FuncData} {p pW : He.Defn}
def spLeast (K : PySem.W.Frag) (T T2 : Addr) : Sp := fun vs H Q _ => ∃ (a : Addr) (ps0 : List (Addr × List Str)), vs = [.ref a] ∧ SqL K H a (ps0.map fun q => V.ref q.1) ∧ (∀ q ∈ ps0, SqL K H q.1 (q.2.map V.str) ∧ q.2.length ≤ 1000) ∧ ps0.length ≤ 60000 ∧ TabG H T ∧ TabG H T2 ∧
  ∀ p H' ps, Gr H H' → Told H H' p ps → ps.map (·.2) = least ((ps0.map (·.2)).map once) → Q (.ref p) H'
end
end K1
namespace K1
open PySem PySem.Spec PyProof.Rows L2 Gr GxR Srx Skx Dcx
theorem for_enum {K : PySem.W.Frag} {a : Addr} {xs : List V} {g : TG} {tb : TS} {D : Ends} {σ : L2.St} {H : Hp} (Pv : Nat → L2.St → Hp → Prop) (h0 : Pv 0 σ H) (hl : ∀ i σ H, i ≤ xs.length → Pv i σ H → SqL K H a xs)
    (hs : ∀ i x T σ H, xs[i]? = some x → Pv i σ H → H T = none → g (.ref T) σ (upd H T (.tup [.int (i : Nat), x])) fun σ2 H2 => tb { D with nx := Pv (i + 1), ct := Pv (i + 1), bk := D.nx } σ2 H2) (hd : ∀ σ H, Pv xs.length σ H → D.nx σ H) :
    ∃ W : Nat → Nat → L2.St → Hp → Prop, (∃ m, W 0 m σ H) ∧ ∀ i m σ H, W i m σ H →
      ((Ite K a).stop i H ∧ D.nx σ H) ∨ ((Ite K a).go i H ∧ ∃ N : L2.St → Hp → Prop, (∀ σ' H', N σ' H' → ∃ m', m' < m ∧ W (i + 1) m' σ' H') ∧ ∀ x H', (Ite K a).yld i H x H' → g x σ H' fun σ2 H2 => tb { D with nx := N, ct := N, bk := D.nx } σ2 H2) := by
  refine ⟨fun i m σ H => m = xs.length - i ∧ i ≤ xs.length ∧ Pv i σ H, ⟨xs.length, by simp, Nat.zero_le _, h0⟩, ?_⟩
  rintro i m σ H ⟨rfl, hi, p⟩
  have q := hl i σ H hi p
  by_cases hlt : i < xs.length
  · refine .inr ⟨⟨xs, xs[i], q, by simp [hlt]⟩, Pv (i + 1), fun σ' H' p' => ⟨xs.length - (i + 1), by omega, rfl, hlt, p'⟩, fun x H' y => ?_⟩
    obtain ⟨T, z, rfl, hT, rfl, y⟩ := y
    exact hs i z T σ H (y xs q) p hT
  · have e : i = xs.length := by omega
    subst e
    exact .inl ⟨⟨xs, q, Nat.le_refl _⟩, hd σ H p⟩
theorem tyx_gr {K : PySem.W.Frag} {H H' : Hp} (g : Gr H H') {v : V} {t : Value} (h : TyX K H v t) : TyX K H' v t := by
  cases h with
  | base h =>
    refine .base ?_
    cases h with
    | non => exact .non
    | bl x => exact .bl x
    | int i => exact .int i
    | str x => exact .str x
    | flt x => exact .flt x
    | lst e => exact .lst (g.lst e)
    | frz e => exact .frz (g.at_ _ _ e notbl_frz)
    | tup e => exact .tup (g.tup e)
    | dK e => exact .dK (g.at_ _ _ e fun _ z => nomatch z)
    | dT e => exact .dT (g.at_ _ _ e fun _ z => nomatch z)
    | ins e a b c d f => exact .ins (g.at_ _ _ e fun _ z => nomatch z) a b c d f
  | byt b => exact .byt b
  | set e => exact .set (g.at_ _ _ e fun _ z => nomatch z)
  | kList e c => exact .kList e c
  | kTuple e c => exact .kTuple e c
  | kDict e c => exact .kDict e c
  | fTuple e => exact .fTuple (g.at_ _ _ e notbl_frz)
  | fDict e => exact .fDict (g.at_ _ _ e notbl_frz)
theorem Thing.gr {K : PySem.W.Frag} {H H' : Hp} (g : Gr H H') {v : V} (h : Thing K H v) : Thing K H' v := by
  obtain ⟨t, ty, k, l⟩ := h
  exact ⟨t, tyx_gr g ty, k, l⟩
/-- an own error class, as it stands: made by its name, raised -/
structure ErrC (K : PySem.W.Frag) (mg : Str → Option Value) (x : Str) (C : Addr) : Prop where
  gC : mg x = some (.ref C)
  xC : PySem.W.excIn K C [.type "ValueError", .type "Exception", .type "BaseException", .type "object"] "ValueError.__new__" = true
  kC : PySem.W.keepIn K (.ref C) = true
  bC : PySem.W.subIn K (.ref C) (.type "BaseException") = some true
  tC : PySem.W.typeIn K (.ref C) = some (.type "type")
section
variable {P : Program} {w : World} {K : PySem.W.Frag} {mg : Str → Option Value} {base : Heap} {f fO C : Addr} {fd fdO fdI : FuncData} {p pI : He.Defn}
def spRising (K : PySem.W.Frag) (T C : Addr) : Sp := fun vs H Q E => ∃ (a : Addr) (vls : List V), vs = [.ref a] ∧ SqL K H a vls ∧ (∀ v ∈ vls, Thing K H v) ∧ vls.length ≤ 1000 ∧ TabG H T ∧
  ((∃ xs : List Str, vls = xs.map V.str ∧ xs.all isNm = true ∧ ∀ p H', Gr H H' → H p = none → H' p = some (.lst ((once xs).map V.str)) → Q (.ref p) H') ∨ ((∃ v ∈ vls, nmV v = false) ∧ ∀ H', Gr H H' → E (.ref C) none H'))
theorem strlen_le (x : Str) (n : Nat) (h : x.length = n) (hn : n ≤ 100) : x.length ≤ 100 := by omega
end
end K1
namespace K1
open PySem PySem.Spec PyProof.Rows L2 Gr GxR Srx Skx Dcx
def rIsC (K : PySem.W.Frag) (cls : Value) (d : Option Addr) (D a : Addr) : List V → Hp → VK → Prop := fun xs H Q => cls = .ref D ∧ d = none ∧ ∃ (c : V) (cv : Value) (b : Bool), xs = [.ref a, c] ∧ ClsV c cv ∧ PySem.W.kitOne K (.ref D) cv = some b ∧ Q (.bl b) H
theorem call_isC {X : Cx} {a D : Addr} {oe : Obj} {pn : List (Addr × Obj)} {cls : Value} {d : Option Addr} (C : ExcC X.K D) (hz : Zc cls d oe) (hf : ∃ vs, oe.data = .fields vs) : CallR (X.suite a ((a, oe) :: pn)) (.builtin "isinstance") (rIsC X.K cls d D a) := by
  intro pins s σ H xs us Q I r h
  obtain ⟨rfl, rfl, c, cv, b, e1, k, e, q⟩ := h
  exact call_isE C hz hf pins s σ H xs us Q I r ⟨c, cv, b, e1, fun u ru => k.eq ru, e, q⟩
def rIsCT (K : PySem.W.Frag) (cls : Value) (d : Option Addr) (D a : Addr) : List V → Hp → VK → Prop := fun xs H Q => cls = .ref D ∧ d = none ∧ ∃ (tp : Addr) (cs : List V) (us : List Value) (b : Bool), xs = [.ref a, .ref tp] ∧ H tp = some (.tup cs) ∧ Paired ClsV cs us ∧ PySem.W.kitAny K (.ref D) us = some b ∧ Q (.bl b) H
theorem call_isCT {X : Cx} {a D : Addr} {oe : Obj} {pn : List (Addr × Obj)} {cls : Value} {d : Option Addr} (C : ExcC X.K D) (hz : Zc cls d oe) (hf : ∃ vs, oe.data = .fields vs) : CallR (X.suite a ((a, oe) :: pn)) (.builtin "isinstance") (rIsCT X.K cls d D a) := by
  intro pins s σ H xs us Q I r h
  obtain ⟨rfl, rfl, tp, cs, ws, b, rfl, hT, k, e, q⟩ := h
  obtain ⟨u1, u2, rfl, r1, r2⟩ := vals2 r
  cases (show u1 = Value.ref a from r1)
  cases (show u2 = Value.ref tp from r2)
  obtain ⟨hget, _⟩ := I.pin (a, oe) (List.mem_append.mpr (.inl List.mem_cons_self))
  obtain ⟨vs, hv⟩ := hf
  have J : PySem.W.InstAt s.heap a oe D none := by
    obtain ⟨oc, od, oda, osl⟩ := oe
    obtain ⟨h1, h2⟩ := hz
    dsimp only at h1 h2 hv
    subst h1 h2 hv
    exact ⟨hget, rfl, rfl, trivial⟩
  obtain ⟨_, its, rv, o, h1, h2, n, h3⟩ := (show ObjOk _ _ H s.heap tp (.tup cs) from I.hok tp _ hT)
  have e3 := ClsV.all k rv
  subst e3
  obtain ⟨oc, od, dt, sl⟩ := o
  simp only at h2 h3
  subst h2 h3
  exact PySem.W.kia_tup (PySem.W.handS_kitx_exc C.hg C.hk C.hs C.hd C.ha C.hn C.ht C.hm) I.kIn J h1 e (fun z => nomatch z) fun tk => ⟨.bl b, H, I.kept (t' := tk) fun _ _ z => z, rfl, q⟩
/-- what the law's look at a refusal takes of the error classes -/
structure RefC (K : PySem.W.Frag) (mg : Str → Option Value) (C M c1 c2 c3 c4 c5 : Addr) : Prop where
  gM : mg "MeetError" = some (.ref M)
  gC : mg "BadName" = some (.ref C)
  g1 : mg "BadRow" = some (.ref c1)
  g2 : mg "NoRow" = some (.ref c2)
  g3 : mg "TooMany" = some (.ref c3)
  g4 : mg "NoMeet" = some (.ref c4)
  g5 : mg "Unread" = some (.ref c5)
  e : PySem.W.exmOne K (.ref C) (.ref M) = some true
  k5 : PySem.W.kitAny K (.ref C) [.ref c1, .ref c2, .ref c3, .ref c4, .ref c5] = some false
  kC : PySem.W.kitOne K (.ref C) (.ref C) = some true
  kV : PySem.W.kitOne K (.ref C) (.type "ValueError") = some true
  ex : ExcC K C
section
variable {P : Program} {w : World} {K : PySem.W.Frag} {mg : Str → Option Value} {base : Heap} {f fS C M c1 c2 c3 c4 c5 : Addr} {fd fdS : FuncData} {p : He.Defn} {T : Addr}
def spRefused (K : PySem.W.Frag) (T : Addr) : Sp := fun vs H Q _ => ∃ (a : Addr) (vls : List V), vs = [.ref a] ∧ SqL K H a vls ∧ (∀ v ∈ vls, Thing K H v) ∧ vls.length ≤ 1000 ∧ TabG H T ∧ (∃ v ∈ vls, nmV v = false) ∧ ∀ H', Gr H H' → Q (.bl true) H'
end
end K1
namespace K1
open PySem PySem.Spec PyProof.Rows L2 Gr GxR Srx
open PySem.W (dataLe dataLt DatumOrd Datum)
def dS (xs : List Str) : PyData := .list (xs.map PyData.str)
def dSS (xss : List (List Str)) : PyData := .list (xss.map dS)
/-- names, all of them -/
def Nms (xs : List Str) : Prop := ∀ x ∈ xs, isNm x = true
theorem nm_ok {x : Str} (h : isNm x = true) : PyData.strOk x = true := by
  unfold isNm at h
  rw [Bool.and_eq_true, Bool.and_eq_true] at h
  show (x.cps.all (· < 0x110000)) = true
  rw [← Array.all_toList, List.all_eq_true]
  intro c hc
  have z := List.all_eq_true.mp h.2.2 c hc
  unfold small at z
  rw [Bool.and_eq_true, decide_eq_true_iff, decide_eq_true_iff] at z
  exact decide_eq_true (by omega)
theorem nm_len {x : Str} (h : isNm x = true) : x.length ≤ 8 := by
  unfold isNm at h
  rw [Bool.and_eq_true, Bool.and_eq_true] at h
  exact of_decide_eq_true h.2.1
theorem canL_strs : ∀ xs : List Str, Nms xs → PyData.canLayAll0 (xs.map PyData.str) = true
  | [], _ => by simp [PyData.canLayAll0]
  | n :: r, h => by
    have h1 := nm_ok (h n List.mem_cons_self)
    simp [PyData.canLayAll0, PyData.canLay0, h1, canL_strs r fun x hx => h x (List.mem_cons_of_mem _ hx)]
theorem deep_strs : ∀ xs : List Str, PyData.depthAll (xs.map PyData.str) ≤ 1
  | [] => by simp [PyData.depthAll]
  | n :: r => by
    have := deep_strs r
    simp only [List.map_cons, PyData.depthAll, PyData.depth]
    omega
theorem shaped_dS {xs : List Str} (nm : Nms xs) : SeqAt.shaped (dS xs) = true := by
  have h1 := deep_strs xs
  have h2 : PyData.depth (dS xs) ≤ 64 := by simp only [dS, PyData.depth]; omega
  show (PyData.canLay0 (dS xs) && decide (PyData.depth (dS xs) ≤ 64)) = true
  rw [Bool.and_eq_true]
  exact ⟨by simp only [dS, PyData.canLay0]; exact canL_strs xs nm, decide_eq_true h2⟩
theorem canL_sets : ∀ xss : List (List Str), (∀ xs ∈ xss, Nms xs) → PyData.canLayAll0 (xss.map dS) = true
  | [], _ => by simp [PyData.canLayAll0]
  | n :: r, h => by
    have h1 := canL_strs n (h n List.mem_cons_self)
    have h2 := canL_sets r fun x hx => h x (List.mem_cons_of_mem _ hx)
    simp only [List.map_cons, PyData.canLayAll0, h2, Bool.and_true]
    simp only [dS, PyData.canLay0]
    exact h1
theorem deep_sets : ∀ xss : List (List Str), PyData.depthAll (xss.map dS) ≤ 3
  | [] => by simp [PyData.depthAll]
  | n :: r => by
    have h1 := deep_sets r
    have h2 := deep_strs n
    simp only [List.map_cons, PyData.depthAll, PyData.depth, dS] at h1 ⊢
    omega
theorem shaped_dSS {xss : List (List Str)} (nm : ∀ xs ∈ xss, Nms xs) : SeqAt.shaped (dSS xss) = true := by
  have h1 := deep_sets xss
  have h2 : PyData.depth (dSS xss) ≤ 64 := by simp only [dSS, PyData.depth]; omega
  show (PyData.canLay0 (dSS xss) && decide (PyData.depth (dSS xss) ≤ 64)) = true
  rw [Bool.and_eq_true]
  exact ⟨by simp only [dSS, PyData.canLay0]; exact canL_sets xss nm, decide_eq_true h2⟩
theorem eqv_dS (xs ys : List Str) : PyData.eqv (dS xs) (dS ys) = decide (xs = ys) := Datum.eqv xs ys
theorem eqv_dSS (xs ys : List (List Str)) : PyData.eqv (dSS xs) (dSS ys) = decide (xs = ys) := Datum.eqv xs ys
theorem dp_dS {K : PySem.W.Frag} {H : Hp} {a : Addr} {xs : List Str} (h : SqL K H a (xs.map V.str)) : Dp K H (.ref a) (dS xs) := .lst h (dp_strs xs)
theorem dp_sets {K : PySem.W.Frag} {H : Hp} : ∀ {ps : List (Addr × List Str)}, (∀ q ∈ ps, SqL K H q.1 (q.2.map V.str)) → DpAll K H (ps.map fun q => V.ref q.1) (ps.map fun q => dS q.2)
  | [], _ => .nil
  | q :: r, h => .cons (dp_dS (h q List.mem_cons_self)) (dp_sets fun z hz => h z (List.mem_cons_of_mem _ hz))
theorem dp_dSS {K : PySem.W.Frag} {H : Hp} {a : Addr} {ps : List (Addr × List Str)} (hA : SqL K H a (ps.map fun q => V.ref q.1)) (h : ∀ q ∈ ps, SqL K H q.1 (q.2.map V.str)) : Dp K H (.ref a) (dSS (ps.map (·.2))) := by
  refine .lst hA ?_
  rw [List.map_map]
  exact dp_sets h
end K1
namespace K1
open PySem PySem.Spec PyProof.Rows L2 Gr GxR Srx Skx Dcx
section
variable {P : Program} {w : World} {K : PySem.W.Frag} {mg : Str → Option Value} {base : Heap} {f : Addr} {fd : FuncData} {p : He.Defn} {T : Addr}
def spOdd (K : PySem.W.Frag) : Sp := fun vs H Q _ => ∃ c : Int, vs = [.int c] ∧ ∀ v H', Gr H H' → Thing K H' v → nmV v = false → Q v H'
theorem thing_str {K : PySem.W.Frag} {H : Hp} {x : Str} (h : x.length ≤ sizeLine) : Thing K H (.str x) := ⟨"str", .base (.str x), (by show kitB "str" "str" = some true; decide +kernel), fun y e => by cases e; exact h⟩
theorem thing_not {K : PySem.W.Frag} {H : Hp} {t : String} {z : V} (ty : TyX K H z (.type t)) (kt : kitB t "str" = some false) (e : strV z = false) : Thing K H z := ⟨t, ty, by rw [e]; exact kt, fun y e2 => by rw [e2] at e; cases e⟩
theorem atI_mod {α : Type} {xs : List α} {c : Int} {n : Nat} (hn : xs.length = n) (h0 : 0 < n) : ∃ v, atI xs (c % (n : Int)) = some v ∧ v ∈ xs := by
  have h1 : 0 ≤ c % (n : Int) := Int.emod_nonneg _ (by omega)
  have h2 : c % (n : Int) < n := Int.emod_lt_of_pos _ (by omega)
  obtain ⟨j, hj⟩ := Int.eq_ofNat_of_zero_le h1
  have hlt : j < xs.length := by omega
  rw [hj]
  exact ⟨xs[j], atI_nat (List.getElem?_eq_getElem hlt), List.getElem_mem hlt⟩
def spRow (K : PySem.W.Frag) : Sp := fun vs H Q _ => ∃ (a : Addr) (c : Int) (ns : List Str), vs = [.ref a, .int c] ∧ SqL K H a (ns.map V.str) ∧ ns ≠ [] ∧ ns.Nodup ∧ Nms ns ∧ ns.length ≤ 1000 ∧
  ∀ (p : Addr) (H' : Hp) (ys : List Str), Gr H H' → H p = none → H' p = some (.lst (ys.map V.str)) → ys.Nodup → (∀ y ∈ ys, y ∈ ns) → ys.length ≤ ns.length → Q (.ref p) H'
end
end K1
namespace K1
open PySem PySem.Spec PyProof.Rows L2 Gr GxR Srx Skx Dcx
/-- at a: a list of the lists ps -/
structure LL (H : Hp) (a : Addr) (ps : List (Addr × List Str)) : Prop where
  at_ : H a = some (.lst (ps.map fun q => V.ref q.1))
  own : ∀ q ∈ ps, H q.1 = some (.lst (q.2.map V.str))
theorem LL.gr {H H' : Hp} {a : Addr} {ps : List (Addr × List Str)} (h : LL H a ps) (g : Gr H H') : LL H' a ps := ⟨g.lst h.at_, fun q hq => g.lst (h.own q hq)⟩
theorem Told.ll {H H' : Hp} {p : Addr} {ps : List (Addr × List Str)} (T : Told H H' p ps) : LL H' p ps := ⟨T.at_, fun q hq => (T.own q hq).2.2⟩
/-- sets of names, not too many -/
def Fit (xss : List (List Str)) : Prop := xss.length ≤ 1000 ∧ ∀ xs ∈ xss, Nms xs ∧ xs.length ≤ 1000
section
variable {P : Program} {w : World} {K : PySem.W.Frag} {mg : Str → Option Value} {base : Heap} {f : Addr} {fd : FuncData} {p : He.Defn} {T : Addr}
def spSets : Sp := fun vs H Q _ => ∃ (a b : Addr) (ps qs : List (Addr × List Str)), vs = [.ref a, .ref b] ∧ LL H a ps ∧ LL H b qs ∧ ps.map (·.2) = qs.map (·.2) ∧ Fit (ps.map (·.2)) ∧ ∀ H', Gr H H' → Q (.bl true) H'
end
end K1
namespace K1
open PySem PySem.Spec PyProof.Rows L2 Gr GxR Srx Skx Dcx
/-- for x in C: x.append(m), the lists of C younger than H -/
theorem for_more {K : PySem.W.Frag} {C : Addr} {A : List Addr} {H H5 : Hp} {σ : L2.St} {D : Ends} {j : Nat} {m : Str} (hC : H5 C = some (.lst (A.map V.ref))) (gr : Gr H H5) (nC : C ∉ A) (new : ∀ x ∈ A, H x = none) (has : ∀ x ∈ A, ∃ zs, H5 x = some (.lst zs) ∧ zs.length ≤ 1000) (few : A.length ≤ 5000) (hj : j < σ.length)
    (hd : ∀ (v : Option V) (H6 : Hp), Gr H H6 → (∀ b o, b ∉ A → H5 b = some o → H6 b = some o) → D.nx (σ.set j v) H6) :
    ∃ W : Nat → Nat → L2.St → Hp → Prop, (∃ m, W 0 m σ H5) ∧ ∀ i m' σ H, W i m' σ H →
      ((Itl K C).stop i H ∧ D.nx σ H) ∨ ((Itl K C).go i H ∧ ∃ N : L2.St → Hp → Prop, (∀ σ' H', N σ' H' → ∃ m2, m2 < m' ∧ W (i + 1) m2 σ' H') ∧ ∀ x H', (Itl K C).yld i H x H' → gName j x σ H' fun σ2 H2 => tDrop (tBM K "list" rAppend (tVar j) (tCons (tC (.str m)) tNil)) { D with nx := N, ct := N, bk := D.nx } σ2 H2) := by
  refine for_list (K := K) (xs := A.map V.ref) (fun i σ' H6 => Gr H H6 ∧ (∀ b o, b ∉ A → H5 b = some o → H6 b = some o) ∧ (∀ x ∈ A, ∃ zs, H6 x = some (.lst zs) ∧ zs.length ≤ 1000 + i) ∧ ∃ v, σ' = σ.set j v) ⟨gr, fun _ _ _ e => e, has, σ[j], (List.set_getElem_self ..).symm⟩ (fun i σ' H6 _ h => .inl (.inl (h.2.1 _ _ nC hC))) (fun i x σ' H6 hx h => ?_) (fun σ' H6 h => ?_)
  · obtain ⟨g, fr, lens, v, rfl⟩ := h
    obtain ⟨a, ha, rfl⟩ := get_map hx
    have ma := List.mem_of_getElem? ha
    have hi : i < A.length := (List.getElem?_eq_some_iff.mp ha).1
    obtain ⟨zs, ez, hz⟩ := lens a ma
    show tDrop _ _ ((σ.set j v).set j (some (.ref a))) H6
    rw [List.set_set]
    refine ⟨.ref a, ?_, .inl ⟨rfl, _, .inl (.inl ez)⟩, a, _, _, rfl, rfl, ez, ?_, ?_⟩
    · rw [List.getElem?_set_self hj]
    · rw [sizeLine_eq]
      omega
    · refine ⟨g.mut (new a ma), fun b o hb e => ?_, fun x hx => ?_, _, rfl⟩
      · rw [upd_ne (fun z => hb (by rw [z]; exact ma))]
        exact fr b o hb e
      · by_cases hxa : x = a
        · subst hxa
          exact ⟨_, upd_same, by rw [List.length_append, List.length_singleton]; omega⟩
        · obtain ⟨ys, ey, hy⟩ := lens x hx
          exact ⟨ys, by rw [upd_ne hxa]; exact ey, by omega⟩
  · obtain ⟨g, fr, _, v, rfl⟩ := h
    exact hd v H6 g fr
theorem keep_sub : ∀ (l acc : List (List Str)), List.Sublist (l.foldl keep acc) (acc ++ l)
  | [], acc => by rw [List.append_nil]; exact List.Sublist.refl _
  | x :: l, acc => by
    rw [List.foldl_cons]
    refine (keep_sub l _).trans ?_
    unfold keep
    split
    · exact List.Sublist.append (List.Sublist.refl _) (List.sublist_cons_self _ _)
    · rw [List.append_assoc]
      exact List.Sublist.refl _
theorem fit_rkd {xss : List (List Str)} (h : Fit xss) : Fit (rkd xss) := ⟨by rw [(rkd_perm _).length_eq]; exact h.1, fun xs hx => h.2 xs ((rkd_perm _).mem_iff.mp hx)⟩
theorem fit_sub {xss yss : List (List Str)} (h : Fit xss) (s : List.Sublist yss xss) : Fit yss := ⟨Nat.le_trans s.length_le h.1, fun xs hx => h.2 xs (s.subset hx)⟩
theorem once_nms {xs : List Str} (h : Nms xs) : Nms (once xs) := fun x hx => h x (Sx.dd_mem.mp (srt_mem.mp hx))
theorem once_len {xs : List Str} : (once xs).length ≤ xs.length := by
  unfold once
  rw [srt_len]
  exact Sx.dd_len xs
theorem fit_least {xss : List (List Str)} (h : Fit xss) : Fit (least (xss.map once)) := by
  have h1 : Fit (xss.map once) := ⟨by rw [List.length_map]; exact h.1, fun xs hx => by
    obtain ⟨ys, hy, rfl⟩ := List.mem_map.mp hx
    obtain ⟨a, b⟩ := h.2 ys hy
    exact ⟨once_nms a, Nat.le_trans once_len b⟩⟩
  unfold least
  exact fit_sub (fit_rkd (fit_sub h1 (ddG_sub _))) (keep_sub _ [])
theorem lens_of {ps : List (Addr × List Str)} (h : Fit (ps.map (·.2))) : ps.length ≤ 1000 ∧ ∀ q ∈ ps, Nms q.2 ∧ q.2.length ≤ 1000 := ⟨by have := h.1; rw [List.length_map] at this; exact this, fun q hq => h.2 q.2 (List.mem_map.mpr ⟨q, hq, rfl⟩)⟩
theorem LL.dp {K : PySem.W.Frag} {H : Hp} {a : Addr} {ps : List (Addr × List Str)} (h : LL H a ps) : Dp K H (.ref a) (dSS (ps.map (·.2))) := dp_dSS (.inl (.inl h.at_)) fun q hq => .inl (.inl (h.own q hq))
theorem LL.fr {H H' : Hp} {a : Addr} {A : List Addr} {ps : List (Addr × List Str)} (h : LL H a ps) (fr : ∀ b o, b ∉ A → H b = some o → H' b = some o) (na : a ∉ A) (nq : ∀ q ∈ ps, q.1 ∉ A) : LL H' a ps := ⟨fr _ _ na h.at_, fun q hq => fr _ _ (nq q hq) (h.own q hq)⟩
/-- told lists are none of what stood -/
theorem Told.off {H H' : Hp} {p x : Addr} {o : HO} {ps : List (Addr × List Str)} (T : Told H H' p ps) (e : H x = some o) : x ≠ p ∧ ∀ q ∈ ps, x ≠ q.1 := ⟨ne_of_none e T.new, fun q hq => ne_of_none e (T.own q hq).1⟩
section
variable {P : Program} {w : World} {K : PySem.W.Frag} {mg : Str → Option Value} {base : Heap} {f fR fL fS : Addr} {fd fdR fdL fdS : FuncData} {p : He.Defn} {T T2 : Addr}
def spTold (T T2 : Addr) : Sp := fun vs H Q _ => ∃ (s h d b : Addr) (ps hs ds bs : List (Addr × List Str)), vs = [.ref s, .ref h, .ref d, .ref b] ∧ LL H s ps ∧ LL H h hs ∧ LL H d ds ∧ LL H b bs ∧ Fit (ps.map (·.2)) ∧ Fit (hs.map (·.2)) ∧
  ds.map (·.2) = rkd (hs.map (·.2)) ∧ bs.map (·.2) = least ((ps.map (·.2)).map once) ∧ TabG H T ∧ TabG H T2 ∧ ∀ H', Gr H H' → Q (.bl true) H'
end
end K1
namespace K1
open PySem PySem.Spec PyProof.Rows L2
def L0 : List Nat := List.range' 97 26
theorem letters_eq : Str.ofString "abcdefghijklmnopqrstuvwxyz" = SX.S L0 := by decide +kernel
def let_ (x : Int) : Nat := L0.getD (x % 26).toNat 0
def nm1 (d k : Nat) : Str := SX.S ((L0.drop d).take (k + 1))
def turned (d : Nat) : List Nat := (L0.drop d).take 8
def nm2 (d k : Nat) : Str := SX.S ((turned d).drop k ++ (turned d).take k)
def nm3 (base : List Nat) (at_ : Nat) (x : Int) (k : Nat) : Str := SX.S (base.take at_ ++ [let_ (x + 3 * (k : Int))] ++ base.drop at_)
def baseOf (c : Int) (size : Nat) : List Nat := (List.range size).map fun j : Nat => let_ (c / 224 + 5 * (j : Int))
def many (c : Int) : Nat := (1 + c % 7).toNat
def names (c : Int) : List Str :=
  if c / 7 % 4 = 1 then (List.range (many c)).map (nm1 (c / 28 % 18).toNat)
  else if c / 7 % 4 = 2 then (List.range (many c)).map (nm2 (c / 28 % 18).toNat)
  else (List.range (many c)).map (nm3 (baseOf c (c / 28 % 8).toNat) (c / 7 % ((c / 28 % 8) + 1)).toNat (c / 1000))
theorem many_lt (c : Int) : 1 ≤ many c ∧ many c ≤ 7 := by
  unfold many
  omega
theorem L0_at {j : Nat} (h : j < 26) : L0[j]? = some (97 + j) := by
  unfold L0
  rw [List.getElem?_range' (by omega)]
  simp
theorem L0_len : L0.length = 26 := by decide
theorem L0_small : ∀ x ∈ L0, small x = true := by decide +kernel
theorem let_eq (x : Int) : let_ x = 97 + (x % 26).toNat := by
  unfold let_
  rw [List.getD_eq_getElem?_getD, L0_at (by omega)]
  rfl
theorem let_mem (x : Int) : let_ x ∈ L0 := by
  rw [let_eq]
  exact List.mem_of_getElem? (L0_at (j := (x % 26).toNat) (by omega))
theorem nm_S {l : List Nat} (h1 : 1 ≤ l.length) (h8 : l.length ≤ 8) (hs : ∀ x ∈ l, x ∈ L0) : isNm (SX.S l) = true := by
  unfold isNm
  rw [SX.S_len, decide_eq_true h1, decide_eq_true h8, Bool.true_and, Bool.true_and, List.all_eq_true]
  intro x hx
  exact L0_small x (hs x hx)
theorem nodup_range_map {α : Type} {f : Nat → α} {n : Nat} (h : ∀ i j, i < n → j < n → f i = f j → i = j) : ((List.range n).map f).Nodup := by
  unfold List.Nodup
  rw [List.pairwise_map]
  refine List.Pairwise.imp_of_mem ?_ (List.nodup_range (n := n))
  intro a b ha hb ne e
  exact ne (h a b (List.mem_range.mp ha) (List.mem_range.mp hb) e)
theorem names_ok (c : Int) : Nms (names c) ∧ (names c).Nodup ∧ names c ≠ [] ∧ (names c).length ≤ 7 := by
  obtain ⟨m1, m7⟩ := many_lt c
  have ne : ∀ f : Nat → Str, (List.range (many c)).map f ≠ [] := by
    intro f z
    have := congrArg List.length z
    rw [List.length_map, List.length_range] at this
    simp at this
    omega
  have ln : ∀ f : Nat → Str, ((List.range (many c)).map f).length ≤ 7 := by
    intro f
    rw [List.length_map, List.length_range]
    exact m7
  have nms : ∀ f : Nat → Str, (∀ k, k < many c → isNm (f k) = true) → Nms ((List.range (many c)).map f) := by
    intro f h x hx
    obtain ⟨k, hk, rfl⟩ := List.mem_map.mp hx
    exact h k (List.mem_range.mp hk)
  unfold names
  have hd : (c / 28 % 18).toNat ≤ 17 := by omega
  generalize (c / 28 % 18).toNat = d at hd
  split
  · refine ⟨nms _ fun k hk => ?_, nodup_range_map fun i j hi hj e => ?_, ne _, ln _⟩
    · refine nm_S ?_ ?_ fun x hx => List.mem_of_mem_drop (List.mem_of_mem_take hx)
      · rw [List.length_take, List.length_drop, L0_len]; omega
      · rw [List.length_take, List.length_drop, L0_len]; omega
    · have e := congrArg List.length (SX.S_inj e)
      rw [List.length_take, List.length_take, List.length_drop, L0_len] at e
      omega
  · split
    · have tl : (turned d).length = 8 := by
        unfold turned
        rw [List.length_take, List.length_drop, L0_len]; omega
      have tm : ∀ x ∈ turned d, x ∈ L0 := fun x hx => List.mem_of_mem_drop (List.mem_of_mem_take hx)
      have ta : ∀ k, k < 8 → (turned d)[k]? = some (97 + (d + k)) := by
        intro k hk
        unfold turned
        rw [List.getElem?_take_of_lt hk, List.getElem?_drop, L0_at (by omega)]
      refine ⟨nms _ fun k hk => ?_, nodup_range_map fun i j hi hj e => ?_, ne _, ln _⟩
      · refine nm_S ?_ ?_ fun x hx => ?_
        · rw [List.length_append, List.length_drop, List.length_take, tl]; omega
        · rw [List.length_append, List.length_drop, List.length_take, tl]; omega
        · rcases List.mem_append.mp hx with h | h
          · exact tm x (List.mem_of_mem_drop h)
          · exact tm x (List.mem_of_mem_take h)
      · have e := congrArg (fun l : List Nat => l[0]?) (SX.S_inj e)
        have hh : ∀ k, k < many c → ((turned d).drop k ++ (turned d).take k)[0]? = some (97 + (d + k)) := by
          intro k hk
          rw [List.getElem?_append_left (by rw [List.length_drop, tl]; omega), List.getElem?_drop]
          exact ta k (by omega)
        have e : ((turned d).drop i ++ (turned d).take i)[0]? = ((turned d).drop j ++ (turned d).take j)[0]? := e
        rw [hh i hi, hh j hj] at e
        have e := Option.some.inj e
        omega
    · have hsz : (c / 28 % 8).toNat ≤ 7 := by omega
      have hat : (c / 7 % ((c / 28 % 8) + 1)).toNat ≤ (c / 28 % 8).toNat := by
        have h1 : 0 ≤ c / 28 % 8 := Int.emod_nonneg _ (by omega)
        have h2 := Int.emod_lt_of_pos (c / 7) (show (0 : Int) < c / 28 % 8 + 1 by omega)
        have h3 := Int.emod_nonneg (c / 7) (show (c / 28 % 8 + 1 : Int) ≠ 0 by omega)
        omega
      generalize (c / 28 % 8).toNat = size at hsz hat
      generalize (c / 7 % ((c / 28 % 8) + 1)).toNat = at_ at hat
      have bl : (baseOf c size).length = size := by
        unfold baseOf
        rw [List.length_map, List.length_range]
      have bm : ∀ x ∈ baseOf c size, x ∈ L0 := by
        intro x hx
        obtain ⟨j, _, rfl⟩ := List.mem_map.mp hx
        exact let_mem _
      refine ⟨nms _ fun k hk => ?_, nodup_range_map fun i j hi hj e => ?_, ne _, ln _⟩
      · refine nm_S ?_ ?_ fun x hx => ?_
        · rw [List.length_append, List.length_append, List.length_take, List.length_drop, bl]; simp; omega
        · rw [List.length_append, List.length_append, List.length_take, List.length_drop, bl, List.length_singleton]; omega
        · rcases List.mem_append.mp hx with h | h
          · rcases List.mem_append.mp h with h | h
            · exact bm x (List.mem_of_mem_take h)
            · have h : x = let_ (c / 1000 + 3 * (k : Int)) := by simpa using h
              rw [h]
              exact let_mem _
          · exact bm x (List.mem_of_mem_drop h)
      · have hh : ∀ k : Nat, ((baseOf c size).take at_ ++ [let_ (c / 1000 + 3 * (k : Int))] ++ (baseOf c size).drop at_)[at_]? = some (let_ (c / 1000 + 3 * (k : Int))) := by
          intro k
          have tk : ((baseOf c size).take at_).length = at_ := by rw [List.length_take, bl]; omega
          rw [List.append_assoc, List.getElem?_append_right (by omega), tk, Nat.sub_self]
          rfl
        have e : ((baseOf c size).take at_ ++ [let_ (c / 1000 + 3 * (i : Int))] ++ (baseOf c size).drop at_)[at_]? = ((baseOf c size).take at_ ++ [let_ (c / 1000 + 3 * (j : Int))] ++ (baseOf c size).drop at_)[at_]? := congrArg (fun l : List Nat => l[at_]?) (SX.S_inj e)
        rw [hh i, hh j] at e
        have e := Option.some.inj e
        rw [let_eq, let_eq] at e
        omega
end K1
namespace K1
open PySem PySem.Spec PyProof.Rows L2 Gr GxR Srx Skx Dcx
theorem lc_texts {D : Addr} {j n : Nat} {σ : L2.St} {vs : List Nat} {te : TE} {H H1 : Hp} {Qd : Hp → Prop} (F : Nat → Str) (few : n ≤ 1000) (gr : Gr H H1) (hD : H1 D = none) (hw : ∀ v, wipe ((wipe σ vs).set j (some v)) vs = wipe σ vs)
    (he : ∀ (k : Nat) (H4 : Hp) (Q' : VK), k < n → Q' (.str (F k)) H4 → te ((wipe σ vs).set j (some (.int ((0 : Int) + (k : Nat))))) H4 Q')
    (q : ∀ H2, Gr H H2 → H2 D = some (.lst (((List.range n).map F).map V.str)) → Qd H2) :
    ∃ W : Nat → Nat → Hp → Prop, (∃ m, W 0 m (upd H1 D (.lst []))) ∧ ∀ i m H, W i m H →
      ((Itr 0 n).stop i H ∧ Qd H) ∨ ((Itr 0 n).go i H ∧ ∃ Nx : Hp → Prop, (∀ H', Nx H' → ∃ m', m' < m ∧ W (i + 1) m' H') ∧ ∀ x H', (Itr 0 n).yld i H x H' → gName j x (wipe σ vs) H' fun σ2 H2 => wipe σ2 vs = wipe σ vs ∧ tYes σ2 H2 fun b H3 =>
        if b = true then te σ2 H3 fun y H4 => ∃ acc, H4 D = some (.lst acc) ∧ acc.length < sizeLine ∧ Nx (upd H4 D (.lst (acc ++ [y]))) else Nx H3) := by
  have hD0 : H D = none := gr.free hD
  refine lc_range (Qd := Qd) (fun i H2 => Gr H H2 ∧ H2 D = some (.lst (((List.range i).map F).map V.str))) ⟨gr.mut hD0, upd_same⟩ (fun i H2 hi h => ?_) (fun H2 h => q H2 h.1 h.2)
  obtain ⟨g2, e⟩ := h
  refine ⟨hw _, yesIf (he i H2 _ hi ⟨_, e, ?_, g2.mut hD0, ?_⟩)⟩
  · rw [List.length_map, List.length_map, List.length_range]
    exact small1000 (by omega)
  · rw [upd_same, List.range_succ, List.map_append, List.map_append]
    rfl
theorem let_at (x : Int) : atI (Str.ofString "abcdefghijklmnopqrstuvwxyz").cps.toList (x % 26) = some (let_ x) := by
  rw [letters_eq]
  show atI L0 (x % 26) = _
  have h0 : 0 ≤ x % 26 := Int.emod_nonneg _ (by omega)
  obtain ⟨j, hj⟩ := Int.eq_ofNat_of_zero_le h0
  rw [let_eq, hj]
  exact atI_nat (L0_at (by omega))
theorem joinL_ones : ∀ l : List Nat, TL.joinL [] (l.map fun x => [x]) = l
  | [] => rfl
  | [x] => rfl
  | x :: y :: r => by
    show [x] ++ ([] ++ _) = _
    rw [List.nil_append]
    exact congrArg (fun z => x :: z) (joinL_ones (y :: r))
section
variable {P : Program} {w : World} {K : PySem.W.Frag} {mg : Str → Option Value} {base : Heap} {f fD : Addr} {fd fdD : FuncData} {p : He.Defn} {T T2 : Addr}
def spNames (K : PySem.W.Frag) : Sp := fun vs H Q _ => ∃ (a : Addr) (ns : List Int), vs = [.ref a] ∧ SqL K H a (ns.map V.int) ∧ ∀ p H', Gr H H' → H p = none → H' p = some (.lst ((names (ns.getD 0 0)).map V.str)) → Q (.ref p) H'
end
end K1
namespace K1
open PySem PySem.Spec PyProof.Rows L2 Gr GxR Srx Skx Dcx
theorem cut_map (xs : List Str) (lo hi : Option Int) : ∃ zs : List Str, cutV (xs.map V.str) lo hi = zs.map V.str ∧ (∀ z ∈ zs, z ∈ xs) ∧ zs.length ≤ xs.length := by
  refine ⟨(xs.drop (HT.sIx (xs.map V.str).length 0 lo)).take (HT.sIx (xs.map V.str).length (xs.map V.str).length hi - HT.sIx (xs.map V.str).length 0 lo), ?_, fun z hz => List.mem_of_mem_drop (List.mem_of_mem_take hz), ?_⟩
  · unfold cutV
    rw [List.map_take, List.map_drop]
  · rw [List.length_take, List.length_drop]
    omega
theorem once_same {xs zs : List Str} (nd : xs.Nodup) (h : ∀ y, y ∈ zs ↔ y ∈ xs) : once zs = srt xs := by
  unfold once
  refine srt_eq ((List.perm_ext_iff_of_nodup (Sx.dd_nodup zs) nd).mpr fun q => ?_)
  rw [Sx.dd_mem]
  exact h q
def rLenQ (K : PySem.W.Frag) : List V → Hp → VK → Prop := fun xs H Q => ∃ p ys, xs = [V.ref p] ∧ (SqL K H p ys ∨ SqT K H p ys) ∧ Q (.int ys.length) H
structure Calls (P : Program) (w : World) (K : PySem.W.Frag) (mg : Str → Option Value) (base : Heap) (CX : CXT) (k : Nat) (x : Str) (sp : Sp) : Prop where
  ex : ∃ (f : Addr) (fd : FuncData) (ps : List Str), FnOk P w K mg base CX k f fd ps sp ∧ mg x = some (.ref f) ∧ PySem.W.keepIn K (.ref f) = true ∧ Binds K fd ps []
section
variable {X : Cx} {k j : Nat} {x : Str} {ps : List Str} {sp : Sp} {p pos : Pos} {e : Expr} {es : List Expr} {t : TA}
theorem pe_k (c : Calls X.prog X.w X.K X.mg X.base CX0 k x sp) (hr : Room j X.A) (hk : k ≤ j) (hg : Gl X x) (ha : PA X (e :: es) t)
    (hdb : (x == ("__debug__" : Str)) = false := by decide) (he : starEach (e :: es) X.env = (false, eval e X.env) :: starEach es X.env := by rfl) (hpl : (backTo pos (starEach es X.env)).any (·.1) = false := by rfl) :
    PE X (.Call (.Name x p) (e :: es) [] pos) (tCall sp [] E0 t) := by
  obtain ⟨f, fd, ps, F, hm, kp, b⟩ := c.ex
  exact pe_call F (hr.mono hk) hg hm kp b .nil pass0 ha hdb he hpl
theorem pe_kX (c : Calls X.prog X.w X.K X.mg X.base (L2.CX X.prog X.w) k x sp) (hr : Room j X.A) (hk : k ≤ j) (hg : Gl X x) (ha : PA X (e :: es) t)
    (hdb : (x == ("__debug__" : Str)) = false := by decide) (he : starEach (e :: es) X.env = (false, eval e X.env) :: starEach es X.env := by rfl) (hpl : (backTo pos (starEach es X.env)).any (·.1) = false := by rfl) :
    PE X (.Call (.Name x p) (e :: es) [] pos) (tCall sp [] E0 t) := by
  obtain ⟨f, fd, ps, F, hm, kp, b⟩ := c.ex
  exact pe_call F (hr.mono hk) hg hm kp b .nil passL ha hdb he hpl
end
section
variable {P : Program} {w : World} {K : PySem.W.Frag} {mg : Str → Option Value} {base : Heap} {f : Addr} {fd : FuncData} {p : He.Defn} {T TI TW TM TL C : Addr}
/-- what the law calls -/
structure Env1 (P : Program) (w : World) (K : PySem.W.Frag) (mg : Str → Option Value) (base : Heap) (TI TW TM TL C : Addr) : Prop where
  draw : Calls P w K mg base CX0 1 "_law_draw" (spDraw K)
  names : Calls P w K mg base CX0 2 "_law_names" (spNames K)
  row : Calls P w K mg base CX0 1 "_law_row" (spRow K)
  odd : Calls P w K mg base CX0 1 "_law_odd" (spOdd K)
  truth : Calls P w K mg base CX0 1 "_law_truth" spTruth
  lmeets : Calls P w K mg base CX0 1 "_law_meets" (spLMeets K)
  lwithin : Calls P w K mg base CX0 1 "_law_within" (spLWithin K)
  refused : Calls P w K mg base CX0 3 "_law_refused" (spRefused K TI)
  told : Calls P w K mg base CX0 6 "_law_told_right" (spTold TL TW)
  isname : Calls P w K mg base CX0 1 "is_name" (spIsName K TI)
  rising : Calls P w K mg base (L2.CX P w) 2 "rising" (spRising K TI C)
  within : Calls P w K mg base CX0 1 "within" (spWithin K TW)
  meets : Calls P w K mg base CX0 1 "meets" (spMeets K TM)
  gR : mg "range" = none
  gA : mg "all" = none
  gLi : mg "list" = none
  gL : mg "len" = none
  gS : mg "sorted" = none
def spLaw (K : PySem.W.Frag) (TI TW TM TL : Addr) : Sp := fun vs H Q _ => ∃ (a : Addr) (ns : List Int), vs = [.ref a] ∧ SqL K H a (ns.map V.int) ∧ TabG H TI ∧ TabG H TW ∧ TabG H TM ∧ TabG H TL ∧ ∀ H', Q (.bl true) H'
end
end K1
namespace K1
open PySem PySem.Spec PyProof.Rows L2 Srx
open PySem.W (dataLe dataLt DatumOrd Datum)
def ltS (a b : Str) : Prop := leS a b = true ∧ a ≠ b
def Ris (xs : List Str) : Prop := xs.Pairwise ltS
theorem ris_nil : Ris [] := List.Pairwise.nil
theorem Ris.nodup {xs : List Str} (h : Ris xs) : xs.Nodup := List.Pairwise.imp (fun z => z.2) h
theorem Ris.sorted {xs : List Str} (h : Ris xs) : xs.Pairwise (fun a b => leS a b = true) := List.Pairwise.imp (fun z => z.1) h
theorem ris_of {xs : List Str} (h : xs.Pairwise (fun a b => leS a b = true)) (n : xs.Nodup) : Ris xs := List.Pairwise.imp₂ (fun _ _ a b => ⟨a, b⟩) h n
theorem ris_sub {xs ys : List Str} (s : List.Sublist xs ys) (h : Ris ys) : Ris xs := List.Pairwise.sublist s h
theorem sublist_of : ∀ {N x : List Str}, Ris N → Ris x → (∀ y ∈ x, y ∈ N) → List.Sublist x N
  | [], [], _, _, _ => List.Sublist.refl _
  | [], a :: x, _, _, h => absurd (h a List.mem_cons_self) List.not_mem_nil
  | n :: N, [], _, _, _ => List.nil_sublist _
  | n :: N, a :: x, hN, hx, h => by
    obtain ⟨hn, hN'⟩ := List.pairwise_cons.mp hN
    obtain ⟨ha, hx'⟩ := List.pairwise_cons.mp hx
    by_cases e : a = n
    · subst e
      refine List.Sublist.cons₂ a (sublist_of hN' hx' fun y hy => ?_)
      rcases List.mem_cons.mp (h y (List.mem_cons_of_mem _ hy)) with z | z
      · exact absurd z.symm (ha y hy).2
      · exact z
    · have aN : a ∈ N := (List.mem_cons.mp (h a List.mem_cons_self)).resolve_left e
      refine List.Sublist.cons n (sublist_of hN' hx fun y hy => ?_)
      rcases List.mem_cons.mp (h y hy) with z | z
      · subst z
        rcases List.mem_cons.mp hy with w | w
        · exact absurd w.symm e
        · exact absurd (leS_anti (ha y w).1 (hn a aN).1) e
      · exact z
theorem ris_once (xs : List Str) : Ris (once xs) := ris_of (srt_sorted _) ((srt_perm _).nodup_iff.mpr (Sx.dd_nodup xs))
theorem once_mem {xs : List Str} {y : Str} : y ∈ once xs ↔ y ∈ xs := by
  unfold once
  rw [srt_mem, Sx.dd_mem]
theorem once_ris {xs : List Str} (h : Ris xs) : once xs = xs := by
  unfold once
  rw [Sx.dd_id h.nodup, srt_id h.sorted]
theorem wi_iff {a b : List Str} : wi a b = true ↔ ∀ y ∈ a, y ∈ b := by
  unfold wi
  rw [List.all_eq_true]
  exact ⟨fun h y hy => List.contains_iff_mem.mp (h y hy), fun h y hy => List.contains_iff_mem.mpr (h y hy)⟩
theorem wi_trans {a b c : List Str} (h1 : wi a b = true) (h2 : wi b c = true) : wi a c = true := wi_iff.mpr fun y hy => wi_iff.mp h2 y (wi_iff.mp h1 y hy)
theorem wi_anti {a b : List Str} (ha : Ris a) (hb : Ris b) (h1 : wi a b = true) (h2 : wi b a = true) : a = b := by
  have s1 := sublist_of hb ha (wi_iff.mp h1)
  have s2 := sublist_of ha hb (wi_iff.mp h2)
  exact s1.eq_of_length_le s2.length_le
theorem wi_len {a b : List Str} (ha : Ris a) (hb : Ris b) (h : wi a b = true) : a.length ≤ b.length := (sublist_of hb ha (wi_iff.mp h)).length_le
theorem wi_eq {a b : List Str} (ha : Ris a) (hb : Ris b) (h : wi a b = true) (l : b.length ≤ a.length) : a = b := (sublist_of hb ha (wi_iff.mp h)).eq_of_length_le l
theorem leR_len {a b : List Str} (h : leR a b = true) : a.length ≤ b.length := by
  rw [leR_eq, Bool.not_eq_true'] at h
  rw [← toD_eq, ← toD_eq, DatumOrd.lt_eq] at h
  have h : (if (b.length : Int) = a.length then PySem.W.listLt b a else decide ((b.length : Int) < a.length)) = false := h
  by_cases e : (b.length : Int) = a.length
  · omega
  · rw [if_neg e] at h
    have := of_decide_eq_false h
    omega
theorem keep_mem : ∀ L : List (List Str), L.Pairwise (fun a b => leR a b = true) → (∀ x ∈ L, Ris x) → ∀ z, z ∈ L.foldl keep [] ↔ z ∈ L ∧ ∀ y ∈ L, wi y z = true → y = z := by
  intro L
  refine snoc_ind (p := fun L => L.Pairwise (fun a b => leR a b = true) → (∀ x ∈ L, Ris x) → ∀ z, z ∈ L.foldl keep [] ↔ z ∈ L ∧ ∀ y ∈ L, wi y z = true → y = z) ?_ (fun L x ih => ?_) L
  · intro _ _ z
    simp
  · intro hs hr z
    obtain ⟨hs1, _, hs2⟩ := List.pairwise_append.mp hs
    have hr1 : ∀ y ∈ L, Ris y := fun y hy => hr y (List.mem_append_left _ hy)
    have hrx : Ris x := hr x (List.mem_append_right _ List.mem_cons_self)
    have ih := ih hs1 hr1
    have hlen : ∀ y ∈ L, y.length ≤ x.length := fun y hy => leR_len (hs2 y hy x List.mem_cons_self)
    rw [List.foldl_append]
    show z ∈ keep (L.foldl keep []) x ↔ _
    have up : ∀ z, z ∈ L.foldl keep [] → z ∈ L ++ [x] ∧ ∀ y ∈ L ++ [x], wi y z = true → y = z := by
      intro z hz
      obtain ⟨h1, h2⟩ := (ih z).mp hz
      refine ⟨List.mem_append_left _ h1, fun y hy w => ?_⟩
      rcases List.mem_append.mp hy with hy | hy
      · exact h2 y hy w
      · have hy : y = x := by simpa using hy
        subst hy
        exact wi_eq hrx (hr1 z h1) w (hlen z h1)
    unfold keep
    split
    · rename_i hany
      refine ⟨up z, fun ⟨h1, h2⟩ => ?_⟩
      have zL : z ∈ L := by
        rcases List.mem_append.mp h1 with h1 | h1
        · exact h1
        · have h1 : z = x := by simpa using h1
          subst h1
          obtain ⟨a, ha, wa⟩ := List.any_eq_true.mp hany
          have aL := ((ih a).mp ha).1
          rw [← h2 a (List.mem_append_left _ aL) wa]
          exact aL
      exact (ih z).mpr ⟨zL, fun y hy => h2 y (List.mem_append_left _ hy)⟩
    · rename_i hany
      constructor
      · intro hz
        rcases List.mem_append.mp hz with hz | hz
        · exact up z hz
        · have hz : z = x := by simpa using hz
          subst hz
          refine ⟨List.mem_append_right _ List.mem_cons_self, fun y hy w => ?_⟩
          rcases List.mem_append.mp hy with hy | hy
          · obtain ⟨a, ha, wa⟩ := List.any_eq_true.mp (fold_any L [] y (.inr hy))
            exact (hany (List.any_eq_true.mpr ⟨a, ha, wi_trans wa w⟩)).elim
          · simpa using hy
      · intro ⟨h1, h2⟩
        rcases List.mem_append.mp h1 with h1 | h1
        · exact List.mem_append_left _ ((ih z).mpr ⟨h1, fun y hy => h2 y (List.mem_append_left _ hy)⟩)
        · exact List.mem_append_right _ h1
theorem keep_nodup : ∀ L : List (List Str), (L.foldl keep []).Nodup := by
  intro L
  refine snoc_ind (p := fun L => (L.foldl keep []).Nodup) List.nodup_nil (fun L x ih => ?_) L
  rw [List.foldl_append]
  show (keep (L.foldl keep []) x).Nodup
  unfold keep
  split
  · exact ih
  · rename_i hany
    refine List.nodup_append.mpr ⟨ih, by simp, fun a ha b hb e => ?_⟩
    have hb : b = x := by simpa using hb
    subst hb
    subst e
    exact hany (List.any_eq_true.mpr ⟨a, ha, wi_self a⟩)
theorem keep_sorted {L : List (List Str)} (h : L.Pairwise (fun a b => leR a b = true)) : (L.foldl keep []).Pairwise (fun a b => leR a b = true) := by
  have s : ∀ (l acc : List (List Str)), List.Sublist (l.foldl keep acc) (acc ++ l) := by
    intro l
    induction l with
    | nil => intro acc; rw [List.append_nil]; exact List.Sublist.refl _
    | cons x l ih =>
      intro acc
      rw [List.foldl_cons]
      refine (ih _).trans ?_
      unfold keep
      split
      · exact List.Sublist.append (List.Sublist.refl _) (List.sublist_cons_self _ _)
      · rw [List.append_assoc]
        exact List.Sublist.refl _
  exact h.sublist (s L [])
def RisAll (l : List (List Str)) : Prop := ∀ x ∈ l, Ris x
theorem least_mem {l : List (List Str)} (h : RisAll l) {z : List Str} : z ∈ least l ↔ z ∈ l ∧ ∀ y ∈ l, wi y z = true → y = z := by
  rw [least_eq, keep_mem _ (rkd_sorted l) (fun x hx => h x ((rkd_perm l).mem_iff.mp hx))]
  constructor
  · intro ⟨h1, h2⟩
    exact ⟨(rkd_perm l).mem_iff.mp h1, fun y hy => h2 y ((rkd_perm l).mem_iff.mpr hy)⟩
  · intro ⟨h1, h2⟩
    exact ⟨(rkd_perm l).mem_iff.mpr h1, fun y hy => h2 y ((rkd_perm l).mem_iff.mp hy)⟩
theorem least_nodup (l : List (List Str)) : (least l).Nodup := by
  rw [least_eq]
  exact keep_nodup _
theorem least_sorted (l : List (List Str)) : (least l).Pairwise (fun a b => leR a b = true) := by
  rw [least_eq]
  exact keep_sorted (rkd_sorted l)
theorem least_one {xs ys : List (List Str)} (n1 : xs.Nodup) (n2 : ys.Nodup) (h1 : xs.Pairwise (fun a b => leR a b = true)) (h2 : ys.Pairwise (fun a b => leR a b = true)) (h : ∀ z, z ∈ xs ↔ z ∈ ys) : xs = ys :=
  rkd_one ((List.perm_ext_iff_of_nodup n1 n2).mpr h) h1 h2
/-- below each one lies a least one -/
theorem least_below {l : List (List Str)} {y : List Str} (hy : y ∈ l) : ∃ m ∈ least l, wi m y = true := by
  rw [least_eq]
  exact List.any_eq_true.mp (fold_any (rkd l) [] y (.inr ((rkd_perm l).mem_iff.mpr hy)))
theorem least_sub {l : List (List Str)} (h : RisAll l) {z : List Str} (hz : z ∈ least l) : z ∈ l := ((least_mem h).mp hz).1
theorem least_ris {l : List (List Str)} (h : RisAll l) : RisAll (least l) := fun z hz => h z (least_sub h hz)
/-- two lists, each with one below each of the other: the same least ones -/
theorem least_ext {A B : List (List Str)} (hA : RisAll A) (hB : RisAll B) (ab : ∀ a ∈ A, ∃ b ∈ B, wi b a = true) (ba : ∀ b ∈ B, ∃ a ∈ A, wi a b = true) : least A = least B := by
  have half : ∀ {A B : List (List Str)}, RisAll A → RisAll B → (∀ a ∈ A, ∃ b ∈ B, wi b a = true) → (∀ b ∈ B, ∃ a ∈ A, wi a b = true) → ∀ z, z ∈ least A → z ∈ least B := by
    intro A B hA hB ab ba z hz
    obtain ⟨zA, zmin⟩ := (least_mem hA).mp hz
    have key : ∀ b ∈ B, wi b z = true → b = z := by
      intro b hb w
      obtain ⟨a, ha, wa⟩ := ba b hb
      have e := zmin a ha (wi_trans wa w)
      subst e
      exact wi_anti (hB b hb) (hA a ha) w wa
    obtain ⟨b, hb, w⟩ := ab z zA
    have e := key b hb w
    subst e
    exact (least_mem hB).mpr ⟨hb, key⟩
  exact least_one (least_nodup A) (least_nodup B) (least_sorted A) (least_sorted B) fun z => ⟨half hA hB ab ba z, half hB hA ba ab z⟩
theorem least_idem {l : List (List Str)} (h : RisAll l) : least (least l) = least l :=
  least_ext (least_ris h) h (fun a ha => ⟨a, least_sub h ha, wi_self a⟩) fun b hb => least_below hb
def box (N : List Str) : List (List Str) := N.foldl (fun acc n => acc ++ acc.map (· ++ [n])) [[]]
theorem box_snoc (N : List Str) (n : Str) : box (N ++ [n]) = box N ++ (box N).map (· ++ [n]) := by
  unfold box
  rw [List.foldl_append]
  rfl
theorem sub_snoc {x N : List Str} {n : Str} : List.Sublist x (N ++ [n]) ↔ List.Sublist x N ∨ ∃ y, x = y ++ [n] ∧ List.Sublist y N := by
  rw [List.sublist_append_iff]
  constructor
  · rintro ⟨a, b, rfl, ha, hb⟩
    cases hb with
    | cons _ hb =>
      cases hb
      rw [List.append_nil]
      exact .inl ha
    | cons_cons _ hb =>
      cases hb
      exact .inr ⟨a, rfl, ha⟩
  · rintro (h | ⟨y, rfl, hy⟩)
    · exact ⟨x, [], by rw [List.append_nil], h, List.nil_sublist _⟩
    · exact ⟨y, [n], rfl, hy, List.Sublist.refl _⟩
theorem box_sub {N : List Str} : ∀ x, x ∈ box N ↔ List.Sublist x N := by
  refine snoc_ind (p := fun N => ∀ x, x ∈ box N ↔ List.Sublist x N) ?_ (fun N n ih => ?_) N
  · intro x
    show x ∈ [[]] ↔ _
    rw [List.mem_singleton, List.sublist_nil]
  · intro x
    rw [box_snoc, List.mem_append, ih, sub_snoc]
    refine or_congr_right ?_
    rw [List.mem_map]
    constructor
    · rintro ⟨y, hy, rfl⟩
      exact ⟨y, rfl, (ih y).mp hy⟩
    · rintro ⟨y, rfl, hy⟩
      exact ⟨y, (ih y).mpr hy, rfl⟩
theorem box_mem {N x : List Str} (h : Ris N) : x ∈ box N ↔ Ris x ∧ ∀ y ∈ x, y ∈ N := by
  rw [box_sub]
  exact ⟨fun s => ⟨ris_sub s h, fun y hy => s.subset hy⟩, fun ⟨h1, h2⟩ => sublist_of h h1 h2⟩
/-- meets a row -/
def mt (s r : List Str) : Bool := s.any r.contains
theorem mt_iff {s r : List Str} : mt s r = true ↔ ∃ y ∈ s, y ∈ r := by
  unfold mt
  rw [List.any_eq_true]
  exact ⟨fun ⟨y, h1, h2⟩ => ⟨y, h1, List.contains_iff_mem.mp h2⟩, fun ⟨y, h1, h2⟩ => ⟨y, h1, List.contains_iff_mem.mpr h2⟩⟩
theorem mt_mono {s t r : List Str} (w : wi s t = true) (h : mt s r = true) : mt t r = true := by
  obtain ⟨y, h1, h2⟩ := mt_iff.mp h
  exact mt_iff.mpr ⟨y, wi_iff.mp w y h1, h2⟩
/-- meets each row -/
def mtAll (s : List Str) (rows : List (List Str)) : Bool := rows.all (mt s)
theorem mtAll_mono {s t : List Str} {rows : List (List Str)} (w : wi s t = true) (h : mtAll s rows = true) : mtAll t rows = true := by
  unfold mtAll at *
  rw [List.all_eq_true] at *
  exact fun r hr => mt_mono w (h r hr)
/-- the sets of N's names that meet all rows -/
def tr (N : List Str) (rows : List (List Str)) : List (List Str) := (box N).filter fun s => mtAll s rows
theorem tr_mem {N x : List Str} {rows : List (List Str)} (h : Ris N) : x ∈ tr N rows ↔ (Ris x ∧ ∀ y ∈ x, y ∈ N) ∧ mtAll x rows = true := by
  unfold tr
  rw [List.mem_filter, box_mem h]
theorem tr_ris {N : List Str} {rows : List (List Str)} (h : Ris N) : RisAll (tr N rows) := fun x hx => ((tr_mem h).mp hx).1.1
def cand (S : List (List Str)) (r : List Str) : List (List Str) := S.flatMap fun s => if mt s r = true then [s] else r.map fun x => once (s ++ [x])
theorem cand_mem {S : List (List Str)} {r z : List Str} : z ∈ cand S r ↔ ∃ s ∈ S, (mt s r = true ∧ z = s) ∨ (mt s r = false ∧ ∃ x ∈ r, z = once (s ++ [x])) := by
  unfold cand
  rw [List.mem_flatMap]
  refine exists_congr fun s => and_congr_right fun _ => ?_
  cases e : mt s r with
  | true => simp
  | false => simp [eq_comm]
theorem cand_ris {S : List (List Str)} {r : List Str} (h : RisAll S) : RisAll (cand S r) := by
  intro z hz
  obtain ⟨s, hs, h1⟩ := cand_mem.mp hz
  rcases h1 with ⟨_, rfl⟩ | ⟨_, x, _, rfl⟩
  · exact h _ hs
  · exact ris_once _
theorem wi_once {s : List Str} {x : Str} : wi s (once (s ++ [x])) = true := wi_iff.mpr fun y hy => once_mem.mpr (List.mem_append_left _ hy)
/-- ONE ROW MORE: the least sets behind it are the least ones of the candidates -/
theorem berge {N : List Str} {rows : List (List Str)} {r : List Str} (hN : Ris N) (hr : ∀ y ∈ r, y ∈ N) : least (tr N (rows ++ [r])) = least (cand (least (tr N rows)) r) := by
  have rT := tr_ris (rows := rows) hN
  refine least_ext (tr_ris hN) (cand_ris (least_ris rT)) (fun t ht => ?_) fun b hb => ?_
  · obtain ⟨⟨t1, t2⟩, t3⟩ := (tr_mem hN).mp ht
    unfold mtAll at t3
    rw [List.all_append, Bool.and_eq_true] at t3
    obtain ⟨s, hs, w⟩ := least_below ((tr_mem hN).mpr ⟨⟨t1, t2⟩, t3.1⟩)
    cases e : mt s r with
    | true => exact ⟨s, cand_mem.mpr ⟨s, hs, .inl ⟨e, rfl⟩⟩, w⟩
    | false =>
      have m : mt t r = true := by simpa using t3.2
      obtain ⟨x, hx, xr⟩ := mt_iff.mp m
      refine ⟨once (s ++ [x]), cand_mem.mpr ⟨s, hs, .inr ⟨e, x, xr, rfl⟩⟩, wi_iff.mpr fun y hy => ?_⟩
      rcases List.mem_append.mp (once_mem.mp hy) with z | z
      · exact wi_iff.mp w y z
      · have z : y = x := by simpa using z
        rw [z]; exact hx
  · obtain ⟨s, hs, h1⟩ := cand_mem.mp hb
    obtain ⟨⟨s1, s2⟩, s3⟩ := (tr_mem hN).mp (least_sub rT hs)
    rcases h1 with ⟨m, rfl⟩ | ⟨_, x, xr, rfl⟩
    · refine ⟨b, (tr_mem hN).mpr ⟨⟨s1, s2⟩, ?_⟩, wi_self b⟩
      unfold mtAll at *
      rw [List.all_append, s3]
      simpa using m
    · refine ⟨_, (tr_mem hN).mpr ⟨⟨ris_once _, fun y hy => ?_⟩, ?_⟩, wi_self _⟩
      · rcases List.mem_append.mp (once_mem.mp hy) with z | z
        · exact s2 y z
        · have z : y = x := by simpa using z
          rw [z]; exact hr x xr
      · have m := mtAll_mono (wi_once (x := x)) s3
        unfold mtAll at *
        rw [List.all_append, m]
        have : mt (once (s ++ [x])) r = true := mt_iff.mpr ⟨x, once_mem.mpr (List.mem_append_right _ List.mem_cons_self), xr⟩
        simpa using this
theorem least_start {N : List Str} (hN : Ris N) : least (tr N []) = [[]] := by
  have e : least (tr N []) = least [[]] := least_ext (tr_ris hN) (fun x hx => by rw [List.mem_singleton.mp hx]; exact ris_nil) (fun a _ => ⟨[], List.mem_singleton.mpr rfl, rfl⟩) fun b hb => ⟨[], (tr_mem hN).mpr ⟨⟨ris_nil, fun _ z => absurd z List.not_mem_nil⟩, rfl⟩, rfl⟩
  rw [e]
  unfold least rkd
  rw [show ddG ([[]] : List (List Str)) = [[]] from rfl, List.mergeSort_singleton]
  rfl
/-- row by row, from the empty set on -/
def grown (rows : List (List Str)) : List (List Str) := rows.foldl (fun S r => least (cand S r)) [[]]
theorem grown_eq {N : List Str} (hN : Ris N) : ∀ rows : List (List Str), (∀ r ∈ rows, ∀ y ∈ r, y ∈ N) → grown rows = least (tr N rows) := by
  intro rows
  refine snoc_ind (p := fun rows => (∀ r ∈ rows, ∀ y ∈ r, y ∈ N) → grown rows = least (tr N rows)) (fun _ => (least_start hN).symm) (fun rows r ih => ?_) rows
  intro h
  have ih := ih fun r' hr' => h r' (List.mem_append_left _ hr')
  unfold grown at *
  rw [List.foldl_append]
  show least (cand (rows.foldl _ [[]]) r) = _
  rw [ih, berge hN (h r (List.mem_append_right _ List.mem_cons_self))]
end K1
namespace K1
open PySem PySem.Spec PyProof.Rows L2 Srx
/-- x is a least set of the rows -/
def Lst (rows : List (List Str)) (x : List Str) : Prop := Ris x ∧ mtAll x rows = true ∧ ∀ y, Ris y → mtAll y rows = true → wi y x = true → y = x
theorem mtAll_iff {x : List Str} {rows : List (List Str)} : mtAll x rows = true ↔ ∀ r ∈ rows, ∃ y ∈ x, y ∈ r := by
  unfold mtAll
  rw [List.all_eq_true]
  exact forall_congr' fun r => imp_congr_right fun _ => mt_iff
def allN (rows : List (List Str)) : List Str := once rows.flatten
theorem allN_mem {rows : List (List Str)} {r : List Str} {y : Str} (hr : r ∈ rows) (hy : y ∈ r) : y ∈ allN rows := once_mem.mpr (List.mem_flatten.mpr ⟨r, hr, hy⟩)
theorem ris_filter {x : List Str} (p : Str → Bool) (h : Ris x) : Ris (x.filter p) := ris_sub List.filter_sublist h
theorem wi_filter {x : List Str} (p : Str → Bool) : wi (x.filter p) x = true := wi_iff.mpr fun y hy => (List.mem_filter.mp hy).1
theorem grown_mem {rows : List (List Str)} {x : List Str} : x ∈ grown rows ↔ Lst rows x := by
  have hN : Ris (allN rows) := ris_once _
  rw [grown_eq hN rows fun r hr y hy => allN_mem hr hy, least_mem (tr_ris hN), tr_mem hN]
  constructor
  · rintro ⟨⟨⟨h1, h2⟩, h3⟩, h4⟩
    exact ⟨h1, h3, fun y y1 y2 w => h4 y ((tr_mem hN).mpr ⟨⟨y1, fun z hz => h2 z (wi_iff.mp w z hz)⟩, y2⟩) w⟩
  · rintro ⟨h1, h3, h4⟩
    refine ⟨⟨⟨h1, ?_⟩, h3⟩, fun y hy w => ?_⟩
    · have e := h4 (x.filter fun y => decide (y ∈ allN rows)) (ris_filter _ h1) (mtAll_iff.mpr fun r hr => by
        obtain ⟨y, y1, y2⟩ := mtAll_iff.mp h3 r hr
        exact ⟨y, List.mem_filter.mpr ⟨y1, decide_eq_true (allN_mem hr y2)⟩, y2⟩) (wi_filter _)
      intro y hy
      rw [← e] at hy
      exact of_decide_eq_true (List.mem_filter.mp hy).2
    · obtain ⟨⟨y1, y2⟩, y3⟩ := (tr_mem hN).mp hy
      exact h4 y y1 y3 w
theorem grown_nodup (rows : List (List Str)) : (grown rows).Nodup := by
  rw [grown_eq (ris_once _) rows fun r hr y hy => allN_mem hr hy]
  exact least_nodup _
theorem grown_sorted (rows : List (List Str)) : (grown rows).Pairwise (fun a b => leR a b = true) := by
  rw [grown_eq (ris_once _) rows fun r hr y hy => allN_mem hr hy]
  exact least_sorted _
theorem grown_ris (rows : List (List Str)) : RisAll (grown rows) := fun x hx => (grown_mem.mp hx).1
/-- told lists of sets are one where they hold the same -/
theorem grown_one {xs : List (List Str)} {rows : List (List Str)} (n : xs.Nodup) (s : xs.Pairwise (fun a b => leR a b = true)) (h : ∀ z, z ∈ xs ↔ Lst rows z) : xs = grown rows :=
  least_one n (grown_nodup rows) s (grown_sorted rows) fun z => (h z).trans grown_mem.symm
theorem lst_congr {rows rows' : List (List Str)} (h : ∀ x, mtAll x rows = mtAll x rows') {x : List Str} : Lst rows x ↔ Lst rows' x := by
  unfold Lst
  simp only [h]
theorem grown_congr {rows rows' : List (List Str)} (h : ∀ x, mtAll x rows = mtAll x rows') : grown rows = grown rows' :=
  least_one (grown_nodup _) (grown_nodup _) (grown_sorted _) (grown_sorted _) fun z => grown_mem.trans ((lst_congr h).trans grown_mem.symm)
theorem lst_below {rows : List (List Str)} {x : List Str} (hx : Ris x) (h : mtAll x rows = true) : ∃ m, Lst rows m ∧ wi m x = true := by
  have hN : Ris (once (x ++ rows.flatten)) := ris_once _
  have hr : ∀ r ∈ rows, ∀ y ∈ r, y ∈ once (x ++ rows.flatten) := fun r hr y hy => once_mem.mpr (List.mem_append_right _ (List.mem_flatten.mpr ⟨r, hr, hy⟩))
  obtain ⟨m, hm, w⟩ := least_below ((tr_mem (rows := rows) hN).mpr ⟨⟨hx, fun y hy => once_mem.mpr (List.mem_append_left _ hy)⟩, h⟩)
  rw [← grown_eq hN rows hr] at hm
  exact ⟨m, grown_mem.mp hm, w⟩
theorem lst_own {rows : List (List Str)} {x : List Str} : Lst rows x ↔ Ris x ∧ mtAll x rows = true ∧ ∀ y ∈ x, ∃ r ∈ rows, y ∈ r ∧ ∀ z ∈ x, z ∈ r → z = y := by
  constructor
  · rintro ⟨h1, h2, h3⟩
    refine ⟨h1, h2, fun y hy => Classical.byContradiction fun no => ?_⟩
    have e := h3 (x.filter fun z => decide (z ≠ y)) (ris_filter _ h1) (mtAll_iff.mpr fun r hr => ?_) (wi_filter _)
    · rw [← e] at hy
      exact of_decide_eq_true (List.mem_filter.mp hy).2 rfl
    · obtain ⟨z, z1, z2⟩ := mtAll_iff.mp h2 r hr
      by_cases ez : z = y
      · subst ez
        exact Classical.byContradiction fun no2 => no ⟨r, hr, z2, fun u u1 u2 => Classical.byContradiction fun ne => no2 ⟨u, List.mem_filter.mpr ⟨u1, decide_eq_true ne⟩, u2⟩⟩
      · exact ⟨z, List.mem_filter.mpr ⟨z1, decide_eq_true ez⟩, z2⟩
  · rintro ⟨h1, h2, h3⟩
    refine ⟨h1, h2, fun y y1 y2 w => wi_anti y1 h1 w (wi_iff.mpr fun u hu => ?_)⟩
    obtain ⟨r, hr, ur, own⟩ := h3 u hu
    obtain ⟨z, z1, z2⟩ := mtAll_iff.mp y2 r hr
    rw [← own z (wi_iff.mp w z z1) z2]
    exact z1
theorem risAll_once (rows : List (List Str)) : RisAll (rows.map once) := fun x hx => by
  obtain ⟨r, _, rfl⟩ := List.mem_map.mp hx
  exact ris_once r
theorem mtAll_once (x : List Str) (rows : List (List Str)) : mtAll x (rows.map once) = mtAll x rows := by
  rw [Bool.eq_iff_iff, mtAll_iff, mtAll_iff]
  constructor
  · intro h r hr
    obtain ⟨y, y1, y2⟩ := h (once r) (List.mem_map.mpr ⟨r, hr, rfl⟩)
    exact ⟨y, y1, once_mem.mp y2⟩
  · intro h r' hr'
    obtain ⟨r, hr, rfl⟩ := List.mem_map.mp hr'
    obtain ⟨y, y1, y2⟩ := h r hr
    exact ⟨y, y1, once_mem.mpr y2⟩
theorem mtAll_least (x : List Str) (rows : List (List Str)) : mtAll x (least (rows.map once)) = mtAll x rows := by
  rw [← mtAll_once x rows, Bool.eq_iff_iff, mtAll_iff, mtAll_iff]
  constructor
  · intro h r hr
    obtain ⟨m, hm, w⟩ := least_below hr
    obtain ⟨y, y1, y2⟩ := h m hm
    exact ⟨y, y1, wi_iff.mp w y y2⟩
  · exact fun h r hr => h r (least_sub (risAll_once rows) hr)
theorem grown_least_rows (rows : List (List Str)) : grown (least (rows.map once)) = grown rows := grown_congr fun x => mtAll_least x rows
/-- THERE AND BACK: the least sets of the book of the least sets are the least rows -/
theorem grown_grown (rows : List (List Str)) : grown (grown rows) = least (rows.map once) := by
  refine (grown_one (rows := grown rows) (least_nodup _) (least_sorted _) fun z => ?_).symm
  have rB := risAll_once rows
  have row_meets : ∀ r ∈ rows, mtAll (once r) (grown rows) = true := fun r hr => mtAll_iff.mpr fun s hs => by
    obtain ⟨y, y1, y2⟩ := mtAll_iff.mp (grown_mem.mp hs).2.1 r hr
    exact ⟨y, once_mem.mpr y2, y1⟩
  have below : ∀ t, Ris t → mtAll t (grown rows) = true → ∃ r ∈ rows, wi (once r) t = true := by
    intro t ht hm
    refine Classical.byContradiction fun no => ?_
    have hc : mtAll ((allN rows).filter fun y => !decide (y ∈ t)) rows = true := mtAll_iff.mpr fun r hr => Classical.byContradiction fun no2 => no ⟨r, hr, wi_iff.mpr fun y hy => Classical.byContradiction fun ny => no2 ⟨y, List.mem_filter.mpr ⟨allN_mem hr (once_mem.mp hy), by simp [ny]⟩, once_mem.mp hy⟩⟩
    obtain ⟨m, hm2, w⟩ := lst_below (ris_filter _ (ris_once _)) hc
    obtain ⟨y, y1, y2⟩ := mtAll_iff.mp hm m (grown_mem.mpr hm2)
    have := (List.mem_filter.mp (wi_iff.mp w y y2)).2
    simp [y1] at this
  rw [least_mem rB]
  constructor
  · rintro ⟨h1, h2⟩
    obtain ⟨r, hr, rfl⟩ := List.mem_map.mp h1
    refine ⟨ris_once r, row_meets r hr, fun y y1 y2 w => ?_⟩
    obtain ⟨r2, hr2, w2⟩ := below y y1 y2
    have e := h2 (once r2) (List.mem_map.mpr ⟨r2, hr2, rfl⟩) (wi_trans w2 w)
    rw [e] at w2
    exact wi_anti y1 (ris_once r) w w2
  · rintro ⟨h1, h2, h3⟩
    obtain ⟨r, hr, w⟩ := below z h1 h2
    have e := h3 (once r) (ris_once r) (row_meets r hr) w
    refine ⟨List.mem_map.mpr ⟨r, hr, e⟩, fun y hy w2 => ?_⟩
    obtain ⟨r2, hr2, rfl⟩ := List.mem_map.mp hy
    exact h3 (once r2) (ris_once r2) (row_meets r2 hr2) w2
def strike (n : Str) (rows : List (List Str)) : List (List Str) := rows.map fun r => r.filter fun y => decide (y ≠ n)
def away (n : Str) (rows : List (List Str)) : List (List Str) := rows.filter fun r => !r.contains n
theorem away_mem {n : Str} {rows : List (List Str)} {r : List Str} : r ∈ away n rows ↔ r ∈ rows ∧ n ∉ r := by
  unfold away
  rw [List.mem_filter]
  refine and_congr_right fun _ => ?_
  rw [Bool.not_eq_true', ← Bool.not_eq_true, List.contains_iff_mem]
theorem mtAll_strike {n : Str} {rows : List (List Str)} {x : List Str} (hn : n ∉ x) : mtAll x (strike n rows) = mtAll x rows := by
  unfold strike
  rw [Bool.eq_iff_iff, mtAll_iff, mtAll_iff]
  constructor
  · intro h r hr
    obtain ⟨y, y1, y2⟩ := h _ (List.mem_map.mpr ⟨r, hr, rfl⟩)
    exact ⟨y, y1, (List.mem_filter.mp y2).1⟩
  · intro h r' hr'
    obtain ⟨r, hr, rfl⟩ := List.mem_map.mp hr'
    obtain ⟨y, y1, y2⟩ := h r hr
    exact ⟨y, y1, List.mem_filter.mpr ⟨y2, decide_eq_true fun e => hn (e ▸ y1)⟩⟩
theorem lst_strike {n : Str} {rows : List (List Str)} {x : List Str} : Lst (strike n rows) x ↔ Lst rows x ∧ n ∉ x := by
  constructor
  · intro h
    have hn : n ∉ x := fun hx => by
      obtain ⟨r', hr', h1, _⟩ := (lst_own.mp h).2.2 n hx
      obtain ⟨r, hr, rfl⟩ := List.mem_map.mp hr'
      exact of_decide_eq_true (List.mem_filter.mp h1).2 rfl
    obtain ⟨h1, h2, h3⟩ := h
    refine ⟨⟨h1, (mtAll_strike hn).symm.trans h2, fun y y1 y2 w => h3 y y1 ?_ w⟩, hn⟩
    rw [mtAll_strike fun hy => hn (wi_iff.mp w n hy)]
    exact y2
  · rintro ⟨⟨h1, h2, h3⟩, hn⟩
    refine ⟨h1, (mtAll_strike hn).trans h2, fun y y1 y2 w => h3 y y1 ?_ w⟩
    rw [← mtAll_strike fun hy => hn (wi_iff.mp w n hy)]
    exact y2
theorem lst_with {n : Str} {rows : List (List Str)} {x : List Str} : Lst rows x ∧ n ∈ x ↔ ∃ s, Lst (away n rows) s ∧ mtAll s rows = false ∧ x = once (s ++ [n]) := by
  constructor
  · rintro ⟨h, hn⟩
    obtain ⟨h1, h2, h3⟩ := lst_own.mp h
    have ms : ∀ z, z ∈ x.filter (fun z => decide (z ≠ n)) ↔ z ∈ x ∧ z ≠ n := fun z => by
      rw [List.mem_filter, decide_eq_true_iff]
    refine ⟨x.filter fun z => decide (z ≠ n), lst_own.mpr ⟨ris_filter _ h1, mtAll_iff.mpr fun r hr => ?_, fun y hy => ?_⟩, ?_, ?_⟩
    · obtain ⟨r1, r2⟩ := away_mem.mp hr
      obtain ⟨z, z1, z2⟩ := mtAll_iff.mp h2 r r1
      exact ⟨z, (ms z).mpr ⟨z1, fun e => r2 (e ▸ z2)⟩, z2⟩
    · obtain ⟨y1, y2⟩ := (ms y).mp hy
      obtain ⟨r, r1, r2, own⟩ := h3 y y1
      exact ⟨r, away_mem.mpr ⟨r1, fun z => y2 (own n hn z).symm⟩, r2, fun z hz => own z ((ms z).mp hz).1⟩
    · obtain ⟨r, r1, r2, own⟩ := h3 n hn
      refine Bool.eq_false_iff.mpr fun z => ?_
      obtain ⟨u, u1, u2⟩ := mtAll_iff.mp z r r1
      exact ((ms u).mp u1).2 (own u ((ms u).mp u1).1 u2)
    · refine wi_anti h1 (ris_once _) (wi_iff.mpr fun y hy => once_mem.mpr ?_) (wi_iff.mpr fun y hy => ?_)
      · by_cases e : y = n
        · exact List.mem_append_right _ (by rw [e]; exact List.mem_cons_self)
        · exact List.mem_append_left _ ((ms y).mpr ⟨hy, e⟩)
      · rcases List.mem_append.mp (once_mem.mp hy) with z | z
        · exact ((ms y).mp z).1
        · rw [List.mem_singleton.mp z]; exact hn
  · rintro ⟨s, h, bad, rfl⟩
    obtain ⟨h1, h2, h3⟩ := lst_own.mp h
    have mo : ∀ z, z ∈ once (s ++ [n]) ↔ z ∈ s ∨ z = n := fun z => by
      rw [once_mem, List.mem_append, List.mem_singleton]
    refine ⟨lst_own.mpr ⟨ris_once _, mtAll_iff.mpr fun r hr => ?_, fun y hy => ?_⟩, (mo n).mpr (.inr rfl)⟩
    · by_cases hn : n ∈ r
      · exact ⟨n, (mo n).mpr (.inr rfl), hn⟩
      · obtain ⟨y, y1, y2⟩ := mtAll_iff.mp h2 r (away_mem.mpr ⟨hr, hn⟩)
        exact ⟨y, (mo y).mpr (.inl y1), y2⟩
    · rcases (mo y).mp hy with hs | rfl
      · obtain ⟨r, r1, r2, own⟩ := h3 y hs
        obtain ⟨r3, r4⟩ := away_mem.mp r1
        refine ⟨r, r3, r2, fun z hz zr => ?_⟩
        rcases (mo z).mp hz with k | k
        · exact own z k zr
        · exact absurd (k ▸ zr) r4
      · have ex : ∃ r ∈ rows, ¬ ∃ z ∈ s, z ∈ r := Classical.byContradiction fun no => by
          have : mtAll s rows = true := mtAll_iff.mpr fun r hr => Classical.byContradiction fun k => no ⟨r, hr, k⟩
          rw [this] at bad
          cases bad
        obtain ⟨r, hr, none_⟩ := ex
        refine ⟨r, hr, Classical.byContradiction fun ny => none_ ?_, fun z hz zr => ?_⟩
        · obtain ⟨z, z1, z2⟩ := mtAll_iff.mp h2 r (away_mem.mpr ⟨hr, ny⟩)
          exact ⟨z, z1, z2⟩
        · rcases (mo z).mp hz with k | k
          · exact absurd ⟨z, k, zr⟩ none_
          · exact k
end K1
namespace K1
open PySem PySem.Spec PyProof.Rows L2 Srx
/-- sets that meet all, one of them below each that does: their least ones are the least sets -/
theorem least_grown {B rows : List (List Str)} (hB : RisAll B) (all : ∀ b ∈ B, mtAll b rows = true) (below : ∀ x, Ris x → mtAll x rows = true → ∃ b ∈ B, wi b x = true) : least B = grown rows := by
  refine grown_one (least_nodup _) (least_sorted _) fun z => ?_
  rw [least_mem hB]
  constructor
  · rintro ⟨h1, h2⟩
    refine ⟨hB z h1, all z h1, fun y y1 y2 w => ?_⟩
    obtain ⟨b, hb, wb⟩ := below y y1 y2
    have e := h2 b hb (wi_trans wb w)
    rw [e] at wb
    exact wi_anti y1 (hB z h1) w wb
  · rintro ⟨h1, h2, h3⟩
    obtain ⟨b, hb, wb⟩ := below z h1 h2
    have e := h3 b (hB b hb) (all b hb) wb
    subst e
    exact ⟨hb, fun y hy w => h3 y (hB y hy) (all y hy) w⟩
def unions (A B : List (List Str)) : List (List Str) := A.flatMap fun a => B.map fun b => once (a ++ b)
theorem unions_mem {A B : List (List Str)} {z : List Str} : z ∈ unions A B ↔ ∃ a ∈ A, ∃ b ∈ B, z = once (a ++ b) := by
  unfold unions
  rw [List.mem_flatMap]
  refine exists_congr fun a => and_congr_right fun _ => ?_
  rw [List.mem_map]
  exact exists_congr fun b => and_congr_right fun _ => eq_comm
theorem mtAll_append (x : List Str) (A B : List (List Str)) : mtAll x (A ++ B) = (mtAll x A && mtAll x B) := by
  unfold mtAll
  rw [List.all_append]
theorem joined_eq (A B : List (List Str)) : least (unions (grown A) (grown B)) = grown (A ++ B) := by
  refine least_grown (fun z hz => ?_) (fun z hz => ?_) fun x x1 x2 => ?_
  · obtain ⟨a, _, b, _, rfl⟩ := unions_mem.mp hz
    exact ris_once _
  · obtain ⟨a, ha, b, hb, rfl⟩ := unions_mem.mp hz
    rw [mtAll_append, Bool.and_eq_true]
    exact ⟨mtAll_mono (wi_iff.mpr fun y hy => once_mem.mpr (List.mem_append_left _ hy)) (grown_mem.mp ha).2.1, mtAll_mono (wi_iff.mpr fun y hy => once_mem.mpr (List.mem_append_right _ hy)) (grown_mem.mp hb).2.1⟩
  · rw [mtAll_append, Bool.and_eq_true] at x2
    obtain ⟨a, ha, wa⟩ := lst_below x1 x2.1
    obtain ⟨b, hb, wb⟩ := lst_below x1 x2.2
    refine ⟨_, unions_mem.mpr ⟨a, grown_mem.mpr ha, b, grown_mem.mpr hb, rfl⟩, wi_iff.mpr fun y hy => ?_⟩
    rcases List.mem_append.mp (once_mem.mp hy) with z | z
    · exact wi_iff.mp wa y z
    · exact wi_iff.mp wb y z
theorem crossed_eq (A B : List (List Str)) : least (grown A ++ grown B) = grown (unions A B) := by
  refine least_grown (fun z hz => (List.mem_append.mp hz).elim (grown_ris A z) (grown_ris B z)) (fun z hz => mtAll_iff.mpr fun r hr => ?_) fun x x1 x2 => ?_
  · obtain ⟨a, ha, b, hb, rfl⟩ := unions_mem.mp hr
    rcases List.mem_append.mp hz with h | h
    · obtain ⟨y, y1, y2⟩ := mtAll_iff.mp (grown_mem.mp h).2.1 a ha
      exact ⟨y, y1, once_mem.mpr (List.mem_append_left _ y2)⟩
    · obtain ⟨y, y1, y2⟩ := mtAll_iff.mp (grown_mem.mp h).2.1 b hb
      exact ⟨y, y1, once_mem.mpr (List.mem_append_right _ y2)⟩
  · by_cases hA : mtAll x A = true
    · obtain ⟨a, ha, wa⟩ := lst_below x1 hA
      exact ⟨a, List.mem_append_left _ (grown_mem.mpr ha), wa⟩
    · by_cases hB : mtAll x B = true
      · obtain ⟨b, hb, wb⟩ := lst_below x1 hB
        exact ⟨b, List.mem_append_right _ (grown_mem.mpr hb), wb⟩
      · refine absurd (mtAll_iff.mpr fun a ha => Classical.byContradiction fun na => hB (mtAll_iff.mpr fun b hb => ?_)) hA
        obtain ⟨y, y1, y2⟩ := mtAll_iff.mp x2 _ (unions_mem.mpr ⟨a, ha, b, hb, rfl⟩)
        rcases List.mem_append.mp (once_mem.mp y2) with z | z
        · exact absurd ⟨y, y1, z⟩ na
        · exact ⟨y, y1, z⟩
theorem lst_ex {rows : List (List Str)} : (∃ x, Lst rows x) ↔ [] ∉ rows := by
  constructor
  · rintro ⟨x, _, h, _⟩ he
    obtain ⟨y, _, y2⟩ := mtAll_iff.mp h [] he
    exact absurd y2 List.not_mem_nil
  · intro h
    obtain ⟨m, hm, _⟩ := lst_below (rows := rows) (ris_once rows.flatten) (mtAll_iff.mpr fun r hr => by
      cases r with
      | nil => exact absurd hr h
      | cons y r => exact ⟨y, allN_mem hr List.mem_cons_self, List.mem_cons_self⟩)
    exact ⟨m, hm⟩
theorem needed_iff {rows : List (List Str)} {y : Str} : ((∃ x, Lst rows x) ∧ ∀ x, Lst rows x → y ∈ x) ↔ [] ∉ rows ∧ ∃ r ∈ rows, ∀ z ∈ r, z = y := by
  constructor
  · rintro ⟨h1, h2⟩
    have h0 := lst_ex.mp h1
    refine ⟨h0, Classical.byContradiction fun no => ?_⟩
    have hc : mtAll ((allN rows).filter fun z => decide (z ≠ y)) rows = true := mtAll_iff.mpr fun r hr => Classical.byContradiction fun k => no ⟨r, hr, fun z hz => Classical.byContradiction fun ne => k ⟨z, List.mem_filter.mpr ⟨allN_mem hr hz, decide_eq_true ne⟩, hz⟩⟩
    obtain ⟨m, hm, w⟩ := lst_below (ris_filter _ (ris_once _)) hc
    exact of_decide_eq_true (List.mem_filter.mp (wi_iff.mp w y (h2 m hm))).2 rfl
  · rintro ⟨h0, r, hr, hy⟩
    refine ⟨lst_ex.mpr h0, fun x h => ?_⟩
    obtain ⟨z, z1, z2⟩ := mtAll_iff.mp h.2.1 r hr
    rw [← hy z z2]
    exact z1
/-- a name stands in a least set just where it stands in a least row -/
theorem used_iff {rows : List (List Str)} {y : Str} : (∃ x, Lst rows x ∧ y ∈ x) ↔ ∃ r ∈ least (rows.map once), y ∈ r := by
  constructor
  · rintro ⟨x, h, hy⟩
    obtain ⟨r, hr, yr, own⟩ := (lst_own.mp h).2.2 y hy
    obtain ⟨m, hm, w⟩ := least_below (List.mem_map.mpr ⟨r, hr, rfl⟩ : once r ∈ rows.map once)
    obtain ⟨z, z1, z2⟩ := mtAll_iff.mp ((mtAll_least x rows).trans h.2.1) m hm
    have e := own z z1 (once_mem.mp (wi_iff.mp w z z2))
    exact ⟨m, hm, e ▸ z2⟩
  · rintro ⟨r, hr, hy⟩
    rw [← grown_grown] at hr
    obtain ⟨s, hs, ys, _⟩ := (lst_own.mp (grown_mem.mp hr)).2.2 y hy
    exact ⟨s, grown_mem.mp hs, ys⟩
theorem find_first {α : Type} {p : α → Bool} {le : α → α → Prop} : ∀ {l : List α}, l.Pairwise le → ∀ {f : α}, l.find? p = some f → f ∈ l ∧ p f = true ∧ ∀ y ∈ l, p y = true → y = f ∨ le f y
  | [], _, f, h => by cases h
  | a :: l, hp, f, h => by
    obtain ⟨h1, h2⟩ := List.pairwise_cons.mp hp
    rw [List.find?_cons] at h
    cases e : p a with
    | true =>
      rw [e] at h
      cases h
      exact ⟨List.mem_cons_self, e, fun y hy _ => (List.mem_cons.mp hy).imp id (h1 y)⟩
    | false =>
      rw [e] at h
      obtain ⟨k1, k2, k3⟩ := find_first h2 h
      refine ⟨List.mem_cons_of_mem _ k1, k2, fun y hy py => ?_⟩
      rcases List.mem_cons.mp hy with z | z
      · rw [z, e] at py
        cases py
      · exact k3 y z py
theorem leR_refl (a : List Str) : leR a a = true := by
  have := leR_total a a
  simpa using this
/-- the first, by rank, of all sets of N's names that meet all rows: the first least set -/
theorem first_eq {N : List Str} {rows : List (List Str)} (hN : Ris N) (hr : ∀ r ∈ rows, ∀ y ∈ r, y ∈ N) : (rkd (box N)).find? (fun s => mtAll s rows) = (grown rows).head? := by
  rw [grown_eq hN rows hr]
  have mem : ∀ x, x ∈ rkd (box N) ↔ Ris x ∧ ∀ y ∈ x, y ∈ N := fun x => by rw [(rkd_perm _).mem_iff, box_mem hN]
  cases e : (rkd (box N)).find? (fun s => mtAll s rows) with
  | none =>
    have no := List.find?_eq_none.mp e
    cases e2 : least (tr N rows) with
    | nil => rfl
    | cons x l =>
      have hx : x ∈ least (tr N rows) := by rw [e2]; exact List.mem_cons_self
      obtain ⟨k1, k2⟩ := (tr_mem hN).mp (least_sub (tr_ris hN) hx)
      exact absurd k2 (no x ((mem x).mpr k1))
  | some f =>
    obtain ⟨h1, h2, h3⟩ := find_first (rkd_sorted _) e
    obtain ⟨f1, f2⟩ := (mem f).mp h1
    have fT : f ∈ tr N rows := (tr_mem hN).mpr ⟨⟨f1, f2⟩, h2⟩
    have first : ∀ y ∈ tr N rows, leR f y = true := fun y hy => by
      obtain ⟨k1, k2⟩ := (tr_mem hN).mp hy
      rcases h3 y ((mem y).mpr k1) k2 with z | z
      · rw [z]; exact leR_refl f
      · exact z
    have fL : f ∈ least (tr N rows) := (least_mem (tr_ris hN)).mpr ⟨fT, fun y hy w => wi_eq (tr_ris hN y hy) f1 w (leR_len (first y hy))⟩
    cases e2 : least (tr N rows) with
    | nil => rw [e2] at fL; exact absurd fL List.not_mem_nil
    | cons x l =>
      have hx : x ∈ least (tr N rows) := by rw [e2]; exact List.mem_cons_self
      have s := least_sorted (tr N rows)
      rw [e2] at s fL
      have a1 : leR f x = true := first x (least_sub (tr_ris hN) hx)
      have a2 : leR x f = true := by
        rcases List.mem_cons.mp fL with z | z
        · rw [z]; exact leR_refl x
        · exact (List.pairwise_cons.mp s).1 f z
      rw [leR_anti a1 a2]
      rfl
def pareStep (rows : List (List Str)) (left : List Str) (n : Str) : List Str := if mtAll (left.filter fun y => decide (y ≠ n)) rows = true then left.filter fun y => decide (y ≠ n) else left
def pared (rows : List (List Str)) (x : List Str) : List Str := x.reverse.foldl (pareStep rows) x
theorem pare_inv {rows : List (List Str)} : ∀ (ns left done : List Str), Ris left → mtAll left rows = true → (∀ p ∈ done, p ∈ left → mtAll (left.filter fun y => decide (y ≠ p)) rows = false) →
    Ris (ns.foldl (pareStep rows) left) ∧ mtAll (ns.foldl (pareStep rows) left) rows = true ∧ (∀ y ∈ ns.foldl (pareStep rows) left, y ∈ left) ∧ ∀ p, (p ∈ done ∨ p ∈ ns) → p ∈ ns.foldl (pareStep rows) left → mtAll ((ns.foldl (pareStep rows) left).filter fun y => decide (y ≠ p)) rows = false
  | [], left, done, h1, h2, h3 => ⟨h1, h2, fun y hy => hy, fun p hp => h3 p (hp.resolve_right List.not_mem_nil)⟩
  | n :: ns, left, done, h1, h2, h3 => by
    rw [List.foldl_cons]
    have key : ∀ left', left' = pareStep rows left n → Ris left' ∧ mtAll left' rows = true ∧ (∀ y ∈ left', y ∈ left) ∧ ∀ p ∈ n :: done, p ∈ left' → mtAll (left'.filter fun y => decide (y ≠ p)) rows = false := by
      intro left' e
      unfold pareStep at e
      by_cases c : mtAll (left.filter fun y => decide (y ≠ n)) rows = true
      · rw [if_pos c] at e
        subst e
        refine ⟨ris_filter _ h1, c, fun y hy => (List.mem_filter.mp hy).1, fun p hp hpl => ?_⟩
        obtain ⟨p1, p2⟩ := List.mem_filter.mp hpl
        have pn : p ≠ n := of_decide_eq_true p2
        have pd : p ∈ done := (List.mem_cons.mp hp).resolve_left pn
        refine Bool.eq_false_iff.mpr fun z => ?_
        have z2 : mtAll (left.filter fun y => decide (y ≠ p)) rows = true := mtAll_mono (wi_iff.mpr fun y hy => by
          obtain ⟨y1, y2⟩ := List.mem_filter.mp hy
          exact List.mem_filter.mpr ⟨(List.mem_filter.mp y1).1, y2⟩) z
        rw [h3 p pd p1] at z2
        cases z2
      · rw [if_neg c] at e
        subst e
        refine ⟨h1, h2, fun y hy => hy, fun p hp hpl => ?_⟩
        rcases List.mem_cons.mp hp with z | z
        · rw [z]; exact Bool.eq_false_iff.mpr c
        · exact h3 p z hpl
    obtain ⟨k1, k2, k3, k4⟩ := key _ rfl
    obtain ⟨j1, j2, j3, j4⟩ := pare_inv ns (pareStep rows left n) (n :: done) k1 k2 k4
    refine ⟨j1, j2, fun y hy => k3 y (j3 y hy), fun p hp => j4 p ?_⟩
    rcases hp with hp | hp
    · exact .inl (List.mem_cons_of_mem _ hp)
    · rcases List.mem_cons.mp hp with z | z
      · exact .inl (by rw [z]; exact List.mem_cons_self)
      · exact .inr z
theorem pared_lst {rows : List (List Str)} {x : List Str} (h1 : Ris x) (h2 : mtAll x rows = true) : Lst rows (pared rows x) ∧ ∀ y ∈ pared rows x, y ∈ x := by
  obtain ⟨k1, k2, k3, k4⟩ := pare_inv (rows := rows) x.reverse x [] h1 h2 fun p hp => absurd hp List.not_mem_nil
  refine ⟨⟨k1, k2, fun y y1 y2 w => ?_⟩, k3⟩
  refine wi_anti y1 k1 w (wi_iff.mpr fun u hu => Classical.byContradiction fun nu => ?_)
  have z := k4 u (.inr (List.mem_reverse.mpr (k3 u hu))) hu
  have z2 : mtAll ((x.reverse.foldl (pareStep rows) x).filter fun y => decide (y ≠ u)) rows = true := mtAll_mono (wi_iff.mpr fun v hv => List.mem_filter.mpr ⟨wi_iff.mp w v hv, decide_eq_true fun e => nu (e ▸ hv)⟩) y2
  rw [z] at z2
  cases z2
theorem pared_id {rows : List (List Str)} {x : List Str} (h : Lst rows x) : pared rows x = x := by
  obtain ⟨p1, p2⟩ := pared_lst h.1 h.2.1
  exact h.2.2 _ p1.1 p1.2.1 (wi_iff.mpr p2)
theorem pared_iff {rows : List (List Str)} {x : List Str} (h1 : Ris x) (h2 : mtAll x rows = true) : pared rows x = x ↔ Lst rows x := ⟨fun e => e ▸ (pared_lst h1 h2).1, pared_id⟩
end K1
namespace K1
open PySem PySem.Spec PyProof.Rows L2 Gr GxR Srx Skx Dcx
/-- for one in G: if [other for other in found if within(other, one)] == []: found.append(one) -/
theorem keep_loop {K : PySem.W.Frag} {G B : Addr} {gs : List (Addr × List Str)} {H3 H4 : Hp} {σ : L2.St} {D : Ends} {j jo jf : Nat}
    (hG : H4 G = some (.lst (gs.map fun q => V.ref q.1))) (nGB : G ≠ B) (gown : ∀ q ∈ gs, H3 q.1 = some (.lst (q.2.map V.str)) ∧ Nms q.2) (gl : gs.length ≤ 5000) (nB : H3 B = none) (gB0 : Gr H3 H4) (eB0 : H4 B = some (.lst []))
    (hj : j < σ.length) (hjo : jo < σ.length) (hf : σ[jf]? = some (some (.ref B))) (n1 : jf ≠ j) (n2 : jo ≠ j) (n3 : jo ≠ jf)
    (hd : ∀ (v : Option V) (H5 : Hp) (kps : List (Addr × List Str)), Gr H3 H5 → H5 B = some (.lst (kps.map fun q => V.ref q.1)) → List.Sublist kps gs → kps.map (·.2) = (gs.map (·.2)).foldl keep [] → D.nx (σ.set j v) H5) :
    ∃ W : Nat → Nat → L2.St → Hp → Prop, (∃ m, W 0 m σ H4) ∧ ∀ i m' σ H, W i m' σ H →
      ((Itl K G).stop i H ∧ D.nx σ H) ∨ ((Itl K G).go i H ∧ ∃ N : L2.St → Hp → Prop, (∀ σ' H', N σ' H' → ∃ m2, m2 < m' ∧ W (i + 1) m2 σ' H') ∧ ∀ x H', (Itl K G).yld i H x H' → gName j x σ H' fun σ2 H2 =>
        tIfS (tTest (tOp (rEqD K) (tLc (iList K (tVar jf)) (gName jo) (tB (tCall (spLWithin K) [] E0 (tCons (tVar jo) (tCons (tVar j) tNil)))) (tVar jo) [jo]) (tLst tNil))) (tDrop (tBM K "list" rAppend (tVar jf) (tCons (tVar j) tNil))) tNext { D with nx := N, ct := N, bk := D.nx } σ2 H2) := by
  have big : ∀ n : Nat, n ≤ 5000 → n < sizeLine := fun n hn => by rw [sizeLine_eq]; omega
  refine for_list (K := K) (xs := gs.map fun q : Addr × List Str => V.ref q.1) (fun i σ' H5 => Gr H3 H5 ∧ H5 G = some (.lst (gs.map fun q => V.ref q.1)) ∧ ∃ (kps : List (Addr × List Str)), H5 B = some (.lst (kps.map fun q => V.ref q.1)) ∧ List.Sublist kps (gs.take i) ∧ kps.map (·.2) = ((gs.take i).map (·.2)).foldl keep [] ∧ ∃ v, σ' = σ.set j v) ⟨gB0, hG, [], eB0, List.Sublist.refl _, rfl, σ[j], (List.set_getElem_self ..).symm⟩ (fun i σ' H5 _ h => .inl (.inl h.2.1)) (fun i x σ' H5 hx h => ?_) (fun σ' H5 h => ?_)
  · obtain ⟨g5, eG, kps, eB, sub, km, v, rfl⟩ := h
    obtain ⟨q0, hq0, rfl⟩ := get_map hx
    have m0 := List.mem_of_getElem? hq0
    have hi : i < gs.length := (List.getElem?_eq_some_iff.mp hq0).1
    have kl : kps.length ≤ 5000 := by
      have h1 := sub.length_le
      rw [List.length_take] at h1
      omega
    have ksub : ∀ q ∈ kps, q ∈ gs := fun q hq => List.mem_of_mem_take (sub.subset hq)
    show tIfS _ _ _ _ ((σ.set j v).set j (some (.ref q0.1))) H5
    rw [List.set_set]
    have sf : (σ.set j (some (V.ref q0.1)))[jf]? = some (some (.ref B)) := by rw [List.getElem?_set_ne (Ne.symm n1)]; exact hf
    have sj : (σ.set j (some (V.ref q0.1)))[j]? = some (some (.ref q0.1)) := by rw [List.getElem?_set_self hj]
    have sl : jo < (σ.set j (some (V.ref q0.1))).length := by rw [List.length_set]; exact hjo
    generalize hτ : σ.set j (some (V.ref q0.1)) = τ at sf sj sl
    have lo : ∀ z : Option V, ((τ.set jo none).set jo z)[jo]? = some z := fun z => by rw [List.getElem?_set_self (by rw [List.length_set]; exact sl)]
    have lj : ∀ z : Option V, ((τ.set jo none).set jo z)[j]? = some (some (.ref q0.1)) := fun z => by rw [List.getElem?_set_ne n2, List.getElem?_set_ne n2]; exact sj
    refine ⟨.ref B, sf, B, rfl, ⟨_, .inl (.inl eB)⟩, fun D5 nD5 => lc_list (K := K) (xs := kps.map fun q : Addr × List Str => V.ref q.1) (fun k H6 => Gr H5 H6 ∧ H6 D5 = some (.lst (((kps.take k).filter fun q => wi q.2 q0.2).map fun q => V.ref q.1))) ⟨Gr.new nD5, upd_same⟩ (fun k H6 _ h => .inl (.inl (h.1.lst eB))) (fun k x H6 hx h => ?_) (fun H6 h => ?_)⟩
    · obtain ⟨g6, eD5⟩ := h
      obtain ⟨k0, hk0, rfl⟩ := get_map hx
      have hk : k < kps.length := (List.getElem?_eq_some_iff.mp hk0).1
      have g36 := g5.trans g6
      refine ⟨?_, ?_⟩
      · show ((τ.set jo none).set jo _).set jo none = τ.set jo none
        rw [List.set_set, List.set_set]
      refine ⟨.ref k0.1, lo _, .ref q0.1, lj _, k0.1, q0.1, k0.2, q0.2, rfl, .inl (.inl (g36.lst (gown k0 (ksub k0 (List.mem_of_getElem? hk0))).1)), .inl (.inl (g36.lst (gown q0 m0).1)), _, rfl, ?_⟩
      have tk : (kps.take (k + 1)).filter (fun q => wi q.2 q0.2) = (kps.take k).filter (fun q => wi q.2 q0.2) ++ (if wi k0.2 q0.2 = true then [k0] else []) := by
        rw [List.take_add_one, hk0, List.filter_append]
        congr 1
        show List.filter _ [k0] = _
        rw [List.filter_cons]
        rfl
      cases e : wi k0.2 q0.2 with
      | true =>
        rw [show k0.2.all q0.2.contains = true from e]
        refine iteT ⟨.ref k0.1, lo _, _, eD5, ?_, g6.mut nD5, ?_⟩
        · rw [List.length_map]
          refine Nat.lt_of_le_of_lt (List.length_filter_le _ _) ?_
          rw [List.length_take]
          exact big _ (by omega)
        · rw [upd_same, tk, e, List.map_append]
          rfl
      | false =>
        rw [show k0.2.all q0.2.contains = false from e]
        refine iteF ⟨g6, ?_⟩
        rw [tk, e]
        simp only [Bool.false_eq_true, if_false, List.append_nil]
        exact eD5
    · obtain ⟨g6, eD5⟩ := h
      rw [List.length_map, List.take_length] at eD5
      refine ⟨Nat.zero_le _, fun E6 nE6 => ?_⟩
      have g7 : Gr H6 (upd H6 E6 (.lst [])) := Gr.new nE6
      have eE6 : (upd H6 E6 (.lst [])) E6 = some (.lst []) := upd_same
      generalize upd H6 E6 (.lst []) = H7 at g7 eE6
      have g37 := (g5.trans g6).trans g7
      have g57 := g6.trans g7
      have fsub : ∀ q ∈ kps.filter (fun q => wi q.2 q0.2), q ∈ gs := fun q hq => ksub q (List.mem_filter.mp hq).1
      refine ⟨dSS ((kps.filter fun q => wi q.2 q0.2).map (·.2)), dSS (([] : List (Addr × List Str)).map (·.2)), dp_dSS (.inl (.inl (g7.lst eD5))) (fun q hq => .inl (.inl (g37.lst (gown q (fsub q hq)).1))), dp_dSS (.inl (.inl eE6)) (fun q hq => absurd hq List.not_mem_nil), shaped_dSS (fun xs hx => ?_), shaped_dSS (fun xs hx => absurd hx List.not_mem_nil), _, rfl, ?_⟩
      · obtain ⟨q, hq, rfl⟩ := List.mem_map.mp hx
        exact (gown q (fsub q hq)).2
      · rw [eqv_dSS]
        have anyeq : (kps.map (·.2)).any (fun l => wi l q0.2) = kps.any (fun q => wi q.2 q0.2) := by
          rw [List.any_map]
          rfl
        by_cases hany : kps.any (fun q => wi q.2 q0.2) = true
        · have ne1 : ¬ ((kps.filter fun q => wi q.2 q0.2).map (·.2) = ([] : List (Addr × List Str)).map (·.2)) := by
            intro z
            obtain ⟨k0, mk, wk⟩ := List.any_eq_true.mp hany
            have z : (kps.filter fun q => wi q.2 q0.2) = [] := List.map_eq_nil_iff.mp z
            have mf : k0 ∈ kps.filter (fun q => wi q.2 q0.2) := List.mem_filter.mpr ⟨mk, wk⟩
            rw [z] at mf
            exact absurd mf List.not_mem_nil
          rw [decide_eq_false ne1]
          refine iteF ⟨g37, g57.lst eG, kps, g57.lst eB, sub.trans (List.take_sublist_take_left (Nat.le_succ _)), ?_, _, hτ.symm⟩
          rw [take_map hq0, List.foldl_append, ← km]
          exact (if_pos (anyeq.trans hany)).symm
        · have e1 : ((kps.filter fun q => wi q.2 q0.2).map (·.2) = ([] : List (Addr × List Str)).map (·.2)) := by
            have fe : kps.filter (fun q => wi q.2 q0.2) = [] := List.filter_eq_nil_iff.mpr fun q hq z => hany (List.any_eq_true.mpr ⟨q, hq, z⟩)
            rw [fe]
          rw [decide_eq_true e1]
          have eB7 := g57.lst eB
          refine iteT ⟨.ref B, sf, .inl ⟨rfl, _, .inl (.inl eB7)⟩, .ref q0.1, sj, B, _, _, rfl, rfl, eB7, ?_, ?_⟩
          · rw [List.length_map]
            exact big _ (by omega)
          · refine ⟨g37.mut nB, by rw [upd_ne nGB]; exact g57.lst eG, kps ++ [q0], ?_, ?_, ?_, _, hτ.symm⟩
            · rw [upd_same, List.map_append]
              rfl
            · rw [List.take_add_one, hq0]
              exact sub.append (List.Sublist.refl _)
            · rw [take_map hq0, List.foldl_append, List.map_append, ← km]
              exact (if_neg (fun z => hany (anyeq.symm.trans z))).symm
  · obtain ⟨g5, eG, kps, eB, sub, km, v, rfl⟩ := h
    rw [List.length_map, List.take_length] at sub km
    exact hd v H5 kps g5 eB sub km
end K1
namespace K1
open PySem PySem.Spec PyProof.Rows L2 Gr GxR Srx Skx Dcx
theorem dpAll_snoc {K : PySem.W.Frag} {H : Hp} : ∀ {vs : List V} {ds : List PyData} {v : V} {d : PyData}, DpAll K H vs ds → Dp K H v d → DpAll K H (vs ++ [v]) (ds ++ [d])
  | _, _, _, _, .nil, h => .cons h .nil
  | _, _, _, _, .cons r t, h => .cons r (dpAll_snoc t h)
theorem dpAll_len {K : PySem.W.Frag} {H : Hp} : ∀ {vs : List V} {ds : List PyData}, DpAll K H vs ds → vs.length = ds.length
  | _, _, .nil => rfl
  | _, _, .cons _ t => congrArg Nat.succ (dpAll_len t)
/-- a heap but for one object -/
def mask (D : Addr) (H : Hp) : Hp := fun b => if b = D then none else H b
theorem mask_at {D b : Addr} {H : Hp} (h : b ≠ D) : mask D H b = H b := if_neg h
theorem mask_self (D : Addr) (H : Hp) : mask D H D = none := if_pos rfl
theorem mask_upd (D : Addr) (H : Hp) (o : HO) : mask D (upd H D o) = mask D H := by
  funext b
  by_cases h : b = D
  · rw [h, mask_self, mask_self]
  · rw [mask_at h, mask_at h, upd_ne h]
theorem mask_some {D b : Addr} {H : Hp} {o : HO} (h : mask D H b = some o) : b ≠ D ∧ H b = some o := by
  by_cases e : b = D
  · rw [e, mask_self] at h
    cases h
  · exact ⟨e, (mask_at e).symm.trans h⟩
theorem gr_mask {D : Addr} {H H' : Hp} (g : Gr H H') : Gr (mask D H) (mask D H') :=
  ⟨fun b o e n => by
    obtain ⟨h1, h2⟩ := mask_some e
    rw [mask_at h1]
    exact g.at_ b o h2 n, fun b ps e => by
    obtain ⟨h1, h2⟩ := mask_some e
    obtain ⟨p1, e1, k1⟩ := g.tab b ps h2
    exact ⟨p1, by rw [mask_at h1]; exact e1, k1⟩⟩
theorem gr_unmask (D : Addr) (H : Hp) : Gr (mask D H) H :=
  ⟨fun b o e _ => (mask_some e).2, fun b ps e => ⟨ps, (mask_some e).2, fun h => h⟩⟩
/-- what stood where D did not -/
theorem gr_masked {D : Addr} {H H' : Hp} (hD : H D = none) (g : Gr H H') : Gr H (mask D H') :=
  ⟨fun b o e n => by rw [mask_at (ne_of_none e hD)]; exact g.at_ b o e n, fun b ps e => by
    obtain ⟨p1, e1, k1⟩ := g.tab b ps e
    exact ⟨p1, by rw [mask_at (ne_of_none e hD)]; exact e1, k1⟩⟩
/-- [e for k in range(n)]: what is made is read as data -/
theorem lc_data {K : PySem.W.Frag} {D : Addr} {j n : Nat} {σ : L2.St} {vs : List Nat} {te : TE} {H H1 : Hp} {Qd : Hp → Prop} (enc : Nat → PyData) (few : n ≤ 1000) (gr : Gr H H1) (hD : H1 D = none) (hw : ∀ v, wipe ((wipe σ vs).set j (some v)) vs = wipe σ vs)
    (he : ∀ (k : Nat) (H4 : Hp) (Q' : VK), k < n → Gr H H4 → (∃ xs, H4 D = some (.lst xs)) → (∀ v H5, Gr H4 H5 → Dp K (mask D H5) v (enc k) → Q' v H5) → te ((wipe σ vs).set j (some (.int ((0 : Int) + (k : Nat))))) H4 Q')
    (q : ∀ H2, Gr H H2 → Dp K H2 (.ref D) (.list ((List.range n).map enc)) → Qd H2) :
    ∃ W : Nat → Nat → Hp → Prop, (∃ m, W 0 m (upd H1 D (.lst []))) ∧ ∀ i m H, W i m H →
      ((Itr 0 n).stop i H ∧ Qd H) ∨ ((Itr 0 n).go i H ∧ ∃ Nx : Hp → Prop, (∀ H', Nx H' → ∃ m', m' < m ∧ W (i + 1) m' H') ∧ ∀ x H', (Itr 0 n).yld i H x H' → gName j x (wipe σ vs) H' fun σ2 H2 => wipe σ2 vs = wipe σ vs ∧ tYes σ2 H2 fun b H3 =>
        if b = true then te σ2 H3 fun y H4 => ∃ acc, H4 D = some (.lst acc) ∧ acc.length < sizeLine ∧ Nx (upd H4 D (.lst (acc ++ [y]))) else Nx H3) := by
  have hD0 : H D = none := gr.free hD
  refine lc_range (Qd := Qd) (fun i H2 => Gr H H2 ∧ ∃ vs : List V, H2 D = some (.lst vs) ∧ DpAll K (mask D H2) vs ((List.range i).map enc)) ⟨gr.mut hD0, [], upd_same, .nil⟩ (fun i H2 hi h => ?_) (fun H2 h => ?_)
  · obtain ⟨g2, vs, e, a⟩ := h
    refine ⟨hw _, yesIf (he i H2 _ hi g2 ⟨_, e⟩ fun v H5 g5 d => ⟨vs, g5.lst e, ?_, (g2.trans g5).mut hD0, vs ++ [v], upd_same, ?_⟩)⟩
    · rw [dpAll_len a, List.length_map, List.length_range]
      exact small1000 (by omega)
    · rw [mask_upd, List.range_succ, List.map_append]
      exact dpAll_snoc (dpAll_gr (gr_mask g5) _ _ a) d
  · obtain ⟨g2, vs, e, a⟩ := h
    exact q H2 g2 (.lst (.inl (.inl e)) (dpAll_gr (gr_unmask D H2) _ _ a))
end K1
namespace Gr
open PySem PySem.Spec PyProof.Rows L2 GxR
structure GrX (X : Addr → Prop) (H H' : Hp) : Prop where
  at_ : ∀ b o, ¬ X b → H b = some o → NoTbl o → H' b = some o
  tab : ∀ b ps, H b = some (.tbl ps) → ∃ ps', H' b = some (.tbl ps') ∧ (TriplesOk ps.toList → TriplesOk ps'.toList)
  stay : ∀ b o, X b → H b = some o → ∃ o', H' b = some o'
theorem Gr.x {H H' : Hp} (g : Gr H H') (X : Addr → Prop) : GrX X H H' := ⟨fun b o _ e n => g.at_ b o e n, g.tab, fun _ _ _ e => g.some e⟩
theorem GrX.gr {H H' : Hp} (g : GrX (fun _ => False) H H') : Gr H H' := ⟨fun b o e n => g.at_ b o id e n, g.tab⟩
theorem GrX.refl (X : Addr → Prop) (H : Hp) : GrX X H H := (Gr.refl H).x X
theorem GrX.mono {X Y : Addr → Prop} {H H' : Hp} (g : GrX X H H') (h : ∀ b, X b → Y b) (s : ∀ b o, Y b → ¬ X b → H b = some o → NoTbl o) : GrX Y H H' :=
  ⟨fun b o n e k => g.at_ b o (fun z => n (h b z)) e k, g.tab, fun b o hy e => by
    by_cases hx : X b
    · exact g.stay b o hx e
    · exact ⟨o, g.at_ b o hx e (s b o hy hx e)⟩⟩
theorem GrX.has {X : Addr → Prop} {H H' : Hp} (g : GrX X H H') {b : Addr} {o : HO} (e : H b = some o) : ∃ o', H' b = some o' := by
  by_cases h : ∃ ps, o = .tbl ps
  · obtain ⟨ps, rfl⟩ := h
    obtain ⟨p1, e1, _⟩ := g.tab b ps e
    exact ⟨_, e1⟩
  · by_cases hx : X b
    · exact g.stay b o hx e
    · exact ⟨o, g.at_ b o hx e fun ps z => h ⟨ps, z⟩⟩
theorem GrX.free {X : Addr → Prop} {H H' : Hp} (g : GrX X H H') {b : Addr} (e : H' b = none) : H b = none := by
  cases q : H b with
  | none => rfl
  | some o =>
    obtain ⟨o', z⟩ := g.has q
    rw [e] at z
    cases z
theorem GrX.trans {X : Addr → Prop} {H H1 H2 : Hp} (a : GrX X H H1) (b : GrX X H1 H2) : GrX X H H2 :=
  ⟨fun c o h e n => b.at_ c o h (a.at_ c o h e n) n, fun c ps e => by
    obtain ⟨p1, e1, k1⟩ := a.tab c ps e
    obtain ⟨p2, e2, k2⟩ := b.tab c p1 e1
    exact ⟨p2, e2, fun h => k2 (k1 h)⟩, fun c o h e => by
    obtain ⟨o1, e1⟩ := a.stay c o h e
    exact b.stay c o1 h e1⟩
theorem GrX.then {X : Addr → Prop} {H H1 H2 : Hp} (a : GrX X H H1) (b : Gr H1 H2) : GrX X H H2 := a.trans (b.x X)
/-- an object of X, or a new one, is written -/
theorem GrX.put {X : Addr → Prop} {H H' : Hp} {p : Addr} {o : HO} (g : GrX X H H') (h : X p ∨ H p = none) (nt : ∀ ps, H p ≠ some (.tbl ps)) : GrX X H (upd H' p o) :=
  ⟨fun b u n e k => by
    have hb : b ≠ p := by
      rintro rfl
      rcases h with h | h
      · exact n h
      · rw [h] at e; cases e
    rw [upd_ne hb]; exact g.at_ b u n e k, fun b ps e => by
    have hb : b ≠ p := by
      rintro rfl
      exact nt ps e
    obtain ⟨p1, e1, k1⟩ := g.tab b ps e
    exact ⟨p1, by rw [upd_ne hb]; exact e1, k1⟩, fun b u hx e => by
    by_cases hb : b = p
    · subst hb; exact ⟨o, upd_same⟩
    · rw [upd_ne hb]; exact g.stay b u hx e⟩
theorem GrX.lst {X : Addr → Prop} {H H' : Hp} (g : GrX X H H') {a : Addr} {xs : List V} (n : ¬ X a) (e : H a = some (.lst xs)) : H' a = some (.lst xs) := g.at_ a _ n e notbl_lst
theorem GrX.tup {X : Addr → Prop} {H H' : Hp} (g : GrX X H H') {a : Addr} {xs : List V} (n : ¬ X a) (e : H a = some (.tup xs)) : H' a = some (.tup xs) := g.at_ a _ n e notbl_tup
theorem GrX.seq {X : Addr → Prop} {K : PySem.W.Frag} {H H' : Hp} {a : Addr} {xs : List V} (g : GrX X H H') (n : ¬ X a) (h : SqL K H a xs) : SqL K H' a xs := by
  rcases h with (h | ⟨o, h⟩) | h
  · exact .inl (.inl (g.lst n h))
  · exact .inl (.inr ⟨o, g.at_ _ _ n h notbl_frz⟩)
  · exact .inr h
theorem GrX.tabG {X : Addr → Prop} {H H' : Hp} (g : GrX X H H') {P : Addr} (h : TabG H P) : TabG H' P := by
  obtain ⟨ps, e, k⟩ := h
  obtain ⟨p1, e1, k1⟩ := g.tab P ps e
  exact ⟨p1, e1, k1 k⟩
/-- seen from a heap in which X's objects do not stand, nothing but growth -/
theorem GrX.young {X : Addr → Prop} {H0 H H' : Hp} (g0 : Gr H0 H) (g : GrX X H H') (h : ∀ b, X b → H0 b = none) : Gr H0 H' :=
  ⟨fun b o e n => g.at_ b o (fun z => by rw [h b z] at e; cases e) (g0.at_ b o e n) n, fun b ps e => by
    obtain ⟨p1, e1, k1⟩ := g0.tab b ps e
    obtain ⟨p2, e2, k2⟩ := g.tab b p1 e1
    exact ⟨p2, e2, fun h => k2 (k1 h)⟩⟩
end Gr
namespace K1
open PySem PySem.Spec PyProof.Rows L2
def tMethT (C : Addr) (m : Str) (sp : Sp) (E : L2.St → XK) (ta : TE) (t : TA) : TE := fun σ H Q => ta σ H fun x H1 => ∃ a dx fs, x = .ref a ∧ H1 a = some (.ins C dx fs) ∧ fs.lookup m = none ∧ t σ H1 fun vs H2 => sp (.ref a :: vs) H2 Q (E σ)
section
variable {X : Cx} {CX : CXT} {k : Nat} {f C : Addr} {fd : FuncData} {ps : List Str} {sp : Sp} {E : L2.St → XK} {m : Str} {pos apos : Pos} {e o : Expr} {es : List Expr} {ta : TE} {t : TA}
theorem pe_methT {pl : Sem Bool} (he : PE X o ta) (c : Cls X.K C) (hm : Meth X.K C m f) (F : FnOk X.prog X.w X.K X.mg X.base CX k f fd ps sp) (hr : Room k X.A) (hb : Binds X.K fd ps []) (hx : ∀ σ, PassesAt CX X σ (E σ)) (ha : PA X (e :: es) t)
    (h1 : starEach (e :: es) X.env = (false, eval e X.env) :: starEach es X.env := by rfl) (h2 : (backTo pos (starEach es X.env)).any (·.1) = false := by rfl)
    (h3 : eval (.Call (.Attribute o m apos) (e :: es) [] pos) X.env = (do
        let ov ← eval o X.env
        standAt apos.atName
        let (f, first) ← holding [ov] (getMethod ov m pl)
        callWith pos f first (backTo pos (starEach (e :: es) X.env)) (backToKw pos (keywordEach [] X.env))) := by rfl) :
    PE X (.Call (.Attribute o m apos) (e :: es) [] pos) (tMethT C m sp E ta t) := by
  refine ⟨fun pins s σ H Q I h => PySem.W.methodCall_KW (pl := pl) (thn (he.run pins s σ H _ I h) fun u s1 hu => ?_) h3⟩
  obtain ⟨x, H1, I1, rx, a, dx, fs, rfl, ea, l, q⟩ := hu
  obtain rfl : u = Value.ref a := rx
  refine getmeth_ok I1 ea c hm l (PySem.W.callWith_K (first := [.ref a]) (h₀ := X.base) I.ok.mod.kin hm.kp (thn (ha.run pos pins s1 σ H1 _ I1 q) fun us s2 hv => ?_) h1 h2)
  obtain ⟨vs, H2, I2, r, q2⟩ := hv
  exact ⟨I2.kIn, run_fnS (us := .ref a :: us) (vs := .ref a :: vs) F hr hb (hx σ) I2 (.cons rfl r) q2⟩
theorem pe_methT0 {pl : Sem Bool} (he : PE X o ta) (c : Cls X.K C) (hm : Meth X.K C m f) (F : FnOk X.prog X.w X.K X.mg X.base CX k f fd ps sp) (hr : Room k X.A) (hb : Binds X.K fd ps []) (hx : ∀ σ, PassesAt CX X σ (E σ))
    (h3 : eval (.Call (.Attribute o m apos) [] [] pos) X.env = (do
        let ov ← eval o X.env
        standAt apos.atName
        let (f, first) ← holding [ov] (getMethod ov m pl)
        callWith pos f first (backTo pos (starEach [] X.env)) (backToKw pos (keywordEach [] X.env))) := by rfl) :
    PE X (.Call (.Attribute o m apos) [] [] pos) (tMethT C m sp E ta tNil) := by
  refine ⟨fun pins s σ H Q I h => PySem.W.methodCall_KW (pl := pl) (thn (he.run pins s σ H _ I h) fun u s1 hu => ?_) h3⟩
  obtain ⟨x, H1, I1, rx, a, dx, fs, rfl, ea, l, q⟩ := hu
  obtain rfl : u = Value.ref a := rx
  exact getmeth_ok I1 ea c hm l (PySem.W.callWith_K0 (first := [.ref a]) I1.kIn hm.kp (run_fnS (us := [.ref a]) (vs := [.ref a]) F hr hb (hx σ) I1 (.cons rfl .nil) q))
end
end K1
namespace K1
open PySem PySem.Spec PyProof.Rows L2 Gr GxR Srx Skx Dcx
section
variable {P : Program} {w : World} {K : PySem.W.Frag} {mg : Str → Option Value} {base : Heap} {f fM fB fR fA fW : Addr} {fd fdM fdB fdR fdA fdW : FuncData}
def spLAll (K : PySem.W.Frag) : Sp := fun vs H Q _ => ∃ (a b : Addr) (xs : List Str) (ps : List (Addr × List Str)), vs = [.ref a, .ref b] ∧ SqL K H a (xs.map V.str) ∧ SqL K H b (ps.map fun q => V.ref q.1) ∧ (∀ q ∈ ps, SqL K H q.1 (q.2.map V.str)) ∧ Q (.bl (mtAll xs (ps.map (·.2)))) H
theorem box_len (N : List Str) : (box N).length = 2 ^ N.length := by
  refine snoc_ind (p := fun N => (box N).length = 2 ^ N.length) rfl (fun N n ih => ?_) N
  rw [box_snoc, List.length_append, List.length_map, ih, List.length_append, List.length_singleton, Nat.pow_succ]
  omega
/-- [.. one ..]: each made anew, of what else is made on the way -/
theorem lc_fresh2 {K : PySem.W.Frag} {a D : Addr} {j : Nat} {σ : L2.St} {vs : List Nat} {te : TE} {H H1 : Hp} {Qd : Hp → Prop} {ps0 : List (Addr × List Str)} (F : List Str → List Str)
    (hA : SqL K H1 a (ps0.map fun q => V.ref q.1)) (few : ps0.length < sizeLine) (gr : Gr H H1) (hD : H1 D = none) (hw : ∀ v, wipe ((wipe σ vs).set j (some v)) vs = wipe σ vs)
    (he : ∀ q ∈ ps0, ∀ (H4 : Hp) (Q' : VK), Gr H1 H4 → (∀ H5 l, Gr H4 H5 → H5 l = none → Q' (.ref l) (upd H5 l (.lst ((F q.2).map V.str)))) → te ((wipe σ vs).set j (some (.ref q.1))) H4 Q')
    (q : ∀ H2 ps, Gr H1 H2 → Told H1 H2 D ps → ps.map (·.2) = ps0.map (fun q => F q.2) → Qd H2) :
    ∃ W : Nat → Nat → Hp → Prop, (∃ m, W 0 m (upd H1 D (.lst []))) ∧ ∀ i m H, W i m H →
      ((Itl K a).stop i H ∧ Qd H) ∨ ((Itl K a).go i H ∧ ∃ Nx : Hp → Prop, (∀ H', Nx H' → ∃ m', m' < m ∧ W (i + 1) m' H') ∧ ∀ x H', (Itl K a).yld i H x H' → gName j x (wipe σ vs) H' fun σ2 H2 => wipe σ2 vs = wipe σ vs ∧ tYes σ2 H2 fun b H3 =>
        if b = true then te σ2 H3 fun y H4 => ∃ acc, H4 D = some (.lst acc) ∧ acc.length < sizeLine ∧ Nx (upd H4 D (.lst (acc ++ [y]))) else Nx H3) := by
  refine lc_list (xs := ps0.map fun q => V.ref q.1) (Qd := Qd) (fun i H2 => Gr H1 H2 ∧ ∃ ps, Told H1 H2 D ps ∧ ps.map (·.2) = (ps0.take i).map (fun q => F q.2)) ⟨Gr.new hD, [], Told.nil hD, rfl⟩ (fun i H2 _ h => h.1.seq hA) (fun i x H2 hx h => ?_) (fun H2 h => ?_)
  · obtain ⟨g2, ps, T, e⟩ := h
    obtain ⟨q0, hq0, rfl⟩ := get_map hx
    refine ⟨hw _, yesIf (he q0 (List.mem_of_getElem? hq0) H2 _ g2 fun H5 l g5 hl => ⟨_, ?_, ?_, (g2.trans g5).trans (Gr.new hl) |>.mut hD, ps ++ [(l, F q0.2)], (T.gr g5).snoc (g2.trans g5) hl, ?_⟩)⟩
    · rw [upd_ne (ne_of_none (g5.lst T.at_) hl)]
      exact g5.lst T.at_
    · rw [List.length_map]
      have h1 : ps.length = ((ps0.take i).map (fun q => F q.2)).length := by rw [← e, List.length_map]
      rw [h1, List.length_map, List.length_take]
      omega
    · rw [List.map_append, e, take_map hq0]
      rfl
  · obtain ⟨g2, ps, T, e⟩ := h
    rw [List.length_map, List.take_length] at e
    exact q H2 ps g2 T e
theorem sortedT {K : PySem.W.Frag} {H : Hp} {a : Addr} {xs : List Str} {σ : L2.St} {Q : VK} (hs : SqL K H a (xs.map V.str)) (q : ∀ p, H p = none → Q (.ref p) (upd H p (.lst ((srt xs).map V.str)))) :
    tNil σ H fun ys H2 => rSortedD K (fun x : Str => PyData.str x) (V.ref a :: ys) H2 Q := sortedS_texts hs q
def spBox (K : PySem.W.Frag) : Sp := fun vs H Q _ => ∃ (a : Addr) (ns : List Str), vs = [.ref a] ∧ SqL K H a (ns.map V.str) ∧ ns.length ≤ 8 ∧ ∀ p H' bs, Gr H H' → Told H H' p bs → bs.map (·.2) = box (srt ns) → Q (.ref p) H'
end
end K1
namespace K1
open PySem PySem.Spec PyProof.Rows L2 Gr GxR Srx Skx Dcx
section
variable {P : Program} {w : World} {K : PySem.W.Frag} {mg : Str → Option Value} {base : Heap} {f fM fB fR fA fW : Addr} {fd fdM fdB fdR fdA fdW : FuncData}
def spLRanked (K : PySem.W.Frag) : Sp := fun vs H Q _ => ∃ (a : Addr) (ps : List (Addr × List Str)), vs = [.ref a] ∧ SqL K H a (ps.map fun q => V.ref q.1) ∧ (∀ q ∈ ps, SqL K H q.1 (q.2.map V.str)) ∧ ps.length ≤ 5000 ∧
  ∀ (p : Addr) (H' : Hp) (ds : List (Addr × List Str)), Gr H H' → H p = none → H' p = some (.lst (ds.map fun q => V.ref q.1)) → ds.Perm ps → ds.map (·.2) = rkd (ps.map (·.2)) → Q (.ref p) H'
theorem filter_pairwise {α : Type} {r : α → α → Prop} {p : α → Bool} {l : List α} (h : l.Pairwise r) : (l.filter p).Pairwise r := h.sublist List.filter_sublist
/-- the law's own least sets -/
theorem lleast_eq {N : List Str} {rows : List (List Str)} : ((rkd (box N)).filter fun s => mtAll s rows).foldl keep [] = least (tr N rows) := by
  rw [least_eq]
  congr 1
  refine rkd_one ?_ (filter_pairwise (rkd_sorted _)) (rkd_sorted _)
  exact ((rkd_perm (box N)).filter _).trans (rkd_perm _).symm
def spLLeast (K : PySem.W.Frag) : Sp := fun vs H Q _ => ∃ (a b : Addr) (ns : List Str) (ps : List (Addr × List Str)), vs = [.ref a, .ref b] ∧ SqL K H a (ns.map V.str) ∧ Nms ns ∧ ns.length ≤ 8 ∧ SqL K H b (ps.map fun q => V.ref q.1) ∧ (∀ q ∈ ps, SqL K H q.1 (q.2.map V.str)) ∧
  ∀ p H' ks, Gr H H' → Told H H' p ks → ks.map (·.2) = least (tr (srt ns) (ps.map (·.2))) → Q (.ref p) H'
end
end K1
namespace K1
open PySem PySem.Spec PyProof.Rows L2 Gr GxR Srx Skx Dcx
section
variable {P : Program} {w : World} {K : PySem.W.Frag} {mg : Str → Option Value} {base : Heap} {f : Addr} {fd : FuncData}
def numD (rows : List (List Str)) : PyData := .list ((List.range rows.length).map fun i : Nat => .tuple [.int i, dS (srt (rows.getD i []))])
def spNumbered (K : PySem.W.Frag) : Sp := fun vs H Q _ => ∃ (a : Addr) (ps : List (Addr × List Str)), vs = [.ref a] ∧ SqL K H a (ps.map fun q => V.ref q.1) ∧ (∀ q ∈ ps, SqL K H q.1 (q.2.map V.str)) ∧ ps.length ≤ 1000 ∧ ∀ v H', Gr H H' → Dp K H' v (numD (ps.map (·.2))) → Q v H'
theorem sqL_mask {K : PySem.W.Frag} {D a : Addr} {H H' : Hp} {xs : List V} (h : SqL K H a xs) (hD : H D = none) (g : Gr H H') : SqL K (mask D H') a xs := (gr_masked hD g).seq h
def spBest (K : PySem.W.Frag) : Sp := fun vs H Q _ => ∃ (a : Addr) (ps : List (Addr × List Str)), vs = [.ref a] ∧ SqL K H a (ps.map fun q => V.ref q.1) ∧ (∀ q ∈ ps, H q.1 = some (.lst (q.2.map V.str)) ∧ Nms q.2) ∧ ps.length ≤ 5000 ∧
  ∀ (p : Addr) (H' : Hp) (ks : List (Addr × List Str)), Gr H H' → H p = none → H' p = some (.lst (ks.map fun q => V.ref q.1)) → (∀ q ∈ ks, q ∈ ps) → ks.map (·.2) = least (ps.map (·.2)) → Q (.ref p) H'
end
end K1
namespace K1
open PySem PySem.Spec PyProof.Rows L2 Gr GxR Srx Skx Dcx
theorem union_eq {a b : List Str} (ha : a.Nodup) (hb : b.Nodup) : srt (a ++ b.filter fun y => !a.contains y) = once (a ++ b) := by
  refine (once_same ?_ fun y => ?_).symm
  · refine List.nodup_append.mpr ⟨ha, hb.sublist List.filter_sublist, fun x hx y hy e => ?_⟩
    have h1 := (List.mem_filter.mp hy).2
    rw [← e, List.contains_iff_mem.mpr hx] at h1
    cases h1
  · rw [List.mem_append, List.mem_append, List.mem_filter]
    constructor
    · rintro (h | h)
      · exact .inl h
      · by_cases hy : y ∈ a
        · exact .inl hy
        · exact .inr ⟨h, by rw [Bool.not_eq_true', ← Bool.not_eq_true, List.contains_iff_mem]; exact hy⟩
    · rintro (h | h)
      · exact .inl h
      · exact .inr h.1
section
variable {P : Program} {w : World} {K : PySem.W.Frag} {mg : Str → Option Value} {base : Heap} {f : Addr} {fd : FuncData}
def spUnions : Sp := fun vs H Q _ => ∃ (a b : Addr) (ps qs : List (Addr × List Str)), vs = [.ref a, .ref b] ∧ LL H a ps ∧ LL H b qs ∧ (∀ q ∈ ps, q.2.Nodup ∧ q.2.length ≤ 100) ∧ (∀ q ∈ qs, q.2.Nodup ∧ q.2.length ≤ 100) ∧ ps.length * qs.length ≤ 5000 ∧
  ∀ p H' us, Gr H H' → Told H H' p us → us.map (·.2) = unions (ps.map (·.2)) (qs.map (·.2)) → Q (.ref p) H'
theorem unions_snoc (A B : List (List Str)) (a : List Str) : unions (A ++ [a]) B = unions A B ++ B.map fun b => once (a ++ b) := by
  unfold unions
  rw [List.flatMap_append]
  simp
end
end K1
namespace K1
open PySem PySem.Spec PyProof.Rows L2 Gr GxR Srx Skx Dcx
theorem cand_snoc (A : List (List Str)) (s r : List Str) : cand (A ++ [s]) r = cand A r ++ (if mt s r = true then [s] else r.map fun x => once (s ++ [x])) := by
  unfold cand
  rw [List.flatMap_append]
  simp
section
variable {P : Program} {w : World} {K : PySem.W.Frag} {mg : Str → Option Value} {base : Heap} {f : Addr} {fd : FuncData}
def spStep (K : PySem.W.Frag) : Sp := fun vs H Q _ => ∃ (a r : Addr) (ps : List (Addr × List Str)) (row : List Str), vs = [.ref a, .ref r] ∧ LL H a ps ∧ SqL K H r (row.map V.str) ∧ Nms row ∧ (∀ q ∈ ps, Ris q.2 ∧ Nms q.2 ∧ q.2.length ≤ 100) ∧ ps.length * (row.length + 1) ≤ 1100 ∧
  ∀ (p : Addr) (H' : Hp) (ks : List (Addr × List Str)), Gr H H' → H p = none → LL H' p ks → (∀ q ∈ ks, q ∈ ps ∨ H q.1 = none) → ks.map (·.2) = least (cand (ps.map (·.2)) row) → Q (.ref p) H'
end
end K1
namespace K1
open PySem PySem.Spec PyProof.Rows L2 Gr GxR Srx Skx Dcx
theorem for_rev {K : PySem.W.Frag} {a : Addr} {xs : List V} {g : TG} {tb : TS} {D : Ends} {σ : L2.St} {H : Hp} (Pv : Nat → L2.St → Hp → Prop) (h0 : Pv 0 σ H) (hl : ∀ i σ H, i ≤ xs.length → Pv i σ H → SqL K H a xs)
    (hs : ∀ i x σ H, xs.reverse[i]? = some x → Pv i σ H → g x σ H fun σ2 H2 => tb { D with nx := Pv (i + 1), ct := Pv (i + 1), bk := D.nx } σ2 H2) (hd : ∀ σ H, Pv xs.length σ H → D.nx σ H) :
    ∃ W : Nat → Nat → L2.St → Hp → Prop, (∃ m, W 0 m σ H) ∧ ∀ i m σ H, W i m σ H →
      ((Itv K a xs.length).stop i H ∧ D.nx σ H) ∨ ((Itv K a xs.length).go i H ∧ ∃ N : L2.St → Hp → Prop, (∀ σ' H', N σ' H' → ∃ m', m' < m ∧ W (i + 1) m' σ' H') ∧ ∀ x H', (Itv K a xs.length).yld i H x H' → g x σ H' fun σ2 H2 => tb { D with nx := N, ct := N, bk := D.nx } σ2 H2) := by
  refine ⟨fun i m σ H => m = xs.length - i ∧ i ≤ xs.length ∧ Pv i σ H, ⟨xs.length, by simp, Nat.zero_le _, h0⟩, ?_⟩
  rintro i m σ H ⟨rfl, hi, p⟩
  have q := hl i σ H hi p
  by_cases hlt : i < xs.length
  · have hx : xs[xs.length - 1 - i]? = some xs[xs.length - 1 - i] := List.getElem?_eq_getElem (by omega)
    refine .inr ⟨⟨hlt, xs, _, q, hx⟩, Pv (i + 1), fun σ' H' p' => ⟨xs.length - (i + 1), by omega, rfl, hlt, p'⟩, fun x H' y => ?_⟩
    obtain ⟨e, y⟩ := y
    subst e
    exact hs i x σ _ (by rw [List.getElem?_reverse hlt]; exact y xs q) p
  · have e : i = xs.length := by omega
    subst e
    exact .inl ⟨Nat.le_refl _, hd σ H p⟩
section
variable {P : Program} {w : World} {K : PySem.W.Frag} {mg : Str → Option Value} {base : Heap} {f : Addr} {fd : FuncData}
def spPared (K : PySem.W.Frag) : Sp := fun vs H Q _ => ∃ (a b : Addr) (xs : List Str) (ps : List (Addr × List Str)), vs = [.ref a, .ref b] ∧ SqL K H a (xs.map V.str) ∧ xs.length ≤ 1000 ∧ SqL K H b (ps.map fun q => V.ref q.1) ∧ (∀ q ∈ ps, SqL K H q.1 (q.2.map V.str)) ∧
  ∀ p H', Gr H H' → H p = none → H' p = some (.lst ((pared (ps.map (·.2)) xs).map V.str)) → Q (.ref p) H'
theorem pare_len (rows : List (List Str)) : ∀ (ns left : List Str), (ns.foldl (pareStep rows) left).length ≤ left.length
  | [], left => Nat.le_refl _
  | n :: ns, left => by
    rw [List.foldl_cons]
    refine Nat.le_trans (pare_len rows ns _) ?_
    unfold pareStep
    split
    · exact List.length_filter_le _ _
    · exact Nat.le_refl _
end
end K1
namespace K1
open PySem PySem.Spec PyProof.Rows L2 Gr GxR Srx Skx Dcx
section
variable {P : Program} {w : World} {K : PySem.W.Frag} {mg : Str → Option Value} {base : Heap} {f : Addr} {fd : FuncData}
def spLRows (K : PySem.W.Frag) : Sp := fun vs H Q _ => ∃ (a : Addr) (ps : List (Addr × List Str)), vs = [.ref a] ∧ SqL K H a (ps.map fun q => V.ref q.1) ∧ (∀ q ∈ ps, SqL K H q.1 (q.2.map V.str) ∧ Nms q.2) ∧ ps.length ≤ 1000 ∧
  ∀ p H' ks, Gr H H' → Told H H' p ks → ks.map (·.2) = least ((ps.map (·.2)).map srt) → Q (.ref p) H'
end
end K1
namespace K1
open PySem PySem.Spec PyProof.Rows L2 Gr GxR Srx Skx Dcx
section
variable {P : Program} {w : World} {K : PySem.W.Frag} {mg : Str → Option Value} {base : Heap} {f : Addr} {fd : FuncData}
def lenV : Option (List Str) → V
  | some s => .int (s.length : Nat)
  | none => .non
def spFewest (K : PySem.W.Frag) : Sp := fun vs H Q _ => ∃ (a b : Addr) (ns : List Str) (ps : List (Addr × List Str)), vs = [.ref a, .ref b] ∧ SqL K H a (ns.map V.str) ∧ ns.length ≤ 8 ∧ SqL K H b (ps.map fun q => V.ref q.1) ∧ (∀ q ∈ ps, SqL K H q.1 (q.2.map V.str)) ∧
  ∀ H', Gr H H' → Q (lenV ((rkd (box (srt ns))).find? fun s => mtAll s (ps.map (·.2)))) H'
theorem find_take {α : Type} {p : α → Bool} {l : List α} {i : Nat} {x : α} (h : l[i]? = some x) (n : ∀ y ∈ l.take i, p y = false) (hx : p x = true) : l.find? p = some x := by
  have e : l = l.take i ++ x :: l.drop (i + 1) := by
    have hi := (List.getElem?_eq_some_iff.mp h)
    obtain ⟨h1, h2⟩ := hi
    rw [← h2, ← List.drop_eq_getElem_cons h1, List.take_append_drop]
  rw [e, List.find?_append, List.find?_eq_none.mpr (fun y hy => by rw [n y hy]; exact Bool.false_ne_true)]
  rw [List.find?_cons, hx]
  rfl
end
end K1
namespace K1
open PySem PySem.Spec PyProof.Rows L2 Gr GxR Srx Skx Dcx
/-- a dict of True by texts -/
def kvK (l : List Str) : List (Key × V) := l.map fun x => (Sum.inr x, V.bl true)
theorem put_key (l : List Str) (x : Str) : putK (kvK l) (Sum.inr x) (V.bl true) = kvK (once1 l x) := by
  unfold putK kvK once1
  by_cases h : x ∈ l
  · rw [if_pos h, if_pos]
    · rw [List.map_map]
      refine List.map_congr_left fun y hy => ?_
      show (if _ then _ else _) = _
      split <;> rfl
    · rw [List.any_eq_true]
      exact ⟨_, List.mem_map.mpr ⟨x, h, rfl⟩, decide_eq_true rfl⟩
  · rw [if_neg h, if_neg]
    · rw [List.map_append]
      rfl
    · intro z
      rw [List.any_eq_true] at z
      obtain ⟨q, hq, e⟩ := z
      obtain ⟨y, hy, rfl⟩ := List.mem_map.mp hq
      have e := of_decide_eq_true e
      injection e with e
      rw [e] at hy
      exact h hy
theorem keys_map (l : List Str) : (kvK l).map (fun kv => kV kv.1) = l.map V.str := by
  unfold kvK
  rw [List.map_map]
  rfl
theorem srt_ddG (l : List Str) : srt (ddG l) = once l := (once_same (ddG_nodup l) fun y => ddG_mem.symm).symm
theorem any_empty (xss : List (List Str)) : (xss.map dS).any (fun z => PyData.eqv z (dS [])) = decide ([] ∈ xss) := by
  induction xss with
  | nil => rfl
  | cons x r ih =>
    rw [List.map_cons, List.any_cons, ih, eqv_dS]
    by_cases h : x = []
    · simp [h]
    · have h2 : ¬ [] = x := fun z => h z.symm
      simp [h, h2]
theorem hu65 {k : Nat} {A : Around} (hr : Room k A) : A.units + 65 < cLine := by
  have := hr.un
  omega
section
variable {P : Program} {w : World} {K : PySem.W.Frag} {mg : Str → Option Value} {base : Heap} {f : Addr} {fd : FuncData}
def one1 (rows : List (List Str)) : List Str := rows.flatMap fun r => if r.length = 1 then r else []
def needed (rows : List (List Str)) : List Str := if [] ∈ rows then [] else once (one1 rows)
def spNeeded (K : PySem.W.Frag) : Sp := fun vs H Q _ => ∃ (a : Addr) (ps : List (Addr × List Str)), vs = [.ref a] ∧ SqL K H a (ps.map fun q => V.ref q.1) ∧ (∀ q ∈ ps, SqL K H q.1 (q.2.map V.str) ∧ Nms q.2) ∧ ps.length ≤ 1000 ∧
  ∀ p H', Gr H H' → H p = none → H' p = some (.lst ((needed (ps.map (·.2))).map V.str)) → Q (.ref p) H'
end
end K1
end
section
set_option maxHeartbeats 4000000
/-! {e for x in xs for y in x}: a set of texts out of two walks. -/
namespace Sc2
open PySem PySem.Spec PyProof.Rows L2 Sx Srx
abbrev two (e t0 i0 : Expr) (f0 : List Expr) (t1 i1 : Expr) (f1 : List Expr) (sc : Scope) (p : Pos) : Expr := .SetComp e [⟨t0, i0, f0, 0⟩, ⟨t1, i1, f1, 0⟩] sc p
theorem turn_a (e t0 i0 t1 i1 : Expr) (f0 f1 : List Expr) (sc : Scope) (p : Pos) (it acc : Value) (env : Env) :
    compTurn (two e t0 i0 f0 t1 i1 f1 sc p) 0 it acc env = (do
      standAt i0.pos
      match ← pyNext it with
      | none => pure (.done .next)
      | some v => do
        letOwnedTupleGo t0 it v
        assign t0 env v
        let mut keeps := true
        for c in f0 do
          if keeps then keeps ← isTrue c env (eval c env)
        if keeps then
          let src ← eval i1 env
          standAt i1.pos
          let src ← foldedSetIterable i1 env src
          let _ ← runOwn (.compStart (two e t0 i0 f0 t1 i1 f1 sc p) 1 (← holding [src] (pyIter src)) acc env) env
        again (.compLoop (two e t0 i0 f0 t1 i1 f1 sc p) 0 it acc env)) := by rfl
theorem turn_b (e t0 i0 t1 i1 : Expr) (f0 f1 : List Expr) (sc : Scope) (p : Pos) (it acc : Value) (env : Env) :
    compTurn (two e t0 i0 f0 t1 i1 f1 sc p) 1 it acc env = (do
      standAt i1.pos
      match ← pyNext it with
      | none => pure (.done .next)
      | some v => do
        letOwnedTupleGo t1 it v
        assign t1 env v
        let mut keeps := true
        for c in f1 do
          if keeps then keeps ← isTrue c env (eval c env)
        if keeps then
          (do let y ← eval e env; standAt e.pos; let _ ← call (.builtin "set.add") [acc, y])
        again (.compLoop (two e t0 i0 f0 t1 i1 f1 sc p) 1 it acc env)) := by rfl
section
variable {P : Program} {w : World} {A : Around} {R : Result → Shared → Prop} {s : Shared} {e t0 i0 t1 i1 : Expr} {f0 f1 : List Expr} {sc : Scope} {p : Pos} {it acc : Value} {env : Env}
abbrev nb (P : Program) (w : World) (A : Around) (env : Env) (R : Result → Shared → Prop) : Value → Shared → Prop := notedBy (model P w) A env fun x s' => R (.error x) s'
abbrev tests (fs : List Expr) (env : Env) : Sem Bool := forIn fs true fun c r => if r = true then do let ok ← isTrue c env (eval c env); pure (ForInStep.yield ok) else pure (ForInStep.yield r)
/-- the outer walk -/
theorem loop_a (hs : ∀ x, foldedSetIterable i1 env x = pure x) (J : Nat → Shared → Prop)
    (go : ∀ n s, J n s → wpAny (model P w) A (pyNext it) (fun r sa => match r with
      | none => R (.ok .next) sa
      | some v => wpAny (model P w) A (letOwnedTupleGo t0 it v) (fun _ sb => wpAny (model P w) A (assign t0 env v) (fun _ sc' => wpAny (model P w) A (tests f0 env) (fun k sd =>
            if k = true then wpAny (model P w) A (eval i1 env) (fun x se => wpAny (model P w) A (pyIter x) (fun it1 sf =>
              codeAny (model P w) A (.compStart (two e t0 i0 f0 t1 i1 f1 sc p) 1 it1 acc env) (fun r s' => match r with
                | .ok _ => ∃ m, m < n ∧ J m s'
                | .error _ => False) sf) (nb P w A env R) se) (nb P w A env R) sd
            else ∃ m, m < n ∧ J m sd) (nb P w A env R) sc') (nb P w A env R) sb) (nb P w A env R) sa) (nb P w A env R) s)
    (n : Nat) (h : J n s) : codeAny (model P w) A (.compLoop (two e t0 i0 f0 t1 i1 f1 sc p) 0 it acc env) R s := by
  refine codeAny_loop rfl J (fun n s hJ => ?_) n h
  show wpAny _ A ((compTurn (two e t0 i0 f0 t1 i1 f1 sc p) 0 it acc env).onRaise (fun x => do noteFrame x env; theTreesLotGoes x)) _ _ s
  refine wpAny_noted ?_
  rw [turn_a]
  refine wpAny_bind (wpAny_standAt (wpAny_bind (wpAny_mono (go n s hJ) (fun r sa ha => ?_) fun _ _ z => z)))
  cases r with
  | none => exact wpAny_pure ha
  | some v =>
    refine wpAny_bind (wpAny_mono ha (fun _ sb hb => wpAny_bind (wpAny_mono hb (fun _ sc' hc => wpAny_bind (wpAny_mono hc (fun k sd hd => ?_) fun _ _ z => z)) fun _ _ z => z)) fun _ _ z => z)
    cases k with
    | false => exact wpAny_pure ⟨rfl, hd⟩
    | true =>
      refine wpAny_bind (wpAny_mono hd (fun x se he => wpAny_bind (wpAny_standAt (wpAny_bind (wpAny_of_eq (hs x) (wpAny_bind (wpAny_holding (wpAny_mono he (fun it1 sf hf => ?_) fun _ _ z => z))))))) fun _ _ z => z)
      refine wpAny_bind (wpAny_runOwn ?_)
      rw [Around.mark_none]
      refine codeAny_mono hf fun r s' hr => ?_
      cases r with
      | error y => exact hr.elim
      | ok y => first | exact wpAny_pure ⟨rfl, hr⟩ | exact wpAny_bind (wpAny_pure (wpAny_pure ⟨rfl, hr⟩))
/-- the inner one -/
theorem loop_b (J : Nat → Shared → Prop)
    (go : ∀ n s, J n s → wpAny (model P w) A (pyNext it) (fun r sa => match r with
      | none => R (.ok .next) sa
      | some v => wpAny (model P w) A (letOwnedTupleGo t1 it v) (fun _ sb => wpAny (model P w) A (assign t1 env v) (fun _ sc' => wpAny (model P w) A (tests f1 env) (fun k sd =>
            if k = true then wpAny (model P w) A (eval e env) (fun x se => wpAny (model P w) A (call (.builtin "set.add") [acc, x]) (fun _ sf => ∃ m, m < n ∧ J m sf) (nb P w A env R) se) (nb P w A env R) sd
            else ∃ m, m < n ∧ J m sd) (nb P w A env R) sc') (nb P w A env R) sb) (nb P w A env R) sa) (nb P w A env R) s)
    (n : Nat) (h : J n s) : codeAny (model P w) A (.compLoop (two e t0 i0 f0 t1 i1 f1 sc p) 1 it acc env) R s := by
  refine codeAny_loop rfl J (fun n s hJ => ?_) n h
  show wpAny _ A ((compTurn (two e t0 i0 f0 t1 i1 f1 sc p) 1 it acc env).onRaise (fun x => do noteFrame x env; theTreesLotGoes x)) _ _ s
  refine wpAny_noted ?_
  rw [turn_b]
  refine wpAny_bind (wpAny_standAt (wpAny_bind (wpAny_mono (go n s hJ) (fun r sa ha => ?_) fun _ _ z => z)))
  cases r with
  | none => exact wpAny_pure ha
  | some v =>
    refine wpAny_bind (wpAny_mono ha (fun _ sb hb => wpAny_bind (wpAny_mono hb (fun _ sc' hc => wpAny_bind (wpAny_mono hc (fun k sd hd => ?_) fun _ _ z => z)) fun _ _ z => z)) fun _ _ z => z)
    cases k with
    | false => exact wpAny_pure ⟨rfl, hd⟩
    | true => exact wpAny_bind (wpAny_bind (wpAny_mono hd (fun x se he => wpAny_bind (wpAny_standAt (wpAny_bind (wpAny_mono he (fun _ sf hf => wpAny_pure (wpAny_pure ⟨rfl, hf⟩)) fun _ _ z => z)))) fun _ _ z => z))
theorem start_b (h0 : codeAny (model P w) A (.compLoop (two e t0 i0 f0 t1 i1 f1 sc p) 1 it acc env) R s)
    (h : wpAny (model P w) A (pyIter it) (fun j s' => codeAny (model P w) A (.compLoop (two e t0 i0 f0 t1 i1 f1 sc p) 1 j acc env) R s') (nb P w A env R) s) :
    codeAny (model P w) A (.compStart (two e t0 i0 f0 t1 i1 f1 sc p) 1 it acc env) R s := by
  refine codeAny_of_tree ?_
  show wpAny _ _ ((compStart (two e t0 i0 f0 t1 i1 f1 sc p) 1 it acc env).onRaise (fun x => do noteFrame x env; standAt theWindowsPlace)) _ _ s
  refine wpAny_notedAt ?_
  unfold compStart
  show wpAny _ _ (ask >>= _) _ _ s
  refine wpAny_bind (wpAny_askSetting (wpAny_ite ?_))
  split
  · first | exact wpAny_pure ⟨rfl, h0⟩ | exact wpAny_bind (wpAny_pure (wpAny_pure ⟨rfl, h0⟩))
  · first
      | exact wpAny_bind (wpAny_rule (wpAny_bind (wpAny_standAt (wpAny_bind (wpAny_mono h (fun j s' z => wpAny_pure ⟨rfl, z⟩) fun _ _ z => z)))))
      | (refine wpAny_bind (wpAny_rule ?_); show wpAny _ _ (standAt i1.pos >>= _) _ _ s; exact wpAny_bind (wpAny_standAt (wpAny_bind (wpAny_mono h (fun j s' z => wpAny_pure ⟨rfl, z⟩) fun _ _ z => z))))
end
section
variable {X : Cx}
/-- set.add of a text -/
theorem add_ok {pins : List (Addr × Obj)} {σ : L2.St} {H : Hp} {s : Shared} {E : Value → Shared → Prop} {D : Addr} {ks : List Str} {y : Str} {u : Value} {Q : Value → Shared → Prop} (I : Inv X pins σ H s) (hD : H D = some (SetTx X.w D ks)) (room : ks.length + 1 < scanBound) (ru : RelV (.str y) u)
    (h : ∀ s', Inv X pins σ (upd H D (SetTx X.w D (Sx.once ks y))) s' → Q .none s') : wpAny (model X.prog X.w) X.A (call (.builtin "set.add") [.ref D, u]) Q E s := by
  obtain ⟨tk, rfl⟩ : ∃ tk, u = Value.str y tk := ru
  have R := setTx_get I hD
  have hS : s.heap.SetOf (PySem.strKind X.prog X.w) D (fun x => decide (x ∈ ks)) ks.length := R.setOf
  refine wpAny_call_entry F.slot_set_add hS.typeIs F.entry_set_add ?_ (F.args_set_add_2 _ _)
  unfold Builtin.«set.add» Builtin.Frozenset.oneOther
  simp only [List.isEmpty_nil, bind_assoc]
  unfold Builtin.Frozenset.addrOf setAdd
  refine wpAny_bind (wpAny_pure ?_)
  try dsimp only
  refine wpAny_bind (wpAny_pure ?_)
  try dsimp only
  refine wpAny_bind (wpAny_holding (wpAny_bind ((PySem.strKind X.prog X.w).pyHash (k := y) (strKind_is X.prog X.w y tk) ?_)))
  refine put_hashed (s := { s with toks := s.toks + 1 }) R room fun h' b sb new => ?_
  show wpAny _ _ (ret Value.none) _ _ _
  have he : ∃ q, h'.get? D = some q := by
    obtain ⟨o, _, _, _, ho, _⟩ := id new
    exact ⟨o, ho⟩
  exact wpAny_pure ⟨_, rfl, h _ (I.write (e := D) (t' := s.toks + 1) (by rw [hD]; trivial) (.inl rfl) (fun b u hb hu => (sb.2 b hb).trans hu) he (setTx_new new))⟩
/-- {y for .. for ..}: D the new set -/
def tSc2 (w : World) (wi : TI) (g : TG) (tt : TT) (wi1 : TI) (g1 : TG) (tt1 : TT) (te : TE) (vs vs1 : List Nat) : TE := fun σ H Q => wi σ H fun J H1 => ∀ D, H1 D = none → ∃ W : Nat → Nat → Hp → Prop, (∃ m, W 0 m (upd H1 D (SetTx w D []))) ∧ ∀ i m H, W i m H →
  (J.stop i H ∧ Q (.ref D) H) ∨ (J.go i H ∧ ∃ Nx : Hp → Prop, (∀ H', Nx H' → ∃ m', m' < m ∧ W (i + 1) m' H') ∧ ∀ x H', J.yld i H x H' → g x (wipe σ vs) H' fun σ2 H2 => wipe σ2 vs = wipe σ vs ∧ tt σ2 H2 fun b H3 =>
    if b = true then wi1 σ2 H3 fun J1 H4 => ∃ W1 : Nat → Nat → Hp → Prop, (∃ m, W1 0 m H4) ∧ ∀ j k H, W1 j k H →
      (J1.stop j H ∧ Nx H) ∨ (J1.go j H ∧ ∃ Nx1 : Hp → Prop, (∀ H', Nx1 H' → ∃ k', k' < k ∧ W1 (j + 1) k' H') ∧ ∀ x H', J1.yld j H x H' → g1 x (wipe σ2 vs1) H' fun σ3 H5 => wipe σ3 vs1 = wipe σ2 vs1 ∧ tt1 σ3 H5 fun b H6 =>
        if b = true then te σ3 H6 fun y H7 => ∃ x ks, y = .str x ∧ H7 D = some (SetTx w D ks) ∧ ks.length + 1 < scanBound ∧ Nx1 (upd H7 D (SetTx w D (Sx.once ks x))) else Nx1 H6)
    else Nx H3)
abbrev benv (X : Cx) (sc : Scope) (s : Shared) : Env := compEnvC sc (cellsFrom (s.heap.objs.size + 1) sc.names (cloFrom X.env.cells sc.names [])) s.heap.objs.size X.env
theorem newset {M : World} {P : Program} {A : Around} {E : Value → Shared → Prop} {s : Shared} {Q : Value → Shared → Prop} (h : Q (.ref s.heap.objs.size) { s with heap := s.heap.push (setObj0 M) }) : wpAny (model P M) A (newSet (.type "set")) Q E s := PpSet.newSet_ok h
theorem core {pins : List (Addr × Obj)} {s : Shared} {σ : L2.St} {H : Hp} {Q : VK} {e t0 i0 t1 i1 : Expr} {f0 f1 : List Expr} {sc : Scope} {own : List (Str × Nat)} {vs1 : List Nat} {p p' : Pos} {wi wi1 : TI} {g g1 : TG} {tt tt1 : TT} {te : TE} {Qf : Value → Shared → Prop}
    (hc : X.calm = true) (hN : X.N.Nodup) (I : Inv X pins σ H s) (hi : PI X t0 i0 wi) (ok : BlkOk X.N X.env.scope sc own) (hv : ∀ i ∈ vs1, i ∈ own.map (·.2))
    (hg : ∀ (s : Shared) (H : Hp) (C : Addr) (cl : List (Str × Addr)) (fp : List Addr), PG (X.blk s H sc (compEnvC sc cl C X.env) fp) t0 g) (ht : ∀ (s : Shared) (H : Hp) (C : Addr) (cl : List (Str × Addr)) (fp : List Addr), PTs (X.blk s H sc (compEnvC sc cl C X.env) fp) f0 tt)
    (he : ∀ (s : Shared) (H : Hp) (C : Addr) (cl : List (Str × Addr)) (fp : List Addr), PE (X.blk s H sc (compEnvC sc cl C X.env) fp) e te) (hs : ∀ x, foldedSetIterable i0 X.env x = pure x)
    (hi1 : ∀ (s : Shared) (H : Hp) (C : Addr) (cl : List (Str × Addr)) (fp : List Addr), PI (X.blk s H sc (compEnvC sc cl C X.env) fp) t1 i1 wi1)
    (hg1 : ∀ (s : Shared) (H : Hp) (C : Addr) (cl : List (Str × Addr)) (fp : List Addr), PG (X.blk s H sc (compEnvC sc cl C X.env) fp) t1 g1)
    (ht1 : ∀ (s : Shared) (H : Hp) (C : Addr) (cl : List (Str × Addr)) (fp : List Addr), PTs (X.blk s H sc (compEnvC sc cl C X.env) fp) f1 tt1) (hs1 : ∀ env x, foldedSetIterable i1 env x = pure x)
    (h : tSc2 X.w wi g tt wi1 g1 tt1 te (own.map (·.2)) vs1 σ H Q)
    (hRR : ∀ D C s' m H', Inv X pins σ H' s' → Q (.ref D) H' → s'.heap.Ns C m → FpOk X pins H' C → compPost (model X.prog X.w) X.A X.xe none Qf (.ref D) C (.ok .next) s') :
    wpAny (model X.prog X.w) X.A (comprehension (two e t0 i0 f0 t1 i1 f1 sc p) sc X.env p' (newSet (.type "set")) false (eval i0 X.env) none) Qf X.xe s := by
  have hfree : ∀ y ∈ sc.names, y.2 = .free → ∃ c, X.env.cells.lookup y.1 = some c := by
    intro y hy z
    exact (ok.free y hy z).elim (fun k => I.ok.has _ (.inl k)) fun k => I.ok.has _ (.inr k)
  refine wpAny_comprehension_free (use := none) rfl hs (closure_ok hfree) ok.kind (fun y hy z => by rw [ok.uniq y hy, z]) (thn (hi.run pins s σ H _ I h) fun _ _ hx => thn hx fun itv s2 h2 => ?_)
  obtain ⟨it, fp, tn, J, H2, rfl, I2, T, st2, f2, q⟩ := h2
  refine newset (newEnv_comp ?_)
  generalize hD : s2.heap.objs.size = D
  have nD : H2 D = none := I2.hok.fresh (Nat.le_of_eq hD)
  obtain ⟨W, ⟨m0, w0⟩, turn⟩ := q D nD
  generalize hs3 : ({ s2 with heap := s2.heap.push (setObj0 X.w) } : Shared) = s3
  have h3 : s3.heap = s2.heap.push (setObj0 X.w) := by subst hs3; rfl
  have I3 : Inv X pins σ (upd H2 D (SetTx X.w D [])) s3 := by
    subst hs3 hD
    exact I2.laid (t' := s2.toks) (fun _ _ z => Heap.get?_push_of_some _ z) (Nat.le_refl _) (setTx_new (setS_fresh (Heap.get?_push_size _ rfl)))
  have f3 : ∀ b ∈ fp, FpOk X pins (upd H2 D (SetTx X.w D [])) b ∧ b < s3.heap.objs.size := by
    intro b hb
    obtain ⟨o, z, _⟩ := T.obj _ _ st2 b hb
    have lt := Heap.lt_size z
    refine ⟨⟨?_, (f2 b hb).2⟩, by rw [h3, Heap.size_push]; exact Nat.lt_succ_of_lt lt⟩
    rw [upd_ne (by subst hD; exact Nat.ne_of_lt lt)]
    exact (f2 b hb).1
  have st3 : tn 0 s3.heap := T.keep _ _ _ st2 fun b _ o z => by
    rw [h3]; exact Heap.get?_push_of_some _ z
  have I4 := block_start I3 ok hN f3
  show codeAny _ _ (.compStart (two e t0 i0 f0 t1 i1 f1 sc p) 0 (.ref it) (.ref D) (benv X sc s3)) (compPost (model X.prog X.w) X.A X.xe none Qf (.ref D) s3.heap.objs.size) { s3 with heap := pushCells (s3.heap.push { cls := .type "dict", data := .dict #[] }) sc.names }
  have pg := hg s3 (upd H2 D (SetTx X.w D [])) s3.heap.objs.size (cellsFrom (s3.heap.objs.size + 1) sc.names (cloFrom X.env.cells sc.names [])) fp
  have pt := ht s3 (upd H2 D (SetTx X.w D [])) s3.heap.objs.size (cellsFrom (s3.heap.objs.size + 1) sc.names (cloFrom X.env.cells sc.names [])) fp
  have pe := he s3 (upd H2 D (SetTx X.w D [])) s3.heap.objs.size (cellsFrom (s3.heap.objs.size + 1) sc.names (cloFrom X.env.cells sc.names [])) fp
  have qi := hi1 s3 (upd H2 D (SetTx X.w D [])) s3.heap.objs.size (cellsFrom (s3.heap.objs.size + 1) sc.names (cloFrom X.env.cells sc.names [])) fp
  have qg := hg1 s3 (upd H2 D (SetTx X.w D [])) s3.heap.objs.size (cellsFrom (s3.heap.objs.size + 1) sc.names (cloFrom X.env.cells sc.names [])) fp
  have qt := ht1 s3 (upd H2 D (SetTx X.w D [])) s3.heap.objs.size (cellsFrom (s3.heap.objs.size + 1) sc.names (cloFrom X.env.cells sc.names [])) fp
  have n3 : ∀ b ∈ fp, (upd H2 D (SetTx X.w D [])) b = none := fun b hb => (f3 b hb).1.1
  generalize hce : benv X sc s3 = ce
  rw [show compEnvC sc (cellsFrom (s3.heap.objs.size + 1) sc.names (cloFrom X.env.cells sc.names [])) s3.heap.objs.size X.env = ce from hce] at I4 pg pt pe qi qg qt
  have cL : ce.locals = s3.heap.objs.size := by subst hce; rfl
  generalize hH3 : upd H2 D (SetTx X.w D []) = H3 at I3 I4 pg pt pe qi qg qt w0 n3 f3
  generalize hs4 : ({ s3 with heap := pushCells (s3.heap.push { cls := .type "dict", data := .dict #[] }) sc.names } : Shared) = s4 at I4 ⊢
  have st4 : tn 0 s4.heap := T.keep _ _ _ st3 fun b _ o z => by
    subst hs4
    exact pushCells_keeps _ _ _ _ (Heap.get?_push_of_some _ z)
  have stat : ∀ {σ' : L2.St} {H' : Hp} {s' : Shared}, Inv (X.blk s3 H3 sc ce fp) [] σ' H' s' → (∀ b ∈ fp, H' b = none) → ∀ b ∈ fp, FpOk (X.blk s3 H3 sc ce fp) [] H' b := by
    intro σ' H' s' I' hn b hb
    exact ⟨hn b hb, (I'.ok.exf b hb).1, I'.ok.exfs b hb, .inl hb, fun x c z => (I'.ok.exf b hb).2 x c z, fun q hq => absurd (show q ∈ ([] : List (Addr × Obj)) ++ [] from hq) (by simp)⟩
  let JJ : Nat → Shared → Prop := fun n s' => ∃ i H', Inv (X.blk s3 H3 sc ce fp) [] (wipe σ (own.map (·.2))) H' s' ∧ tn i s'.heap ∧ (∀ b ∈ fp, H' b = none) ∧ W i n H'
  have loop : codeAny (model X.prog X.w) X.A (.compLoop (two e t0 i0 f0 t1 i1 f1 sc p) 0 (.ref it) (.ref D) ce) (compPost (model X.prog X.w) X.A X.xe none Qf (.ref D) s3.heap.objs.size) s4 := ?loop
  exact PpSet.codeAny_compStart_set loop (T.self X.A 0 _ _ _ st4 loop)
  refine loop_a (hs1 ce) JJ ?_ m0 ⟨0, H3, I4, st4, n3, w0⟩
  rintro n s5 ⟨i, H5, I5, st5, n5, w5⟩
  rcases turn i n H5 w5 with ⟨stop, qq⟩ | ⟨gos, Nx, hNx, step⟩
  · refine thnF (T.done (X.blk s3 H3 sc ce fp) rfl rfl rfl hc i [] s5 _ H5 (fun _ _ => False) I5 (stat I5 n5) st5 stop) fun r s6 ⟨hr, I6⟩ => ?_
    subst hr
    have I7 : Inv X pins σ H5 s6 := I3.call' (ch := fp) I6.os I6.base I6.hok I6.bare fun b hb => by
      obtain ⟨_, z1, _, z3, z4, z5⟩ := (f3 b hb).1
      exact ⟨z3, z1, z4, z5⟩
    have nC : H5 s3.heap.objs.size = none := cL ▸ (show H5 ce.locals = none from I6.free)
    obtain ⟨m, hn, _⟩ := I6.loc
    exact hRR D s3.heap.objs.size s6 m H5 I7 qq (cL ▸ (show s6.heap.Ns ce.locals m from hn)) (I3.fpOk (Nat.le_refl _) nC)
  · refine thnF (T.item (X.blk s3 H3 sc ce fp) rfl rfl rfl hc i [] s5 _ H5 (fun _ _ => False) I5 (stat I5 n5) st5 gos) fun r s6 ⟨u, hr, h6⟩ => ?_
    subst hr
    refine thnF h6 fun _ s7 ⟨x, H7, I7, r7, y7, st7, n7⟩ => ?_
    have I7' := I7.pinned (stat I7 n7) (T.obj _ _ st7)
    refine thnF (pg.run _ s7 _ H7 x u _ I7' r7 (step x H7 y7)) fun _ s8 ⟨σ8, H8, I8, hw8, q8⟩ => ?_
    refine thnF (pt.run _ s8 σ8 H8 _ I8 q8) fun b s9 ⟨H9, I9, q9⟩ => ?_
    have fin : ∀ {σ9 : L2.St} {s' : Shared} {H' : Hp}, Inv (X.blk s3 H3 sc ce fp) ([] ++ pinsAt fp s7.heap) σ9 H' s' → (wipe σ (own.map (·.2))).length = σ9.length → (∀ (j : Nat) v, (wipe σ (own.map (·.2)))[j]? = some (some v) → σ9[j]? = some (some v)) → Nx H' → ∃ m, m < n ∧ JJ m s' := by
      intro σ9 s' H' I' hl hk nx
      obtain ⟨m', hm, w'⟩ := hNx H' nx
      have pin' : ∀ b ∈ fp, ∀ o, s7.heap.get? b = some o → s'.heap.get? b = some o ∧ H' b = none := by
        intro b hb o z
        have y := I'.pin (b, o) (List.mem_append_right _ (List.mem_append_right _ (mem_pinsAt hb z)))
        exact ⟨y.1, y.2.1⟩
      refine ⟨m', hm, i + 1, H', (I'.unpinned (pins := [])).weak hl hk, T.keep _ _ _ st7 fun b hb o z => (pin' b hb o z).1, fun b hb => ?_, w'⟩
      obtain ⟨o, z, _⟩ := T.obj _ _ st7 b hb
      exact (pin' b hb o z).2
    have l8 : (wipe σ (own.map (·.2))).length = σ8.length := by rw [← hw8, wipe_length]
    have k8 : ∀ (j : Nat) v, (wipe σ (own.map (·.2)))[j]? = some (some v) → σ8[j]? = some (some v) := by
      intro j v z
      rw [← hw8] at z
      exact (wipe_some z).1
    have k9 : ∀ (j : Nat) v, (wipe σ (own.map (·.2)))[j]? = some (some v) → (wipe σ8 vs1)[j]? = some (some v) := by
      intro j v z
      rw [← hw8] at z
      obtain ⟨z1, z2⟩ := wipe_some z
      rw [wipe_out fun y => z2 (hv j y)]
      exact z1
    cases b with
    | false =>
      simp only [Bool.false_eq_true, if_false] at q9 ⊢
      exact fin I9 l8 k8 q9
    | true =>
      simp only [if_true] at q9 ⊢
      refine thnF (qi.run _ s9 σ8 H9 _ I9 q9) fun _ _ hx => thnF hx fun itv sB hB => ?_
      obtain ⟨jt, fq, un, J1, HB, rfl, IB, U, stB, fB, W1, ⟨m1, w1⟩, turn1⟩ := hB
      have stat1 : ∀ {H' : Hp}, (∀ b ∈ fq, H' b = none) → ∀ b ∈ fq, FpOk (X.blk s3 H3 sc ce fp) ([] ++ pinsAt fp s7.heap) H' b := fun hn b hb => ⟨hn b hb, (fB b hb).2⟩
      let KK : Nat → Shared → Prop := fun k s' => ∃ j H', Inv (X.blk s3 H3 sc ce fp) ([] ++ pinsAt fp s7.heap) (wipe σ8 vs1) H' s' ∧ un j s'.heap ∧ (∀ b ∈ fq, H' b = none) ∧ W1 j k H'
      have inner : codeAny (model X.prog X.w) X.A (.compLoop (two e t0 i0 f0 t1 i1 f1 sc p) 1 (.ref jt) (.ref D) ce) (fun r s' => match r with
            | .ok _ => ∃ m, m < n ∧ JJ m s'
            | .error _ => False) sB := ?inner
      exact start_b inner (U.self X.A 0 _ _ _ stB inner)
      refine loop_b KK ?_ m1 ⟨0, HB, IB.weak (wipe_length _ _) (fun j v z => (wipe_some z).1), stB, fun b hb => (fB b hb).1, w1⟩
      rintro k sC ⟨j, HC, IC, stC, nC, wC⟩
      rcases turn1 j k HC wC with ⟨stop1, nx1⟩ | ⟨gos1, Nx1, hNx1, step1⟩
      · refine thnF (U.done (X.blk s3 H3 sc ce fp) rfl rfl rfl hc j _ sC (wipe σ8 vs1) HC (fun _ _ => False) IC (stat1 nC) stC stop1) fun r sD ⟨hr, ID⟩ => ?_
        subst hr
        exact fin ID (l8.trans (wipe_length σ8 vs1).symm) k9 nx1
      · refine thnF (U.item (X.blk s3 H3 sc ce fp) rfl rfl rfl hc j _ sC (wipe σ8 vs1) HC (fun _ _ => False) IC (stat1 nC) stC gos1) fun r sD ⟨u1, hr, hD2⟩ => ?_
        subst hr
        refine thnF hD2 fun _ sE ⟨x1, HE, IE, rE, yE, stE, nE⟩ => ?_
        have IE' := IE.pinned (stat1 nE) (U.obj _ _ stE)
        refine thnF (qg.run _ sE (wipe σ8 vs1) HE x1 u1 _ IE' rE (step1 x1 HE yE)) fun _ sF ⟨σF, HF, IF, hwF, qF⟩ => ?_
        refine thnF (qt.run _ sF σF HF _ IF qF) fun b1 sG ⟨HG, IG, qG⟩ => ?_
        have fin1 : ∀ {s' : Shared} {H' : Hp}, Inv (X.blk s3 H3 sc ce fp) (([] ++ pinsAt fp s7.heap) ++ pinsAt fq sE.heap) σF H' s' → Nx1 H' → ∃ m, m < k ∧ KK m s' := by
          intro s' H' I' nx
          obtain ⟨m', hm, w'⟩ := hNx1 H' nx
          have pin' : ∀ b ∈ fq, ∀ o, sE.heap.get? b = some o → s'.heap.get? b = some o ∧ H' b = none := by
            intro b hb o z
            have y := I'.pin (b, o) (List.mem_append_right _ (List.mem_append_right _ (mem_pinsAt hb z)))
            exact ⟨y.1, y.2.1⟩
          refine ⟨m', hm, j + 1, H', I'.unpinned.weak (by rw [← hwF, wipe_length]) (fun j v z => ?_), U.keep _ _ _ stE fun b hb o z => (pin' b hb o z).1, fun b hb => ?_, w'⟩
          · rw [← hwF] at z
            exact (wipe_some z).1
          · obtain ⟨o, z, _⟩ := U.obj _ _ stE b hb
            exact (pin' b hb o z).2
        cases b1 with
        | false =>
          simp only [Bool.false_eq_true, if_false] at qG ⊢
          exact fin1 IG qG
        | true =>
          simp only [if_true] at qG ⊢
          refine thnF (pe.run _ sG σF HG _ IG qG) fun z sH ⟨yv, HH, IH, rH, x, ks, ey, hDH, roomH, nx⟩ => ?_
          subst ey
          exact add_ok (X := X.blk s3 H3 sc ce fp) IH hDH roomH rH fun sI II => fin1 II nx
/-- as a value -/
theorem pe_sc2 {e t0 i0 t1 i1 : Expr} {f0 f1 : List Expr} {sc : Scope} {own : List (Str × Nat)} {vs1 : List Nat} {p : Pos} {wi wi1 : TI} {g g1 : TG} {tt tt1 : TT} {te : TE} (hc : X.calm = true) (hN : X.N.Nodup) (hi : PI X t0 i0 wi) (ok : BlkOk X.N X.env.scope sc own) (hv : ∀ i ∈ vs1, i ∈ own.map (·.2))
    (hg : ∀ (s : Shared) (H : Hp) (C : Addr) (cl : List (Str × Addr)) (fp : List Addr), PG (X.blk s H sc (compEnvC sc cl C X.env) fp) t0 g) (ht : ∀ (s : Shared) (H : Hp) (C : Addr) (cl : List (Str × Addr)) (fp : List Addr), PTs (X.blk s H sc (compEnvC sc cl C X.env) fp) f0 tt)
    (hi1 : ∀ (s : Shared) (H : Hp) (C : Addr) (cl : List (Str × Addr)) (fp : List Addr), PI (X.blk s H sc (compEnvC sc cl C X.env) fp) t1 i1 wi1)
    (hg1 : ∀ (s : Shared) (H : Hp) (C : Addr) (cl : List (Str × Addr)) (fp : List Addr), PG (X.blk s H sc (compEnvC sc cl C X.env) fp) t1 g1)
    (ht1 : ∀ (s : Shared) (H : Hp) (C : Addr) (cl : List (Str × Addr)) (fp : List Addr), PTs (X.blk s H sc (compEnvC sc cl C X.env) fp) f1 tt1)
    (he : ∀ (s : Shared) (H : Hp) (C : Addr) (cl : List (Str × Addr)) (fp : List Addr), PE (X.blk s H sc (compEnvC sc cl C X.env) fp) e te) (hs : ∀ x, foldedSetIterable i0 X.env x = pure x := by intro _; rfl) (hs1 : ∀ env x, foldedSetIterable i1 env x = pure x := by intro _ _; rfl) :
    PE X (.SetComp e [⟨t0, i0, f0, 0⟩, ⟨t1, i1, f1, 0⟩] sc p) (tSc2 X.w wi g tt wi1 g1 tt1 te (own.map (·.2)) vs1) := by
  refine ⟨fun pins s σ H Q I h => ?_⟩
  rw [PpSet.eval_SetComp]
  refine core hc hN I hi ok hv hg ht he hs hi1 hg1 ht1 hs1 h fun D C s' m H' I' q hn f => ⟨m, hn, fun h2 sb => ?_⟩
  obtain ⟨f0, f1, f2, f3, f4, f5⟩ := f
  exact ⟨.ref D, H', I'.turned (t' := s'.toks) (fun b o hb z => (sb.2 b hb).trans z) f0 f1 f3 f4 f5, rfl, q⟩
end
end Sc2
end
section
set_option maxHeartbeats 4000000
/-! list(d.values()) -/
namespace LVals
open PySem PySem.Spec PyProof.Rows L2
def tVals (te : TE) : TE := fun σ H Q => te σ H fun x H1 => ∃ d kvs, x = .ref d ∧ H1 d = some (.dK kvs) ∧ ∀ q, H1 q = none → Q (.ref q) (upd H1 q (.lst (kvs.map (·.2))))
theorem vals_list {kvs : List (Key × V)} {ws : List (Key × Value)} (r : KV kvs ws) {acc : Array Value} (h : ItemsOf (fun i v => ∃ k, ws[i]? = some (k, v)) acc ws.length) : Vals (kvs.map (·.2)) acc.toList := by
  refine vals_of_at (by
    have h0 : acc.toList.length = ws.length := by simpa using h.1
    rw [List.length_map, h0]; exact Paired.length r) fun j x u e1 e2 => ?_
  rw [Array.getElem?_toList] at e2
  obtain ⟨k, hk⟩ := h.2 j u e2
  rw [List.getElem?_map] at e1
  cases e3 : kvs[j]? with
  | none => rw [e3] at e1; cases e1
  | some kv =>
    rw [e3] at e1
    obtain rfl : kv.2 = x := Option.some.inj e1
    obtain ⟨y, hy, h1, h2⟩ := LiI.paired_get r e3
    rw [hk] at hy
    cases hy
    exact h2
section
variable {X : Cx} {e : Expr} {te : TE} {p apos cpos pos : Pos}
theorem pe_listVals (hc : X.calm = true) (he : PE X e te) (hg : Gl X "list") (hm : X.mg "list" = none) (hv : bootBuiltins "list" = some (.type "list")) (hbase : attributeBase e "values" X.env (eval e X.env) = eval e X.env := by rfl) (hline : (apos.endLine == cpos.line) = true := by rfl)
    (hs : starEach [.Call (.Attribute e "values" apos) [] [] cpos] X.env = (false, eval (.Call (.Attribute e "values" apos) [] [] cpos) X.env) :: starEach [] X.env := by rfl) :
    PE X (.Call (.Name "list" p) [.Call (.Attribute e "values" apos) [] [] cpos] [] pos) (tVals te) := by
  refine ⟨fun pins s σ H Q I hq => wpAny_Call_Name_kw (ld_blt I hg hm hv (PyProof.Rows.callWith_type1 ?_ hs rfl))⟩
  rw [hs]
  show wpAny _ _ (spliced ((false, eval (.Call (.Attribute e "values" apos) [] [] cpos) X.env) :: backTo pos (starEach [] X.env))) _ _ s
  refine Calls.spliced_cons (wpAny_Call_method (T := "dict") (id := "dict.values") hbase rfl hline F.plainAttrs_dict F.slot_dict_values F.type_dict_values (thn (he.run pins s σ H _ I hq) fun u s1 ⟨x, H1, I1, rx, d, kvs, ex, hd, q⟩ => ?_))
  subst ex
  obtain rfl : u = Value.ref d := rx
  obtain ⟨hz, lo, ws, kv, hdo⟩ := I1.hok d _ hd
  obtain ⟨ep, hat⟩ := hdo.dictAt
  have lk : kvs.length = ws.length := Paired.length kv
  have I2 : Inv X pins σ H1 { s1 with heap := s1.heap.push { cls := .type "dict_values", data := .fields #[.ref d] } } := I1.kept (t' := s1.toks) fun b ob z => Heap.get?_push_of_some _ z
  refine ⟨hdo.typeIs, hdo.mapOf.noDict, ?_⟩
  show wpAny _ _ (callWith cpos (.builtin "dict.values") [.ref d] [] []) _ X.xe s1
  refine method_meetsIn F.slot_dict_values F.entry_dict_values rfl (PySem.evalArgs_none ⟨rfl, hdo.typeIs, F.args_dict_values_1 _, _, meets_dict_values (mixKind X.prog X.w) d lo, ⟨ws, hdo⟩, Calls.spliced_nil ?_⟩)
  refine PySem.W.kdl_call (PySem.W.kdl_values (knd := mixKind X.prog X.w) (kvs := ws) (ep := ep) (d := d)) (I2.ok.hd hc) ⟨⟨_, Heap.get?_push_size _ rfl, rfl, rfl⟩, hat.push _⟩ (by rw [← lk]; exact hz) fun h' tk acc c kk hS hacc => ?_
  refine ⟨.ref _, upd H1 _ (.lst (kvs.map (·.2))), I2.laid (t' := tk) kk (Nat.le_refl _) ⟨?_, acc.toList, c, vals_list kv hacc, ?_⟩, rfl, q _ (I2.hok.fresh (Nat.le_refl _))⟩
  · rw [List.length_map]; exact hz
  · rw [Array.toArray_toList]; exact hS
end
end LVals
end
section
set_option maxHeartbeats 8000000
/-! a book of rows, as it stands; calls that may raise -/
namespace K1
open PySem PySem.Spec PyProof.Rows L2 Gr GxR Srx
/-- number, where the row stands, the row -/
abbrev Tb1 := List (Int × Addr × List Str)
def rws (tb : Tb1) : List (List Str) := tb.map (·.2.2)
def nums (tb : Tb1) : List Int := tb.map (·.1)
theorem kNR : ¬ (("_rows" : Str) = "_next_number") := by decide +kernel
def bfl (d : Addr) (n : Int) : List (Str × V) := putF "_next_number" (.int n) (putF "_rows" (.ref d) [])
theorem bfl_eq (d : Addr) (n : Int) : bfl d n = ([("_rows", V.ref d), ("_next_number", V.int n)] : List (Str × V)) := by
  show (if ("_rows" : Str) = "_next_number" then [(("_rows" : Str), V.int n)] else (("_rows" : Str), V.ref d) :: putF "_next_number" (V.int n) []) = _
  rw [if_neg kNR]
  rfl
theorem bfl_rows (d : Addr) (n : Int) : (bfl d n).lookup ("_rows" : Str) = some (.ref d) := by
  unfold bfl
  rw [lookup_putF, if_neg kNR, lookup_putF, if_pos rfl]
theorem bfl_next (d : Addr) (n : Int) : (bfl d n).lookup ("_next_number" : Str) = some (.int n) := by
  unfold bfl
  rw [lookup_putF, if_pos rfl]
def mOk (m : Str) : Bool := decide (¬ m = "_rows") && decide (¬ m = "_next_number")
theorem bfl_no {m : Str} (h : mOk m = true) (d : Addr) (n : Int) : (bfl d n).lookup m = none := by
  unfold mOk at h
  rw [Bool.and_eq_true] at h
  have h1 := of_decide_eq_true h.1
  have h2 := of_decide_eq_true h.2
  unfold bfl
  rw [lookup_putF, if_neg h2, lookup_putF, if_neg h1]
  rfl
theorem bfl_put (d : Addr) (n m : Int) : putF "_next_number" (.int m) (bfl d n) = bfl d m := by
  rw [bfl_eq, bfl_eq]
  show (if ("_rows" : Str) = "_next_number" then _ else (("_rows" : Str), V.ref d) :: (if ("_next_number" : Str) = "_next_number" then [(("_next_number" : Str), V.int m)] else _)) = _
  rw [if_neg kNR, if_pos rfl]
/-- the entries of a book's dict -/
def kvB (tb : Tb1) : List (Key × V) := tb.map fun e => ((Sum.inl e.1 : Key), V.ref e.2.1)
/-- at b: a book, its dict at d -/
structure Bk (C : Addr) (H : Hp) (b d : Addr) (tb : Tb1) (n : Int) : Prop where
  ob : ∃ dx, H b = some (.ins C dx (bfl d n))
  dc : H d = some (.dK (kvB tb))
  own : ∀ e ∈ tb, H e.2.1 = some (.lst (e.2.2.map V.str))
theorem Bk.gr {C b d : Addr} {H H' : Hp} {tb : Tb1} {n : Int} (B : Bk C H b d tb n) (g : Gr H H') : Bk C H' b d tb n := by
  obtain ⟨⟨dx, e⟩, e2, e3⟩ := B
  exact ⟨⟨dx, g.at_ _ _ e fun _ z => nomatch z⟩, g.at_ _ _ e2 fun _ z => (nomatch z), fun e he => g.lst (e3 e he)⟩
theorem Bk.grx {X : Addr → Prop} {C b d : Addr} {H H' : Hp} {tb : Tb1} {n : Int} (B : Bk C H b d tb n) (g : GrX X H H') (nb : ¬ X b) (nd : ¬ X d) (no : ∀ e ∈ tb, ¬ X e.2.1) : Bk C H' b d tb n := by
  obtain ⟨⟨dx, e⟩, e2, e3⟩ := B
  exact ⟨⟨dx, g.at_ _ _ nb e fun _ z => nomatch z⟩, g.at_ _ _ nd e2 fun _ z => (nomatch z), fun e he => g.lst (no e he) (e3 e he)⟩
theorem Bk.ne {C b d : Addr} {H : Hp} {tb : Tb1} {n : Int} (B : Bk C H b d tb n) : b ≠ d := let ⟨_, e⟩ := B.ob; ne_of e B.dc (by intro z; cases z)
theorem Bk.neb {C b d : Addr} {H : Hp} {tb : Tb1} {n : Int} (B : Bk C H b d tb n) {e} (he : e ∈ tb) : e.2.1 ≠ b ∧ e.2.1 ≠ d := by
  obtain ⟨dx, z⟩ := B.ob
  exact ⟨ne_of (B.own e he) z (by intro z; cases z), ne_of (B.own e he) B.dc (by intro z; cases z)⟩
/-- what holds of a book's rows and numbers -/
structure Tok (tb : Tb1) (n : Int) : Prop where
  num : (nums tb).Pairwise (· < ·)
  bnd : ∀ e ∈ tb, 0 ≤ e.1 ∧ e.1 < n
  set : ∀ e ∈ tb, Ris e.2.2 ∧ Nms e.2.2
  few : tb.length ≤ 30
  nms : (allN (rws tb)).length ≤ 12
  n0 : 0 ≤ n
theorem Tok.nil : Tok [] 0 := ⟨.nil, fun _ z => absurd z List.not_mem_nil, fun _ z => absurd z List.not_mem_nil, by decide, by decide +kernel, by decide⟩
/-- a function by its name, that may raise; a method -/
structure MCalls (P : Program) (w : World) (K : PySem.W.Frag) (mg : Str → Option Value) (base : Heap) (CX : CXT) (k : Nat) (C : Addr) (m : Str) (sp : Sp) : Prop where
  ex : ∃ (f : Addr) (fd : FuncData) (ps : List Str), FnOk P w K mg base CX k f fd ps sp ∧ Meth K C m f ∧ Binds K fd ps []
/-- what is raised, by the slots -/
abbrev Pa (CX : CXT) (X : Cx) (E : L2.St → XK) : Prop := ∀ σ, PassesAt CX X σ (E σ)
theorem pa0 {X : Cx} : Pa CX0 X (fun _ => E0) := fun _ _ _ _ _ _ _ h => h.elim
theorem paL {X : Cx} : Pa (L2.CX X.prog X.w) X (fun _ => E0) := fun σ pins H s e s' I h => passL pins σ H s e s' I h
theorem paE {X : Cx} {E : XK} (tk : Takes X (fun cls d _ H => E cls d H)) : Pa (L2.CX X.prog X.w) X (fun _ => E) := fun σ pins H s e s' I h => passes_call tk (fun _ _ _ _ z => z) pins σ H s e s' I h
theorem paT {X : Cx} {W : WX} (tk : Takes X W) : Pa (L2.CX X.prog X.w) X (WE W) := fun σ => passAt tk σ
def tM (C : Addr) (sp : Sp) (E : L2.St → XK) (ta : TE) (t : TA) : TE := fun σ H Q => ta σ H fun x H1 => ∃ b d tb n, x = .ref b ∧ Bk C H1 b d tb n ∧ t σ H1 fun vs H2 => sp (.ref b :: vs) H2 Q (E σ)
def tF (sp : Sp) (E : L2.St → XK) (t : TA) : TE := fun σ H Q => t σ H fun vs H1 => sp vs H1 Q (E σ)
section
variable {X : Cx} {CX : CXT} {k j : Nat} {C : Addr} {sp : Sp} {E : L2.St → XK} {m x : Str} {p pos apos : Pos} {o e : Expr} {es : List Expr} {ta : TE} {t : TA}
theorem pe_m {pl : Sem Bool} (c : MCalls X.prog X.w X.K X.mg X.base CX k C m sp) (cl : Cls X.K C) (hr : Room j X.A) (hk : k ≤ j) (hx : Pa CX X E) (ho : PE X o ta) (ha : PA X (e :: es) t) (hm : mOk m = true := by decide +kernel)
    (h1 : starEach (e :: es) X.env = (false, eval e X.env) :: starEach es X.env := by rfl) (h2 : (backTo pos (starEach es X.env)).any (·.1) = false := by rfl)
    (h3 : eval (.Call (.Attribute o m apos) (e :: es) [] pos) X.env = (do
        let ov ← eval o X.env
        standAt apos.atName
        let (f, first) ← holding [ov] (getMethod ov m pl)
        callWith pos f first (backTo pos (starEach (e :: es) X.env)) (backToKw pos (keywordEach [] X.env))) := by rfl) :
    PE X (.Call (.Attribute o m apos) (e :: es) [] pos) (tM C sp E ta t) := by
  obtain ⟨f, fd, ps, F, me, bi⟩ := c.ex
  refine ⟨fun pins s σ H Q I h => PySem.W.methodCall_KW (pl := pl) (thn (ho.run pins s σ H _ I h) fun u s1 hu => ?_) h3⟩
  obtain ⟨x, H1, I1, rx, b, d, tb, n, rfl, B, q⟩ := hu
  obtain rfl : u = Value.ref b := rx
  obtain ⟨dx, eb⟩ := B.ob
  refine getmeth_ok I1 eb cl me (bfl_no hm d n) (PySem.W.callWith_K (first := [.ref b]) (h₀ := X.base) I.ok.mod.kin me.kp (thn (ha.run pos pins s1 σ H1 _ I1 q) fun us s2 hv => ?_) h1 h2)
  obtain ⟨vs, H2, I2, r, q2⟩ := hv
  exact ⟨I2.kIn, run_fnS (us := .ref b :: us) (vs := .ref b :: vs) F (hr.mono hk) bi (hx σ) I2 (.cons rfl r) q2⟩
theorem pe_m0 {pl : Sem Bool} (c : MCalls X.prog X.w X.K X.mg X.base CX k C m sp) (cl : Cls X.K C) (hr : Room j X.A) (hk : k ≤ j) (hx : Pa CX X E) (ho : PE X o ta) (hm : mOk m = true := by decide +kernel)
    (h3 : eval (.Call (.Attribute o m apos) [] [] pos) X.env = (do
        let ov ← eval o X.env
        standAt apos.atName
        let (f, first) ← holding [ov] (getMethod ov m pl)
        callWith pos f first (backTo pos (starEach [] X.env)) (backToKw pos (keywordEach [] X.env))) := by rfl) :
    PE X (.Call (.Attribute o m apos) [] [] pos) (tM C sp E ta tNil) := by
  obtain ⟨f, fd, ps, F, me, bi⟩ := c.ex
  refine ⟨fun pins s σ H Q I h => PySem.W.methodCall_KW (pl := pl) (thn (ho.run pins s σ H _ I h) fun u s1 hu => ?_) h3⟩
  obtain ⟨x, H1, I1, rx, b, d, tb, n, rfl, B, q⟩ := hu
  obtain rfl : u = Value.ref b := rx
  obtain ⟨dx, eb⟩ := B.ob
  exact getmeth_ok I1 eb cl me (bfl_no hm d n) (PySem.W.callWith_K0 (first := [.ref b]) I1.kIn me.kp (run_fnS (us := [.ref b]) (vs := [.ref b]) F (hr.mono hk) bi (hx σ) I1 (.cons rfl .nil) q))
theorem pe_f (c : Calls X.prog X.w X.K X.mg X.base CX k x sp) (hr : Room j X.A) (hk : k ≤ j) (hx : Pa CX X E) (hg : Gl X x) (ha : PA X (e :: es) t)
    (hdb : (x == ("__debug__" : Str)) = false := by decide) (he : starEach (e :: es) X.env = (false, eval e X.env) :: starEach es X.env := by rfl) (hpl : (backTo pos (starEach es X.env)).any (·.1) = false := by rfl) :
    PE X (.Call (.Name x p) (e :: es) [] pos) (tF sp E t) := by
  obtain ⟨f, fd, ps, F, hm, kp, b⟩ := c.ex
  exact pe_callS F (hr.mono hk) hg hm kp b hx ha hdb he hpl
end
end K1
namespace K1
open PySem PySem.Spec PyProof.Rows L2 Gr GxR Srx
/-- the tables of code of is_name, within, meets, least_of, _met_by, own -/
structure TabN where
  i : Addr
  w : Addr
  m : Addr
  l : Addr
  b : Addr
  o : Addr
structure TabN.S (N : TabN) (H : Hp) : Prop where
  i : TabG H N.i
  w : TabG H N.w
  m : TabG H N.m
  l : TabG H N.l
theorem TabN.S.gr {N : TabN} {H H' : Hp} (t : N.S H) (g : Gr H H') : N.S H' := ⟨g.tabG t.i, g.tabG t.w, g.tabG t.m, g.tabG t.l⟩
structure TabN.G (N : TabN) (H : Hp) : Prop where
  s : N.S H
  b : TabG H N.b
  o : TabG H N.o
theorem TabN.G.gr {N : TabN} {H H' : Hp} (t : N.G H) (g : Gr H H') : N.G H' := ⟨t.s.gr g, g.tabG t.b, g.tabG t.o⟩
theorem TabN.G.grx {X : Addr → Prop} {N : TabN} {H H' : Hp} (t : N.G H) (g : GrX X H H') : N.G H' := ⟨⟨g.tabG t.s.i, g.tabG t.s.w, g.tabG t.s.m, g.tabG t.s.l⟩, g.tabG t.b, g.tabG t.o⟩
/-- the errors' classes -/
structure ErN where
  name : Addr
  row : Addr
  no : Addr
  many : Addr
  meet : Addr
  un : Addr
/-- what is handed in as a list of names -/
def HOk (H : Hp) (v : V) (xs : List Str) : Prop := ∃ a, v = .ref a ∧ H a = some (.lst (xs.map V.str)) ∧ Nms xs ∧ xs.length ≤ 1000
def HBadN (K : PySem.W.Frag) (H : Hp) (v : V) : Prop := ∃ a vls, v = .ref a ∧ H a = some (.lst vls) ∧ (∀ v ∈ vls, Thing K H v) ∧ vls.length ≤ 1000 ∧ ∃ v ∈ vls, nmV v = false
def HBadR (K : PySem.W.Frag) (H : Hp) (v : V) : Prop := ∃ t : String, TyX K H v (.type t) ∧ kitB t "list" = some false
theorem HOk.gr {H H' : Hp} {v : V} {xs : List Str} (h : HOk H v xs) (g : Gr H H') : HOk H' v xs := let ⟨a, e, z, r⟩ := h; ⟨a, e, g.lst z, r⟩
theorem HBadN.gr {K : PySem.W.Frag} {H H' : Hp} {v : V} (h : HBadN K H v) (g : Gr H H') : HBadN K H' v := let ⟨a, vls, e, z, t, r⟩ := h; ⟨a, vls, e, g.lst z, fun v hv => (t v hv).gr g, r⟩
theorem HBadR.gr {K : PySem.W.Frag} {H H' : Hp} {v : V} (h : HBadR K H v) (g : Gr H H') : HBadR K H' v := let ⟨t, e, k⟩ := h; ⟨t, tyx_gr g e, k⟩
def spNamesFrom (K : PySem.W.Frag) (T : Addr) (R : ErN) : Sp := fun vs H Q E => ∃ v, vs = [v] ∧ TabG H T ∧
  ((∃ xs, HOk H v xs ∧ ∀ p H', Gr H H' → H p = none → H' p = some (.lst ((once xs).map V.str)) → Q (.ref p) H') ∨ (HBadN K H v ∧ ∀ H', Gr H H' → E (.ref R.name) none H') ∨ (HBadR K H v ∧ ∀ H', Gr H H' → E (.ref R.row) none H'))
def spRowFrom (K : PySem.W.Frag) (T : Addr) (R : ErN) : Sp := fun vs H Q E => ∃ v, vs = [v] ∧ TabG H T ∧
  ((∃ xs, HOk H v xs ∧ xs.Nodup ∧ ∀ p H', Gr H H' → H p = none → H' p = some (.lst ((once xs).map V.str)) → Q (.ref p) H') ∨ (∃ xs, HOk H v xs ∧ ¬ xs.Nodup ∧ ∀ H', Gr H H' → E (.ref R.row) none H') ∨ (HBadN K H v ∧ ∀ H', Gr H H' → E (.ref R.name) none H') ∨ (HBadR K H v ∧ ∀ H', Gr H H' → E (.ref R.row) none H'))
theorem nms_all {xs : List Str} : xs.all isNm = true ↔ Nms xs := by
  rw [List.all_eq_true]
  exact Iff.rfl
theorem nms_things {K : PySem.W.Frag} {H : Hp} {xs : List Str} (h : Nms xs) : ∀ v ∈ xs.map V.str, Thing K H v := by
  intro v hv
  obtain ⟨x, hx, rfl⟩ := List.mem_map.mp hv
  exact thing_str (by have := nm_len (h x hx); rw [sizeLine_eq]; omega)
theorem once_full {xs : List Str} (h : xs.Nodup) : (once xs).length = xs.length := by
  unfold once
  rw [srt_len, Sx.dd_id h]
theorem nodup_of_dd : ∀ {xs : List Str}, (Sx.dd xs).length = xs.length → xs.Nodup := by
  intro xs
  induction xs using snoc_ind with
  | h0 => exact fun _ => List.nodup_nil
  | h1 xs x ih =>
    intro h
    have e : Sx.dd (xs ++ [x]) = Sx.once (Sx.dd xs) x := by
      unfold Sx.dd
      rw [List.foldl_append]
      rfl
    rw [e] at h
    have h1 := Sx.dd_len xs
    by_cases hx : x ∈ Sx.dd xs
    · rw [show Sx.once (Sx.dd xs) x = Sx.dd xs from if_pos hx, List.length_append, List.length_singleton] at h
      omega
    · rw [show Sx.once (Sx.dd xs) x = Sx.dd xs ++ [x] from if_neg hx, List.length_append, List.length_append] at h
      have h2 := ih (by omega)
      refine List.nodup_append.mpr ⟨h2, by simp, fun a ha b hb z => ?_⟩
      have hb : b = x := by simpa using hb
      rw [z, hb] at ha
      exact hx (Sx.dd_mem.mpr ha)
theorem once_twice {xs : List Str} (h : ¬ xs.Nodup) : (once xs).length ≠ xs.length := by
  unfold once
  rw [srt_len]
  exact fun z => h (nodup_of_dd z)
end K1
namespace K1
open PySem PySem.Spec PyProof.Rows L2 Gr GxR Srx Skx Dcx
/-- [.. x ..] for texts x: each made anew -/
theorem lc_newT {K : PySem.W.Frag} {a D : Addr} {j : Nat} {σ : L2.St} {vs : List Nat} {te : TE} {H1 : Hp} {Qd : Hp → Prop} {xs : List Str} (F : Str → List Str)
    (hA : SqL K H1 a (xs.map V.str)) (few : xs.length < sizeLine) (hD : H1 D = none) (hw : ∀ v, wipe ((wipe σ vs).set j (some v)) vs = wipe σ vs)
    (he : ∀ x ∈ xs, ∀ (H4 : Hp) (Q' : VK), Gr H1 H4 → (∀ H5 l, Gr H4 H5 → H5 l = none → Q' (.ref l) (upd H5 l (.lst ((F x).map V.str)))) → te ((wipe σ vs).set j (some (.str x))) H4 Q')
    (q : ∀ H2 ps, Gr H1 H2 → Told H1 H2 D ps → ps.map (·.2) = xs.map F → Qd H2) :
    ∃ W : Nat → Nat → Hp → Prop, (∃ m, W 0 m (upd H1 D (.lst []))) ∧ ∀ i m H, W i m H →
      ((Itl K a).stop i H ∧ Qd H) ∨ ((Itl K a).go i H ∧ ∃ Nx : Hp → Prop, (∀ H', Nx H' → ∃ m', m' < m ∧ W (i + 1) m' H') ∧ ∀ x H', (Itl K a).yld i H x H' → gName j x (wipe σ vs) H' fun σ2 H2 => wipe σ2 vs = wipe σ vs ∧ tYes σ2 H2 fun b H3 =>
        if b = true then te σ2 H3 fun y H4 => ∃ acc, H4 D = some (.lst acc) ∧ acc.length < sizeLine ∧ Nx (upd H4 D (.lst (acc ++ [y]))) else Nx H3) := by
  refine lc_list (xs := xs.map V.str) (Qd := Qd) (fun i H2 => Gr H1 H2 ∧ ∃ ps, Told H1 H2 D ps ∧ ps.map (·.2) = (xs.take i).map F) ⟨Gr.new hD, [], Told.nil hD, rfl⟩ (fun i H2 _ h => h.1.seq hA) (fun i x H2 hx h => ?_) (fun H2 h => ?_)
  · obtain ⟨g2, ps, T, e⟩ := h
    obtain ⟨x0, hx0, rfl⟩ := get_map hx
    refine ⟨hw _, yesIf (he x0 (List.mem_of_getElem? hx0) H2 _ g2 fun H5 l g5 hl => ⟨_, ?_, ?_, (g2.trans g5).trans (Gr.new hl) |>.mut hD, ps ++ [(l, F x0)], (T.gr g5).snoc (g2.trans g5) hl, ?_⟩)⟩
    · rw [upd_ne (ne_of_none (g5.lst T.at_) hl)]
      exact g5.lst T.at_
    · rw [List.length_map]
      have h1 := congrArg List.length e
      rw [List.length_map, List.length_map, List.length_take] at h1
      omega
    · rw [List.map_append, e, take_map hx0]
      rfl
  · obtain ⟨g2, ps, T, e⟩ := h
    rw [List.length_map, List.take_length] at e
    exact q H2 ps g2 T e
/-- what grown finds for each set, unsorted -/
def found (S : List (List Str)) (r : List Str) : List (List Str) := S.flatMap fun s => if mt s r = true then [s] else r.map fun x => s ++ [x]
theorem found_snoc (A : List (List Str)) (s r : List Str) : found (A ++ [s]) r = found A r ++ (if mt s r = true then [s] else r.map fun x => s ++ [x]) := by
  unfold found
  rw [List.flatMap_append]
  simp
theorem found_once {S : List (List Str)} {r : List Str} (h : RisAll S) : (found S r).map once = cand S r := by
  unfold found cand
  rw [List.map_flatMap]
  refine congrArg List.flatten (List.map_congr_left fun s hs => ?_)
  split
  · rw [List.map_cons, List.map_nil, once_ris (h s hs)]
  · rw [List.map_map]
    rfl
theorem mt_once {s r : List Str} : mt s (once r) = mt s r := by
  rw [Bool.eq_iff_iff, mt_iff, mt_iff]
  exact ⟨fun ⟨y, h1, h2⟩ => ⟨y, h1, once_mem.mp h2⟩, fun ⟨y, h1, h2⟩ => ⟨y, h1, once_mem.mpr h2⟩⟩
theorem cand_once {S : List (List Str)} {r : List Str} (h : RisAll S) : least (cand S (once r)) = least (cand S r) := by
  have mem : ∀ z, z ∈ cand S (once r) ↔ z ∈ cand S r := by
    intro z
    rw [cand_mem, cand_mem]
    refine exists_congr fun s => and_congr_right fun _ => ?_
    rw [mt_once]
    refine or_congr_right (and_congr_right fun _ => exists_congr fun x => and_congr_left fun _ => once_mem)
  refine least_ext (cand_ris h) (cand_ris h) (fun a ha => ⟨a, (mem a).mp ha, wi_self a⟩) fun b hb => ⟨b, (mem b).mpr hb, wi_self b⟩
def spGrown (K : PySem.W.Frag) (N : TabN) : Sp := fun vs H Q _ => ∃ (a : Addr) (v : V) (ps : List (Addr × List Str)) (r : List Str), vs = [.ref a, v] ∧ LL H a ps ∧ (∀ q ∈ ps, Ris q.2 ∧ q.2.length ≤ 100) ∧ ps.length ≤ 5000 ∧ HOk H v r ∧ r.Nodup ∧ r.length ≤ 12 ∧ N.S H ∧
  ∀ p H' ks, Gr H H' → Told H H' p ks → ks.map (·.2) = least (cand (ps.map (·.2)) r) → Q (.ref p) H'
end K1
end
section
set_option maxHeartbeats 8000000
namespace K1
open PySem PySem.Spec PyProof.Rows L2 Gr GxR Srx Skx Dcx
theorem Told.snoc2 {H H2 H5 : Hp} {D l : Addr} {ps : List (Addr × List Str)} {x : List Str} (T : Told H H2 D ps) (g : Gr H H2) (g5 : Gr H2 H5) (hl : H2 l = none) (el : H5 l = some (.lst (x.map V.str))) : Told H (upd H5 D (.lst ((ps.map fun q => V.ref q.1) ++ [V.ref l]))) D (ps ++ [(l, x)]) := by
  have nD : l ≠ D := (ne_of_none T.at_ hl).symm
  refine ⟨T.new, by rw [upd_same, List.map_append]; rfl, fun q hq => ?_, ?_⟩
  · rcases List.mem_append.mp hq with hq | hq
    · obtain ⟨h1, h2, h3⟩ := T.own q hq
      exact ⟨h1, h2, by rw [upd_ne h2]; exact g5.lst h3⟩
    · rw [List.mem_singleton.mp hq]
      exact ⟨g.free hl, nD, by rw [upd_ne nD]; exact el⟩
  · rw [List.map_append]
    refine List.nodup_append.mpr ⟨T.nd, by simp, fun a ha b hb e => ?_⟩
    have hb : b = l := by simpa using hb
    obtain ⟨q, hq, rfl⟩ := List.mem_map.mp ha
    have h3 := (T.own q hq).2.2
    rw [e, hb, hl] at h3
    cases h3
/-- rows out of the names -/
theorem lc_rows {D : Addr} {j n : Nat} {σ : L2.St} {vs : List Nat} {te : TE} {H1 : Hp} {Qd : Hp → Prop} {N : List Str} (few : n ≤ 1000) (hD : H1 D = none) (hw : ∀ v, wipe ((wipe σ vs).set j (some v)) vs = wipe σ vs)
    (he : ∀ (k : Nat), k < n → ∀ (H4 : Hp) (Q' : VK), Gr H1 H4 → (∀ (l : Addr) (H5 : Hp) (ys : List Str), Gr H4 H5 → H4 l = none → H5 l = some (.lst (ys.map V.str)) → ys.Nodup → (∀ y ∈ ys, y ∈ N) → ys.length ≤ N.length → Q' (.ref l) H5) → te ((wipe σ vs).set j (some (.int ((0 : Int) + (k : Nat))))) H4 Q')
    (q : ∀ H2 ps, Gr H1 H2 → Told H1 H2 D ps → ps.length = n → (∀ q ∈ ps, q.2.Nodup ∧ (∀ y ∈ q.2, y ∈ N) ∧ q.2.length ≤ N.length) → Qd H2) :
    ∃ W : Nat → Nat → Hp → Prop, (∃ m, W 0 m (upd H1 D (.lst []))) ∧ ∀ i m H, W i m H →
      ((Itr 0 n).stop i H ∧ Qd H) ∨ ((Itr 0 n).go i H ∧ ∃ Nx : Hp → Prop, (∀ H', Nx H' → ∃ m', m' < m ∧ W (i + 1) m' H') ∧ ∀ x H', (Itr 0 n).yld i H x H' → gName j x (wipe σ vs) H' fun σ2 H2 => wipe σ2 vs = wipe σ vs ∧ tYes σ2 H2 fun b H3 =>
        if b = true then te σ2 H3 fun y H4 => ∃ acc, H4 D = some (.lst acc) ∧ acc.length < sizeLine ∧ Nx (upd H4 D (.lst (acc ++ [y]))) else Nx H3) := by
  refine lc_range (lo := 0) (n := n) (Qd := Qd) (fun i H2 => Gr H1 H2 ∧ ∃ ps, Told H1 H2 D ps ∧ ps.length = i ∧ ∀ q ∈ ps, q.2.Nodup ∧ (∀ y ∈ q.2, y ∈ N) ∧ q.2.length ≤ N.length) ⟨Gr.new hD, [], Told.nil hD, rfl, fun _ z => absurd z List.not_mem_nil⟩ (fun i H2 hi h => ?_) (fun H2 h => ?_)
  · obtain ⟨g2, ps, T, e, ok⟩ := h
    refine ⟨hw _, yesIf (he i hi H2 _ g2 fun l H5 ys g5 nl el nd mem ln => ⟨_, g5.lst T.at_, ?_, (g2.trans g5).mut hD, ps ++ [(l, ys)], T.snoc2 g2 g5 nl el, ?_, fun q hq => ?_⟩)⟩
    · rw [List.length_map, e]
      exact small1000 (by omega)
    · rw [List.length_append, e]
      rfl
    · rcases List.mem_append.mp hq with hq | hq
      · exact ok q hq
      · rw [List.mem_singleton.mp hq]
        exact ⟨nd, mem, ln⟩
  · obtain ⟨g2, ps, T, e, ok⟩ := h
    exact q H2 ps g2 T e ok
theorem Told.mask {H H' : Hp} {D p : Addr} {o : HO} {ps : List (Addr × List Str)} (T : Told H H' p ps) (e : H D = some o) : LL (mask D H') p ps :=
  ⟨by rw [mask_at (T.off e).1.symm]; exact T.at_, fun q hq => by rw [mask_at ((T.off e).2 q hq).symm]; exact (T.own q hq).2.2⟩
theorem LL.unmask {H : Hp} {D p : Addr} {ps : List (Addr × List Str)} (l : LL (mask D H) p ps) : LL H p ps := l.gr (gr_unmask D H)
theorem LL.off {H : Hp} {D p : Addr} {ps : List (Addr × List Str)} (l : LL (mask D H) p ps) : p ≠ D ∧ ∀ q ∈ ps, q.1 ≠ D := ⟨(mask_some l.at_).1, fun q hq => (mask_some (l.own q hq)).1⟩
/-- new lists stand in the masked heap, too -/
theorem LL.mask {H' : Hp} {D p : Addr} {ps : List (Addr × List Str)} (l : LL H' p ps) (np : p ≠ D) (nq : ∀ q ∈ ps, q.1 ≠ D) : LL (mask D H') p ps :=
  ⟨by rw [mask_at np]; exact l.at_, fun q hq => by rw [mask_at (nq q hq)]; exact l.own q hq⟩
theorem atI_end {α : Type} {xs : List α} {v : α} (h : xs.getLast? = some v) : atI xs (-1) = some v := by
  obtain ⟨ys, rfl⟩ := List.getLast?_eq_some_iff.mp h
  exact atI_last ys v
theorem LL.out {H : Hp} {p : Addr} {ps : List (Addr × List Str)} (l : LL H p ps) : p ∉ ps.map (·.1) := by
  intro z
  obtain ⟨q, hq, z⟩ := List.mem_map.mp z
  have h1 := l.own q hq
  rw [z, l.at_] at h1
  have h2 : (ps.map fun q => V.ref q.1) = q.2.map V.str := by injection (Option.some.inj h1)
  cases ps with
  | nil => cases hq
  | cons x r =>
    cases h3 : q.2 with
    | nil => rw [h3] at h2; cases h2
    | cons y s =>
      rw [h3] at h2
      injection h2 with h2
      cases h2
theorem least_len (l : List (List Str)) : (least l).length ≤ l.length := by
  rw [least_eq]
  refine Nat.le_trans (keep_sub _ []).length_le ?_
  rw [List.nil_append, (rkd_perm _).length_eq]
  exact Nat.le_refl _
theorem grown_len {N : List Str} (hN : Ris N) {rows : List (List Str)} (h : ∀ r ∈ rows, ∀ y ∈ r, y ∈ N) : (grown rows).length ≤ 2 ^ N.length := by
  rw [grown_eq hN rows h]
  refine Nat.le_trans (least_len _) ?_
  unfold tr
  refine Nat.le_trans (List.length_filter_le _ _) ?_
  rw [box_len]
  exact Nat.le_refl _
theorem ris_srt {xs : List Str} (h : xs.Nodup) : Ris (srt xs) := ris_of (srt_sorted xs) ((srt_perm xs).nodup_iff.mpr h)
theorem grown_in {N : List Str} (hN : Ris N) {rows : List (List Str)} (h : ∀ r ∈ rows, ∀ y ∈ r, y ∈ N) {s : List Str} (hs : s ∈ grown rows) : Ris s ∧ (∀ y ∈ s, y ∈ N) ∧ s.length ≤ N.length := by
  rw [grown_eq hN rows h] at hs
  have m := least_sub (tr_ris hN) hs
  obtain ⟨⟨h1, h2⟩, _⟩ := (tr_mem hN).mp m
  exact ⟨h1, h2, (sublist_of hN h1 h2).length_le⟩
theorem grown_snoc (rows : List (List Str)) (r : List Str) : grown (rows ++ [r]) = least (cand (grown rows) r) := by
  unfold grown
  rw [List.foldl_append]
  rfl
end K1
end
section
set_option maxHeartbeats 8000000
/-! what a book's methods promise -/
namespace K1
open PySem PySem.Spec PyProof.Rows L2 Gr GxR Srx Skx Dcx
structure BkC (K : PySem.W.Frag) (mg : Str → Option Value) (C : Addr) : Prop where
  cl : Cls K C
  nR : NoAttr K C "_rows"
  nN : NoAttr K C "_next_number"
  mgC : mg "Book" = some (.ref C)
/-! ### rows and names -/
theorem flatten_len : ∀ {rows : List (List Str)} {m : Nat}, (∀ r ∈ rows, r.length ≤ m) → rows.flatten.length ≤ rows.length * m
  | [], _, _ => Nat.zero_le _
  | r :: rows, m, h => by
    have h1 := flatten_len (rows := rows) (m := m) fun x hx => h x (List.mem_cons_of_mem _ hx)
    have h2 := h r List.mem_cons_self
    rw [List.flatten_cons, List.length_append, List.length_cons, Nat.succ_mul]
    omega
theorem allN_iff {rows : List (List Str)} {y : Str} : y ∈ allN rows ↔ ∃ r ∈ rows, y ∈ r := by
  unfold allN
  rw [once_mem, List.mem_flatten]
theorem ris_allN (rows : List (List Str)) : Ris (allN rows) := ris_once _
theorem row_in {rows : List (List Str)} {r : List Str} (hr : r ∈ rows) : ∀ y ∈ r, y ∈ allN rows := fun y hy => allN_iff.mpr ⟨r, hr, hy⟩
theorem rws_mem {tb : Tb1} {e : Int × Addr × List Str} (h : e ∈ tb) : e.2.2 ∈ rws tb := List.mem_map.mpr ⟨e, h, rfl⟩
theorem Tok.rlen {tb : Tb1} {n : Int} (T : Tok tb n) {r : List Str} (h : r ∈ rws tb) : Ris r ∧ Nms r ∧ r.length ≤ 12 := by
  obtain ⟨e, he, rfl⟩ := List.mem_map.mp h
  obtain ⟨h1, h2⟩ := T.set e he
  exact ⟨h1, h2, Nat.le_trans (sublist_of (ris_allN _) h1 (row_in h)).length_le T.nms⟩
theorem Tok.flat {tb : Tb1} {n : Int} (T : Tok tb n) : (rws tb).flatten.length ≤ 360 := by
  refine Nat.le_trans (flatten_len fun r h => (T.rlen h).2.2) ?_
  have h1 := T.few
  unfold rws
  rw [List.length_map]
  omega
theorem Tok.nmsN {tb : Tb1} {n : Int} (T : Tok tb n) : Nms (allN (rws tb)) := by
  intro y hy
  obtain ⟨r, hr, hy⟩ := allN_iff.mp hy
  exact (T.rlen hr).2.1 y hy
/-- what least tells of such a book -/
theorem Tok.grown {tb : Tb1} {n : Int} (T : Tok tb n) : (grown (rws tb)).length ≤ 4096 ∧ ∀ s ∈ grown (rws tb), Ris s ∧ Nms s ∧ s.length ≤ 12 := by
  have hN := ris_allN (rws tb)
  have hr : ∀ r ∈ rws tb, ∀ y ∈ r, y ∈ allN (rws tb) := fun r h => row_in h
  refine ⟨Nat.le_trans (grown_len hN hr) (Nat.pow_le_pow_right (by decide) T.nms : 2 ^ _ ≤ 2 ^ 12), fun s hs => ?_⟩
  obtain ⟨h1, h2, h3⟩ := grown_in hN hr hs
  exact ⟨h1, fun y hy => T.nmsN y (h2 y hy), Nat.le_trans h3 T.nms⟩
theorem rws_snoc (tb : Tb1) (e : Int × Addr × List Str) : rws (tb ++ [e]) = rws tb ++ [e.2.2] := by
  unfold rws
  rw [List.map_append]
  rfl
theorem once_congr {xs ys : List Str} (h : ∀ y, y ∈ xs ↔ y ∈ ys) : once xs = once ys := by
  have n1 := (ris_once xs).nodup
  have n2 := (ris_once ys).nodup
  refine sorted_one ((List.perm_ext_iff_of_nodup n1 n2).mpr fun y => ?_) (ris_once xs).sorted (ris_once ys).sorted
  rw [once_mem, once_mem]
  exact h y
theorem allN_once (rows : List (List Str)) (xs : List Str) : allN (rows ++ [once xs]) = allN (rows ++ [xs]) := by
  unfold allN
  refine once_congr fun y => ?_
  rw [List.flatten_append, List.flatten_append, List.mem_append, List.mem_append, List.mem_flatten (L := [once xs]), List.mem_flatten (L := [xs])]
  simp [once_mem]
theorem Tok.put {tb : Tb1} {n : Int} (T : Tok tb n) {xs : List Str} (nm : Nms xs) (few : tb.length < 30) (wide : (allN (rws tb ++ [xs])).length ≤ 12) (p : Addr) : Tok (tb ++ [(n, p, once xs)]) (n + 1) := by
  refine ⟨?_, fun e he => ?_, fun e he => ?_, ?_, ?_, ?_⟩
  · unfold nums
    rw [List.map_append]
    refine List.pairwise_append.mpr ⟨T.num, List.pairwise_singleton _ _, fun a ha b hb => ?_⟩
    obtain ⟨e, he, rfl⟩ := List.mem_map.mp ha
    rw [show b = n by simpa using hb]
    exact (T.bnd e he).2
  · rcases List.mem_append.mp he with he | he
    · have := T.bnd e he
      exact ⟨this.1, by omega⟩
    · rw [List.mem_singleton.mp he]
      exact ⟨T.n0, by show n < n + 1; omega⟩
  · rcases List.mem_append.mp he with he | he
    · exact T.set e he
    · rw [List.mem_singleton.mp he]
      exact ⟨ris_once xs, once_nms nm⟩
  · rw [List.length_append, List.length_singleton]
    omega
  · rw [rws_snoc, allN_once]
    exact wide
  · have := T.n0
    omega
theorem Tok.take {tb : Tb1} {n : Int} (T : Tok tb n) (k : Int) : Tok (tb.filter fun e => decide (e.1 ≠ k)) n := by
  have sub : List.Sublist (tb.filter fun e => decide (e.1 ≠ k)) tb := List.filter_sublist
  refine ⟨T.num.sublist (sub.map _), fun e he => T.bnd e (sub.subset he), fun e he => T.set e (sub.subset he), Nat.le_trans sub.length_le T.few, ?_, T.n0⟩
  refine Nat.le_trans (sublist_of (ris_allN _) (ris_allN _) fun y hy => ?_).length_le T.nms
  obtain ⟨r, hr, hy⟩ := allN_iff.mp hy
  exact allN_iff.mpr ⟨r, (sub.map _).subset hr, hy⟩
/-! ### a new book -/
def spInit (C : Addr) : Sp := fun vs H Q _ => ∃ (b dx : Addr), vs = [.ref b] ∧ H b = some (.ins C dx []) ∧ ∀ d H', H d = none → GrX (fun a => a = b) H H' → Bk C H' b d [] 0 → Q .non H'
def tNew (C : Addr) : TE := fun _ H Q => ∀ b d H', Gr H H' → H b = none → H d = none → Bk C H' b d [] 0 → Q (.ref b) H'
structure MkB (P : Program) (w : World) (K : PySem.W.Frag) (mg : Str → Option Value) (base : Heap) (C : Addr) : Prop where
  ex : ∃ (f : Addr) (fd : FuncData) (ps : List Str), FnOk P w K mg base CX0 1 f fd ps (spInit C) ∧ Mk K C f ∧ Binds K fd ps []
theorem pe_new {X : Cx} {C : Addr} {j : Nat} {p pos : Pos} (c : MkB X.prog X.w X.K X.mg X.base C) (BC : BkC X.K X.mg C) (hr : Room j X.A) (hk : 2 ≤ j) (hg : Gl X "Book") : PE X (.Call (.Name "Book" p) [] [] pos) (tNew C) := by
  obtain ⟨f, fd, ps, F, M, b⟩ := c.ex
  refine ⟨fun pins s σ H Q I h => (pe_make0 M F (hr.mono hk) hg BC.mgC b .nil pass0).run pins s σ H Q I ?_⟩
  intro x dx nx ndx ne
  have hdx : (upd H dx (.own x)) x = none := by rw [upd_ne ne.symm]; exact nx
  have g2 : Gr H (upd (upd H dx (.own x)) x (.ins C dx [])) := (Gr.new ndx).trans (Gr.new hdx)
  refine ⟨x, dx, rfl, upd_same, fun d H' nd g B => ⟨rfl, h x d H' (GrX.young g2 g fun b hb => by rw [hb]; exact nx) nx (g2.free nd) B⟩⟩
/-! ### the promises -/
def spBSets (C : Addr) : Sp := fun vs H Q _ => ∃ b d tb n, vs = [.ref b] ∧ Bk C H b d tb n ∧ ∀ p, H p = none → Q (.ref p) (upd H p (.lst (tb.map fun e => V.ref e.2.1)))
def spBNames (C : Addr) : Sp := fun vs H Q _ => ∃ b d tb n, vs = [.ref b] ∧ Bk C H b d tb n ∧ Tok tb n ∧ ∀ p H', Gr H H' → H p = none → H' p = some (.lst ((allN (rws tb)).map V.str)) → Q (.ref p) H'
def spPut (K : PySem.W.Frag) (C : Addr) (N : TabN) (R : ErN) : Sp := fun vs H Q E => ∃ b d tb n v, vs = [.ref b, v] ∧ Bk C H b d tb n ∧ Tok tb n ∧ N.G H ∧
  ((∃ xs, HOk H v xs ∧ xs.length ≤ 100 ∧ xs.Nodup ∧ tb.length < 30 ∧ (allN (rws tb ++ [xs])).length ≤ 12 ∧ ∀ p H', GrX (fun a => a = b ∨ a = d) H H' → H p = none → Bk C H' b d (tb ++ [(n, p, once xs)]) (n + 1) → Q (.int n) H') ∨
   (∃ xs, HOk H v xs ∧ xs.length ≤ 100 ∧ xs.Nodup ∧ (30 ≤ tb.length ∨ 12 < (allN (rws tb ++ [xs])).length) ∧ ∀ H', Gr H H' → E (.ref R.many) none H') ∨
   (∃ xs, HOk H v xs ∧ ¬ xs.Nodup ∧ ∀ H', Gr H H' → E (.ref R.row) none H') ∨ (HBadN K H v ∧ ∀ H', Gr H H' → E (.ref R.name) none H') ∨ (HBadR K H v ∧ ∀ H', Gr H H' → E (.ref R.row) none H'))
/-- what is no number of a row that is there -/
def BadNo (K : PySem.W.Frag) (H : Hp) (v : V) (tb : Tb1) : Prop := (∃ k : Int, v = .int k ∧ k ∉ nums tb) ∨ (∃ t : String, TyX K H v (.type t) ∧ (kitB t "int" = some false ∨ (kitB t "int" = some true ∧ kitB t "bool" = some true)))
def spTake (K : PySem.W.Frag) (C : Addr) (R : ErN) : Sp := fun vs H Q E => ∃ b d tb n v, vs = [.ref b, v] ∧ Bk C H b d tb n ∧ Tok tb n ∧
  ((∃ k : Int, v = .int k ∧ k ∈ nums tb ∧ ∀ H', GrX (fun a => a = d) H H' → Bk C H' b d (tb.filter fun e => decide (e.1 ≠ k)) n → Q .non H') ∨ (BadNo K H v tb ∧ ∀ H', Gr H H' → E (.ref R.no) none H'))
/-- a told pair: its tuple, its number, its list, the row -/
structure Pr1 where
  t : Addr
  k : Int
  l : Addr
  r : List Str
structure ToldP (H H' : Hp) (p : Addr) (rs : List Pr1) : Prop where
  new : H p = none
  at_ : H' p = some (.lst (rs.map fun r => V.ref r.t))
  own : ∀ r ∈ rs, H r.t = none ∧ H r.l = none ∧ r.t ≠ p ∧ r.l ≠ p ∧ H' r.t = some (.tup [.int r.k, .ref r.l]) ∧ H' r.l = some (.lst (r.r.map V.str))
def nr (tb : Tb1) : List (Int × List Str) := tb.map fun e => (e.1, e.2.2)
def spBRows (C : Addr) : Sp := fun vs H Q _ => ∃ b d tb n, vs = [.ref b] ∧ Bk C H b d tb n ∧ Tok tb n ∧ ∀ p H' rs, Gr H H' → ToldP H H' p rs → rs.map (fun r => (r.k, r.r)) = nr tb → Q (.ref p) H'
def spBLeastRows (C : Addr) (N : TabN) : Sp := fun vs H Q _ => ∃ b d tb n, vs = [.ref b] ∧ Bk C H b d tb n ∧ Tok tb n ∧ N.G H ∧ ∀ p H' ks, Gr H H' → Told H H' p ks → ks.map (·.2) = least (rws tb) → Q (.ref p) H'
def spBLeast (C : Addr) (N : TabN) : Sp := fun vs H Q _ => ∃ b d tb n, vs = [.ref b] ∧ Bk C H b d tb n ∧ Tok tb n ∧ N.G H ∧ ∀ p H' ks, Gr H H' → Told H H' p ks → ks.map (·.2) = grown (rws tb) → Q (.ref p) H'
def fewV (rows : List (List Str)) : V := match grown rows with
  | [] => .non
  | s :: _ => .int (s.length : Nat)
def spBFewest (C : Addr) (N : TabN) : Sp := fun vs H Q _ => ∃ b d tb n, vs = [.ref b] ∧ Bk C H b d tb n ∧ Tok tb n ∧ N.G H ∧ ∀ H', Gr H H' → Q (fewV (rws tb)) H'
def spBMetBy (K : PySem.W.Frag) (C : Addr) (N : TabN) : Sp := fun vs H Q _ => ∃ (b d : Addr) (tb : Tb1) (n : Int) (a : Addr) (xs : List Str), vs = [.ref b, .ref a] ∧ Bk C H b d tb n ∧ Tok tb n ∧ N.G H ∧ H a = some (.lst (xs.map V.str)) ∧ ∀ H', Gr H H' → Q (.bl (mtAll xs (rws tb))) H'
def spBMeets (K : PySem.W.Frag) (C : Addr) (N : TabN) (R : ErN) : Sp := fun vs H Q E => ∃ b d tb n v, vs = [.ref b, v] ∧ Bk C H b d tb n ∧ Tok tb n ∧ N.G H ∧
  ((∃ xs, HOk H v xs ∧ ∀ H', Gr H H' → Q (.bl (mtAll xs (rws tb))) H') ∨ (HBadN K H v ∧ ∀ H', Gr H H' → E (.ref R.name) none H') ∨ (HBadR K H v ∧ ∀ H', Gr H H' → E (.ref R.row) none H'))
def spBMeeting (K : PySem.W.Frag) (C : Addr) (N : TabN) (R : ErN) : Sp := fun vs H Q E => ∃ b d tb n v, vs = [.ref b, v] ∧ Bk C H b d tb n ∧ Tok tb n ∧ N.G H ∧
  ((∃ xs, HOk H v xs ∧ mtAll xs (rws tb) = true ∧ ∀ p H', Gr H H' → H p = none → H' p = some (.lst ((once xs).map V.str)) → Q (.ref p) H') ∨ (∃ xs, HOk H v xs ∧ mtAll xs (rws tb) = false ∧ ∀ H', Gr H H' → E (.ref R.meet) none H') ∨
   (HBadN K H v ∧ ∀ H', Gr H H' → E (.ref R.name) none H') ∨ (HBadR K H v ∧ ∀ H', Gr H H' → E (.ref R.row) none H'))
/-! ### small readings -/
theorem gr_lock {H H' : Hp} {d : Addr} {u : HO} {od : Obj} (e : H d = some u) (nt : NoTbl u) (g : Gr (upd H d (.frz od u)) H') : Gr H (upd H' d u) :=
  ⟨fun b o eb n => by
    by_cases h : b = d
    · subst h
      rw [upd_same, ← eb, e]
    · rw [upd_ne h]
      exact g.at_ b o (by rw [upd_ne h]; exact eb) n, fun b ps eb => by
    by_cases h : b = d
    · subst h
      rw [e] at eb
      exact absurd (Option.some.inj eb) (nt ps)
    · obtain ⟨p1, e1, k1⟩ := g.tab b ps (by rw [upd_ne h]; exact eb)
      exact ⟨p1, by rw [upd_ne h]; exact e1, k1⟩⟩
theorem kvB_in (tb : Tb1) (k : Int) : (valV (kvB tb) (Sum.inl k : Key)).isSome = decide (k ∈ nums tb) := by
  rw [← valV_any, Bool.eq_iff_iff, List.any_eq_true, decide_eq_true_eq]
  unfold kvB nums
  constructor
  · rintro ⟨kv, h, e⟩
    obtain ⟨x, hx, rfl⟩ := List.mem_map.mp h
    have e := of_decide_eq_true e
    injection e with e
    exact List.mem_map.mpr ⟨x, hx, e⟩
  · intro h
    obtain ⟨x, hx, rfl⟩ := List.mem_map.mp h
    exact ⟨_, List.mem_map.mpr ⟨x, hx, rfl⟩, decide_eq_true rfl⟩
theorem kvB_put {tb : Tb1} {k : Int} (h : k ∉ nums tb) (p : Addr) (r : List Str) : putK (kvB tb) (Sum.inl k : Key) (V.ref p) = kvB (tb ++ [(k, p, r)]) := by
  rw [putK_new]
  · unfold kvB
    rw [List.map_append]
    rfl
  · have h1 := kvB_in tb k
    rw [decide_eq_false h] at h1
    cases e : valV (kvB tb) (Sum.inl k : Key) with
    | none => rfl
    | some v => rw [e] at h1; cases h1
theorem kvB_drop (tb : Tb1) (k : Int) : dropK (kvB tb) (Sum.inl k : Key) = kvB (tb.filter fun e => decide (e.1 ≠ k)) := by
  unfold dropK kvB
  rw [List.filter_map]
  refine congrArg _ (List.filter_congr fun e _ => ?_)
  show decide ((Sum.inl e.1 : Key) ≠ Sum.inl k) = decide (e.1 ≠ k)
  rw [decide_eq_decide]
  exact not_congr ⟨fun z => by injection z, fun z => by rw [z]⟩
theorem Tok.fresh {tb : Tb1} {n : Int} (T : Tok tb n) : n ∉ nums tb := by
  intro h
  obtain ⟨e, he, z⟩ := List.mem_map.mp h
  have := (T.bnd e he).2
  omega
theorem kvB_len (tb : Tb1) : (kvB tb).length = tb.length := List.length_map _
end K1
namespace K1
open PySem PySem.Spec PyProof.Rows L2 Gr GxR Srx Skx Dcx
abbrev FnM (K : PySem.W.Frag) (x q : Str) (st : Stmt) (f : Addr) (fd : FuncData) : Prop := FunD K x q (defArgs st) (defBody st) (defScope st) [] [] f fd
/-- {name for row in xs for name in row} -/
theorem sc2_rows {w : World} {K : PySem.W.Frag} {a D : Addr} {ps : List (Addr × List Str)} {σ : L2.St} {H1 : Hp} {Qd : Hp → Prop} {i j : Nat}
    (hA : SqL K H1 a (ps.map fun q => V.ref q.1)) (hq : ∀ q ∈ ps, SqL K H1 q.1 (q.2.map V.str)) (hD : H1 D = none) (few : (ps.map (·.2)).flatten.length ≤ 1000) (qd : Qd (upd H1 D (SetTx w D (Sx.dd (ps.map (·.2)).flatten))))
    (hw1 : ∀ v, wipe ((wipe σ [i, j]).set i (some v)) [i, j] = wipe σ [i, j]) (hw2 : ∀ v u, wipe ((wipe ((wipe σ [i, j]).set i (some v)) [j]).set j (some u)) [j] = wipe ((wipe σ [i, j]).set i (some v)) [j])
    (hg1 : ∀ v : V, ((wipe σ [i, j]).set i (some v))[i]? = some (some v)) (hg2 : ∀ v u : V, ((wipe ((wipe σ [i, j]).set i (some v)) [j]).set j (some u))[j]? = some (some u)) :
    ∃ W : Nat → Nat → Hp → Prop, (∃ m, W 0 m (upd H1 D (SetTx w D []))) ∧ ∀ k m H, W k m H →
      ((Itl K a).stop k H ∧ Qd H) ∨ ((Itl K a).go k H ∧ ∃ Nx : Hp → Prop, (∀ H', Nx H' → ∃ m', m' < m ∧ W (k + 1) m' H') ∧ ∀ x H', (Itl K a).yld k H x H' → gName i x (wipe σ [i, j]) H' fun σ2 H2 => wipe σ2 [i, j] = wipe σ [i, j] ∧ tYes σ2 H2 fun b H3 =>
        if b = true then iList K (tVar i) σ2 H3 fun J1 H4 => ∃ W1 : Nat → Nat → Hp → Prop, (∃ m, W1 0 m H4) ∧ ∀ l k H, W1 l k H →
          (J1.stop l H ∧ Nx H) ∨ (J1.go l H ∧ ∃ Nx1 : Hp → Prop, (∀ H', Nx1 H' → ∃ k', k' < k ∧ W1 (l + 1) k' H') ∧ ∀ x H', J1.yld l H x H' → gName j x (wipe σ2 [j]) H' fun σ3 H5 => wipe σ3 [j] = wipe σ2 [j] ∧ tYes σ3 H5 fun b H6 =>
            if b = true then tVar j σ3 H6 fun y H7 => ∃ x ks, y = .str x ∧ H7 D = some (SetTx w D ks) ∧ ks.length + 1 < scanBound ∧ Nx1 (upd H7 D (SetTx w D (Sx.once ks x))) else Nx1 H6)
        else Nx H3) := by
  have look : ∀ (b : Addr) (xs : List V) (ks : List Str), SqL K H1 b xs → SqL K (upd H1 D (SetTx w D ks)) b xs := fun b xs ks h => (Gr.new hD).seq h
  have room : ∀ zs : List Str, zs.length ≤ 1000 → (Sx.dd zs).length + 1 < scanBound := fun zs h => by
    have := Sx.dd_len zs
    unfold scanBound
    omega
  refine ⟨fun k m H => m = ps.length - k ∧ k ≤ ps.length ∧ H = upd H1 D (SetTx w D (Sx.dd ((ps.take k).map (·.2)).flatten)), ⟨ps.length, by simp, Nat.zero_le _, rfl⟩, ?_⟩
  rintro k m H ⟨rfl, hk, rfl⟩
  have q := look a _ (Sx.dd ((ps.take k).map (·.2)).flatten) hA
  by_cases lt : k < ps.length
  · refine .inr ⟨⟨_, V.ref ps[k].1, q, by simp [lt]⟩, fun H6 => H6 = upd H1 D (SetTx w D (Sx.dd ((ps.take (k + 1)).map (·.2)).flatten)), fun H6 e6 => ⟨ps.length - (k + 1), by omega, rfl, lt, e6⟩, fun x H6 y => ?_⟩
    obtain ⟨e, y⟩ := y
    subst e
    have hx := y _ q
    obtain ⟨q0, hq0, rfl⟩ := get_map hx
    have mq := List.mem_of_getElem? hq0
    refine ⟨hw1 _, yesIf ?_⟩
    have etk : ((ps.take (k + 1)).map (·.2)).flatten = ((ps.take k).map (·.2)).flatten ++ q0.2 := by
      rw [take_map hq0, List.flatten_append]
      simp
    have small : ((ps.take k).map (·.2)).flatten.length + q0.2.length ≤ 1000 := by
      rw [← List.length_append, ← etk]
      have e9 : (ps.map (·.2)).flatten = ((ps.take (k + 1)).map (·.2)).flatten ++ ((ps.drop (k + 1)).map (·.2)).flatten := by
        rw [← List.flatten_append, ← List.map_append, List.take_append_drop]
      rw [e9, List.length_append] at few
      omega
    refine ⟨_, hg1 _, q0.1, rfl, ⟨_, look q0.1 _ _ (hq q0 mq)⟩, fun l k' H => k' = q0.2.length - l ∧ l ≤ q0.2.length ∧ H = upd H1 D (SetTx w D (Sx.dd (((ps.take k).map (·.2)).flatten ++ q0.2.take l))), ⟨q0.2.length, by simp, Nat.zero_le _, by rw [List.take_zero, List.append_nil]⟩, ?_⟩
    rintro l k' H ⟨rfl, hl, rfl⟩
    have q2 := look q0.1 _ (Sx.dd (((ps.take k).map (·.2)).flatten ++ q0.2.take l)) (hq q0 mq)
    by_cases lt2 : l < q0.2.length
    · refine .inr ⟨⟨_, V.str q0.2[l], q2, by simp [lt2]⟩, fun H6 => H6 = upd H1 D (SetTx w D (Sx.dd (((ps.take k).map (·.2)).flatten ++ q0.2.take (l + 1)))), fun H6 e6 => ⟨q0.2.length - (l + 1), by omega, rfl, lt2, e6⟩, fun x H6 y => ?_⟩
      obtain ⟨e, y⟩ := y
      subst e
      have hx := y _ q2
      obtain ⟨x0, hx0, rfl⟩ := get_map hx
      refine ⟨hw2 _ _, yesIf ⟨_, hg2 _ _, x0, _, rfl, upd_same, ?_, ?_⟩⟩
      · refine room _ ?_
        rw [List.length_append, List.length_take]
        omega
      · rw [upd_upd, List.take_add_one, hx0, ← List.append_assoc]
        congr 2
        unfold Sx.dd
        show Sx.once _ x0 = List.foldl Sx.once [] (_ ++ [x0])
        exact (List.foldl_append (f := Sx.once) (b := []) (l := _) (l' := [x0])).symm
    · have e : l = q0.2.length := by omega
      subst e
      refine .inl ⟨⟨_, q2, by rw [List.length_map]; exact Nat.le_refl _⟩, ?_⟩
      rw [List.take_length, etk]
  · have e : k = ps.length := by omega
    subst e
    refine .inl ⟨⟨_, q, by rw [List.length_map]; exact Nat.le_refl _⟩, ?_⟩
    rw [List.take_length]
    exact qd
end K1
namespace K1
open PySem PySem.Spec PyProof.Rows L2 Gr GxR Srx Skx Dcx
theorem once_two (rows : List (List Str)) (xs : List Str) : once (allN rows ++ once xs) = allN (rows ++ [xs]) := by
  unfold allN
  refine once_congr fun y => ?_
  rw [List.mem_append, once_mem, once_mem, List.flatten_append, List.mem_append, List.mem_flatten (L := [xs])]
  simp
end K1
namespace K1
open PySem PySem.Spec PyProof.Rows L2 Gr GxR Srx Skx Dcx
theorem once_all {rows : List (List Str)} (h : ∀ r ∈ rows, Ris r) : rows.map once = rows := by
  conv => rhs; rw [← List.map_id rows]
  exact List.map_congr_left fun r hr => once_ris (h r hr)
theorem Told.one {H : Hp} {e A : Addr} (ne : H e = none) (nA : (upd H e (.lst [])) A = none) : Told H (upd (upd H e (.lst [])) A (.lst [V.ref e])) A [(e, [])] := by
  have eA : e ≠ A := ne_of_none (show (upd H e (.lst [])) e = some _ from upd_same) nA
  refine ⟨(Gr.new ne).free nA, upd_same, fun q hq => ?_, by simp⟩
  rw [List.mem_singleton.mp hq]
  exact ⟨ne, eA, by rw [upd_ne eA, upd_same]; rfl⟩
end K1
namespace K1
open PySem PySem.Spec PyProof.Rows L2 Gr GxR Srx Skx Dcx
theorem mtAll_once_l (xs : List Str) (rows : List (List Str)) : mtAll (once xs) rows = mtAll xs rows := by
  rw [Bool.eq_iff_iff, mtAll_iff, mtAll_iff]
  exact forall_congr' fun r => imp_congr_right fun _ => exists_congr fun y => and_congr_left fun _ => once_mem
end K1
namespace K1
open PySem PySem.Spec PyProof.Rows L2 Gr GxR Srx Skx Dcx
/-- rows numbered from 0 on -/
def numd (rows : List (List Str)) : List (Int × List Str) := rows.mapIdx fun i r => ((i : Int), r)
theorem numd_snoc (rows : List (List Str)) (r : List Str) : numd (rows ++ [r]) = numd rows ++ [((rows.length : Int), r)] := by
  unfold numd
  rw [List.mapIdx_concat]
theorem numd_rows (rows : List (List Str)) : (numd rows).map (·.2) = rows := by
  induction rows using snoc_ind with
  | h0 => rfl
  | h1 xs x ih => rw [numd_snoc, List.map_append, ih]; rfl
theorem rws_nr (tb : Tb1) : rws tb = (nr tb).map (·.2) := by
  unfold rws nr
  rw [List.map_map]
  rfl
theorem nr_snoc (tb : Tb1) (e : Int × Addr × List Str) : nr (tb ++ [e]) = nr tb ++ [(e.1, e.2.2)] := by
  unfold nr
  rw [List.map_append]
  rfl
theorem rws_numd {tb : Tb1} {rows : List (List Str)} (h : nr tb = numd rows) : rws tb = rows := by rw [rws_nr, h, numd_rows]
theorem allN_map_once (rows : List (List Str)) : allN (rows.map once) = allN rows := by
  unfold allN
  refine once_congr fun y => ?_
  rw [List.mem_flatten, List.mem_flatten]
  constructor
  · rintro ⟨r, hr, hy⟩
    obtain ⟨x, hx, rfl⟩ := List.mem_map.mp hr
    exact ⟨x, hx, once_mem.mp hy⟩
  · rintro ⟨r, hr, hy⟩
    exact ⟨once r, List.mem_map.mpr ⟨r, hr, rfl⟩, once_mem.mpr hy⟩
theorem allN_mono {A B : List (List Str)} (h : ∀ r ∈ A, r ∈ B) : (allN A).length ≤ (allN B).length :=
  (sublist_of (ris_allN B) (ris_allN A) fun y hy => by
    obtain ⟨r, hr, hy⟩ := allN_iff.mp hy
    exact allN_iff.mpr ⟨r, h r hr, hy⟩).length_le
/-- a list of lists, read -/
structure LQ (K : PySem.W.Frag) (H : Hp) (a : Addr) (ps : List (Addr × List Str)) : Prop where
  at_ : SqL K H a (ps.map fun q => V.ref q.1)
  own : ∀ q ∈ ps, SqL K H q.1 (q.2.map V.str)
theorem LQ.gr {K : PySem.W.Frag} {H H' : Hp} {a : Addr} {ps : List (Addr × List Str)} (h : LQ K H a ps) (g : Gr H H') : LQ K H' a ps := ⟨g.seq h.at_, fun q hq => g.seq (h.own q hq)⟩
theorem LL.lq {K : PySem.W.Frag} {H : Hp} {a : Addr} {ps : List (Addr × List Str)} (h : LL H a ps) : LQ K H a ps := ⟨.inl (.inl h.at_), fun q hq => .inl (.inl (h.own q hq))⟩
/-- rows that a book may take all together -/
structure RowsOk (rows : List (List Str)) : Prop where
  row : ∀ r ∈ rows, Nms r ∧ r.Nodup ∧ r.length ≤ 100
  few : rows.length ≤ 30
  wide : (allN rows).length ≤ 12
/-- a book of the rows -/
structure NewB (C : Addr) (H H' : Hp) (b d : Addr) (tb : Tb1) (rows : List (List Str)) : Prop where
  nb : H b = none
  ndd : H d = none
  bk : Bk C H' b d tb rows.length
  ok : Tok tb rows.length
  rows : nr tb = numd (rows.map once)
theorem NewB.gr {C b d : Addr} {H H1 H2 : Hp} {tb : Tb1} {rows : List (List Str)} (h : NewB C H H1 b d tb rows) (g : Gr H1 H2) : NewB C H H2 b d tb rows := ⟨h.nb, h.ndd, h.bk.gr g, h.ok, h.rows⟩
theorem NewB.from {C b d : Addr} {H0 H H2 : Hp} {tb : Tb1} {rows : List (List Str)} (h : NewB C H H2 b d tb rows) (g : Gr H0 H) : NewB C H0 H2 b d tb rows := ⟨g.free h.nb, g.free h.ndd, h.bk, h.ok, h.rows⟩
theorem NewB.rws {C b d : Addr} {H H1 : Hp} {tb : Tb1} {rows : List (List Str)} (h : NewB C H H1 b d tb rows) : rws tb = rows.map once := rws_numd h.rows
theorem NewB.least {C b d : Addr} {H H1 : Hp} {tb : Tb1} {rows : List (List Str)} (h : NewB C H H1 b d tb rows) : grown (K1.rws tb) = grown rows := by
  rw [h.rws]
  exact grown_congr fun x => mtAll_once x rows
def spLBook (K : PySem.W.Frag) (C : Addr) (N : TabN) : Sp := fun vs H Q _ => ∃ (a : Addr) (ps : List (Addr × List Str)), vs = [.ref a] ∧ LQ K H a ps ∧ RowsOk (ps.map (·.2)) ∧ N.G H ∧
  ∀ b d H' tb, Gr H H' → NewB C H H' b d tb (ps.map (·.2)) → Q (.ref b) H'
end K1
namespace K1
open PySem PySem.Spec PyProof.Rows L2 Gr GxR Srx Skx Dcx
theorem rows_in (nm : List Str) {rps : List (Addr × List Str)} (rok : ∀ q ∈ rps, q.2.Nodup ∧ (∀ y ∈ q.2, y ∈ nm) ∧ q.2.length ≤ nm.length) : ∀ r ∈ rps.map (·.2), ∀ y ∈ r, y ∈ srt nm := by
  intro r hr y hy
  obtain ⟨q0, hq0, rfl⟩ := List.mem_map.mp hr
  exact srt_mem.mpr ((rok q0 hq0).2.1 y hy)
theorem rowsOk {nm : List Str} {rps : List (Addr × List Str)} (nms : Nms nm) (nd : nm.Nodup) (few : nm.length ≤ 12) (rok : ∀ q ∈ rps, q.2.Nodup ∧ (∀ y ∈ q.2, y ∈ nm) ∧ q.2.length ≤ nm.length) (len : rps.length ≤ 30) : RowsOk (rps.map (·.2)) := by
  refine ⟨fun r hr => ?_, by rw [List.length_map]; exact len, ?_⟩
  · obtain ⟨q0, hq0, rfl⟩ := List.mem_map.mp hr
    obtain ⟨h1, h2, h3⟩ := rok q0 hq0
    exact ⟨fun y hy => nms y (h2 y hy), h1, by omega⟩
  · refine Nat.le_trans (sublist_of (ris_srt nd) (ris_allN _) fun y hy => ?_).length_le (by rw [srt_len]; exact few)
    obtain ⟨r, hr, hy⟩ := allN_iff.mp hy
    exact rows_in nm rok r hr y hy
theorem fit_grown {M : List Str} (hM : Ris M) {rows : List (List Str)} (h : ∀ r ∈ rows, ∀ y ∈ r, y ∈ M) (nm : Nms M) (len : M.length ≤ 7) : Fit (grown rows) := by
  refine ⟨?_, fun xs hx => ?_⟩
  · exact Nat.le_trans (grown_len hM h) (Nat.le_trans (Nat.pow_le_pow_right (by decide) len : 2 ^ M.length ≤ 2 ^ 7) (by decide))
  · obtain ⟨h1, h2, h3⟩ := grown_in hM h hx
    exact ⟨fun y hy => nm y (h2 y hy), by omega⟩
theorem nms_srt {nm : List Str} (h : Nms nm) : Nms (srt nm) := fun y hy => h y (srt_mem.mp hy)
end K1
end
section
set_option maxHeartbeats 8000000
namespace K1
open PySem PySem.Spec PyProof.Rows L2 Gr GxR Srx Skx Dcx
theorem grown_empty {rows : List (List Str)} (h : [] ∈ rows) : grown rows = [] := by
  refine List.eq_nil_iff_forall_not_mem.mpr fun x hx => ?_
  obtain ⟨y, _, hy⟩ := mtAll_iff.mp (grown_mem.mp hx).2.1 [] h
  cases hy
theorem head_nm {nm : List Str} (h : nm ≠ []) : ∃ n0 nrest, nm = n0 :: nrest := by
  cases nm with
  | nil => exact absurd rfl h
  | cons x r => exact ⟨x, r, rfl⟩
theorem at_zero (x : Str) (r : List Str) : atI ((x :: r).map V.str) 0 = some (V.str x) := by
  show atI ((x :: r).map V.str) ((0 : Nat) : Int) = _
  exact atI_nat rfl
theorem fit_nil : Fit [] := ⟨Nat.zero_le _, fun _ z => absurd z List.not_mem_nil⟩
theorem fit_one : Fit [[]] := ⟨by decide, fun x hx => by rw [List.mem_singleton.mp hx]; exact ⟨fun _ z => absurd z List.not_mem_nil, Nat.zero_le _⟩⟩
end K1
namespace K1
open PySem PySem.Spec PyProof.Rows L2 Gr GxR Srx Skx Dcx
/-- [.. x .. y .. for x in xs for y in ys]: each made anew; ys is asked in each turn -/
theorem lc2_new {K : PySem.W.Frag} {a D : Addr} {ps qs : List (Addr × List Str)} {σ : L2.St} {H1 : Hp} {Qd : Hp → Prop} {wi1 : TI} {te : TE} {i j : Nat} (F : List Str → List Str → List Str)
    (hA : SqL K H1 a (ps.map fun q => V.ref q.1)) (few : ps.length * qs.length < sizeLine) (hD : H1 D = none)
    (h1 : ∀ q ∈ ps, ∀ (H3 : Hp) (R : It → Hp → Prop), Gr H1 H3 → (∀ c H4, Gr H3 H4 → H3 c = none → H4 c = some (.lst (qs.map fun q => V.ref q.1)) → R (Itl K c) H4) → wi1 ((wipe σ [i, j]).set i (some (.ref q.1))) H3 R)
    (he : ∀ q ∈ ps, ∀ u ∈ qs, ∀ (H5 : Hp) (Q' : VK), Gr H1 H5 → (∀ l H6, Gr H5 H6 → H5 l = none → H6 l = some (.lst ((F q.2 u.2).map V.str)) → Q' (.ref l) H6) → te ((wipe ((wipe σ [i, j]).set i (some (.ref q.1))) [j]).set j (some (.ref u.1))) H5 Q')
    (qd : ∀ H2 rs, Gr H1 H2 → Told H1 H2 D rs → rs.map (·.2) = ps.flatMap (fun q => qs.map fun u => F q.2 u.2) → Qd H2)
    (hw1 : ∀ v, wipe ((wipe σ [i, j]).set i (some v)) [i, j] = wipe σ [i, j]) (hw2 : ∀ v u, wipe ((wipe ((wipe σ [i, j]).set i (some v)) [j]).set j (some u)) [j] = wipe ((wipe σ [i, j]).set i (some v)) [j]) :
    ∃ W : Nat → Nat → Hp → Prop, (∃ m, W 0 m (upd H1 D (.lst []))) ∧ ∀ k m H, W k m H →
      ((Itl K a).stop k H ∧ Qd H) ∨ ((Itl K a).go k H ∧ ∃ Nx : Hp → Prop, (∀ H', Nx H' → ∃ m', m' < m ∧ W (k + 1) m' H') ∧ ∀ x H', (Itl K a).yld k H x H' → gName i x (wipe σ [i, j]) H' fun σ2 H2 => wipe σ2 [i, j] = wipe σ [i, j] ∧ tYes σ2 H2 fun b H3 =>
        if b = true then wi1 σ2 H3 fun J1 H4 => ∃ W1 : Nat → Nat → Hp → Prop, (∃ m, W1 0 m H4) ∧ ∀ l k H, W1 l k H →
          (J1.stop l H ∧ Nx H) ∨ (J1.go l H ∧ ∃ Nx1 : Hp → Prop, (∀ H', Nx1 H' → ∃ k', k' < k ∧ W1 (l + 1) k' H') ∧ ∀ x H', J1.yld l H x H' → gName j x (wipe σ2 [j]) H' fun σ3 H5 => wipe σ3 [j] = wipe σ2 [j] ∧ tYes σ3 H5 fun b H6 =>
            if b = true then te σ3 H6 fun y H7 => ∃ acc, H7 D = some (.lst acc) ∧ acc.length < sizeLine ∧ Nx1 (upd H7 D (.lst (acc ++ [y]))) else Nx1 H6)
        else Nx H3) := by
  let G : List (Addr × List Str) → List (List Str) := fun zs => zs.flatMap (fun q => qs.map fun u => F q.2 u.2)
  have Gtk : ∀ {k : Nat} {q0 : Addr × List Str}, ps[k]? = some q0 → G (ps.take (k + 1)) = G (ps.take k) ++ qs.map fun u => F q0.2 u.2 := by
    intro k q0 h
    show List.flatMap _ _ = List.flatMap _ _ ++ _
    rw [List.take_add_one, h, List.flatMap_append]
    simp
  have Glen : ∀ zs : List (Addr × List Str), (G zs).length = zs.length * qs.length := by
    intro zs
    induction zs with
    | nil => simp [G]
    | cons z zs ih =>
      show (List.flatMap _ (z :: zs)).length = _
      rw [List.flatMap_cons, List.length_append, List.length_map, List.length_cons, Nat.succ_mul]
      have ih : (List.flatMap (fun q : Addr × List Str => qs.map fun u => F q.2 u.2) zs).length = zs.length * qs.length := ih
      omega
  refine ⟨fun k m H => m = ps.length - k ∧ k ≤ ps.length ∧ Gr H1 H ∧ ∃ rs, Told H1 H D rs ∧ rs.map (·.2) = G (ps.take k), ⟨ps.length, by simp, Nat.zero_le _, Gr.new hD, [], Told.nil hD, rfl⟩, ?_⟩
  rintro k m H ⟨rfl, hk, g, rs, T, e⟩
  have q := g.seq hA
  by_cases lt : k < ps.length
  · refine .inr ⟨⟨_, V.ref ps[k].1, q, by simp [lt]⟩, fun H6 => Gr H1 H6 ∧ ∃ rs, Told H1 H6 D rs ∧ rs.map (·.2) = G (ps.take (k + 1)), fun H6 e6 => ⟨ps.length - (k + 1), by omega, rfl, lt, e6⟩, fun x H6 y => ?_⟩
    obtain ⟨e1, y⟩ := y
    subst e1
    have hx := y _ q
    obtain ⟨q0, hq0, rfl⟩ := get_map hx
    have mq := List.mem_of_getElem? hq0
    refine ⟨hw1 _, yesIf (h1 q0 mq _ _ g fun c H4 g4 nc hc => ?_)⟩
    have cD : c ≠ D := (ne_of_none T.at_ nc).symm
    refine ⟨fun l k' H => k' = qs.length - l ∧ l ≤ qs.length ∧ (Gr H1 H ∧ H c = some (.lst (qs.map fun q => V.ref q.1))) ∧ ∃ rs, Told H1 H D rs ∧ rs.map (·.2) = G (ps.take k) ++ (qs.take l).map fun u => F q0.2 u.2, ⟨qs.length, by simp, Nat.zero_le _, ⟨g.trans g4, hc⟩, rs, T.gr g4, by rw [e]; simp⟩, ?_⟩
    rintro l k' H ⟨rfl, hl, ⟨g1x, hc5⟩, rs5, T5, e5⟩
    have q2 : SqL K H c (qs.map fun q => V.ref q.1) := .inl (.inl hc5)
    by_cases lt2 : l < qs.length
    · refine .inr ⟨⟨_, V.ref qs[l].1, q2, by simp [lt2]⟩, fun H6 => (Gr H1 H6 ∧ H6 c = some (.lst (qs.map fun q => V.ref q.1))) ∧ ∃ rs, Told H1 H6 D rs ∧ rs.map (·.2) = G (ps.take k) ++ (qs.take (l + 1)).map fun u => F q0.2 u.2, fun H6 e6 => ⟨qs.length - (l + 1), by omega, rfl, lt2, e6⟩, fun x H6 y => ?_⟩
      obtain ⟨e1, y⟩ := y
      subst e1
      have hx := y _ q2
      obtain ⟨u0, hu0, rfl⟩ := get_map hx
      have mu := List.mem_of_getElem? hu0
      refine ⟨hw2 _ _, yesIf (he q0 mq u0 mu _ _ g1x fun l2 H6 g6 nl el => ⟨_, g6.lst T5.at_, ?_, ⟨(g1x.trans g6).mut hD, by rw [upd_ne cD]; exact g6.lst hc5⟩, rs5 ++ [(l2, F q0.2 u0.2)], T5.snoc2 g1x g6 nl el, ?_⟩)⟩
      · rw [List.length_map]
        have h2 := congrArg List.length e5
        rw [List.length_map, List.length_append, Glen, List.length_map, List.length_take, List.length_take] at h2
        have h3 : (k + 1) * qs.length ≤ ps.length * qs.length := Nat.mul_le_mul_right _ lt
        rw [Nat.succ_mul] at h3
        rw [show min k ps.length = k by omega] at h2
        omega
      · rw [List.map_append, e5, take_map hu0, List.append_assoc]
        rfl
    · have e1 : l = qs.length := by omega
      subst e1
      refine .inl ⟨⟨_, q2, by rw [List.length_map]; exact Nat.le_refl _⟩, g1x, rs5, T5, ?_⟩
      rw [List.take_length] at e5
      rw [Gtk hq0]
      exact e5
  · have e1 : k = ps.length := by omega
    subst e1
    rw [List.take_length] at e
    exact .inl ⟨⟨_, q, by rw [List.length_map]; exact Nat.le_refl _⟩, qd _ rs g T e⟩
end K1
namespace K1
open PySem PySem.Spec PyProof.Rows L2 Gr GxR Srx Skx Dcx
/-- [x for x in xs if ..], texts -/
theorem lc_filtT {K : PySem.W.Frag} {a D : Addr} {j : Nat} {σ : L2.St} {vs : List Nat} {tt : TT} {H1 : Hp} {Qd : Hp → Prop} {xs : List Str} (p : Str → Bool)
    (hA : SqL K H1 a (xs.map V.str)) (few : xs.length < sizeLine) (hD : H1 D = none) (hw : ∀ v, wipe ((wipe σ vs).set j (some v)) vs = wipe σ vs) (hj : ∀ v : V, ((wipe σ vs).set j (some v))[j]? = some (some v))
    (ht : ∀ x ∈ xs, ∀ (H4 : Hp) (Qb : Bool → Hp → Prop), Gr H1 H4 → (∀ H5, Gr H4 H5 → Qb (p x) H5) → tt ((wipe σ vs).set j (some (.str x))) H4 Qb)
    (q : ∀ H2, Gr H1 H2 → H2 D = some (.lst ((xs.filter p).map V.str)) → Qd H2) :
    ∃ W : Nat → Nat → Hp → Prop, (∃ m, W 0 m (upd H1 D (.lst []))) ∧ ∀ i m H, W i m H →
      ((Itl K a).stop i H ∧ Qd H) ∨ ((Itl K a).go i H ∧ ∃ Nx : Hp → Prop, (∀ H', Nx H' → ∃ m', m' < m ∧ W (i + 1) m' H') ∧ ∀ x H', (Itl K a).yld i H x H' → gName j x (wipe σ vs) H' fun σ2 H2 => wipe σ2 vs = wipe σ vs ∧ tt σ2 H2 fun b H3 =>
        if b = true then tVar j σ2 H3 fun y H4 => ∃ acc, H4 D = some (.lst acc) ∧ acc.length < sizeLine ∧ Nx (upd H4 D (.lst (acc ++ [y]))) else Nx H3) := by
  refine lc_list (xs := xs.map V.str) (Qd := Qd) (fun i H2 => Gr H1 H2 ∧ H2 D = some (.lst (((xs.take i).filter p).map V.str))) ⟨Gr.new hD, upd_same⟩ (fun i H2 _ h => h.1.seq hA) (fun i x H2 hx h => ?_) (fun H2 h => ?_)
  · obtain ⟨g2, e⟩ := h
    obtain ⟨x0, hx0, rfl⟩ := get_map hx
    have etk : (xs.take (i + 1)).filter p = (xs.take i).filter p ++ [x0].filter p := by
      rw [List.take_add_one, hx0, List.filter_append]
      rfl
    refine ⟨hw _, ht x0 (List.mem_of_getElem? hx0) H2 _ g2 fun H3 g3 => ?_⟩
    cases hp : p x0 with
    | true =>
      refine iteT ⟨_, hj _, _, g3.lst e, ?_, (g2.trans g3).mut hD, ?_⟩
      · rw [List.length_map]
        have h1 := List.length_filter_le p (xs.take i)
        rw [List.length_take] at h1
        omega
      · rw [upd_same, etk, List.map_append]
        simp [hp]
    | false =>
      refine iteF ⟨g2.trans g3, ?_⟩
      rw [etk, List.map_append]
      simp only [hp, List.filter_cons, Bool.false_eq_true, if_false, List.filter_nil, List.map_nil, List.append_nil]
      exact g3.lst e
  · obtain ⟨g2, e⟩ := h
    rw [List.length_map, List.take_length] at e
    exact q H2 g2 e
/-- [x for x in xs if ..], lists -/
theorem lc_filtL {K : PySem.W.Frag} {a D : Addr} {j : Nat} {σ : L2.St} {vs : List Nat} {tt : TT} {H1 : Hp} {Qd : Hp → Prop} {ps : List (Addr × List Str)} (p : Addr × List Str → Bool)
    (hA : SqL K H1 a (ps.map fun q => V.ref q.1)) (few : ps.length < sizeLine) (hD : H1 D = none) (hw : ∀ v, wipe ((wipe σ vs).set j (some v)) vs = wipe σ vs) (hj : ∀ v : V, ((wipe σ vs).set j (some v))[j]? = some (some v))
    (ht : ∀ x ∈ ps, ∀ (H4 : Hp) (Qb : Bool → Hp → Prop), Gr H1 H4 → (∀ H5, Gr H4 H5 → Qb (p x) H5) → tt ((wipe σ vs).set j (some (.ref x.1))) H4 Qb)
    (q : ∀ H2, Gr H1 H2 → H2 D = some (.lst ((ps.filter p).map fun q => V.ref q.1)) → Qd H2) :
    ∃ W : Nat → Nat → Hp → Prop, (∃ m, W 0 m (upd H1 D (.lst []))) ∧ ∀ i m H, W i m H →
      ((Itl K a).stop i H ∧ Qd H) ∨ ((Itl K a).go i H ∧ ∃ Nx : Hp → Prop, (∀ H', Nx H' → ∃ m', m' < m ∧ W (i + 1) m' H') ∧ ∀ x H', (Itl K a).yld i H x H' → gName j x (wipe σ vs) H' fun σ2 H2 => wipe σ2 vs = wipe σ vs ∧ tt σ2 H2 fun b H3 =>
        if b = true then tVar j σ2 H3 fun y H4 => ∃ acc, H4 D = some (.lst acc) ∧ acc.length < sizeLine ∧ Nx (upd H4 D (.lst (acc ++ [y]))) else Nx H3) := by
  refine lc_list (xs := ps.map fun q => V.ref q.1) (Qd := Qd) (fun i H2 => Gr H1 H2 ∧ H2 D = some (.lst (((ps.take i).filter p).map fun q => V.ref q.1))) ⟨Gr.new hD, upd_same⟩ (fun i H2 _ h => h.1.seq hA) (fun i x H2 hx h => ?_) (fun H2 h => ?_)
  · obtain ⟨g2, e⟩ := h
    obtain ⟨x0, hx0, rfl⟩ := get_map hx
    have etk : (ps.take (i + 1)).filter p = (ps.take i).filter p ++ [x0].filter p := by
      rw [List.take_add_one, hx0, List.filter_append]
      rfl
    refine ⟨hw _, ht x0 (List.mem_of_getElem? hx0) H2 _ g2 fun H3 g3 => ?_⟩
    cases hp : p x0 with
    | true =>
      refine iteT ⟨_, hj _, _, g3.lst e, ?_, (g2.trans g3).mut hD, ?_⟩
      · rw [List.length_map]
        have h1 := List.length_filter_le p (ps.take i)
        rw [List.length_take] at h1
        omega
      · rw [upd_same, etk, List.map_append]
        simp [hp]
    | false =>
      refine iteF ⟨g2.trans g3, ?_⟩
      rw [etk, List.map_append]
      simp only [hp, List.filter_cons, Bool.false_eq_true, if_false, List.filter_nil, List.map_nil, List.append_nil]
      exact g3.lst e
  · obtain ⟨g2, e⟩ := h
    rw [List.length_map, List.take_length] at e
    exact q H2 g2 e
def spNameFrom (K : PySem.W.Frag) (T : Addr) (R : ErN) : Sp := fun vs H Q E => ∃ v, vs = [v] ∧ Thing K H v ∧ TabG H T ∧ ((nmV v = true ∧ ∀ H', Gr H H' → Q v H') ∨ (nmV v = false ∧ ∀ H', Gr H H' → E (.ref R.name) none H'))
def spBookOf (C : Addr) (N : TabN) (R : ErN) : Sp := fun vs H Q E => ∃ (a : Addr) (ps : List (Addr × List Str)), vs = [.ref a] ∧ LL H a ps ∧ (∀ r ∈ ps.map (·.2), Nms r ∧ r.Nodup ∧ r.length ≤ 100) ∧ ps.length ≤ 1000 ∧ N.G H ∧
  ((RowsOk (ps.map (·.2)) ∧ ∀ b d H' tb, Gr H H' → NewB C H H' b d tb (ps.map (·.2)) → Q (.ref b) H') ∨ (¬ RowsOk (ps.map (·.2)) ∧ ∀ H', Gr H H' → E (.ref R.many) none H'))
def spStruck (K : PySem.W.Frag) (C : Addr) (N : TabN) (R : ErN) (f : Str → List (List Str) → List (List Str)) : Sp := fun vs H Q E => ∃ b d tb n v, vs = [.ref b, v] ∧ Bk C H b d tb n ∧ Tok tb n ∧ N.G H ∧ Thing K H v ∧
  ((∃ x, v = .str x ∧ isNm x = true ∧ ∀ b' d' H' tb', Gr H H' → NewB C H H' b' d' tb' (f x (rws tb)) → Q (.ref b') H') ∨ (nmV v = false ∧ ∀ H', Gr H H' → E (.ref R.name) none H'))
def spJoined (K : PySem.W.Frag) (C : Addr) (N : TabN) (R : ErN) (f : List (List Str) → List (List Str) → List (List Str)) : Sp := fun vs H Q E => ∃ b d tb n b2 d2 tb2 n2, vs = [.ref b, .ref b2] ∧ Bk C H b d tb n ∧ Tok tb n ∧ Bk C H b2 d2 tb2 n2 ∧ Tok tb2 n2 ∧ N.G H ∧
  ((RowsOk (f (rws tb) (rws tb2)) ∧ ∀ b' d' H' tb', Gr H H' → NewB C H H' b' d' tb' (f (rws tb) (rws tb2)) → Q (.ref b') H') ∨ (¬ RowsOk (f (rws tb) (rws tb2)) ∧ ∀ H', Gr H H' → E (.ref R.many) none H'))
def stScope2 : Stmt → Scope
  | .FunctionDef (body := [_, .Return (some (.Call _ [.ListComp _ _ s _] _ _)) _]) .. => s
  | _ => ⟨.function, [], false, false, []⟩
/-- all that a book's rows may be, filtered or not -/
theorem Tok.rowsOk {tb : Tb1} {n : Int} (T : Tok tb n) {rows : List (List Str)} (len : rows.length ≤ 30) (h : ∀ r ∈ rows, r.Nodup ∧ ∀ y ∈ r, y ∈ allN (rws tb)) : RowsOk rows := by
  have sub : (allN rows).length ≤ 12 := Nat.le_trans (sublist_of (ris_allN _) (ris_allN _) fun y hy => by
    obtain ⟨r, hr, hy⟩ := allN_iff.mp hy
    exact (h r hr).2 y hy).length_le T.nms
  refine ⟨fun r hr => ⟨fun y hy => T.nmsN y ((h r hr).2 y hy), (h r hr).1, ?_⟩, len, sub⟩
  have h1 := (sublist_of (ris_allN (rws tb)) (ris_once r) fun y hy => (h r hr).2 y (once_mem.mp hy)).length_le
  rw [once_full (h r hr).1] at h1
  have := T.nms
  omega
end K1
namespace K1
open PySem PySem.Spec PyProof.Rows L2 Gr GxR Srx Skx Dcx
theorem ne_strB (y x : Str) : (!decide (V.str y = V.str x)) = decide (y ≠ x) := by
  rw [← decide_not]
  exact decide_eq_decide.mpr (not_congr ⟨fun z => by injection z, fun z => by rw [z]⟩)
theorem lc_fresh3 {K : PySem.W.Frag} {a D : Addr} {j : Nat} {σ : L2.St} {vs : List Nat} {te : TE} {H1 : Hp} {Qd : Hp → Prop} {ps0 : List (Addr × List Str)} (F : List Str → List Str)
    (hA : SqL K H1 a (ps0.map fun q => V.ref q.1)) (few : ps0.length < sizeLine) (hD : H1 D = none) (hw : ∀ v, wipe ((wipe σ vs).set j (some v)) vs = wipe σ vs)
    (he : ∀ q ∈ ps0, ∀ (H4 : Hp) (Q' : VK), Gr H1 H4 → (∀ l H5, Gr H4 H5 → H4 l = none → H5 l = some (.lst ((F q.2).map V.str)) → Q' (.ref l) H5) → te ((wipe σ vs).set j (some (.ref q.1))) H4 Q')
    (q : ∀ H2 ps, Gr H1 H2 → Told H1 H2 D ps → ps.map (·.2) = ps0.map (fun q => F q.2) → Qd H2) :
    ∃ W : Nat → Nat → Hp → Prop, (∃ m, W 0 m (upd H1 D (.lst []))) ∧ ∀ i m H, W i m H →
      ((Itl K a).stop i H ∧ Qd H) ∨ ((Itl K a).go i H ∧ ∃ Nx : Hp → Prop, (∀ H', Nx H' → ∃ m', m' < m ∧ W (i + 1) m' H') ∧ ∀ x H', (Itl K a).yld i H x H' → gName j x (wipe σ vs) H' fun σ2 H2 => wipe σ2 vs = wipe σ vs ∧ tYes σ2 H2 fun b H3 =>
        if b = true then te σ2 H3 fun y H4 => ∃ acc, H4 D = some (.lst acc) ∧ acc.length < sizeLine ∧ Nx (upd H4 D (.lst (acc ++ [y]))) else Nx H3) := by
  refine lc_list (xs := ps0.map fun q => V.ref q.1) (Qd := Qd) (fun i H2 => Gr H1 H2 ∧ ∃ ps, Told H1 H2 D ps ∧ ps.map (·.2) = (ps0.take i).map (fun q => F q.2)) ⟨Gr.new hD, [], Told.nil hD, rfl⟩ (fun i H2 _ h => h.1.seq hA) (fun i x H2 hx h => ?_) (fun H2 h => ?_)
  · obtain ⟨g2, ps, T, e⟩ := h
    obtain ⟨q0, hq0, rfl⟩ := get_map hx
    refine ⟨hw _, yesIf (he q0 (List.mem_of_getElem? hq0) H2 _ g2 fun l H5 g5 nl el => ⟨_, g5.lst T.at_, ?_, (g2.trans g5).mut hD, ps ++ [(l, F q0.2)], T.snoc2 g2 g5 nl el, ?_⟩)⟩
    · rw [List.length_map]
      have h1 := congrArg List.length e
      rw [List.length_map, List.length_map, List.length_take] at h1
      omega
    · rw [List.map_append, e, take_map hq0]
      rfl
  · obtain ⟨g2, ps, T, e⟩ := h
    rw [List.length_map, List.take_length] at e
    exact q H2 ps g2 T e
theorem tb_map (tb : Tb1) : (tb.map fun e => (e.2.1, e.2.2)).map (·.2) = rws tb := by
  rw [List.map_map]
  rfl
theorem once_all' {rows : List (List Str)} (h : ∀ r ∈ rows, Ris r) : rows.map once = rows := once_all h
theorem rows_facts {tb : Tb1} {n : Int} (T : Tok tb n) {rows : List (List Str)} (len : rows.length ≤ 30) (h : ∀ r ∈ rows, ∃ r0 ∈ rws tb, List.Sublist r r0) : RowsOk rows :=
  T.rowsOk len fun r hr => by
    obtain ⟨r0, h0, sub⟩ := h r hr
    exact ⟨((T.rlen h0).1.nodup).sublist sub, fun y hy => row_in h0 y (sub.subset hy)⟩
theorem rws_len (tb : Tb1) : (rws tb).length = tb.length := List.length_map _
end K1
namespace K1
theorem flat_len {α β γ : Type} (F : α → β → γ) (qs : List β) : ∀ ps : List α, (ps.flatMap fun q => qs.map fun u => F q u).length = ps.length * qs.length
  | [] => by simp
  | p :: ps => by
    rw [List.flatMap_cons, List.length_append, List.length_map, flat_len F qs ps, List.length_cons, Nat.succ_mul]
    omega
end K1
namespace K1
open PySem PySem.Spec PyProof.Rows L2 Gr GxR Srx Skx Dcx
def spBPared (K : PySem.W.Frag) (C : Addr) (N : TabN) (R : ErN) : Sp := fun vs H Q E => ∃ b d tb n v, vs = [.ref b, v] ∧ Bk C H b d tb n ∧ Tok tb n ∧ N.G H ∧
  ((∃ xs, HOk H v xs ∧ mtAll xs (rws tb) = true ∧ ∀ p H', Gr H H' → H p = none → H' p = some (.lst ((pared (rws tb) (once xs)).map V.str)) → Q (.ref p) H') ∨ (∃ xs, HOk H v xs ∧ mtAll xs (rws tb) = false ∧ ∀ H', Gr H H' → E (.ref R.meet) none H') ∨
   (HBadN K H v ∧ ∀ H', Gr H H' → E (.ref R.name) none H') ∨ (HBadR K H v ∧ ∀ H', Gr H H' → E (.ref R.row) none H'))
/-- the first row in which of the set asked that name stands alone -/
def firstOwn (tb : Tb1) (asked : List Str) (x : Str) : Option Int := (tb.find? fun e => decide (asked.filter e.2.2.contains = [x])).map (·.1)
def ownV : Option Int → V
  | some k => .int k
  | none => .non
def spFirstOwn (K : PySem.W.Frag) (C : Addr) : Sp := fun vs H Q _ => ∃ (b d : Addr) (tb : Tb1) (n : Int) (x : Str) (a : Addr) (asked : List Str), vs = [.ref b, .str x, .ref a] ∧ Bk C H b d tb n ∧ Tok tb n ∧ H a = some (.lst (asked.map V.str)) ∧ Nms asked ∧ isNm x = true ∧ asked.length ≤ 1000 ∧
  ∀ H', Gr H H' → Q (ownV (firstOwn tb asked x)) H'
def spBOwn (K : PySem.W.Frag) (C : Addr) (N : TabN) (R : ErN) : Sp := fun vs H Q E => ∃ b d tb n v, vs = [.ref b, v] ∧ Bk C H b d tb n ∧ Tok tb n ∧ N.G H ∧
  ((∃ xs, HOk H v xs ∧ mtAll xs (rws tb) = true ∧ (∀ x ∈ once xs, (firstOwn tb (once xs) x).isSome = true) ∧
      ∀ p H' (ts : List (Addr × Str × Int)), Gr H H' → H p = none → H' p = some (.lst (ts.map fun t => V.ref t.1)) → (∀ t ∈ ts, H t.1 = none ∧ t.1 ≠ p ∧ H' t.1 = some (.tup [.str t.2.1, .int t.2.2])) → ts.map (·.2) = (once xs).map (fun x => (x, (firstOwn tb (once xs) x).getD 0)) → Q (.ref p) H') ∨
   (∃ xs, HOk H v xs ∧ (mtAll xs (rws tb) = false ∨ ∃ x ∈ once xs, firstOwn tb (once xs) x = none) ∧ ∀ H', Gr H H' → E (.ref R.meet) none H') ∨
   (HBadN K H v ∧ ∀ H', Gr H H' → E (.ref R.name) none H') ∨ (HBadR K H v ∧ ∀ H', Gr H H' → E (.ref R.row) none H'))
def needB (rows : List (List Str)) : List Str := (least rows).flatMap fun r => if r.length = 1 then r else []
def spBNeeded (C : Addr) (N : TabN) : Sp := fun vs H Q _ => ∃ b d tb n, vs = [.ref b] ∧ Bk C H b d tb n ∧ Tok tb n ∧ N.G H ∧ ∀ p H', Gr H H' → H p = none → H' p = some (.lst ((needB (rws tb)).map V.str)) → Q (.ref p) H'
theorem find_snoc {α : Type} {p : α → Bool} {l : List α} {i : Nat} {x : α} (h : l[i]? = some x) (n : (l.take i).find? p = none) : (l.take (i + 1)).find? p = if p x = true then some x else none := by
  rw [List.take_add_one, h, List.find?_append, n]
  simp only [Option.none_or, Option.toList]
  rw [List.find?_cons]
  split
  · rename_i e; rw [if_pos e]
  · rename_i e; rw [if_neg (by rw [e]; exact Bool.false_ne_true)]; rfl
theorem find_done {α : Type} {p : α → Bool} {l : List α} {i : Nat} {x : α} (h : l[i]? = some x) (n : (l.take i).find? p = none) (hx : p x = true) : l.find? p = some x := by
  have e := find_snoc h n
  rw [if_pos hx] at e
  rw [← List.take_append_drop (i + 1) l, List.find?_append, e]
  rfl
end K1
end
section
set_option maxHeartbeats 8000000
namespace K1
open PySem PySem.Spec PyProof.Rows L2 Gr GxR Srx Skx Dcx
open PySem.W (dataLe dataLt DatumOrd Datum)
/-- pairs of a number and a set, as data -/
def prD (z : Int × List Str) : PyData := .tuple [.int z.1, dS z.2]
def pairsD (l : List (Int × List Str)) : PyData := .list (l.map prD)
theorem ToldP.dp {K : PySem.W.Frag} {H H' : Hp} {p : Addr} {rs : List Pr1} (T : ToldP H H' p rs) : Dp K H' (.ref p) (pairsD (rs.map fun r => (r.k, r.r))) := by
  have gen : ∀ l : List Pr1, (∀ r ∈ l, r ∈ rs) → DpAll K H' (l.map fun r => V.ref r.t) ((l.map fun r => (r.k, r.r)).map prD) := by
    intro l
    induction l with
    | nil => intro _; exact .nil
    | cons r l ih =>
      intro h
      obtain ⟨_, _, _, _, h5, h6⟩ := T.own r (h r List.mem_cons_self)
      exact .cons (.tup (.inl (.inl h5)) (.cons (.int r.k) (.cons (dp_dS (.inl (.inl h6))) .nil))) (ih fun x hx => h x (List.mem_cons_of_mem _ hx))
  exact .lst (.inl (.inl T.at_)) (gen rs fun _ z => z)
theorem canL_pairs : ∀ l : List (Int × List Str), (∀ z ∈ l, Nms z.2) → PyData.canLayAll0 (l.map prD) = true
  | [], _ => by simp [PyData.canLayAll0]
  | n :: r, h => by
    have h1 := canL_strs n.2 (h n List.mem_cons_self)
    have h2 := canL_pairs r fun x hx => h x (List.mem_cons_of_mem _ hx)
    simp only [List.map_cons, PyData.canLayAll0, h2, Bool.and_true]
    simp only [prD, dS, PyData.canLay0, PyData.canLayAll0, h1, Bool.and_true]
theorem deep_pairs : ∀ l : List (Int × List Str), PyData.depthAll (l.map prD) ≤ 5
  | [] => by simp [PyData.depthAll]
  | n :: r => by
    have h1 := deep_pairs r
    have h2 := deep_strs n.2
    simp only [List.map_cons, PyData.depthAll, PyData.depth, prD, dS] at h1 ⊢
    omega
theorem shaped_pairs {l : List (Int × List Str)} (nm : ∀ z ∈ l, Nms z.2) : SeqAt.shaped (pairsD l) = true := by
  have h1 := deep_pairs l
  have h2 : PyData.depth (pairsD l) ≤ 64 := by simp only [pairsD, PyData.depth]; omega
  show (PyData.canLay0 (pairsD l) && decide (PyData.depth (pairsD l) ≤ 64)) = true
  rw [Bool.and_eq_true]
  exact ⟨by simp only [pairsD, PyData.canLay0]; exact canL_pairs l nm, decide_eq_true h2⟩
theorem eqv_pairs (xs ys : List (Int × List Str)) : PyData.eqv (pairsD xs) (pairsD ys) = decide (xs = ys) := Datum.eqv xs ys
theorem numD_eq (rows : List (List Str)) : numD rows = pairsD (numd (rows.map srt)) := by
  unfold numD pairsD numd
  congr 1
  refine List.ext_getElem? fun i => ?_
  rw [List.getElem?_map, List.getElem?_map, List.getElem?_mapIdx, List.getElem?_map]
  by_cases h : i < rows.length
  · rw [List.getElem?_range h, List.getElem?_eq_getElem h]
    show some (PyData.tuple [.int i, dS (srt (rows.getD i []))]) = some (PyData.tuple [.int i, dS (srt rows[i])])
    rw [List.getD_eq_getElem?_getD, List.getElem?_eq_getElem h]
    rfl
  · rw [List.getElem?_eq_none (by simpa using h), List.getElem?_eq_none (by simpa using h)]
    rfl
theorem once_srt {r : List Str} (h : r.Nodup) : once r = srt r := once_same h fun _ => Iff.rfl
theorem map_once_srt {rows : List (List Str)} (h : ∀ r ∈ rows, r.Nodup) : rows.map once = rows.map srt := List.map_congr_left fun r hr => once_srt (h r hr)
theorem nms_numd {rows : List (List Str)} (h : ∀ r ∈ rows, Nms r) : ∀ z ∈ numd rows, Nms z.2 := by
  intro z hz
  have : z.2 ∈ (numd rows).map (·.2) := List.mem_map.mpr ⟨z, hz, rfl⟩
  rw [numd_rows] at this
  exact h _ this
/-- lists of sets, sorted -/
theorem ordDS : Ord dS := ⟨fun x y => (DatumOrd.alike x y : PySem.W.alike (Datum.toD x) (Datum.toD y) = true), .inr fun x => ⟨by simp [dS], fun ds => by simp [dS]⟩, fun x => by
  have := deep_strs x
  simp only [dS, PyData.depth]
  omega⟩
end K1
namespace K1
open PySem PySem.Spec PyProof.Rows L2 Gr GxR Srx Skx Dcx
open PySem.W (dataLe dataLt DatumOrd Datum)
def leD (a b : List Str) : Bool := dataLe false dS a b
theorem leD_eq (a b : List Str) : leD a b = !dataLt (dS b) (dS a) := rfl
theorem leD_anti {a b : List Str} (h1 : leD a b = true) (h2 : leD b a = true) : a = b := by
  rw [leD_eq, Bool.not_eq_true'] at h1 h2
  have e1 : dataLt (Datum.toD b) (Datum.toD a) = false := h1
  have e2 : dataLt (Datum.toD a) (Datum.toD b) = false := h2
  rw [DatumOrd.lt_eq] at e1 e2
  exact listLt_anti a b e2 e1
theorem leD_trans {a b c : List Str} (h1 : leD a b = true) (h2 : leD b c = true) : leD a c = true := by
  rw [leD_eq, Bool.not_eq_true'] at *
  cases z : dataLt (dS c) (dS a) with
  | false => rfl
  | true =>
    rcases PyProof.Rows.lex_negTrans _ (PySem.W.keyToks (dS b)) _ z with y | y
    · rw [show dataLt (dS c) (dS b) = true from y] at h2
      cases h2
    · rw [show dataLt (dS b) (dS a) = true from y] at h1
      cases h1
theorem leD_total (a b : List Str) : (leD a b || leD b a) = true := by
  rw [leD_eq, leD_eq]
  cases h : dataLt (dS b) (dS a) with
  | false => rfl
  | true =>
    cases h2 : dataLt (dS a) (dS b) with
    | false => rfl
    | true =>
      have t := PyProof.Rows.lex_trans _ _ _ (show PyProof.Rows.lexLt _ _ _ = true from h) (show PyProof.Rows.lexLt _ _ _ = true from h2)
      have e := PySem.W.dataLt_self (dS b)
      rw [show dataLt (dS b) (dS b) = true from t] at e
      cases e
def srtD (xss : List (List Str)) : List (List Str) := xss.mergeSort leD
theorem srtD_eq {xs ys : List (List Str)} (p : xs.Perm ys) : srtD xs = srtD ys := by
  have s : ∀ zs : List (List Str), (srtD zs).Pairwise (fun a b => leD a b = true) := fun zs => List.pairwise_mergeSort (le := leD) (fun _ _ _ h1 h2 => leD_trans h1 h2) leD_total zs
  exact List.Perm.eq_of_pairwise (fun a b _ _ z1 z2 => leD_anti z1 z2) (s xs) (s ys) ((List.mergeSort_perm _ _).trans (p.trans (List.mergeSort_perm _ _).symm))
theorem srtD_perm (xs : List (List Str)) : (srtD xs).Perm xs := List.mergeSort_perm _ _
/-- sorted(..) of a list of lists -/
theorem sortedDS {K : PySem.W.Frag} {H : Hp} {a : Addr} {ps : List (Addr × List Str)} {σ : L2.St} {Q : VK} (hs : SqL K H a (ps.map fun q => V.ref q.1)) (own : ∀ q ∈ ps, SqL K H q.1 (q.2.map V.str))
    (q : ∀ p qs, H p = none → List.Perm qs ps → qs.map (·.2) = srtD (ps.map (·.2)) → Q (.ref p) (upd H p (.lst (qs.map fun q => V.ref q.1)))) :
    tNil σ H fun ys H2 => rSortedD K dS (V.ref a :: ys) H2 Q := by
  have e0 : (ps.map fun q => (V.ref q.1, q.2)).mergeSort (dataLe false fun b => dS b.2) = (ps.mergeSort fun x y => leD x.2 y.2).map fun q => (V.ref q.1, q.2) := by
    rw [List.map_mergeSort]
    intro x _ y _
    rfl
  refine ⟨a, ps.map fun q => (V.ref q.1, q.2), rfl, by rw [List.map_map]; exact hs, fun b hb => ?_, fun p hp => ?_⟩
  · obtain ⟨x, hx, rfl⟩ := List.mem_map.mp hb
    exact dp_dS (own x hx)
  · rw [e0, List.map_map]
    refine q p _ hp (List.mergeSort_perm _ _) ?_
    unfold srtD
    rw [List.map_mergeSort]
    intro x _ y _
    rfl
/-- [.. x .. for x in xs if ..]: each made anew -/
theorem lc_freshF {K : PySem.W.Frag} {a D : Addr} {j : Nat} {σ : L2.St} {vs : List Nat} {tt : TT} {te : TE} {H1 : Hp} {Qd : Hp → Prop} {ps0 : List (Addr × List Str)} (p : List Str → Bool) (F : List Str → List Str)
    (hA : SqL K H1 a (ps0.map fun q => V.ref q.1)) (few : ps0.length < sizeLine) (hD : H1 D = none) (hw : ∀ v, wipe ((wipe σ vs).set j (some v)) vs = wipe σ vs)
    (ht : ∀ q ∈ ps0, ∀ (H4 : Hp) (Qb : Bool → Hp → Prop), Gr H1 H4 → (∀ H5, Gr H4 H5 → Qb (p q.2) H5) → tt ((wipe σ vs).set j (some (.ref q.1))) H4 Qb)
    (he : ∀ q ∈ ps0, p q.2 = true → ∀ (H4 : Hp) (Q' : VK), Gr H1 H4 → (∀ l H5, Gr H4 H5 → H4 l = none → H5 l = some (.lst ((F q.2).map V.str)) → Q' (.ref l) H5) → te ((wipe σ vs).set j (some (.ref q.1))) H4 Q')
    (q : ∀ H2 ps, Gr H1 H2 → Told H1 H2 D ps → ps.map (·.2) = ((ps0.map (·.2)).filter p).map F → Qd H2) :
    ∃ W : Nat → Nat → Hp → Prop, (∃ m, W 0 m (upd H1 D (.lst []))) ∧ ∀ i m H, W i m H →
      ((Itl K a).stop i H ∧ Qd H) ∨ ((Itl K a).go i H ∧ ∃ Nx : Hp → Prop, (∀ H', Nx H' → ∃ m', m' < m ∧ W (i + 1) m' H') ∧ ∀ x H', (Itl K a).yld i H x H' → gName j x (wipe σ vs) H' fun σ2 H2 => wipe σ2 vs = wipe σ vs ∧ tt σ2 H2 fun b H3 =>
        if b = true then te σ2 H3 fun y H4 => ∃ acc, H4 D = some (.lst acc) ∧ acc.length < sizeLine ∧ Nx (upd H4 D (.lst (acc ++ [y]))) else Nx H3) := by
  have etk : ∀ {i : Nat} {q0 : Addr × List Str}, ps0[i]? = some q0 → (((ps0.take (i + 1)).map (·.2)).filter p).map F = (((ps0.take i).map (·.2)).filter p).map F ++ (if p q0.2 = true then [F q0.2] else []) := by
    intro i q0 h
    rw [take_map h, List.filter_append, List.map_append]
    congr 1
    rw [List.filter_cons]
    split <;> simp
  refine lc_list (xs := ps0.map fun q => V.ref q.1) (Qd := Qd) (fun i H2 => Gr H1 H2 ∧ ∃ ps, Told H1 H2 D ps ∧ ps.map (·.2) = (((ps0.take i).map (·.2)).filter p).map F) ⟨Gr.new hD, [], Told.nil hD, rfl⟩ (fun i H2 _ h => h.1.seq hA) (fun i x H2 hx h => ?_) (fun H2 h => ?_)
  · obtain ⟨g2, ps, T, e⟩ := h
    obtain ⟨q0, hq0, rfl⟩ := get_map hx
    have m0 := List.mem_of_getElem? hq0
    refine ⟨hw _, ht q0 m0 H2 _ g2 fun H3 g3 => ?_⟩
    have T3 := T.gr g3
    cases hp : p q0.2 with
    | false =>
      refine iteF ⟨g2.trans g3, ps, T3, ?_⟩
      rw [etk hq0, if_neg (by rw [hp]; exact Bool.false_ne_true), List.append_nil]
      exact e
    | true =>
      refine iteT (he q0 m0 hp H3 _ (g2.trans g3) fun l H5 g5 nl el => ⟨_, g5.lst T3.at_, ?_, ((g2.trans g3).trans g5).mut hD, ps ++ [(l, F q0.2)], T3.snoc2 (g2.trans g3) g5 nl el, ?_⟩)
      · rw [List.length_map]
        have h1 := congrArg List.length e
        rw [List.length_map, List.length_map] at h1
        have h2 := List.length_filter_le p ((ps0.take i).map (·.2))
        rw [List.length_map, List.length_take] at h2
        omega
      · rw [List.map_append, e, etk hq0, if_pos hp]
        rfl
  · obtain ⟨g2, ps, T, e⟩ := h
    rw [List.length_map, List.take_length] at e
    exact q H2 ps g2 T e
end K1
namespace K1
open PySem PySem.Spec PyProof.Rows L2 Gr GxR Srx Skx Dcx
theorem contains_once (r : List Str) (x : Str) : (once r).contains x = r.contains x := by
  rw [Bool.eq_iff_iff, List.contains_iff_mem, List.contains_iff_mem]
  exact once_mem
theorem once_filter (r : List Str) (p : Str → Bool) : (once r).filter p = once (r.filter p) := by
  refine (wi_anti (ris_filter p (ris_once r)) (ris_once _) (wi_iff.mpr fun y hy => ?_) (wi_iff.mpr fun y hy => ?_))
  · obtain ⟨h1, h2⟩ := List.mem_filter.mp hy
    exact once_mem.mpr (List.mem_filter.mpr ⟨once_mem.mp h1, h2⟩)
  · obtain ⟨h1, h2⟩ := List.mem_filter.mp (once_mem.mp hy)
    exact List.mem_filter.mpr ⟨once_mem.mpr h1, h2⟩
theorem once_once (r : List Str) : once (once r) = once r := once_ris (ris_once r)
/-- the struck rows of a book of once-rows -/
theorem strike_once (x : Str) (rows : List (List Str)) : (strike x (rows.map once)).map once = (strike x rows).map once := by
  unfold strike
  rw [List.map_map, List.map_map, List.map_map]
  refine List.map_congr_left fun r _ => ?_
  show once ((once r).filter _) = once (r.filter _)
  rw [once_filter, once_once]
theorem away_map (x : Str) (rows : List (List Str)) : away x (rows.map once) = (away x rows).map once := by
  unfold away
  rw [List.filter_map]
  refine congrArg _ (List.filter_congr fun r _ => ?_)
  show (!(once r).contains x) = !r.contains x
  rw [contains_once]
theorem away_once (x : Str) (rows : List (List Str)) : (away x (rows.map once)).map once = (away x rows).map once := by
  rw [away_map, List.map_map]
  exact List.map_congr_left fun r _ => once_once r
theorem grown_once (rows : List (List Str)) : grown (rows.map once) = grown rows := grown_congr fun x => mtAll_once x rows
end K1
namespace K1
open PySem PySem.Spec PyProof.Rows L2 Gr GxR Srx Skx Dcx
theorem strike_grown (x : Str) (rows : List (List Str)) : grown (strike x (rows.map once)) = (grown rows).filter fun z => !z.contains x := by
  refine (grown_one ((grown_nodup rows).filter _) ((grown_sorted rows).filter _) fun z => ?_).symm
  rw [List.mem_filter, grown_mem, lst_strike, lst_congr (rows := rows.map once) (rows' := rows) fun y => mtAll_once y rows]
  refine and_congr_right fun _ => ?_
  rw [Bool.not_eq_true', Bool.eq_false_iff, Ne, List.contains_iff_mem]
theorem away_no {x : Str} {rows : List (List Str)} {z : List Str} (h : z ∈ grown (away x rows)) : x ∉ z := by
  intro hx
  obtain ⟨r, hr, hy, _⟩ := (lst_own.mp (grown_mem.mp h)).2.2 x hx
  exact (away_mem.mp hr).2 hy
theorem srt_snoc {z : List Str} {x : Str} (hz : Ris z) (hx : x ∉ z) : srt (z ++ [x]) = once (z ++ [x]) :=
  (once_srt (List.nodup_append.mpr ⟨hz.nodup, by simp, fun a ha b hb e => hx (by rw [← List.mem_singleton.mp hb, ← e]; exact ha)⟩)).symm
theorem with_perm {x : Str} {rows : List (List Str)} : List.Perm (((grown (away x rows)).filter fun z => !mtAll z rows).map fun z => srt (z ++ [x])) ((grown rows).filter fun z => z.contains x) := by
  have m1 : ∀ z ∈ (grown (away x rows)).filter (fun z => !mtAll z rows), Ris z ∧ x ∉ z ∧ Lst (away x rows) z ∧ mtAll z rows = false := by
    intro z hz
    obtain ⟨h1, h2⟩ := List.mem_filter.mp hz
    exact ⟨grown_ris _ z h1, away_no h1, grown_mem.mp h1, by simpa using h2⟩
  refine (List.perm_ext_iff_of_nodup ?_ ((grown_nodup rows).filter _)).mpr fun y => ?_
  · refine List.pairwise_map.mpr (((grown_nodup (away x rows)).filter _).imp_of_mem fun {a b} ha hb ne e => ne ?_)
    obtain ⟨a1, a2, _⟩ := m1 a ha
    obtain ⟨b1, b2, _⟩ := m1 b hb
    rw [srt_snoc a1 a2, srt_snoc b1 b2] at e
    have key : ∀ {u v : List Str}, x ∉ u → once (u ++ [x]) = once (v ++ [x]) → wi u v = true := by
      intro u v hu e
      refine wi_iff.mpr fun y hy => ?_
      have : y ∈ once (v ++ [x]) := e ▸ once_mem.mpr (List.mem_append_left _ hy)
      rcases List.mem_append.mp (once_mem.mp this) with h | h
      · exact h
      · rw [List.mem_singleton.mp h] at hy
        exact absurd hy hu
    exact wi_anti a1 b1 (key a2 e) (key b2 e.symm)
  · rw [List.mem_filter, grown_mem, List.contains_iff_mem, lst_with, List.mem_map]
    constructor
    · rintro ⟨z, hz, rfl⟩
      obtain ⟨h1, h2, h3, h4⟩ := m1 z hz
      exact ⟨z, h3, h4, srt_snoc h1 h2⟩
    · rintro ⟨s, h3, h4, rfl⟩
      have hs : s ∈ grown (away x rows) := grown_mem.mpr h3
      exact ⟨s, List.mem_filter.mpr ⟨hs, by rw [h4]; rfl⟩, srt_snoc h3.1 (away_no hs)⟩
end K1
namespace K1
open PySem PySem.Spec PyProof.Rows L2 Gr GxR Srx Skx Dcx
def spLawG (K : PySem.W.Frag) (N : TabN) : Sp := fun vs H Q _ => ∃ (a : Addr) (ns : List Int), vs = [.ref a] ∧ SqL K H a (ns.map V.int) ∧ N.G H ∧ ∀ H', Q (.bl true) H'
end K1
end
section
set_option maxHeartbeats 8000000
namespace K1
open PySem PySem.Spec PyProof.Rows L2 Gr GxR Srx Skx Dcx
/-- what is neither a book's object nor its dict stays -/
structure Sqs (H H' : Hp) : Prop where
  at_ : ∀ a o, H a = some o → (∀ ps, o ≠ .tbl ps) → (∀ C dx f, o ≠ .ins C dx f) → (∀ kv, o ≠ .dK kv) → H' a = some o
theorem Sqs.lst {H H' : Hp} (g : Sqs H H') {a : Addr} {xs : List V} (e : H a = some (.lst xs)) : H' a = some (.lst xs) := g.at_ a _ e (fun _ z => nomatch z) (fun _ _ _ z => nomatch z) (fun _ z => nomatch z)
theorem Sqs.ll {H H' : Hp} (g : Sqs H H') {a : Addr} {ps : List (Addr × List Str)} (h : LL H a ps) : LL H' a ps := ⟨g.lst h.at_, fun q hq => g.lst (h.own q hq)⟩
theorem Sqs.seq {K : PySem.W.Frag} {H H' : Hp} (g : Sqs H H') {a : Addr} {xs : List V} (h : SqL K H a xs) : SqL K H' a xs := by
  rcases h with (h | ⟨o, h⟩) | h
  · exact .inl (.inl (g.lst h))
  · exact .inl (.inr ⟨o, g.at_ _ _ h (fun _ z => nomatch z) (fun _ _ _ z => nomatch z) (fun _ z => nomatch z)⟩)
  · exact .inr h
theorem Sqs.seqT {K : PySem.W.Frag} {H H' : Hp} (g : Sqs H H') {a : Addr} {xs : List V} (h : SqT K H a xs) : SqT K H' a xs := by
  rcases h with (h | ⟨o, h⟩) | h
  · exact .inl (.inl (g.at_ _ _ h (fun _ z => nomatch z) (fun _ _ _ z => nomatch z) (fun _ z => nomatch z)))
  · exact .inl (.inr ⟨o, g.at_ _ _ h (fun _ z => nomatch z) (fun _ _ _ z => nomatch z) (fun _ z => nomatch z)⟩)
  · exact .inr h
mutual
theorem dp_sq {K : PySem.W.Frag} {H H' : Hp} (g : Sqs H H') : ∀ (d : PyData) (v : V), Dp K H v d → Dp K H' v d
  | .none, v, h => by cases h; exact .non
  | .bool b, v, h => by cases h; exact .bl b
  | .int i, v, h => by cases h; exact .int i
  | .str x, v, h => by cases h; exact .str x
  | .list ds, v, h => by
    cases h with
    | lst hs ha => exact .lst (g.seq hs) (dpAll_sq g ds _ ha)
  | .tuple ds, v, h => by
    cases h with
    | tup hs ha => exact .tup (g.seqT hs) (dpAll_sq g ds _ ha)
  | .dict _, v, h => by cases h
theorem dpAll_sq {K : PySem.W.Frag} {H H' : Hp} (g : Sqs H H') : ∀ (ds : List PyData) (vs : List V), DpAll K H vs ds → DpAll K H' vs ds
  | [], vs, h => by cases h; exact .nil
  | d :: ds, vs, h => by
    cases h with
    | cons h1 h2 => exact .cons (dp_sq g d _ h1) (dpAll_sq g ds _ h2)
end
theorem Sqs.dp {K : PySem.W.Frag} {H H' : Hp} (g : Sqs H H') {d : PyData} {v : V} (h : Dp K H v d) : Dp K H' v d := dp_sq g d v h
theorem Sqs.trans {H H1 H2 : Hp} (g : Sqs H H1) (h : Sqs H1 H2) : Sqs H H2 := ⟨fun a o e n1 n2 n3 => h.at_ a o (g.at_ a o e n1 n2 n3) n1 n2 n3⟩
theorem Sqs.gr {H H' : Hp} (g : Gr H H') : Sqs H H' := ⟨fun a o e n1 _ _ => g.at_ a o e n1⟩
theorem Bk.off {X : Addr → Prop} {C b d : Addr} {H H' : Hp} {tb : Tb1} {n : Int} (B : Bk C H b d tb n) (g : GrX X H H') (h : ∀ z, X z → z = b ∨ z = d) : Sqs H H' := by
  obtain ⟨dx, e1⟩ := B.ob
  refine ⟨fun a o e n1 n2 n3 => g.at_ a o (fun hx => ?_) e n1⟩
  rcases h a hx with rfl | rfl
  · rw [e1] at e
    exact n2 _ _ _ (Option.some.inj e).symm
  · rw [B.dc] at e
    exact n3 _ (Option.some.inj e).symm
/-- another book stays -/
theorem Bk.off2 {X : Addr → Prop} {C b d b2 d2 : Addr} {H H' : Hp} {tb tb2 : Tb1} {n n2 : Int} (B : Bk C H b d tb n) (g : GrX X H H') (h : ∀ z, X z → z = b ∨ z = d) (B2 : Bk C H b2 d2 tb2 n2) (n1 : b2 ≠ b) (nd : d2 ≠ d) : Bk C H' b2 d2 tb2 n2 := by
  obtain ⟨dx, e1⟩ := B.ob
  obtain ⟨dx2, e2⟩ := B2.ob
  refine B2.grx g (fun z => ?_) (fun z => ?_) fun e he z => ?_
  · rcases h _ z with z | z
    · exact n1 z
    · rw [z, B.dc] at e2
      cases e2
  · rcases h _ z with z | z
    · have := B2.dc
      rw [z, e1] at this
      cases this
    · exact nd z
  · have := B2.own e he
    rcases h _ z with z | z
    · rw [z, e1] at this
      cases this
    · rw [z, B.dc] at this
      cases this
/-- a book made anew is no older one -/
theorem NewB.apart {C b d b2 d2 : Addr} {H H' : Hp} {tb tb2 : Tb1} {n2 : Int} {rows : List (List Str)} (NB : NewB C H H' b d tb rows) (B2 : Bk C H b2 d2 tb2 n2) : b2 ≠ b ∧ d2 ≠ d := by
  obtain ⟨dx, e1⟩ := B2.ob
  exact ⟨ne_of_none e1 NB.nb, ne_of_none B2.dc NB.ndd⟩
theorem unions_once (A B : List (List Str)) : unions (A.map once) (B.map once) = unions A B := by
  unfold unions
  rw [List.flatMap_map]
  congr 1
  funext a
  rw [List.map_map]
  refine List.map_congr_left fun b _ => once_congr fun y => ?_
  rw [List.mem_append, List.mem_append, once_mem, once_mem]
theorem map_once_once (A : List (List Str)) : (A.map once).map once = A.map once := by
  rw [List.map_map]
  exact List.map_congr_left fun r _ => once_once r
theorem unions_ris (A B : List (List Str)) : ∀ z ∈ unions A B, Ris z := fun z hz => by
  obtain ⟨a, _, b, _, rfl⟩ := unions_mem.mp hz
  exact ris_once _
theorem unions_len (A B : List (List Str)) : (unions A B).length = A.length * B.length := flat_len (fun a b => once (a ++ b)) B A
theorem cut6 (xs : List Str) : cutV (xs.map V.str) none (some 6) = (xs.take 6).map V.str := by
  unfold cutV
  rw [HT.sIx_none, List.drop_zero, show (some (6 : Int)) = some ((6 : Nat) : Int) from rfl, HT.sIx_nat, Nat.sub_zero, List.map_take, List.length_map]
  by_cases h : 6 ≤ xs.length
  · rw [Nat.min_eq_left h]
  · rw [Nat.min_eq_right (by omega), List.take_of_length_le (by rw [List.length_map]; omega), List.take_of_length_le (by rw [List.length_map]; omega)]
theorem TabN.G.young {N : TabN} {H H' : Hp} (h : N.G H) (g : Gr H H') : N.G H' := h.gr g
end K1
end
section
set_option maxHeartbeats 8000000
namespace K1
open PySem PySem.Spec PyProof.Rows L2 Gr GxR
def topS (i : Nat) : Stmt := PySem.Challenge.pw_meetrows_k03_least_sets_by_own_rows.main.body.getD i (.Pass ⟨0, 0, 0, 0⟩)
abbrev s_wall_x : Stmt := topS 0
abbrev sIsName : Stmt := topS 9
abbrev sRising : Stmt := topS 10
abbrev sWithin : Stmt := topS 11
abbrev sMeets : Stmt := topS 12
abbrev sRanked : Stmt := topS 14
abbrev sLeast : Stmt := topS 15
abbrev sOnce : Stmt := topS 16
abbrev sRank : Stmt := topS 17
abbrev s_names_from : Stmt := topS 19
abbrev s_row_from : Stmt := topS 20
abbrev s_grown : Stmt := topS 22
abbrev m_init : Stmt := inClass (topS 26) 2
abbrev m_put : Stmt := inClass (topS 26) 3
abbrev m_rows : Stmt := inClass (topS 26) 5
abbrev m_names : Stmt := inClass (topS 26) 6
abbrev m_least : Stmt := inClass (topS 26) 7
abbrev m_fewest : Stmt := inClass (topS 26) 8
abbrev m_meets : Stmt := inClass (topS 26) 9
abbrev m_own : Stmt := inClass (topS 26) 11
abbrev m_least_rows : Stmt := inClass (topS 26) 12
abbrev m_sets : Stmt := inClass (topS 26) 19
abbrev m_met_by : Stmt := inClass (topS 26) 20
abbrev m_meeting : Stmt := inClass (topS 26) 21
abbrev m_first_own : Stmt := inClass (topS 26) 22
abbrev sDraw : Stmt := topS 28
abbrev sNames : Stmt := topS 29
abbrev sRow : Stmt := topS 30
abbrev sLMeets : Stmt := topS 31
abbrev sLAll : Stmt := topS 32
abbrev sLWithin : Stmt := topS 33
abbrev s_law_book : Stmt := topS 34
abbrev s_law_own_x : Stmt := topS 35
abbrev s_law_good_x : Stmt := topS 36
abbrev s_law_x : Stmt := topS 37
end K1
namespace K1
open PySem PySem.Spec PyProof.Rows L2 Gr GxR
section
variable {P : Program} {w : World} {K : PySem.W.Frag} {mg : Str → Option Value} {base : Heap} {f : Addr} {fd : FuncData}
theorem scDraw : FnScope ["_law_script", "_law_k"] ["_law_script", "_law_k"] (defScope sDraw) := ⟨rfl, rfl, rfl, by decide +kernel, rfl, by decide +kernel, by decide +kernel⟩
theorem ok_draw (F : FnP K "_law_draw" sDraw f fd) (gL : mg "len" = none) : FnOk P w K mg base CX0 1 f fd ["_law_script", "_law_k"] (spDraw K) := by
  refine F.ok scDraw (fun vs H Q E h => ?_) (fun cdv A outer s H vs Q E hr h => ?_)
  · obtain ⟨a, ns, k, rfl, _⟩ := h
    rfl
  · obtain ⟨a, ns, k, rfl, hS, q⟩ := h
    refine ⟨_, PSs.nox (pss_one (ps_ret (pe_ifExp (pt_cmpR op_gt (pe_callB call_len_seq (by rfl) gL boot_len (pa_cons (pv 0) pa_nil)) (pv 1) (nomark _)) (pe_ix ix_list (pv 0) (pv 1) (fun _ _ => rfl)) pe_int))), ?_⟩
    refine ⟨_, rfl, a, _, rfl, .inl hS, _, rfl, _, _, rfl, rfl, _, rfl, ?_⟩
    rw [List.length_map]
    by_cases hk : k < ns.length
    · rw [decide_eq_true (show (k : Int) < (ns.length : Int) by omega)]
      refine iteT ⟨_, rfl, _, rfl, a, _, _, _, rfl, rfl, hS, atI_nat (v := .int ns[k]) (by rw [List.getElem?_map, List.getElem?_eq_getElem hk]; rfl), ?_⟩
      have e : ns.getD k 0 = ns[k] := by rw [List.getD_eq_getElem?_getD, List.getElem?_eq_getElem hk]; rfl
      rw [e] at q
      exact q
    · rw [decide_eq_false (show ¬ (k : Int) < (ns.length : Int) by omega)]
      refine iteF ?_
      have e : ns.getD k 0 = 0 := by rw [List.getD_eq_getElem?_getD, List.getElem?_eq_none (by omega)]; rfl
      rw [e] at q
      exact q
theorem scLMeets : FnScope ["_law_one", "_law_row_here", "_law_name"] ["_law_one", "_law_row_here"] (defScope sLMeets) := ⟨rfl, rfl, rfl, by decide +kernel, rfl, by decide +kernel, by decide +kernel⟩
theorem ok_lmeets (F : FnP K "_law_meets" sLMeets f fd) : FnOk P w K mg base CX0 1 f fd ["_law_one", "_law_row_here"] (spLMeets K) := by
  refine F.ok scLMeets (fun vs H Q E h => ?_) (fun cdv A outer s H vs Q E hr h => ?_)
  · obtain ⟨a, b, xs, ys, rfl, _⟩ := h
    rfl
  · obtain ⟨a, b, xs, ys, rfl, hA, hB, q⟩ := h
    refine ⟨_, PSs.nox (pss_cons (ps_for PassesOwn.never rfl (pi_list (pv 0)) (pg_name (i := 2) scLMeets.nd rfl (.inl rfl)) (pss_one (ps_if (pt_cmpR op_in_seq (pv 2) (pv 1) rfl) (pss_one (ps_ret pe_bl)) pss_nil))) (pss_one (ps_ret pe_bl))), ?_⟩
    refine ⟨_, rfl, a, rfl, ⟨_, hA⟩, for_list (xs := xs.map V.str) (fun i σ H' => H' = H ∧ (xs.take i).any ys.contains = false ∧ ∃ v, σ = [some (.ref a), some (.ref b), v]) ⟨rfl, rfl, _, rfl⟩ (fun i σ H' _ h => h.1 ▸ hA) (fun i x σ H' hx h => ?_) (fun σ H' h => ?_)⟩
    · obtain ⟨rfl, hn, v, rfl⟩ := h
      obtain ⟨y, hy, rfl⟩ := get_map hx
      refine ⟨_, rfl, _, rfl, b, _, rfl, .inl hB, rfl, flat_str ys, _, rfl, ?_⟩
      rw [inV_str]
      cases e : ys.contains y with
      | true =>
        show Q (.bl true) H'
        rw [show xs.any ys.contains = true from List.any_eq_true.mpr ⟨y, List.mem_of_getElem? hy, e⟩] at q
        exact q
      | false =>
        refine ⟨rfl, ?_, _, rfl⟩
        rw [any_at hy, hn, e]
        rfl
    · obtain ⟨rfl, hn, v, rfl⟩ := h
      rw [List.length_map, List.take_length] at hn
      rw [hn] at q
      exact q
theorem scLWithin : FnScope ["_law_one", "_law_other", "_law_name"] ["_law_one", "_law_other"] (defScope sLWithin) := ⟨rfl, rfl, rfl, by decide +kernel, rfl, by decide +kernel, by decide +kernel⟩
theorem ok_lwithin (F : FnP K "_law_within" sLWithin f fd) : FnOk P w K mg base CX0 1 f fd ["_law_one", "_law_other"] (spLWithin K) := by
  refine F.ok scLWithin (fun vs H Q E h => ?_) (fun cdv A outer s H vs Q E hr h => ?_)
  · obtain ⟨a, b, xs, ys, rfl, _⟩ := h
    rfl
  · obtain ⟨a, b, xs, ys, rfl, hA, hB, q⟩ := h
    refine ⟨_, PSs.nox (pss_cons (ps_for PassesOwn.never rfl (pi_list (pv 0)) (pg_name (i := 2) scLWithin.nd rfl (.inl rfl)) (pss_one (ps_if (pt_cmpR op_notIn_seq (pv 2) (pv 1) rfl) (pss_one (ps_ret pe_bl)) pss_nil))) (pss_one (ps_ret pe_bl))), ?_⟩
    refine ⟨_, rfl, a, rfl, ⟨_, hA⟩, for_list (xs := xs.map V.str) (fun i σ H' => H' = H ∧ (xs.take i).all ys.contains = true ∧ ∃ v, σ = [some (.ref a), some (.ref b), v]) ⟨rfl, rfl, _, rfl⟩ (fun i σ H' _ h => h.1 ▸ hA) (fun i x σ H' hx h => ?_) (fun σ H' h => ?_)⟩
    · obtain ⟨rfl, hn, v, rfl⟩ := h
      obtain ⟨y, hy, rfl⟩ := get_map hx
      refine ⟨_, rfl, _, rfl, b, _, rfl, .inl hB, rfl, flat_str ys, _, rfl, ?_⟩
      rw [inV_str]
      cases e : ys.contains y with
      | false =>
        show Q (.bl false) H'
        rw [show xs.all ys.contains = false from List.all_eq_false.mpr ⟨y, List.mem_of_getElem? hy, by rw [e]; exact Bool.false_ne_true⟩] at q
        exact q
      | true =>
        refine ⟨rfl, ?_, _, rfl⟩
        rw [all_at hy, hn, e]
        rfl
    · obtain ⟨rfl, hn, v, rfl⟩ := h
      rw [List.length_map, List.take_length] at hn
      rw [hn] at q
      exact q
theorem scRank : FnScope ["one"] ["one"] (defScope sRank) := ⟨rfl, rfl, rfl, by decide +kernel, rfl, by decide +kernel, by decide +kernel⟩
theorem ok_rank (F : FnP K "_rank" sRank f fd) (gL : mg "len" = none) : FnOk P w K mg base CX0 1 f fd ["one"] (spRank K) := by
  refine F.ok scRank (fun vs H Q E h => ?_) (fun cdv A outer s H vs Q E hr h => ?_)
  · obtain ⟨a, xs, rfl, _⟩ := h
    rfl
  · obtain ⟨a, xs, rfl, hS, q⟩ := h
    refine ⟨_, PSs.nox (pss_one (ps_ret (pe_tup (pa_cons (pe_callB call_len_seq (by rfl) gL boot_len (pa_cons (pv 0) pa_nil)) (pa_cons (pv 0) pa_nil))))), ?_⟩
    refine ⟨_, rfl, a, _, rfl, .inl hS, _, rfl, (by show 2 ≤ sizeLine; decide), fun t ht => ?_⟩
    refine q _ _ (Gr.new ht) ?_
    rw [List.length_map]
    exact .tup (.inl (.inl upd_same)) (.cons (.int _) (.cons (.lst ((Gr.new ht).seq hS) (dp_strs xs)) .nil))
end
end K1
namespace K1
open PySem PySem.Spec PyProof.Rows L2 Gr GxR Srx
section
variable {P : Program} {w : World} {K : PySem.W.Frag} {mg : Str → Option Value} {base : Heap} {f : Addr} {fd : FuncData} {p : He.Defn}
theorem scWithin : FnScope ["one", "other", "name"] ["one", "other"] (defScope sWithin) := ⟨rfl, rfl, rfl, by decide +kernel, rfl, by decide +kernel, by decide +kernel⟩
theorem blkWithin : BlkOk ["one", "other", "name"] (defScope sWithin) (gexp sWithin) [("name", 2)] := blkOk_by (by decide +kernel)
theorem gxsWithin : Gx.GxS (gexp sWithin) := Gx.gxs_by (by decide +kernel)
theorem ok_within (F : FunD K "within" "within" (defArgs sWithin) (defBody sWithin) (defScope sWithin) [] [] (He.fAd K p) fd) (T : Tb K base mg p) (gA : mg "all" = none) : FnOk P w K mg base CX0 1 (He.fAd K p) fd ["one", "other"] (spWithin K (He.cT K p).2) := by
  refine okC F scWithin (fun vs H Q E h => ?_) (fun A outer s H vs Q E hr h => ?_)
  · obtain ⟨a, b, xs, ys, rfl, _⟩ := h
    rfl
  · obtain ⟨a, b, xs, ys, rfl, hA, hB, hT, q⟩ := h
    refine ⟨_, PSs.nox (pss_one (ps_ret (Gx.pe_all (own := [("name", 2)]) (gt := gName 2) (tt := tYes) hr rfl scWithin.nd (by rfl) gA T rfl blkWithin gxsWithin (pi_list (pv 0))
      (fun _ _ _ _ _ _ => pg_name (i := 2) scWithin.nd rfl (.inl rfl)) (fun _ _ _ _ _ _ => pts_nil) (fun _ _ _ _ _ _ => pe_cmpR (r := rIn K false) op_in_seq (pv 2) (pv 1) rfl)))), ?_⟩
    refine ⟨_, rfl, a, rfl, ⟨_, hA⟩, Gx.gx_list (xs := xs.map V.str) hT (fun i H' => Gr H H' ∧ (xs.take i).all ys.contains = true) (fun H2 t2 => ⟨Gr.tabbed hT t2, rfl⟩) (fun i H' _ h => h.1.seq hA) (fun i x H' Nx nx hx h => ?_) (fun H' h => ?_)⟩
    · obtain ⟨g, hn⟩ := h
      obtain ⟨y, hy, rfl⟩ := get_map hx
      refine ⟨rfl, yesIf ?_⟩
      refine ⟨_, rfl, _, rfl, b, _, rfl, .inl (g.seq hB), rfl, flat_str ys, _, rfl, fun e => ?_, fun e => nx _ ⟨g, ?_⟩⟩
      · rw [inV_str] at e
        have z := q H' g
        rw [show xs.all ys.contains = false from List.all_eq_false.mpr ⟨y, List.mem_of_getElem? hy, by rw [show ys.contains y = false from e]; exact Bool.false_ne_true⟩] at z
        exact z
      · rw [inV_str] at e
        rw [all_at hy, hn, show ys.contains y = true by simpa using e]
        rfl
    · have z := q H' h.1
      have hn := h.2
      rw [List.length_map, List.take_length] at hn
      rw [hn] at z
      exact z
theorem scMeets : FnScope ["one", "other", "name"] ["one", "other"] (defScope sMeets) := ⟨rfl, rfl, rfl, by decide +kernel, rfl, by decide +kernel, by decide +kernel⟩
theorem blkMeets : BlkOk ["one", "other", "name"] (defScope sMeets) (gexp sMeets) [("name", 2)] := blkOk_by (by decide +kernel)
theorem gxsMeets : Gx.GxS (gexp sMeets) := Gx.gxs_by (by decide +kernel)
theorem ok_meets (F : FunD K "meets" "meets" (defArgs sMeets) (defBody sMeets) (defScope sMeets) [] [] (He.fAd K p) fd) (T : Tb K base mg p) (gA : mg "any" = none) : FnOk P w K mg base CX0 1 (He.fAd K p) fd ["one", "other"] (spMeets K (He.cT K p).2) := by
  refine okC F scMeets (fun vs H Q E h => ?_) (fun A outer s H vs Q E hr h => ?_)
  · obtain ⟨a, b, xs, ys, rfl, _⟩ := h
    rfl
  · obtain ⟨a, b, xs, ys, rfl, hA, hB, hT, q⟩ := h
    refine ⟨_, PSs.nox (pss_one (ps_ret (Gx.pe_any (own := [("name", 2)]) (gt := gName 2) (tt := tYes) hr rfl scMeets.nd (by rfl) gA T rfl blkMeets gxsMeets (pi_list (pv 0))
      (fun _ _ _ _ _ _ => pg_name (i := 2) scMeets.nd rfl (.inl rfl)) (fun _ _ _ _ _ _ => pts_nil) (fun _ _ _ _ _ _ => pe_cmpR (r := rIn K false) op_in_seq (pv 2) (pv 1) rfl)))), ?_⟩
    refine ⟨_, rfl, a, rfl, ⟨_, hA⟩, Gx.gx_list (xs := xs.map V.str) hT (fun i H' => Gr H H' ∧ (xs.take i).any ys.contains = false) (fun H2 t2 => ⟨Gr.tabbed hT t2, rfl⟩) (fun i H' _ h => h.1.seq hA) (fun i x H' Nx nx hx h => ?_) (fun H' h => ?_)⟩
    · obtain ⟨g, hn⟩ := h
      obtain ⟨y, hy, rfl⟩ := get_map hx
      refine ⟨rfl, yesIf ?_⟩
      refine ⟨_, rfl, _, rfl, b, _, rfl, .inl (g.seq hB), rfl, flat_str ys, _, rfl, fun e => ?_, fun e => nx _ ⟨g, ?_⟩⟩
      · rw [inV_str] at e
        have z := q H' g
        rw [show xs.any ys.contains = true from List.any_eq_true.mpr ⟨y, List.mem_of_getElem? hy, e⟩] at z
        exact z
      · rw [inV_str] at e
        rw [any_at hy, hn, show ys.contains y = false by simpa using e]
        rfl
    · have z := q H' h.1
      have hn := h.2
      rw [List.length_map, List.take_length] at hn
      rw [hn] at z
      exact z
theorem scOnce : FnScope ["names"] ["names"] (defScope sOnce) := ⟨rfl, rfl, rfl, by decide +kernel, rfl, by decide +kernel, by decide +kernel⟩
theorem ok_once (F : FnP K "_once_each" sOnce f fd) (gS : mg "sorted" = none) (gT : mg "set" = none) : FnOk P w K mg base CX0 1 f fd ["names"] (spOnce K) := by
  refine F.ok scOnce (fun vs H Q E h => ?_) (fun cdv A outer s H vs Q E hr h => ?_)
  · obtain ⟨a, xs, rfl, _⟩ := h
    rfl
  · obtain ⟨a, xs, rfl, hA, few, q⟩ := h
    refine ⟨_, PSs.nox (pss_one (ps_ret (pe_callB (Srx.cr_sortedTx rfl (hu64 hr)) (by rfl) gS boot_sorted (pa_cons (pe_callTy (Srx.cr_setTx rfl) (by rfl) gT boot_set (pa_cons (pv 0) pa_nil)) pa_nil)))), ?_⟩
    refine ⟨_, rfl, a, xs, rfl, hA, few, fun b nb => ?_⟩
    refine ⟨b, Sx.dd xs, rfl, upd_same, fun p np => ?_⟩
    have g : Gr H (upd (upd H b (Srx.SetTx w b (Sx.dd xs))) p (.lst ((srt (Sx.dd xs)).map V.str))) := (Gr.new nb).trans (Gr.new np)
    exact q p _ g ((Gr.new nb).free np) upd_same
end
end K1
namespace K1
open PySem PySem.Spec PyProof.Rows L2 Gr GxR Srx
section
variable {P : Program} {w : World} {K : PySem.W.Frag} {mg : Str → Option Value} {base : Heap} {f : Addr} {fd : FuncData} {p : He.Defn}
theorem scIsName : FnScope ["thing", "letter"] ["thing"] (defScope sIsName) := ⟨rfl, rfl, rfl, by decide +kernel, rfl, by decide +kernel, by decide +kernel⟩
theorem blkIsName : BlkOk ["thing", "letter"] (defScope sIsName) (gexp2 sIsName) [("letter", 1)] := blkOk_by (by decide +kernel)
theorem gxsIsName : Gx.GxS (gexp2 sIsName) := Gx.gxs_by (by decide +kernel)
theorem ok_isname (F : FunD K "is_name" "is_name" (defArgs sIsName) (defBody sIsName) (defScope sIsName) [] [] (He.fAd K p) fd) (T : Tb K base mg p) (gA : mg "all" = none) (gI : mg "isinstance" = none) (gS : mg "str" = none) (gL : mg "len" = none) (gM : ∃ t, mg "MOST_LETTERS" = some (.int 8 t)) :
    FnOk P w K mg base CX0 1 (He.fAd K p) fd ["thing"] (spIsName K (He.cT K p).2) := by
  obtain ⟨tM, gM⟩ := gM
  refine okC F scIsName (fun vs H Q E h => ?_) (fun A outer s H vs Q E hr h => ?_)
  · obtain ⟨v, rfl, _⟩ := h
    rfl
  · obtain ⟨v, rfl, hv, hT, q⟩ := h
    refine ⟨_, PSs.nox (pss_cons (ps_if (PW.pt (pw_or (pt_not (pt_val (pe_callB call_isi (by rfl) gI (by decide +kernel) (pa_cons (pv 0) (pa_cons (pe_bltn (v := .ty "str") (by rfl) gS (by decide +kernel) rfl) pa_nil)))))
        (pw_or1 (pt_not (pt_chain op_le op_le pe_int (pe_callB call_len_str (by rfl) gL boot_len (pa_cons (pv 0) pa_nil)) (pe_glob (v := .int 8) (by rfl) gM ⟨_, rfl⟩)))))) (pss_one (ps_ret pe_bl)) pss_nil)
      (pss_one (ps_ret (Gx.pe_all (own := [("letter", 1)]) (gt := gName 1) (tt := tYes) hr rfl scIsName.nd (by rfl) gA T rfl blkIsName gxsIsName (pi_str (pv 0))
      (fun _ _ _ _ _ _ => pg_name (i := 1) scIsName.nd rfl (.inl rfl)) (fun _ _ _ _ _ _ => pts_nil) (fun _ _ _ _ _ _ => pe_chain op_le_str op_le_str pe_str (pv 1) pe_str))))), ?_⟩
    obtain ⟨t, ty, kt, hl⟩ := hv
    refine ⟨v, rfl, _, _, _, _, _, rfl, .ty _, ty, kit_ty kt, _, rfl, ?_⟩
    cases v with
    | str x =>
      refine iteF ?_
      refine ⟨V.str x, rfl, x, rfl, hl x rfl, 1, _, rfl, rfl, _, rfl, ?_⟩
      by_cases h1 : (1 : Int) ≤ x.length
      · rw [decide_eq_true h1]
        refine iteT ⟨_, _, rfl, rfl, ?_⟩
        refine ⟨decide ((x.length : Int) ≤ 8), rfl, ?_⟩
        by_cases h8 : (x.length : Int) ≤ 8
        · rw [decide_eq_true h8]
          refine iteF ?_
          refine ⟨_, rfl, x, rfl, Gx.gx_text hT (fun i H' => Gr H H' ∧ (x.cps.toList.take i).all small = true) (fun H2 t2 => ⟨Gr.tabbed hT t2, rfl⟩) (fun i c H' Nx nx hc h => ?_) (fun H' h => ?_)⟩
          · obtain ⟨g, hn⟩ := h
            refine ⟨rfl, yesIf ?_⟩
            have e1 : (!decide ((⟨#[c]⟩ : Str).cps.toList < (Str.ofString "a").cps.toList)) = decide (97 ≤ c) := by
              show (!decide ([c] < [97])) = _
              rw [decide_eq_decide.mpr (lt_one c 97)]
              by_cases z : 97 ≤ c
              · rw [decide_eq_true z, decide_eq_false (by omega)]; rfl
              · rw [decide_eq_false z, decide_eq_true (by omega)]; rfl
            have e2 : (!decide ((Str.ofString "z").cps.toList < (⟨#[c]⟩ : Str).cps.toList)) = decide (c ≤ 122) := by
              show (!decide ([122] < [c])) = _
              rw [decide_eq_decide.mpr (lt_one 122 c)]
              by_cases z : c ≤ 122
              · rw [decide_eq_true z, decide_eq_false (by omega)]; rfl
              · rw [decide_eq_false z, decide_eq_true (by omega)]; rfl
            have bad : small c = false → Q (.bl false) H' := by
              intro z
              have hq := q H' g
              rw [show nmV (V.str x) = false by
                show isNm x = false
                unfold isNm
                rw [show x.cps.toList.all small = false from List.all_eq_false.mpr ⟨c, List.mem_of_getElem? hc, by rw [z]; exact Bool.false_ne_true⟩]
                simp] at hq
              exact hq
            refine ⟨_, rfl, _, _, rfl, rfl, _, rfl, ?_⟩
            rw [e1]
            by_cases z1 : 97 ≤ c
            · rw [decide_eq_true z1]
              refine iteT ⟨_, _, rfl, rfl, _, rfl, fun e => bad ?_, fun e => nx _ ⟨g, ?_⟩⟩
              · rw [e2] at e
                unfold small
                rw [e, Bool.and_false]
              · rw [e2] at e
                have e : decide (c ≤ 122) = true := by simpa using e
                rw [List.take_add_one, hc, List.all_append, hn]
                show (true && ([c].all small)) = true
                rw [List.all_cons, List.all_nil]
                unfold small
                rw [decide_eq_true z1, e]
                rfl
            · rw [decide_eq_false z1]
              refine iteF ⟨_, rfl, fun _ => bad ?_, fun e => absurd rfl e⟩
              unfold small
              rw [decide_eq_false z1, Bool.false_and]
          · have hq := q H' h.1
            have hn := h.2
            rw [List.take_length] at hn
            rw [show nmV (V.str x) = true by
              show isNm x = true
              unfold isNm
              rw [hn, decide_eq_true (show 1 ≤ x.length by omega), decide_eq_true (show x.length ≤ 8 by omega)]
              rfl] at hq
            exact hq
        · rw [decide_eq_false h8]
          refine iteT ?_
          have hq := q H (Gr.refl H)
          rw [show nmV (V.str x) = false by
            show isNm x = false
            unfold isNm
            rw [decide_eq_false (show ¬ x.length ≤ 8 by omega)]
            simp] at hq
          exact hq
      · rw [decide_eq_false h1]
        refine iteF ⟨false, rfl, ?_⟩
        refine iteT ?_
        have hq := q H (Gr.refl H)
        rw [show nmV (V.str x) = false by
          show isNm x = false
          unfold isNm
          rw [decide_eq_false (show ¬ 1 ≤ x.length by omega)]
          simp] at hq
        exact hq
    | _ => exact q H (Gr.refl H)
end
end K1
namespace K1
open PySem PySem.Spec PyProof.Rows L2 Gr GxR Srx Skx
open PySem.W (dataLe dataLt DatumOrd Datum)
section
variable {P : Program} {w : World} {K : PySem.W.Frag} {mg : Str → Option Value} {base : Heap} {f fR : Addr} {fd fdR : FuncData} {p : He.Defn}
theorem scRanked : FnScope ["sets", "one"] ["sets"] (defScope sRanked) := ⟨rfl, rfl, rfl, by decide +kernel, rfl, by decide +kernel, by decide +kernel⟩
theorem ok_ranked (F : FnP K "ranked" sRanked f fd) (FR : FnP K "_rank" sRank fR fdR) (gR : mg "_rank" = some (.ref fR)) (gS : mg "sorted" = none) (gLi : mg "list" = none) (gL : mg "len" = none) : FnOk P w K mg base CX0 4 f fd ["sets"] (spRanked K) := by
  have GR : FnOk P w K mg base CX0 1 fR fdR ["one"] (spRank K) := ok_rank FR gL
  have bR : Binds K fdR ["one"] [] := FR.bindsN fun _ _ _ _ _ _ us hl => match us, hl with | [_], _ => rfl
  refine F.ok scRanked (fun vs H Q E h => ?_) (fun cdv A outer s H vs Q E hr h => ?_)
  · obtain ⟨a, ps0, rfl, _⟩ := h
    rfl
  · obtain ⟨a, ps0, rfl, hA, hin, few, q⟩ := h
    refine ⟨_, PSs.nox (pss_one (ps_ret (pe_callBK (ks := ["key"]) (cr_sortedKey ordRk GR bR hr) (by rfl) gS boot_sorted
      (pa_cons (pe_lc (own := [("one", 1)]) (g := gName 1) (tt := tYes) rfl scRanked.nd (pi_list (pv 0)) (blkOk_by (N := ["sets", "one"]) (sc := defScope sRanked) (by decide +kernel)) (fun _ _ _ _ _ => pg_name (i := 1) scRanked.nd rfl (.inl rfl)) (fun _ _ _ _ _ => pts_nil)
        (fun _ _ _ _ _ => pe_callTy (r := rListOf K) call_list_of (by rfl) gLi boot_list (pa_cons (pv 1) pa_nil))) pa_nil)
      (pk_cons (pe_glob (v := .ref fR) (by rfl) gR rfl) pk_nil)))), ?_⟩
    refine ⟨_, rfl, a, rfl, ⟨_, hA⟩, fun D hD => lc_fresh (fun x => x) hA few (Gr.refl H) hD (fun v => rfl) (fun q0 hq0 H4 Q' g4 h4 => ?_) fun H2 ps g2 T e => ?_⟩
    · refine ⟨_, rfl, q0.1, q0.2.map V.str, rfl, (hin q0 hq0).gr g4, h4⟩
    · refine ⟨D, ps.map fun q => (V.ref q.1, q.2), rfl, rfl, ?_, fun b hb => ?_, fun H3 r g3 hr3 => ?_⟩
      · rw [List.map_map]
        exact .inl (.inl T.at_)
      · obtain ⟨q0, hq0, rfl⟩ := List.mem_map.mp hb
        intro H3 g3 Q' hQ
        exact ⟨q0.1, q0.2, rfl, .inl (.inl (g3.lst (T.own q0 hq0).2.2)), fun v H' g' d => hQ v H' g' d⟩
      · have eq1 : (ps.map fun q => (V.ref q.1, q.2)).mergeSort (dataLe false fun b => rk b.2) = (ps.mergeSort fun a b => leR a.2 b.2).map fun q => (V.ref q.1, q.2) := by
          rw [List.map_mergeSort]
          intro a _ b _
          rfl
        have eq2 : (ps.mergeSort fun a b => leR a.2 b.2).map (·.2) = rkd (ps.map (·.2)) := by
          unfold rkd
          rw [List.map_mergeSort]
          intro a _ b _
          rfl
        rw [eq1, List.map_map]
        have T3 := T.gr g3
        have pm : (ps.mergeSort fun a b => leR a.2 b.2).Perm ps := List.mergeSort_perm _ _
        refine q r _ (ps.mergeSort fun a b => leR a.2 b.2) (g2.trans g3 |>.mut ?_) ⟨?_, upd_same, fun q0 hq0 => ?_, ?_⟩ ?_
        · exact (g2.trans g3).free hr3
        · exact (g2.trans g3).free hr3
        · obtain ⟨h1, h2, h3⟩ := T3.own q0 (pm.mem_iff.mp hq0)
          have nr : q0.1 ≠ r := ne_of_none h3 hr3
          refine ⟨h1, nr, ?_⟩
          rw [upd_ne nr]
          exact h3
        · exact ((pm.map (·.1)).nodup_iff).mpr T.nd
        · rw [eq2, e]
end
end K1
namespace K1
open PySem PySem.Spec PyProof.Rows L2 Gr GxR Srx Skx Dcx
section
variable {P : Program} {w : World} {K : PySem.W.Frag} {mg : Str → Option Value} {base : Heap} {f fR fO : Addr} {fd fdR fdO fdW : FuncData} {p pW : He.Defn}
abbrev nLeast : List Str := ["sets", "once", "kept", "one", "least"]
theorem scLeast : FnScope nLeast ["sets"] (defScope sLeast) := ⟨rfl, rfl, rfl, by decide +kernel, rfl, by decide +kernel, by decide +kernel⟩
theorem ok_least (F : FunD K "least_of" "least_of" (defArgs sLeast) (defBody sLeast) (defScope sLeast) [] [] (He.fAd K p) fd) (T : Tb K base mg p) (GR : FnOk P w K mg base CX0 4 fR fdR ["sets"] (spRanked K)) (bR : Binds K fdR ["sets"] []) (kR : PySem.W.keepIn K (.ref fR) = true) (gR : mg "ranked" = some (.ref fR))
    (GO : FnOk P w K mg base CX0 1 fO fdO ["names"] (spOnce K)) (bO : Binds K fdO ["names"] []) (kO : PySem.W.keepIn K (.ref fO) = true) (gO : mg "_once_each" = some (.ref fO))
    (GW : FnOk P w K mg base CX0 1 (He.fAd K pW) fdW ["one", "other"] (spWithin K (He.cT K pW).2)) (bW : Binds K fdW ["one", "other"] []) (kW : PySem.W.keepIn K (.ref (He.fAd K pW)) = true) (gW : mg "within" = some (.ref (He.fAd K pW)))
    (gA : mg "any" = none) (gT : mg "tuple" = none) (gLi : mg "list" = none) : FnOk P w K mg base CX0 5 (He.fAd K p) fd ["sets"] (spLeast K (He.cT K p).2 (He.cT K pW).2) := by
  refine okC F scLeast (fun vs H Q E h => ?_) (fun A outer s H vs Q E hr h => ?_)
  · obtain ⟨a, ps0, rfl, _⟩ := h
    rfl
  · obtain ⟨a, ps0, rfl, hA, hin, few, hT, hT2, q⟩ := h
    refine ⟨_, PSs.nox (pss_cons (ps_setDt (i := 1) (own := [("one", 3)]) (g := gName 3) (tt := tYes) (hu_of hr) rfl scLeast.nd rfl rfl (swd_true rfl rfl rfl (by decide +kernel)) (pi_list (pv 0)) (blkOk_by (N := nLeast) (sc := defScope sLeast) (by decide +kernel))
        (fun _ _ _ _ _ => pg_name (i := 3) scLeast.nd rfl (.inl rfl)) (fun _ _ _ _ _ => pts_nil)
        (fun _ _ _ _ _ => pe_callTy (r := rTupOf K) call_tuple_of (by rfl) gT boot_tuple (pa_cons (pe_call GO (hr.mono (by decide)) (by rfl) gO kO bO .nil pass0 (pa_cons (pv 3) pa_nil)) pa_nil)) (fun _ _ _ _ _ => pe_bl))
      (pss_cons (ps_set (i := 2) scLeast.nd rfl (.inl rfl) (pe_lst pa_nil))
      (pss_cons (ps_for PassesOwn.never rfl (pi_list (pe_call GR hr (by rfl) gR kR bR .nil pass0 (pa_cons (pe_callTy (call_list_dT rfl) (by rfl) gLi boot_list (pa_cons (pv 1) pa_nil)) pa_nil))) (pg_name (i := 3) scLeast.nd rfl (.inr rfl))
        (pss_one (ps_if (pt_not (pt_val (Gx.pe_any (own := [("least", 4)]) (gt := gName 4) (tt := tYes) hr rfl scLeast.nd (by rfl) gA T rfl (blkOk_by (N := nLeast) (sc := defScope sLeast) (by decide +kernel)) (Gx.gxs_by (by decide +kernel)) (pi_list (pv 2))
            (fun _ _ _ _ _ _ => pg_name (i := 4) scLeast.nd rfl (.inl rfl)) (fun _ _ _ _ _ _ => pts_nil) (fun _ _ _ _ _ _ => pe_call GW ((Gx.room_gx hr _).mono (by decide)) (by rfl) gW kW bW .nil pass0 (pa_cons (pv 4) (pa_cons (pv 3) pa_nil))))))
          (pss_one (ps_expr (pe_bm PySem.F.plainAttrs_list PySem.F.slot_list_append PySem.F.type_list_append mt_append (pv 2) (pa_cons (pv 3) pa_nil)))) pss_nil)))
      (pss_one (ps_ret (pv 2)))))), ?_⟩
    refine ⟨_, rfl, a, rfl, ⟨_, hA⟩, fun D hD => dt_list (K := K) (xs := ps0.map fun q : Addr × List Str => V.ref q.1) (fun i H2 => Gr H H2 ∧ H2 D = some (.dT (kvT (ddG (((ps0.take i).map (·.2)).map once))))) ⟨Gr.new hD, upd_same⟩ (fun i H2 _ h => h.1.seq hA) (fun i x H2 Nx nx hx h => ?_) (fun H2 h => ?_)⟩
    · obtain ⟨g2, eD⟩ := h
      obtain ⟨q0, hq0, rfl⟩ := get_map hx
      obtain ⟨hl, hz⟩ := hin q0 (List.mem_of_getElem? hq0)
      refine ⟨rfl, yesIf ?_⟩
      refine ⟨_, rfl, q0.1, q0.2, rfl, g2.seq hl, hz, fun o H3 g3 no eo => ?_⟩
      refine ⟨o, (once q0.2).map V.str, rfl, .inl ⟨.inl (.inl eo), fun t ht => ?_⟩⟩
      have eD3 : H3 D = some (.dT (kvT (ddG (((ps0.take i).map (·.2)).map once)))) := g3.at_ _ _ eD (fun _ z => nomatch z)
      refine ⟨kvT (ddG (((ps0.take i).map (·.2)).map once)), (once q0.2).map Sum.inr, t, rfl, ?_, ?_, ?_, nx _ ⟨?_, ?_⟩⟩
      · rw [upd_same, kV_inr]
      · rw [upd_ne (ne_of_none eD3 ht)]
        exact eD3
      · unfold kvT
        rw [List.length_map]
        have h1 := ddG_len (((ps0.take i).map (·.2)).map once)
        rw [List.length_map, List.length_map, List.length_take] at h1
        have := small60 (n := 60000) (by omega)
        omega
      · exact ((g2.trans g3).trans (Gr.new ht)).mut hD
      · rw [upd_same, put_once, take_map hq0, List.map_append]
        rw [show (List.map once ((ps0.take i).map (·.2)) ++ List.map once [q0.2]) = (((ps0.take i).map (·.2)).map once) ++ [once q0.2] from rfl, ddG_snoc]
    · obtain ⟨g2, eD⟩ := h
      rw [List.length_map, List.take_length] at eD
      -- kept = []
      refine ⟨Nat.zero_le _, fun Kp nK => ?_⟩
      have nKH : H Kp = none := g2.free nK
      have g3 : Gr H (upd H2 Kp (.lst [])) := g2.mut nKH
      have eK : (upd H2 Kp (.lst [])) Kp = some (.lst []) := upd_same
      have eD3 : (upd H2 Kp (.lst [])) D = some (.dT (kvT (ddG ((ps0.map (·.2)).map once)))) := by
        rw [upd_ne (ne_of_none eD nK)]
        exact eD
      generalize upd H2 Kp (.lst []) = H3 at g3 eK eD3
      refine ⟨_, rfl, D, _, rfl, .inl eD3, fun l bs nl hk => ?_⟩
      obtain ⟨ps1, e1, e2, e3⟩ := keys_ps hk
      have g4 : Gr H3 (upd H3 l (.lst (bs.map V.ref))) := Gr.new nl
      rw [e1] at g4 ⊢
      have hlen1 : ps1.length ≤ 60000 := by
        have h1 := ddG_len ((ps0.map (·.2)).map once)
        rw [← e2, List.length_map, List.length_map, List.length_map] at h1
        omega
      refine ⟨l, ps1, rfl, .inl (.inl upd_same), fun q0 hq0 => .inr (.inl (.inl (g4.tup (e3 q0 hq0)))), small60 hlen1, fun r H5 ps g5 T5 e5 => ?_⟩
      have g35 : Gr H3 H5 := g4.trans g5
      have T5 : Told H3 H5 r ps := T5.from g4
      have hplen : ps.length ≤ 60000 := by
        have h1 : (ps.map (·.2)).length = (rkd (ps1.map (·.2))).length := congrArg List.length e5
        rw [List.length_map, (rkd_perm _).length_eq, List.length_map] at h1
        omega
      refine ⟨r, rfl, ⟨_, .inl (.inl T5.at_)⟩, for_list (xs := ps.map fun q : Addr × List Str => V.ref q.1) (fun i σ H6 => Gr H H6 ∧ H6 r = some (.lst (ps.map fun q => V.ref q.1)) ∧ (∀ q ∈ ps, H6 q.1 = some (.lst (q.2.map V.str))) ∧ (∃ kps, H6 Kp = some (.lst (kps.map fun q => V.ref q.1)) ∧ List.Sublist kps (ps.take i) ∧ kps.map (·.2) = ((ps.take i).map (·.2)).foldl keep []) ∧
        ∃ v1 v2, σ = [some (.ref a), some (.ref D), some (.ref Kp), v1, v2]) ⟨g3.trans g35, T5.at_, fun q hq => (T5.own q hq).2.2, ⟨[], g35.lst eK, List.Sublist.refl _, rfl⟩, _, _, rfl⟩ (fun i σ H6 _ h => .inl (.inl h.2.1)) (fun i x σ H6 hx h => ?_) (fun σ H6 h => ?_)⟩
      · obtain ⟨g6, er, eo, ⟨kps, ek, sub, em⟩, v1, v2, rfl⟩ := h
        obtain ⟨q0, hq0, rfl⟩ := get_map hx
        have m0 := List.mem_of_getElem? hq0
        have nr : Kp ≠ r := ne_of_none eK T5.new
        have nq : ∀ q ∈ ps, Kp ≠ q.1 := fun q hq => ne_of_none eK (T5.own q hq).1
        have subps : ∀ q ∈ kps, q ∈ ps := fun q hq => List.mem_of_mem_take (sub.subset hq)
        have any_at2 : ∀ {j : Nat} {y : Addr × List Str} , kps[j]? = some y → (kps.take (j + 1)).any (fun q => wi q.2 q0.2) = ((kps.take j).any (fun q => wi q.2 q0.2) || wi y.2 q0.2) := by
          intro j y hy
          rw [List.take_add_one, hy, List.any_append]
          simp
        have anyeq : (kps.map (·.2)).any (fun l => wi l q0.2) = kps.any (fun q => wi q.2 q0.2) := by
          rw [List.any_map]
          rfl
        have fin : ∀ (b : Bool) (H7 : Hp), Gr H6 H7 → kps.any (fun q => wi q.2 q0.2) = b → True := fun _ _ _ _ => trivial
        refine ⟨_, rfl, Kp, rfl, ⟨_, .inl (.inl ek)⟩, Gx.gx_list (K := K) (xs := kps.map fun q : Addr × List Str => V.ref q.1) (g6.tabG hT) (fun j H7 => Gr H6 H7 ∧ (kps.take j).any (fun q => wi q.2 q0.2) = false) (fun H7 t7 => ⟨Gr.tabbed (g6.tabG hT) t7, rfl⟩) (fun j H7 _ h => .inl (.inl (h.1.lst ek))) (fun j x H7 Nx nx hx h => ?_) (fun H7 h => ?_)⟩
        · obtain ⟨g7, hn⟩ := h
          obtain ⟨k0, hk0, rfl⟩ := get_map hx
          have mk := subps k0 (List.mem_of_getElem? hk0)
          refine ⟨rfl, yesIf ?_⟩
          refine ⟨_, rfl, _, rfl, k0.1, q0.1, k0.2, q0.2, rfl, .inl (.inl (g7.lst (eo k0 mk))), .inl (.inl (g7.lst (eo q0 m0))), (g6.trans g7).tabG hT2, fun H8 g8 => ⟨_, rfl, fun e => ?_, fun e => nx _ ⟨g7.trans g8, ?_⟩⟩⟩
          · -- left out
            have e : wi k0.2 q0.2 = true := e
            have g68 := g7.trans g8
            refine ⟨true, rfl, ?_⟩
            refine iteF ⟨g6.trans g68, g68.lst er, fun q hq => g68.lst (eo q hq), ⟨kps, g68.lst ek, sub.trans (List.take_sublist_take_left (Nat.le_succ _)), ?_⟩, _, _, rfl⟩
            rw [take_map hq0, List.foldl_append, ← em]
            refine (if_pos ?_).symm
            rw [anyeq]
            exact List.any_eq_true.mpr ⟨k0, List.mem_of_getElem? hk0, e⟩
          · rw [any_at2 hk0, hn]
            show wi k0.2 q0.2 = false
            exact Bool.eq_false_iff.mpr e
        · -- put
          obtain ⟨g7, hn⟩ := h
          rw [List.length_map, List.take_length] at hn
          have ek7 := g7.lst ek
          refine ⟨false, rfl, ?_⟩
          refine iteT ⟨_, rfl, .inl ⟨rfl, _, .inl (.inl ek7)⟩, _, rfl, Kp, _, _, rfl, rfl, ek7, ?_, ?_⟩
          · rw [List.length_map]
            have h1 := sub.length_le
            have h2 := List.length_take_le i ps
            rw [List.length_take] at h1
            exact Nat.lt_of_le_of_lt h1 (small60 (by omega))
          · refine ⟨(g6.trans g7).mut nKH, ?_, fun q hq => ?_, ⟨kps ++ [q0], ?_, ?_, ?_⟩, _, _, rfl⟩
            · rw [upd_ne nr.symm]
              exact g7.lst er
            · rw [upd_ne (nq q hq).symm]
              exact g7.lst (eo q hq)
            · rw [upd_same, List.map_append]
              rfl
            · rw [List.take_add_one, hq0]
              exact sub.append (List.Sublist.refl _)
            · rw [take_map hq0, List.foldl_append, List.map_append, ← em]
              refine (if_neg ?_).symm
              rw [anyeq, hn]
              exact Bool.false_ne_true
      · obtain ⟨g6, er, eo, ⟨kps, ek, sub, em⟩, v1, v2, rfl⟩ := h
        rw [List.length_map, List.take_length] at sub em
        refine ⟨_, rfl, q Kp H6 kps g6 ⟨nKH, ek, fun q0 hq0 => ?_, ?_⟩ ?_⟩
        · have m0 := sub.subset hq0
          exact ⟨g3.free (T5.own q0 m0).1, (ne_of_none eK (T5.own q0 m0).1).symm, eo q0 m0⟩
        · exact T5.nd.sublist (sub.map _)
        · rw [em, e5, e2]
          rfl
end
end K1
namespace K1
open PySem PySem.Spec PyProof.Rows L2 Gr GxR Srx Skx Dcx
section
variable {P : Program} {w : World} {K : PySem.W.Frag} {mg : Str → Option Value} {base : Heap} {f fO C : Addr} {fd fdO fdI : FuncData} {p pI : He.Defn}
theorem scRising : FnScope ["names", "at", "thing"] ["names"] (defScope sRising) := ⟨rfl, rfl, rfl, by decide +kernel, rfl, by decide +kernel, by decide +kernel⟩
theorem ok_rising (F : FnP K "rising" sRising f fd) (GI : FnOk P w K mg base CX0 1 (He.fAd K pI) fdI ["thing"] (spIsName K (He.cT K pI).2)) (bI : Binds K fdI ["thing"] []) (kI : PySem.W.keepIn K (.ref (He.fAd K pI)) = true) (gI : mg "is_name" = some (.ref (He.fAd K pI)))
    (GO : FnOk P w K mg base CX0 1 fO fdO ["names"] (spOnce K)) (bO : Binds K fdO ["names"] []) (kO : PySem.W.keepIn K (.ref fO) = true) (gO : mg "_once_each" = some (.ref fO)) (EC : ErrC K mg "BadName" C) (gE : mg "enumerate" = none) (gM : ∃ t, mg "MOST_LETTERS" = some (.int 8 t)) :
    FnOk P w K mg base (L2.CX P w) 2 f fd ["names"] (spRising K (He.cT K pI).2 C) := by
  obtain ⟨tM, gM⟩ := gM
  refine F.ok scRising (fun vs H Q E h => ?_) (fun cdv A outer s H vs Q E hr h => ?_)
  · obtain ⟨a, vls, rfl, _⟩ := h
    rfl
  · obtain ⟨a, vls, rfl, hA, hth, few, hT, hq⟩ := h
    refine ⟨_, pss_cons (ps_for (passes_of rfl) rfl (pi_enum (by rfl) gE (pa_cons (pv 0) pa_nil)) (pg_tup rfl (pgs_cons (pg_name (i := 1) scRising.nd rfl (.inl rfl)) (pgs_cons (pg_name (i := 2) scRising.nd rfl (.inl rfl)) pgs_nil)))
        (pss_one (ps_if (pt_not (pt_val (pe_call GI (hr.mono (by decide)) (by rfl) gI kI bI .nil pass0 (pa_cons (pv 2) pa_nil))))
          (pss_one (ps_raise rfl (takes_of rfl rfl rfl rfl) (SkE.pmk_own1 PySem.F.excBase_ValueError EC.xC EC.gC EC.kC (raises_own EC.bC EC.tC) (by rfl) (pe_joined (.cons pe_str (.cons (pe_fmt (pv 1)) (.cons pe_str (.cons (pe_fmt (pe_glob (v := .int 8) (by rfl) gM ⟨_, rfl⟩)) (.cons pe_str .nil))))))))) pss_nil)))
      (pss_one (ps_ret (pe_call GO (hr.mono (by decide)) (by rfl) gO kO bO .nil pass0 (pa_cons (pv 0) pa_nil)))), ?_⟩
    refine ⟨_, rfl, a, vls, rfl, hA, for_enum (xs := vls) (fun i σ H2 => Gr H H2 ∧ (∀ v ∈ vls.take i, nmV v = true) ∧ ∃ v1 v2, σ = [some (.ref a), v1, v2]) ⟨Gr.refl H, fun _ z => absurd z List.not_mem_nil, _, _, rfl⟩ (fun i σ H2 _ h => h.1.seq hA) (fun i x T σ H2 hx h nT => ?_) (fun σ H2 h => ?_)⟩
    · obtain ⟨g2, ok, v1, v2, rfl⟩ := h
      have mx := List.mem_of_getElem? hx
      have hi : i < vls.length := (List.getElem?_eq_some_iff.mp hx).1
      have g3 : Gr H (upd H2 T (.tup [.int (i : Nat), x])) := g2.trans (Gr.new nT)
      refine ⟨T, _, rfl, .inl (.inl upd_same), rfl, _, _, rfl, _, _, rfl, rfl, ?_⟩
      refine ⟨x, rfl, x, rfl, (hth x mx).gr g3, g3.tabG hT, fun H4 g4 => ⟨_, rfl, ?_⟩⟩
      cases e : nmV x with
      | true =>
        refine iteF ⟨g3.trans g4, fun v hv => ?_, _, _, rfl⟩
        rw [List.take_add_one, hx] at hv
        rcases List.mem_append.mp hv with hv | hv
        · exact ok v hv
        · have hv : v = x := by simpa using hv
          rw [hv]; exact e
      | false =>
        refine iteT ?_
        rcases hq with ⟨xs, rfl, all, _⟩ | ⟨_, hE⟩
        · obtain ⟨y, hy, rfl⟩ := get_map hx
          have z := List.all_eq_true.mp all y (List.mem_of_getElem? hy)
          rw [show isNm y = false from e] at z
          cases z
        · have hk : ((Str.ofString (toString ((i : Nat) : Int)))).length ≤ 10 := PySem.W.KT.len_num (by omega) (by omega)
          have hb : (Str.ofString (toString (8 : Int))).length ≤ 10 := PySem.W.KT.len_num (by omega) (by omega)
          have l1 : (Str.empty ++ (Str.ofString "item ")).length ≤ 10 := by decide +kernel
          have l2 := PySem.W.KT.len_app l1 hk
          have l3 := PySem.W.KT.len_app l2 (show (Str.ofString " of the list is not a text of 1 to ").length ≤ 50 by decide +kernel)
          have l4 := PySem.W.KT.len_app l3 hb
          have l5 := PySem.W.KT.len_app l4 (show (Str.ofString " small letters").length ≤ 50 by decide +kernel)
          have big : ∀ n : Nat, n ≤ 200 → n ≤ sizeLine := fun n hn => by rw [sizeLine_eq]; omega
          refine ⟨_, rfl, big _ (by omega), _, rfl, .inr ⟨_, rfl, ?_, _, rfl, big _ (by omega), _, rfl, big _ (by omega), .inr ⟨_, rfl, ?_, _, rfl, big _ (by omega), _, rfl, big _ (by omega), hE _ (g3.trans g4)⟩⟩⟩
          · show ((i : Nat) : Int).natAbs.log2 < 1920
            rw [Int.natAbs_natCast]
            exact Nat.lt_of_le_of_lt (Nat.log2_le_self i) (by omega)
          · decide
    · obtain ⟨g2, ok, v1, v2, rfl⟩ := h
      rw [List.take_length] at ok
      rcases hq with ⟨xs, rfl, all, q⟩ | ⟨⟨v, hv, e⟩, _⟩
      · refine ⟨_, rfl, a, xs, rfl, g2.seq hA, by rw [List.length_map] at few; exact few, fun p H4 g4 np ep => q p H4 (g2.trans g4) (g2.free np) ep⟩
      · rw [ok v hv] at e
        cases e
end
end K1
namespace K1
open PySem PySem.Spec PyProof.Rows L2 Gr GxR Srx Skx Dcx
section
variable {P : Program} {w : World} {K : PySem.W.Frag} {mg : Str → Option Value} {base : Heap} {f : Addr} {fd : FuncData} {p : He.Defn} {T : Addr}
abbrev nRow : List Str := ["_law_names_here", "_law_cell", "_law_found", "_law_bits", "_law_name"]
theorem scRow : FnScope nRow ["_law_names_here", "_law_cell"] (defScope sRow) := ⟨rfl, rfl, rfl, by decide +kernel, rfl, by decide +kernel, by decide +kernel⟩
theorem ok_row (F : FnP K "_law_row" sRow f fd) (gL : mg "len" = none) : FnOk P w K mg base CX0 1 f fd ["_law_names_here", "_law_cell"] (spRow K) := by
  refine F.ok scRow (fun vs H Q E h => ?_) (fun cdv A outer s H vs Q E hr h => ?_)
  · obtain ⟨a, c, ns, rfl, _⟩ := h
    rfl
  · obtain ⟨a, c, ns, rfl, hA, ne, nd, nm, few, q⟩ := h
    refine ⟨_, PSs.nox (pss_cons (ps_set (i := 2) scRow.nd rfl (.inl rfl) (pe_lst pa_nil))
      (pss_cons (ps_set (i := 3) scRow.nd rfl (.inl rfl) (pe_op op_fdiv (pv 1) pe_int))
      (pss_cons (ps_for PassesOwn.never rfl (pi_list (pv 0)) (pg_name (i := 4) scRow.nd rfl (.inl rfl))
        (pss_cons (ps_if (pt_cmpR op_eq (pe_op op_mod (pv 3) pe_int) pe_int (nomark _)) (pss_one (ps_expr (pe_bm PySem.F.plainAttrs_list PySem.F.slot_list_append PySem.F.type_list_append mt_append (pv 2) (pa_cons (pv 4) pa_nil)))) pss_nil)
        (pss_one (ps_set (i := 3) scRow.nd rfl (.inl rfl) (pe_op op_fdiv (pv 3) pe_int)))))
      (pss_cons (ps_if (PW.pt (pw_and (pt_cmpR (op_eqD (hu64 hr)) (pv 2) (pe_lst pa_nil) (nomark _)) (pw_and1 (pt_cmpR op_gt (pe_op op_mod (pv 1) pe_int) pe_int (nomark _)))))
        (pss_one (ps_set (i := 2) scRow.nd rfl (.inl rfl) (pe_lst (pa_cons (pe_ix ix_list (pv 0) (pe_op op_mod (pv 1) (pe_callB call_len_seq (by rfl) gL boot_len (pa_cons (pv 0) pa_nil))) (fun _ _ => rfl)) pa_nil)))) pss_nil)
      (pss_one (ps_ret (pe_ifExp (pt_cmpR op_eq (pe_op op_mod (pv 1) pe_int) pe_int (nomark _)) (pe_revL (pv 2)) (pv 2)))))))), ?_⟩
    refine ⟨Nat.zero_le _, fun Fp nF => ?_⟩
    refine ⟨_, rfl, _, _, rfl, rfl, ⟨by decide, by decide⟩, ?_⟩
    have g0 : Gr H (upd H Fp (.lst [])) := Gr.new nF
    refine ⟨_, rfl, a, rfl, ⟨_, g0.seq hA⟩, for_list (K := K) (xs := ns.map V.str) (fun i σ H2 => ∃ (ys : List Str) (b : Int) (v : Option V), Gr H H2 ∧ H2 Fp = some (.lst (ys.map V.str)) ∧ List.Sublist ys (ns.take i) ∧ σ = [some (.ref a), some (.int c), some (.ref Fp), some (.int b), v]) ⟨[], _, _, g0, upd_same, List.Sublist.refl _, rfl⟩ (fun i σ H2 _ h => ?_) (fun i x σ H2 hx h => ?_) (fun σ H2 h => ?_)⟩
    · obtain ⟨ys, b, v, g, _⟩ := h
      exact g.seq hA
    · obtain ⟨ys, b, v, g, e, sub, rfl⟩ := h
      obtain ⟨x, hx2, rfl⟩ := get_map hx
      refine ⟨_, rfl, _, _, rfl, rfl, (by show (0 : Int) < 2; decide), rfl, _, rfl, ite2 (fun _ => ?_) (fun _ => ?_)⟩
      · refine ⟨_, rfl, .inl ⟨rfl, _, .inl (.inl e)⟩, _, rfl, Fp, _, _, rfl, rfl, e, ?_, ?_⟩
        · rw [List.length_map]
          have h1 := sub.length_le
          rw [List.length_take] at h1
          exact Nat.lt_of_le_of_lt h1 (small1000 (by omega))
        · refine ⟨_, rfl, _, _, rfl, rfl, ⟨by decide, by decide⟩, ys ++ [x], _, _, g.mut nF, ?_, ?_, rfl⟩
          · rw [upd_same, List.map_append]
            rfl
          · rw [List.take_add_one, hx2]
            exact sub.append (List.Sublist.refl _)
      · exact ⟨_, rfl, _, _, rfl, rfl, ⟨by decide, by decide⟩, ys, _, _, g, e, sub.trans (List.take_sublist_take_left (Nat.le_succ _)), rfl⟩
    · obtain ⟨ys, b, v, g, e, sub, rfl⟩ := h
      rw [List.length_map, List.take_length] at sub
      have nd1 : ys.Nodup := nd.sublist sub
      have mem1 : ∀ y ∈ ys, y ∈ ns := fun y hy => sub.subset hy
      have ln1 : ys.length ≤ ns.length := sub.length_le
      refine ⟨_, rfl, Nat.zero_le _, fun e1 ne1 => ?_⟩
      have g1 : Gr H (upd H2 e1 (.lst [])) := g.trans (Gr.new ne1)
      have e0 : (upd H2 e1 (.lst [])) Fp = some (.lst (ys.map V.str)) := (Gr.new ne1).lst e
      refine ⟨dS ys, dS [], dp_dS (.inl (.inl e0)), dp_dS (.inl (.inl upd_same)), shaped_dS (fun x hx => nm x (mem1 x hx)), shaped_dS (fun _ z => absurd z List.not_mem_nil), _, rfl, ?_⟩
      · generalize PyData.eqv (dS ys) (dS []) = b1
        generalize upd H2 e1 (.lst []) = H3 at g1 e0
        have e1 := e0
        cases b1 with
        | false =>
          refine iteF ?_
          refine ⟨_, rfl, _, _, rfl, rfl, (by show (0 : Int) < 2; decide), rfl, _, rfl, ite2 (fun _ => ⟨_, rfl, _, _, rfl, .inl (.inl e1), fun r nr => q r _ (ys).reverse (g1.trans (Gr.new nr)) (g1.free nr) (by rw [upd_same, ← List.map_reverse]) ((List.reverse_perm _).nodup_iff.mpr nd1) (fun y hy => mem1 y (List.mem_reverse.mp hy)) (by rw [List.length_reverse]; exact ln1)⟩) (fun _ => ⟨_, rfl, q _ _ (ys) g1 nF e1 nd1 mem1 ln1⟩)⟩
        | true =>
          refine iteT ⟨_, rfl, _, _, rfl, rfl, (by show (0 : Int) < 4; decide), _, _, rfl, rfl, _, rfl, ?_⟩
          refine ite2 (fun _ => ?_) (fun _ => ?_)
          · have hlen : 0 < ns.length := List.length_pos_iff.mpr ne
            obtain ⟨v, hv, mv⟩ := atI_mod (xs := ns.map V.str) (c := c) (n := ns.length) (List.length_map ..) hlen
            obtain ⟨x, mx, rfl⟩ := List.mem_map.mp mv
            refine ⟨_, rfl, _, rfl, _, rfl, a, _, rfl, .inl (g1.seq hA), _, _, rfl, rfl, ?_, a, _, _, V.str x, rfl, rfl, g1.seq hA, ?_, (show 1 ≤ sizeLine by rw [sizeLine_eq]; omega), fun l nl => ?_⟩
            · show (0 : Int) < _
              rw [List.length_map]
              omega
            · rw [List.length_map]
              exact hv
            · have g2 : Gr H (upd H3 l (.lst [V.str x])) := g1.trans (Gr.new nl)
              have nl2 := g1.free nl
              have upd_same2 : (upd H3 l (.lst [V.str x])) l = some (.lst ([x].map V.str)) := upd_same
              have nd2 : [x].Nodup := by simp
              have mem2 : ∀ y ∈ [x], y ∈ ns := fun y hy => by
                have hy : y = x := by simpa using hy
                rw [hy]; exact mx
              have ln2 : [x].length ≤ ns.length := hlen
              refine ⟨_, rfl, _, _, rfl, rfl, (by show (0 : Int) < 2; decide), rfl, _, rfl, ite2 (fun _ => ⟨_, rfl, _, _, rfl, .inl (.inl upd_same2), fun r nr => q r _ ([x]).reverse (g2.trans (Gr.new nr)) (g2.free nr) (by rw [upd_same, ← List.map_reverse]) ((List.reverse_perm _).nodup_iff.mpr nd2) (fun y hy => mem2 y (List.mem_reverse.mp hy)) (by rw [List.length_reverse]; exact ln2)⟩) (fun _ => ⟨_, rfl, q _ _ ([x]) g2 nl2 upd_same2 nd2 mem2 ln2⟩)⟩
          · refine ⟨_, rfl, _, _, rfl, rfl, (by show (0 : Int) < 2; decide), rfl, _, rfl, ite2 (fun _ => ⟨_, rfl, _, _, rfl, .inl (.inl e1), fun r nr => q r _ (ys).reverse (g1.trans (Gr.new nr)) (g1.free nr) (by rw [upd_same, ← List.map_reverse]) ((List.reverse_perm _).nodup_iff.mpr nd1) (fun y hy => mem1 y (List.mem_reverse.mp hy)) (by rw [List.length_reverse]; exact ln1)⟩) (fun _ => ⟨_, rfl, q _ _ (ys) g1 nF e1 nd1 mem1 ln1⟩)⟩
end
end K1
namespace K1
open PySem PySem.Spec PyProof.Rows L2 Gr GxR Srx Skx Dcx
section
variable {P : Program} {w : World} {K : PySem.W.Frag} {mg : Str → Option Value} {base : Heap} {f fD : Addr} {fd fdD : FuncData} {p : He.Defn} {T T2 : Addr}
abbrev nNames : List Str := ["_law_script", "_law_letters", "_law_cell", "_law_many", "_law_turned", "_law_size", "_law_base", "_law_at", "_law_k", "_law_j"]
theorem scNames : FnScope nNames ["_law_script"] (defScope sNames) := ⟨rfl, rfl, rfl, by decide +kernel, rfl, by decide +kernel, by decide +kernel⟩
theorem ok_names (F : FnP K "_law_names" sNames f fd) (GD : FnOk P w K mg base CX0 1 fD fdD ["_law_script", "_law_k"] (spDraw K)) (bD : Binds K fdD ["_law_script", "_law_k"] []) (kD : PySem.W.keepIn K (.ref fD) = true) (gD : mg "_law_draw" = some (.ref fD)) (gR : mg "range" = none) :
    FnOk P w K mg base CX0 2 f fd ["_law_script"] (spNames K) := by
  refine F.ok scNames (fun vs H Q E h => ?_) (fun cdv A outer s H vs Q E hr h => ?_)
  · obtain ⟨a, ns, rfl, _⟩ := h
    rfl
  · obtain ⟨a, ns, rfl, hS, q⟩ := h
    refine ⟨_, PSs.nox (pss_cons (ps_set (i := 1) scNames.nd rfl (.inr rfl) pe_str)
      (pss_cons (ps_set (i := 2) scNames.nd rfl (.inr rfl) (pe_call GD hr (by rfl) gD kD bD .nil pass0 (pa_cons (pv 0) (pa_cons pe_int pa_nil))))
      (pss_cons (ps_set (i := 3) scNames.nd rfl (.inl rfl) (pe_op op_add pe_int (pe_op op_mod (pv 2) pe_int)))
      (pss_cons (ps_if (pt_cmpR op_eq (pe_op op_mod (pe_op op_fdiv (pv 2) pe_int) pe_int) pe_int (nomark _))
        (pss_one (ps_ret (pe_lc (own := [("_law_k", 8)]) (g := gName 8) (tt := tYes) rfl scNames.nd (pi_range1 (by rfl) gR (pa_cons (pv 3) pa_nil)) (blkOk_by (N := nNames) (sc := defScope sNames) (by decide +kernel)) (fun _ _ _ _ _ => pg_name (i := 8) scNames.nd rfl (.inl rfl)) (fun _ _ _ _ _ => pts_nil)
          (fun _ _ _ _ _ => pe_slice C8.sl_txt (pe_slice C8.sl_txt (pv 1) (po_some (pe_op op_mod (pe_op op_fdiv (pv 2) pe_int) pe_int)) po_none) po_none (po_some (pe_op op_add (pv 8) pe_int)))))) pss_nil)
      (pss_cons (ps_if (pt_cmpR op_eq (pe_op op_mod (pe_op op_fdiv (pv 2) pe_int) pe_int) pe_int (nomark _))
        (pss_cons (ps_set (i := 4) scNames.nd rfl (.inr rfl) (pe_slice C8.sl_txt (pe_slice C8.sl_txt (pv 1) (po_some (pe_op op_mod (pe_op op_fdiv (pv 2) pe_int) pe_int)) po_none) po_none (po_some pe_int)))
        (pss_one (ps_ret (pe_lc (own := [("_law_k", 8)]) (g := gName 8) (tt := tYes) rfl scNames.nd (pi_range1 (by rfl) gR (pa_cons (pv 3) pa_nil)) (blkOk_by (N := nNames) (sc := defScope sNames) (by decide +kernel)) (fun _ _ _ _ _ => pg_name (i := 8) scNames.nd rfl (.inl rfl)) (fun _ _ _ _ _ => pts_nil)
          (fun _ _ _ _ _ => pe_op op_add_str (pe_slice C8.sl_txt (pv 4) (po_some (pv 8)) po_none) (pe_slice C8.sl_txt (pv 4) po_none (po_some (pv 8)))))))) pss_nil)
      (pss_cons (ps_set (i := 5) scNames.nd rfl (.inl rfl) (pe_op op_mod (pe_op op_fdiv (pv 2) pe_int) pe_int))
      (pss_cons (ps_set (i := 6) scNames.nd rfl (.inr rfl) (pe_join pe_str (pe_lc (own := [("_law_j", 9)]) (g := gName 9) (tt := tYes) rfl scNames.nd (pi_range1 (by rfl) gR (pa_cons (pv 5) pa_nil)) (blkOk_by (N := nNames) (sc := defScope sNames) (by decide +kernel)) (fun _ _ _ _ _ => pg_name (i := 9) scNames.nd rfl (.inl rfl)) (fun _ _ _ _ _ => pts_nil)
          (fun _ _ _ _ _ => pe_ix ix_str (pv 1) (pe_op op_mod (pe_op op_add (pe_op op_fdiv (pv 2) pe_int) (pe_op op_mul pe_int (pv 9))) pe_int) (fun _ _ => rfl)))))
      (pss_cons (ps_set (i := 7) scNames.nd rfl (.inr rfl) (pe_op op_mod (pe_op op_fdiv (pv 2) pe_int) (pe_op op_add (pv 5) pe_int)))
      (pss_one (ps_ret (pe_lc (own := [("_law_k", 8)]) (g := gName 8) (tt := tYes) rfl scNames.nd (pi_range1 (by rfl) gR (pa_cons (pv 3) pa_nil)) (blkOk_by (N := nNames) (sc := defScope sNames) (by decide +kernel)) (fun _ _ _ _ _ => pg_name (i := 8) scNames.nd rfl (.inl rfl)) (fun _ _ _ _ _ => pts_nil)
          (fun _ _ _ _ _ => pe_op op_add_str (pe_op op_add_str (pe_slice C8.sl_txt (pv 6) po_none (po_some (pv 7))) (pe_ix ix_str (pv 1) (pe_op op_mod (pe_op op_add (pe_op op_fdiv (pv 2) pe_int) (pe_op op_mul pe_int (pv 8))) pe_int) (fun _ _ => rfl))) (pe_slice C8.sl_txt (pv 6) (po_some (pv 7)) po_none))))))))))))), ?_⟩
    refine ⟨_, rfl, a, ns, 0, rfl, hS, ?_⟩
    generalize ns.getD 0 0 = c at q ⊢
    obtain ⟨m1, m7⟩ := many_lt c
    have big : ∀ x : Str, x.length ≤ 100 → x.length ≤ sizeLine := fun x h => by rw [sizeLine_eq]; omega
    have Lbig : (Str.ofString "abcdefghijklmnopqrstuvwxyz").length ≤ sizeLine := big _ (by decide +kernel)
    have d0 : 0 ≤ c / 28 % 18 := Int.emod_nonneg _ (by omega)
    have d1 : c / 28 % 18 < 18 := Int.emod_lt_of_pos _ (by omega)
    refine ⟨_, rfl, _, _, rfl, rfl, (by show (0 : Int) < 7; decide), _, _, rfl, rfl, ?_⟩
    refine ⟨_, rfl, _, _, rfl, rfl, ⟨by decide, by decide⟩, _, _, rfl, rfl, (by show (0 : Int) < 4; decide), rfl, _, rfl, ite2 (fun h1 => ?_) (fun h1 => ?_)⟩
    · have h1 : V.int (c / 7 % 4) = V.int 1 := of_decide_eq_true h1
      injection h1 with h1
      refine ⟨_, rfl, _, rfl, ?_, ?_, fun D hD => lc_texts (H := H) (n := many c) (nm1 (c / 28 % 18).toNat) (by omega) (Gr.refl H) hD (fun v => rfl) (fun k H4 Q' hk hq => ?_) (fun H2 g2 e2 => ?_)⟩
      · show -(2 ^ 62) ≤ 1 + c % 7
        omega
      · show 1 + c % 7 < 2 ^ 62
        omega
      · refine ⟨_, rfl, _, rfl, _, _, rfl, rfl, ⟨by decide, by decide⟩, _, _, rfl, rfl, (by show (0 : Int) < 18; decide), _, rfl, ?_⟩
        refine ⟨_, rfl, Lbig, _, rfl, _, _, rfl, rfl, _, rfl, _, rfl, ?_, ?_⟩
        · rw [letters_eq, SX.slice_from d0]
          exact big _ (by rw [SX.S_len, List.length_drop, L0_len]; omega)
        · rw [letters_eq, SX.slice_from d0, SX.slice_to (show (0 : Int) ≤ 0 + (k : Nat) + 1 by omega)]
          rw [show ((0 : Int) + (k : Nat) + 1).toNat = k + 1 by omega]
          exact hq
      · refine q D H2 g2 hD ?_
        rw [e2]
        unfold names
        rw [if_pos h1]
    · have h1 : ¬ c / 7 % 4 = 1 := fun z => h1 (decide_eq_true (congrArg V.int z))
      refine ⟨_, rfl, _, _, rfl, rfl, ⟨by decide, by decide⟩, _, _, rfl, rfl, (by show (0 : Int) < 4; decide), rfl, _, rfl, ite2 (fun h2 => ?_) (fun h2 => ?_)⟩
      · have h2 : V.int (c / 7 % 4) = V.int 2 := of_decide_eq_true h2
        injection h2 with h2
        have e0 : Txt.slice (Txt.slice (Str.ofString "abcdefghijklmnopqrstuvwxyz") (some (c / 28 % 18)) none) none (some 8) = SX.S (turned (c / 28 % 18).toNat) := by
          rw [letters_eq, SX.slice_from d0, SX.slice_to (by decide)]
          rfl
        have tl : (turned (c / 28 % 18).toNat).length ≤ 8 := by
          unfold turned
          rw [List.length_take]; omega
        refine ⟨_, rfl, _, rfl, _, _, rfl, rfl, ⟨by decide, by decide⟩, _, _, rfl, rfl, (by show (0 : Int) < 18; decide), _, rfl, ?_⟩
        refine ⟨_, rfl, Lbig, _, rfl, _, rfl, ?_, ?_⟩
        · rw [letters_eq, SX.slice_from d0]
          exact big _ (by rw [SX.S_len, List.length_drop, L0_len]; omega)
        rw [e0]
        refine ⟨_, rfl, _, rfl, ?_, ?_, fun D hD => lc_texts (H := H) (n := many c) (nm2 (c / 28 % 18).toNat) (by omega) (Gr.refl H) hD (fun v => rfl) (fun k H4 Q' hk hq => ?_) (fun H2 g2 e2 => ?_)⟩
        · show -(2 ^ 62) ≤ 1 + c % 7
          omega
        · show 1 + c % 7 < 2 ^ 62
          omega
        · have k0 : (0 : Int) ≤ 0 + (k : Nat) := by omega
          have kk : ((0 : Int) + (k : Nat)).toNat = k := by omega
          have tb : (SX.S (turned (c / 28 % 18).toNat)).length ≤ sizeLine := big _ (by rw [SX.S_len]; omega)
          refine ⟨_, rfl, _, rfl, _, rfl, _, rfl, tb, _, rfl, _, rfl, _, rfl, _, rfl, tb, _, _, rfl, rfl, ?_, ?_⟩
          · rw [SX.slice_from k0, SX.slice_to k0, SX.S_len, SX.S_len, List.length_drop, List.length_take, sizeLine_eq]
            omega
          · rw [SX.slice_from k0, SX.slice_to k0, SX.S_cat, kk]
            exact hq
        · refine q D H2 g2 hD ?_
          rw [e2]
          unfold names
          rw [if_neg h1, if_pos h2]
      · have h2 : ¬ c / 7 % 4 = 2 := fun z => h2 (decide_eq_true (congrArg V.int z))
        have s0 : 0 ≤ c / 28 % 8 := Int.emod_nonneg _ (by omega)
        have s1 : c / 28 % 8 < 8 := Int.emod_lt_of_pos _ (by omega)
        have a0 : 0 ≤ c / 7 % (c / 28 % 8 + 1) := Int.emod_nonneg _ (by omega)
        have a1 : c / 7 % (c / 28 % 8 + 1) < c / 28 % 8 + 1 := Int.emod_lt_of_pos _ (by omega)
        -- size
        refine ⟨_, rfl, _, _, rfl, rfl, ⟨by decide, by decide⟩, _, _, rfl, rfl, (by show (0 : Int) < 8; decide), ?_⟩
        -- base
        refine ⟨⟨_, rfl⟩, _, rfl, _, rfl, ?_, ?_, fun D hD => lc_texts (H := H) (n := (c / 28 % 8).toNat) (fun j => SX.S [let_ (c / 224 + 5 * (j : Int))]) (by omega) (Gr.refl H) hD (fun v => rfl) (fun k H4 Q' hk hq => ?_) (fun H2 g2 e2 => ?_)⟩
        · show -(2 ^ 62) ≤ c / 28 % 8
          omega
        · show c / 28 % 8 < 2 ^ 62
          omega
        · refine ⟨_, rfl, _, rfl, _, _, rfl, rfl, ⟨by decide, by decide⟩, _, rfl, _, _, rfl, rfl, .inl ⟨by decide, by decide⟩, _, _, rfl, rfl, _, _, rfl, rfl, (by show (0 : Int) < 26; decide), _, _, _, rfl, rfl, Lbig, let_at _, ?_⟩
          rw [Int.zero_add]
          exact hq
        · have eb : ((List.range (c / 28 % 8).toNat).map fun j : Nat => SX.S [let_ (c / 224 + 5 * (j : Int))]) = ((baseOf c (c / 28 % 8).toNat).map fun x => [x]).map SX.S := by
            unfold baseOf
            rw [List.map_map, List.map_map]
            rfl
          refine ⟨_, D, _, rfl, rfl, .inl (.inl (.inl e2)), ?_, ?_⟩
          · rw [List.length_map, List.length_range, List.map_map]
            have h3 : ∀ l : List Nat, (l.map ((fun x : Str => x.length) ∘ fun j : Nat => SX.S [let_ (c / 224 + 5 * (j : Int))])).sum = l.length := by
              intro l
              induction l with
              | nil => rfl
              | cons x r ih =>
                rw [List.map_cons, List.sum_cons, ih, List.length_cons]
                show 1 + r.length = _
                omega
            rw [h3, List.length_range]
            show _ + _ * 0 ≤ _
            omega
          · rw [eb, show (Str.ofString "") = SX.S [] by decide +kernel, SX.join_S, joinL_ones]
            have bl : (baseOf c (c / 28 % 8).toNat).length = (c / 28 % 8).toNat := by
              unfold baseOf
              rw [List.length_map, List.length_range]
            have bb : (SX.S (baseOf c (c / 28 % 8).toNat)).length ≤ sizeLine := big _ (by rw [SX.S_len, bl]; omega)
            -- at
            refine ⟨_, rfl, _, _, rfl, rfl, ⟨by decide, by decide⟩, _, rfl, _, _, rfl, rfl, _, _, rfl, rfl, (by show (0 : Int) < c / 28 % 8 + 1; omega), ?_⟩
            refine ⟨_, rfl, _, rfl, ?_, ?_, fun D3 hD3 => lc_texts (H := H) (n := many c) (nm3 (baseOf c (c / 28 % 8).toNat) (c / 7 % ((c / 28 % 8) + 1)).toNat (c / 1000)) (by omega) g2 hD3 (fun v => rfl) (fun k H4 Q' hk hq => ?_) (fun H3 g3 e3 => ?_)⟩
            · show -(2 ^ 62) ≤ 1 + c % 7
              omega
            · show 1 + c % 7 < 2 ^ 62
              omega
            · refine ⟨_, rfl, _, rfl, _, rfl, _, rfl, bb, ?_⟩
              refine ⟨_, rfl, _, rfl, _, _, rfl, rfl, ⟨by decide, by decide⟩, _, rfl, _, _, rfl, rfl, .inl ⟨by decide, by decide⟩, _, _, rfl, rfl, _, _, rfl, rfl, (by show (0 : Int) < 26; decide), _, _, _, rfl, rfl, Lbig, let_at _, ?_⟩
              refine ⟨_, _, rfl, rfl, ?_, ?_⟩
              · rw [SX.slice_to a0, SX.S_len, List.length_take, bl]
                show _ + 1 ≤ _
                rw [sizeLine_eq]
                omega
              · refine ⟨_, rfl, _, rfl, _, rfl, _, rfl, bb, _, _, rfl, rfl, ?_, ?_⟩
                · rw [SX.slice_to a0, SX.slice_from a0, Str.length_append, SX.S_len, SX.S_len, SX.S_len, List.length_take, List.length_drop, bl]
                  show _ + 1 + _ ≤ _
                  rw [sizeLine_eq]
                  omega
                · rw [SX.slice_to a0, SX.slice_from a0, Int.zero_add]
                  show Q' (.str (SX.S _ ++ SX.S [_] ++ SX.S _)) H4
                  rw [SX.S_cat, SX.S_cat]
                  exact hq
            · refine q D3 H3 g3 (g2.free hD3) ?_
              rw [e3]
              unfold names
              rw [if_neg h1, if_neg h2]
end
end K1
namespace K1
open PySem PySem.Spec PyProof.Rows L2 Gr GxR Srx Skx Dcx
section
variable {P : Program} {w : World} {K : PySem.W.Frag} {mg : Str → Option Value} {base : Heap} {f fM fB fR fA fW : Addr} {fd fdM fdB fdR fdA fdW : FuncData}
theorem scLAll : FnScope ["_law_one", "_law_rows", "_law_row_here"] ["_law_one", "_law_rows"] (defScope sLAll) := ⟨rfl, rfl, rfl, by decide +kernel, rfl, by decide +kernel, by decide +kernel⟩
theorem ok_lall (F : FnP K "_law_meets_all" sLAll f fd) (CM : Calls P w K mg base CX0 1 "_law_meets" (spLMeets K)) :
    FnOk P w K mg base CX0 2 f fd ["_law_one", "_law_rows"] (spLAll K) := by
  refine F.ok scLAll (fun vs H Q E h => ?_) (fun cdv A outer s H vs Q E hr h => ?_)
  · obtain ⟨a, b, xs, ps, rfl, _⟩ := h
    rfl
  · obtain ⟨a, b, xs, ps, rfl, hA, hB, hin, q⟩ := h
    refine ⟨_, PSs.nox (pss_cons (ps_for PassesOwn.never rfl (pi_list (pv 1)) (pg_name (i := 2) scLAll.nd rfl (.inl rfl)) (pss_one (ps_if (pt_not (pt_val (pe_k CM hr (by decide) (by rfl) (pa_cons (pv 0) (pa_cons (pv 2) pa_nil))))) (pss_one (ps_ret pe_bl)) pss_nil))) (pss_one (ps_ret pe_bl))), ?_⟩
    refine ⟨_, rfl, b, rfl, ⟨_, hB⟩, for_list (K := K) (xs := ps.map fun q : Addr × List Str => V.ref q.1) (fun i σ H' => H' = H ∧ ((ps.take i).all fun q => mt xs q.2) = true ∧ ∃ v, σ = [some (.ref a), some (.ref b), v]) ⟨rfl, rfl, _, rfl⟩ (fun i σ H' _ h => h.1 ▸ hB) (fun i x σ H' hx h => ?_) (fun σ H' h => ?_)⟩
    · obtain ⟨rfl, hn, v, rfl⟩ := h
      obtain ⟨p0, hp0, rfl⟩ := get_map hx
      have m0 := List.mem_of_getElem? hp0
      refine ⟨_, rfl, _, rfl, a, p0.1, xs, p0.2, rfl, hA, hin p0 m0, _, rfl, ?_⟩
      show if (!mt xs p0.2) = true then _ else _
      cases e : mt xs p0.2 with
      | false =>
        refine iteT ?_
        rw [show mtAll xs (ps.map (·.2)) = false from List.all_eq_false.mpr ⟨p0.2, List.mem_map.mpr ⟨p0, m0, rfl⟩, by rw [e]; exact Bool.false_ne_true⟩] at q
        exact q
      | true =>
        refine iteF ⟨rfl, ?_, _, rfl⟩
        rw [List.take_add_one, hp0, List.all_append, hn]
        simp [e]
    · obtain ⟨rfl, hn, v, rfl⟩ := h
      rw [List.length_map, List.take_length] at hn
      rw [show mtAll xs (ps.map (·.2)) = true by
        unfold mtAll
        rw [List.all_map]
        exact hn] at q
      exact q
end
end K1
namespace K1
open PySem PySem.Spec PyProof.Rows L2 Gr GxR Srx Skx Dcx
section
variable {P : Program} {w : World} {K : PySem.W.Frag} {mg : Str → Option Value} {base : Heap} {f : Addr} {fd : FuncData} {p : He.Defn} {T : Addr} {R : ErN}
theorem scNamesFrom : FnScope ["thing"] ["thing"] (defScope s_names_from) := ⟨rfl, rfl, rfl, by decide +kernel, rfl, by decide +kernel, by decide +kernel⟩
theorem ok_names_from (F : FnP K "names_from" s_names_from f fd) (cR : Calls P w K mg base (L2.CX P w) 2 "rising" (spRising K T R.name)) (EC : ErrC K mg "BadRow" R.row) (gI : mg "isinstance" = none) (gL : mg "list" = none) :
    FnOk P w K mg base (L2.CX P w) 3 f fd ["thing"] (spNamesFrom K T R) := by
  refine F.ok scNamesFrom (fun vs H Q E h => ?_) (fun cdv A outer s H vs Q E hr h => ?_)
  · obtain ⟨v, rfl, _⟩ := h
    rfl
  · obtain ⟨v, rfl, hT, h⟩ := h
    refine ⟨_, pss_cons (ps_if (pt_not (pt_val (pe_callB call_isi (by rfl) gI (by decide +kernel) (pa_cons (pv 0) (pa_cons (pe_bltn (v := .ty "list") (by rfl) gL (by decide +kernel) rfl) pa_nil)))))
        (pss_one (ps_raise rfl (takes_of rfl rfl rfl rfl) (SkE.pmk_own1 PySem.F.excBase_ValueError EC.xC EC.gC EC.kC (raises_own EC.bC EC.tC) (by rfl) pe_str))) pss_nil)
      (pss_one (ps_ret (pe_f cR hr (by decide) (paE (takes_of rfl rfl rfl rfl)) (by rfl) (pa_cons (pv 0) pa_nil)))), ?_⟩
    rcases h with ⟨xs, ⟨a, rfl, ha, nm, few⟩, q⟩ | ⟨⟨a, vls, rfl, ha, th, few, bad⟩, q⟩ | ⟨⟨t, ty, kt⟩, q⟩
    · refine ⟨_, rfl, _, _, _, _, true, rfl, .ty _, .base (.lst ha), kit_ty (by decide +kernel), _, rfl, ?_⟩
      refine iteF ⟨_, rfl, a, _, rfl, .inl (.inl ha), nms_things nm, by rw [List.length_map]; exact few, hT, .inl ⟨xs, rfl, nms_all.mpr nm, q⟩⟩
    · refine ⟨_, rfl, _, _, _, _, true, rfl, .ty _, .base (.lst ha), kit_ty (by decide +kernel), _, rfl, ?_⟩
      refine iteF ⟨_, rfl, a, _, rfl, .inl (.inl ha), th, few, hT, .inr ⟨bad, q⟩⟩
    · refine ⟨_, rfl, _, _, _, _, false, rfl, .ty _, ty, kit_ty kt, _, rfl, ?_⟩
      exact iteT (q H (Gr.refl H))
theorem scRowFrom : FnScope ["thing", "names"] ["thing"] (defScope s_row_from) := ⟨rfl, rfl, rfl, by decide +kernel, rfl, by decide +kernel, by decide +kernel⟩
theorem ok_row_from (F : FnP K "row_from" s_row_from f fd) (cN : Calls P w K mg base (L2.CX P w) 3 "names_from" (spNamesFrom K T R)) (EC : ErrC K mg "BadRow" R.row) (gL : mg "len" = none) :
    FnOk P w K mg base (L2.CX P w) 4 f fd ["thing"] (spRowFrom K T R) := by
  refine F.ok scRowFrom (fun vs H Q E h => ?_) (fun cdv A outer s H vs Q E hr h => ?_)
  · obtain ⟨v, rfl, _⟩ := h
    rfl
  · obtain ⟨v, rfl, hT, h⟩ := h
    refine ⟨_, pss_cons (ps_set (i := 1) scRowFrom.nd rfl (.inl rfl) (pe_f cN hr (by decide) (paE (takes_of rfl rfl rfl rfl)) (by rfl) (pa_cons (pv 0) pa_nil)))
      (pss_cons (ps_if (pt_cmpR op_ne (pe_callB call_len_seq (by rfl) gL boot_len (pa_cons (pv 1) pa_nil)) (pe_callB call_len_seq (by rfl) gL boot_len (pa_cons (pv 0) pa_nil)) (nomark _))
        (pss_one (ps_raise rfl (takes_of rfl rfl rfl rfl) (SkE.pmk_own1 PySem.F.excBase_ValueError EC.xC EC.gC EC.kC (raises_own EC.bC EC.tC) (by rfl) pe_str))) pss_nil)
      (pss_one (ps_ret (pv 1)))), ?_⟩
    refine ⟨_, rfl, _, rfl, hT, ?_⟩
    rcases h with ⟨xs, hk, nd, q⟩ | ⟨xs, hk, nd, q⟩ | ⟨hb, q⟩ | ⟨hb, q⟩
    · refine .inl ⟨xs, hk, fun p H2 g np ep => ?_⟩
      obtain ⟨a, rfl, ha, nm, few⟩ := hk.gr g
      refine ⟨_, rfl, p, _, rfl, .inl (.inl (.inl ep)), _, rfl, a, _, rfl, .inl (.inl (.inl ha)), rfl, _, rfl, ?_⟩
      rw [List.length_map, List.length_map, once_full nd]
      refine iteNS (by simp) ⟨_, rfl, q p H2 g np ep⟩
    · refine .inl ⟨xs, hk, fun p H2 g np ep => ?_⟩
      obtain ⟨a, rfl, ha, nm, few⟩ := hk.gr g
      refine ⟨_, rfl, p, _, rfl, .inl (.inl (.inl ep)), _, rfl, a, _, rfl, .inl (.inl (.inl ha)), rfl, _, rfl, ?_⟩
      rw [List.length_map, List.length_map]
      have ne := once_twice nd
      rw [decide_eq_false (show ¬ (V.int ((once xs).length : Nat) = V.int (xs.length : Nat)) from fun z => ne (by injection z with z; omega))]
      exact iteT (q H2 g)
    · exact .inr (.inl ⟨hb, q⟩)
    · exact .inr (.inr ⟨hb, q⟩)
end
end K1
namespace K1
open PySem PySem.Spec PyProof.Rows L2 Gr GxR Srx Skx Dcx
section
variable {P : Program} {w : World} {K : PySem.W.Frag} {mg : Str → Option Value} {base : Heap} {f : Addr} {fd : FuncData} {p : He.Defn} {N : TabN} {R : ErN}
abbrev nGrown : List Str := ["sets", "row", "names", "found", "one", "name"]
theorem scGrown : FnScope nGrown ["sets", "row"] (defScope s_grown) := ⟨rfl, rfl, rfl, by decide +kernel, rfl, by decide +kernel, by decide +kernel⟩
theorem ok_grown (F : FnP K "grown" s_grown f fd) (cR : Calls P w K mg base (L2.CX P w) 4 "row_from" (spRowFrom K N.i R)) (cM : Calls P w K mg base CX0 1 "meets_sets" (spMeets K N.m)) (cL : Calls P w K mg base CX0 5 "least_of" (spLeast K N.l N.w)) :
    FnOk P w K mg base CX0 6 f fd ["sets", "row"] (spGrown K N) := by
  refine F.ok scGrown (fun vs H Q E h => ?_) (fun cdv A outer s H vs Q E hr h => ?_)
  · obtain ⟨a, v, ps, r, rfl, _⟩ := h
    rfl
  · obtain ⟨a, v, ps, r, rfl, lA, hp, few, hR, nd, rl, hN, q⟩ := h
    refine ⟨_, PSs.nox (pss_cons (ps_set (i := 2) scGrown.nd rfl (.inl rfl) (pe_f cR hr (by decide) paL (by rfl) (pa_cons (pv 1) pa_nil)))
      (pss_cons (ps_set (i := 3) scGrown.nd rfl (.inl rfl) (pe_lst pa_nil))
      (pss_cons (ps_for PassesOwn.never rfl (pi_list (pv 0)) (pg_name (i := 4) scGrown.nd rfl (.inr rfl))
        (pss_one (ps_if (pt_val (pe_k cM hr (by decide) (by rfl) (pa_cons (pv 4) (pa_cons (pv 2) pa_nil))))
          (pss_one (ps_expr (pe_bm PySem.F.plainAttrs_list PySem.F.slot_list_append PySem.F.type_list_append mt_append (pv 3) (pa_cons (pv 4) pa_nil))))
          (pss_one (ps_expr (pe_bm PySem.F.plainAttrs_list PySem.F.slot_list_extend PySem.F.type_list_extend mt_extend (pv 3) (pa_cons (pe_lc (own := [("name", 5)]) (g := gName 5) (tt := tYes) (te := tLst (StX.tStar K (tVar 4) (tCons (tVar 5) tNil))) rfl scGrown.nd (pi_list (pv 2)) (blkOk_by (N := nGrown) (sc := defScope s_grown) (by decide +kernel))
              (fun _ _ _ _ _ => pg_name (i := 5) scGrown.nd rfl (.inl rfl)) (fun _ _ _ _ _ => pts_nil) (fun _ _ _ _ _ => pe_lst (StX.pa_star (pv 4) (pa_cons (pv 5) pa_nil)))) pa_nil)))))))
      (pss_one (ps_ret (pe_k cL hr (by decide) (by rfl) (pa_cons (pv 3) pa_nil))))))), ?_⟩
    refine ⟨_, rfl, _, rfl, hN.i, .inl ⟨r, hR, nd, fun nm H1 g1 nnm enm => ?_⟩⟩
    have onl : (once r).length ≤ 12 := Nat.le_trans once_len rl
    refine ⟨Nat.zero_le _, fun S nS => ?_⟩
    have g2 : Gr H (upd H1 S (.lst [])) := g1.trans (Gr.new nS)
    have nSH : H S = none := g1.free nS
    have eS : (upd H1 S (.lst [])) S = some (.lst []) := upd_same
    have em2 : (upd H1 S (.lst [])) nm = some (.lst ((once r).map V.str)) := (Gr.new nS).lst enm
    have nmS : nm ≠ S := ne_of_none enm nS
    generalize upd H1 S (.lst []) = H2 at g2 eS em2
    refine ⟨_, rfl, a, rfl, ⟨_, .inl (.inl (lA.gr g2).at_)⟩, for_list (K := K) (xs := ps.map fun q : Addr × List Str => V.ref q.1) (fun i σ H3 => Gr H H3 ∧ H3 nm = some (.lst ((once r).map V.str)) ∧ ∃ (ss : List (Addr × List Str)) (v4 : Option V), H3 S = some (.lst (ss.map fun q => V.ref q.1)) ∧ (∀ q ∈ ss, q.1 ≠ S ∧ q.2.length ≤ 101 ∧ H3 q.1 = some (.lst (q.2.map V.str))) ∧ ss.map (·.2) = found ((ps.take i).map (·.2)) (once r) ∧ ss.length ≤ i * 12 ∧
        σ = [some (.ref a), some v, some (.ref nm), some (.ref S), v4, none]) ⟨g2, em2, [], none, eS, fun _ z => absurd z List.not_mem_nil, rfl, Nat.zero_le _, rfl⟩ (fun i σ H3 _ h => .inl (.inl (lA.gr h.1).at_)) (fun i x σ H3 hx h => ?_) (fun σ H3 h => ?_)⟩
    · obtain ⟨g3, em3, ss, v4, eS3, own, es, sl, rfl⟩ := h
      obtain ⟨p0, hp0, rfl⟩ := get_map hx
      have mp := List.mem_of_getElem? hp0
      have hi : i < ps.length := (List.getElem?_eq_some_iff.mp hp0).1
      have sz : ss.length ≤ 60000 - 12 := by omega
      have ePp := (lA.gr g3).own p0 mp
      have npS : p0.1 ≠ S := ne_of_none (lA.own p0 mp) nSH
      refine ⟨_, rfl, _, rfl, p0.1, nm, p0.2, once r, rfl, .inl (.inl ePp), .inl (.inl em3), g3.tabG hN.m, fun H4 g4 => ⟨_, rfl, ?_⟩⟩
      show if mt p0.2 (once r) = true then _ else _
      cases em : mt p0.2 (once r) with
      | true =>
        refine iteT ⟨_, rfl, .inl ⟨rfl, _, .inl (.inl (g4.lst eS3))⟩, _, rfl, S, _, _, rfl, rfl, g4.lst eS3, ?_, ?_⟩
        · rw [List.length_map]
          exact small60 (by omega)
        · refine ⟨(g3.trans g4).mut nSH, ?_, ss ++ [p0], _, ?_, fun q hq => ?_, ?_, ?_, rfl⟩
          · rw [upd_ne nmS]
            exact g4.lst em3
          · rw [upd_same, List.map_append]
            rfl
          · rcases List.mem_append.mp hq with hq | hq
            · obtain ⟨h1, h2, h3⟩ := own q hq
              exact ⟨h1, h2, by rw [upd_ne h1]; exact g4.lst h3⟩
            · rw [List.mem_singleton.mp hq]
              exact ⟨npS, Nat.le_succ_of_le (hp p0 mp).2, by rw [upd_ne npS]; exact g4.lst ePp⟩
          · rw [List.map_append, es, take_map hp0, found_snoc, em]
            rfl
          · rw [List.length_append, List.length_singleton]
            omega
      | false =>
        refine iteF ⟨_, rfl, .inl ⟨rfl, _, .inl (.inl (g4.lst eS3))⟩, _, rfl, nm, rfl, ⟨_, .inl (.inl (g4.lst em3))⟩, fun D nD => lc_newT (K := K) (xs := once r) (fun x => p0.2 ++ [x]) (.inl (.inl (g4.lst em3))) (small1000 (by omega)) nD (fun v => rfl) (fun x hx H5 Q' g5 hq => ?_) (fun H5 cs g5 T5 ec => ?_)⟩
        · refine ⟨_, rfl, p0.1, p0.2.map V.str, rfl, .inr (.inl (.inl ((g4.trans g5).lst ePp))), _, rfl, ?_, fun l nl => ?_⟩
          · rw [List.length_append, List.length_map, List.length_singleton]
            have := (hp p0 mp).2
            exact Nat.le_of_lt (small1000 (by omega))
          · have z := hq H5 l (Gr.refl H5) nl
            rw [List.map_append] at z
            exact z
        · have g45 := g4.trans g5
          have cl : cs.length ≤ 12 := by
            have h1 := congrArg List.length ec
            rw [List.length_map, List.length_map] at h1
            omega
          have SD : S ≠ D := ne_of_none (g4.lst eS3) nD
          refine ⟨S, D, _, _, rfl, rfl, g45.lst eS3, T5.at_, ?_, ?_⟩
          · rw [List.length_map, List.length_map]
            exact Nat.le_of_lt (small60 (by omega))
          · refine ⟨(g3.trans g45).mut nSH, ?_, ss ++ cs, _, ?_, fun q hq => ?_, ?_, ?_, rfl⟩
            · rw [upd_ne nmS]
              exact g45.lst em3
            · rw [upd_same, List.map_append]
            · rcases List.mem_append.mp hq with hq | hq
              · obtain ⟨h1, h2, h3⟩ := own q hq
                exact ⟨h1, h2, by rw [upd_ne h1]; exact g45.lst h3⟩
              · obtain ⟨h1, h2, h3⟩ := T5.own q hq
                have h4 : q.1 ≠ S := (ne_of_none (g4.lst eS3) h1).symm
                refine ⟨h4, ?_, by rw [upd_ne h4]; exact h3⟩
                have h5 : q.2 ∈ (once r).map (fun x => p0.2 ++ [x]) := by rw [← ec]; exact List.mem_map.mpr ⟨q, hq, rfl⟩
                obtain ⟨x, _, e3⟩ := List.mem_map.mp h5
                rw [← e3, List.length_append, List.length_singleton]
                exact Nat.succ_le_succ (hp p0 mp).2
            · rw [List.map_append, es, ec, take_map hp0, found_snoc, em]
              rfl
            · rw [List.length_append]
              omega
    · obtain ⟨g3, em3, ss, v4, eS3, own, es, sl, rfl⟩ := h
      rw [List.length_map, List.take_length] at es
      rw [List.length_map] at sl
      refine ⟨_, rfl, S, ss, rfl, .inl (.inl eS3), fun q0 hq0 => ⟨.inl (.inl (own q0 hq0).2.2), Nat.le_trans (own q0 hq0).2.1 (by decide)⟩, by omega, g3.tabG hN.l, g3.tabG hN.w, fun p H4 ks g4 T4 e4 => q p H4 ks (g3.trans g4) (T4.from g3) ?_⟩
      have ra : RisAll (ps.map (·.2)) := by
        intro x hx
        obtain ⟨q0, hq0, rfl⟩ := List.mem_map.mp hx
        exact (hp q0 hq0).1
      rw [e4, es, found_once ra, cand_once ra]
end
end K1
namespace K1
open PySem PySem.Spec PyProof.Rows L2 Gr GxR Srx Skx Dcx
section
variable {P : Program} {w : World} {K : PySem.W.Frag} {mg : Str → Option Value} {base : Heap} {f C : Addr} {fd : FuncData} {p : He.Defn} {N : TabN} {R : ErN}
theorem scInit : FnScope ["self"] ["self"] (defScope m_init) := ⟨rfl, rfl, rfl, by decide +kernel, rfl, by decide +kernel, by decide +kernel⟩
theorem ok_init (F : FnM K "__init__" "Book.__init__" m_init f fd) (BC : BkC K mg C) : FnOk P w K mg base CX0 1 f fd ["self"] (spInit C) := by
  refine F.ok scInit (fun vs H Q E h => ?_) (fun cdv A outer s H vs Q E hr h => ?_)
  · obtain ⟨b, dx, rfl, _⟩ := h
    rfl
  · obtain ⟨b, dx, rfl, hb, k⟩ := h
    refine ⟨_, PSs.nox (pss_cons (ps_fld (pv 0) pe_dnewK rfl) (pss_one (ps_fld (pv 0) pe_int rfl))), ?_⟩
    intro d hd
    have nbd : b ≠ d := ne_of_none hb hd
    refine ⟨_, rfl, b, C, dx, [], rfl, (by rw [upd_ne nbd]; exact hb), BC.cl, BC.nR, (by show 0 < 1000; decide), _, rfl, b, C, dx, _, rfl, upd_same, BC.cl, BC.nN, (by show 1 < 1000; decide), ?_⟩
    refine k d _ hd ⟨fun c o hc e n => ?_, fun c ps e => ⟨ps, ?_, fun h => h⟩, fun c o hc e => ?_⟩ ⟨⟨dx, upd_same⟩, by rw [upd_ne nbd.symm, upd_ne nbd.symm, upd_same]; rfl, fun e he => absurd he List.not_mem_nil⟩
    · rw [upd_ne hc, upd_ne hc, upd_ne (ne_of_none e hd)]
      exact e
    · have hc : c ≠ b := fun z => by rw [z, hb] at e; cases e
      rw [upd_ne hc, upd_ne hc, upd_ne (ne_of_none e hd)]
      exact e
    · exact ⟨_, by rw [hc, upd_same]⟩
theorem scBSets : FnScope ["self"] ["self"] (defScope m_sets) := ⟨rfl, rfl, rfl, by decide +kernel, rfl, by decide +kernel, by decide +kernel⟩
theorem ok_bsets (F : FnM K "_sets" "Book._sets" m_sets f fd) (BC : BkC K mg C) (g_list : mg "list" = none) : FnOk P w K mg base CX0 1 f fd ["self"] (spBSets C) := by
  refine F.ok scBSets (fun vs H Q E h => ?_) (fun cdv A outer s H vs Q E hr h => ?_)
  · obtain ⟨b, d, tb, n, rfl, _⟩ := h
    rfl
  · obtain ⟨b, d, tb, n, rfl, B, q⟩ := h
    refine ⟨_, PSs.nox (pss_one (ps_ret (LVals.pe_listVals rfl (pe_fld (pv 0) rfl) (by rfl) g_list boot_list))), ?_⟩
    obtain ⟨dx, eb⟩ := B.ob
    refine ⟨_, rfl, b, C, dx, _, _, rfl, eb, BC.cl, BC.nR, bfl_rows d n, d, kvB tb, rfl, B.dc, fun p np => ?_⟩
    have z := q p np
    rw [show (kvB tb).map (·.2) = tb.map fun e => V.ref e.2.1 from by unfold kvB; rw [List.map_map]; rfl]
    exact z
abbrev nBNames : List Str := ["self", "row", "name"]
theorem scBNames : FnScope nBNames ["self"] (defScope m_names) := ⟨rfl, rfl, rfl, by decide +kernel, rfl, by decide +kernel, by decide +kernel⟩
theorem ok_bnames (F : FnM K "names" "Book.names" m_names f fd) (BC : BkC K mg C) (cSets : MCalls P w K mg base CX0 1 C "_sets" (spBSets C)) (g_sorted : mg "sorted" = none) : FnOk P w K mg base CX0 2 f fd ["self"] (spBNames C) := by
  refine F.ok scBNames (fun vs H Q E h => ?_) (fun cdv A outer s H vs Q E hr h => ?_)
  · obtain ⟨b, d, tb, n, rfl, _⟩ := h
    rfl
  · obtain ⟨b, d, tb, n, rfl, B, T, q⟩ := h
    refine ⟨_, PSs.nox (pss_one (ps_ret (pe_callB (Srx.cr_sortedTx rfl (hu64 hr)) (by rfl) g_sorted boot_sorted (pa_cons (Sc2.pe_sc2 (own := [("row", 1), ("name", 2)]) (g := gName 1) (tt := tYes) (g1 := gName 2) (tt1 := tYes) (vs1 := [2]) (wi1 := iList K (tVar 1)) (te := tVar 2) rfl scBNames.nd (pi_list (pe_m0 cSets BC.cl hr (by decide) pa0 (pv 0))) (blkOk_by (N := nBNames) (sc := defScope m_names) (by decide +kernel)) (by decide) (fun _ _ _ _ _ => (pg_name (i := 1) scBNames.nd rfl (.inl rfl))) (fun _ _ _ _ _ => pts_nil) (fun _ _ _ _ _ => (pi_list (pv 1))) (fun _ _ _ _ _ => (pg_name (i := 2) scBNames.nd rfl (.inl rfl))) (fun _ _ _ _ _ => pts_nil) (fun _ _ _ _ _ => (pv 2))) pa_nil)))), ?_⟩
    refine ⟨_, rfl, b, d, tb, n, rfl, B, b, d, tb, n, rfl, B, fun L nL => ⟨L, rfl, ⟨_, .inl (.inl upd_same)⟩, fun D nD => ?_⟩⟩
    have g1 : Gr H (upd H L (.lst (tb.map fun e => V.ref e.2.1))) := Gr.new nL
    have B1 := B.gr g1
    have eL : (upd H L (.lst (tb.map fun e => V.ref e.2.1))) L = some (.lst (tb.map fun e => V.ref e.2.1)) := upd_same
    generalize upd H L (.lst (tb.map fun e => V.ref e.2.1)) = H1 at g1 B1 eL nD
    refine sc2_rows (K := K) (ps := tb.map fun e => (e.2.1, e.2.2)) (by rw [List.map_map]; exact .inl (.inl eL)) (fun q hq => ?_) nD ?_ ?_ (fun _ => rfl) (fun _ _ => rfl) (fun _ => rfl) (fun _ _ => rfl)
    · obtain ⟨e, he, rfl⟩ := List.mem_map.mp hq
      exact .inl (.inl (B1.own e he))
    · have h1 := T.flat
      rw [List.map_map]
      exact Nat.le_trans h1 (by decide)
    · refine ⟨D, _, rfl, upd_same, fun p np => ?_⟩
      refine q p _ (g1.trans ((Gr.new nD).trans (Gr.new np))) ((g1.trans (Gr.new nD)).free np) ?_
      rw [upd_same, List.map_map]
      rfl
end
end K1
namespace K1
open PySem PySem.Spec PyProof.Rows L2 Gr GxR Srx Skx Dcx
section
variable {P : Program} {w : World} {K : PySem.W.Frag} {mg : Str → Option Value} {base : Heap} {f C : Addr} {fd : FuncData} {p : He.Defn} {N : TabN} {R : ErN}
abbrev nPut : List Str := ["self", "row", "names", "number"]
theorem scPut : FnScope nPut ["self", "row"] (defScope m_put) := ⟨rfl, rfl, rfl, by decide +kernel, rfl, by decide +kernel, by decide +kernel⟩
theorem ok_put (F : FnM K "put" "Book.put" m_put f fd) (BC : BkC K mg C) (cRow : Calls P w K mg base (L2.CX P w) 4 "row_from" (spRowFrom K N.i R)) (cRis : Calls P w K mg base (L2.CX P w) 2 "rising" (spRising K N.i R.name))
    (cNames : MCalls P w K mg base CX0 2 C "names" (spBNames C)) (eMany : ErrC K mg "TooMany" R.many) (g_len : mg "len" = none) (gMR : ∃ t, mg "MOST_ROWS_books" = some (.int 30 t)) (gMN : ∃ t, mg "MOST_NAMES_books" = some (.int 12 t)) :
    FnOk P w K mg base (L2.CX P w) 5 f fd ["self", "row"] (spPut K C N R) := by
  obtain ⟨tR, gMR⟩ := gMR
  obtain ⟨tN, gMN⟩ := gMN
  refine F.ok scPut (fun vs H Q E h => ?_) (fun cdv A outer s H vs Q E hr h => ?_)
  · obtain ⟨b, d, tb, n, v, rfl, _⟩ := h
    rfl
  · obtain ⟨b, d, tb, n, v, rfl, B, T, hN, h⟩ := h
    refine ⟨_, pss_cons (ps_set (i := 2) scPut.nd rfl (.inl rfl) (pe_f cRow hr (by decide) (paE (takes_of rfl rfl rfl rfl)) (by rfl) (pa_cons (pv 1) pa_nil))) (pss_cons (ps_if (pt_cmpR op_ge (pe_callB call_lenD (by rfl) g_len PySem.boot_len (pa_cons (pe_fld (pv 0) rfl) pa_nil)) (pe_glob (v := .int 30) (by rfl) gMR ⟨_, rfl⟩) (nomark _)) (pss_one (ps_raise rfl (takes_of rfl rfl rfl rfl) (SkE.pmk_own1 PySem.F.excBase_ValueError eMany.xC eMany.gC eMany.kC (raises_own eMany.bC eMany.tC) (by rfl) (pe_joined (.cons pe_str (.cons (pe_fmt (pe_glob (v := .int 30) (by rfl) gMR ⟨_, rfl⟩)) (.cons pe_str .nil))))))) (pss_nil)) (pss_cons (ps_if (pt_cmpR op_gt (pe_callB call_len_seq (by rfl) g_len boot_len (pa_cons (pe_f cRis hr (by decide) (paE (takes_of rfl rfl rfl rfl)) (by rfl) (pa_cons (pe_op op_cat (pe_m0 cNames BC.cl hr (by decide) pa0 (pv 0)) (pv 2)) pa_nil)) pa_nil)) (pe_glob (v := .int 12) (by rfl) gMN ⟨_, rfl⟩) (nomark _)) (pss_one (ps_raise rfl (takes_of rfl rfl rfl rfl) (SkE.pmk_own1 PySem.F.excBase_ValueError eMany.xC eMany.gC eMany.kC (raises_own eMany.bC eMany.tC) (by rfl) (pe_joined (.cons pe_str (.cons (pe_fmt (pe_glob (v := .int 12) (by rfl) gMN ⟨_, rfl⟩)) (.cons pe_str .nil))))))) (pss_nil)) (pss_cons (ps_set (i := 3) scPut.nd rfl (.inl rfl) (pe_fld (pv 0) rfl)) (pss_cons (ps_dput (hu_of hr) (pe_fld (pv 0) rfl) (pv 3) (pv 2) rfl) (pss_cons (ps_fld (pv 0) (pe_op op_add (pv 3) pe_int) rfl) (pss_one (ps_ret (pv 3)))))))), ?_⟩
    refine ⟨_, rfl, _, rfl, hN.s.i, ?_⟩
    have h : (∃ xs, HOk H v xs ∧ xs.length ≤ 100 ∧ xs.Nodup ∧ ((tb.length < 30 ∧ (allN (rws tb ++ [xs])).length ≤ 12 ∧ ∀ p H', GrX (fun a => a = b ∨ a = d) H H' → H p = none → Bk C H' b d (tb ++ [(n, p, once xs)]) (n + 1) → Q (.int n) H') ∨
        ((30 ≤ tb.length ∨ 12 < (allN (rws tb ++ [xs])).length) ∧ ∀ H', Gr H H' → E (.ref R.many) none H'))) ∨
        (∃ xs, HOk H v xs ∧ ¬ xs.Nodup ∧ ∀ H', Gr H H' → E (.ref R.row) none H') ∨ (HBadN K H v ∧ ∀ H', Gr H H' → E (.ref R.name) none H') ∨ (HBadR K H v ∧ ∀ H', Gr H H' → E (.ref R.row) none H') := by
      rcases h with ⟨xs, hk, few, nd, q⟩ | ⟨xs, hk, few, nd, q⟩ | h | h | h
      · exact .inl ⟨xs, hk, few, nd, .inl q⟩
      · exact .inl ⟨xs, hk, few, nd, .inr q⟩
      · exact .inr (.inl h)
      · exact .inr (.inr (.inl h))
      · exact .inr (.inr (.inr h))
    rcases h with ⟨xs, hk, few, nd, h⟩ | ⟨xs, hk, nd, q⟩ | ⟨hb, q⟩ | ⟨hb, q⟩
    rotate_left
    · exact .inr (.inl ⟨xs, hk, nd, q⟩)
    · exact .inr (.inr (.inl ⟨hb, q⟩))
    · exact .inr (.inr (.inr ⟨hb, q⟩))
    · refine .inl ⟨xs, hk, nd, fun nm H1 g1 nnm enm => ?_⟩
      have nm1 : Nms xs := hk.choose_spec.2.2.1
      have B1 := B.gr g1
      obtain ⟨dx, eb1⟩ := B1.ob
      refine ⟨_, rfl, b, C, dx, _, _, rfl, eb1, BC.cl, BC.nR, bfl_rows d n, d, _, rfl, B1.dc, _, _, rfl, rfl, _, rfl, ?_⟩
      rw [kvB_len]
      by_cases h30 : tb.length < 30
      · rw [decide_eq_false (show ¬ (tb.length : Int) ≥ 30 by omega)]
        refine iteF ?_
        refine ⟨_, rfl, b, d, tb, n, rfl, B1, b, d, tb, n, rfl, B1, T, fun L H2 g2 nL eL => ?_⟩
        have an12 := T.nms
        refine ⟨_, rfl, _, _, _, _, rfl, rfl, eL, g2.lst enm, ?_, fun c nc => ?_⟩
        · rw [List.length_map, List.length_map]
          have := once_len (xs := xs)
          exact Nat.le_of_lt (small1000 (by omega))
        have g3 : Gr H2 (upd H2 c (.lst ((allN (rws tb)).map V.str ++ (once xs).map V.str))) := Gr.new nc
        have ec : (upd H2 c (.lst ((allN (rws tb)).map V.str ++ (once xs).map V.str))) c = some (.lst ((allN (rws tb) ++ once xs).map V.str)) := by
          rw [upd_same, List.map_append]
        generalize upd H2 c (.lst ((allN (rws tb)).map V.str ++ (once xs).map V.str)) = H3 at g3 ec
        have nmA : Nms (allN (rws tb) ++ once xs) := fun y hy => (List.mem_append.mp hy).elim (T.nmsN y) (once_nms nm1 y)
        have g03 := (g1.trans g2).trans g3
        refine ⟨c, _, rfl, .inl (.inl ec), nms_things nmA, ?_, g03.tabG hN.s.i, .inl ⟨_, rfl, nms_all.mpr nmA, fun r H4 g4 nr er => ?_⟩⟩
        · rw [List.length_map, List.length_append]
          have := once_len (xs := xs)
          omega
        refine ⟨r, _, rfl, .inl (.inl (.inl er)), _, _, rfl, rfl, _, rfl, ?_⟩
        rw [List.length_map, once_two]
        have g04 := g03.trans g4
        by_cases h12 : (allN (rws tb ++ [xs])).length ≤ 12
        · rw [decide_eq_false (show ¬ ((allN (rws tb ++ [xs])).length : Int) > 12 by omega)]
          refine iteF ?_
          have B4 := B.gr g04
          obtain ⟨dy, eb4⟩ := B4.ob
          have enm4 : H4 nm = some (.lst ((once xs).map V.str)) := ((g2.trans g3).trans g4).lst enm
          have nbd := B.ne
          refine ⟨_, rfl, b, C, dy, _, _, rfl, eb4, BC.cl, BC.nN, bfl_next d n, ?_⟩
          refine ⟨_, rfl, _, rfl, b, C, dy, _, _, rfl, eb4, BC.cl, BC.nR, bfl_rows d n, _, rfl, d, _, rfl, DPut.k (k := Sum.inl n) B4.dc (by rw [kvB_len]; exact small1000 (by omega)), ?_⟩
          refine ⟨_, rfl, _, _, rfl, rfl, _, rfl, b, C, dy, _, rfl, (by rw [upd_ne nbd]; exact eb4), BC.cl, BC.nN, (by rw [bfl_eq]; show 2 < 1000; decide), _, rfl, ?_⟩
          rw [kvB_put T.fresh nm (once xs), bfl_put]
          rcases h with ⟨_, _, q⟩ | ⟨h, _⟩
          · refine q nm _ ?_ nnm ⟨⟨dy, upd_same⟩, by rw [upd_ne nbd.symm, upd_same], fun e he => ?_⟩
            · obtain ⟨dz, eb⟩ := B.ob
              refine ((g04.x _).put (.inl (.inr rfl)) fun ps z => ?_).put (.inl (.inl rfl)) fun ps z => ?_
              · rw [B.dc] at z; cases z
              · rw [eb] at z; cases z
            · rcases List.mem_append.mp he with he | he
              · obtain ⟨h1, h2⟩ := B.neb he
                rw [upd_ne h1, upd_ne h2]
                exact B4.own e he
              · rw [List.mem_singleton.mp he]
                obtain ⟨dz, eb⟩ := B.ob
                show upd (upd H4 d _) b _ nm = _
                rw [upd_ne (ne_of_none eb nnm).symm, upd_ne (ne_of_none B.dc nnm).symm]
                exact enm4
          · omega
        · rw [decide_eq_true (show ((allN (rws tb ++ [xs])).length : Int) > 12 by omega)]
          refine iteT ?_
          rcases h with ⟨_, h, _⟩ | ⟨_, q⟩
          · exact absurd h h12
          · refine ⟨_, rfl, by rw [sizeLine_eq]; decide +kernel, .inr ⟨_, rfl, by decide, _, rfl, by rw [sizeLine_eq]; decide +kernel, _, rfl, by rw [sizeLine_eq]; decide +kernel, q _ g04⟩⟩
      · rw [decide_eq_true (show (tb.length : Int) ≥ 30 by omega)]
        refine iteT ?_
        rcases h with ⟨h, _, _⟩ | ⟨_, q⟩
        · exact absurd h h30
        · refine ⟨_, rfl, by rw [sizeLine_eq]; decide +kernel, .inr ⟨_, rfl, by decide, _, rfl, by rw [sizeLine_eq]; decide +kernel, _, rfl, by rw [sizeLine_eq]; decide +kernel, q _ g1⟩⟩
end
end K1
namespace K1
open PySem PySem.Spec PyProof.Rows L2 Gr GxR Srx Skx Dcx
section
variable {P : Program} {w : World} {K : PySem.W.Frag} {mg : Str → Option Value} {base : Heap} {f C : Addr} {fd : FuncData} {p : He.Defn} {N : TabN} {R : ErN}
abbrev nBRows : List Str := ["self", "number", "row"]
theorem scBRows : FnScope nBRows ["self"] (defScope m_rows) := ⟨rfl, rfl, rfl, by decide +kernel, rfl, by decide +kernel, by decide +kernel⟩
theorem ok_brows (F : FnM K "rows" "Book.rows" m_rows f fd) (BC : BkC K mg C) (g_list : mg "list" = none) : FnOk P w K mg base CX0 1 f fd ["self"] (spBRows C) := by
  refine F.ok scBRows (fun vs H Q E h => ?_) (fun cdv A outer s H vs Q E hr h => ?_)
  · obtain ⟨b, d, tb, n, rfl, _⟩ := h
    rfl
  · obtain ⟨b, d, tb, n, rfl, B, T, q⟩ := h
    refine ⟨_, PSs.nox (pss_one (ps_ret (pe_lock (pe_lc (own := [("number", 1), ("row", 2)]) (g := gTup K 2 (gCons (gName 1) (gCons (gName 2) gNil))) (tt := tYes) rfl scBRows.nd (pi_items (pe_fld (pv 0) rfl)) (blkOk_by (N := nBRows) (sc := defScope m_rows) (by decide +kernel)) (fun _ _ _ _ _ => (pg_tup rfl (pgs_cons (pg_name (i := 1) scBRows.nd rfl (.inl rfl)) (pgs_cons (pg_name (i := 2) scBRows.nd rfl (.inl rfl)) pgs_nil)))) (fun _ _ _ _ _ => pts_nil) (fun _ _ _ _ _ => (pe_tup (pa_cons (pv 1) (pa_cons (pe_callTy (r := rListOf K) call_list_of (by rfl) g_list boot_list (pa_cons (pv 2) pa_nil)) pa_nil)))))))), ?_⟩
    obtain ⟨dx, eb⟩ := B.ob
    have nbd := B.ne
    refine ⟨d, _, B.dc, trivial, fun od => ?_⟩
    have eL : (upd H d (.frz od (.dK (kvB tb)))) d = some (.frz od (.dK (kvB tb))) := upd_same
    have oL : ∀ e ∈ tb, (upd H d (.frz od (.dK (kvB tb)))) e.2.1 = some (.lst (e.2.2.map V.str)) := fun e he => by rw [upd_ne (B.neb he).2]; exact B.own e he
    have freeL : ∀ x, (upd H d (.frz od (.dK (kvB tb)))) x = none → H x = none := fun x hx => by
      by_cases h : x = d
      · rw [h, upd_same] at hx; cases hx
      · rw [upd_ne h] at hx; exact hx
    refine ⟨_, rfl, b, C, dx, _, _, rfl, (by rw [upd_ne nbd]; exact eb), BC.cl, BC.nR, bfl_rows d n, d, od, kvB tb, rfl, eL, fun D nD => ?_⟩
    have hback : ∀ H', Gr (upd H d (.frz od (.dK (kvB tb)))) H' → Gr H (upd H' d (.dK (kvB tb))) := fun H' g => gr_lock B.dc (fun ps z => nomatch z) g
    generalize upd H d (.frz od (.dK (kvB tb))) = HL at eL oL freeL nD hback
    refine lc_it (walk_items (d := d) (o := od) (kvs := kvB tb)) (Qd := _) (fun i H2 => Gr HL H2 ∧ ∃ rs : List Pr1, rs.map (fun r => (r.k, r.r)) = nr (tb.take i) ∧ H2 D = some (.lst (rs.map fun r => V.ref r.t)) ∧ ∀ r ∈ rs, HL r.t = none ∧ HL r.l = none ∧ r.t ≠ D ∧ r.l ≠ D ∧ H2 r.t = some (.tup [.int r.k, .ref r.l]) ∧ H2 r.l = some (.lst (r.r.map V.str)))
      ⟨Gr.new nD, [], rfl, upd_same, fun _ z => absurd z List.not_mem_nil⟩ (fun i H2 _ h => h.1.at_ _ _ eL notbl_frz) (fun i x H2 H3 hi h y => ?_) (fun H2 h => ?_)
    · obtain ⟨g2, rs, er, eD, own⟩ := h
      obtain ⟨TT, ky, vv, rfl, nT, rfl, hk, hv⟩ := y
      rw [kvB_len] at hi
      have hx : tb[i]? = some tb[i] := List.getElem?_eq_getElem hi
      generalize tb[i] = e0 at hx
      have m0 := List.mem_of_getElem? hx
      have hkv : (kvB tb)[i]? = some ((Sum.inl e0.1 : Key), V.ref e0.2.1) := by
        unfold kvB
        rw [List.getElem?_map, hx]
        rfl
      have hk : Option.map (fun kv : Key × V => kV kv.1) (kvB tb)[i]? = some ky := hk
      have hv : Option.map Prod.snd (kvB tb)[i]? = some vv := hv
      rw [hkv] at hk hv
      obtain rfl : V.int e0.1 = ky := Option.some.inj hk
      obtain rfl : V.ref e0.2.1 = vv := Option.some.inj hv
      have g3 : Gr H2 (upd H2 TT (.tup [.int e0.1, .ref e0.2.1])) := Gr.new nT
      refine ⟨TT, _, rfl, .inl (.inl upd_same), rfl, _, _, rfl, _, _, rfl, rfl, rfl, yesIf ?_⟩
      have eD3 := g3.lst eD
      have own3 : ∀ r ∈ rs, HL r.t = none ∧ HL r.l = none ∧ r.t ≠ D ∧ r.l ≠ D ∧ (upd H2 TT (.tup [.int e0.1, .ref e0.2.1])) r.t = some (.tup [.int r.k, .ref r.l]) ∧ (upd H2 TT (.tup [.int e0.1, .ref e0.2.1])) r.l = some (.lst (r.r.map V.str)) := fun r hr => by
        obtain ⟨h1, h2, h3, h4, h5, h6⟩ := own r hr
        exact ⟨h1, h2, h3, h4, g3.tup h5, g3.lst h6⟩
      have gL3 := g2.trans g3
      generalize upd H2 TT (.tup [.int e0.1, .ref e0.2.1]) = H3 at g3 eD3 own3 gL3
      refine ⟨_, rfl, _, rfl, e0.2.1, e0.2.2.map V.str, rfl, .inl (.inl (.inl (gL3.lst (oL e0 m0)))), fun l nl => ⟨(by show 2 ≤ sizeLine; decide), fun t nt => ?_⟩⟩
      have lt : l ≠ t := ne_of_none (show (upd H3 l (.lst (e0.2.2.map V.str))) l = some _ from upd_same) nt
      have gl : Gr H3 (upd (upd H3 l (.lst (e0.2.2.map V.str))) t (.tup [.int e0.1, .ref l])) := (Gr.new nl).trans (Gr.new nt)
      have nt3 : H3 t = none := (Gr.new nl).free nt
      refine ⟨_, gl.lst eD3, ?_, (gL3.trans gl).mut nD, rs ++ [⟨t, e0.1, l, e0.2.2⟩], ?_, ?_, fun r hr => ?_⟩
      · rw [List.length_map]
        have h1 := congrArg List.length er
        rw [List.length_map] at h1
        unfold nr at h1
        rw [List.length_map, List.length_take] at h1
        have := T.few
        exact small1000 (by omega)
      · rw [List.map_append, er]
        unfold nr
        rw [take_map hx]
        rfl
      · rw [upd_same, List.map_append]
        rfl
      · have lD : l ≠ D := (ne_of_none eD3 nl).symm
        have tD : t ≠ D := (ne_of_none eD3 nt3).symm
        rcases List.mem_append.mp hr with hr | hr
        · obtain ⟨h1, h2, h3, h4, h5, h6⟩ := own3 r hr
          exact ⟨h1, h2, h3, h4, by rw [upd_ne h3]; exact gl.tup h5, by rw [upd_ne h4]; exact gl.lst h6⟩
        · rw [List.mem_singleton.mp hr]
          refine ⟨gL3.free nt3, gL3.free nl, tD, lD, by rw [upd_ne tD, upd_same], by rw [upd_ne lD, upd_ne lt, upd_same]⟩
    · obtain ⟨g2, rs, er, eD, own⟩ := h
      rw [kvB_len, List.take_length] at er
      have nDd : D ≠ d := (ne_of_none eL nD).symm
      refine ⟨g2.at_ _ _ eL notbl_frz, q D _ rs (hback H2 g2) ⟨freeL D nD, by rw [upd_ne nDd]; exact eD, fun r hr => ?_⟩ er⟩
      obtain ⟨h1, h2, h3, h4, h5, h6⟩ := own r hr
      exact ⟨freeL _ h1, freeL _ h2, h3, h4, by rw [upd_ne (ne_of_none eL h1).symm]; exact h5, by rw [upd_ne (ne_of_none eL h2).symm]; exact h6⟩
theorem scBLR : FnScope ["self"] ["self"] (defScope m_least_rows) := ⟨rfl, rfl, rfl, by decide +kernel, rfl, by decide +kernel, by decide +kernel⟩
theorem ok_bleastrows (F : FnM K "least_rows" "Book.least_rows" m_least_rows f fd) (BC : BkC K mg C) (cSets : MCalls P w K mg base CX0 1 C "_sets" (spBSets C)) (cLO : Calls P w K mg base CX0 5 "least_of" (spLeast K N.l N.w)) : FnOk P w K mg base CX0 6 f fd ["self"] (spBLeastRows C N) := by
  refine F.ok scBLR (fun vs H Q E h => ?_) (fun cdv A outer s H vs Q E hr h => ?_)
  · obtain ⟨b, d, tb, n, rfl, _⟩ := h
    rfl
  · obtain ⟨b, d, tb, n, rfl, B, T, hN, q⟩ := h
    refine ⟨_, PSs.nox (pss_one (ps_ret (pe_k cLO hr (by decide) (by rfl) (pa_cons (pe_m0 cSets BC.cl hr (by decide) pa0 (pv 0)) pa_nil)))), ?_⟩
    refine ⟨_, rfl, b, d, tb, n, rfl, B, b, d, tb, n, rfl, B, fun L nL => ?_⟩
    have g1 : Gr H (upd H L (.lst (tb.map fun e => V.ref e.2.1))) := Gr.new nL
    refine ⟨L, tb.map fun e => (e.2.1, e.2.2), rfl, .inl (.inl (by rw [upd_same, List.map_map]; rfl)), fun q0 hq0 => ?_, ?_, g1.tabG hN.s.l, g1.tabG hN.s.w, fun p H2 ks g2 T2 e2 => q p H2 ks (g1.trans g2) (T2.from g1) ?_⟩
    · obtain ⟨e, he, rfl⟩ := List.mem_map.mp hq0
      exact ⟨.inl (.inl ((B.gr g1).own e he)), Nat.le_trans (T.rlen (rws_mem he)).2.2 (by decide)⟩
    · rw [List.length_map]
      have := T.few
      omega
    · rw [e2]
      rw [show (tb.map fun e => (e.2.1, e.2.2)).map (fun x => x.2) = rws tb from by rw [List.map_map]; rfl]
      rw [once_all fun r hr => (T.rlen hr).1]
abbrev nBLe : List Str := ["self", "sets", "row"]
theorem scBLe : FnScope nBLe ["self"] (defScope m_least) := ⟨rfl, rfl, rfl, by decide +kernel, rfl, by decide +kernel, by decide +kernel⟩
theorem ok_bleast (F : FnM K "least" "Book.least" m_least f fd) (BC : BkC K mg C) (cLR : MCalls P w K mg base CX0 6 C "least_rows" (spBLeastRows C N)) (cGr : Calls P w K mg base CX0 6 "grown" (spGrown K N)) : FnOk P w K mg base CX0 7 f fd ["self"] (spBLeast C N) := by
  refine F.ok scBLe (fun vs H Q E h => ?_) (fun cdv A outer s H vs Q E hr h => ?_)
  · obtain ⟨b, d, tb, n, rfl, _⟩ := h
    rfl
  · obtain ⟨b, d, tb, n, rfl, B, T, hN, q⟩ := h
    refine ⟨_, PSs.nox (pss_cons (ps_set (i := 1) scBLe.nd rfl (.inl rfl) (pe_lst (pa_cons (pe_lst pa_nil) pa_nil))) (pss_cons (ps_for PassesOwn.never rfl (pi_list (pe_m0 cLR BC.cl hr (by decide) pa0 (pv 0))) (pg_name (i := 2) scBLe.nd rfl (.inl rfl)) (pss_one (ps_set (i := 1) scBLe.nd rfl (.inl rfl) (pe_k cGr hr (by decide) (by rfl) (pa_cons (pv 1) (pa_cons (pv 2) pa_nil)))))) (pss_one (ps_ret (pv 1))))), ?_⟩
    have one : 1 ≤ sizeLine := by rw [sizeLine_eq]; omega
    refine ⟨Nat.zero_le _, fun e0 ne0 => ⟨one, fun A0 nA0 => ?_⟩⟩
    have T0 := Told.one ne0 nA0
    have g3 : Gr H (upd (upd H e0 (.lst [])) A0 (.lst [V.ref e0])) := (Gr.new ne0).trans (Gr.new nA0)
    generalize upd (upd H e0 (.lst [])) A0 (.lst [V.ref e0]) = H1 at g3 T0
    refine ⟨_, rfl, b, d, tb, n, rfl, B.gr g3, b, d, tb, n, rfl, B.gr g3, T, hN.gr g3, fun L H2 ks g2 T2 e2 => ?_⟩
    have Lin : ∀ r ∈ ks.map (·.2), Ris r ∧ Nms r ∧ r.length ≤ 12 ∧ ∀ y ∈ r, y ∈ allN (rws tb) := by
      intro r hr
      rw [e2] at hr
      have m1 := least_sub (fun x hx => (T.rlen hx).1) hr
      exact ⟨(T.rlen m1).1, (T.rlen m1).2.1, (T.rlen m1).2.2, row_in m1⟩
    refine ⟨L, rfl, ⟨_, .inl (.inl T2.at_)⟩, for_list (K := K) (xs := ks.map fun q : Addr × List Str => V.ref q.1) (fun i σ H3 => Gr H2 H3 ∧ ∃ (A : Addr) (as : List (Addr × List Str)) (v2 : Option V), Told H H3 A as ∧ as.map (·.2) = grown ((ks.map (·.2)).take i) ∧ σ = [some (.ref b), some (.ref A), v2]) ⟨Gr.refl H2, A0, _, none, (T0.gr g2), rfl, rfl⟩ (fun i σ H3 _ h => .inl (.inl (h.1.lst T2.at_))) (fun i x σ H3 hx h => ?_) (fun σ H3 h => ?_)⟩
    · obtain ⟨g23, A, as, v2, TA, ea, rfl⟩ := h
      obtain ⟨k0, hk0, rfl⟩ := get_map hx
      have mk := List.mem_of_getElem? hk0
      obtain ⟨rR, rN, rl, rin⟩ := Lin k0.2 (List.mem_map.mpr ⟨k0, mk, rfl⟩)
      have hin : ∀ r ∈ (ks.map (·.2)).take i, ∀ y ∈ r, y ∈ allN (rws tb) := fun r hr => (Lin r (List.mem_of_mem_take hr)).2.2.2
      have gl := grown_len (ris_allN _) hin
      have as2 : as.length ≤ 4096 := by
        have h1 := congrArg List.length ea
        rw [List.length_map] at h1
        rw [h1]
        exact Nat.le_trans gl (Nat.pow_le_pow_right (by decide) T.nms : 2 ^ _ ≤ 2 ^ 12)
      have g03 := (g3.trans g2).trans g23
      refine ⟨_, rfl, _, rfl, A, .ref k0.1, as, k0.2, rfl, TA.ll, fun q0 hq0 => ?_, by omega, ⟨k0.1, rfl, g23.lst (T2.own k0 mk).2.2, rN, by omega⟩, rR.nodup, rl, (hN.s.gr g03), fun p H4 ps g4 T4 e4 => ⟨g23.trans g4, p, ps, _, T4.from g03, ?_, rfl⟩⟩
      · have m1 : q0.2 ∈ grown ((ks.map (·.2)).take i) := by rw [← ea]; exact List.mem_map.mpr ⟨q0, hq0, rfl⟩
        obtain ⟨h1, h2, h3⟩ := grown_in (ris_allN _) hin m1
        have := T.nms
        exact ⟨h1, by omega⟩
      · rw [e4, ea, ← grown_snoc, ← List.map_take, ← List.map_take, take_map hk0]
    · obtain ⟨g23, A, as, v2, TA, ea, rfl⟩ := h
      rw [List.length_map, List.take_of_length_le (by rw [List.length_map]; exact Nat.le_refl _)] at ea
      refine ⟨_, rfl, q A H3 as ((g3.trans g2).trans g23) TA ?_⟩
      rw [ea, e2]
      have z := grown_least_rows (rws tb)
      rw [once_all fun r hr => (T.rlen hr).1] at z
      exact z
theorem scBFe : FnScope ["self", "sets"] ["self"] (defScope m_fewest) := ⟨rfl, rfl, rfl, by decide +kernel, rfl, by decide +kernel, by decide +kernel⟩
theorem ok_bfewest (F : FnM K "fewest" "Book.fewest" m_fewest f fd) (BC : BkC K mg C) (cLe : MCalls P w K mg base CX0 7 C "least" (spBLeast C N)) (g_len : mg "len" = none) : FnOk P w K mg base CX0 8 f fd ["self"] (spBFewest C N) := by
  refine F.ok scBFe (fun vs H Q E h => ?_) (fun cdv A outer s H vs Q E hr h => ?_)
  · obtain ⟨b, d, tb, n, rfl, _⟩ := h
    rfl
  · obtain ⟨b, d, tb, n, rfl, B, T, hN, q⟩ := h
    refine ⟨_, PSs.nox (pss_cons (ps_set (i := 1) scBFe.nd rfl (.inl rfl) (pe_m0 cLe BC.cl hr (by decide) pa0 (pv 0))) (pss_one (ps_ret (pe_ifExp (pt_truth (pv 1) (by intro _; rfl)) (pe_callB call_len_seq (by rfl) g_len boot_len (pa_cons (pe_ix ix_list (pv 1) pe_int (fun _ _ => rfl)) pa_nil)) pe_non)))), ?_⟩
    refine ⟨_, rfl, b, d, tb, n, rfl, B, b, d, tb, n, rfl, B, T, hN, fun L H2 ks g2 T2 e2 => ?_⟩
    have z := q H2 g2
    unfold fewV at z
    rw [← e2] at z
    refine ⟨_, rfl, _, .inl ⟨_, .inl (.inl T2.at_), rfl⟩, ?_⟩
    cases ks with
    | nil => exact iteF z
    | cons k0 r =>
      refine iteT ⟨_, rfl, L, _, _, _, rfl, rfl, .inl (.inl T2.at_), atI_nat (j := 0) (v := V.ref k0.1) rfl, k0.1, _, rfl, .inl (.inl (.inl (T2.own k0 List.mem_cons_self).2.2)), ?_⟩
      rw [List.length_map]
      exact z
end
end K1
namespace K1
open PySem PySem.Spec PyProof.Rows L2 Gr GxR Srx Skx Dcx
section
variable {P : Program} {w : World} {K : PySem.W.Frag} {mg : Str → Option Value} {base : Heap} {f C : Addr} {fd : FuncData} {p : He.Defn} {N : TabN} {R : ErN}
abbrev nMetBy : List Str := ["self", "one", "row"]
theorem scMetBy : FnScope nMetBy ["self", "one"] (defScope m_met_by) := ⟨rfl, rfl, rfl, by decide +kernel, rfl, by decide +kernel, by decide +kernel⟩
theorem ok_metby (F : FnM K "_met_by" "Book._met_by" m_met_by (He.fAd K p) fd) (TB : Tb K base mg p) (eT : (He.cT K p).2 = N.b) (BC : BkC K mg C) (cSets : MCalls P w K mg base CX0 1 C "_sets" (spBSets C)) (cMe : Calls P w K mg base CX0 1 "meets_sets" (spMeets K N.m)) (g_all : mg "all" = none) :
    FnOk P w K mg base CX0 4 (He.fAd K p) fd ["self", "one"] (spBMetBy K C N) := by
  refine okC F scMetBy (fun vs H Q E h => ?_) (fun A outer s H vs Q E hr h => ?_)
  · obtain ⟨b, d, tb, n, a, xs, rfl, _⟩ := h
    rfl
  · obtain ⟨b, d, tb, n, a, xs, rfl, B, T, hN, ha, q⟩ := h
    have hT : TabG H (He.cT K p).2 := eT ▸ hN.b
    refine ⟨_, PSs.nox (pss_one (ps_ret (Gx.pe_all (own := [("row", 2)]) (gt := gName 2) (tt := tYes) hr rfl scMetBy.nd (by rfl) g_all TB rfl (blkOk_by (N := nMetBy) (sc := defScope m_met_by) (by decide +kernel)) (Gx.gxs_by (by decide +kernel)) (pi_list (pe_m0 cSets BC.cl hr (by decide) pa0 (pv 0))) (fun _ _ _ _ _ _ => (pg_name (i := 2) scMetBy.nd rfl (.inl rfl))) (fun _ _ _ _ _ _ => pts_nil) (fun _ _ _ _ _ _ => (pe_k cMe (Gx.room_gx hr _) (by decide) (by rfl) (pa_cons (pv 1) (pa_cons (pv 2) pa_nil))))))), ?_⟩
    refine ⟨_, rfl, b, d, tb, n, rfl, B, b, d, tb, n, rfl, B, fun L nL => ⟨L, rfl, ⟨_, .inl (.inl upd_same)⟩, ?_⟩⟩
    have g1 : Gr H (upd H L (.lst (tb.map fun e => V.ref e.2.1))) := Gr.new nL
    have eL : (upd H L (.lst (tb.map fun e => V.ref e.2.1))) L = some (.lst (tb.map fun e => V.ref e.2.1)) := upd_same
    generalize upd H L (.lst (tb.map fun e => V.ref e.2.1)) = H1 at g1 eL
    refine Gx.gx_list (xs := tb.map fun e : Int × Addr × List Str => V.ref e.2.1) (g1.tabG hT) (fun i H2 => Gr H1 H2 ∧ mtAll xs ((rws tb).take i) = true) (fun H2 t2 => ⟨Gr.tabbed (g1.tabG hT) t2, rfl⟩) (fun i H2 _ h => .inl (.inl (h.1.lst eL))) (fun i x H2 Nx nx hx h => ?_) (fun H2 h => ?_)
    · obtain ⟨g2, hn⟩ := h
      obtain ⟨e0, he0, rfl⟩ := get_map hx
      have m0 := List.mem_of_getElem? he0
      have g02 := g1.trans g2
      have etk : mtAll xs ((rws tb).take (i + 1)) = (mtAll xs ((rws tb).take i) && mt xs e0.2.2) := by
        unfold mtAll rws
        rw [← List.map_take, take_map he0, List.all_append, ← List.map_take]
        simp
      refine ⟨rfl, yesIf ?_⟩
      refine ⟨_, rfl, _, rfl, a, e0.2.1, xs, e0.2.2, rfl, .inl (.inl (g02.lst ha)), .inl (.inl ((B.gr g02).own e0 m0)), g02.tabG hN.s.m, fun H3 g3 => ⟨_, rfl, fun e => ?_, fun e => nx _ ⟨g2.trans g3, ?_⟩⟩⟩
      · have z := q H3 (g02.trans g3)
        rw [show mtAll xs (rws tb) = false from by
          rw [Bool.eq_false_iff]
          intro hh
          have := List.all_eq_true.mp hh _ (rws_mem m0)
          rw [show mt xs e0.2.2 = false from e] at this
          cases this] at z
        exact z
      · rw [etk, hn, show mt xs e0.2.2 = true from Bool.ne_false_iff.mp e]
        rfl
    · have hn := h.2
      rw [List.length_map, show (rws tb).take tb.length = rws tb from List.take_of_length_le (by unfold rws; rw [List.length_map]; exact Nat.le_refl _)] at hn
      have z := q H2 (g1.trans h.1)
      rw [hn] at z
      exact z
theorem scBMe : FnScope ["self", "names"] ["self", "names"] (defScope m_meets) := ⟨rfl, rfl, rfl, by decide +kernel, rfl, by decide +kernel, by decide +kernel⟩
theorem ok_bmeets (F : FnM K "meets" "Book.meets" m_meets f fd) (BC : BkC K mg C) (cNF : Calls P w K mg base (L2.CX P w) 3 "names_from" (spNamesFrom K N.i R)) (cMB : MCalls P w K mg base CX0 4 C "_met_by" (spBMetBy K C N)) :
    FnOk P w K mg base (L2.CX P w) 5 f fd ["self", "names"] (spBMeets K C N R) := by
  refine F.ok scBMe (fun vs H Q E h => ?_) (fun cdv A outer s H vs Q E hr h => ?_)
  · obtain ⟨b, d, tb, n, v, rfl, _⟩ := h
    rfl
  · obtain ⟨b, d, tb, n, v, rfl, B, T, hN, h⟩ := h
    refine ⟨_, pss_one (ps_ret (pe_m cMB BC.cl hr (by decide) pa0 (pv 0) (pa_cons (pe_f cNF hr (by decide) (paE (takes_of rfl rfl rfl rfl)) (by rfl) (pa_cons (pv 1) pa_nil)) pa_nil))), ?_⟩
    refine ⟨_, rfl, b, d, tb, n, rfl, B, _, rfl, _, rfl, hN.s.i, ?_⟩
    rcases h with ⟨xs, hk, q⟩ | ⟨hb, q⟩ | ⟨hb, q⟩
    · refine .inl ⟨xs, hk, fun p H1 g1 np ep => ⟨b, d, tb, n, p, once xs, rfl, B.gr g1, T, hN.gr g1, ep, fun H2 g2 => ?_⟩⟩
      rw [mtAll_once_l]
      exact q H2 (g1.trans g2)
    · exact .inr (.inl ⟨hb, q⟩)
    · exact .inr (.inr ⟨hb, q⟩)
theorem scBMg : FnScope ["self", "names", "asked"] ["self", "names"] (defScope m_meeting) := ⟨rfl, rfl, rfl, by decide +kernel, rfl, by decide +kernel, by decide +kernel⟩
theorem ok_bmeeting (F : FnM K "_meeting" "Book._meeting" m_meeting f fd) (BC : BkC K mg C) (cNF : Calls P w K mg base (L2.CX P w) 3 "names_from" (spNamesFrom K N.i R)) (cMB : MCalls P w K mg base CX0 4 C "_met_by" (spBMetBy K C N)) (eMeet : ErrC K mg "NoMeet" R.meet) :
    FnOk P w K mg base (L2.CX P w) 5 f fd ["self", "names"] (spBMeeting K C N R) := by
  refine F.ok scBMg (fun vs H Q E h => ?_) (fun cdv A outer s H vs Q E hr h => ?_)
  · obtain ⟨b, d, tb, n, v, rfl, _⟩ := h
    rfl
  · obtain ⟨b, d, tb, n, v, rfl, B, T, hN, h⟩ := h
    refine ⟨_, pss_cons (ps_set (i := 2) scBMg.nd rfl (.inl rfl) (pe_f cNF hr (by decide) (paE (takes_of rfl rfl rfl rfl)) (by rfl) (pa_cons (pv 1) pa_nil))) (pss_cons (ps_if (pt_not (pt_val (pe_m cMB BC.cl hr (by decide) pa0 (pv 0) (pa_cons (pv 2) pa_nil)))) (pss_one (ps_raise rfl (takes_of rfl rfl rfl rfl) (SkE.pmk_own1 PySem.F.excBase_ValueError eMeet.xC eMeet.gC eMeet.kC (raises_own eMeet.bC eMeet.tC) (by rfl) pe_str))) (pss_nil)) (pss_one (ps_ret (pv 2)))), ?_⟩
    refine ⟨_, rfl, _, rfl, hN.s.i, ?_⟩
    rcases h with ⟨xs, hk, hm, q⟩ | ⟨xs, hk, hm, q⟩ | ⟨hb, q⟩ | ⟨hb, q⟩
    · refine .inl ⟨xs, hk, fun p H1 g1 np ep => ⟨_, rfl, b, d, tb, n, rfl, B.gr g1, _, rfl, b, d, tb, n, p, once xs, rfl, B.gr g1, T, hN.gr g1, ep, fun H2 g2 => ⟨_, rfl, ?_⟩⟩⟩
      rw [mtAll_once_l, hm]
      exact iteF ⟨_, rfl, q p H2 (g1.trans g2) np (g2.lst ep)⟩
    · refine .inl ⟨xs, hk, fun p H1 g1 np ep => ⟨_, rfl, b, d, tb, n, rfl, B.gr g1, _, rfl, b, d, tb, n, p, once xs, rfl, B.gr g1, T, hN.gr g1, ep, fun H2 g2 => ⟨_, rfl, ?_⟩⟩⟩
      rw [mtAll_once_l, hm]
      exact iteT (q H2 (g1.trans g2))
    · exact .inr (.inl ⟨hb, q⟩)
    · exact .inr (.inr ⟨hb, q⟩)
end
end K1
namespace K1
open PySem PySem.Spec PyProof.Rows L2 Gr GxR Srx Skx Dcx
section
variable {P : Program} {w : World} {K : PySem.W.Frag} {mg : Str → Option Value} {base : Heap} {f C : Addr} {fd : FuncData} {p : He.Defn} {N : TabN} {R : ErN}
abbrev nBookOf : List Str := ["rows", "book", "row"]
end
end K1
namespace K1
open PySem PySem.Spec PyProof.Rows L2 Gr GxR Srx Skx Dcx
section
variable {P : Program} {w : World} {K : PySem.W.Frag} {mg : Str → Option Value} {base : Heap} {f C : Addr} {fd : FuncData} {p : He.Defn} {N : TabN} {R : ErN}
abbrev nStruck : List Str := ["self", "name", "gone", "row", "one"]
abbrev nWithout : List Str := ["self", "name", "gone", "row"]
abbrev nCrossed : List Str := ["self", "other", "row", "theirs"]
end
end K1
namespace K1
open PySem PySem.Spec PyProof.Rows L2 Gr GxR Srx Skx Dcx
section
variable {P : Program} {w : World} {K : PySem.W.Frag} {mg : Str → Option Value} {base : Heap} {f C : Addr} {fd : FuncData} {p : He.Defn} {N : TabN} {R : ErN}
abbrev nBPared : List Str := ["self", "names", "asked", "kept", "name", "rest", "one"]
abbrev nFirst : List Str := ["self", "name", "asked", "number", "row", "one"]
theorem scFirst : FnScope nFirst ["self", "name", "asked"] (defScope m_first_own) := ⟨rfl, rfl, rfl, by decide +kernel, rfl, by decide +kernel, by decide +kernel⟩
theorem ok_first_own (F : FnM K "_first_own" "Book._first_own" m_first_own f fd) (BC : BkC K mg C) : FnOk P w K mg base CX0 1 f fd ["self", "name", "asked"] (spFirstOwn K C) := by
  refine F.ok scFirst (fun vs H Q E h => ?_) (fun cdv A outer s H vs Q E hr h => ?_)
  · obtain ⟨b, d, tb, n, x, a, asked, rfl, _⟩ := h
    rfl
  · obtain ⟨b, d, tb, n, x, a, asked, rfl, B, T, ha, nma, nx, al, q⟩ := h
    refine ⟨_, PSs.nox (pss_cons (ps_lock (ps_for PassesOwn.never rfl (pi_items (pe_fld (pv 0) rfl)) (pg_tup rfl (pgs_cons (pg_name (i := 3) scFirst.nd rfl (.inl rfl)) (pgs_cons (pg_name (i := 4) scFirst.nd rfl (.inr rfl)) pgs_nil))) (pss_one (ps_if (pt_cmpR (op_eqD (hu64 hr)) (pe_lc (own := [("one", 5)]) (g := gName 5) rfl scFirst.nd (pi_list (pv 2)) (blkOk_by (N := nFirst) (sc := defScope m_first_own) (by decide +kernel)) (fun _ _ _ _ _ => (pg_name (i := 5) scFirst.nd rfl (.inl rfl))) (fun _ _ _ _ _ => pts_one (pt_cmpR (r := rIn K false) op_in_seq (pv 5) (pv 4) rfl)) (fun _ _ _ _ _ => (pv 5))) (pe_lst (pa_cons (pv 1) pa_nil)) (nomark _)) (pss_one (ps_ret (pv 3))) (pss_nil))))) (pss_one (ps_ret pe_non))), ?_⟩
    obtain ⟨dx, eb⟩ := B.ob
    have nbd := B.ne
    have nad : a ≠ d := ne_of ha B.dc (by intro z; cases z)
    refine ⟨d, _, B.dc, trivial, fun od => ?_⟩
    have eL : (upd H d (.frz od (.dK (kvB tb)))) d = some (.frz od (.dK (kvB tb))) := upd_same
    have oL : ∀ e ∈ tb, (upd H d (.frz od (.dK (kvB tb)))) e.2.1 = some (.lst (e.2.2.map V.str)) := fun e he => by rw [upd_ne (B.neb he).2]; exact B.own e he
    have aL : (upd H d (.frz od (.dK (kvB tb)))) a = some (.lst (asked.map V.str)) := by rw [upd_ne nad]; exact ha
    refine ⟨_, rfl, b, C, dx, _, _, rfl, (by rw [upd_ne nbd]; exact eb), BC.cl, BC.nR, bfl_rows d n, d, od, kvB tb, rfl, eL, ?_⟩
    have hback : ∀ H', Gr (upd H d (.frz od (.dK (kvB tb)))) H' → Gr H (upd H' d (.dK (kvB tb))) := fun H' g => gr_lock B.dc (fun ps z => nomatch z) g
    generalize upd H d (.frz od (.dK (kvB tb))) = HL at eL oL aL hback
    refine for_it (walk_items (d := d) (o := od) (kvs := kvB tb)) (fun i σ H2 => Gr HL H2 ∧ (tb.take i).find? (fun e => decide (asked.filter e.2.2.contains = [x])) = none ∧ ∃ v3 v4, σ = [some (.ref b), some (.str x), some (.ref a), v3, v4, none]) ⟨Gr.refl HL, rfl, none, none, rfl⟩ (fun i σ H2 _ h => h.1.at_ _ _ eL notbl_frz) (fun i xx σ H2 H3 hi h y => ?_) (fun σ H2 h => ?_)
    · obtain ⟨g2, hn, v3, v4, rfl⟩ := h
      obtain ⟨TT, ky, vv, rfl, nT, rfl, hk, hv⟩ := y
      rw [kvB_len] at hi
      have hx : tb[i]? = some tb[i] := List.getElem?_eq_getElem hi
      generalize tb[i] = e0 at hx
      have m0 := List.mem_of_getElem? hx
      have hkv : (kvB tb)[i]? = some ((Sum.inl e0.1 : Key), V.ref e0.2.1) := by
        unfold kvB
        rw [List.getElem?_map, hx]
        rfl
      have hk : Option.map (fun kv : Key × V => kV kv.1) (kvB tb)[i]? = some ky := hk
      have hv : Option.map Prod.snd (kvB tb)[i]? = some vv := hv
      rw [hkv] at hk hv
      obtain rfl : V.int e0.1 = ky := Option.some.inj hk
      obtain rfl : V.ref e0.2.1 = vv := Option.some.inj hv
      have g3 : Gr HL (upd H2 TT (.tup [.int e0.1, .ref e0.2.1])) := g2.trans (Gr.new nT)
      refine ⟨TT, _, rfl, .inl (.inl upd_same), rfl, _, _, rfl, _, _, rfl, rfl, ?_⟩
      generalize upd H2 TT (.tup [.int e0.1, .ref e0.2.1]) = H3 at g3
      refine ⟨_, rfl, a, rfl, ⟨_, .inl (.inl (g3.lst aL))⟩, fun D nD => lc_filtT (K := K) e0.2.2.contains (.inl (.inl (g3.lst aL))) (small1000 al) nD (fun _ => rfl) (fun _ => rfl) (fun y hy H5 Qb g5 hb => ?_) (fun H4 g4 e4 => ?_)⟩
      · refine ⟨_, rfl, _, rfl, e0.2.1, _, rfl, .inl (.inl (.inl ((g3.trans g5).lst (oL e0 m0)))), rfl, flat_str e0.2.2, _, rfl, ?_⟩
        rw [inV_str]
        exact hb H5 (Gr.refl H5)
      · refine ⟨_, rfl, (by show 1 ≤ sizeLine; rw [sizeLine_eq]; omega), fun D2 nD2 => ?_⟩
        have g5 : Gr H4 (upd H4 D2 (.lst [V.str x])) := Gr.new nD2
        have e5 : (upd H4 D2 (.lst [V.str x])) D2 = some (.lst ([x].map V.str)) := upd_same
        generalize upd H4 D2 (.lst [V.str x]) = H5 at g5 e5
        have nmf : Nms (asked.filter e0.2.2.contains) := fun y hy => nma y (List.mem_filter.mp hy).1
        refine ⟨_, _, dp_dS (.inl (.inl (g5.lst e4))), dp_dS (.inl (.inl e5)), shaped_dS nmf, shaped_dS (fun y hy => by rw [List.mem_singleton.mp hy]; exact nx), _, rfl, ?_⟩
        rw [eqv_dS]
        have g05 := (g3.trans g4).trans g5
        by_cases hh : asked.filter e0.2.2.contains = [x]
        · rw [decide_eq_true hh]
          have hf := find_done hx hn (decide_eq_true hh)
          have z := q _ (hback H5 g05)
          unfold firstOwn at z
          rw [hf] at z
          exact iteT ⟨_, rfl, g05.at_ _ _ eL notbl_frz, z⟩
        · rw [decide_eq_false hh]
          refine iteF ⟨g05, ?_, _, _, rfl⟩
          rw [find_snoc hx hn, if_neg]
          rw [decide_eq_false hh]
          exact Bool.false_ne_true
    · obtain ⟨g2, hn, v3, v4, rfl⟩ := h
      rw [kvB_len, List.take_length] at hn
      have z := q _ (hback H2 g2)
      unfold firstOwn at z
      rw [hn] at z
      exact ⟨g2.at_ _ _ eL notbl_frz, z⟩
end
end K1
namespace K1
open PySem PySem.Spec PyProof.Rows L2 Gr GxR Srx Skx Dcx
section
variable {P : Program} {w : World} {K : PySem.W.Frag} {mg : Str → Option Value} {base : Heap} {f C : Addr} {fd : FuncData} {p : He.Defn} {N : TabN} {R : ErN}
abbrev nOwn : List Str := ["self", "names", "asked", "told", "name", "_", "number"]
theorem scOwn : FnScope nOwn ["self", "names"] (defScope m_own) := ⟨rfl, rfl, rfl, by decide +kernel, rfl, by decide +kernel, by decide +kernel⟩
theorem ok_own (F : FnM K "own" "Book.own" m_own (He.fAd K p) fd) (TB : Tb K base mg p) (eT : (He.cT K p).2 = N.o) (BC : BkC K mg C) (cMg : MCalls P w K mg base (L2.CX P w) 5 C "_meeting" (spBMeeting K C N R)) (cFO : MCalls P w K mg base CX0 1 C "_first_own" (spFirstOwn K C)) (eMeet : ErrC K mg "NoMeet" R.meet) (g_any : mg "any" = none) :
    FnOk P w K mg base (L2.CX P w) 6 (He.fAd K p) fd ["self", "names"] (spBOwn K C N R) := by
  refine okC F scOwn (fun vs H Q E h => ?_) (fun A outer s H vs Q E hr h => ?_)
  · obtain ⟨b, d, tb, n, v, rfl, _⟩ := h
    rfl
  · obtain ⟨b, d, tb, n, v, rfl, B, T, hN, h⟩ := h
    have hT : TabG H (He.cT K p).2 := eT ▸ hN.o
    refine ⟨_, pss_cons (ps_set (i := 2) scOwn.nd rfl (.inr rfl) (pe_m cMg BC.cl hr (by decide) (paE (takes_of rfl rfl rfl rfl)) (pv 0) (pa_cons (pv 1) pa_nil))) (pss_cons (ps_setLc (i := 3) (own := [("name", 4)]) (g := gName 4) (tt := tYes) rfl scOwn.nd rfl rfl (sw_true rfl rfl rfl (by decide +kernel)) (pi_list (pv 2)) (blkOk_by (N := nOwn) (sc := defScope m_own) (by decide +kernel)) (fun _ _ _ _ _ => (pg_name (i := 4) scOwn.nd rfl (.inl rfl))) (fun _ _ _ _ _ => pts_nil) (fun _ _ _ _ _ => (pe_tup (pa_cons (pv 4) (pa_cons (pe_m cFO BC.cl hr (by decide) pa0 (pv 0) (pa_cons (pv 4) (pa_cons (pv 2) pa_nil))) pa_nil))))) (pss_cons (ps_if (pt_val (Gx.pe_any (own := [("_", 5), ("number", 6)]) (gt := gTup K 2 (gCons (gName 5) (gCons (gName 6) gNil))) (tt := tYes) hr rfl scOwn.nd (by rfl) g_any TB rfl (blkOk_by (N := nOwn) (sc := defScope m_own) (by decide +kernel)) (Gx.gxs_by (by decide +kernel)) (pi_list (pv 3)) (fun _ _ _ _ _ _ => (pg_tup rfl (pgs_cons (pg_name (i := 5) scOwn.nd rfl (.inl rfl)) (pgs_cons (pg_name (i := 6) scOwn.nd rfl (.inl rfl)) pgs_nil)))) (fun _ _ _ _ _ _ => pts_nil) (fun _ _ _ _ _ _ => (pe_cmpR op_isN (pv 6) pe_non (nomark _))))) (pss_one (ps_raise rfl (takes_of rfl rfl rfl rfl) (SkE.pmk_own1 PySem.F.excBase_ValueError eMeet.xC eMeet.gC eMeet.kC (raises_own eMeet.bC eMeet.tC) (by rfl) pe_str))) (pss_nil)) (pss_one (ps_ret (pv 3))))), ?_⟩
    refine ⟨_, rfl, b, d, tb, n, rfl, B, _, rfl, b, d, tb, n, v, rfl, B, T, hN, ?_⟩
    have h : (∃ xs, HOk H v xs ∧ mtAll xs (rws tb) = true ∧ (((∀ x ∈ once xs, (firstOwn tb (once xs) x).isSome = true) ∧
        ∀ p H' (ts : List (Addr × Str × Int)), Gr H H' → H p = none → H' p = some (.lst (ts.map fun t => V.ref t.1)) → (∀ t ∈ ts, H t.1 = none ∧ t.1 ≠ p ∧ H' t.1 = some (.tup [.str t.2.1, .int t.2.2])) → ts.map (·.2) = (once xs).map (fun x => (x, (firstOwn tb (once xs) x).getD 0)) → Q (.ref p) H') ∨
        ((∃ x ∈ once xs, firstOwn tb (once xs) x = none) ∧ ∀ H', Gr H H' → E (.ref R.meet) none H'))) ∨ (∃ xs, HOk H v xs ∧ mtAll xs (rws tb) = false ∧ ∀ H', Gr H H' → E (.ref R.meet) none H') ∨
        (HBadN K H v ∧ ∀ H', Gr H H' → E (.ref R.name) none H') ∨ (HBadR K H v ∧ ∀ H', Gr H H' → E (.ref R.row) none H') := by
      rcases h with ⟨xs, hk, hm, a1, q⟩ | ⟨xs, hk, hm, q⟩ | h | h
      · exact .inl ⟨xs, hk, hm, .inl ⟨a1, q⟩⟩
      · cases em : mtAll xs (rws tb) with
        | true =>
          rcases hm with hm | hm
          · rw [em] at hm; cases hm
          · exact .inl ⟨xs, hk, em, .inr ⟨hm, q⟩⟩
        | false => exact .inr (.inl ⟨xs, hk, em, q⟩)
      · exact .inr (.inr (.inl h))
      · exact .inr (.inr (.inr h))
    rcases h with ⟨xs, hk, hm, h⟩ | ⟨xs, hk, hm, q⟩ | ⟨hb, q⟩ | ⟨hb, q⟩
    rotate_left
    · exact .inr (.inl ⟨xs, hk, hm, q⟩)
    · exact .inr (.inr (.inl ⟨hb, q⟩))
    · exact .inr (.inr (.inr ⟨hb, q⟩))
    obtain ⟨_, _, _, nmx, fewx⟩ := id hk
    refine .inl ⟨xs, hk, hm, fun a H1 g1 na ea => ?_⟩
    have al : (once xs).length ≤ 1000 := Nat.le_trans once_len fewx
    have nmo := once_nms nmx
    generalize once xs = ask at h ea al nmo
    refine ⟨_, rfl, a, rfl, ⟨_, .inl (.inl ea)⟩, fun D nD => lc_list (K := K) (xs := ask.map V.str) (fun i H2 => Gr H1 H2 ∧ ∃ ts : List (Addr × Str × V), H2 D = some (.lst (ts.map fun t => V.ref t.1)) ∧ (∀ t ∈ ts, H1 t.1 = none ∧ t.1 ≠ D ∧ H2 t.1 = some (.tup [.str t.2.1, t.2.2])) ∧ ts.map (·.2) = (ask.take i).map (fun x => (x, ownV (firstOwn tb ask x)))) ⟨Gr.new nD, [], upd_same, fun _ z => absurd z List.not_mem_nil, rfl⟩ (fun i H2 _ h => .inl (.inl (h.1.lst ea))) (fun i x H2 hx h2 => ?_) (fun H2 h2 => ?_)⟩
    · obtain ⟨g2, ts, eD, own, et⟩ := h2
      obtain ⟨x0, hx0, rfl⟩ := get_map hx
      have m0 := List.mem_of_getElem? hx0
      have hi : i < ask.length := (List.getElem?_eq_some_iff.mp hx0).1
      refine ⟨rfl, yesIf ?_⟩
      refine ⟨_, rfl, _, rfl, b, d, tb, n, rfl, B.gr (g1.trans g2), _, rfl, _, rfl, b, d, tb, n, x0, a, ask, rfl, B.gr (g1.trans g2), T, g2.lst ea, nmo, nmo x0 m0, al, fun H3 g3 => ⟨(by show 2 ≤ sizeLine; decide), fun t nt => ?_⟩⟩
      have tD : t ≠ D := (ne_of_none (g3.lst eD) nt).symm
      have g4 : Gr H3 (upd H3 t (.tup [.str x0, ownV (firstOwn tb ask x0)])) := Gr.new nt
      have et4 : (upd H3 t (.tup [.str x0, ownV (firstOwn tb ask x0)])) t = some (.tup [.str x0, ownV (firstOwn tb ask x0)]) := upd_same
      generalize upd H3 t (.tup [.str x0, ownV (firstOwn tb ask x0)]) = H4 at g4 et4
      refine ⟨_, (g3.trans g4).lst eD, ?_, (g2.trans (g3.trans g4)).mut nD, ts ++ [(t, x0, ownV (firstOwn tb ask x0))], ?_, fun u hu => ?_, ?_⟩
      · rw [List.length_map]
        have h1 := congrArg List.length et
        rw [List.length_map, List.length_map, List.length_take] at h1
        exact small1000 (by omega)
      · rw [upd_same, List.map_append]
        rfl
      · rcases List.mem_append.mp hu with hu | hu
        · obtain ⟨h1, h2, h3⟩ := own u hu
          exact ⟨h1, h2, by rw [upd_ne h2]; exact (g3.trans g4).tup h3⟩
        · rw [List.mem_singleton.mp hu]
          exact ⟨(g2.trans g3).free nt, tD, by rw [upd_ne tD]; exact et4⟩
      · rw [List.map_append, et, take_map hx0]
        rfl
    · obtain ⟨g2, ts, eD, own, et⟩ := h2
      rw [List.length_map, List.take_length] at et
      have g02 := g1.trans g2
      have tsl : ts.length = ask.length := by
        have h1 := congrArg List.length et
        rw [List.length_map, List.length_map] at h1
        exact h1
      refine ⟨_, rfl, D, rfl, ⟨_, .inl (.inl eD)⟩, Gx.gx_list (xs := ts.map fun t : Addr × Str × V => V.ref t.1) (g02.tabG hT) (fun i H3 => Gr H2 H3 ∧ ∀ t ∈ ts.take i, t.2.2 ≠ .non) (fun H3 t3 => ⟨Gr.tabbed (g02.tabG hT) t3, fun _ z => absurd z List.not_mem_nil⟩) (fun i H3 _ h3 => .inl (.inl (h3.1.lst eD))) (fun i x H3 Nx nx hx h3 => ?_) (fun H3 h3 => ?_)⟩
      · obtain ⟨g3, hn⟩ := h3
        obtain ⟨t0, ht0, rfl⟩ := get_map hx
        have mt0 := List.mem_of_getElem? ht0
        obtain ⟨_, _, et0⟩ := own t0 mt0
        refine ⟨t0.1, _, rfl, .inl (.inl (g3.tup et0)), rfl, _, _, rfl, _, _, rfl, rfl, rfl, yesIf ?_⟩
        refine ⟨_, rfl, rfl, _, rfl, fun e => ?_, fun e => nx _ ⟨g3, fun t ht => ?_⟩⟩
        · have e : t0.2.2 = V.non := of_decide_eq_true e
          rcases h with ⟨all, _⟩ | ⟨_, qE⟩
          · exfalso
            have m1 : t0.2 ∈ ask.map (fun x => (x, ownV (firstOwn tb ask x))) := by rw [← et]; exact List.mem_map.mpr ⟨t0, mt0, rfl⟩
            obtain ⟨x1, hx1, e1⟩ := List.mem_map.mp m1
            have := all x1 hx1
            rw [← e1] at e
            cases ef : firstOwn tb ask x1 with
            | none => rw [ef] at this; cases this
            | some k =>
              have e : ownV (firstOwn tb ask x1) = V.non := e
              rw [ef] at e; cases e
          · exact ⟨_, rfl, iteT (qE _ (g02.trans g3))⟩
        · rw [List.take_add_one, ht0] at ht
          rcases List.mem_append.mp ht with ht | ht
          · exact hn t ht
          · rw [List.mem_singleton.mp ht]
            exact fun z => e (decide_eq_true z)
      · obtain ⟨g3, hn⟩ := h3
        rw [List.length_map, List.take_length] at hn
        refine ⟨_, rfl, iteF ?_⟩
        have some_ : ∀ x ∈ ask, (firstOwn tb ask x).isSome = true := by
          intro x hx
          have m1 : (x, ownV (firstOwn tb ask x)) ∈ ts.map (·.2) := by rw [et]; exact List.mem_map.mpr ⟨x, hx, rfl⟩
          obtain ⟨t, ht, e1⟩ := List.mem_map.mp m1
          have := hn t ht
          rw [e1] at this
          cases ef : firstOwn tb ask x with
          | none => rw [ef] at this; exact absurd rfl this
          | some k => rfl
        rcases h with ⟨_, q⟩ | ⟨⟨x, hx, e⟩, _⟩
        · refine ⟨_, rfl, q D H3 (ts.map fun t => (t.1, t.2.1, match t.2.2 with | .int k => k | _ => 0)) (g02.trans g3) (g1.free nD) (by rw [List.map_map]; exact g3.lst eD) (fun t ht => ?_) ?_⟩
          · obtain ⟨u, hu, rfl⟩ := List.mem_map.mp ht
            obtain ⟨h1, h2, h3⟩ := own u hu
            refine ⟨g1.free h1, h2, ?_⟩
            have m1 : u.2 ∈ ask.map (fun x => (x, ownV (firstOwn tb ask x))) := by rw [← et]; exact List.mem_map.mpr ⟨u, hu, rfl⟩
            obtain ⟨x1, hx1, e1⟩ := List.mem_map.mp m1
            have s1 := some_ x1 hx1
            cases ef : firstOwn tb ask x1 with
            | none => rw [ef] at s1; cases s1
            | some k =>
              have e2 : u.2.2 = .int k := by rw [← e1, ef]; rfl
              have := g3.tup h3
              rw [e2] at this
              rw [e2]
              exact this
          · rw [List.map_map]
            have e5 : ts.map (fun t => (t.2.1, match t.2.2 with | .int k => k | _ => (0 : Int))) = (ts.map (·.2)).map (fun z => (z.1, match z.2 with | .int k => k | _ => (0 : Int))) := by
              rw [List.map_map]
              rfl
            refine Eq.trans (show _ = ts.map (fun t => (t.2.1, match t.2.2 with | .int k => k | _ => (0 : Int))) from rfl) ?_
            rw [e5, et, List.map_map]
            refine List.map_congr_left fun x hx => ?_
            have s1 := some_ x hx
            cases ef : firstOwn tb ask x with
            | none => rw [ef] at s1; cases s1
            | some k =>
              show (x, _) = _
              simp only [Function.comp, ef]
              rfl
        · have := some_ x hx
          rw [e] at this
          cases this
abbrev nNeeded : List Str := ["self", "row"]
end
end K1
namespace K1
open PySem PySem.Spec PyProof.Rows L2 Gr GxR Srx Skx Dcx
section
variable {P : Program} {w : World} {K : PySem.W.Frag} {mg : Str → Option Value} {base : Heap} {f C : Addr} {fd : FuncData} {p : He.Defn} {N : TabN} {R : ErN}
abbrev nLBook : List Str := ["_law_rows", "_law_book_here", "_law_row_here"]
theorem scLBook : FnScope nLBook ["_law_rows"] (defScope s_law_book) := ⟨rfl, rfl, rfl, by decide +kernel, rfl, by decide +kernel, by decide +kernel⟩
theorem ok_lbook (F : FnP K "_law_book" s_law_book f fd) (BC : BkC K mg C) (cMk : MkB P w K mg base C) (cPut : MCalls P w K mg base (L2.CX P w) 5 C "put" (spPut K C N R)) (g_list : mg "list" = none) :
    FnOk P w K mg base CX0 6 f fd ["_law_rows"] (spLBook K C N) := by
  refine F.ok scLBook (fun vs H Q E h => ?_) (fun cdv A outer s H vs Q E hr h => ?_)
  · obtain ⟨a, ps, rfl, _⟩ := h
    rfl
  · obtain ⟨a, ps, rfl, lA, RO, hN, q⟩ := h
    refine ⟨_, PSs.nox (pss_cons (ps_set (i := 1) scLBook.nd rfl (.inl rfl) (pe_new cMk BC hr (by decide) (by rfl))) (pss_cons (ps_for PassesOwn.never rfl (pi_list (pv 0)) (pg_name (i := 2) scLBook.nd rfl (.inl rfl)) (pss_one (ps_expr (pe_m cPut BC.cl hr (by decide) paL (pv 1) (pa_cons (pe_callTy call_list_of (by rfl) g_list boot_list (pa_cons (pv 2) pa_nil)) pa_nil))))) (pss_one (ps_ret (pv 1))))), ?_⟩
    intro b d H1 g1 nb ndd B1
    have few := RO.few
    rw [List.length_map] at few
    refine ⟨_, rfl, a, rfl, ⟨_, (lA.gr g1).at_⟩, for_list (K := K) (xs := ps.map fun q : Addr × List Str => V.ref q.1) (fun i σ H2 => Gr H H2 ∧ ∃ (tb : Tb1) (v : Option V), NewB C H H2 b d tb ((ps.take i).map (·.2)) ∧ σ = [some (.ref a), some (.ref b), v]) ⟨g1, [], none, ⟨nb, ndd, B1, Tok.nil, rfl⟩, rfl⟩ (fun i σ H2 _ h => (lA.gr h.1).at_) (fun i x σ H2 hx h => ?_) (fun σ H2 h => ?_)⟩
    · obtain ⟨g2, tb, v, NB, rfl⟩ := h
      obtain ⟨q0, hq0, rfl⟩ := get_map hx
      have m0 := List.mem_of_getElem? hq0
      have hi : i < ps.length := (List.getElem?_eq_some_iff.mp hq0).1
      obtain ⟨rn, rd, rl⟩ := RO.row q0.2 (List.mem_map.mpr ⟨q0, m0, rfl⟩)
      refine ⟨_, rfl, b, d, tb, _, rfl, NB.bk, _, rfl, q0.1, q0.2.map V.str, rfl, .inl ((lA.gr g2).own q0 m0), fun l nl => ?_⟩
      have g3 : Gr H2 (upd H2 l (.lst (q0.2.map V.str))) := Gr.new nl
      have el : (upd H2 l (.lst (q0.2.map V.str))) l = some (.lst (q0.2.map V.str)) := upd_same
      generalize upd H2 l (.lst (q0.2.map V.str)) = H3 at g3 el
      have len : ((ps.take i).map (·.2)).length = i := by rw [List.length_map, List.length_take]; omega
      have tlen : tb.length = i := by
        have h1 := congrArg List.length NB.rows
        unfold nr numd at h1
        rw [List.length_map, List.length_mapIdx, List.length_map, len] at h1
        exact h1
      have wide : (allN (rws tb ++ [q0.2])).length ≤ 12 := by
        rw [NB.rws, ← allN_once, ← List.map_singleton (f := once), ← List.map_append, allN_map_once]
        refine Nat.le_trans (allN_mono fun r hr => ?_) RO.wide
        rcases List.mem_append.mp hr with hr | hr
        · exact ((List.take_sublist i ps).map _).subset hr
        · rw [List.mem_singleton.mp hr]
          exact List.mem_map.mpr ⟨q0, m0, rfl⟩
      refine ⟨b, d, tb, _, .ref l, rfl, NB.bk.gr g3, NB.ok, (hN.gr g2).gr g3, .inl ⟨q0.2, ⟨l, rfl, el, rn, by omega⟩, rl, rd, by omega, wide, fun p H4 g4 np B4 => ⟨GrX.young (g2.trans g3) g4 (fun z hz => ?_), tb ++ [((((ps.take i).map (·.2)).length : Int), p, once q0.2)], _, ⟨nb, ndd, ?_, ?_, ?_⟩, rfl⟩⟩⟩
      · rcases hz with rfl | rfl
        · exact nb
        · exact ndd
      · rw [take_map hq0, List.length_append]
        exact B4
      · rw [take_map hq0, List.length_append]
        exact NB.ok.put rn (by omega) wide p
      · rw [nr_snoc, NB.rows, take_map hq0, List.map_append]
        show _ = numd (_ ++ [once q0.2])
        rw [numd_snoc, List.length_map (f := once)]
    · obtain ⟨g2, tb, v, NB, rfl⟩ := h
      rw [List.length_map, List.take_length] at NB
      exact ⟨_, rfl, q b d H2 tb g2 NB⟩
end
end K1
end
section
set_option maxHeartbeats 4000000
namespace K1
open PySem PySem.Spec PyProof.Rows L2 Gr GxR Srx Skx Dcx
def zL : List Nat := [122, 122, 122, 122]
theorem zz_eq : Str.ofString "zzzz" = SX.S zL := by decide +kernel
theorem zz_nm : isNm (Str.ofString "zzzz") = true := by decide +kernel
theorem S_inj {a b : List Nat} (h : SX.S a = SX.S b) : a = b := by
  have := congrArg (fun s : Str => s.cps.toList) h
  simpa using this
theorem drop_head (d : Nat) (h : d ≤ 17) : ∃ r, L0.drop d = (97 + d) :: r := by
  refine ⟨L0.drop (d + 1), ?_⟩
  have hd : d < L0.length := by rw [L0_len]; omega
  rw [List.drop_eq_getElem_cons hd]
  congr 1
  have := L0_at (j := d) (by omega)
  rw [List.getElem?_eq_getElem hd] at this
  exact Option.some.inj this
theorem zz_not (c : Int) : Str.ofString "zzzz" ∉ names c := by
  rw [zz_eq]
  have d9 : (c / 28 % 18).toNat ≤ 17 := by
    have := Int.emod_lt_of_pos (c / 28) (show (0 : Int) < 18 by omega)
    omega
  unfold names
  intro h
  split at h
  · obtain ⟨k, _, e⟩ := List.mem_map.mp h
    have e := S_inj e
    obtain ⟨r, er⟩ := drop_head _ d9
    rw [er, List.take_succ_cons] at e
    unfold zL at e
    injection e with e1 _
    omega
  · split at h
    · obtain ⟨k, _, e⟩ := List.mem_map.mp h
      have e := congrArg List.length (S_inj e)
      have tl : (turned (c / 28 % 18).toNat).length = 8 := by
        unfold turned
        rw [List.length_take, List.length_drop, L0_len]
        omega
      rw [List.length_append, List.length_drop, List.length_take, tl] at e
      have : zL.length = 4 := rfl
      omega
    · obtain ⟨k, _, e⟩ := List.mem_map.mp h
      have e := S_inj e
      have el := congrArg List.length e
      have bl : (baseOf c (c / 28 % 8).toNat).length = (c / 28 % 8).toNat := by
        unfold baseOf
        rw [List.length_map, List.length_range]
      generalize hs : (c / 28 % 8).toNat = sz at e el bl
      generalize (c / 7 % (c / 28 % 8 + 1)).toNat = at_ at e el
      have zl : zL.length = 4 := rfl
      rw [List.length_append, List.length_append, List.length_take, List.length_drop, bl, List.length_singleton, zl] at el
      have sz3 : sz = 3 := by omega
      subst sz3
      have all : ∀ x ∈ baseOf c 3, x = 122 := by
        intro x hx
        have hx : x ∈ (baseOf c 3).take at_ ++ (baseOf c 3).drop at_ := by rw [List.take_append_drop]; exact hx
        have : x ∈ zL := by
          rw [← e]
          rcases List.mem_append.mp hx with h1 | h1
          · exact List.mem_append_left _ (List.mem_append_left _ h1)
          · exact List.mem_append_right _ h1
        unfold zL at this
        simpa using this
      have a0 := all (let_ (c / 224 + 5 * ((0 : Nat) : Int))) (List.mem_map.mpr ⟨0, List.mem_range.mpr (by omega), rfl⟩)
      have a1 := all (let_ (c / 224 + 5 * ((1 : Nat) : Int))) (List.mem_map.mpr ⟨1, List.mem_range.mpr (by omega), rfl⟩)
      rw [let_eq] at a0 a1
      omega
theorem pared_once (A : List (List Str)) (x : List Str) : pared (A.map once) x = pared A x := by
  unfold pared
  have e : pareStep (A.map once) = pareStep A := by
    funext l n
    unfold pareStep
    rw [mtAll_once]
  rw [e]
/-- the filter that finds a row of its own -/
theorem alone_iff {asked r : List Str} {x : Str} (h : Ris asked) (hx : x ∈ asked) : asked.filter r.contains = [x] ↔ x ∈ r ∧ ∀ z ∈ asked, z ∈ r → z = x := by
  constructor
  · intro e
    have m : x ∈ asked.filter r.contains := by rw [e]; exact List.mem_cons_self
    refine ⟨List.contains_iff_mem.mp (List.mem_filter.mp m).2, fun z hz hr => ?_⟩
    have m2 : z ∈ asked.filter r.contains := List.mem_filter.mpr ⟨hz, List.contains_iff_mem.mpr hr⟩
    rw [e] at m2
    exact List.mem_singleton.mp m2
  · rintro ⟨h1, h2⟩
    have n1 : (asked.filter r.contains).Nodup := h.nodup.filter _
    have p : (asked.filter r.contains).Perm [x] := (List.perm_ext_iff_of_nodup n1 (by simp)).mpr fun z => by
      rw [List.mem_filter, List.contains_iff_mem, List.mem_singleton]
      exact ⟨fun ⟨a, b⟩ => h2 z a b, fun e => e ▸ ⟨hx, h1⟩⟩
    exact List.perm_singleton.mp p
theorem own_some {tb : Tb1} {asked : List Str} {x : Str} : (firstOwn tb asked x).isSome = true ↔ ∃ r ∈ rws tb, asked.filter r.contains = [x] := by
  unfold firstOwn
  rw [Option.isSome_map, List.find?_isSome]
  constructor
  · rintro ⟨e, he, p⟩
    exact ⟨e.2.2, rws_mem he, of_decide_eq_true p⟩
  · rintro ⟨r, hr, p⟩
    obtain ⟨e, he, rfl⟩ := List.mem_map.mp hr
    exact ⟨e, he, decide_eq_true p⟩
theorem own_lst {tb : Tb1} {asked : List Str} (h : Ris asked) (m : mtAll asked (rws tb) = true) : (∀ x ∈ asked, (firstOwn tb asked x).isSome = true) ↔ Lst (rws tb) asked := by
  rw [lst_own]
  constructor
  · intro hx
    refine ⟨h, m, fun y hy => ?_⟩
    obtain ⟨r, hr, e⟩ := own_some.mp (hx y hy)
    obtain ⟨h1, h2⟩ := (alone_iff h hy).mp e
    exact ⟨r, hr, h1, h2⟩
  · rintro ⟨_, _, h3⟩ x hx
    obtain ⟨r, hr, h1, h2⟩ := h3 x hx
    exact own_some.mpr ⟨r, hr, (alone_iff h hx).mpr ⟨h1, h2⟩⟩
/-- a name more than meets all has no row of its own -/
theorem own_more {tb : Tb1} {due asked : List Str} {z : Str} (hm : mtAll due (rws tb) = true) (sub : ∀ y ∈ due, y ∈ asked) (hz : z ∉ due) : firstOwn tb asked z = none := by
  cases h : firstOwn tb asked z with
  | none => rfl
  | some k =>
    obtain ⟨r, hr, e⟩ := own_some.mp (show (firstOwn tb asked z).isSome = true by rw [h]; rfl)
    obtain ⟨y, hy, hyr⟩ := mtAll_iff.mp hm r hr
    have : y ∈ asked.filter r.contains := List.mem_filter.mpr ⟨sub y hy, List.contains_iff_mem.mpr hyr⟩
    rw [e] at this
    exact absurd (List.mem_singleton.mp this ▸ hy) hz
end K1
end
section
set_option maxHeartbeats 4000000
/-! >= of data that are alike -/
namespace K1
open PySem PySem.Spec PyProof.Rows L2 Gr GxR Srx Skx Dcx
open PySem.W (dataLt alike)
def rGeD (K : PySem.W.Frag) : R2 := fun x y H Q => ∃ d e, Dp K H x d ∧ Dp K H y e ∧ alike d e = true ∧ d ≠ .none ∧ PyData.depth d ≤ 64 ∧ Q (.bl (!dataLt d e)) H
theorem op_geD {X : Cx} (hu : X.A.units + 64 < cLine) : OpR X (compareOp .GtE) (rGeD X.K) := by
  intro pins s σ H x y v u Q I rx ry h
  obtain ⟨d, e, hd, he, al, nn, dl, q⟩ := h
  obtain ⟨as, r1⟩ := Dp.reads I d x v hd rx
  obtain ⟨bs, r2⟩ := Dp.reads I e y u he ry
  exact PySem.W.rcGe_alike d e X.A s v u as bs r1 r2 al nn (by omega) _ _ _ _ ⟨.bl _, H, I, rfl, q⟩
/-- by rank: neither below nor alike -/
theorem ge_rk (a b : List Str) : (!dataLt (rk a) (rk b)) = leR b a := rfl
theorem alike_rk (a b : List Str) : alike (rk a) (rk b) = true := ordRk.1 a b
end K1
namespace K1
open PySem PySem.Spec PyProof.Rows L2 Gr GxR Srx Skx Dcx
/-- len of a set of texts -/
def rLenTx (w : World) : List V → Hp → VK → Prop := fun vs H Q => ∃ (a : Addr) (ks : List Str), vs = [V.ref a] ∧ H a = some (SetTx w a ks) ∧ Q (.int (ks.length : Nat)) H
theorem call_lenTx {X : Cx} : CallR X (.builtin "len") (rLenTx X.w) := by
  intro pins s σ H vs us Q I r h
  obtain ⟨a, ks, rfl, ha, q⟩ := h
  rw [Vals.ref1 r]
  obtain ⟨o, es, ep, t, ho, hex, hd, g, pm0, nd, hb, hf, hr, hl⟩ := setTx_get I ha
  have e : es.size = ks.length := by
    have h1 := pm0.length_eq
    rw [List.length_map, Array.length_toList] at h1
    exact h1
  have sb : (scanBound : Int) ≤ 2 ^ 62 := by decide +kernel
  refine PySem.call_len_set ho hex hd hf (by omega) ⟨.int (es.size : Nat), H, I.kept (t' := s.toks + 1 + 1) (fun _ _ z => z), ⟨_, rfl⟩, ?_⟩
  rw [e]
  exact q
end K1
namespace K1
open PySem PySem.Spec PyProof.Rows L2 Gr GxR Srx Skx Dcx
/-- a number is neither True nor False -/
def rIsB : R2 := fun x y H Q => ∃ (i : Int) (b : Bool), x = .int i ∧ y = .bl b ∧ Q (.bl false) H
theorem op_isB {X : Cx} : OpR X (compareOp .Is) rIsB := by
  intro pins s σ H x y v u Q I rx ry h
  obtain ⟨i, b, rfl, rfl, q⟩ := h
  obtain ⟨t, rfl⟩ := rx
  cases (show u = Value.bool b from ry)
  exact wpAny_is_other rfl (fun z => nomatch z) ⟨.bl false, H, I, rfl, q⟩
end K1
end
section
set_option maxHeartbeats 8000000
namespace K1
open PySem PySem.Spec PyProof.Rows L2 Gr GxR Srx Skx Dcx
section
variable {P : Program} {w : World} {K : PySem.W.Frag} {mg : Str → Option Value} {base : Heap} {f : Addr} {fd : FuncData}
abbrev nOwn3 : List Str := ["_law_one","_law_name","_law_rows","_law_number","_law_other"]
theorem scOwn3 : FnScope nOwn3 ["_law_one","_law_name","_law_rows"] (defScope s_law_own_x) := ⟨rfl, rfl, rfl, by decide +kernel, rfl, by decide +kernel, by decide +kernel⟩
/-- the first row in which of the set that name stands alone -/
def own3p (one : List Str) (x : Str) (e : Int × List Str) : Bool := decide (one.filter e.2.contains = [x])
def ownAt (rows : List (List Str)) (one : List Str) (x : Str) : Int := match (numd rows).find? (own3p one x) with
  | some e => e.1
  | none => -1
theorem numd_at {rows : List (List Str)} {i : Nat} {r : List Str} (h : rows[i]? = some r) : (numd rows)[i]? = some ((i : Int), r) := by
  unfold numd
  rw [List.getElem?_mapIdx, h]
  rfl
theorem numd_len (rows : List (List Str)) : (numd rows).length = rows.length := by
  unfold numd
  rw [List.length_mapIdx]
def spOwn3 (K : PySem.W.Frag) : Sp := fun vs H Q _ => ∃ (a c : Addr) (one : List Str) (x : Str) (ps : List (Addr × List Str)), vs = [.ref a, .str x, .ref c] ∧ SqL K H a (one.map V.str) ∧ Nms one ∧ isNm x = true ∧ one.length ≤ 1000 ∧ LQ K H c ps ∧ ps.length ≤ 1000 ∧ ∀ H', Gr H H' → Q (.int (ownAt (ps.map (·.2)) one x)) H'
theorem ok_own3 (F : FnP K "_law_own" s_law_own_x f fd) (g_range : mg "range" = none) (g_len : mg "len" = none) : FnOk P w K mg base CX0 1 f fd ["_law_one","_law_name","_law_rows"] (spOwn3 K) := by
  refine F.ok scOwn3 (fun vs H Q E h => ?_) (fun cdv A outer s H vs Q E hr h => ?_)
  · obtain ⟨a, c, one, x, ps, rfl, _⟩ := h
    rfl
  · obtain ⟨a, c, one, x, ps, rfl, hA, nms, nx, few, lC, fewR, q⟩ := h
    refine ⟨_, PSs.nox (pss_cons (ps_for PassesOwn.never rfl (pi_range1 (by rfl) g_range (pa_cons (pe_callB call_len_seq (by rfl) g_len boot_len (pa_cons (pv 2) pa_nil)) pa_nil)) (pg_name (i := 3) scOwn3.nd rfl (.inr rfl)) (pss_one (ps_if (pt_cmpR (op_eqD (hu64 hr)) (pe_lc (own := [("_law_other", 4)]) (g := gName 4) rfl scOwn3.nd (pi_list (pv 0)) (blkOk_by (N := nOwn3) (sc := defScope s_law_own_x) (by decide +kernel)) (fun _ _ _ _ _ => (pg_name (i := 4) scOwn3.nd rfl (.inl rfl))) (fun _ _ _ _ _ => pts_one (pt_cmpR (r := rIn K false) op_in_seq (pv 4) (pe_ix (r := rIxL K) ix_list (pv 2) (pv 3) (fun _ _ => rfl)) rfl)) (fun _ _ _ _ _ => (pv 4))) (pe_lst (pa_cons (pv 1) pa_nil)) (nomark _)) (pss_one (ps_ret (pv 3))) (pss_nil)))) (pss_one (ps_ret (pe_un un_neg pe_int)))), ?_⟩
    have oneL : 1 ≤ sizeLine := by rw [sizeLine_eq]; omega
    have ln : ((ps.map fun q : Addr × List Str => V.ref q.1).length : Int).toNat = ps.length := by rw [Int.toNat_natCast, List.length_map]
    refine ⟨_, rfl, c, _, rfl, .inl lC.at_, _, rfl, ?_, ?_, for_range (lo := 0) (n := ((ps.map fun q : Addr × List Str => V.ref q.1).length : Int).toNat) (fun i σ H2 => Gr H H2 ∧ ((numd (ps.map (·.2))).take i).find? (own3p one x) = none ∧ ∃ v3, σ = [some (.ref a), some (.str x), some (.ref c), v3, none]) ⟨Gr.refl H, rfl, none, rfl⟩ (fun i σ H2 hi h => ?_) (fun σ H2 h => ?_)⟩
    · rw [List.length_map]
      omega
    · rw [List.length_map]
      omega
    · obtain ⟨g2, nf, v3, rfl⟩ := h
      rw [ln] at hi
      have hp : ps[i]? = some ps[i] := List.getElem?_eq_getElem hi
      have hat : (numd (ps.map (·.2)))[i]? = some ((i : Int), ps[i].2) := numd_at (by rw [List.getElem?_map, hp]; rfl)
      have ha : (ps.map fun q : Addr × List Str => V.ref q.1)[i]? = some (.ref ps[i].1) := by rw [List.getElem?_map, hp]; rfl
      have e0 : ((0 : Int) + (i : Nat)) = ((i : Nat) : Int) := Int.zero_add _
      rw [e0]
      have own := lC.own ps[i] (List.getElem_mem hi)
      refine ⟨_, rfl, a, rfl, ⟨_, g2.seq hA⟩, fun D nD => lc_filtT (K := K) ps[i].2.contains (g2.seq hA) (small1000 few) nD (fun _ => rfl) (fun _ => rfl) (fun y hy H5 Qb g5 hb => ?_) (fun H5 g5 e5 => ?_)⟩
      · refine ⟨_, rfl, _, rfl, _, rfl, c, _, _, _, rfl, rfl, (g2.trans g5).seq lC.at_, atI_nat ha, ps[i].1, _, rfl, .inl ((g2.trans g5).seq own), rfl, flat_str ps[i].2, _, rfl, ?_⟩
        rw [inV_str]
        exact hb H5 (Gr.refl H5)
      · refine ⟨_, rfl, oneL, fun l nl => ?_⟩
        have g6 : Gr H5 (upd H5 l (.lst [V.str x])) := Gr.new nl
        have el : (upd H5 l (.lst [V.str x])) l = some (.lst ([x].map V.str)) := upd_same
        generalize upd H5 l (.lst [V.str x]) = H6 at g6 el
        refine ⟨_, _, dp_dS (.inl (.inl (g6.lst e5))), dp_dS (.inl (.inl el)), shaped_dS (fun y hy => nms y (List.mem_filter.mp hy).1), shaped_dS (fun y hy => by rw [List.mem_singleton.mp hy]; exact nx), _, rfl, ?_⟩
        rw [eqv_dS]
        refine ite2 (fun h => ?_) (fun h => ?_)
        · refine ⟨_, rfl, ?_⟩
          have := q H6 ((g2.trans g5).trans g6)
          unfold ownAt at this
          rw [find_done hat nf h] at this
          exact this
        · refine ⟨(g2.trans g5).trans g6, ?_, _, rfl⟩
          rw [find_snoc hat nf]
          exact if_neg h
    · obtain ⟨g2, nf, v3, rfl⟩ := h
      rw [ln, List.take_of_length_le (by rw [numd_len, List.length_map]; exact Nat.le_refl _)] at nf
      have := q H2 g2
      unfold ownAt at this
      rw [nf] at this
      exact ⟨_, rfl, this⟩
end
end K1
end
section
set_option maxHeartbeats 8000000
namespace K1
open PySem PySem.Spec PyProof.Rows L2 Gr GxR Srx Skx Dcx
theorem rk_deep (x : List Str) : PyData.depth (rk x) ≤ 64 := by
  have := deep_strs x
  simp only [rk, PyData.depth, PyData.depthAll]
  omega
theorem cut_to (xs : List V) {k : Nat} (h : k ≤ xs.length) : cutV xs none (some (k : Int)) = xs.take k := by
  unfold cutV
  rw [HT.sIx_none, List.drop_zero, HT.sIx_nat, Nat.sub_zero, Nat.min_eq_left h]
section
variable {P : Program} {w : World} {K : PySem.W.Frag} {mg : Str → Option Value} {base : Heap} {f : Addr} {fd : FuncData}
structure Env3g (P : Program) (w : World) (K : PySem.W.Frag) (mg : Str → Option Value) (base : Heap) : Prop where
  all : Calls P w K mg base CX0 2 "_law_meets_all" (spLAll K)
  own : Calls P w K mg base CX0 1 "_law_own" (spOwn3 K)
  within : Calls P w K mg base CX0 1 "_law_within" (spLWithin K)
  gL : mg "len" = none
  gLi : mg "list" = none
  gR : mg "range" = none
  gS : mg "sorted" = none
  gSet : mg "set" = none
  gM : mg "min" = none
  gI : mg "isinstance" = none
abbrev nGood : List Str := ["_law_found","_law_rows","_law_k","_law_one","_law_name","_law_other"]
theorem scGood : FnScope nGood ["_law_found","_law_rows"] (defScope s_law_good_x) := ⟨rfl, rfl, rfl, by decide +kernel, rfl, by decide +kernel, by decide +kernel⟩
def spGood (K : PySem.W.Frag) : Sp := fun vs H Q _ => ∃ (a c : Addr) (fs ps : List (Addr × List Str)), vs = [.ref a, .ref c] ∧ LL H a fs ∧ LL H c ps ∧ fs.map (·.2) = grown (ps.map (·.2)) ∧ Fit (fs.map (·.2)) ∧ ps.length ≤ 1000 ∧ ∀ H', Gr H H' → Q (.bl true) H'
theorem ok_good (F : FnP K "_law_good" s_law_good_x f fd) (G : Env3g P w K mg base) : FnOk P w K mg base CX0 3 f fd ["_law_found","_law_rows"] (spGood K) := by
  have g_len := G.gL
  have g_list := G.gLi
  have g_range := G.gR
  have g_sorted := G.gS
  have g_set := G.gSet
  have g_min := G.gM
  have g_isinstance := G.gI
  refine F.ok scGood (fun vs H Q E h => ?_) (fun cdv A outer s H vs Q E hr h => ?_)
  · obtain ⟨a, c, fs, ps, rfl, _⟩ := h
    rfl
  · obtain ⟨a, c, fs, ps, rfl, lF, lR, eG, fit, few, q⟩ := h
    refine ⟨_, PSs.nox (pss_cons (ps_for PassesOwn.never rfl (pi_range1 (by rfl) g_range (pa_cons (pe_callB call_len_seq (by rfl) g_len boot_len (pa_cons (pv 0) pa_nil)) pa_nil)) (pg_name (i := 2) scGood.nd rfl (.inl rfl)) (pss_cons (ps_set (i := 3) scGood.nd rfl (.inr rfl) (pe_ix ix_list (pv 0) (pv 2) (fun _ _ => rfl))) (pss_cons (ps_if (PW.pt (pw_or (pt_not (pt_val (pe_callB call_isi (by rfl) g_isinstance (by decide +kernel) (pa_cons (pv 3) (pa_cons (pe_bltn (v := .ty "list") (by rfl) g_list (by decide +kernel) rfl) pa_nil))))) (pw_or (pt_cmpR (op_neD (hu64 hr)) (pv 3) (pe_callB (cr_sortedD Ord.strs (hu64 hr)) (by rfl) g_sorted boot_sorted (pa_cons (pv 3) pa_nil)) (nomark _)) (pw_or1 (pt_cmpR op_ne (pe_callB call_lenTx (by rfl) g_len boot_len (pa_cons (pe_callTy (Srx.cr_setTx rfl) (by rfl) g_set boot_set (pa_cons (pv 3) pa_nil)) pa_nil)) (pe_callB call_len_seq (by rfl) g_len boot_len (pa_cons (pv 3) pa_nil)) (nomark _)))))) (pss_one (ps_ret pe_bl)) (pss_nil)) (pss_cons (ps_if (PW.pt (pw_or (pt_not (pt_val (pe_k G.all hr (by decide) (by rfl) (pa_cons (pv 3) (pa_cons (pv 1) pa_nil))))) (pw_or1 (pt_cmpR op_lt (pe_callB (cr_min rfl) (by rfl) g_min (by decide +kernel) (pa_cons (pe_op op_cat (pe_lst (pa_cons pe_int pa_nil)) (pe_lc (own := [("_law_name", 4)]) (g := gName 4) (tt := tYes) rfl scGood.nd (pi_list (pv 3)) (blkOk_by (N := nGood) (sc := defScope s_law_good_x) (by decide +kernel)) (fun _ _ _ _ _ => (pg_name (i := 4) scGood.nd rfl (.inl rfl))) (fun _ _ _ _ _ => pts_nil) (fun _ _ _ _ _ => (pe_k G.own hr (by decide) (by rfl) (pa_cons (pv 3) (pa_cons (pv 4) (pa_cons (pv 1) pa_nil))))))) pa_nil)) pe_int (nomark _))))) (pss_one (ps_ret pe_bl)) (pss_nil)) (C8.pss_cut (ps_if (PW.pt (pw_and (pt_cmpR op_gt (pv 2) pe_int (nomark _)) (pw_and1 (pt_cmpR (op_geD (hu64 hr)) (pe_tup (pa_cons (pe_callB call_len_seq (by rfl) g_len boot_len (pa_cons (pe_ix ix_list (pv 0) (pe_op op_sub (pv 2) pe_int) (fun _ _ => rfl)) pa_nil)) (pa_cons (pe_ix ix_list (pv 0) (pe_op op_sub (pv 2) pe_int) (fun _ _ => rfl)) pa_nil))) (pe_tup (pa_cons (pe_callB call_len_seq (by rfl) g_len boot_len (pa_cons (pv 3) pa_nil)) (pa_cons (pv 3) pa_nil))) (nomark _))))) (pss_one (ps_ret pe_bl)) (pss_nil)) (pss_one (ps_if (pt_cmpR (op_neD (hu64 hr)) (pe_lc (own := [("_law_other", 5)]) (g := gName 5) rfl scGood.nd (pi_list (pe_slice sl_list (pv 0) po_none (po_some (pv 2)))) (blkOk_by (N := nGood) (sc := defScope s_law_good_x) (by decide +kernel)) (fun _ _ _ _ _ => (pg_name (i := 5) scGood.nd rfl (.inl rfl))) (fun _ _ _ _ _ => pts_one (pt_val (pe_k G.within hr (by decide) (by rfl) (pa_cons (pv 5) (pa_cons (pv 3) pa_nil))))) (fun _ _ _ _ _ => (pv 5))) (pe_lst pa_nil) (nomark _)) (pss_one (ps_ret pe_bl)) (pss_nil)))))))) (pss_one (ps_ret pe_bl))), ?_⟩
    have one1 : 1 ≤ sizeLine := by rw [sizeLine_eq]; omega
    have two : 2 ≤ sizeLine := by rw [sizeLine_eq]; omega
    have ln : ((fs.map fun q : Addr × List Str => V.ref q.1).length : Int).toNat = fs.length := by rw [Int.toNat_natCast, List.length_map]
    have fl : fs.length ≤ 1000 := by have := fit.1; rwa [List.length_map] at this
    refine ⟨_, rfl, a, _, rfl, .inl (.inl (.inl lF.at_)), _, rfl, ?_, ?_, for_range (lo := 0) (n := ((fs.map fun q : Addr × List Str => V.ref q.1).length : Int).toNat) (fun i σ H2 => Gr H H2 ∧ ∃ v2 v3, σ = [some (.ref a), some (.ref c), v2, v3, none, none]) ⟨Gr.refl H, none, none, rfl⟩ (fun i σ H2 hi h => ?_) (fun σ H2 h => ?_)⟩
    · rw [List.length_map]
      omega
    · rw [List.length_map]
      omega
    · obtain ⟨g2, v2, v3, rfl⟩ := h
      rw [ln] at hi
      have hp : fs[i]? = some fs[i] := List.getElem?_eq_getElem hi
      have ha : (fs.map fun q : Addr × List Str => V.ref q.1)[i]? = some (.ref fs[i].1) := by rw [List.getElem?_map, hp]; rfl
      have e0 : ((0 : Int) + (i : Nat)) = ((i : Nat) : Int) := Int.zero_add _
      rw [e0]
      have m0 := List.getElem_mem hi
      have zin : fs[i].2 ∈ grown (ps.map (·.2)) := eG ▸ List.mem_map.mpr ⟨fs[i], m0, rfl⟩
      have lst := grown_mem.mp zin
      obtain ⟨znm, zl⟩ := fit.2 fs[i].2 (List.mem_map.mpr ⟨fs[i], m0, rfl⟩)
      have eZ : H2 fs[i].1 = some (.lst (fs[i].2.map V.str)) := (lF.gr g2).own _ m0
      generalize hz : fs[i] = z at eZ zin lst znm zl hp ha m0
      refine ⟨_, rfl, _, rfl, a, _, _, _, rfl, rfl, .inl (.inl ((lF.gr g2).at_)), atI_nat ha, ?_⟩
      refine ⟨_, rfl, _, _, _, _, true, rfl, .ty _, .base (.lst eZ), kit_ty (by decide +kernel), _, rfl, ?_⟩
      refine iteF ⟨_, rfl, _, rfl, sortedT (K := K) (xs := z.2) (.inl (.inl eZ)) fun p1 np1 => ?_⟩
      have g3 : Gr H2 (upd H2 p1 (.lst ((srt z.2).map V.str))) := Gr.new np1
      have ep1 : (upd H2 p1 (.lst ((srt z.2).map V.str))) p1 = some (.lst ((srt z.2).map V.str)) := upd_same
      generalize upd H2 p1 (.lst ((srt z.2).map V.str)) = H3 at g3 ep1
      have sz : srt z.2 = z.2 := by rw [← once_srt lst.1.nodup, once_ris lst.1]
      rw [sz] at ep1
      refine ⟨_, _, dp_dS (.inl (.inl (g3.lst eZ))), dp_dS (.inl (.inl ep1)), shaped_dS znm, shaped_dS znm, _, rfl, ?_⟩
      rw [eqv_dS, decide_eq_true rfl]
      refine iteF ⟨_, rfl, z.1, z.2, rfl, .inl (.inl (g3.lst eZ)), zl, fun p2 np2 => ?_⟩
      generalize hU : upd H3 p2 _ = H4
      have g4 : Gr H3 H4 := by rw [← hU]; exact Gr.new np2
      have ep2 : H4 p2 = some (SetTx w p2 (Sx.dd z.2)) := by rw [← hU]; exact upd_same
      have dlen : (Sx.dd z.2).length = z.2.length := by
        have h1 := congrArg List.length (once_ris lst.1)
        unfold once at h1
        rwa [srt_len] at h1
      have g24 := g3.trans g4
      refine ⟨p2, _, rfl, ep2, _, rfl, z.1, _, rfl, .inl (.inl (.inl (g24.lst eZ))), rfl, _, rfl, ?_⟩
      rw [dlen, List.length_map]
      refine ite2 (fun h => absurd h (by simp)) (fun _ => ?_)
      have g04 := g2.trans g24
      have lR4 := lR.gr g04
      -- meets all, a row of its own for each
      refine ⟨_, rfl, _, rfl, z.1, c, z.2, ps, rfl, .inl (.inl (g24.lst eZ)), lR4.lq.at_, lR4.lq.own, _, rfl, ?_⟩
      rw [lst.2.1]
      refine iteF ?_
      refine ⟨one1, fun p3 np3 => ?_⟩
      have g5 : Gr H4 (upd H4 p3 (.lst [V.int 0])) := Gr.new np3
      have ep3 : (upd H4 p3 (.lst [V.int 0])) p3 = some (.lst [V.int 0]) := upd_same
      generalize upd H4 p3 (.lst [V.int 0]) = H5 at g5 ep3
      have g25 := g24.trans g5
      refine ⟨_, rfl, z.1, rfl, ⟨_, .inl (.inl (g25.lst eZ))⟩, fun D nD => lc_list (K := K) (xs := z.2.map V.str) (fun k H6 => Gr H5 H6 ∧ H6 D = some (.lst ((z.2.take k).map fun x => V.int (ownAt (ps.map (·.2)) z.2 x)))) ⟨Gr.new nD, upd_same⟩ (fun k H6 _ h => .inl (.inl ((g25.trans h.1).lst eZ))) (fun k x H6 hx h => ?_) (fun H6 h => ?_)⟩
      · obtain ⟨g6, eD⟩ := h
        obtain ⟨x0, hx0, rfl⟩ := get_map hx
        have mx := List.mem_of_getElem? hx0
        refine ⟨rfl, yesIf ⟨_, rfl, _, rfl, _, rfl, z.1, c, z.2, x0, ps, rfl, .inl (.inl ((g25.trans g6).lst eZ)), znm, znm x0 mx, zl, ((lR4.gr g5).gr g6).lq, few, fun H7 g7 => ⟨_, g7.lst eD, ?_, (g6.trans g7).mut nD, ?_⟩⟩⟩
        · rw [List.length_map, List.length_take]
          exact small1000 (by omega)
        · rw [upd_same, take_map hx0]
      · obtain ⟨g6, eD⟩ := h
        rw [List.length_map, List.take_length] at eD
        have own0 : ∀ x ∈ z.2, 0 ≤ ownAt (ps.map (·.2)) z.2 x := fun x hx => by
          obtain ⟨r, hr, h1, h2⟩ := (lst_own.mp lst).2.2 x hx
          have al := (alone_iff lst.1 hx).mpr ⟨h1, h2⟩
          unfold ownAt
          split
          · rename_i e he
            have he := List.mem_of_find?_eq_some he
            unfold numd at he
            obtain ⟨k, hk, e1⟩ := List.mem_mapIdx.mp he
            rw [← e1]
            omega
          · rename_i hn
            exfalso
            rw [List.find?_eq_none] at hn
            obtain ⟨k, hk, rfl⟩ := List.mem_iff_getElem.mp hr
            exact hn ((k : Int), _) (List.mem_of_getElem? (numd_at (List.getElem?_eq_getElem hk))) (decide_eq_true al)
        have g26 := g25.trans g6
        have ep3' := g6.lst ep3
        refine ⟨_, _, _, _, rfl, rfl, ep3', eD, ?_, fun p4 np4 => ?_⟩
        · rw [List.length_map]
          exact Nat.le_of_lt (small60 (by show 1 + z.2.length ≤ 60000; omega))
        have g7 : Gr H6 (upd H6 p4 (.lst ([V.int 0] ++ z.2.map fun x => V.int (ownAt (ps.map (·.2)) z.2 x)))) := Gr.new np4
        have ep4 : (upd H6 p4 (.lst ([V.int 0] ++ z.2.map fun x => V.int (ownAt (ps.map (·.2)) z.2 x)))) p4 = some (.lst (((0 : Int) :: z.2.map (ownAt (ps.map (·.2)) z.2)).map V.int)) := by
          rw [upd_same, List.map_cons, List.map_map]
          rfl
        generalize upd H6 p4 (.lst ([V.int 0] ++ z.2.map fun x => V.int (ownAt (ps.map (·.2)) z.2 x))) = H7 at g7 ep4
        refine ⟨p4, _, rfl, .inl (.inl ep4), Nat.succ_pos _, fun m hm hle => ?_⟩
        have mp : 0 ≤ m := by
          rcases List.mem_cons.mp hm with h | h
          · omega
          · obtain ⟨x, hx, rfl⟩ := List.mem_map.mp h
            exact own0 x hx
        refine ⟨_, _, rfl, rfl, _, rfl, ite2 (fun h => absurd (of_decide_eq_true h) (by omega)) (fun _ => ?_)⟩
        have g27 := g26.trans g7
        -- the one before it is less
        have srtd := grown_sorted (ps.map (·.2))
        have nodp := grown_nodup (ps.map (·.2))
        refine ⟨fun σ' H' => Gr H7 H' ∧ σ' = [some (.ref a), some (.ref c), some (.int ((i : Nat) : Int)), some (.ref z.1), none, none], ?_, fun σ' H8 hm8 => ?_⟩
        · refine ⟨_, rfl, _, _, rfl, rfl, _, rfl, ite2 (fun h => ?_) (fun h => iteF ⟨Gr.refl H7, rfl⟩)⟩
          have hi0 : 0 < i := by
            have := of_decide_eq_true h
            omega
          have hy : i - 1 < fs.length := by omega
          have hpy : fs[i - 1]? = some fs[i - 1] := List.getElem?_eq_getElem hy
          have hay : (fs.map fun q : Addr × List Str => V.ref q.1)[i - 1]? = some (.ref fs[i - 1].1) := by rw [List.getElem?_map, hpy]; rfl
          have hmy := List.getElem_mem hy
          have atY : atI (fs.map fun q : Addr × List Str => V.ref q.1) (((i : Nat) : Int) - 1) = some (.ref fs[i - 1].1) := by
            rw [show ((i : Nat) : Int) - 1 = ((i - 1 : Nat) : Int) by omega]
            exact atI_nat hay
          have lF7 := lF.gr (g2.trans g27)
          have less : leR z.2 fs[i - 1].2 = false := by
            have e1 : (grown (ps.map (·.2)))[i - 1]? = some fs[i - 1].2 := by rw [← eG, List.getElem?_map, hpy]; rfl
            have e2 : (grown (ps.map (·.2)))[i]? = some z.2 := by rw [← eG, List.getElem?_map, hp]; rfl
            obtain ⟨h1, e1⟩ := List.getElem?_eq_some_iff.mp e1
            obtain ⟨h2, e2⟩ := List.getElem?_eq_some_iff.mp e2
            have s1 := List.pairwise_iff_getElem.mp srtd (i - 1) i h1 h2 (by omega)
            rw [e1, e2] at s1
            cases hl : leR z.2 fs[i - 1].2 with
            | false => rfl
            | true =>
              have := leR_anti s1 hl
              have n1 := List.pairwise_iff_getElem.mp nodp (i - 1) i h1 h2 (by omega)
              rw [e1, e2] at n1
              exact absurd this n1
          generalize fs[i - 1] = y at atY less hmy
          have eY7 := lF7.own y hmy
          refine ⟨_, rfl, _, rfl, _, _, rfl, rfl, a, _, _, _, rfl, rfl, .inl (.inl lF7.at_), atY, y.1, _, rfl, .inl (.inl (.inl eY7)), _, rfl, _, rfl, _, _, rfl, rfl, a, _, _, _, rfl, rfl, .inl (.inl lF7.at_), atY, two, fun t1 nt1 => ?_⟩
          rw [List.length_map]
          have gt1 : Gr H7 (upd H7 t1 (.tup [.int (y.2.length : Nat), .ref y.1])) := Gr.new nt1
          have et1 : (upd H7 t1 (.tup [.int (y.2.length : Nat), .ref y.1])) t1 = some (.tup [.int (y.2.length : Nat), .ref y.1]) := upd_same
          generalize upd H7 t1 (.tup [.int (y.2.length : Nat), .ref y.1]) = H8 at gt1 et1
          refine ⟨_, rfl, z.1, _, rfl, .inl (.inl (.inl ((g27.trans gt1).lst eZ))), _, rfl, two, fun t2 nt2 => ?_⟩
          rw [List.length_map]
          have gt2 : Gr H8 (upd H8 t2 (.tup [.int (z.2.length : Nat), .ref z.1])) := Gr.new nt2
          have et2 : (upd H8 t2 (.tup [.int (z.2.length : Nat), .ref z.1])) t2 = some (.tup [.int (z.2.length : Nat), .ref z.1]) := upd_same
          generalize upd H8 t2 (.tup [.int (z.2.length : Nat), .ref z.1]) = H9 at gt2 et2
          refine ⟨rk y.2, rk z.2, .tup (.inl (.inl (gt2.tup et1))) (.cons (.int _) (.cons (dp_dS (.inl (.inl ((gt1.trans gt2).lst eY7)))) .nil)), .tup (.inl (.inl et2)) (.cons (.int _) (.cons (dp_dS (.inl (.inl (((g27.trans gt1).trans gt2).lst eZ)))) .nil)), alike_rk _ _, (fun e => nomatch e), rk_deep y.2, _, rfl, ?_⟩
          rw [ge_rk, less]
          exact iteF ⟨gt1.trans gt2, rfl⟩
        · obtain ⟨g78, rfl⟩ := hm8
          have lF8 := lF.gr ((g2.trans g27).trans g78)
          refine ⟨_, rfl, _, rfl, _, rfl, a, _, rfl, .inl (.inl lF8.at_), fun s1 ns1 => ?_⟩
          rw [cut_to _ (by rw [List.length_map]; omega), ← List.map_take]
          have gs : Gr H8 (upd H8 s1 (.lst ((fs.take i).map fun q => V.ref q.1))) := Gr.new ns1
          have es1 : (upd H8 s1 (.lst ((fs.take i).map fun q => V.ref q.1))) s1 = some (.lst ((fs.take i).map fun q => V.ref q.1)) := upd_same
          generalize upd H8 s1 (.lst ((fs.take i).map fun q => V.ref q.1)) = H9 at gs es1
          have eZ9 := ((g27.trans g78).trans gs).lst eZ
          have lF9 := lF8.gr gs
          have none1 : ∀ q ∈ fs.take i, q.2.all z.2.contains = false := fun q0 hq0 => by
            cases hw : q0.2.all z.2.contains with
            | false => rfl
            | true =>
              have mq : q0.2 ∈ grown (ps.map (·.2)) := eG ▸ List.mem_map.mpr ⟨q0, List.mem_of_mem_take hq0, rfl⟩
              have lq := grown_mem.mp mq
              have e1 : q0.2 = z.2 := lst.2.2 q0.2 lq.1 lq.2.1 hw
              obtain ⟨j, hj, ej⟩ := List.mem_take_iff_getElem.mp hq0
              have hj2 : j < i ∧ j < fs.length := by omega
              have s1 : (grown (ps.map (·.2)))[j]? = some q0.2 := by rw [← eG, List.getElem?_map, List.getElem?_eq_getElem hj2.2, ej]; rfl
              have s2 : (grown (ps.map (·.2)))[i]? = some z.2 := by rw [← eG, List.getElem?_map, hp]; rfl
              obtain ⟨h1, s1⟩ := List.getElem?_eq_some_iff.mp s1
              obtain ⟨h2, s2⟩ := List.getElem?_eq_some_iff.mp s2
              have n1 := List.pairwise_iff_getElem.mp nodp j i h1 h2 hj2.1
              rw [s1, s2] at n1
              exact absurd e1 n1
          refine ⟨s1, rfl, ⟨_, .inl (.inl es1)⟩, fun D2 nD2 => lc_filtL (K := K) (ps := fs.take i) (fun q => q.2.all z.2.contains) (.inl (.inl es1)) (small1000 (by rw [List.length_take]; omega)) nD2 (fun _ => rfl) (fun _ => rfl) (fun q0 hq0 Hx Qb gx hb => ?_) (fun H10 g10 e10 => ?_)⟩
          · exact ⟨_, rfl, _, rfl, q0.1, z.1, q0.2, z.2, rfl, .inl (.inl ((lF9.gr gx).own q0 (List.mem_of_mem_take hq0))), .inl (.inl (gx.lst eZ9)), _, rfl, hb Hx (Gr.refl Hx)⟩
          · have e0 : (fs.take i).filter (fun q => q.2.all z.2.contains) = [] := List.filter_eq_nil_iff.mpr fun q0 hq0 w => by
              rw [none1 q0 hq0] at w
              cases w
            rw [e0] at e10
            refine ⟨Nat.zero_le _, fun e ne => ?_⟩
            have g11 : Gr H10 (upd H10 e (.lst [])) := Gr.new ne
            have ee : (upd H10 e (.lst [])) e = some (.lst []) := upd_same
            generalize upd H10 e (.lst []) = H11 at g11 ee
            have nil1 : ∀ xs ∈ ([] : List (Addr × List Str)).map (·.2), Nms xs := fun _ z => absurd z List.not_mem_nil
            refine ⟨_, _, dp_dSS (ps := []) (.inl (.inl (g11.lst e10))) (fun _ z => absurd z List.not_mem_nil), dp_dSS (ps := []) (.inl (.inl ee)) (fun _ z => absurd z List.not_mem_nil), shaped_dSS nil1, shaped_dSS nil1, _, rfl, ?_⟩
            rw [eqv_dSS, decide_eq_true rfl]
            exact iteF ⟨(((((g2.trans g27).trans g78).trans gs).trans g10).trans g11), _, _, rfl⟩
    · obtain ⟨g2, v2, v3, rfl⟩ := h
      exact q H2 g2
end
end K1
end
section
set_option maxHeartbeats 4000000
namespace K1
open PySem PySem.Spec PyProof.Rows L2 Gr GxR Srx Skx Dcx
/-- [(x, True) for x in xs] -/
theorem lc_pairs {K : PySem.W.Frag} {a D : Addr} {k : Nat} {σ : L2.St} {vs : List Nat} {H1 : Hp} {Qd : Hp → Prop} {xs : List Str}
    (hA : SqL K H1 a (xs.map V.str)) (few : xs.length ≤ 1000) (hD : H1 D = none) (hw : ∀ v, wipe ((wipe σ vs).set k (some v)) vs = wipe σ vs) (hj : ∀ v : V, ((wipe σ vs).set k (some v))[k]? = some (some v))
    (q : ∀ H2 (ts : List (Addr × Str)), Gr H1 H2 → H2 D = some (.lst ((ts.map (·.1)).map V.ref)) → Paired (fun p kv => SqT K H2 p [kV kv.1, kv.2]) (ts.map (·.1)) (kvK xs) → Qd H2) :
    ∃ W : Nat → Nat → Hp → Prop, (∃ m, W 0 m (upd H1 D (.lst []))) ∧ ∀ i m H, W i m H →
      ((Itl K a).stop i H ∧ Qd H) ∨ ((Itl K a).go i H ∧ ∃ Nx : Hp → Prop, (∀ H', Nx H' → ∃ m', m' < m ∧ W (i + 1) m' H') ∧ ∀ x H', (Itl K a).yld i H x H' → gName k x (wipe σ vs) H' fun σ2 H2 => wipe σ2 vs = wipe σ vs ∧ tYes σ2 H2 fun b H3 =>
        if b = true then tTup (tCons (tVar k) (tCons (tC (V.bl true)) tNil)) σ2 H3 fun y H4 => ∃ acc, H4 D = some (.lst acc) ∧ acc.length < sizeLine ∧ Nx (upd H4 D (.lst (acc ++ [y]))) else Nx H3) := by
  refine lc_list (K := K) (xs := xs.map V.str) (Qd := Qd) (fun i H2 => Gr H1 H2 ∧ ∃ ts : List (Addr × Str), H2 D = some (.lst (ts.map fun t => V.ref t.1)) ∧ (∀ t ∈ ts, H2 t.1 = some (.tup [.str t.2, .bl true])) ∧ ts.map (·.2) = xs.take i) ⟨Gr.new hD, [], upd_same, fun _ z => absurd z List.not_mem_nil, rfl⟩ (fun i H2 _ h => h.1.seq hA) (fun i x H2 hx h => ?_) (fun H2 h => ?_)
  · obtain ⟨g2, ts, eD, et, em⟩ := h
    obtain ⟨x0, hx0, rfl⟩ := get_map hx
    have hi : i < xs.length := (List.getElem?_eq_some_iff.mp hx0).1
    refine ⟨hw _, yesIf ⟨_, hj _, (by show 2 ≤ sizeLine; rw [sizeLine_eq]; omega), fun t nt => ⟨_, (Gr.new nt).lst eD, ?_, (g2.trans (Gr.new nt)).mut hD, ts ++ [(t, x0)], ?_, fun z hz => ?_, ?_⟩⟩⟩
    · have h1 := congrArg List.length em
      rw [List.length_map, List.length_take] at h1
      rw [List.length_map]
      exact small1000 (by omega)
    · rw [upd_same, List.map_append]
      rfl
    · have nDt : D ≠ t := ne_of_none eD nt
      rcases List.mem_append.mp hz with hz | hz
      · have h1 := et z hz
        rw [upd_ne (ne_of h1 eD (by intro z; cases z)), upd_ne (ne_of_none h1 nt)]
        exact h1
      · rw [List.mem_singleton.mp hz]
        show upd _ _ _ t = _
        rw [upd_ne nDt.symm, upd_same]
    · rw [List.map_append, em, List.take_add_one, hx0]
      rfl
  · obtain ⟨g2, ts, eD, et, em⟩ := h
    rw [List.length_map, List.take_length] at em
    refine q H2 ts g2 (by rw [List.map_map]; exact eD) ?_
    rw [← em]
    unfold kvK
    rw [List.map_map]
    clear eD em
    induction ts with
    | nil => exact .nil
    | cons t l ih => exact .cons (.inl (.inl (et t List.mem_cons_self))) (ih fun z hz => et z (List.mem_cons_of_mem _ hz))
theorem merge_once (xs : List Str) : mergeK [] (kvK xs) = kvK (ddG xs) := by
  have gen : ∀ (l acc : List Str), mergeK (kvK acc) (kvK l) = kvK (l.foldl once1 acc) := by
    intro l
    induction l with
    | nil => intro acc; rfl
    | cons x r ih =>
      intro acc
      show mergeK (putK (kvK acc) (Sum.inr x) (V.bl true)) (kvK r) = _
      rw [put_key, ih]
      rfl
  exact gen xs []
end K1
end
section
set_option maxHeartbeats 4000000
namespace K1
open PySem PySem.Spec PyProof.Rows L2 Gr GxR Srx Skx Dcx
def noneD : PyData := .tuple [.str "none", .int 0]
theorem noneD_sh : SeqAt.shaped noneD = true := by decide +kernel
theorem eqv_none : PyData.eqv noneD noneD = true := by decide +kernel
theorem dp_none {K : PySem.W.Frag} {H : Hp} {t : Addr} (e : H t = some (.tup [.str "none", .int 0])) : Dp K H (.ref t) noneD := .tup (.inl (.inl e)) (.cons (.str _) (.cons (.int _) .nil))
/-- pairs of a name and a number -/
def siD (z : Str × Int) : PyData := .tuple [.str z.1, .int z.2]
def sisD (l : List (Str × Int)) : PyData := .list (l.map siD)
theorem dp_sis {K : PySem.W.Frag} {H : Hp} {a : Addr} {ts : List (Addr × Str × Int)} (e : H a = some (.lst (ts.map fun t => V.ref t.1))) (h : ∀ t ∈ ts, H t.1 = some (.tup [.str t.2.1, .int t.2.2])) : Dp K H (.ref a) (sisD (ts.map (·.2))) := by
  have gen : ∀ l : List (Addr × Str × Int), (∀ t ∈ l, t ∈ ts) → DpAll K H (l.map fun t => V.ref t.1) ((l.map (·.2)).map siD) := by
    intro l
    induction l with
    | nil => intro _; exact .nil
    | cons t l ih =>
      intro hl
      exact .cons (.tup (.inl (.inl (h t (hl t List.mem_cons_self)))) (.cons (.str _) (.cons (.int _) .nil))) (ih fun x hx => hl x (List.mem_cons_of_mem _ hx))
  exact .lst (.inl (.inl e)) (gen ts fun _ z => z)
theorem canL_sis : ∀ l : List (Str × Int), (∀ z ∈ l, isNm z.1 = true) → PyData.canLayAll0 (l.map siD) = true
  | [], _ => by simp [PyData.canLayAll0]
  | n :: r, h => by
    have h1 := canL_strs [n.1] (fun y hy => by rw [List.mem_singleton.mp hy]; exact h n List.mem_cons_self)
    have h2 := canL_sis r fun x hx => h x (List.mem_cons_of_mem _ hx)
    simp only [List.map_cons, List.map_nil, PyData.canLayAll0, Bool.and_true] at h1
    simp only [List.map_cons, PyData.canLayAll0, h2, Bool.and_true]
    simp only [siD, PyData.canLay0, PyData.canLayAll0, Bool.and_true] at h1 ⊢
    exact h1
theorem deep_sis : ∀ l : List (Str × Int), PyData.depthAll (l.map siD) ≤ 5
  | [] => by simp [PyData.depthAll]
  | n :: r => by
    have h1 := deep_sis r
    simp only [List.map_cons, PyData.depthAll, PyData.depth, siD] at h1 ⊢
    omega
theorem sisD_sh {l : List (Str × Int)} (nm : ∀ z ∈ l, isNm z.1 = true) : SeqAt.shaped (sisD l) = true := by
  have h1 := deep_sis l
  have h2 : PyData.depth (sisD l) ≤ 64 := by simp only [sisD, PyData.depth]; omega
  show (PyData.canLay0 (sisD l) && decide (PyData.depth (sisD l) ≤ 64)) = true
  rw [Bool.and_eq_true]
  exact ⟨by simp only [sisD, PyData.canLay0]; exact canL_sis l nm, decide_eq_true h2⟩
theorem eqv_sis_none (l : List (Str × Int)) : PyData.eqv (sisD l) noneD = false := by
  unfold sisD noneD
  rfl
theorem eqv_dS_none (l : List Str) : PyData.eqv (dS l) noneD = false := by
  unfold dS noneD
  rfl
end K1
end
section
set_option maxHeartbeats 8000000
namespace K1
open PySem PySem.Spec PyProof.Rows L2 Gr GxR Srx Skx Dcx
theorem eqv_sis (xs ys : List (Str × Int)) : PyData.eqv (sisD xs) (sisD ys) = decide (xs = ys) := PySem.W.Datum.eqv xs ys
theorem numd_map (A : List (List Str)) (f : List Str → List Str) : numd (A.map f) = (numd A).map fun e => (e.1, f e.2) := by
  induction A using snoc_ind with
  | h0 => rfl
  | h1 xs x ih =>
    rw [List.map_append, List.map_singleton, numd_snoc, ih, numd_snoc, List.map_append, List.length_map]
    rfl
/-- the law's own row and the book's -/
theorem own_at {tb : Tb1} {A : List (List Str)} {asked : List Str} {x : Str} (e : nr tb = numd (A.map once)) (h : (firstOwn tb asked x).isSome = true) : (firstOwn tb asked x).getD 0 = ownAt A asked x := by
  have e1 : firstOwn tb asked x = ((numd A).find? (own3p asked x)).map (·.1) := by
    have f1 : firstOwn tb asked x = ((nr tb).find? (own3p asked x)).map (·.1) := by
      unfold firstOwn nr
      rw [List.find?_map, Option.map_map]
      rfl
    rw [f1, e, numd_map, List.find?_map, Option.map_map]
    have : (own3p asked x ∘ fun e : Int × List Str => (e.1, once e.2)) = own3p asked x := by
      funext q
      show decide (asked.filter (once q.2).contains = [x]) = decide (asked.filter q.2.contains = [x])
      rw [show (once q.2).contains = q.2.contains from funext fun y => contains_once q.2 y]
    rw [this]
    rfl
  rw [e1] at h ⊢
  unfold ownAt
  cases hf : (numd A).find? (own3p asked x) with
  | none => rw [hf] at h; cases h
  | some q => rfl
section
variable {P : Program} {w : World} {K : PySem.W.Frag} {mg : Str → Option Value} {base : Heap} {f C : Addr} {fd : FuncData} {N : TabN} {R : ErN}
structure Env3 (P : Program) (w : World) (K : PySem.W.Frag) (mg : Str → Option Value) (base : Heap) (C : Addr) (N : TabN) (R : ErN) : Prop where
  draw : Calls P w K mg base CX0 1 "_law_draw" (spDraw K)
  names : Calls P w K mg base CX0 2 "_law_names" (spNames K)
  row : Calls P w K mg base CX0 1 "_law_row" (spRow K)
  book : Calls P w K mg base CX0 6 "_law_book" (spLBook K C N)
  good : Calls P w K mg base CX0 3 "_law_good" (spGood K)
  lown : Calls P w K mg base CX0 1 "_law_own" (spOwn3 K)
  bleast : MCalls P w K mg base CX0 7 C "least" (spBLeast C N)
  fewest : MCalls P w K mg base CX0 8 C "fewest" (spBFewest C N)
  own : MCalls P w K mg base (L2.CX P w) 6 C "own" (spBOwn K C N R)
  bc : BkC K mg C
  gL : mg "len" = none
  gLi : mg "list" = none
  gR : mg "range" = none
  gA : mg "all" = none
  gT : mg "tuple" = none
  gI : mg "isinstance" = none
abbrev nLaw03 : List Str := ["_law_script","_law_names_here","_law_rows","_law_book_here","_law_found","_law_kept","_law_fewest","_law_one","_law_own_here","_law_due","_law_k","_law_name","_law_pair"]
theorem scLaw03 : FnScope nLaw03 ["_law_script"] (defScope s_law_x) := ⟨rfl, rfl, rfl, by decide +kernel, rfl, by decide +kernel, by decide +kernel⟩
theorem ok_law03 (F : FnP K "law" s_law_x f fd) (G : Env3 P w K mg base C N R) : FnOk P w K mg base CX0 9 f fd ["_law_script"] (spLawG K N) := by
  have g_len := G.gL
  have g_list := G.gLi
  have g_range := G.gR
  have g_all := G.gA
  have g_tuple := G.gT
  have g_isinstance := G.gI
  refine F.ok scLaw03 (fun vs H Q E h => ?_) (fun cdv A outer s H vs Q E hr h => ?_)
  · obtain ⟨a, ns, rfl, _⟩ := h
    rfl
  · obtain ⟨a, ns, rfl, hS, hN, q⟩ := h
    refine ⟨_, PSs.nox (pss_cons (ps_set (i := 1) scLaw03.nd rfl (.inr rfl) (pe_k G.names hr (by decide) (by rfl) (pa_cons (pv 0) pa_nil))) (pss_cons (ps_set (i := 2) scLaw03.nd rfl (.inr rfl) (pe_lc (own := [("_law_k", 10)]) (g := gName 10) (tt := tYes) rfl scLaw03.nd (pi_range1 (by rfl) g_range (pa_cons (pe_op op_mod (pe_k G.draw hr (by decide) (by rfl) (pa_cons (pv 0) (pa_cons pe_int pa_nil))) pe_int) pa_nil)) (blkOk_by (N := nLaw03) (sc := defScope s_law_x) (by decide +kernel)) (fun _ _ _ _ _ => (pg_name (i := 10) scLaw03.nd rfl (.inl rfl))) (fun _ _ _ _ _ => pts_nil) (fun _ _ _ _ _ => (pe_k G.row hr (by decide) (by rfl) (pa_cons (pv 1) (pa_cons (pe_k G.draw hr (by decide) (by rfl) (pa_cons (pv 0) (pa_cons (pe_op op_add pe_int (pv 10)) pa_nil))) pa_nil)))))) (pss_cons (ps_set (i := 3) scLaw03.nd rfl (.inl rfl) (pe_k G.book hr (by decide) (by rfl) (pa_cons (pv 2) pa_nil))) (pss_cons (ps_set (i := 4) scLaw03.nd rfl (.inl rfl) (pe_m0 G.bleast G.bc.cl hr (by decide) pa0 (pv 3))) (pss_cons (ps_if (PW.pt (pw_or (pt_not (pt_val (pe_callB call_isi (by rfl) g_isinstance (by decide +kernel) (pa_cons (pv 4) (pa_cons (pe_bltn (v := .ty "list") (by rfl) g_list (by decide +kernel) rfl) pa_nil))))) (pw_or1 (pt_not (pt_val (pe_k G.good hr (by decide) (by rfl) (pa_cons (pv 4) (pa_cons (pv 2) pa_nil)))))))) (pss_one (ps_ret pe_bl)) (pss_nil)) (pss_cons (ps_setLc (i := 5) (own := [("_law_one", 7)]) (g := gName 7) (tt := tYes) rfl scLaw03.nd rfl rfl (sw_true rfl rfl rfl (by decide +kernel)) (pi_list (pv 4)) (blkOk_by (N := nLaw03) (sc := defScope s_law_x) (by decide +kernel)) (fun _ _ _ _ _ => (pg_name (i := 7) scLaw03.nd rfl (.inl rfl))) (fun _ _ _ _ _ => pts_nil) (fun _ _ _ _ _ => (pe_callTy (r := rListOf K) call_list_of (by rfl) g_list boot_list (pa_cons (pv 7) pa_nil)))) (pss_cons (ps_set (i := 6) scLaw03.nd rfl (.inl rfl) (pe_m0 G.fewest G.bc.cl hr (by decide) pa0 (pv 3))) (C8.pss_cut (ps_if (PW.pt (pw_and (pt_cmpR (op_eqD (hu64 hr)) (pv 5) (pe_lst pa_nil) (nomark _)) (pw_and1 (pt_cmpR op_notN (pv 6) pe_non (nomark _))))) (pss_one (ps_ret pe_bl)) (pss_nil)) (C8.pss_cut (ps_if (PW.pt (pw_and (pt_cmpR (op_neD (hu64 hr)) (pv 5) (pe_lst pa_nil) (nomark _)) (pw_and1 (PW.pt (pw_or (pt_cmpR op_isB (pv 6) pe_bl (nomark _)) (pw_or (pt_cmpR op_isB (pv 6) pe_bl (nomark _)) (pw_or1 (pt_cmpR op_ne (pv 6) (pe_callB call_len_seq (by rfl) g_len boot_len (pa_cons (pe_ix ix_list (pv 5) pe_int (fun _ _ => rfl)) pa_nil)) (nomark _))))))))) (pss_one (ps_ret pe_bl)) (pss_nil)) (pss_cons (ps_for PassesOwn.never rfl (pi_list (pv 5)) (pg_name (i := 7) scLaw03.nd rfl (.inr rfl)) (pss_cons (ps_set (i := 8) scLaw03.nd rfl (.inl rfl) (pe_m G.own G.bc.cl hr (by decide) paL (pv 3) (pa_cons (pe_revL (pv 7)) pa_nil))) (pss_cons (ps_setLc (i := 9) (own := [("_law_name", 11)]) (g := gName 11) (tt := tYes) rfl scLaw03.nd rfl rfl (sw_true rfl rfl rfl (by decide +kernel)) (pi_list (pv 7)) (blkOk_by (N := nLaw03) (sc := defScope s_law_x) (by decide +kernel)) (fun _ _ _ _ _ => (pg_name (i := 11) scLaw03.nd rfl (.inl rfl))) (fun _ _ _ _ _ => pts_nil) (fun _ _ _ _ _ => (pe_tup (pa_cons (pv 11) (pa_cons (pe_k G.lown hr (by decide) (by rfl) (pa_cons (pv 7) (pa_cons (pv 11) (pa_cons (pv 2) pa_nil)))) pa_nil))))) (pss_cons (ps_if (PW.pt (pw_or (pt_not (pt_val (pe_callB call_isi (by rfl) g_isinstance (by decide +kernel) (pa_cons (pv 8) (pa_cons (pe_bltn (v := .ty "list") (by rfl) g_list (by decide +kernel) rfl) pa_nil))))) (pw_or (pt_cmpR (op_neD (hu64 hr)) (pv 8) (pv 9) (nomark _)) (pw_or1 (pt_not (pt_val (pe_callB (cr_all rfl) (by rfl) g_all (by decide +kernel) (pa_cons (pe_lc (own := [("_law_pair", 12)]) (g := gName 12) (tt := tYes) rfl scLaw03.nd (pi_list (pv 8)) (blkOk_by (N := nLaw03) (sc := defScope s_law_x) (by decide +kernel)) (fun _ _ _ _ _ => (pg_name (i := 12) scLaw03.nd rfl (.inl rfl))) (fun _ _ _ _ _ => pts_nil) (fun _ _ _ _ _ => (pe_callB (r := rIsi K) call_isi (by rfl) g_isinstance (by decide +kernel) (pa_cons (pv 12) (pa_cons (pe_bltn (v := .ty "tuple") (by rfl) g_tuple (by decide +kernel) rfl) pa_nil))))) pa_nil)))))))) (pss_one (ps_ret pe_bl)) (pss_nil)) (pss_cons (ps_expr (pe_bm PySem.F.plainAttrs_list PySem.F.slot_list_append PySem.F.type_list_append mt_append (pv 8) (pa_cons (pe_tup (pa_cons pe_str (pa_cons pe_int pa_nil))) pa_nil))) (pss_one (ps_if (pt_cmpR (op_neD (hu64 hr)) (pe_m G.own G.bc.cl hr (by decide) paL (pv 3) (pa_cons (pe_callTy call_list_of (by rfl) g_list boot_list (pa_cons (pv 7) pa_nil)) pa_nil)) (pv 9) (nomark _)) (pss_one (ps_ret pe_bl)) (pss_nil)))))))) (pss_cons (ps_for PassesOwn.never rfl (pi_list (pv 4)) (pg_name (i := 7) scLaw03.nd rfl (.inr rfl)) (pss_one (ps_expr (pe_bm PySem.F.plainAttrs_list PySem.F.slot_list_append PySem.F.type_list_append mt_append (pv 7) (pa_cons pe_str pa_nil))))) (pss_cons (ps_expr (pe_bm PySem.F.plainAttrs_list PySem.F.slot_list_append PySem.F.type_list_append mt_append (pv 4) (pa_cons (pe_lst pa_nil) pa_nil))) (pss_one (ps_ret (pe_and (pe_cmpR (op_eqD (hu64 hr)) (pe_m0 G.bleast G.bc.cl hr (by decide) pa0 (pv 3)) (pv 5) (nomark _)) (pe_one (pe_cmpR op_eq (pe_m0 G.fewest G.bc.cl hr (by decide) pa0 (pv 3)) (pv 6) (nomark _)))))))))))))))))), ?_⟩
    have one : 1 ≤ sizeLine := by rw [sizeLine_eq]; omega
    refine ⟨_, rfl, a, ns, rfl, hS, fun Nm H1 g1 nN eN => ?_⟩
    obtain ⟨nms, nnd, nne, nlen⟩ := names_ok (ns.getD 0 0)
    generalize names (ns.getD 0 0) = nm at nms nnd nne nlen eN
    have hNr : Ris (srt nm) := ris_srt nnd
    have m0 : 0 ≤ ns.getD 1 0 % 8 := Int.emod_nonneg _ (by omega)
    have m9 : ns.getD 1 0 % 8 < 8 := Int.emod_lt_of_pos _ (by omega)
    refine ⟨_, rfl, a, ns, 1, rfl, g1.seq hS, _, _, rfl, rfl, (by show (0 : Int) < 8; decide), _, rfl, ?_, ?_, fun Rw nRw => ?_⟩
    · show -(2 ^ 62) ≤ ns.getD 1 0 % 8
      omega
    · show ns.getD 1 0 % 8 < 2 ^ 62
      omega
    refine lc_rows (N := nm) (show (ns.getD 1 0 % 8).toNat ≤ 1000 by omega) nRw (fun v => rfl) (fun k hk H4 Q' g4 hq => ?_) (fun H2 rps g2 TR rl rok => ?_)
    · refine ⟨_, rfl, _, rfl, _, rfl, _, _, rfl, rfl, a, ns, 3 + k, ?_, (g1.trans g4).seq hS, Nm, _, nm, rfl, .inl (.inl (g4.lst eN)), nne, nnd, nms, by omega, hq⟩
      show [V.ref a, V.int (3 + ((0 : Int) + (k : Nat)))] = [V.ref a, V.int ((3 + k : Nat) : Int)]
      rw [show (3 + ((0 : Int) + (k : Nat))) = ((3 + k : Nat) : Int) by omega]
    have lR : LL H2 Rw rps := TR.ll
    have g02 := g1.trans g2
    have RO := rowsOk nms nnd (by omega) rok (by omega)
    have rowsN := rows_in nm rok
    have fitG := fit_grown hNr rowsN (nms_srt nms) (by rw [srt_len]; exact nlen)
    have knm : ∀ z ∈ grown (rps.map (·.2)), Nms z := fun z hz => (fitG.2 z hz).1
    refine ⟨_, rfl, Rw, rps, rfl, lR.lq, RO, hN.gr g02, fun b d H3 tb g3 NB => ?_⟩
    have hN3 := hN.gr (g02.trans g3)
    refine ⟨_, rfl, b, d, tb, _, rfl, NB.bk, b, d, tb, _, rfl, NB.bk, NB.ok, hN3, fun Fo H4 fs g4 TF ef => ?_⟩
    rw [NB.least] at ef
    have fl : fs.length ≤ 1000 := by have := fitG.1; rwa [← ef, List.length_map] at this
    refine ⟨_, rfl, _, _, _, _, true, rfl, .ty _, .base (.lst TF.at_), kit_ty (by decide +kernel), _, rfl, ?_⟩
    refine iteF ⟨_, rfl, _, rfl, Fo, Rw, fs, rps, rfl, TF.ll, lR.gr (g3.trans g4), ef, ef ▸ fitG, by omega, fun H5 g5 => ⟨_, rfl, ?_⟩⟩
    refine iteF ?_
    have g35 := g4.trans g5
    have lF5 := TF.ll.gr g5
    refine ⟨_, rfl, Fo, rfl, ⟨_, lF5.lq.at_⟩, fun Kp nKp => lc_fresh (K := K) (fun x => x) (ps0 := fs) lF5.lq.at_ (small1000 fl) (Gr.refl H5) nKp (fun v => rfl) (fun q0 hq0 Hx Q' gx hx => ⟨_, rfl, q0.1, q0.2.map V.str, rfl, .inl (.inl (.inl ((lF5.gr gx).own q0 hq0))), fun l nl => hx l nl⟩) (fun H6 kps g6 TK ek => ?_)⟩
    have ek : kps.map (·.2) = grown (rps.map (·.2)) := (show kps.map (·.2) = fs.map (·.2) from ek).trans ef
    have g36 := g35.trans g6
    refine ⟨_, rfl, b, d, tb, _, rfl, NB.bk.gr g36, b, d, tb, _, rfl, NB.bk.gr g36, NB.ok, hN3.gr g36, fun H7 g7 => ?_⟩
    have g37 := g36.trans g7
    have ev : fewV (rws tb) = fewV (rps.map (·.2)) := by
      unfold fewV
      rw [NB.least]
    have hv : (grown (rps.map (·.2)) = [] → fewV (rws tb) = .non) ∧ ∀ s r, grown (rps.map (·.2)) = s :: r → fewV (rws tb) = .int (s.length : Nat) := by
      rw [ev]
      unfold fewV
      refine ⟨fun e => by rw [e], fun s r e => by rw [e]⟩
    generalize hfv : fewV (rws tb) = v6 at hv
    have lK7 := TK.ll.gr g7
    refine ⟨fun σ' H' => Gr H7 H' ∧ σ' = [some (.ref a), some (.ref Nm), some (.ref Rw), some (.ref b), some (.ref Fo), some (.ref Kp), some v6, none, none, none, none, none, none], ?_, fun σ' H8 hm8 => ?_⟩
    · refine ⟨_, rfl, Nat.zero_le _, fun e ne => ?_⟩
      have ge : Gr H7 (upd H7 e (.lst [])) := Gr.new ne
      have ee : (upd H7 e (.lst [])) e = some (.lst []) := upd_same
      generalize upd H7 e (.lst []) = H8 at ge ee
      refine ⟨_, _, (lK7.gr ge).dp, dp_dSS (ps := []) (.inl (.inl ee)) (fun _ z => absurd z List.not_mem_nil), shaped_dSS (ek ▸ knm), shaped_dSS (fun _ z => absurd z List.not_mem_nil), _, rfl, ?_⟩
      rw [eqv_dSS, ek]
      refine ite2 (fun h => ?_) (fun _ => iteF ⟨ge, rfl⟩)
      have e0 := hv.1 (of_decide_eq_true h)
      subst e0
      exact ⟨_, rfl, rfl, _, rfl, iteF ⟨ge, rfl⟩⟩
    · obtain ⟨g78, rfl⟩ := hm8
      have lK8 := lK7.gr g78
      refine ⟨fun σ' H' => Gr H8 H' ∧ σ' = [some (.ref a), some (.ref Nm), some (.ref Rw), some (.ref b), some (.ref Fo), some (.ref Kp), some v6, none, none, none, none, none, none], ?_, fun σ' H9 hm9 => ?_⟩
      · refine ⟨_, rfl, Nat.zero_le _, fun e ne => ?_⟩
        have ge : Gr H8 (upd H8 e (.lst [])) := Gr.new ne
        have ee : (upd H8 e (.lst [])) e = some (.lst []) := upd_same
        generalize upd H8 e (.lst []) = H9 at ge ee
        refine ⟨_, _, (lK8.gr ge).dp, dp_dSS (ps := []) (.inl (.inl ee)) (fun _ z => absurd z List.not_mem_nil), shaped_dSS (ek ▸ knm), shaped_dSS (fun _ z => absurd z List.not_mem_nil), _, rfl, ?_⟩
        rw [eqv_dSS]
        refine ite2 (fun h => ?_) (fun _ => iteF ⟨ge, rfl⟩)
        have lKe := lK8.gr ge
        cases kps with
        | nil => exact absurd h (by simp)
        | cons k0 kr =>
          have e0 := hv.2 k0.2 (kr.map fun q : Addr × List Str => q.2) ek.symm
          subst e0
          refine ⟨_, rfl, _, true, rfl, rfl, _, rfl, iteF ⟨_, rfl, _, false, rfl, rfl, _, rfl, iteF ⟨_, rfl, _, rfl, Kp, _, _, _, rfl, rfl, .inl (.inl lKe.at_), atI_nat (j := 0) rfl, k0.1, _, rfl, .inl (.inl (.inl (lKe.own k0 List.mem_cons_self))), rfl, _, rfl, ?_⟩⟩⟩
          rw [List.length_map]
          exact ite2 (fun h => absurd h (by simp)) (fun _ => ⟨ge, rfl⟩)
      · obtain ⟨g89, rfl⟩ := hm9
        have lK9 := lK8.gr g89
        have g39 := (g37.trans g78).trans g89
        have g79 := g78.trans g89
        have kl : kps.length ≤ 1000 := by have := fitG.1; rwa [← ek, List.length_map] at this
        refine ⟨_, rfl, Kp, rfl, ⟨_, lK9.lq.at_⟩, for_list (K := K) (xs := kps.map fun q : Addr × List Str => V.ref q.1) (fun i σ H' => Gr H9 H' ∧ ∃ v7 v8 v9, σ = [some (.ref a), some (.ref Nm), some (.ref Rw), some (.ref b), some (.ref Fo), some (.ref Kp), some v6, v7, v8, v9, none, none, none]) ⟨Gr.refl H9, _, _, _, rfl⟩ (fun i σ H' _ h => (lK9.gr h.1).lq.at_) (fun i x σ H' hx h => ?_) (fun σ H10 h => ?_)⟩
        · obtain ⟨g', v7, v8, v9, rfl⟩ := h
          obtain ⟨z, hz, rfl⟩ := get_map hx
          have mz := List.mem_of_getElem? hz
          have g3h := g39.trans g'
          have eZ := (lK9.gr g').own z mz
          have zin : z.2 ∈ grown (rps.map (·.2)) := ek ▸ List.mem_map.mpr ⟨z, mz, rfl⟩
          have znm := knm _ zin
          have zl := (fitG.2 _ zin).2
          have lstA := grown_mem.mp zin
          have lstB : Lst (rws tb) z.2 := by
            have : z.2 ∈ grown (rws tb) := by rw [NB.least]; exact zin
            exact grown_mem.mp this
          have oz : once z.2.reverse = z.2 := (once_congr fun y => List.mem_reverse).trans (once_ris lstA.1)
          have mtr : mtAll z.2.reverse (rws tb) = true := by rw [← mtAll_once_l, oz]; exact lstB.2.1
          have ownz : ∀ x ∈ z.2, (firstOwn tb z.2 x).isSome = true := (own_lst lstB.1 lstB.2.1).mpr lstB
          have lR9 := (lR.gr g3).gr g3h
          have two : 2 ≤ sizeLine := by rw [sizeLine_eq]; omega
          refine ⟨_, rfl, b, d, tb, _, rfl, NB.bk.gr g3h, _, rfl, _, _, rfl, .inl (.inl eZ), fun r nr => ?_⟩
          have gr1 : Gr H' (upd H' r (.lst (z.2.map V.str).reverse)) := Gr.new nr
          have er : (upd H' r (.lst (z.2.map V.str).reverse)) r = some (.lst (z.2.reverse.map V.str)) := by rw [upd_same, List.map_reverse]
          generalize upd H' r (.lst (z.2.map V.str).reverse) = Ha at gr1 er
          refine ⟨b, d, tb, _, _, rfl, (NB.bk.gr g3h).gr gr1, NB.ok, (hN3.gr g3h).gr gr1, .inl ⟨z.2.reverse, ⟨r, rfl, er, fun y hy => znm y (List.mem_reverse.mp hy), by rw [List.length_reverse]; omega⟩, mtr, by rw [oz]; exact ownz, fun p Hb ts gb np ep ow ets => ?_⟩⟩
          rw [oz] at ets
          have gpb := gr1.trans gb
          have eZb := gpb.lst eZ
          have lRb := lR9.gr gpb
          refine ⟨_, rfl, z.1, rfl, ⟨_, .inl (.inl eZb)⟩, fun D nD => lc_list (K := K) (xs := z.2.map V.str) (fun k Hc => Gr Hb Hc ∧ ∃ us : List (Addr × Str × Int), Hc D = some (.lst (us.map fun t => V.ref t.1)) ∧ (∀ t ∈ us, Hc t.1 = some (.tup [.str t.2.1, .int t.2.2])) ∧ us.map (·.2) = (z.2.take k).map fun x => (x, ownAt (rps.map (·.2)) z.2 x)) ⟨Gr.new nD, [], upd_same, fun _ z => absurd z List.not_mem_nil, rfl⟩ (fun k Hc _ h => .inl (.inl (h.1.lst eZb))) (fun k x Hc hx h => ?_) (fun Hc h => ?_)⟩
          · obtain ⟨gc, us, eD, et, em⟩ := h
            obtain ⟨x0, hx0, rfl⟩ := get_map hx
            have mx := List.mem_of_getElem? hx0
            have hk : k < z.2.length := (List.getElem?_eq_some_iff.mp hx0).1
            refine ⟨rfl, yesIf ⟨_, rfl, _, rfl, _, rfl, _, rfl, z.1, Rw, z.2, x0, rps, rfl, .inl (.inl (gc.lst eZb)), znm, znm x0 mx, zl, (lRb.gr gc).lq, by omega, fun Hd gd => ⟨two, fun t nt => ⟨_, (gd.trans (Gr.new nt)).lst eD, ?_, ((gc.trans gd).trans (Gr.new nt)).mut nD, us ++ [(t, (x0, ownAt (rps.map (·.2)) z.2 x0))], ?_, fun u hu => ?_, ?_⟩⟩⟩⟩
            · have h1 := congrArg List.length em
              rw [List.length_map, List.length_map, List.length_take] at h1
              rw [List.length_map]
              exact small1000 (by omega)
            · rw [upd_same, List.map_append]
              rfl
            · have nDt : D ≠ t := ne_of_none (gd.lst eD) nt
              rcases List.mem_append.mp hu with hu | hu
              · have h1 := et u hu
                have h2 := gd.tup h1
                rw [upd_ne (ne_of h1 eD (by intro z; cases z)), upd_ne (ne_of_none h2 nt)]
                exact h2
              · rw [List.mem_singleton.mp hu]
                show upd _ _ _ t = _
                rw [upd_ne nDt.symm, upd_same]
            · rw [List.map_append, em, List.take_add_one, hx0, List.map_append]
              rfl
          · obtain ⟨gc, us, eD, et, em⟩ := h
            rw [List.length_map, List.take_length] at em
            have same : ts.map (·.2) = us.map (·.2) := by
              rw [ets, em]
              exact List.map_congr_left fun x hx => by rw [own_at NB.rows (ownz x hx)]
            have unm : ∀ q ∈ us.map (·.2), isNm q.1 = true := fun q hq => by
              rw [em] at hq
              obtain ⟨x, hx, rfl⟩ := List.mem_map.mp hq
              exact znm x hx
            have epc := gc.lst ep
            have owc : ∀ t ∈ ts, Hc t.1 = some (.tup [.str t.2.1, .int t.2.2]) := fun t ht => gc.tup (ow t ht).2.2
            refine ⟨_, rfl, _, _, _, _, true, rfl, .ty _, .base (.lst epc), kit_ty (by decide +kernel), _, rfl, ?_⟩
            refine iteF ⟨_, rfl, _, rfl, _, _, dp_sis (K := K) epc owc, dp_sis (K := K) eD et, sisD_sh (same ▸ unm), sisD_sh unm, _, rfl, ?_⟩
            rw [eqv_sis, decide_eq_true same]
            refine iteF ?_
            refine ⟨_, rfl, p, rfl, ⟨_, .inl (.inl epc)⟩, fun D2 nD2 => lc_list (K := K) (xs := ts.map fun t => V.ref t.1) (fun j He => Gr Hc He ∧ He D2 = some (.lst ((List.replicate j true).map V.bl))) ⟨Gr.new nD2, upd_same⟩ (fun j He _ h => .inl (.inl (h.1.lst epc))) (fun j x He hx h => ?_) (fun He h => ?_)⟩
            · obtain ⟨ge, e4⟩ := h
              obtain ⟨t0, ht0, rfl⟩ := get_map hx
              have hj : j < ts.length := (List.getElem?_eq_some_iff.mp ht0).1
              refine ⟨rfl, yesIf ?_⟩
              refine ⟨_, rfl, _, _, _, _, true, rfl, .ty _, .base (.tup (ge.tup (owc t0 (List.mem_of_getElem? ht0)))), kit_ty (by decide +kernel), _, e4, ?_, ge.mut nD2, ?_⟩
              · have h1 := congrArg List.length ets
                rw [List.length_map, List.length_map] at h1
                rw [List.length_map, List.length_replicate]
                exact small1000 (by omega)
              · rw [upd_same, List.replicate_succ', List.map_append]
                rfl
            · obtain ⟨ge, e4⟩ := h
              refine ⟨D2, _, rfl, .inl (.inl e4), _, rfl, ?_⟩
              rw [show ((List.replicate (ts.map fun t => V.ref t.1).length true).all id) = true by
                rw [List.all_eq_true]
                intro z hz
                rw [List.eq_of_mem_replicate hz]
                rfl]
              refine iteF ?_
              have epe := ge.lst epc
              have tsl : ts.length ≤ 1000 := by
                have h1 := congrArg List.length ets
                rw [List.length_map, List.length_map] at h1
                omega
              refine ⟨_, rfl, .inl ⟨rfl, _, .inl (.inl epe)⟩, two, fun w1 nw1 => ?_⟩
              have gw : Gr He (upd He w1 (.tup [.str "z", .int 0])) := Gr.new nw1
              generalize upd He w1 (.tup [.str "z", .int 0]) = Hf at gw
              refine ⟨p, _, _, rfl, rfl, gw.lst epe, ?_, ?_⟩
              · rw [List.length_map]
                exact small1000 (by omega)
              have eDf := (ge.trans gw).lst eD
              have etf : ∀ t ∈ us, Hf t.1 = some (.tup [.str t.2.1, .int t.2.2]) := fun t ht => (ge.trans gw).tup (et t ht)
              have gaf : Gr Ha (upd Hf p (.lst (ts.map (fun t => V.ref t.1) ++ [V.ref w1]))) := (((gb.trans gc).trans ge).trans gw).mut np
              have nDp : D ≠ p := (ne_of_none ep nD).symm
              have eDg : (upd Hf p (.lst (ts.map (fun t => V.ref t.1) ++ [V.ref w1]))) D = some (.lst (us.map fun t => V.ref t.1)) := by rw [upd_ne nDp]; exact eDf
              have etg : ∀ t ∈ us, (upd Hf p (.lst (ts.map (fun t => V.ref t.1) ++ [V.ref w1]))) t.1 = some (.tup [.str t.2.1, .int t.2.2]) := fun t ht => by
                rw [upd_ne (ne_of (etf t ht) (gw.lst epe) (by intro z; cases z))]
                exact etf t ht
              generalize upd Hf p (.lst (ts.map (fun t => V.ref t.1) ++ [V.ref w1])) = Hg at gaf eDg etg
              have ghg := gr1.trans gaf
              refine ⟨_, rfl, b, d, tb, _, rfl, NB.bk.gr (g3h.trans ghg), _, rfl, z.1, z.2.map V.str, rfl, .inl (.inl (.inl (ghg.lst eZ))), fun l nl => ?_⟩
              have gl : Gr Hg (upd Hg l (.lst (z.2.map V.str))) := Gr.new nl
              have ell : (upd Hg l (.lst (z.2.map V.str))) l = some (.lst (z.2.map V.str)) := upd_same
              generalize upd Hg l (.lst (z.2.map V.str)) = Hh at gl ell
              have ozz : once z.2 = z.2 := once_ris lstA.1
              refine ⟨b, d, tb, _, _, rfl, NB.bk.gr ((g3h.trans ghg).trans gl), NB.ok, hN3.gr ((g3h.trans ghg).trans gl), .inl ⟨z.2, ⟨l, rfl, ell, znm, zl⟩, lstB.2.1, by rw [ozz]; exact ownz, fun p2 Hi ts2 gi np2 ep2 ow2 ets2 => ?_⟩⟩
              rw [ozz] at ets2
              have same2 : ts2.map (·.2) = us.map (·.2) := (ets2.trans ets.symm).trans same
              refine ⟨_, rfl, _, _, dp_sis (K := K) ep2 (fun t ht => (ow2 t ht).2.2), dp_sis (K := K) ((gl.trans gi).lst eDg) (fun t ht => (gl.trans gi).tup (etg t ht)), sisD_sh (same2 ▸ unm), sisD_sh unm, _, rfl, ?_⟩
              rw [eqv_sis, decide_eq_true same2]
              exact iteF ⟨((g'.trans ghg).trans gl).trans gi, _, _, _, rfl⟩
        · obtain ⟨g910, v7, v8, v9, rfl⟩ := h
          have lF10 := (lF5.gr g6).gr (g7.trans (g79.trans g910))
          have g310 := g39.trans g910
          have off : ∀ z, H5 z = none → z ∉ fs.map (·.1) := fun z hz hm => by
            obtain ⟨q0, hq0, rfl⟩ := List.mem_map.mp hm
            have := lF5.own q0 hq0
            rw [hz] at this
            cases this
          have lK10 := lK9.gr g910
          refine ⟨_, rfl, Fo, rfl, ⟨_, .inl (.inl lF10.at_)⟩, for_more (K := K) (C := Fo) (A := fs.map (·.1)) (H := H3) (by rw [List.map_map]; exact lF10.at_) g310 (fun hm => ?_) (fun x hx => ?_) (fun x hx => ?_) (by rw [List.length_map]; omega) (show 7 < 13 by decide) (fun v H11 g311 fr => ?_)⟩
          · obtain ⟨q0, hq0, e⟩ := List.mem_map.mp hm
            exact (TF.own q0 hq0).2.1 e
          · obtain ⟨q0, hq0, rfl⟩ := List.mem_map.mp hx
            exact (TF.own q0 hq0).1
          · obtain ⟨q0, hq0, rfl⟩ := List.mem_map.mp hx
            refine ⟨_, lF10.own q0 hq0, ?_⟩
            rw [List.length_map]
            have : q0.2 ∈ grown (rps.map (·.2)) := ef ▸ List.mem_map.mpr ⟨q0, hq0, rfl⟩
            exact (fitG.2 _ this).2
          have lK11 : LL H11 Kp kps := ⟨fr Kp _ (off Kp TK.new) lK10.at_, fun q0 hq0 => fr q0.1 _ (off q0.1 (TK.own q0 hq0).1) (lK10.own q0 hq0)⟩
          have eF11 : H11 Fo = some (.lst (fs.map fun q => V.ref q.1)) := fr Fo _ (fun hm => by
            obtain ⟨q0, hq0, e⟩ := List.mem_map.mp hm
            exact (TF.own q0 hq0).2.1 e) lF10.at_
          refine ⟨_, rfl, .inl ⟨rfl, _, .inl (.inl eF11)⟩, Nat.zero_le _, fun c nc => ?_⟩
          have gc : Gr H11 (upd H11 c (.lst [])) := Gr.new nc
          generalize upd H11 c (.lst []) = H12 at gc
          refine ⟨Fo, _, _, rfl, rfl, gc.lst eF11, ?_, ?_⟩
          · rw [List.length_map]
            exact small1000 (by omega)
          have g3x : Gr H3 (upd H12 Fo (.lst (fs.map (fun q => V.ref q.1) ++ [V.ref c]))) := (g311.trans gc).mut TF.new
          have lKx : LL (upd H12 Fo (.lst (fs.map (fun q => V.ref q.1) ++ [V.ref c]))) Kp kps := by
            have k := lK11.gr gc
            have n5 : ∀ z, H5 z = none → z ≠ Fo := fun z hz e => by
              have := lF5.at_
              rw [← e, hz] at this
              cases this
            exact ⟨by rw [upd_ne (n5 Kp TK.new)]; exact k.at_, fun q0 hq0 => by rw [upd_ne (n5 q0.1 (TK.own q0 hq0).1)]; exact k.own q0 hq0⟩
          generalize upd H12 Fo (.lst (fs.map (fun q => V.ref q.1) ++ [V.ref c])) = H13 at g3x lKx
          refine ⟨_, rfl, b, d, tb, _, rfl, NB.bk.gr g3x, b, d, tb, _, rfl, NB.bk.gr g3x, NB.ok, hN3.gr g3x, fun Ly H14 ys gy TY ey => ?_⟩
          rw [NB.least] at ey
          refine ⟨_, rfl, _, _, TY.ll.dp, (lKx.gr gy).dp, shaped_dSS (ey ▸ knm), shaped_dSS (ek ▸ knm), _, rfl, ?_⟩
          rw [eqv_dSS, ey, ek, decide_eq_true rfl]
          have g3y := g3x.trans gy
          refine iteT ⟨_, rfl, b, d, tb, _, rfl, NB.bk.gr g3y, b, d, tb, _, rfl, NB.bk.gr g3y, NB.ok, hN3.gr g3y, fun H15 gz => ⟨_, rfl, ?_⟩⟩
          rw [hfv]
          cases hG : grown (rps.map (·.2)) with
          | nil =>
            have e6 := hv.1 hG
            subst e6
            refine ⟨rfl, ?_⟩
            rw [decide_eq_true rfl]
            exact q _
          | cons s r =>
            have e6 := hv.2 s r hG
            subst e6
            refine ⟨rfl, ?_⟩
            rw [decide_eq_true rfl]
            exact q _
end
end K1
end
section
set_option maxHeartbeats 0
namespace K1
open PySem PySem.Spec PyProof.Rows L2 GxR Gr
def fn : List He.DefD := [
  ⟨("is_name", none), "is_name", "is_name", defArgs sIsName, defBody sIsName, defScope sIsName, [], []⟩,
  ⟨("_once_each", none), "_once_each", "_once_each", defArgs sOnce, defBody sOnce, defScope sOnce, [], []⟩,
  ⟨("within", none), "within", "within", defArgs sWithin, defBody sWithin, defScope sWithin, [], []⟩,
  ⟨("meets", none), "meets", "meets", defArgs sMeets, defBody sMeets, defScope sMeets, [], []⟩,
  ⟨("_rank", none), "_rank", "_rank", defArgs sRank, defBody sRank, defScope sRank, [], []⟩,
  ⟨("ranked", none), "ranked", "ranked", defArgs sRanked, defBody sRanked, defScope sRanked, [], []⟩,
  ⟨("least_of", none), "least_of", "least_of", defArgs sLeast, defBody sLeast, defScope sLeast, [], []⟩,
  ⟨("rising", none), "rising", "rising", defArgs sRising, defBody sRising, defScope sRising, [], []⟩,
  ⟨("names_from", none), "names_from", "names_from", defArgs s_names_from, defBody s_names_from, defScope s_names_from, [], []⟩,
  ⟨("row_from", none), "row_from", "row_from", defArgs s_row_from, defBody s_row_from, defScope s_row_from, [], []⟩,
  ⟨("grown", none), "grown", "grown", defArgs s_grown, defBody s_grown, defScope s_grown, [], []⟩,
  ⟨("_law_draw", none), "_law_draw", "_law_draw", defArgs sDraw, defBody sDraw, defScope sDraw, [], []⟩,
  ⟨("_law_names", none), "_law_names", "_law_names", defArgs sNames, defBody sNames, defScope sNames, [], []⟩,
  ⟨("_law_row", none), "_law_row", "_law_row", defArgs sRow, defBody sRow, defScope sRow, [], []⟩,
  ⟨("_law_meets", none), "_law_meets", "_law_meets", defArgs sLMeets, defBody sLMeets, defScope sLMeets, [], []⟩,
  ⟨("_law_meets_all", none), "_law_meets_all", "_law_meets_all", defArgs sLAll, defBody sLAll, defScope sLAll, [], []⟩,
  ⟨("_law_within", none), "_law_within", "_law_within", defArgs sLWithin, defBody sLWithin, defScope sLWithin, [], []⟩,
  ⟨("Book", some "__init__"), "__init__", "Book.__init__", defArgs m_init, defBody m_init, defScope m_init, [], []⟩,
  ⟨("Book", some "_sets"), "_sets", "Book._sets", defArgs m_sets, defBody m_sets, defScope m_sets, [], []⟩,
  ⟨("Book", some "names"), "names", "Book.names", defArgs m_names, defBody m_names, defScope m_names, [], []⟩,
  ⟨("Book", some "put"), "put", "Book.put", defArgs m_put, defBody m_put, defScope m_put, [], []⟩,
  ⟨("Book", some "least_rows"), "least_rows", "Book.least_rows", defArgs m_least_rows, defBody m_least_rows, defScope m_least_rows, [], []⟩,
  ⟨("Book", some "least"), "least", "Book.least", defArgs m_least, defBody m_least, defScope m_least, [], []⟩,
  ⟨("Book", some "fewest"), "fewest", "Book.fewest", defArgs m_fewest, defBody m_fewest, defScope m_fewest, [], []⟩,
  ⟨("Book", some "_met_by"), "_met_by", "Book._met_by", defArgs m_met_by, defBody m_met_by, defScope m_met_by, [], []⟩,
  ⟨("Book", some "_meeting"), "_meeting", "Book._meeting", defArgs m_meeting, defBody m_meeting, defScope m_meeting, [], []⟩,
  ⟨("Book", some "_first_own"), "_first_own", "Book._first_own", defArgs m_first_own, defBody m_first_own, defScope m_first_own, [], []⟩,
  ⟨("Book", some "own"), "own", "Book.own", defArgs m_own, defBody m_own, defScope m_own, [], []⟩,
  ⟨("_law_book", none), "_law_book", "_law_book", defArgs s_law_book, defBody s_law_book, defScope s_law_book, [], []⟩,
  ⟨("_law_own", none), "_law_own", "_law_own", defArgs s_law_own_x, defBody s_law_own_x, defScope s_law_own_x, [], []⟩,
  ⟨("_law_good", none), "_law_good", "_law_good", defArgs s_law_good_x, defBody s_law_good_x, defScope s_law_good_x, [], []⟩,
  ⟨("law", none), "law", "law", defArgs s_law_x, defBody s_law_x, defScope s_law_x, [], []⟩]
def globs : List Str := [("is_name" : Str), ("_once_each" : Str), ("within" : Str), ("meets" : Str), ("_rank" : Str), ("ranked" : Str), ("least_of" : Str), ("rising" : Str), ("names_from" : Str), ("row_from" : Str), ("grown" : Str), ("_law_draw" : Str), ("_law_names" : Str), ("_law_row" : Str), ("_law_meets" : Str), ("_law_meets_all" : Str), ("_law_within" : Str), ("_law_book" : Str), ("_law_own" : Str), ("_law_good" : Str), ("law" : Str), ("MeetError" : Str), ("BadName" : Str), ("BadRow" : Str), ("TooMany" : Str), ("NoMeet" : Str), ("meets_sets" : Str), ("Book" : Str)]
def frees : List Str := [("len" : Str), ("isinstance" : Str), ("bool" : Str), ("all" : Str), ("any" : Str), ("str" : Str), ("list" : Str), ("tuple" : Str), ("set" : Str), ("sorted" : Str), ("zip" : Str), ("range" : Str), ("enumerate" : Str), ("ValueError" : Str), ("int" : Str), ("min" : Str), ("dict" : Str), ("reversed" : Str)]
def fx : List He.Fa := [.int "MOST_LETTERS" 8, .int "MOST_ROWS_books" 30, .int "MOST_NAMES_books" 12, .exc "BadName", .exc "BadRow", .exc "TooMany", .exc "NoMeet", .cls "Book", .noat "Book" "_rows", .noat "Book" "_next_number", .mkr "Book", .meth "Book" "_sets", .meth "Book" "names", .meth "Book" "put", .meth "Book" "least_rows", .meth "Book" "least", .meth "Book" "fewest", .meth "Book" "_met_by", .meth "Book" "_meeting", .meth "Book" "_first_own", .meth "Book" "own"]
def fa : List He.Fa := globs.map He.Fa.glo ++ (frees.map He.Fa.free ++ fx)
def ts : List He.Tab := []
def tf : List He.Defn := [("is_name", none), ("within", none), ("meets", none), ("least_of", none), ("Book", some "_met_by"), ("Book", some "own")]
def ex (K : PySem.W.Frag) : Bool := decide (He.ga K "meets_sets" = He.ga K "meets")
abbrev R : PySem.W.OpenRow := PySem.W.OpenLaw.row PySem.Challenge.rw_meetrows_k03_least_sets_by_own_rows
abbrev hk : PySem.W.Hook := He.hookX 4 fa fn ts tf ex
def ob (s : PySem.W.SharedT) : He.AlX := He.obsX 4 fa fn ts tf ex (HandSHeadRun.getT s)
theorem ob_eq (s : PySem.W.SharedT) : ob s = hk.obs s.abs := He.obsX_eq (HandSHeadRun.getT_eq s)
def loose : List Str := [("_wall" : Str), ("MeetError" : Str), ("BadName" : Str), ("BadRow" : Str), ("TooMany" : Str), ("NoMeet" : Str), ("MOST_LETTERS" : Str), ("is_name" : Str), ("rising" : Str), ("within" : Str), ("meets" : Str), ("meets_sets" : Str), ("ranked" : Str), ("least_of" : Str), ("_once_each" : Str), ("_rank" : Str), ("names_from" : Str), ("row_from" : Str), ("grown" : Str), ("MOST_ROWS_books" : Str), ("MOST_NAMES_books" : Str), ("Book" : Str), ("_law_draw" : Str), ("_law_names" : Str), ("_law_row" : Str), ("_law_meets" : Str), ("_law_meets_all" : Str), ("_law_within" : Str), ("_law_book" : Str), ("_law_own" : Str), ("_law_good" : Str)]
theorem run (w : World) : HandSHeadRun.RunEq R (PySem.W.view R.prog [37]) hk ob 8000 loose w := by
  intro os
  kernel_rfl
theorem facts {w : World} {K : PySem.W.Frag} {h : Heap} {mg : Str → Option Value} {f : Addr} (X : K.In h) (G : h.Ns mainGlobals mg) (hfa : mg ("law" : Str) = some (.ref f)) (c : He.SaysX fa fn ts tf ex w h K) :
    LamX.LawAtS PySem.Challenge.rw_meetrows_k03_least_sets_by_own_rows w K CX0 9 63 "_law_script" mg f h := by
  have cd := c.t.d
  have gl : ∀ x ∈ globs, mg x = some (.ref (He.ga K x)) := fun x hx => He.glo_ok X G (He.SaysD.facts cd (List.mem_append_left _ (List.mem_map.mpr ⟨x, hx, rfl⟩)))
  have fr : ∀ x ∈ frees, mg x = none := fun x hx => He.free_ok X G (He.SaysD.facts cd (List.mem_append_right _ (List.mem_append_left _ (List.mem_map.mpr ⟨x, hx, rfl⟩))))
  have xf : ∀ x ∈ fx, x.ok K = true := fun x hx => He.SaysD.facts cd (List.mem_append_right _ (List.mem_append_right _ hx))
  have gM : ∃ t, mg "MOST_LETTERS" = some (.int 8 t) := He.int_ok X G (xf (.int "MOST_LETTERS" 8) List.mem_cons_self)
  have gI_MOST_ROWS_books : ∃ t, mg "MOST_ROWS_books" = some (.int 30 t) := He.int_ok X G (xf (.int "MOST_ROWS_books" 30) (List.mem_cons_of_mem _ List.mem_cons_self))
  have gI_MOST_NAMES_books : ∃ t, mg "MOST_NAMES_books" = some (.int 12 t) := He.int_ok X G (xf (.int "MOST_NAMES_books" 12) (List.mem_cons_of_mem _ (List.mem_cons_of_mem _ List.mem_cons_self)))
  have e_BadName := He.exc_ok (xf (.exc "BadName") (List.mem_cons_of_mem _ (List.mem_cons_of_mem _ (List.mem_cons_of_mem _ List.mem_cons_self))))
  have EC_BadName : ErrC K mg "BadName" (He.ga K "BadName") := ⟨gl "BadName" (by decide), e_BadName.1, e_BadName.2.1, e_BadName.2.2.1, e_BadName.2.2.2⟩
  have e_BadRow := He.exc_ok (xf (.exc "BadRow") (List.mem_cons_of_mem _ (List.mem_cons_of_mem _ (List.mem_cons_of_mem _ (List.mem_cons_of_mem _ List.mem_cons_self)))))
  have EC_BadRow : ErrC K mg "BadRow" (He.ga K "BadRow") := ⟨gl "BadRow" (by decide), e_BadRow.1, e_BadRow.2.1, e_BadRow.2.2.1, e_BadRow.2.2.2⟩
  have e_TooMany := He.exc_ok (xf (.exc "TooMany") (List.mem_cons_of_mem _ (List.mem_cons_of_mem _ (List.mem_cons_of_mem _ (List.mem_cons_of_mem _ (List.mem_cons_of_mem _ List.mem_cons_self))))))
  have EC_TooMany : ErrC K mg "TooMany" (He.ga K "TooMany") := ⟨gl "TooMany" (by decide), e_TooMany.1, e_TooMany.2.1, e_TooMany.2.2.1, e_TooMany.2.2.2⟩
  have e_NoMeet := He.exc_ok (xf (.exc "NoMeet") (List.mem_cons_of_mem _ (List.mem_cons_of_mem _ (List.mem_cons_of_mem _ (List.mem_cons_of_mem _ (List.mem_cons_of_mem _ (List.mem_cons_of_mem _ List.mem_cons_self)))))))
  have EC_NoMeet : ErrC K mg "NoMeet" (He.ga K "NoMeet") := ⟨gl "NoMeet" (by decide), e_NoMeet.1, e_NoMeet.2.1, e_NoMeet.2.2.1, e_NoMeet.2.2.2⟩
  have cl : Cls K (He.ga K "Book") := He.cls_ok (xf (.cls "Book") (List.mem_cons_of_mem _ (List.mem_cons_of_mem _ (List.mem_cons_of_mem _ (List.mem_cons_of_mem _ (List.mem_cons_of_mem _ (List.mem_cons_of_mem _ (List.mem_cons_of_mem _ List.mem_cons_self))))))))
  have nR : NoAttr K (He.ga K "Book") "_rows" := He.noat_ok (xf (.noat "Book" "_rows") (List.mem_cons_of_mem _ (List.mem_cons_of_mem _ (List.mem_cons_of_mem _ (List.mem_cons_of_mem _ (List.mem_cons_of_mem _ (List.mem_cons_of_mem _ (List.mem_cons_of_mem _ (List.mem_cons_of_mem _ List.mem_cons_self)))))))))
  have nN : NoAttr K (He.ga K "Book") "_next_number" := He.noat_ok (xf (.noat "Book" "_next_number") (List.mem_cons_of_mem _ (List.mem_cons_of_mem _ (List.mem_cons_of_mem _ (List.mem_cons_of_mem _ (List.mem_cons_of_mem _ (List.mem_cons_of_mem _ (List.mem_cons_of_mem _ (List.mem_cons_of_mem _ (List.mem_cons_of_mem _ List.mem_cons_self))))))))))
  have mk : Mk K (He.ga K "Book") (He.ma K (He.ga K "Book") "__init__") := He.mkr_ok (xf (.mkr "Book") (List.mem_cons_of_mem _ (List.mem_cons_of_mem _ (List.mem_cons_of_mem _ (List.mem_cons_of_mem _ (List.mem_cons_of_mem _ (List.mem_cons_of_mem _ (List.mem_cons_of_mem _ (List.mem_cons_of_mem _ (List.mem_cons_of_mem _ (List.mem_cons_of_mem _ List.mem_cons_self)))))))))))
  have BC : BkC K mg (He.ga K "Book") := ⟨cl, nR, nN, gl "Book" (by decide)⟩
  have alq : He.ga K "meets_sets" = He.ga K "meets" := of_decide_eq_true c.more
  let RR : ErN := ⟨He.ga K "BadName", He.ga K "BadRow", He.ga K "NoRow", He.ga K "TooMany", He.ga K "NoMeet", He.ga K "Unread"⟩
  let NN : TabN := ⟨(He.cT K ("is_name", none)).2, (He.cT K ("within", none)).2, (He.cT K ("meets", none)).2, (He.cT K ("least_of", none)).2, (He.cT K ("Book", some "_met_by")).2, (He.cT K ("Book", some "own")).2⟩
  obtain ⟨fd0, F_is_name⟩ := cd.def_ 0 (d := ⟨("is_name", none), "is_name", "is_name", defArgs sIsName, defBody sIsName, defScope sIsName, [], []⟩) rfl
  obtain ⟨fd1, F__once_each⟩ := cd.def_ 1 (d := ⟨("_once_each", none), "_once_each", "_once_each", defArgs sOnce, defBody sOnce, defScope sOnce, [], []⟩) rfl
  obtain ⟨fd2, F_within⟩ := cd.def_ 2 (d := ⟨("within", none), "within", "within", defArgs sWithin, defBody sWithin, defScope sWithin, [], []⟩) rfl
  obtain ⟨fd3, F_meets⟩ := cd.def_ 3 (d := ⟨("meets", none), "meets", "meets", defArgs sMeets, defBody sMeets, defScope sMeets, [], []⟩) rfl
  obtain ⟨fd4, F__rank⟩ := cd.def_ 4 (d := ⟨("_rank", none), "_rank", "_rank", defArgs sRank, defBody sRank, defScope sRank, [], []⟩) rfl
  obtain ⟨fd5, F_ranked⟩ := cd.def_ 5 (d := ⟨("ranked", none), "ranked", "ranked", defArgs sRanked, defBody sRanked, defScope sRanked, [], []⟩) rfl
  obtain ⟨fd6, F_least_of⟩ := cd.def_ 6 (d := ⟨("least_of", none), "least_of", "least_of", defArgs sLeast, defBody sLeast, defScope sLeast, [], []⟩) rfl
  obtain ⟨fd7, F_rising⟩ := cd.def_ 7 (d := ⟨("rising", none), "rising", "rising", defArgs sRising, defBody sRising, defScope sRising, [], []⟩) rfl
  obtain ⟨fd8, F_names_from⟩ := cd.def_ 8 (d := ⟨("names_from", none), "names_from", "names_from", defArgs s_names_from, defBody s_names_from, defScope s_names_from, [], []⟩) rfl
  obtain ⟨fd9, F_row_from⟩ := cd.def_ 9 (d := ⟨("row_from", none), "row_from", "row_from", defArgs s_row_from, defBody s_row_from, defScope s_row_from, [], []⟩) rfl
  obtain ⟨fd10, F_grown⟩ := cd.def_ 10 (d := ⟨("grown", none), "grown", "grown", defArgs s_grown, defBody s_grown, defScope s_grown, [], []⟩) rfl
  obtain ⟨fd11, F__law_draw⟩ := cd.def_ 11 (d := ⟨("_law_draw", none), "_law_draw", "_law_draw", defArgs sDraw, defBody sDraw, defScope sDraw, [], []⟩) rfl
  obtain ⟨fd12, F__law_names⟩ := cd.def_ 12 (d := ⟨("_law_names", none), "_law_names", "_law_names", defArgs sNames, defBody sNames, defScope sNames, [], []⟩) rfl
  obtain ⟨fd13, F__law_row⟩ := cd.def_ 13 (d := ⟨("_law_row", none), "_law_row", "_law_row", defArgs sRow, defBody sRow, defScope sRow, [], []⟩) rfl
  obtain ⟨fd14, F__law_meets⟩ := cd.def_ 14 (d := ⟨("_law_meets", none), "_law_meets", "_law_meets", defArgs sLMeets, defBody sLMeets, defScope sLMeets, [], []⟩) rfl
  obtain ⟨fd15, F__law_meets_all⟩ := cd.def_ 15 (d := ⟨("_law_meets_all", none), "_law_meets_all", "_law_meets_all", defArgs sLAll, defBody sLAll, defScope sLAll, [], []⟩) rfl
  obtain ⟨fd16, F__law_within⟩ := cd.def_ 16 (d := ⟨("_law_within", none), "_law_within", "_law_within", defArgs sLWithin, defBody sLWithin, defScope sLWithin, [], []⟩) rfl
  obtain ⟨fd17, F_Book___init__⟩ := cd.def_ 17 (d := ⟨("Book", some "__init__"), "__init__", "Book.__init__", defArgs m_init, defBody m_init, defScope m_init, [], []⟩) rfl
  obtain ⟨fd18, F_Book__sets⟩ := cd.def_ 18 (d := ⟨("Book", some "_sets"), "_sets", "Book._sets", defArgs m_sets, defBody m_sets, defScope m_sets, [], []⟩) rfl
  obtain ⟨fd19, F_Book_names⟩ := cd.def_ 19 (d := ⟨("Book", some "names"), "names", "Book.names", defArgs m_names, defBody m_names, defScope m_names, [], []⟩) rfl
  obtain ⟨fd20, F_Book_put⟩ := cd.def_ 20 (d := ⟨("Book", some "put"), "put", "Book.put", defArgs m_put, defBody m_put, defScope m_put, [], []⟩) rfl
  obtain ⟨fd21, F_Book_least_rows⟩ := cd.def_ 21 (d := ⟨("Book", some "least_rows"), "least_rows", "Book.least_rows", defArgs m_least_rows, defBody m_least_rows, defScope m_least_rows, [], []⟩) rfl
  obtain ⟨fd22, F_Book_least⟩ := cd.def_ 22 (d := ⟨("Book", some "least"), "least", "Book.least", defArgs m_least, defBody m_least, defScope m_least, [], []⟩) rfl
  obtain ⟨fd23, F_Book_fewest⟩ := cd.def_ 23 (d := ⟨("Book", some "fewest"), "fewest", "Book.fewest", defArgs m_fewest, defBody m_fewest, defScope m_fewest, [], []⟩) rfl
  obtain ⟨fd24, F_Book__met_by⟩ := cd.def_ 24 (d := ⟨("Book", some "_met_by"), "_met_by", "Book._met_by", defArgs m_met_by, defBody m_met_by, defScope m_met_by, [], []⟩) rfl
  obtain ⟨fd25, F_Book__meeting⟩ := cd.def_ 25 (d := ⟨("Book", some "_meeting"), "_meeting", "Book._meeting", defArgs m_meeting, defBody m_meeting, defScope m_meeting, [], []⟩) rfl
  obtain ⟨fd26, F_Book__first_own⟩ := cd.def_ 26 (d := ⟨("Book", some "_first_own"), "_first_own", "Book._first_own", defArgs m_first_own, defBody m_first_own, defScope m_first_own, [], []⟩) rfl
  obtain ⟨fd27, F_Book_own⟩ := cd.def_ 27 (d := ⟨("Book", some "own"), "own", "Book.own", defArgs m_own, defBody m_own, defScope m_own, [], []⟩) rfl
  obtain ⟨fd28, F__law_book⟩ := cd.def_ 28 (d := ⟨("_law_book", none), "_law_book", "_law_book", defArgs s_law_book, defBody s_law_book, defScope s_law_book, [], []⟩) rfl
  obtain ⟨fd29, F__law_own⟩ := cd.def_ 29 (d := ⟨("_law_own", none), "_law_own", "_law_own", defArgs s_law_own_x, defBody s_law_own_x, defScope s_law_own_x, [], []⟩) rfl
  obtain ⟨fd30, F__law_good⟩ := cd.def_ 30 (d := ⟨("_law_good", none), "_law_good", "_law_good", defArgs s_law_good_x, defBody s_law_good_x, defScope s_law_good_x, [], []⟩) rfl
  obtain ⟨fd31, F_law⟩ := cd.def_ 31 (d := ⟨("law", none), "law", "law", defArgs s_law_x, defBody s_law_x, defScope s_law_x, [], []⟩) rfl
  have e := hfa.symm.trans (gl "law" (by decide))
  have ef : f = He.ga K "law" := by injection e with e; injection e
  subst ef
  have b := FunD.bindsA (ps := ["_law_script"]) F_law fun _ _ _ _ _ _ us hl => match us, hl with | [_], _ => rfl
  refine ⟨fd31, tf.map (He.cT K), spLawG K NN, fun p hp => ?_, fun p hp => ?_, fun p hp => ?_, fun s v => b s [v] rfl, fun H a ns hl hb ht hS => ?_, fun base hB gB hT => ?_⟩
  · obtain ⟨d, hd, rfl⟩ := List.mem_map.mp hp
    exact c.empty d hd
  · obtain ⟨d, hd, rfl⟩ := List.mem_map.mp hp
    exact c.out d hd
  · obtain ⟨d, hd, rfl⟩ := List.mem_map.mp hp
    exact PySem.W.codeHd_of_K X (c.hd d hd)
  · have tg : ∀ d ∈ tf, TabG H (He.cT K d).2 := fun d hd => ⟨#[], ht _ (List.mem_map.mpr ⟨d, hd, rfl⟩), trivial⟩
    exact ⟨a, ns, rfl, hS, ⟨⟨tg ("is_name", none) (by decide), tg ("within", none) (by decide), tg ("meets", none) (by decide), tg ("least_of", none) (by decide)⟩, tg ("Book", some "_met_by") (by decide), tg ("Book", some "own") (by decide)⟩, fun _ => rfl⟩
  · have tb : ∀ d ∈ tf, Tb K base mg d := fun d hd => have z := hT _ (List.mem_map.mpr ⟨d, hd, rfl⟩); ⟨z.code, z.bm, z.gP⟩
    have G_is_name : FnOk PySem.Challenge.rw_meetrows_k03_least_sets_by_own_rows.prog w K mg base CX0 1 _ _ ["thing"] (spIsName K (He.cT K ("is_name", none)).2) := ok_isname F_is_name (tb _ (by decide)) (fr "all" (by decide)) (fr "isinstance" (by decide)) (fr "str" (by decide)) (fr "len" (by decide)) gM
    have B_is_name : Binds K _ ["thing"] [] := F_is_name.bindsN fun _ _ _ _ _ _ us hl => match us, hl with | [_], _ => rfl
    have C_is_name : Calls PySem.Challenge.rw_meetrows_k03_least_sets_by_own_rows.prog w K mg base CX0 1 "is_name" (spIsName K (He.cT K ("is_name", none)).2) := ⟨_, _, _, G_is_name, gl "is_name" (by decide), F_is_name.kp, B_is_name⟩
    have G__once_each : FnOk PySem.Challenge.rw_meetrows_k03_least_sets_by_own_rows.prog w K mg base CX0 1 _ _ ["names"] (spOnce K) := ok_once F__once_each (fr "sorted" (by decide)) (fr "set" (by decide))
    have B__once_each : Binds K _ ["names"] [] := F__once_each.bindsN fun _ _ _ _ _ _ us hl => match us, hl with | [_], _ => rfl
    have C__once_each : Calls PySem.Challenge.rw_meetrows_k03_least_sets_by_own_rows.prog w K mg base CX0 1 "_once_each" (spOnce K) := ⟨_, _, _, G__once_each, gl "_once_each" (by decide), F__once_each.kp, B__once_each⟩
    have G_within : FnOk PySem.Challenge.rw_meetrows_k03_least_sets_by_own_rows.prog w K mg base CX0 1 _ _ ["one", "other"] (spWithin K (He.cT K ("within", none)).2) := ok_within F_within (tb _ (by decide)) (fr "all" (by decide))
    have B_within : Binds K _ ["one", "other"] [] := F_within.bindsN fun _ _ _ _ _ _ us hl => match us, hl with | [_, _], _ => rfl
    have C_within : Calls PySem.Challenge.rw_meetrows_k03_least_sets_by_own_rows.prog w K mg base CX0 1 "within" (spWithin K (He.cT K ("within", none)).2) := ⟨_, _, _, G_within, gl "within" (by decide), F_within.kp, B_within⟩
    have G_meets : FnOk PySem.Challenge.rw_meetrows_k03_least_sets_by_own_rows.prog w K mg base CX0 1 _ _ ["one", "other"] (spMeets K (He.cT K ("meets", none)).2) := ok_meets F_meets (tb _ (by decide)) (fr "any" (by decide))
    have B_meets : Binds K _ ["one", "other"] [] := F_meets.bindsN fun _ _ _ _ _ _ us hl => match us, hl with | [_, _], _ => rfl
    have C_meets : Calls PySem.Challenge.rw_meetrows_k03_least_sets_by_own_rows.prog w K mg base CX0 1 "meets" (spMeets K (He.cT K ("meets", none)).2) := ⟨_, _, _, G_meets, gl "meets" (by decide), F_meets.kp, B_meets⟩
    have C_meets_sets : Calls PySem.Challenge.rw_meetrows_k03_least_sets_by_own_rows.prog w K mg base CX0 1 "meets_sets" (spMeets K (He.cT K ("meets", none)).2) := ⟨_, _, _, G_meets, (gl "meets_sets" (by decide)).trans (congrArg (fun z => some (Value.ref z)) alq), F_meets.kp, B_meets⟩
    have G__rank : FnOk PySem.Challenge.rw_meetrows_k03_least_sets_by_own_rows.prog w K mg base CX0 1 _ _ ["one"] (spRank K) := ok_rank F__rank (fr "len" (by decide))
    have B__rank : Binds K _ ["one"] [] := F__rank.bindsN fun _ _ _ _ _ _ us hl => match us, hl with | [_], _ => rfl
    have C__rank : Calls PySem.Challenge.rw_meetrows_k03_least_sets_by_own_rows.prog w K mg base CX0 1 "_rank" (spRank K) := ⟨_, _, _, G__rank, gl "_rank" (by decide), F__rank.kp, B__rank⟩
    have G_ranked : FnOk PySem.Challenge.rw_meetrows_k03_least_sets_by_own_rows.prog w K mg base CX0 4 _ _ ["sets"] (spRanked K) := ok_ranked F_ranked F__rank (gl "_rank" (by decide)) (fr "sorted" (by decide)) (fr "list" (by decide)) (fr "len" (by decide))
    have B_ranked : Binds K _ ["sets"] [] := F_ranked.bindsN fun _ _ _ _ _ _ us hl => match us, hl with | [_], _ => rfl
    have C_ranked : Calls PySem.Challenge.rw_meetrows_k03_least_sets_by_own_rows.prog w K mg base CX0 4 "ranked" (spRanked K) := ⟨_, _, _, G_ranked, gl "ranked" (by decide), F_ranked.kp, B_ranked⟩
    have G_least_of : FnOk PySem.Challenge.rw_meetrows_k03_least_sets_by_own_rows.prog w K mg base CX0 5 _ _ ["sets"] (spLeast K (He.cT K ("least_of", none)).2 (He.cT K ("within", none)).2) := ok_least F_least_of (tb _ (by decide)) G_ranked B_ranked F_ranked.kp (gl "ranked" (by decide)) G__once_each B__once_each F__once_each.kp (gl "_once_each" (by decide)) G_within B_within F_within.kp (gl "within" (by decide)) (fr "any" (by decide)) (fr "tuple" (by decide)) (fr "list" (by decide))
    have B_least_of : Binds K _ ["sets"] [] := F_least_of.bindsN fun _ _ _ _ _ _ us hl => match us, hl with | [_], _ => rfl
    have C_least_of : Calls PySem.Challenge.rw_meetrows_k03_least_sets_by_own_rows.prog w K mg base CX0 5 "least_of" (spLeast K (He.cT K ("least_of", none)).2 (He.cT K ("within", none)).2) := ⟨_, _, _, G_least_of, gl "least_of" (by decide), F_least_of.kp, B_least_of⟩
    have G_rising : FnOk PySem.Challenge.rw_meetrows_k03_least_sets_by_own_rows.prog w K mg base (L2.CX PySem.Challenge.rw_meetrows_k03_least_sets_by_own_rows.prog w) 2 _ _ ["names"] (spRising K (He.cT K ("is_name", none)).2 (He.ga K "BadName")) := ok_rising F_rising G_is_name B_is_name F_is_name.kp (gl "is_name" (by decide)) G__once_each B__once_each F__once_each.kp (gl "_once_each" (by decide)) EC_BadName (fr "enumerate" (by decide)) gM
    have B_rising : Binds K _ ["names"] [] := F_rising.bindsN fun _ _ _ _ _ _ us hl => match us, hl with | [_], _ => rfl
    have C_rising : Calls PySem.Challenge.rw_meetrows_k03_least_sets_by_own_rows.prog w K mg base (L2.CX PySem.Challenge.rw_meetrows_k03_least_sets_by_own_rows.prog w) 2 "rising" (spRising K (He.cT K ("is_name", none)).2 (He.ga K "BadName")) := ⟨_, _, _, G_rising, gl "rising" (by decide), F_rising.kp, B_rising⟩
    have G_names_from : FnOk PySem.Challenge.rw_meetrows_k03_least_sets_by_own_rows.prog w K mg base (L2.CX PySem.Challenge.rw_meetrows_k03_least_sets_by_own_rows.prog w) 3 _ _ ["thing"] (spNamesFrom K NN.i RR) := ok_names_from F_names_from C_rising EC_BadRow (fr "isinstance" (by decide)) (fr "list" (by decide))
    have B_names_from : Binds K _ ["thing"] [] := F_names_from.bindsN fun _ _ _ _ _ _ us hl => match us, hl with | [_], _ => rfl
    have C_names_from : Calls PySem.Challenge.rw_meetrows_k03_least_sets_by_own_rows.prog w K mg base (L2.CX PySem.Challenge.rw_meetrows_k03_least_sets_by_own_rows.prog w) 3 "names_from" (spNamesFrom K NN.i RR) := ⟨_, _, _, G_names_from, gl "names_from" (by decide), F_names_from.kp, B_names_from⟩
    have G_row_from : FnOk PySem.Challenge.rw_meetrows_k03_least_sets_by_own_rows.prog w K mg base (L2.CX PySem.Challenge.rw_meetrows_k03_least_sets_by_own_rows.prog w) 4 _ _ ["thing"] (spRowFrom K NN.i RR) := ok_row_from F_row_from C_names_from EC_BadRow (fr "len" (by decide))
    have B_row_from : Binds K _ ["thing"] [] := F_row_from.bindsN fun _ _ _ _ _ _ us hl => match us, hl with | [_], _ => rfl
    have C_row_from : Calls PySem.Challenge.rw_meetrows_k03_least_sets_by_own_rows.prog w K mg base (L2.CX PySem.Challenge.rw_meetrows_k03_least_sets_by_own_rows.prog w) 4 "row_from" (spRowFrom K NN.i RR) := ⟨_, _, _, G_row_from, gl "row_from" (by decide), F_row_from.kp, B_row_from⟩
    have G_grown : FnOk PySem.Challenge.rw_meetrows_k03_least_sets_by_own_rows.prog w K mg base CX0 6 _ _ ["sets", "row"] (spGrown K NN) := ok_grown F_grown C_row_from C_meets_sets C_least_of
    have B_grown : Binds K _ ["sets", "row"] [] := F_grown.bindsN fun _ _ _ _ _ _ us hl => match us, hl with | [_, _], _ => rfl
    have C_grown : Calls PySem.Challenge.rw_meetrows_k03_least_sets_by_own_rows.prog w K mg base CX0 6 "grown" (spGrown K NN) := ⟨_, _, _, G_grown, gl "grown" (by decide), F_grown.kp, B_grown⟩
    have G__law_draw : FnOk PySem.Challenge.rw_meetrows_k03_least_sets_by_own_rows.prog w K mg base CX0 1 _ _ ["_law_script", "_law_k"] (spDraw K) := ok_draw F__law_draw (fr "len" (by decide))
    have B__law_draw : Binds K _ ["_law_script", "_law_k"] [] := F__law_draw.bindsN fun _ _ _ _ _ _ us hl => match us, hl with | [_, _], _ => rfl
    have C__law_draw : Calls PySem.Challenge.rw_meetrows_k03_least_sets_by_own_rows.prog w K mg base CX0 1 "_law_draw" (spDraw K) := ⟨_, _, _, G__law_draw, gl "_law_draw" (by decide), F__law_draw.kp, B__law_draw⟩
    have G__law_names : FnOk PySem.Challenge.rw_meetrows_k03_least_sets_by_own_rows.prog w K mg base CX0 2 _ _ ["_law_script"] (spNames K) := ok_names F__law_names G__law_draw B__law_draw F__law_draw.kp (gl "_law_draw" (by decide)) (fr "range" (by decide))
    have B__law_names : Binds K _ ["_law_script"] [] := F__law_names.bindsN fun _ _ _ _ _ _ us hl => match us, hl with | [_], _ => rfl
    have C__law_names : Calls PySem.Challenge.rw_meetrows_k03_least_sets_by_own_rows.prog w K mg base CX0 2 "_law_names" (spNames K) := ⟨_, _, _, G__law_names, gl "_law_names" (by decide), F__law_names.kp, B__law_names⟩
    have G__law_row : FnOk PySem.Challenge.rw_meetrows_k03_least_sets_by_own_rows.prog w K mg base CX0 1 _ _ ["_law_names_here", "_law_cell"] (spRow K) := ok_row F__law_row (fr "len" (by decide))
    have B__law_row : Binds K _ ["_law_names_here", "_law_cell"] [] := F__law_row.bindsN fun _ _ _ _ _ _ us hl => match us, hl with | [_, _], _ => rfl
    have C__law_row : Calls PySem.Challenge.rw_meetrows_k03_least_sets_by_own_rows.prog w K mg base CX0 1 "_law_row" (spRow K) := ⟨_, _, _, G__law_row, gl "_law_row" (by decide), F__law_row.kp, B__law_row⟩
    have G__law_meets : FnOk PySem.Challenge.rw_meetrows_k03_least_sets_by_own_rows.prog w K mg base CX0 1 _ _ ["_law_one", "_law_row_here"] (spLMeets K) := ok_lmeets F__law_meets
    have B__law_meets : Binds K _ ["_law_one", "_law_row_here"] [] := F__law_meets.bindsN fun _ _ _ _ _ _ us hl => match us, hl with | [_, _], _ => rfl
    have C__law_meets : Calls PySem.Challenge.rw_meetrows_k03_least_sets_by_own_rows.prog w K mg base CX0 1 "_law_meets" (spLMeets K) := ⟨_, _, _, G__law_meets, gl "_law_meets" (by decide), F__law_meets.kp, B__law_meets⟩
    have G__law_meets_all : FnOk PySem.Challenge.rw_meetrows_k03_least_sets_by_own_rows.prog w K mg base CX0 2 _ _ ["_law_one", "_law_rows"] (spLAll K) := ok_lall F__law_meets_all C__law_meets
    have B__law_meets_all : Binds K _ ["_law_one", "_law_rows"] [] := F__law_meets_all.bindsN fun _ _ _ _ _ _ us hl => match us, hl with | [_, _], _ => rfl
    have C__law_meets_all : Calls PySem.Challenge.rw_meetrows_k03_least_sets_by_own_rows.prog w K mg base CX0 2 "_law_meets_all" (spLAll K) := ⟨_, _, _, G__law_meets_all, gl "_law_meets_all" (by decide), F__law_meets_all.kp, B__law_meets_all⟩
    have G__law_within : FnOk PySem.Challenge.rw_meetrows_k03_least_sets_by_own_rows.prog w K mg base CX0 1 _ _ ["_law_one", "_law_other"] (spLWithin K) := ok_lwithin F__law_within
    have B__law_within : Binds K _ ["_law_one", "_law_other"] [] := F__law_within.bindsN fun _ _ _ _ _ _ us hl => match us, hl with | [_, _], _ => rfl
    have C__law_within : Calls PySem.Challenge.rw_meetrows_k03_least_sets_by_own_rows.prog w K mg base CX0 1 "_law_within" (spLWithin K) := ⟨_, _, _, G__law_within, gl "_law_within" (by decide), F__law_within.kp, B__law_within⟩
    have G_Book___init__ : FnOk PySem.Challenge.rw_meetrows_k03_least_sets_by_own_rows.prog w K mg base CX0 1 _ _ ["self"] (spInit (He.ga K "Book")) := ok_init F_Book___init__ BC
    have B_Book___init__ : Binds K _ ["self"] [] := F_Book___init__.bindsN fun _ _ _ _ _ _ us hl => match us, hl with | [_], _ => rfl
    have CMK : MkB PySem.Challenge.rw_meetrows_k03_least_sets_by_own_rows.prog w K mg base (He.ga K "Book") := ⟨_, _, _, G_Book___init__, mk, B_Book___init__⟩
    have G_Book__sets : FnOk PySem.Challenge.rw_meetrows_k03_least_sets_by_own_rows.prog w K mg base CX0 1 _ _ ["self"] (spBSets (He.ga K "Book")) := ok_bsets F_Book__sets BC (fr "list" (by decide))
    have B_Book__sets : Binds K _ ["self"] [] := F_Book__sets.bindsN fun _ _ _ _ _ _ us hl => match us, hl with | [_], _ => rfl
    have C_Book__sets : MCalls PySem.Challenge.rw_meetrows_k03_least_sets_by_own_rows.prog w K mg base CX0 1 (He.ga K "Book") "_sets" (spBSets (He.ga K "Book")) := ⟨_, _, _, G_Book__sets, (He.meth_ok (xf (.meth "Book" "_sets") (List.mem_cons_of_mem _ (List.mem_cons_of_mem _ (List.mem_cons_of_mem _ (List.mem_cons_of_mem _ (List.mem_cons_of_mem _ (List.mem_cons_of_mem _ (List.mem_cons_of_mem _ (List.mem_cons_of_mem _ (List.mem_cons_of_mem _ (List.mem_cons_of_mem _ (List.mem_cons_of_mem _ List.mem_cons_self))))))))))))), B_Book__sets⟩
    have G_Book_names : FnOk PySem.Challenge.rw_meetrows_k03_least_sets_by_own_rows.prog w K mg base CX0 2 _ _ ["self"] (spBNames (He.ga K "Book")) := ok_bnames F_Book_names BC C_Book__sets (fr "sorted" (by decide))
    have B_Book_names : Binds K _ ["self"] [] := F_Book_names.bindsN fun _ _ _ _ _ _ us hl => match us, hl with | [_], _ => rfl
    have C_Book_names : MCalls PySem.Challenge.rw_meetrows_k03_least_sets_by_own_rows.prog w K mg base CX0 2 (He.ga K "Book") "names" (spBNames (He.ga K "Book")) := ⟨_, _, _, G_Book_names, (He.meth_ok (xf (.meth "Book" "names") (List.mem_cons_of_mem _ (List.mem_cons_of_mem _ (List.mem_cons_of_mem _ (List.mem_cons_of_mem _ (List.mem_cons_of_mem _ (List.mem_cons_of_mem _ (List.mem_cons_of_mem _ (List.mem_cons_of_mem _ (List.mem_cons_of_mem _ (List.mem_cons_of_mem _ (List.mem_cons_of_mem _ (List.mem_cons_of_mem _ List.mem_cons_self)))))))))))))), B_Book_names⟩
    have G_Book_put : FnOk PySem.Challenge.rw_meetrows_k03_least_sets_by_own_rows.prog w K mg base (L2.CX PySem.Challenge.rw_meetrows_k03_least_sets_by_own_rows.prog w) 5 _ _ ["self", "row"] (spPut K (He.ga K "Book") NN RR) := ok_put F_Book_put BC C_row_from C_rising C_Book_names EC_TooMany (fr "len" (by decide)) gI_MOST_ROWS_books gI_MOST_NAMES_books
    have B_Book_put : Binds K _ ["self", "row"] [] := F_Book_put.bindsN fun _ _ _ _ _ _ us hl => match us, hl with | [_, _], _ => rfl
    have C_Book_put : MCalls PySem.Challenge.rw_meetrows_k03_least_sets_by_own_rows.prog w K mg base (L2.CX PySem.Challenge.rw_meetrows_k03_least_sets_by_own_rows.prog w) 5 (He.ga K "Book") "put" (spPut K (He.ga K "Book") NN RR) := ⟨_, _, _, G_Book_put, (He.meth_ok (xf (.meth "Book" "put") (List.mem_cons_of_mem _ (List.mem_cons_of_mem _ (List.mem_cons_of_mem _ (List.mem_cons_of_mem _ (List.mem_cons_of_mem _ (List.mem_cons_of_mem _ (List.mem_cons_of_mem _ (List.mem_cons_of_mem _ (List.mem_cons_of_mem _ (List.mem_cons_of_mem _ (List.mem_cons_of_mem _ (List.mem_cons_of_mem _ (List.mem_cons_of_mem _ List.mem_cons_self))))))))))))))), B_Book_put⟩
    have G_Book_least_rows : FnOk PySem.Challenge.rw_meetrows_k03_least_sets_by_own_rows.prog w K mg base CX0 6 _ _ ["self"] (spBLeastRows (He.ga K "Book") NN) := ok_bleastrows F_Book_least_rows BC C_Book__sets C_least_of
    have B_Book_least_rows : Binds K _ ["self"] [] := F_Book_least_rows.bindsN fun _ _ _ _ _ _ us hl => match us, hl with | [_], _ => rfl
    have C_Book_least_rows : MCalls PySem.Challenge.rw_meetrows_k03_least_sets_by_own_rows.prog w K mg base CX0 6 (He.ga K "Book") "least_rows" (spBLeastRows (He.ga K "Book") NN) := ⟨_, _, _, G_Book_least_rows, (He.meth_ok (xf (.meth "Book" "least_rows") (List.mem_cons_of_mem _ (List.mem_cons_of_mem _ (List.mem_cons_of_mem _ (List.mem_cons_of_mem _ (List.mem_cons_of_mem _ (List.mem_cons_of_mem _ (List.mem_cons_of_mem _ (List.mem_cons_of_mem _ (List.mem_cons_of_mem _ (List.mem_cons_of_mem _ (List.mem_cons_of_mem _ (List.mem_cons_of_mem _ (List.mem_cons_of_mem _ (List.mem_cons_of_mem _ List.mem_cons_self)))))))))))))))), B_Book_least_rows⟩
    have G_Book_least : FnOk PySem.Challenge.rw_meetrows_k03_least_sets_by_own_rows.prog w K mg base CX0 7 _ _ ["self"] (spBLeast (He.ga K "Book") NN) := ok_bleast F_Book_least BC C_Book_least_rows C_grown
    have B_Book_least : Binds K _ ["self"] [] := F_Book_least.bindsN fun _ _ _ _ _ _ us hl => match us, hl with | [_], _ => rfl
    have C_Book_least : MCalls PySem.Challenge.rw_meetrows_k03_least_sets_by_own_rows.prog w K mg base CX0 7 (He.ga K "Book") "least" (spBLeast (He.ga K "Book") NN) := ⟨_, _, _, G_Book_least, (He.meth_ok (xf (.meth "Book" "least") (List.mem_cons_of_mem _ (List.mem_cons_of_mem _ (List.mem_cons_of_mem _ (List.mem_cons_of_mem _ (List.mem_cons_of_mem _ (List.mem_cons_of_mem _ (List.mem_cons_of_mem _ (List.mem_cons_of_mem _ (List.mem_cons_of_mem _ (List.mem_cons_of_mem _ (List.mem_cons_of_mem _ (List.mem_cons_of_mem _ (List.mem_cons_of_mem _ (List.mem_cons_of_mem _ (List.mem_cons_of_mem _ List.mem_cons_self))))))))))))))))), B_Book_least⟩
    have G_Book_fewest : FnOk PySem.Challenge.rw_meetrows_k03_least_sets_by_own_rows.prog w K mg base CX0 8 _ _ ["self"] (spBFewest (He.ga K "Book") NN) := ok_bfewest F_Book_fewest BC C_Book_least (fr "len" (by decide))
    have B_Book_fewest : Binds K _ ["self"] [] := F_Book_fewest.bindsN fun _ _ _ _ _ _ us hl => match us, hl with | [_], _ => rfl
    have C_Book_fewest : MCalls PySem.Challenge.rw_meetrows_k03_least_sets_by_own_rows.prog w K mg base CX0 8 (He.ga K "Book") "fewest" (spBFewest (He.ga K "Book") NN) := ⟨_, _, _, G_Book_fewest, (He.meth_ok (xf (.meth "Book" "fewest") (List.mem_cons_of_mem _ (List.mem_cons_of_mem _ (List.mem_cons_of_mem _ (List.mem_cons_of_mem _ (List.mem_cons_of_mem _ (List.mem_cons_of_mem _ (List.mem_cons_of_mem _ (List.mem_cons_of_mem _ (List.mem_cons_of_mem _ (List.mem_cons_of_mem _ (List.mem_cons_of_mem _ (List.mem_cons_of_mem _ (List.mem_cons_of_mem _ (List.mem_cons_of_mem _ (List.mem_cons_of_mem _ (List.mem_cons_of_mem _ List.mem_cons_self)))))))))))))))))), B_Book_fewest⟩
    have G_Book__met_by : FnOk PySem.Challenge.rw_meetrows_k03_least_sets_by_own_rows.prog w K mg base CX0 4 _ _ ["self", "one"] (spBMetBy K (He.ga K "Book") NN) := ok_metby F_Book__met_by (tb _ (by decide)) rfl BC C_Book__sets C_meets_sets (fr "all" (by decide))
    have B_Book__met_by : Binds K _ ["self", "one"] [] := F_Book__met_by.bindsN fun _ _ _ _ _ _ us hl => match us, hl with | [_, _], _ => rfl
    have C_Book__met_by : MCalls PySem.Challenge.rw_meetrows_k03_least_sets_by_own_rows.prog w K mg base CX0 4 (He.ga K "Book") "_met_by" (spBMetBy K (He.ga K "Book") NN) := ⟨_, _, _, G_Book__met_by, (He.meth_ok (xf (.meth "Book" "_met_by") (List.mem_cons_of_mem _ (List.mem_cons_of_mem _ (List.mem_cons_of_mem _ (List.mem_cons_of_mem _ (List.mem_cons_of_mem _ (List.mem_cons_of_mem _ (List.mem_cons_of_mem _ (List.mem_cons_of_mem _ (List.mem_cons_of_mem _ (List.mem_cons_of_mem _ (List.mem_cons_of_mem _ (List.mem_cons_of_mem _ (List.mem_cons_of_mem _ (List.mem_cons_of_mem _ (List.mem_cons_of_mem _ (List.mem_cons_of_mem _ (List.mem_cons_of_mem _ List.mem_cons_self))))))))))))))))))), B_Book__met_by⟩
    have G_Book__meeting : FnOk PySem.Challenge.rw_meetrows_k03_least_sets_by_own_rows.prog w K mg base (L2.CX PySem.Challenge.rw_meetrows_k03_least_sets_by_own_rows.prog w) 5 _ _ ["self", "names"] (spBMeeting K (He.ga K "Book") NN RR) := ok_bmeeting F_Book__meeting BC C_names_from C_Book__met_by EC_NoMeet
    have B_Book__meeting : Binds K _ ["self", "names"] [] := F_Book__meeting.bindsN fun _ _ _ _ _ _ us hl => match us, hl with | [_, _], _ => rfl
    have C_Book__meeting : MCalls PySem.Challenge.rw_meetrows_k03_least_sets_by_own_rows.prog w K mg base (L2.CX PySem.Challenge.rw_meetrows_k03_least_sets_by_own_rows.prog w) 5 (He.ga K "Book") "_meeting" (spBMeeting K (He.ga K "Book") NN RR) := ⟨_, _, _, G_Book__meeting, (He.meth_ok (xf (.meth "Book" "_meeting") (List.mem_cons_of_mem _ (List.mem_cons_of_mem _ (List.mem_cons_of_mem _ (List.mem_cons_of_mem _ (List.mem_cons_of_mem _ (List.mem_cons_of_mem _ (List.mem_cons_of_mem _ (List.mem_cons_of_mem _ (List.mem_cons_of_mem _ (List.mem_cons_of_mem _ (List.mem_cons_of_mem _ (List.mem_cons_of_mem _ (List.mem_cons_of_mem _ (List.mem_cons_of_mem _ (List.mem_cons_of_mem _ (List.mem_cons_of_mem _ (List.mem_cons_of_mem _ (List.mem_cons_of_mem _ List.mem_cons_self)))))))))))))))))))), B_Book__meeting⟩
    have G_Book__first_own : FnOk PySem.Challenge.rw_meetrows_k03_least_sets_by_own_rows.prog w K mg base CX0 1 _ _ ["self", "name", "asked"] (spFirstOwn K (He.ga K "Book")) := ok_first_own F_Book__first_own BC
    have B_Book__first_own : Binds K _ ["self", "name", "asked"] [] := F_Book__first_own.bindsN fun _ _ _ _ _ _ us hl => match us, hl with | [_, _, _], _ => rfl
    have C_Book__first_own : MCalls PySem.Challenge.rw_meetrows_k03_least_sets_by_own_rows.prog w K mg base CX0 1 (He.ga K "Book") "_first_own" (spFirstOwn K (He.ga K "Book")) := ⟨_, _, _, G_Book__first_own, (He.meth_ok (xf (.meth "Book" "_first_own") (List.mem_cons_of_mem _ (List.mem_cons_of_mem _ (List.mem_cons_of_mem _ (List.mem_cons_of_mem _ (List.mem_cons_of_mem _ (List.mem_cons_of_mem _ (List.mem_cons_of_mem _ (List.mem_cons_of_mem _ (List.mem_cons_of_mem _ (List.mem_cons_of_mem _ (List.mem_cons_of_mem _ (List.mem_cons_of_mem _ (List.mem_cons_of_mem _ (List.mem_cons_of_mem _ (List.mem_cons_of_mem _ (List.mem_cons_of_mem _ (List.mem_cons_of_mem _ (List.mem_cons_of_mem _ (List.mem_cons_of_mem _ List.mem_cons_self))))))))))))))))))))), B_Book__first_own⟩
    have G_Book_own : FnOk PySem.Challenge.rw_meetrows_k03_least_sets_by_own_rows.prog w K mg base (L2.CX PySem.Challenge.rw_meetrows_k03_least_sets_by_own_rows.prog w) 6 _ _ ["self", "names"] (spBOwn K (He.ga K "Book") NN RR) := ok_own F_Book_own (tb _ (by decide)) rfl BC C_Book__meeting C_Book__first_own EC_NoMeet (fr "any" (by decide))
    have B_Book_own : Binds K _ ["self", "names"] [] := F_Book_own.bindsN fun _ _ _ _ _ _ us hl => match us, hl with | [_, _], _ => rfl
    have C_Book_own : MCalls PySem.Challenge.rw_meetrows_k03_least_sets_by_own_rows.prog w K mg base (L2.CX PySem.Challenge.rw_meetrows_k03_least_sets_by_own_rows.prog w) 6 (He.ga K "Book") "own" (spBOwn K (He.ga K "Book") NN RR) := ⟨_, _, _, G_Book_own, (He.meth_ok (xf (.meth "Book" "own") (List.mem_cons_of_mem _ (List.mem_cons_of_mem _ (List.mem_cons_of_mem _ (List.mem_cons_of_mem _ (List.mem_cons_of_mem _ (List.mem_cons_of_mem _ (List.mem_cons_of_mem _ (List.mem_cons_of_mem _ (List.mem_cons_of_mem _ (List.mem_cons_of_mem _ (List.mem_cons_of_mem _ (List.mem_cons_of_mem _ (List.mem_cons_of_mem _ (List.mem_cons_of_mem _ (List.mem_cons_of_mem _ (List.mem_cons_of_mem _ (List.mem_cons_of_mem _ (List.mem_cons_of_mem _ (List.mem_cons_of_mem _ (List.mem_cons_of_mem _ List.mem_cons_self)))))))))))))))))))))), B_Book_own⟩
    have G__law_book : FnOk PySem.Challenge.rw_meetrows_k03_least_sets_by_own_rows.prog w K mg base CX0 6 _ _ ["_law_rows"] (spLBook K (He.ga K "Book") NN) := ok_lbook F__law_book BC CMK C_Book_put (fr "list" (by decide))
    have B__law_book : Binds K _ ["_law_rows"] [] := F__law_book.bindsN fun _ _ _ _ _ _ us hl => match us, hl with | [_], _ => rfl
    have C__law_book : Calls PySem.Challenge.rw_meetrows_k03_least_sets_by_own_rows.prog w K mg base CX0 6 "_law_book" (spLBook K (He.ga K "Book") NN) := ⟨_, _, _, G__law_book, gl "_law_book" (by decide), F__law_book.kp, B__law_book⟩
    have G__law_own : FnOk PySem.Challenge.rw_meetrows_k03_least_sets_by_own_rows.prog w K mg base CX0 1 _ _ ["_law_one", "_law_name", "_law_rows"] (spOwn3 K) := ok_own3 F__law_own (fr "range" (by decide)) (fr "len" (by decide))
    have B__law_own : Binds K _ ["_law_one", "_law_name", "_law_rows"] [] := F__law_own.bindsN fun _ _ _ _ _ _ us hl => match us, hl with | [_, _, _], _ => rfl
    have C__law_own : Calls PySem.Challenge.rw_meetrows_k03_least_sets_by_own_rows.prog w K mg base CX0 1 "_law_own" (spOwn3 K) := ⟨_, _, _, G__law_own, gl "_law_own" (by decide), F__law_own.kp, B__law_own⟩
    have G__law_good : FnOk PySem.Challenge.rw_meetrows_k03_least_sets_by_own_rows.prog w K mg base CX0 3 _ _ ["_law_found", "_law_rows"] (spGood K) := ok_good F__law_good ⟨C__law_meets_all, C__law_own, C__law_within, (fr "len" (by decide)), (fr "list" (by decide)), (fr "range" (by decide)), (fr "sorted" (by decide)), (fr "set" (by decide)), (fr "min" (by decide)), (fr "isinstance" (by decide))⟩
    have B__law_good : Binds K _ ["_law_found", "_law_rows"] [] := F__law_good.bindsN fun _ _ _ _ _ _ us hl => match us, hl with | [_, _], _ => rfl
    have C__law_good : Calls PySem.Challenge.rw_meetrows_k03_least_sets_by_own_rows.prog w K mg base CX0 3 "_law_good" (spGood K) := ⟨_, _, _, G__law_good, gl "_law_good" (by decide), F__law_good.kp, B__law_good⟩
    exact ok_law03 (R := RR) F_law ⟨C__law_draw, C__law_names, C__law_row, C__law_book, C__law_good, C__law_own, C_Book_least, C_Book_fewest, C_Book_own, BC, (fr "len" (by decide)), (fr "list" (by decide)), (fr "range" (by decide)), (fr "all" (by decide)), (fr "tuple" (by decide)), (fr "isinstance" (by decide))⟩
end K1
open PySem PySem.W PySem.Calls PyProof.Rows
theorem PySem.Challenge.cw_meetrows_k03_least_sets_by_own_rows_holds : PySem.Challenge.rw_meetrows_k03_least_sets_by_own_rows.Holds := by
  w_on; o_law
  refine HandSHeadRun.head_any (r := OpenLaw.row PySem.Challenge.rw_meetrows_k03_least_sets_by_own_rows) (q := view (OpenLaw.row PySem.Challenge.rw_meetrows_k03_least_sets_by_own_rows).prog [37]) (H := K1.hk) (ob := K1.ob) (M := 8000) (loose := K1.loose) (d := HandSHeadRun.topDef (OpenLaw.row PySem.Challenge.rw_meetrows_k03_least_sets_by_own_rows).prog 37) (kwd := []) K1.ob_eq
    (by kernel_rfl) (fun s => by kernel_rfl) K1.run (by kernel_rfl) (by kernel_rfl) (by kernel_rfl) (by rfl) (by first | assumption | decide +kernel) (by decide +kernel) ⟨rfl, rfl, rfl, rfl, rfl, by decide +kernel⟩ ?hw ?hc
  case hw => w_witness2
  case hc =>
    refine LamX.walk_ofTsE (l := PySem.Challenge.rw_meetrows_k03_least_sets_by_own_rows) (n := 63) (k := 9) (x := "_law_script") (CX := fun _ => L2.CX0) rfl (by decide) (by kernel_rfl) ⟨rfl, by decide, by decide⟩ ?F (fun _ _ _ _ _ z => z)
    intro w mg fa h Y G hmg0
    obtain ⟨K, KX, c⟩ := Y
    have hmg : mg ("law" : PySem.Str) = some (.ref fa) := by
      have e : (HandSHeadRun.topDef (OpenLaw.row PySem.Challenge.rw_meetrows_k03_least_sets_by_own_rows).prog 37).name = ("law" : PySem.Str) := by kernel_rfl
      rw [← e]
      exact hmg0
    exact ⟨K, KX, K1.facts KX G hmg c⟩
end
