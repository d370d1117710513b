import PyProof.Rows.All
import Wide.All
import OpenK.AllK
import Wide.FinOn
import PySem.Challenge.RW_meetrows_k12_what_is_refused
import PyProof.EqAt
import PyProof.EqKinds
import PyProof.TupleCall
import KE.SortKeyHeap
import HandS.Base
import HandS.Call
import HandS.List
import HandS.Set
import HandS.Strs
import HandS.TupSets
import HandS.Words
import HandS.AnyAll
import KE.KNest
import HandS.Comp
import HandS.GenOver
import HandS.SortKw
import HandS.SlotsOwn
import HandS.Dict
import HandS.More
import HandS.Conv
import HandS.DictComp
import HandS.ForMost
import HandS.ForExc
import HandS.Flow
import HandS.IsInst
import HandS.Iter
import HandS.Text
import HandS.FStr
import HandS.HeadHook4
import HandS.HeadWalk
import KE.DatumOrd
import HandS.RaiseMore
import HandS.TryOnly
import HandS.ExcIs
import KE.KxText
import HandS.Style
import HandS.Zip
import HandS.Codes
import HandS.Deep
import HandS.SetBool
import HandS.ListItems
import HandS.Star
import HandS.Walk
import KE.DataCmp
import PyProof.SetRoads
import PyProof.Tail
import PyProof.FactsAll.set_2
import HandS.HotCalls
import HandS.Head0
import HandS.Head1
import HandS.Head2
import HandS.HeadEnd
set_option Elab.async false
set_option linter.all false
set_option maxRecDepth 100000
section
set_option maxHeartbeats 4000000
/-! set(xs) of a list of texts, and what is sorted of it. -/
namespace Sx
open PySem PySem.Spec PyProof.Rows L2

/-! ### each once -/
def once (acc : List Str) (x : Str) : List Str := if x ∈ acc then acc else acc ++ [x]
def dd (xs : List Str) : List Str := xs.foldl once []
theorem once_mem {acc : List Str} {x y : Str} : y ∈ once acc x ↔ y ∈ acc ∨ y = x := by
  unfold once
  split
  · rename_i h
    exact ⟨.inl, fun z => z.elim id fun e => e ▸ h⟩
  · simp
theorem once_nodup {acc : List Str} {x : Str} (h : acc.Nodup) : (once acc x).Nodup := by
  unfold once
  split
  · exact h
  · rename_i hx
    refine List.nodup_append.mpr ⟨h, by simp, fun a ha b hb e => ?_⟩
    have hb : b = x := by simpa using hb
    rw [e, hb] at ha
    exact hx ha
theorem fold_mem : ∀ (xs acc : List Str) (y : Str), y ∈ xs.foldl once acc ↔ y ∈ acc ∨ y ∈ xs
  | [], acc, y => by simp
  | x :: xs, acc, y => by
    rw [List.foldl_cons, fold_mem xs, once_mem, List.mem_cons, or_assoc]
theorem fold_nodup : ∀ (xs acc : List Str), acc.Nodup → (xs.foldl once acc).Nodup
  | [], _, h => h
  | _ :: xs, _, h => fold_nodup xs _ (once_nodup h)
theorem once_len (acc : List Str) (x : Str) : (once acc x).length ≤ acc.length + 1 := by
  unfold once
  split <;> simp
theorem fold_len : ∀ (xs acc : List Str), (xs.foldl once acc).length ≤ acc.length + xs.length
  | [], acc => by simp
  | x :: xs, acc => by
    have h1 := fold_len xs (once acc x)
    have h2 := once_len acc x
    rw [List.foldl_cons, List.length_cons]
    omega
theorem dd_mem {xs : List Str} {y : Str} : y ∈ dd xs ↔ y ∈ xs := by
  unfold dd
  rw [fold_mem]
  simp
theorem dd_nodup (xs : List Str) : (dd xs).Nodup := fold_nodup xs [] List.nodup_nil
theorem dd_len (xs : List Str) : (dd xs).length ≤ xs.length := by
  have h := fold_len xs []
  simpa [dd] using h
theorem dd_id {xs : List Str} (h : xs.Nodup) : dd xs = xs := by
  have gen : ∀ (l acc : List Str), (acc ++ l).Nodup → l.foldl once acc = acc ++ l := by
    intro l
    induction l with
    | nil => intro acc _; simp
    | cons x l ih =>
      intro acc hn
      have hx : x ∉ acc := by
        intro z
        exact (List.nodup_append.mp hn).2.2 x z x List.mem_cons_self rfl
      have e : once acc x = acc ++ [x] := if_neg hx
      rw [List.foldl_cons, e, ih (acc ++ [x]) (by rw [List.append_assoc]; exact hn), List.append_assoc]
      rfl
  exact gen xs [] (by simpa using h)

/-! ### a set of texts, as it stands -/
def kS : Value → Str
  | .str x _ => x
  | _ => Str.empty
def Row (w : World) (e : Int × Value) : Prop := ∃ tk, e.2 = Value.str (kS e.2) tk ∧ e.1 = hashStr w (kS e.2)
/-- at a: a set of just the texts ks -/
def SetS (w : World) (h : Heap) (a : Addr) (ks : List Str) : Prop :=
  ∃ o es ep t, h.get? a = some o ∧ o.ExactSet ∧ o.data = .set es ep t ∧ (∀ e ∈ es.toList, Row w e) ∧ (es.toList.map fun e => kS e.2).Perm ks ∧ ks.Nodup ∧
    es.size < scanBound ∧ t.fits es.size = true ∧ Ris t.place.toList ∧ (w.params.followText "set-order" = true ∨ t.led = true)
section
variable {P : Program} {w : World} {h h' : Heap} {a : Addr} {ks : List Str}
theorem SetS.at (R : SetS w h a ks) (k : ∀ o, h.get? a = some o → h'.get? a = some o) : SetS w h' a ks :=
  let ⟨o, es, ep, t, ho, r⟩ := R
  ⟨o, es, ep, t, k o ho, r⟩
theorem Row.str {e : Int × Value} (g : Row w e) : ∃ x tk, e.2 = Value.str x tk ∧ e.1 = hashStr w x ∧ kS e.2 = x := let ⟨tk, h1, h2⟩ := g; ⟨_, tk, h1, h2, rfl⟩
theorem rows_elems {l : List (Int × Value)} (g : ∀ e ∈ l, Row w e) : ElemsOf (PySem.strKind P w) l := by
  intro e he
  obtain ⟨x, tk, h1, h2, _⟩ := (g e he).str
  exact ⟨⟨x, by rw [h1]; exact strKind_is P w x tk, h2⟩, by rw [h1]; rfl⟩
theorem row_is {e : Int × Value} (g : Row w e) (x : Str) : (PySem.strKind P w).is x e.2 = true ↔ kS e.2 = x := by
  obtain ⟨y, tk, h1, _, h3⟩ := g.str
  rw [h1]
  show Value.isStrOf x (.str y tk) = true ↔ y = x
  simp [Value.isStrOf]
theorem SetS.setOf (R : SetS w h a ks) : h.SetOf (PySem.strKind P w) a (fun x => decide (x ∈ ks)) ks.length := by
  obtain ⟨o, es, ep, t, ho, hx, hd, g, pm, nd, hb, hf, _⟩ := R
  refine ⟨o, es, ep, t, ho, hx, hd, rows_elems g, fun x => ?_, hb, hf, ?_⟩
  · rw [decide_eq_true_eq, ← pm.mem_iff, List.mem_map]
    constructor
    · rintro ⟨e, he, q⟩
      exact ⟨e, he, (row_is (g e he) x).2 q⟩
    · rintro ⟨e, he, q⟩
      exact ⟨e, he, (row_is (g e he) x).1 q⟩
  · rw [← pm.length_eq, List.length_map, Array.length_toList]
end

section
variable {P : Program} {w : World} {A : Around} {E : Value → Shared → Prop} {s : Shared} {a : Addr} {ks : List Str}
theorem put_tail {g : Bool → Sem Unit} (hg : ∀ (b : Bool) (s₁ : Shared) (Q' : Unit → Shared → Prop), Q' () s₁ → wpAny (model P w) A (g b) Q' E s₁)
    {o : Obj} {es es1 : Array (Int × Value)} {ep : Nat} {t t2 : SetTable} {zs : List Str} (h1 : s.heap.get? a = some o) (h2 : o.ExactSet) (h3 : o.data = .set es ep t)
    (g1 : ∀ e ∈ es1.toList, Row w e) (pm1 : (es1.toList.map fun e => kS e.2).Perm zs) (nd1 : zs.Nodup) (hb1 : es1.size < scanBound) (hf2 : t2.fits es1.size = true) (hr2 : Ris t2.place.toList) (hl2 : w.params.followText "set-order" = true ∨ t2.led = true) {wd : Bool} {R : Option Bool → Shared → Prop}
    (hR : ∀ h', Heap.SameBut a s.heap h' → SetS w h' a zs → R (some true) { s with heap := h' }) :
    wpAny (model P w) A (do
        storeSet a es1 t2
        if (!wd && t2.tooFull) = true then do
            g (relayAll t2 es1 (SetTable.grown es1.size)).2.2
            storeSet a (relayAll t2 es1 (SetTable.grown es1.size)).1 (relayAll t2 es1 (SetTable.grown es1.size)).2.1
            pure (some true)
          else pure (some true)) R E s := by
  refine wpAny_bind (wpAny_storeSet_of h1 h3 ?_ (fits_of_scanBound hb1))
  have k1 := store_at (es' := es1) (t' := t2) h1 h3
  have k2 := Heap.SameBut.update s.heap a (Obj.putSet es1 t2)
  by_cases full : (!wd && t2.tooFull) = true
  · rw [if_pos full]
    have pm := relayAll_perm t2 es1 (SetTable.grown es1.size)
    have f3 := relayAll_fits t2 es1 (SetTable.grown es1.size)
    have r3 := relayAll_ris t2 es1 (SetTable.grown es1.size)
    have l3 := relayAll_led t2 es1 (SetTable.grown es1.size)
    generalize relayAll t2 es1 (SetTable.grown es1.size) = Z at pm f3 r3 l3 ⊢
    obtain ⟨es2, t3, gv⟩ := Z
    dsimp only at pm f3 r3 l3 ⊢
    have z2 : es2.size = es1.size := by rw [← Array.length_toList, pm.length_eq, Array.length_toList]
    have b2 : es2.size < scanBound := by rw [z2]; exact hb1
    refine wpAny_bind (hg _ _ _ (wpAny_bind (wpAny_storeSet_of k1 rfl ?_ (fits_of_scanBound b2))))
    have k3 := store_at (es' := es2) (t' := t3) k1 rfl
    refine wpAny_pure (hR _ (k2.trans (Heap.SameBut.update _ a _)) ⟨_, es2, _, t3, k3, h2, rfl, fun e he => g1 e (pm.mem_iff.mp he), (pm.map _).trans pm1, nd1, b2, f3, r3, hl2.imp id fun z => ?_⟩)
    rw [l3]; exact z
  · rw [if_neg full]
    exact wpAny_pure (hR _ k2 ⟨_, es1, _, t2, k1, h2, rfl, g1, pm1, nd1, hb1, hf2, hr2, hl2⟩)

theorem put_hashed {x : Str} {tk : Tok} {Q : Bool → Shared → Prop} (R : SetS w s.heap a ks) (room : ks.length + 1 < scanBound)
    (hQ : ∀ h' b, Heap.SameBut a s.heap h' → SetS w h' a (once ks x) → Q b { s with heap := h' }) :
    wpAny (model P w) A (setAddHashed a (.str x tk) ((PySem.strKind P w).hash x)) Q E s := by
  have R0 := R
  obtain ⟨o, es, ep, t, ho, hex, hd, g, pm0, nd, hb, hf, hr, hl⟩ := R
  have key : (PySem.strKind P w).is x (.str x tk) = true := strKind_is P w x tk
  have sc : (Value.str x tk).scannable = true := rfl
  have el : ElemsOf (PySem.strKind P w) es.toList := rows_elems g
  have zn : es.size = ks.length := by rw [← pm0.length_eq, List.length_map, Array.length_toList]
  unfold setAddHashed setAddHashedIn
  refine wpAny_holding (wpAny_bind (wpAny_setState_of ho hd hf ?_))
  dsimp only
  rw [byScan_of sc hb el]
  simp only [↓reduceIte]
  unfold setAddByScan
  refine wpAny_bind (wpAny_bind (wpAny_rule (wpAny_bind (wpAny_setScan_of key ho hd hf el ?_))))
  cases hfi : List.findIdx? (fun e => (PySem.strKind P w).is x e.2) es.toList with
  | some j =>
    dsimp only
    obtain ⟨hj, pj, _⟩ := List.findIdx?_eq_some_iff_getElem.mp hfi
    have hx : x ∈ ks := pm0.mem_iff.mp (List.mem_map.mpr ⟨es.toList[j], List.getElem_mem hj, (row_is (P := P) (g _ (List.getElem_mem hj)) x).1 pj⟩)
    refine wpAny_pure (wpAny_pure ?_)
    have e1 : once ks x = ks := by unfold once; rw [if_pos hx]
    exact hQ s.heap false (Heap.SameBut.refl a s.heap) (by rw [e1]; exact R0)
  | none =>
    dsimp only
    have hx : x ∉ ks := by
      intro z
      obtain ⟨e, he, q⟩ := List.mem_map.mp (pm0.mem_iff.mpr z)
      have c := List.findIdx?_eq_none_iff.mp hfi e he
      rw [(row_is (P := P) (g e he) x).2 q] at c
      cases c
    have e1 : once ks x = ks ++ [x] := by unfold once; rw [if_neg hx]
    have hgw : ∀ (b : Bool) {s₁ : Shared} {Q' : Unit → Shared → Prop}, Q' () s₁ → wpAny (model P w) A (match b with | true => rule "set.scan.the-table-gave-way" | false => pure ()) Q' E s₁ := by
      intro b s₁ Q' q
      cases b <;> first | exact wpAny_pure q | exact wpAny_rule q
    have p1 := layNew_perm t es ((PySem.strKind P w).hash x) (.str x tk)
    have f1 := layNew_fits t es ((PySem.strKind P w).hash x) (.str x tk)
    have r1 := layNew_ris t es ((PySem.strKind P w).hash x) (.str x tk) hr
    have l1 := layNew_led t es ((PySem.strKind P w).hash x) (.str x tk)
    generalize layNew t es ((PySem.strKind P w).hash x) (.str x tk) = Z at p1 f1 r1 l1 ⊢
    obtain ⟨es1, t1, wd, gv⟩ := Z
    dsimp only at p1 f1 r1 l1 ⊢
    rw [Array.toList_push] at p1
    have g1 : ∀ e ∈ es1.toList, Row w e := by
      intro e he
      rcases List.mem_append.mp (p1.mem_iff.mp he) with z | z
      · exact g e z
      · have z : e = ((PySem.strKind P w).hash x, Value.str x tk) := by simpa using z
        rw [z]
        exact ⟨tk, rfl, rfl⟩
    have pm1 : (es1.toList.map fun e => kS e.2).Perm (ks ++ [x]) := by
      have q := p1.map fun e : Int × Value => kS e.2
      rw [List.map_append] at q
      exact q.trans (pm0.append_right _)
    have nd1 : (ks ++ [x]).Nodup := by
      have q := once_nodup (x := x) nd
      rw [e1] at q
      exact q
    have z1 : es1.size = ks.length + 1 := by
      have q := p1.length_eq
      rw [List.length_append, Array.length_toList, Array.length_toList] at q
      simp at q
      omega
    have b1 : es1.size < scanBound := by rw [z1]; exact room
    have led1 : w.params.followText "set-order" = true ∨ t1.led = true := hl.imp id fun z => by rw [l1]; exact z
    have fin : ∀ h', Heap.SameBut a s.heap h' → SetS w h' a (ks ++ [x]) → Q true { s with heap := h' } := fun h' sb r => hQ h' true sb (by rw [e1]; exact r)
    refine wpAny_bind (hgw _ ?_)
    have hgb : ∀ (b : Bool) (s₁ : Shared) (Q' : Unit → Shared → Prop), Q' () s₁ → wpAny (model P w) A (match b with | true => rule "set.scan.the-table-gave-way" | false => pure ()) Q' E s₁ := fun b s₁ Q' q => hgw b q
    split
    · refine wpAny_bind ?_
      rw [hashByValue_scannable 8 sc]
      refine wpAny_pure ?_
      refine put_tail ?_ ho hex hd g1 pm1 nd1 b1 ?_ ?_ ?_ ?_
      · intro b s₁ Q' q; cases b <;> first | exact wpAny_pure q | exact wpAny_rule q
      · first | (split <;> first | exact f1 | exact SetTable.fits_plain_off f1) | exact f1
      · first | (split <;> exact r1) | exact r1
      · first | (split <;> exact led1) | exact led1
      · intro h' sb r; dsimp only; exact wpAny_pure (fin h' sb r)
    · refine wpAny_bind (wpAny_pure ?_)
      simp only [↓reduceIte]
      refine put_tail ?_ ho hex hd g1 pm1 nd1 b1 f1 r1 led1 ?_
      · intro b s₁ Q' q; cases b <;> first | exact wpAny_pure q | exact wpAny_rule q
      · intro h' sb r; dsimp only; exact wpAny_pure (fin h' sb r)
end

section
variable {P : Program} {w : World} {A : Around}
theorem update_strs {I : Addr} {fp wr : List Addr} {G : Array GenState → Array GenState → Prop} {n : Nat} {Pv : Nat → Value → Prop} {St : Nat → Shared → Prop} {R : Result → Shared → Prop}
    (W : WalksS P w A.in1 I fp wr G n Pv St) (S : Addr) (hSf : S ∉ fp) (xs : List Str) (hn : n = xs.length) (few : xs.length + 1 < scanBound) (val : ∀ i v, Pv i v → ∃ x tk, xs[i]? = some x ∧ v = .str x tk) :
    ∀ (k i : Nat) (s : Shared), n - i = k → i ≤ n → St i s → SetS w s.heap S (dd (xs.take i)) →
      (∀ s', Moved (S :: wr) G s s' → SetS w s'.heap S (dd xs) → R (.ok (.ret .none)) s') → codeAny (model P w) A (.builtin "set.update.loop" ⟨[.ref S, .ref I], []⟩) R s := by
  have nw : S ∉ wr := fun z => hSf (W.sub _ z)
  have more : ∀ b ∈ wr, b ∈ S :: wr := fun b hb => List.mem_cons_of_mem _ hb
  intro k
  induction k with
  | zero =>
    intro i s e1 e2 st hS hR
    obtain rfl : i = n := by omega
    refine codeAny_builtin F.entry_set_update_loop ?_
    rw [Around.under_plainId F.plain_set_update_loop _]
    show wpAny _ A.in1 (pyNext (.ref I) >>= _) _ _ s
    refine wpAny_bind (W.done s _ _ st fun s' mv => ?_)
    have hS' := hS.at (h' := s'.heap) fun o e => mv.heap S o nw e
    rw [hn, List.take_length] at hS'
    exact wpAny_pure (hR s' (mv.mono more) hS')
  | succ k ih =>
    intro i s e1 e2 st hS hR
    have lt : i < n := by omega
    refine codeAny_builtin F.entry_set_update_loop ?_
    rw [Around.under_plainId F.plain_set_update_loop _]
    show wpAny _ A.in1 (pyNext (.ref I) >>= _) _ _ s
    refine wpAny_bind (W.item i s _ _ lt st fun v s' hP st' mv => ?_)
    obtain ⟨x, tk, hx, rfl⟩ := val i v hP
    have hS' := hS.at (h' := s'.heap) fun o e => mv.heap S o nw e
    show wpAny _ A.in1 (holding [Value.str x tk] (setAdd S (.str x tk)) >>= _) _ _ s'
    refine wpAny_bind (wpAny_holding ?_)
    unfold setAdd
    refine wpAny_holding (wpAny_bind ((PySem.strKind P w).pyHash (k := x) (strKind_is P w x tk) ?_))
    have room : (dd (xs.take i)).length + 1 < scanBound := by
      have h1 := dd_len (xs.take i)
      rw [List.length_take] at h1
      omega
    refine put_hashed (s := { s' with toks := s'.toks + 1 }) hS' room fun h' b sb hS2 => ?_
    have e3 : dd (xs.take (i + 1)) = once (dd (xs.take i)) x := by
      unfold dd
      rw [List.take_add_one, hx, List.foldl_append]
      rfl
    rw [← e3] at hS2
    refine wpAny_pure ⟨plainId_quiet F.plain_set_update_loop _, ih (i + 1) _ (by omega) lt (W.frame _ s' _ _ st' (Nat.le_succ _) fun c hc o e => ?_) hS2 fun s'' mv2 hS3 => ?_⟩
    · exact (sb.2 c fun z => hSf (z ▸ hc)).trans e
    · refine hR s'' (Moved.trans W.gtrans ((mv.mono more).then_heap (Nat.le_succ _) fun c o hc e => ?_) mv2) hS3
      exact (sb.2 c fun z => hc (z ▸ List.mem_cons_self)).trans e
end

section
variable {P : Program} {w : World} {A : Around} {E : Value → Shared → Prop} {s : Shared}
abbrev setObj0 (w : World) : Obj := { cls := .type "set", dict := none, data := .set #[] 0 (.fresh 0 0 (!w.params.followText "set-order")) }
theorem setS_fresh {h : Heap} {a : Addr} (e : h.get? a = some (setObj0 w)) : SetS w h a [] := by
  refine ⟨_, #[], 0, _, e, ⟨rfl, rfl, rfl⟩, rfl, fun e he => by simp at he, by simp, List.nodup_nil, by decide, by rfl, List.Pairwise.nil, ?_⟩
  show _ ∨ (!w.params.followText "set-order") = true
  cases w.params.followText "set-order"
  · exact .inr rfl
  · exact .inl rfl
set_option maxHeartbeats 3200000 in
/-- set(l), l a list of the texts xs -/
theorem call_set_strs {l : Addr} {items : Array Value} (xs : List Str) {Q : Value → Shared → Prop} (hh : A.handled = none) (hl : s.heap.IsList l items) (hv : ∀ (i : Nat) (v : Value), items[i]? = some v → ∃ x tk, xs[i]? = some x ∧ v = Value.str x tk) (hz : items.size = xs.length) (few : xs.length + 1 < scanBound)
    (h : ∀ (h' : Heap) (tk : Nat), SetS w h' s.heap.objs.size (dd xs) → (∀ b o, s.heap.get? b = some o → h'.get? b = some o) → Q (.ref s.heap.objs.size) { s with heap := h', toks := tk }) :
    wpAny (model P w) A (call (.type "set") [.ref l]) Q E s := by
  obtain ⟨c, tl, hmro⟩ := F.called_set.mro
  have hmade := F.called_set.made
  have hsub := F.called_set.sub
  refine wpAny_call (codeAny_of_tree ?_)
  show wpAny _ _ (callAny (.type "set") _) _ _ _
  refine wpAny_pure ⟨Code.quiet_builtin _ (by decide +kernel), codeAny_builtin F.entry_type_call ?_⟩
  rw [Around.under_plain (weight_type_call_type "set" [.ref l] []) rfl]
  have h1 := F.called_set.notType
  have h2 := F.called_set.canCreate
  have hct := F.typeCall_set_1 (.ref l)
  repeat (any_goals (first | assumption | wp_step))
  refine codeAny_mono (code_set_led1 (.ref l) (E := E) (Q₁ := fun obj s₁ => obj = .ref s.heap.objs.size ∧ s₁ = { s with heap := s.heap.push (setObj0 w) }) ⟨rfl, rfl⟩) fun r s₁ hr => ?_
  cases r with
  | error e => exact hr
  | ok fl =>
    cases fl with
    | ret obj =>
      obtain ⟨rfl, rfl⟩ := hr
      have hS : (s.heap.push (setObj0 w)).get? s.heap.objs.size = some (setObj0 w) := Heap.get?_push_size _ rfl
      have hT : Shared.TypeIs { s with heap := s.heap.push (setObj0 w) } (.ref s.heap.objs.size) "set" := ⟨_, hS, rfl⟩
      have hli := F.called_set.init.lookup
      have hbi := F.called_set.init.bind (.ref s.heap.objs.size)
      repeat (any_goals (first | assumption | wp_step))
      refine codeAny_mono (codeAny_call_builtin (R := wants (fun r s₂ => r = .none ∧ ∃ h' tk, s₂ = { s with heap := h', toks := tk } ∧ SetS w h' s.heap.objs.size (dd xs) ∧
          (∀ b o, s.heap.get? b = some o → h'.get? b = some o)) E) F.called_set.init.plain F.entry_set_init (check_set_init_1 hT ?_)) fun r₂ s₂ hr₂ => ?_
      · obtain ⟨ol, hol, hcl, nl, hdl⟩ := hl
        obtain ⟨ocls, odict, odata, oslots⟩ := ol
        simp only at hcl hdl
        subst hcl; subst hdl
        have hol' : (s.heap.push (setObj0 w)).get? l = some { cls := .type "list", dict := odict, data := .seq items nl, slots := oslots } := Heap.get?_push_of_some _ hol
        have hsls := F.sub_list_set
        have hslf := F.sub_list_frozenset
        have hne : (Value.type "list" == Value.type "dict") = false := by decide
        have hl1 : (s.heap.push (setObj0 w)).IsList l items := ⟨_, hol', rfl, nl, rfl⟩
        unfold Builtin.«set.__init__» noKeywords Builtin.Frozenset.updateFrom
        generalize hPI : pyIter = PI
        wp_walk
        subst hPI
        refine wpAny_pyIter_list hl1 ?_
        refine wpAny_bind (wpAny_runValue ?_)
        have hlS : l < s.heap.objs.size := Heap.lt_size hol
        have hh3 : A.in1.in1.in1.handled = none := by simp [hh]
        have sz1 : (s.heap.push (setObj0 w)).objs.size = s.heap.objs.size + 1 := Heap.size_push ..
        have hneI : l ≠ (s.heap.push (setObj0 w)).objs.size := by
          rw [sz1]; exact Nat.ne_of_lt (Nat.lt_succ_of_lt hlS)
        have hSf : s.heap.objs.size ∉ [(s.heap.push (setObj0 w)).objs.size, l] := by
          rw [sz1]; simp only [List.mem_cons, List.mem_singleton, List.not_mem_nil, or_false, not_or]
          exact ⟨Nat.ne_of_lt (Nat.lt_succ_self _), Nat.ne_of_gt hlS⟩
        refine update_strs ((Walks.list hh3 _ l hneI items).toS) s.heap.objs.size hSf xs hz few hv (items.size - 0) 0 _ (by omega) (Nat.zero_le _)
          ⟨⟨_, Heap.get?_push_size _ rfl, rfl, rfl⟩, (hl1.push _)⟩ ?hS0 ?hR
        case hS0 =>
          rw [List.take_zero]
          exact setS_fresh (Heap.get?_push_of_some _ hS)
        case hR =>
          intro s' hm hS'
          obtain ⟨h', g', d', tk', os'⟩ := s'
          have eg : g' = s.gens := hm.gens
          have ed : d' = s.drawn := hm.drawn
          have eo : os' = s.os := hm.os
          subst eg; subst ed; subst eo
          show wpAny _ _ _ _ _ _
          refine wpAny_pure ?_
          show wpAny _ _ (ret Value.none) _ _ _
          refine wpAny_pure ⟨rfl, h', tk', rfl, hS', fun b o e => ?_⟩
          have lt := Heap.lt_size e
          refine hm.heap b o ?_ (Heap.get?_push_of_some _ (Heap.get?_push_of_some _ e))
          simp only [List.mem_cons, List.mem_singleton, List.not_mem_nil, or_false, not_or]
          exact ⟨Nat.ne_of_lt lt, by rw [sz1]; exact Nat.ne_of_lt (Nat.lt_succ_of_lt lt)⟩
      · cases r₂ with
        | error e => exact hr₂
        | ok fl₂ =>
          cases fl₂ with
          | ret r =>
            obtain ⟨rfl, h', tk, rfl, hS', hk'⟩ := hr₂
            repeat (any_goals (first | assumption | wp_step))
            exact h _ _ hS' hk'
          | _ => exact hr₂.elim
    | _ => exact hr.elim
end
end Sx
end
section
set_option maxHeartbeats 4000000
/-! sorted(..) of lists of data, of sets of texts. -/
namespace Srx
open PySem PySem.Spec PyProof.Rows L2 Sx
open PySem.W (dataLe dataLt alike AllAlike EachIs)

/-! ### texts in order -/
def leS (a b : Str) : Bool := dataLe false (fun x : Str => PyData.str x) a b
theorem leS_iff {a b : Str} : leS a b = true ↔ a.cps.toList ≤ b.cps.toList := by
  unfold leS
  rw [PySem.W.dataLe_str (fun x : Str => x)]
  exact decide_eq_true_iff
theorem leS_total (a b : Str) : leS a b = true ∨ leS b a = true := by
  rw [leS_iff, leS_iff]
  exact List.le_total _ _
theorem leS_trans {a b c : Str} (h1 : leS a b = true) (h2 : leS b c = true) : leS a c = true := by
  rw [leS_iff] at *
  exact List.le_trans h1 h2
theorem leS_anti {a b : Str} (h1 : leS a b = true) (h2 : leS b a = true) : a = b := by
  rw [leS_iff] at *
  exact PySem.W.str_of_cps (List.le_antisymm h1 h2)
def srt (xs : List Str) : List Str := xs.mergeSort leS
theorem srt_perm (xs : List Str) : (srt xs).Perm xs := List.mergeSort_perm _ _
theorem leS_or (a b : Str) : (leS a b || leS b a) = true := by
  rw [Bool.or_eq_true]
  exact leS_total a b
theorem srt_sorted (xs : List Str) : (srt xs).Pairwise (fun a b => leS a b = true) :=
  List.pairwise_mergeSort (le := leS) (fun _ _ _ h1 h2 => leS_trans h1 h2) leS_or xs
theorem sorted_one {xs ys : List Str} (p : xs.Perm ys) (h1 : xs.Pairwise (fun a b => leS a b = true)) (h2 : ys.Pairwise (fun a b => leS a b = true)) : xs = ys :=
  List.Perm.eq_of_pairwise (fun a b _ _ z1 z2 => leS_anti z1 z2) h1 h2 p
theorem srt_eq {xs ys : List Str} (p : xs.Perm ys) : srt xs = srt ys := sorted_one ((srt_perm xs).trans (p.trans (srt_perm ys).symm)) (srt_sorted xs) (srt_sorted ys)
theorem srt_len (xs : List Str) : (srt xs).length = xs.length := (srt_perm xs).length_eq
theorem srt_mem {xs : List Str} {x : Str} : x ∈ srt xs ↔ x ∈ xs := (srt_perm xs).mem_iff
theorem srt_id {xs : List Str} (h : xs.Pairwise (fun a b => leS a b = true)) : srt xs = xs := sorted_one (srt_perm xs) (srt_sorted xs) h

/-! ### sorted(list) -/
/-- data that Python orders -/
structure Ord {γ : Type} (enc : γ → PyData) : Prop where
  alike : ∀ x y, PySem.W.alike (enc x) (enc y) = true
  kind : (∀ x, ∃ d r, enc x = .tuple (d :: r)) ∨ ∀ x, enc x ≠ .none ∧ ∀ ds, enc x ≠ .tuple ds
  depth : ∀ x, (enc x).depth ≤ 60
theorem Ord.strs : Ord (fun x : Str => PyData.str x) := ⟨fun _ _ => by simp [PySem.W.alike], .inr fun _ => ⟨by simp, by simp⟩, fun _ => by simp [PyData.depth]⟩
theorem Ord.comap {γ δ : Type} {enc : γ → PyData} (o : Ord enc) (f : δ → γ) : Ord fun x => enc (f x) := ⟨fun _ _ => o.alike _ _, o.kind.imp (fun h x => h _) fun h x => h _, fun _ => o.depth _⟩
theorem Ord.sortable {γ : Type} {enc : γ → PyData} (o : Ord enc) (bs : List γ) : PySem.W.Sortable (bs.map enc) := by
  rcases o.kind with h | h
  · exact PySem.W.Sortable.tuples h
  · exact PySem.W.Sortable.others h
theorem each_vals {γ : Type} : ∀ {bs : List (V × γ)} {us : List Value}, Vals (bs.map (·.1)) us → EachIs (fun u b => RelV b.1 u) us bs
  | [], _, .nil => .nil
  | b :: bs, _, .cons r t => .cons r (each_vals t)
theorem vals_each {γ : Type} : ∀ {bs : List (V × γ)} {us : List Value}, EachIs (fun u b => RelV b.1 u) us bs → Vals (bs.map (·.1)) us
  | [], _, .nil => .nil
  | b :: bs, _, .cons r t => .cons r (vals_each t)
theorem each_mem {α β : Type} {R S : α → β → Prop} : ∀ {as : List α} {bs : List β}, EachIs R as bs → (∀ a b, b ∈ bs → R a b → S a b) → EachIs S as bs
  | _, _, .nil, _ => .nil
  | _, _, .cons r t, h => .cons (h _ _ List.mem_cons_self r) (each_mem t fun a b hb => h a b (List.mem_cons_of_mem _ hb))
def rSortedD {γ : Type} (K : PySem.W.Frag) (enc : γ → PyData) : List V → Hp → VK → Prop := fun vs H Q => ∃ (a : Addr) (bs : List (V × γ)), vs = [V.ref a] ∧ SqL K H a (bs.map (·.1)) ∧ (∀ b ∈ bs, Dp K H b.1 (enc b.2)) ∧
  ∀ p, H p = none → Q (.ref p) (upd H p (.lst ((bs.mergeSort (dataLe false fun b => enc b.2)).map (·.1))))
section
variable {X : Cx}
theorem cr_sortedD {γ : Type} {enc : γ → PyData} (o : Ord enc) (hu : X.A.units + 64 < cLine) : CallR X (.builtin "sorted") (rSortedD X.K enc) := by
  intro pins s σ H vs us Q I r h
  obtain ⟨a, bs, rfl, hs, hd, q⟩ := h
  obtain ⟨its, rv, hl, hz⟩ := I.list hs
  rw [Vals.ref1 r]
  have e := each_vals rv
  have er : EachIs (fun u b => ∃ as, PySem.Reads s.heap u (enc b.2) as) its bs := each_mem e fun u b hb rb => Dp.reads I _ b.1 u (hd b hb) rb
  have hbz : bs.length ≤ sizeLine := by simpa using hz
  refine PySem.W.sorted_data (R := fun u b => RelV b.1 u) (enc := fun b : V × γ => enc b.2) hl.isList e er (PySem.W.AllAlike.of fun x y => o.alike _ _) ((o.comap Prod.snd).sortable bs) hbz (fun b _ => by have := o.depth b.2; omega) fun out ho hout => ?_
  obtain ⟨ep, he⟩ := PyProof.Rows.sortedAll_at s.heap its out.toArray
  refine ⟨.ref (s.heap.objs.size + 1), upd H (s.heap.objs.size + 1) (.lst ((bs.mergeSort (dataLe false fun b => enc b.2)).map (·.1))), I.laid (t' := s.toks) (fun _ _ => PyProof.Rows.sortedAll_old) (Nat.le_succ _) ⟨?_, out, ep, vals_each hout, he⟩, rfl, q _ (I.hok.fresh (Nat.le_succ _))⟩
  rw [List.length_map, List.length_mergeSort]
  exact hbz
/-- sorted(xs), texts -/
theorem sortedS_texts {K : PySem.W.Frag} {H : Hp} {a : Addr} {xs : List Str} {Q : VK} (hs : SqL K H a (xs.map V.str)) (q : ∀ p, H p = none → Q (.ref p) (upd H p (.lst ((srt xs).map V.str)))) : rSortedD K (fun x : Str => PyData.str x) [V.ref a] H Q := by
  refine ⟨a, xs.map fun x => (V.str x, x), rfl, ?_, ?_, fun p hp => ?_⟩
  · rw [List.map_map]; exact hs
  · intro b hb
    obtain ⟨x, _, rfl⟩ := List.mem_map.mp hb
    exact .str x
  · have e : ((xs.map fun x => (V.str x, x)).mergeSort (dataLe false fun b => PyData.str b.2)).map (·.1) = (srt xs).map V.str := by
      have e2 : (xs.map fun x => (V.str x, x)).mergeSort (dataLe false fun b => PyData.str b.2) = (srt xs).map fun x => (V.str x, x) := by
        unfold srt
        rw [List.map_mergeSort]
        intro a _ b _
        rfl
      rw [e2, List.map_map]
      rfl
    rw [e]
    exact q p hp

/-! ### sets of texts -/
def SetTx (w : World) (a : Addr) (ks : List Str) : HO := .ext fun h => SetS w h a ks
theorem setTx_new {w : World} {P : Program} {H : Hp} {h : Heap} {a : Addr} {ks : List Str} (R : SetS w h a ks) : ObjOk P w H h a (SetTx w a ks) := by
  have ⟨o, es, ep, t, ho, r⟩ := R
  exact ⟨R, ⟨o, ho⟩, fun h1 h2 p k => p.at k⟩
theorem setTx_get {pins : List (Addr × Obj)} {σ : L2.St} {H : Hp} {s : Shared} {a : Addr} {ks : List Str} (I : Inv X pins σ H s) (ha : H a = some (SetTx X.w a ks)) : SetS X.w s.heap a ks := (I.hok a _ ha).1
def rSetTx (K : PySem.W.Frag) (w : World) : List V → Hp → VK → Prop := fun vs H Q => ∃ (l : Addr) (xs : List Str), vs = [V.ref l] ∧ SqL K H l (xs.map V.str) ∧ xs.length ≤ 1000 ∧ ∀ p, H p = none → Q (.ref p) (upd H p (SetTx w p (dd xs)))
theorem cr_setTx (hc : X.calm = true) : CallR X (.type "set") (rSetTx X.K X.w) := by
  intro pins s σ H vs us Q I r h
  obtain ⟨l, xs, rfl, hs, few, q⟩ := h
  rw [Vals.ref1 r]
  obtain ⟨its, rv, pl, hz⟩ := I.list hs
  have hlen : its.toArray.size = xs.length := by rw [List.size_toArray, ← rv.length, List.length_map]
  have hv : ∀ (i : Nat) (v : Value), its.toArray[i]? = some v → ∃ x tk, xs[i]? = some x ∧ v = Value.str x tk := by
    intro i v e
    have e : its[i]? = some v := by simpa using e
    have lt : i < xs.length := by
      have := (List.getElem?_eq_some_iff.mp e).1
      have h2 := rv.length
      rw [List.length_map] at h2
      omega
    have g : (xs.map V.str)[i]? = some (.str xs[i]) := by rw [List.getElem?_map, List.getElem?_eq_getElem lt]; rfl
    obtain ⟨u, e2, tk, e3⟩ := rv.get g
    rw [e] at e2
    cases e2
    exact ⟨xs[i], tk, List.getElem?_eq_getElem lt, e3⟩
  refine call_set_strs (P := X.prog) (w := X.w) xs (I.ok.hd hc) pl.isList hv hlen (by unfold scanBound; omega) fun h' tk R k => ?_
  exact ⟨.ref s.heap.objs.size, upd H s.heap.objs.size (SetTx X.w s.heap.objs.size (dd xs)), I.laid (t' := tk) k (Nat.le_refl _) (setTx_new R), rfl, q _ (I.hok.fresh (Nat.le_refl _))⟩
def rSortedTx (w : World) : List V → Hp → VK → Prop := fun vs H Q => ∃ (a : Addr) (ks : List Str), vs = [V.ref a] ∧ H a = some (SetTx w a ks) ∧ ∀ p, H p = none → Q (.ref p) (upd H p (.lst ((srt ks).map V.str)))
theorem strs_out : ∀ {us : List Value} {xs : List Str}, EachIs (fun u x => ∃ tk, u = Value.str x tk) us xs → Vals (xs.map V.str) us
  | _, _, .nil => .nil
  | _, _, .cons r t => .cons r (strs_out t)
theorem cr_sortedTx (hc : X.calm = true) (hu : X.A.units + 64 < cLine) : CallR X (.builtin "sorted") (rSortedTx X.w) := by
  intro pins s σ H vs us Q I r h
  obtain ⟨a, ks, rfl, ha, q⟩ := h
  rw [Vals.ref1 r]
  obtain ⟨o, es, ep, t, ho, hex, hd, g, pm0, nd, hb, hf, hr, hl⟩ := setTx_get I ha
  refine Calls.call_function_entry kind_sorted plain_sorted entry_sorted (args_sorted1 _) ?_
  unfold Builtin.«sorted»
  refine wpAny_bind (m := checkCount "sorted" 1 1 _) (wpAny_pure ?_)
  refine wpAny_bind (collect_set (A := X.A.in1) (I.ok.hd hc) ⟨o, ho, hex.1, hd⟩ hf hb hr hl fun s1 zs k1 hz g1 o1 pm => ?_)
  have hS : ∀ z ∈ zs, ∃ x tk, z = Value.str x tk := by
    intro z hz
    obtain ⟨e, he, q⟩ := List.mem_map.mp (pm.mem_iff.mp hz)
    obtain ⟨x, tk, h1, _⟩ := (g e he).str
    exact ⟨x, tk, by rw [← q]; exact h1⟩
  have gen : ∀ l : List Value, (∀ z ∈ l, ∃ x tk, z = Value.str x tk) → EachIs (fun u x => ∃ tk, u = Value.str x tk) l (l.map kS) := by
    intro l
    induction l with
    | nil => intro _; exact .nil
    | cons z l ih =>
      intro h
      obtain ⟨x, tk, rfl⟩ := h z List.mem_cons_self
      exact .cons ⟨tk, rfl⟩ (ih fun y hy => h y (List.mem_cons_of_mem _ hy))
  have e := gen zs hS
  have hzl : zs.length < 5000 := by
    rw [pm.length_eq, List.length_map, Array.length_toList]
    unfold scanBound at hb
    omega
  have hzs : zs.length ≤ sizeLine := by rw [sizeLine_eq]; omega
  refine wpAny_bind (wpAny_newList ?_ hzs)
  have hoL : (s1.heap.push (seqObj "list" zs.toArray 0)).get? s1.heap.objs.size = some (seqObj "list" zs.toArray 0) := Heap.get?_push_size _ rfl
  have er : EachIs (fun u x => ∃ as, PySem.Reads (s1.heap.push (seqObj "list" zs.toArray 0)) u (PyData.str x) as ∧ s1.heap.objs.size ∉ as) zs (zs.map kS) := e.mono fun u x ⟨tk, h⟩ => ⟨[], by rw [h]; exact .str x tk, by simp⟩
  refine wpAny_bind (wpAny_holding (PySem.W.list_sort_data (s := { s1 with heap := s1.heap.push (seqObj "list" zs.toArray 0) }) (R := fun u x => ∃ tk, u = Value.str x tk) (enc := fun x : Str => PyData.str x) hoL e er (PySem.W.AllAlike.of fun x y => Ord.strs.alike _ _) (Ord.strs.sortable _) (by rw [List.length_map]; exact hzs) (fun x _ => by have := Ord.strs.depth x; show X.A.units + 1 + 1 + _ < _; omega) fun out hlen hout => ?_))
  obtain ⟨c2, hc2⟩ := sortedHeap_at (vs := zs) (out := out.toArray) hoL
  have hE : (zs.map kS).mergeSort (dataLe false fun x : Str => PyData.str x) = srt ks := by
    show srt (zs.map kS) = srt ks
    refine srt_eq ?_
    have p2 := pm.map kS
    rw [List.map_map] at p2
    exact p2.trans pm0
  rw [hE] at hout
  have hn : H s1.heap.objs.size = none := I.hok.fresh hz
  have hlen2 : ((srt ks).map V.str).length ≤ sizeLine := by
    have h1 := hout.length
    rw [List.length_map] at hlen ⊢
    omega
  have keep : ∀ b u, s.heap.get? b = some u → (sortedHeap (s1.heap.push (seqObj "list" zs.toArray 0)) s1.heap.objs.size zs out.toArray).get? b = some u := by
    intro b u e
    have q1 := k1 b u e
    have lt := Heap.lt_size q1
    rw [sortedHeap_old (Nat.ne_of_lt lt) (by rw [size_push']; exact Nat.lt_succ_of_lt lt)]
    exact Heap.get?_push_of_some _ q1
  refine wpAny_pure ⟨.ref s1.heap.objs.size, rfl, ?_⟩
  refine ⟨.ref s1.heap.objs.size, upd H s1.heap.objs.size (.lst ((srt ks).map V.str)), ?_, rfl, q _ hn⟩
  have J := I.call (g' := s1.gens) (t' := s1.toks) (d' := s1.drawn) (ch := []) (Un.laid (o := .lst ((srt ks).map V.str)) keep hz hn) (I.hok.laid keep hz ⟨hlen2, out, c2, strs_out hout, hc2⟩) (by rw [g1]; exact I.bare) (fun _ z => nomatch z)
  rw [← o1] at J
  exact J
end
end Srx
end
section
set_option maxHeartbeats 4000000
/-! heaps that grow: all stands, but that the defs' tables of code may have grown -/
namespace Gr
open PySem PySem.Spec PyProof.Rows L2 GxR
def NoTbl (o : HO) : Prop := ∀ ps, o ≠ .tbl ps
/-- H' holds what H holds; tables may have grown -/
structure Gr (H H' : Hp) : Prop where
  at_ : ∀ b o, H b = some o → NoTbl o → H' b = some o
  tab : ∀ b ps, H b = some (.tbl ps) → ∃ ps', H' b = some (.tbl ps') ∧ (TriplesOk ps.toList → TriplesOk ps'.toList)
theorem Gr.refl (H : Hp) : Gr H H := ⟨fun _ _ e _ => e, fun _ ps e => ⟨ps, e, fun h => h⟩⟩
theorem Gr.trans {H H1 H2 : Hp} (a : Gr H H1) (b : Gr H1 H2) : Gr H H2 :=
  ⟨fun c o e n => b.at_ c o (a.at_ c o e n) n, fun c ps e => by
    obtain ⟨p1, e1, k1⟩ := a.tab c ps e
    obtain ⟨p2, e2, k2⟩ := b.tab c p1 e1
    exact ⟨p2, e2, fun h => k2 (k1 h)⟩⟩
theorem notbl_lst {xs : List V} : NoTbl (.lst xs) := fun _ e => nomatch e
theorem notbl_tup {xs : List V} : NoTbl (.tup xs) := fun _ e => nomatch e
theorem notbl_frz {o : Obj} {u : HO} : NoTbl (.frz o u) := fun _ e => nomatch e
theorem Gr.lst {H H' : Hp} (g : Gr H H') {a : Addr} {xs : List V} (e : H a = some (.lst xs)) : H' a = some (.lst xs) := g.at_ a _ e notbl_lst
theorem Gr.tup {H H' : Hp} (g : Gr H H') {a : Addr} {xs : List V} (e : H a = some (.tup xs)) : H' a = some (.tup xs) := g.at_ a _ e notbl_tup
theorem Gr.seq {K : PySem.W.Frag} {H H' : Hp} {a : Addr} {xs : List V} (g : Gr H H') (h : SqL K H a xs) : SqL K H' a xs := by
  rcases h with (h | ⟨o, h⟩) | h
  · exact .inl (.inl (g.lst h))
  · exact .inl (.inr ⟨o, g.at_ _ _ h notbl_frz⟩)
  · exact .inr h
theorem Gr.seqT {K : PySem.W.Frag} {H H' : Hp} {a : Addr} {xs : List V} (g : Gr H H') (h : SqT K H a xs) : SqT K H' a xs := by
  rcases h with (h | ⟨o, h⟩) | h
  · exact .inl (.inl (g.tup h))
  · exact .inl (.inr ⟨o, g.at_ _ _ h notbl_frz⟩)
  · exact .inr h
theorem Gr.some {H H' : Hp} (g : Gr H H') {b : Addr} {o : HO} (e : H b = some o) : ∃ o', H' b = some o' := by
  by_cases h : ∃ ps, o = .tbl ps
  · obtain ⟨ps, rfl⟩ := h
    obtain ⟨p1, e1, _⟩ := g.tab b ps e
    exact ⟨_, e1⟩
  · exact ⟨o, g.at_ b o e fun ps z => h ⟨ps, z⟩⟩
theorem Gr.free {H H' : Hp} (g : Gr H H') {b : Addr} (e : H' b = none) : H b = none := by
  cases q : H b with
  | none => rfl
  | some o =>
    obtain ⟨o', z⟩ := g.some q
    rw [e] at z
    cases z
theorem Gr.new {H : Hp} {p : Addr} {o : HO} (h : H p = none) : Gr H (upd H p o) :=
  ⟨fun b u e _ => by rw [upd_ne (ne_of_none e h)]; exact e, fun b ps e => ⟨ps, by rw [upd_ne (ne_of_none e h)]; exact e, fun h => h⟩⟩
/-- what is younger may change -/
theorem Gr.mut {H H' : Hp} {p : Addr} {o : HO} (g : Gr H H') (h : H p = none) : Gr H (upd H' p o) :=
  ⟨fun b u e n => by rw [upd_ne (ne_of_none e h)]; exact g.at_ b u e n, fun b ps e => by
    obtain ⟨p1, e1, k1⟩ := g.tab b ps e
    exact ⟨p1, by rw [upd_ne (ne_of_none e h)]; exact e1, k1⟩⟩
theorem Gr.same {H H' : Hp} (s : Same H H') : Gr H H' := ⟨fun b o e _ => s b o e, fun b ps e => ⟨ps, s _ _ e, fun h => h⟩⟩
theorem Gr.tabbed {H H' : Hp} {P : Addr} (hP : TabG H P) (t : Tabbed P H H') : Gr H H' := by
  obtain ⟨ps, e0, _⟩ := hP
  obtain ⟨⟨ps', e1, k1⟩, rest⟩ := t
  refine ⟨fun b o e n => ?_, fun b qs e => ?_⟩
  · have hb : b ≠ P := by
      intro z
      rw [z, e0] at e
      exact n ps (Option.some.inj e).symm
    rw [rest b hb]; exact e
  · by_cases hb : b = P
    · subst hb
      exact ⟨ps', e1, fun _ => k1⟩
    · exact ⟨qs, by rw [rest b hb]; exact e, fun h => h⟩
theorem Gr.tabG {H H' : Hp} (g : Gr H H') {P : Addr} (h : TabG H P) : TabG H' P := by
  obtain ⟨ps, e, k⟩ := h
  obtain ⟨p1, e1, k1⟩ := g.tab P ps e
  exact ⟨p1, e1, k1 k⟩
mutual
theorem dp_gr {K : PySem.W.Frag} {H H' : Hp} (g : Gr H H') : ∀ (d : PyData) (v : V), Dp K H v d → Dp K H' v d
  | .none, v, h => by cases h; exact .non
  | .bool b, v, h => by cases h; exact .bl b
  | .int i, v, h => by cases h; exact .int i
  | .str x, v, h => by cases h; exact .str x
  | .list ds, v, h => by
    cases h with
    | lst hs ha => exact .lst (g.seq hs) (dpAll_gr g ds _ ha)
  | .tuple ds, v, h => by
    cases h with
    | tup hs ha => exact .tup (g.seqT hs) (dpAll_gr g ds _ ha)
  | .dict _, v, h => by cases h
theorem dpAll_gr {K : PySem.W.Frag} {H H' : Hp} (g : Gr H H') : ∀ (ds : List PyData) (vs : List V), DpAll K H vs ds → DpAll K H' vs ds
  | [], vs, h => by cases h; exact .nil
  | d :: ds, vs, h => by
    cases h with
    | cons h1 h2 => exact .cons (dp_gr g d _ h1) (dpAll_gr g ds _ h2)
end
theorem Gr.dp {K : PySem.W.Frag} {H H' : Hp} (g : Gr H H') {d : PyData} {v : V} (h : Dp K H v d) : Dp K H' v d := dp_gr g d v h
end Gr
end
section
set_option maxHeartbeats 4000000
/-! any(..), all(..) of a generator expression over whatever PI walks; its element is read in a frame of its own and may call defs. -/
namespace Gx
open PySem PySem.Spec PyProof.Rows L2 GxR

section
variable {prog : Program} {w : World} {A : Around} {R : Result → Shared → Prop} {I : Addr}
/-- the turn of a quantifier's loop; stp: the truth that ends it -/
def Turned (R : Result → Shared → Prop) (stp : Bool) (W : Nat → Shared → Prop) (n : Nat) (r : Option Value) (s' : Shared) : Prop :=
  match r with
  | none => R (.ok (.ret (.bool (!stp)))) s'
  | some v => ∃ b, v = .bool b ∧ (b = stp → R (.ok (.ret (.bool stp))) s') ∧ (b ≠ stp → ∃ m, m < n ∧ W m s')
theorem loop_any (W : Nat → Shared → Prop) (step : ∀ n s, W n s → wpAny (model prog w) A.in1 (pyNext (.ref I)) (Turned R true W n) (fun _ _ => False) s) :
    ∀ n s, W n s → codeAny (model prog w) A (.builtin "any.loop" ⟨[.ref I], []⟩) R s := by
  intro n
  induction n using Nat.strongRecOn with
  | ind n ih =>
    intro s hW
    refine codeAny_builtin F.entry_any_loop ?_
    rw [Around.under_plainId F.plain_any_loop _]
    show wpAny _ A.in1 (pyNext (.ref I) >>= _) _ _ s
    refine wpAny_bind (wpAny_mono (step n s hW) (fun r s' hr => ?_) fun _ _ z => z.elim)
    cases r with
    | none => exact wpAny_bind (wpAny_rule (wpAny_pure hr))
    | some v =>
      obtain ⟨b, rfl, h1, h2⟩ := hr
      refine wpAny_bind (wpAny_holding (wpAny_truthy_bool ?_))
      refine wpAny_bind (wpAny_letGo ?_)
      cases b with
      | true => exact wpAny_bind (wpAny_rule (wpAny_pure (h1 rfl)))
      | false =>
        obtain ⟨m, hm, q⟩ := h2 Bool.false_ne_true
        exact wpAny_pure ⟨plainId_quiet F.plain_any_loop _, ih m hm _ q⟩
theorem loop_all (W : Nat → Shared → Prop) (step : ∀ n s, W n s → wpAny (model prog w) A.in1 (pyNext (.ref I)) (Turned R false W n) (fun _ _ => False) s) :
    ∀ n s, W n s → codeAny (model prog w) A (.builtin "all.loop" ⟨[.ref I], []⟩) R s := by
  intro n
  induction n using Nat.strongRecOn with
  | ind n ih =>
    intro s hW
    refine codeAny_builtin F.entry_all_loop ?_
    rw [Around.under_plainId F.plain_all_loop _]
    show wpAny _ A.in1 (pyNext (.ref I) >>= _) _ _ s
    refine wpAny_bind (wpAny_mono (step n s hW) (fun r s' hr => ?_) fun _ _ z => z.elim)
    cases r with
    | none => exact wpAny_bind (wpAny_rule (wpAny_pure hr))
    | some v =>
      obtain ⟨b, rfl, h1, h2⟩ := hr
      refine wpAny_bind (wpAny_holding (wpAny_truthy_bool ?_))
      refine wpAny_bind (wpAny_letGo ?_)
      cases b with
      | false => exact wpAny_bind (wpAny_rule (wpAny_pure (h1 rfl)))
      | true =>
        obtain ⟨m, hm, q⟩ := h2 (fun z => Bool.false_ne_true z.symm)
        exact wpAny_pure ⟨plainId_quiet F.plain_all_loop _, ih m hm _ q⟩
end

/-! ### the frame of the generator expression -/
abbrev gx (X : Cx) (Ag : Around) (s : Shared) (H : Hp) (cenv : Env) (fp : List Addr) (pn : List (Addr × Obj)) : Cx :=
  { X with A := Ag.deeper cenv, s_0 := s, H_0 := H, env := cenv, outer := X.stack, stack := cenv :: X.stack, ex := fp, fn := fun _ => false, pn := pn, xe := fun _ _ => False }
abbrev gEnv (scope : Scope) (X : Cx) (C : Addr) (code : Value) : Env := genEnv scope (cloFrom X.env.cells scope.names []) C code builtinsNs X.env
section
variable {X : Cx} {pins : List (Addr × Obj)} {σ : L2.St} {H : Hp} {s : Shared}
theorem gx_start {scope : Scope} {own : List (Str × Nat)} {fp : List Addr} {Ag : Around} {code : Value} {a : Addr} {go : Obj} {m0 : Str → Option Value} {h5 : Heap} {g5 : Array GenState} {t5 : Nat}
    (I : Inv X pins σ H s) (ok : BlkOk X.N X.env.scope scope own) (nocell : ∀ y ∈ scope.names, y.2 ≠ NameKind.cell) (hN : X.N.Nodup) (hAf : Ag.frames = X.A.frames) (hAh : Ag.handled = X.A.handled)
    (hfp : ∀ b ∈ fp, FpOk X pins H b ∧ b < s.heap.objs.size) (kp : ∀ b o, s.heap.get? b = some o → h5.get? b = some o) (hns : h5.Ns s.heap.objs.size m0) (hg : AllBare g5)
    (ha : h5.get? a = some go) (haz : s.heap.objs.size < a) (hgo : ∀ v, go.data ≠ .cell v) :
    Inv (gx X Ag s H (gEnv scope X s.heap.objs.size code) fp [(a, go)]) [] (wipe σ (own.map (·.2))) H { s with heap := h5, gens := g5, toks := t5 } := by
  have hfree : ∀ y ∈ scope.names, y.2 = .free → ∃ c, X.env.cells.lookup y.1 = some c := by
    intro y hy e
    rcases ok.free y hy e with k | k
    · exact I.ok.has _ (.inl k)
    · exact I.ok.has _ (.inr k)
  generalize hcenv : gEnv scope X s.heap.objs.size code = cenv
  have hL : cenv.locals = s.heap.objs.size := by subst hcenv; rfl
  have hcl : cenv.cells = cloFrom X.env.cells scope.names [] := by subst hcenv; rfl
  have hsc : cenv.scope = scope := by subst hcenv; rfl
  have mem : ∀ {y c}, cenv.cells.lookup y = some c → X.env.cells.lookup y = some c ∧ c < s.heap.objs.size := by
    intro y c e
    rw [hcl] at e
    rcases cloFrom_mem (PySem.mem_of_lookup e) with hm | ⟨h1, h2⟩
    · cases hm
    · subst h2
      obtain ⟨c', hc⟩ := hfree _ h1 rfl
      rw [hc]
      obtain ⟨v, z⟩ := I.cell _ _ hc
      exact ⟨rfl, z.lt⟩
  have look : ∀ {y}, scope.names.lookup y = some NameKind.free → ∃ c, cenv.cells.lookup y = some c ∧ X.env.cells.lookup y = some c := by
    intro y hl
    obtain ⟨c', e'⟩ := mem_lookup (cloFrom_has (cells := X.env.cells) (acc := []) (PySem.mem_of_lookup hl))
    rw [← hcl] at e'
    exact ⟨c', e', (mem e').1⟩
  have nokc : ∀ {y}, scope.names.lookup y ≠ some NameKind.cell := fun {y} e => nocell _ (PySem.mem_of_lookup e) rfl
  have okG : (gx X Ag s H cenv fp [(a, go)]).Ok := by
    refine ⟨I.ok.mod, ?_, ?_, ?_, ?_, ?_, ?_, fun _ _ z => (Bool.false_ne_true z).elim, ?_, ?_, .inr ⟨rfl, ?_⟩, ?_, I.bs, Nat.le_trans I.ok.bsz I.sz, ?_, ?_, I.stack, I.stkFree⟩
    · show cenv.scope.kind = _
      rw [hsc]; exact ok.kind
    · show cenv.globals = _
      subst hcenv; exact I.ok.glob
    · show cenv.builtins = _
      subst hcenv; rfl
    · show s.heap.objs.size ≤ cenv.locals
      rw [hL]; exact Nat.le_refl _
    · exact fun y z c e1 e2 => I.ok.inj y z c (mem e1).1 (mem e2).1
    · intro y hy
      have k : cenv.kindOf y = some .free := by
        rcases hy with k | k
        · have k2 : cenv.scope.names.lookup y = some .cell := k
          rw [hsc] at k2
          exact (nokc k2).elim
        · exact k
      have k2 : cenv.scope.names.lookup y = some .free := k
      rw [hsc] at k2
      obtain ⟨c, h1, _⟩ := look k2
      exact ⟨c, h1⟩
    · intro hc
      show Ag.handled = none
      rw [hAh]; exact I.ok.hd hc
    · show Ag.frames.map (cenv :: ·) = some (cenv :: X.stack)
      rw [hAf, I.ok.frames]; rfl
    · show cenv.frame = some cenv.locals
      subst hcenv; rfl
    · intro b hb
      refine ⟨?_, fun y c e z => (hfp b hb).1.2.2.2.2.1 y c (mem e).1 z⟩
      show b ≠ cenv.locals
      rw [hL]; exact Nat.ne_of_lt (hfp b hb).2
    · intro b o e hb
      rcases (hfp b hb).1.2.2.2.1 with z | z
      · exact I.ok.noex b o e z
      · exact absurd (Nat.lt_of_lt_of_le (Heap.lt_size e) (Nat.le_trans I.ok.bsz z)) (Nat.lt_irrefl _)
    · intro b hb z
      rcases List.mem_cons.mp (I.stkSub b z) with z | z
      · exact (hfp b hb).1.2.1 z
      · exact (hfp b hb).1.2.2.1 z
  refine ⟨okG, rfl, hg, Un.kept kp, ⟨m0, ?_, ?_⟩, ?_, ?_, fun y c e => I.freeC y c (mem e).1, ?_, I.hok.kept kp, by rw [wipe_length]; exact I.len⟩
  · show h5.Ns cenv.locals m0
    rw [hL]; exact hns
  · intro i y av e1 e2 e3
    obtain ⟨e2, hne⟩ := wipe_some e2
    have e3 : Vis cenv.scope y := e3
    rw [hsc] at e3
    have hfr : scope.names.lookup y = some .free := by
      have no : ∀ k', scope.names.lookup y = some k' → ¬ (k' = .local ∨ k' = .cell) := by
        intro k' e hh
        rcases ok.own _ (PySem.mem_of_lookup e) hh with e' | e'
        · obtain ⟨p, hp, hpy⟩ := List.mem_map.mp e'
          have e4 := ok.ix p hp
          have hpy : p.1 = y := hpy
          rw [hpy] at e4
          exact hne (List.mem_map.mpr ⟨p, hp, nodup_ix hN e4 e1⟩)
        · exact e' (List.mem_of_getElem? e1)
      rcases e3 with e3 | e3 | e3
      · exact (no _ e3 (.inl rfl)).elim
      · exact (no _ e3 (.inr rfl)).elim
      · exact e3
    have hkf : cenv.kindOf y = some .free := by
      show cenv.scope.names.lookup y = _
      rw [hsc]; exact hfr
    obtain ⟨m, hn, hl⟩ := I.loc
    have hvis : Vis X.env.scope y := (ok.free _ (PySem.mem_of_lookup hfr) rfl).elim (fun k => .inr (.inl k)) fun k => .inr (.inr k)
    obtain ⟨u, r, q⟩ := hl i y av e1 e2 hvis
    refine ⟨u, r, .inr ⟨.inr hkf, ?_⟩⟩
    obtain ⟨c, h1, h2⟩ := look hfr
    rcases q with ⟨k, _⟩ | ⟨_, c', e', z⟩
    · have k : X.env.scope.names.lookup y = some .local := k
      rcases ok.free _ (PySem.mem_of_lookup hfr) rfl with k' | k'
      · exact absurd (k.symm.trans k') (by simp)
      · exact absurd (k.symm.trans k') (by simp)
    · rw [h2] at e'; cases e'
      exact ⟨c, h1, z.keeps kp⟩
  · intro y c e
    obtain ⟨v, z⟩ := I.cell y c (mem e).1
    exact ⟨v, z.keeps kp⟩
  · show H cenv.locals = none
    rw [hL]; exact I.hok.fresh (Nat.le_refl _)
  · intro p hp
    have e : p = (a, go) := by simpa using hp
    subst e
    have hn : H a = none := I.hok.fresh (Nat.le_of_lt haz)
    refine ⟨ha, hn, ?_, ?_, hgo⟩
    · show a ≠ cenv.locals
      rw [hL]; exact Nat.ne_of_gt haz
    · intro hb
      have hb : a ∈ frs X.stack := hb
      rcases List.mem_cons.mp (I.stkSub a hb) with z | z
      · have h1 := I.lt
        rw [← z] at h1
        exact absurd (Nat.lt_trans haz h1) (Nat.lt_irrefl _)
      · exact I.nofs (Nat.le_of_lt haz) z
end
/-! ### the reading -/
/-- any (stp = true), all (stp = false) of elt for tg in iter if ..: W by the turn and a measure; behind it the def's table may have grown -/
def tGx (P : Addr) (stp : Bool) (wi : TI) (g : TG) (tt : TT) (te : TE) (vs : List Nat) : TE := fun σ H Q => wi σ H fun J H1 => TabG H1 P ∧ ∀ H2, Tabbed P H1 H2 → ∃ W : Nat → Nat → Hp → Prop, (∃ m, W 0 m H2) ∧ ∀ i m H, W i m H →
  (J.stop i H ∧ Q (.bl (!stp)) H) ∨ (J.go i H ∧ ∀ x H', J.yld i H x H' → g x (wipe σ vs) H' fun σ2 H3 => wipe σ2 vs = wipe σ vs ∧ tt σ2 H3 fun c H4 =>
    if c = true then te σ2 H4 fun y H5 => ∃ b, y = .bl b ∧ (b = stp → Q (.bl stp) H5) ∧ (b ≠ stp → ∃ m', m' < m ∧ W (i + 1) m' H5) else ∃ m', m' < m ∧ W (i + 1) m' H4)
/-- sleeping states that the consumer may wake: nothing but the generators' table and the tokens differ -/
structure Like (s s' : Shared) : Prop where
  heap : s'.heap = s.heap
  os : s'.os = s.os
  drawn : s'.drawn = s.drawn
  bare : AllBare s'.gens
  gsz : s.gens.size ≤ s'.gens.size
section
variable {X : Cx}
theorem like_inv {pins : List (Addr × Obj)} {σ : L2.St} {H : Hp} {s s' : Shared} (I : Inv X pins σ H s) (z : Like s s') : Inv X pins σ H s' := by
  obtain ⟨h', g', d', t', o'⟩ := s'
  obtain ⟨z1, z2, z3, z4, _⟩ := z
  have z1 : h' = s.heap := z1
  have z2 : o' = s.os := z2
  have z3 : d' = s.drawn := z3
  subst z1 z2 z3
  exact ⟨I.ok, I.os, z4, I.base, I.loc, I.cell, I.free, I.freeC, I.pin, I.hok, I.len⟩
/-- what is handed out; kap: how it goes on -/
def GxY (X : Cx) (fp : List Addr) (tn : Nat → Heap → Prop) (σw : L2.St) (g : Nat) (stp : Bool) (Q : VK) (W : Nat → Nat → Hp → Prop) : Protocol := fun _ _ v s kap =>
  ∃ b H', v = .bool b ∧ Inv X [] σw H' s ∧ g < s.gens.size ∧ (b = stp → Q (.bl stp) H') ∧ (b ≠ stp → ∀ s', Like s s' → kap (.send .none) s')
def GxP (X : Cx) (σw : L2.St) (g : Nat) (stp : Bool) (Q : VK) (s : Shared) : Prop := ∃ H', Inv X [] σw H' s ∧ g < s.gens.size ∧ Q (.bl (!stp)) H'
abbrev GxR' (X : Cx) (σw : L2.St) (g : Nat) (stp : Bool) (Q : VK) : GenEnd := fun _ _ r s => r = .ok .next ∧ GxP X σw g stp Q s

theorem seg_bindw {M : Model} {A : Around} {R : GenEnd} {Y : Protocol} {n : Nat} {s₀ : Shared} {c : Code} {fs : List Frame} {s : Shared} {α β : Type} {m : Sem α} {K : α → Sem β} {K' : β → Sem PySem.Fin} {H' : Value → Sem PySem.Fin} {gd lv} {N : Nat} (hN : N ≤ s.gens.size)
    (h : wpAny M (A.over c fs) m (fun a s' => N ≤ s'.gens.size → Seg M A R Y n s₀ c ((K a).wrap K' H' gd lv) fs s') (fun _ _ => False) s) :
    Seg M A R Y n s₀ c ((m >>= K).wrap K' H' gd lv) fs s := by
  refine seg_bind_wrap ?_
  refine GenW.wpAny_gsz hN ?_
  exact wpAny_mono h (fun _ _ q => q) fun _ _ z => z.elim

variable {Ag : Around} {fp : List Addr} {tn : Nat → Heap → Prop} {σw : L2.St} {g : Nat} {stp : Bool} {Q : VK} {W : Nat → Nat → Hp → Prop} {J : It} {it : Addr} {elt tg iter : Expr} {ifs : List Expr} {scope : Scope} {pos : Pos} {gt : TG} {tt : TT} {te : TE} {vs : List Nat}
theorem over_gx {cenv : Env} : Ag.over (.compLoop (.GeneratorExp elt [⟨tg, iter, ifs, 0⟩] scope pos) 0 (.ref it) .none cenv) [] = Ag.deeper cenv := by
  obtain ⟨hd, d, fr, gs, u⟩ := Ag
  rfl
theorem over_gx0 {cenv : Env} : Ag.over (.compStart (.GeneratorExp elt [⟨tg, iter, ifs, 0⟩] scope pos) 0 (.ref it) .none cenv) [] = Ag.deeper cenv := by
  obtain ⟨hd, d, fr, gs, u⟩ := Ag
  rfl
theorem seg_gx (hA : X.A = Ag.deeper X.env) (hc : X.calm = true) (hpn : True) (hco : X.env.scope.isCoroutine = false) (hxe : X.xe = fun _ _ => False) (hex : X.ex = fp)
    (hpnx : ∀ b ∈ fp, ∀ p ∈ X.pn, p.1 ≠ b) (hw : wipe σw vs = σw)
    (T : Turn X.prog X.w X.K tg J fp it tn) (pg : PG X tg gt) (pt : PTs X ifs tt) (pe : PE X elt te)
    (turn : ∀ i m H, W i m H → (J.stop i H ∧ Q (.bl (!stp)) H) ∨ (J.go i H ∧ ∀ x H', J.yld i H x H' → gt x σw H' fun σ2 H3 => wipe σ2 vs = σw ∧ tt σ2 H3 fun c H4 =>
      if c = true then te σ2 H4 fun y H5 => ∃ b, y = .bl b ∧ (b = stp → Q (.bl stp) H5) ∧ (b ≠ stp → ∃ m', m' < m ∧ W (i + 1) m' H5) else ∃ m', m' < m ∧ W (i + 1) m' H4)) :
    ∀ (m n i : Nat) (s₀ s : Shared) (H : Hp), m < n → W i m H → Inv X [] σw H s → tn i s.heap → (∀ b ∈ fp, H b = none) → g < s.gens.size →
      Seg (model X.prog X.w) Ag (GxR' X σw g stp Q) (GxY X fp tn σw g stp Q W) n s₀
        (.compLoop (.GeneratorExp elt [⟨tg, iter, ifs, 0⟩] scope pos) 0 (.ref it) .none X.env)
        ((model X.prog X.w).den (.compLoop (.GeneratorExp elt [⟨tg, iter, ifs, 0⟩] scope pos) 0 (.ref it) .none X.env)) [] s := by
  intro m
  induction m using Nat.strongRecOn with
  | ind m ih =>
    intro n i s₀ s H hmn hW I st nfp hg
    have eA := over_gx (Ag := Ag) (elt := elt) (tg := tg) (iter := iter) (ifs := ifs) (scope := scope) (pos := pos) (it := it) (cenv := X.env)
    rw [← hA] at eA
    have stat : ∀ {pins : List (Addr × Obj)} {σ' : L2.St} {H' : Hp} {s' : Shared}, Inv X pins σ' H' s' → pins = [] → (∀ b ∈ fp, H' b = none) → ∀ b ∈ fp, FpOk X pins H' b := by
      intro pins σ' H' s' I' hp hn b hb
      have hb' : b ∈ X.ex := by rw [hex]; exact hb
      refine ⟨hn b hb, (I'.ok.exf b hb').1, I'.ok.exfs b hb', .inl hb', fun x c e => (I'.ok.exf b hb').2 x c e, fun p hp2 => ?_⟩
      rw [hp, List.append_nil] at hp2
      exact hpnx b hb p hp2
    show Seg _ Ag _ _ _ s₀ _ ((compTurn (.GeneratorExp elt [⟨tg, iter, ifs, 0⟩] scope pos) 0 (.ref it) .none X.env).onRaise (leaving X.env)) [] s
    rw [compTurn_gen, Sem.onRaise_eq_wrap]
    refine seg_bindw hg (wpAny_standAt fun _ => ?_)
    rcases turn i m H hW with ⟨stop, qq⟩ | ⟨go, step⟩
    · refine seg_bindw hg ?_
      rw [eA]
      refine wpAny_mono (T.done X rfl rfl rfl hc i [] s σw H (fun _ _ => False) I (stat I rfl nfp) st stop) (fun r s6 ⟨hr, I6⟩ => ?_) fun _ _ z => z
      subst hr
      intro hg6
      exact seg_end (.ok .next) ⟨rfl, H, I6, hg6, qq⟩
    · refine seg_bindw hg ?_
      rw [eA]
      refine wpAny_mono (T.item X rfl rfl rfl hc i [] s σw H (fun _ _ => False) I (stat I rfl nfp) st go) (fun r s6 ⟨u, hr, h6⟩ => ?_) fun _ _ z => z
      subst hr
      intro hg6
      refine seg_bindw hg6 ?_
      rw [eA]
      refine wpAny_mono h6 (fun _ s7 ⟨x, H7, I7, r7, y7, st7, n7⟩ => ?_) fun _ _ z => z
      intro hg7
      have I7' := I7.pinned (stat I7 rfl n7) (T.obj _ _ st7)
      refine seg_bindw hg7 ?_
      rw [eA]
      refine wpAny_mono (pg.run _ s7 σw H7 x u _ I7' r7 (step x H7 y7)) (fun _ s8 ⟨σ8, H8, I8, hw8, q8⟩ => ?_) fun _ _ z => by rw [hxe] at z; exact z
      intro hg8
      refine seg_bindw hg8 ?_
      rw [eA]
      refine wpAny_mono (pt.run _ s8 σ8 H8 _ I8 q8) (fun c s9 ⟨H9, I9, q9⟩ => ?_) fun _ _ z => by rw [hxe] at z; exact z
      intro hg9
      -- behind the turn
      have fin : ∀ {s' : Shared} {H' : Hp}, Inv X ([] ++ pinsAt fp s7.heap) σ8 H' s' → Inv X [] σw H' s' ∧ tn (i + 1) s'.heap ∧ ∀ b ∈ fp, H' b = none := by
        intro s' H' I'
        have pin' : ∀ b ∈ fp, ∀ o, s7.heap.get? b = some o → s'.heap.get? b = some o ∧ H' b = none := by
          intro b hb o e
          have z := I'.pin (b, o) (List.mem_append_right _ (List.mem_append_right _ (mem_pinsAt hb e)))
          exact ⟨z.1, z.2.1⟩
        have hl : σw.length = σ8.length := by rw [← hw8, wipe_length]
        refine ⟨(I'.unpinned (pins := [])).weak hl fun j v e => ?_, T.keep _ _ _ st7 fun b hb o e => (pin' b hb o e).1, fun b hb => ?_⟩
        · rw [← hw8] at e
          exact (wipe_some e).1
        · obtain ⟨o, e, _⟩ := T.obj _ _ st7 b hb
          exact (pin' b hb o e).2
      cases c with
      | false =>
        simp only [Bool.false_eq_true, if_false] at q9 ⊢
        obtain ⟨m', hm', w'⟩ := q9
        obtain ⟨J1, J2, J3⟩ := fin I9
        exact seg_again rfl (ih m' hm' n (i + 1) s₀ s9 H9 (by omega) w' J1 J2 J3 hg9)
      | true =>
        simp only [if_true] at q9 ⊢
        have hy : ∀ v, yieldOut X.env v = yieldValue v := fun v => by simp only [yieldOut, hco, Bool.false_eq_true, if_false]
        simp only [hy]
        rw [Sem.bind_eq_wrap', Sem.bind_eq_wrap', Sem.wrap_wrap, Sem.wrap_wrap]
        refine seg_wrap (GenW.wpAny_gsz hg9 ?_)
        rw [eA]
        refine wpAny_mono (pe.run _ s9 σ8 H9 _ I9 q9) (fun y s10 ⟨yv, H10, I10, r10, b, hb, q1, q2⟩ => ?_) fun _ _ z => by rw [hxe] at z; exact z.elim
        intro hg10
        subst hb
        have r10 : y = Value.bool b := r10
        subst r10
        obtain ⟨J1, J2, J3⟩ := fin I10
        obtain ⟨n', rfl⟩ : ∃ n', n = n' + 1 := ⟨n - 1, by omega⟩
        refine seg_at (seg_yield rfl rfl rfl ⟨b, H10, rfl, J1, hg10, q1, fun hb s' hl => ?_⟩)
        obtain ⟨m', hm', w'⟩ := q2 hb
        refine seg_again rfl (ih m' hm' n' (i + 1) s' s' H10 (by omega) w' (like_inv J1 hl) ?_ J3 (Nat.lt_of_lt_of_le hg10 hl.gsz))
        rw [hl.heap]; exact J2

theorem seg_gx0 (hA : X.A = Ag.deeper X.env) {s₀ s : Shared} {n : Nat} (T : Turn X.prog X.w X.K tg J fp it tn) (st : tn 0 s.heap)
    (loop : Seg (model X.prog X.w) Ag (GxR' X σw g stp Q) (GxY X fp tn σw g stp Q W) n s₀ (.compLoop (.GeneratorExp elt [⟨tg, iter, ifs, 0⟩] scope pos) 0 (.ref it) .none X.env)
        ((model X.prog X.w).den (.compLoop (.GeneratorExp elt [⟨tg, iter, ifs, 0⟩] scope pos) 0 (.ref it) .none X.env)) [] s) :
    Seg (model X.prog X.w) Ag (GxR' X σw g stp Q) (GxY X fp tn σw g stp Q W) n s₀ (.compStart (.GeneratorExp elt [⟨tg, iter, ifs, 0⟩] scope pos) 0 (.ref it) .none X.env)
        ((model X.prog X.w).den (.compStart (.GeneratorExp elt [⟨tg, iter, ifs, 0⟩] scope pos) 0 (.ref it) .none X.env)) [] s := by
  show Seg _ Ag _ _ _ s₀ _ ((compStart (.GeneratorExp elt [⟨tg, iter, ifs, 0⟩] scope pos) 0 (.ref it) .none X.env).onRaise (leaving X.env)) [] s
  unfold compStart
  rw [Sem.onRaise_eq_wrap]
  show Seg _ Ag _ _ _ s₀ _ ((ask >>= _).wrap _ _ _ _) [] s
  refine seg_bind_wrap (wpAny_askSetting ?_)
  split
  · exact seg_again rfl loop
  · first
      | exact seg_bind_wrap (wpAny_rule (seg_bind_wrap (wpAny_standAt (seg_bind_wrap (T.self _ 0 s _ _ st (seg_again rfl loop))))))
      | (refine seg_bind_wrap (wpAny_rule ?_); show Seg _ Ag _ _ _ s₀ _ ((standAt iter.pos >>= _).wrap _ _ _ _) [] s; exact seg_bind_wrap (wpAny_standAt (seg_bind_wrap (T.self _ 0 s _ _ st (seg_again rfl loop)))))

/-! ### what the consumer holds -/
theorem bare_setGen {s : Shared} {g : Nat} {x : GenState} (h : AllBare s.gens) (hx : x.bare = true) : AllBare (s.setGen g x).gens := by
  intro y hy
  have hy : y ∈ s.gens.setIfInBounds g x := hy
  obtain ⟨i, hi, e⟩ := Array.mem_iff_getElem.mp hy
  rw [Array.getElem_setIfInBounds] at e
  by_cases c : g = i
  · rw [if_pos c] at e; rw [← e]; exact hx
  · rw [if_neg c] at e; rw [← e]; exact h _ (Array.getElem_mem _)
  · simpa using hi
theorem like_setGen {s : Shared} {g : Nat} {x : GenState} (h : AllBare s.gens) (hx : x.bare = true) : Like s (s.setGen g x) := ⟨rfl, rfl, rfl, bare_setGen h hx, Nat.le_of_eq (GenW.setGen_size s g x).symm⟩
theorem Like.trans {s s' s'' : Shared} (a : Like s s') (b : Like s' s'') : Like s s'' := ⟨b.heap.trans a.heap, b.os.trans a.os, b.drawn.trans a.drawn, b.bare, Nat.le_trans a.gsz b.gsz⟩
theorem like_refl {s : Shared} (h : AllBare s.gens) : Like s s := ⟨rfl, rfl, rfl, h, Nat.le_refl _⟩
def GenO (go : Obj) (g : Nat) : Prop := ∃ nm qn, go.cls = .type "generator" ∧ go.data = .fields #[.int g 0, nm, qn] ∧ go.slots = #[]
/-- X: the generator's own context -/
def Held (X : Cx) (Ag : Around) (fp : List Addr) (tn : Nat → Heap → Prop) (σw : L2.St) (g : Nat) (stp : Bool) (Q : VK) (W : Nat → Nat → Hp → Prop) (n : Nat) (s : Shared) : Prop :=
  (∃ H', Inv X [] σw H' s) ∧ ∃ gs, s.gens[g]? = some gs ∧ AllBare s.gens ∧ ∀ s'', Like s s'' → gs.Goes (model X.prog X.w) Ag (GxR' X σw g stp Q) (GxY X fp tn σw g stp Q W) n (.send .none) s''
theorem get_setGen {s : Shared} {g : Nat} {x : GenState} (h : g < s.gens.size) : (s.setGen g x).gens[g]? = some x := by
  simp [Shared.setGen, h]
theorem held_turn {A : Around} {R : Result → Shared → Prop} {a : Addr} {go : Obj} (hAg : Ag = A.in1.in1) (hh : A.handled = none) (hroom : A.depth < recursionLimit) (hpn : X.pn = [(a, go)]) (hgo : GenO go g)
    (hR : ∀ (b : Bool) H' s', Inv X [] σw H' s' → Q (.bl b) H' → ∀ h', (∀ x o, s'.heap.get? x = some o → h'.get? x = some o) → R (.ok (.ret (.bool b))) { s' with heap := h' })
    (n : Nat) (s : Shared) (h : Held X Ag fp tn σw g stp Q W n s) :
    wpAny (model X.prog X.w) A.in1 (pyNext (.ref a)) (Turned R stp (Held X Ag fp tn σw g stp Q W) n) (fun _ _ => False) s := by
  obtain ⟨⟨H0, I0⟩, gs, hgs, hbare, hgoes⟩ := h
  subst hAg
  have pinned : ∀ {H' : Hp} {s' : Shared}, Inv X [] σw H' s' → s'.heap.IsGen a g := by
    intro H' s' I'
    obtain ⟨nm, qn, h1, h2, h3⟩ := hgo
    exact ⟨go, nm, qn, (I'.pin (a, go) (List.mem_append_left _ (by rw [hpn]; exact List.mem_cons_self))).1, h1, h2, h3⟩
  refine wpAny_pyNext_genexpQ (P := fun _ _ s => GxP X σw g stp Q s) (Y := GxY X fp tn σw g stp Q W) (n := n) hh I0.nolimit hroom (pinned I0) hgs (hgoes _ (like_setGen hbare rfl)) (fun v s₁ gs' hb hv => ?_) (fun s₁ hp h' hk => ?_)
  · obtain ⟨b, H', rfl, I1, hg1, q1, q2⟩ := hv
    have L1 : Like s₁ (s₁.setGen g gs') := like_setGen I1.bare hb
    have I2 := like_inv I1 L1
    refine ⟨b, rfl, fun e => ?_, fun e => ?_⟩
    · have z := hR stp H' (s₁.setGen g gs') I2 (q1 e) (s₁.setGen g gs').heap fun _ _ e => e
      exact z
    · cases n with
      | zero => exact (q2 e s₁ (like_refl I1.bare)).elim
      | succ m =>
        refine ⟨m, Nat.lt_succ_self m, ⟨H', I2⟩, gs', get_setGen hg1, I2.bare, fun s'' hl => ?_⟩
        exact q2 e s'' (L1.trans hl)
  · obtain ⟨H', I1, hg1, q⟩ := hp
    exact hR (!stp) H' (s₁.setGen g .finished) (like_inv I1 (like_setGen I1.bare rfl)) q h' hk
end

/-! ### the rules -/
theorem wipe_of {τ : L2.St} : ∀ vs : List Nat, (∀ i ∈ vs, ∀ x, τ[i]? = some x → x = none) → wipe τ vs = τ
  | [], _ => rfl
  | v :: r, h => by
    show (wipe τ r).set v none = τ
    rw [wipe_of r fun i hi x hx => h i (List.mem_cons_of_mem _ hi) x hx]
    apply List.ext_getElem?
    intro j
    by_cases hj : v = j
    · subst hj
      rw [List.getElem?_set]
      cases hx : τ[v]? with
      | none =>
        have := List.getElem?_eq_none_iff.mp hx
        rw [if_pos rfl, if_neg (by omega)]
      | some x =>
        have := (List.getElem?_eq_some_iff.mp hx).1
        rw [if_pos rfl, if_pos this, h v List.mem_cons_self x hx]
    · rw [List.getElem?_set_ne hj]
theorem wipe_wipe (σ : L2.St) (vs : List Nat) : wipe (wipe σ vs) vs = wipe σ vs := wipe_of vs fun i hi x hx => by
  cases x with
  | none => rfl
  | some v => exact absurd hi (wipe_some hx).2
/-- the scope of the generator expression -/
structure GxS (scope : Scope) : Prop where
  co : scope.isCoroutine = false
  cell : ∀ y ∈ scope.names, y.2 ≠ NameKind.cell
  dot : scope.names.lookup (".0" : Str) = some NameKind.local
def gxsB (scope : Scope) : Bool := !scope.isCoroutine && (scope.names.all fun y => y.2 != NameKind.cell) && scope.names.lookup (".0" : Str) == some NameKind.local
theorem gxs_by {scope : Scope} (h : gxsB scope = true) : GxS scope := by
  unfold gxsB at h
  simp only [Bool.and_eq_true, List.all_eq_true, beq_iff_eq, Bool.not_eq_true', bne_iff_ne] at h
  exact ⟨h.1.1, h.1.2, h.2⟩
theorem room_gx {k : Nat} {A : Around} (r : Room (k + 1) A) (env : Env) : Room k (A.in1.in1.deeper env) :=
  ⟨r.hd, by have := r.dp; show A.depth + 1 + 3 * k + 5 < _; omega, by have := r.un; show A.units + 1 + 1 + 3 + 16 * k + 200 < _; omega⟩
section
variable {X : Cx} {c P : Addr} {elt tg iter : Expr} {ifs : List Expr} {scope : Scope} {own : List (Str × Nat)} {gpos : Pos} {stp : Bool} {wi : TI} {gt : TG} {tt : TT} {te : TE} {k : Nat}
theorem gx_eval {pins : List (Addr × Obj)} {σ : L2.St} {H : Hp} {s : Shared} {Q : VK} {Q' : Value → Shared → Prop} (hr : Room k X.A) (hc : X.calm = true) (hN : X.N.Nodup) (TB : TabB X.base X.mg c P) (hcode : X.env.code = .ref c) (ok : BlkOk X.N X.env.scope scope own) (S : GxS scope) (hi : PI X tg iter wi)
    (hg : ∀ (s : Shared) (H : Hp) (C : Addr) (cd : Value) (fp : List Addr) (pn : List (Addr × Obj)), PG (gx X X.A.in1.in1 s H (gEnv scope X C cd) fp pn) tg gt)
    (ht : ∀ (s : Shared) (H : Hp) (C : Addr) (cd : Value) (fp : List Addr) (pn : List (Addr × Obj)), PTs (gx X X.A.in1.in1 s H (gEnv scope X C cd) fp pn) ifs tt)
    (he : ∀ (s : Shared) (H : Hp) (C : Addr) (cd : Value) (fp : List Addr) (pn : List (Addr × Obj)), PE (gx X X.A.in1.in1 s H (gEnv scope X C cd) fp pn) elt te)
    (hs : ∀ v, genFold iter X.env v = pure v) (I : Inv X pins σ H s) (h : tGx P stp wi gt tt te (own.map (·.2)) σ H Q)
    (hQ : ∀ (XG : Cx) (a : Addr) (g : Nat) (go : Obj) (fp : List Addr) (tn : Nat → Heap → Prop) (σw : L2.St) (W : Nat → Nat → Hp → Prop) (n : Nat) (s5 : Shared), XG.prog = X.prog → XG.w = X.w → XG.pn = [(a, go)] → GenO go g → (∀ H' s', Inv XG [] σw H' s' → Inv X pins σ H' s') →
      Held XG X.A.in1.in1 fp tn σw g stp Q W n s5 → Q' (.ref a) s5) :
    wpAny (model X.prog X.w) X.A (eval (.GeneratorExp elt [⟨tg, iter, ifs, 0⟩] scope gpos) X.env) Q' X.xe s := by
  have hfree : ∀ y ∈ scope.names, y.2 = .free → ∃ c, X.env.cells.lookup y.1 = some c := by
    intro y hy e
    rcases ok.free y hy e with z | z
    · exact I.ok.has _ (.inl z)
    · exact I.ok.has _ (.inr z)
  refine wpAny_GeneratorExp_make S.co (closure_ok hfree) S.cell S.dot ok.kind (by have := hr.dp; omega) ?_ hs
  refine thn (hi.run pins s σ H _ I h) fun xv s1 hx => thn hx fun itv s2 h2 => ?_
  obtain ⟨it, fp, tn, J, H1, e, I2, T, st2, f2, ⟨ps, hP, htr⟩, q⟩ := h2
  subst e
  have hPs : s2.heap.get? P = some { cls := .none, data := .fields ps } := I2.hok P _ hP
  have cd0 : PySem.W.CodeHd s2.heap c P := TB.code.keeps I2.bk
  refine ⟨I2.nolimit, ?_⟩
  have nP : ∀ b ∈ fp, b ≠ P := by
    intro b hb e
    have z := (f2 b hb).1
    rw [e, hP] at z
    cases z
  have cont : ∀ (code : Value) (H2 : Hp) (s3 : Shared), Tabbed P H1 H2 → Inv X pins σ H2 s3 → (∀ b o, b ≠ P → s2.heap.get? b = some o → s3.heap.get? b = some o) →
      wpAny (model X.prog X.w) X.A (builtinsFor X.env.globals X.env.builtins) (fun bi s₄ =>
        ∀ h', h'.Ns s₄.heap.objs.size (fun y => if y = ".0" then some (.ref it) else none) → Heap.SameBut s₄.heap.objs.size (s₄.heap.push { cls := .type "frame", data := .dict #[] }) h' →
          Q' (.ref h'.objs.size) { s₄ with
            gens := s₄.gens.push (.fresh (.compStart (.GeneratorExp elt [⟨tg, iter, ifs, 0⟩] scope gpos) 0 (.ref it) .none (genEnv scope (cloFrom X.env.cells scope.names []) s₄.heap.objs.size code bi X.env))),
            toks := s₄.toks + 1 + 1 + 1,
            heap := h'.push { cls := .type "generator", data := .fields #[.int s₄.gens.size 0, .str "<genexpr>" (s₄.toks + 1), .str (X.env.qual ++ "<genexpr>") (s₄.toks + 1 + 1)] } }) X.xe s3 := by
    intro code H2 s3 hT I3 k3
    obtain ⟨bm, ob, e1, e2, e3, e4, e5, e6, e7, e8⟩ := TB.bm
    refine wpAny_builtinsFor (m := X.mg) (by rw [I3.ok.glob]; exact I3.mod.glob.keeps I3.bk) e1 e2 (I3.bk _ _ e5) e6 e7 e8 ?_
    intro h' hns hsb
    obtain ⟨W, ⟨m0, w0⟩, turn⟩ := q H2 hT
    have sz : h'.objs.size = s3.heap.objs.size + 1 := by rw [hsb.1, Heap.size_push]
    generalize hgo : ({ cls := .type "generator", data := .fields #[.int s3.gens.size 0, .str "<genexpr>" (s3.toks + 1), .str (X.env.qual ++ "<genexpr>") (s3.toks + 1 + 1)] } : Obj) = go
    have hgoO : GenO go s3.gens.size := by
      subst hgo
      exact ⟨_, _, rfl, rfl, rfl⟩
    have hcl : ∀ v, go.data ≠ .cell v := by
      subst hgo
      intro v z
      cases z
    have pushed : (h'.push go).get? h'.objs.size = some go := by
      subst hgo
      exact Heap.get?_push_size _ rfl
    have keep3 : ∀ b o, s3.heap.get? b = some o → (h'.push go).get? b = some o := by
      intro b o e
      exact Heap.get?_push_of_some _ (hsb.extBut b o (Nat.ne_of_lt (Heap.lt_size e)) (Heap.get?_push_of_some _ e))
    have st3 : tn 0 s3.heap := T.keep _ _ _ st2 fun b hb o e => k3 b o (nP b hb) e
    have f3 : ∀ b ∈ fp, FpOk X pins H2 b ∧ b < s3.heap.objs.size := by
      intro b hb
      obtain ⟨o, e, _⟩ := T.obj _ _ st3 b hb
      refine ⟨⟨?_, (f2 b hb).2⟩, Heap.lt_size e⟩
      rw [hT.2 b (nP b hb)]
      exact (f2 b hb).1
    have gz : ∀ (s : Shared) (x : GenState), s.gens.size < (s.gens.push x).size := fun s x => by rw [Array.size_push]; exact Nat.lt_succ_self _
    have IG := gx_start (Ag := X.A.in1.in1) (code := code) (a := h'.objs.size) (go := go) (h5 := h'.push go) (t5 := s3.toks + 1 + 1 + 1)
      (g5 := s3.gens.push (.fresh (.compStart (.GeneratorExp elt [⟨tg, iter, ifs, 0⟩] scope gpos) 0 (.ref it) .none (gEnv scope X s3.heap.objs.size code))))
      I3 ok S.cell hN rfl rfl f3 keep3 (hns.push _) (I3.bare.push rfl) pushed (by omega) hcl
    have pg := hg s3 H2 s3.heap.objs.size code fp [(h'.objs.size, go)]
    have pt := ht s3 H2 s3.heap.objs.size code fp [(h'.objs.size, go)]
    have pe := he s3 H2 s3.heap.objs.size code fp [(h'.objs.size, go)]
    have back : ∀ H' s', Inv (gx X X.A.in1.in1 s3 H2 (gEnv scope X s3.heap.objs.size code) fp [(h'.objs.size, go)]) [] (wipe σ (own.map (·.2))) H' s' → Inv X pins σ H' s' := by
      intro H' s' J'
      exact I3.call' (ch := fp) J'.os J'.base J'.hok J'.bare fun b hb => ⟨(f3 b hb).1.2.2.2.1, (f3 b hb).1.2.1, (f3 b hb).1.2.2.2.2.1, (f3 b hb).1.2.2.2.2.2⟩
    have n5 : ∀ b ∈ fp, H2 b = none := fun b hb => (f3 b hb).1.1
    have st5 : ∀ h'' : Heap, (∀ b o, s3.heap.get? b = some o → h''.get? b = some o) → tn 0 h'' := fun h'' kk => T.keep _ _ _ st3 fun b _ o e => kk b o e
    have wipe2 := wipe_wipe σ (own.map (·.2))
    have pnx : ∀ b ∈ fp, ∀ p ∈ [(h'.objs.size, go)], p.1 ≠ b := by
      intro b hb p hp e
      have hp : p = (h'.objs.size, go) := by simpa using hp
      have hlt := (f3 b hb).2
      rw [← e, hp] at hlt
      have hlt : h'.objs.size < s3.heap.objs.size := hlt
      omega
    refine hQ (gx X X.A.in1.in1 s3 H2 (gEnv scope X s3.heap.objs.size code) fp [(h'.objs.size, go)]) h'.objs.size s3.gens.size go fp tn (wipe σ (own.map (·.2))) W (m0 + 1) _ rfl rfl rfl hgoO back ⟨⟨H2, IG⟩, _, Array.getElem?_push_size .., IG.bare, fun s'' hl => ⟨rfl, ?_⟩⟩
    have hst'' : tn 0 s''.heap := by
      rw [hl.heap]
      exact st5 _ keep3
    have hg'' : s3.gens.size < s''.gens.size := Nat.lt_of_lt_of_le (gz s3 _) hl.gsz
    have loop := seg_gx (X := gx X X.A.in1.in1 s3 H2 (gEnv scope X s3.heap.objs.size code) fp [(h'.objs.size, go)]) (Ag := X.A.in1.in1) (iter := iter) (scope := scope) (pos := gpos) (σw := wipe σ (own.map (·.2))) (g := s3.gens.size) (stp := stp) (Q := Q) (vs := own.map (·.2))
      rfl hc trivial S.co rfl rfl pnx wipe2 T pg pt pe turn m0 (m0 + 1) 0 s'' s'' H2 (Nat.lt_succ_self _) w0 (like_inv IG hl) hst'' n5 hg''
    exact seg_gx0 (X := gx X X.A.in1.in1 s3 H2 (gEnv scope X s3.heap.objs.size code) fp [(h'.objs.size, go)]) (Ag := X.A.in1.in1) rfl T hst'' loop
  cases hf : codeAmong gpos ps.toList with
  | none =>
    refine wpAny_genexprCodeX hcode (cd0.code hPs htr) (cd0.tab hPs) hf fun c' h' tk hx hge hlt hco' _ htab' _ => ?_
    obtain ⟨o1, vs1, f1, tf, fl, tg1, inF, tx, tt1, op, _, _, _, _, _, _, _, _, _, htr', _⟩ := hco'
    have J := inv_tab (more := #[rawInt gpos.line, rawInt gpos.col, .ref c']) (h' := h') (g' := s2.gens) (d' := s2.drawn) (t' := tk) I2 hP (fun b u hb e => hx b u hb e) htab'.2 I2.bare
    exact cont _ _ _ ⟨⟨_, upd_same, htr'⟩, fun b hb => upd_ne hb⟩ J fun b o hb e => hx b o hb e
  | some cv =>
    refine wpAny_genexprCode_hit hcode (cd0.code hPs htr) hf ?_
    exact cont cv H1 s2 ⟨⟨ps, hP, htr⟩, fun _ _ => rfl⟩ I2 fun _ _ _ e => e
variable {p pos : Pos}
theorem pe_any (hr : Room k X.A) (hc : X.calm = true) (hN : X.N.Nodup) (hgl : Gl X "any") (hm : X.mg "any" = none) (TB : TabB X.base X.mg c P) (hcode : X.env.code = .ref c) (ok : BlkOk X.N X.env.scope scope own) (S : GxS scope) (hi : PI X tg iter wi)
    (hg : ∀ (s : Shared) (H : Hp) (C : Addr) (cd : Value) (fp : List Addr) (pn : List (Addr × Obj)), PG (gx X X.A.in1.in1 s H (gEnv scope X C cd) fp pn) tg gt)
    (ht : ∀ (s : Shared) (H : Hp) (C : Addr) (cd : Value) (fp : List Addr) (pn : List (Addr × Obj)), PTs (gx X X.A.in1.in1 s H (gEnv scope X C cd) fp pn) ifs tt)
    (he : ∀ (s : Shared) (H : Hp) (C : Addr) (cd : Value) (fp : List Addr) (pn : List (Addr × Obj)), PE (gx X X.A.in1.in1 s H (gEnv scope X C cd) fp pn) elt te)
    (hs : ∀ v, genFold iter X.env v = pure v := by intro _; rfl)
    (hst : starEach [.GeneratorExp elt [⟨tg, iter, ifs, 0⟩] scope gpos] X.env = (false, eval (.GeneratorExp elt [⟨tg, iter, ifs, 0⟩] scope gpos) X.env) :: starEach [] X.env := by rfl) :
    PE X (.Call (.Name "any" p) [.GeneratorExp elt [⟨tg, iter, ifs, 0⟩] scope gpos] [] pos) (tGx P true wi gt tt te (own.map (·.2))) := by
  refine ⟨fun pins s σ H Q I h => ?_⟩
  refine wpAny_Call_Name_kw (ld_blt I hgl hm boot_any ?_)
  refine PyProof.Rows.callWith_builtin1 ?_ hst (by rfl)
  rw [hst]
  show wpAny _ _ (spliced ((false, eval (.GeneratorExp elt [⟨tg, iter, ifs, 0⟩] scope gpos) X.env) :: backTo pos (starEach [] X.env))) _ _ s
  refine Calls.spliced_cons (gx_eval (Q := Q) (stp := true) hr hc hN TB hcode ok S hi hg ht he hs I h fun XG a g go fp tn σw W n s5 hp hw hpn hgo back hheld => ?_)
  refine Calls.spliced_nil ?_
  have hheld0 := hheld
  obtain ⟨⟨H0, I0⟩, _⟩ := hheld0
  have hig : s5.heap.IsGen a g := by
    obtain ⟨nm, qn, h1, h2, h3⟩ := hgo
    exact ⟨go, nm, qn, (I0.pin (a, go) (List.mem_append_left _ (by rw [hpn]; exact List.mem_cons_self))).1, h1, h2, h3⟩
  refine call_function_tree F.kind_any F.plain_any F.entry_any (F.args_any1 _) ?_
  unfold Builtin.«any»
  refine wpAny_bind (m := oneArg "any" _) (wpAny_pure ?_)
  refine wpAny_bind (wpAny_pyIter_gen hig ?_)
  refine wpAny_pure ⟨plainId_quiet F.plain_any_loop _, ?_⟩
  rw [← hp, ← hw] at *
  refine loop_any (Held XG X.A.in1.in1 fp tn σw g true Q W) (held_turn rfl hr.hd (by have := hr.dp; omega) hpn hgo fun b H' s' J' qq h' hk => ?_) n s5 hheld
  exact ⟨.bl b, H', (back H' s' J').kept (t' := s'.toks) hk, rfl, qq⟩
theorem pe_all (hr : Room k X.A) (hc : X.calm = true) (hN : X.N.Nodup) (hgl : Gl X "all") (hm : X.mg "all" = none) (TB : TabB X.base X.mg c P) (hcode : X.env.code = .ref c) (ok : BlkOk X.N X.env.scope scope own) (S : GxS scope) (hi : PI X tg iter wi)
    (hg : ∀ (s : Shared) (H : Hp) (C : Addr) (cd : Value) (fp : List Addr) (pn : List (Addr × Obj)), PG (gx X X.A.in1.in1 s H (gEnv scope X C cd) fp pn) tg gt)
    (ht : ∀ (s : Shared) (H : Hp) (C : Addr) (cd : Value) (fp : List Addr) (pn : List (Addr × Obj)), PTs (gx X X.A.in1.in1 s H (gEnv scope X C cd) fp pn) ifs tt)
    (he : ∀ (s : Shared) (H : Hp) (C : Addr) (cd : Value) (fp : List Addr) (pn : List (Addr × Obj)), PE (gx X X.A.in1.in1 s H (gEnv scope X C cd) fp pn) elt te)
    (hs : ∀ v, genFold iter X.env v = pure v := by intro _; rfl) (hb : bootBuiltins "all" = some (.builtin "all") := by first | rfl | decide +kernel)
    (hst : starEach [.GeneratorExp elt [⟨tg, iter, ifs, 0⟩] scope gpos] X.env = (false, eval (.GeneratorExp elt [⟨tg, iter, ifs, 0⟩] scope gpos) X.env) :: starEach [] X.env := by rfl) :
    PE X (.Call (.Name "all" p) [.GeneratorExp elt [⟨tg, iter, ifs, 0⟩] scope gpos] [] pos) (tGx P false wi gt tt te (own.map (·.2))) := by
  refine ⟨fun pins s σ H Q I h => ?_⟩
  refine wpAny_Call_Name_kw (ld_blt I hgl hm hb ?_)
  refine PyProof.Rows.callWith_builtin1 ?_ hst (by rfl)
  rw [hst]
  show wpAny _ _ (spliced ((false, eval (.GeneratorExp elt [⟨tg, iter, ifs, 0⟩] scope gpos) X.env) :: backTo pos (starEach [] X.env))) _ _ s
  refine Calls.spliced_cons (gx_eval (Q := Q) (stp := false) hr hc hN TB hcode ok S hi hg ht he hs I h fun XG a g go fp tn σw W n s5 hp hw hpn hgo back hheld => ?_)
  refine Calls.spliced_nil ?_
  have hheld0 := hheld
  obtain ⟨⟨H0, I0⟩, _⟩ := hheld0
  have hig : s5.heap.IsGen a g := by
    obtain ⟨nm, qn, h1, h2, h3⟩ := hgo
    exact ⟨go, nm, qn, (I0.pin (a, go) (List.mem_append_left _ (by rw [hpn]; exact List.mem_cons_self))).1, h1, h2, h3⟩
  refine call_function_tree F.kind_all F.plain_all F.entry_all (F.args_all1 _) ?_
  unfold Builtin.«all»
  refine wpAny_bind (m := oneArg "all" _) (wpAny_pure ?_)
  refine wpAny_bind (wpAny_pyIter_gen hig ?_)
  refine wpAny_pure ⟨plainId_quiet F.plain_all_loop _, ?_⟩
  rw [← hp, ← hw] at *
  refine loop_all (Held XG X.A.in1.in1 fp tn σw g false Q W) (held_turn rfl hr.hd (by have := hr.dp; omega) hpn hgo fun b H' s' J' qq h' hk => ?_) n s5 hheld
  exact ⟨.bl b, H', (back H' s' J').kept (t' := s'.toks) hk, rfl, qq⟩
end
end Gx
end
section
set_option maxHeartbeats 4000000
/-! sorted(list, key=f), f a def of one's own whose answers are data, lists among them. -/
namespace Skx
open PySem PySem.Spec PyProof.Rows L2 Srx Gr
open PySem.W (dataLe alike AllAlike EachIs KeepsBut dataKind SortsAt sortVals KeyedOut)

section
variable {X : Cx} {k : Nat} {f : Addr} {fd : FuncData} {ps : List Str} {sp : Sp} {γ : Type} {enc : γ → PyData}
/-- what the key's call must give, wherever it stands -/
def KeyOf (K : PySem.W.Frag) (sp : Sp) (enc : γ → PyData) (b : V × γ) (H : Hp) : Prop := ∀ H1, Gr H H1 → ∀ Q : VK, (∀ v H2, Gr H1 H2 → Dp K H2 v (enc b.2) → Q v H2) → sp [b.1] H1 Q E0
def rSortedKey (K : PySem.W.Frag) (f : Addr) (sp : Sp) (enc : γ → PyData) : List V → List V → Hp → VK → Prop := fun vs zs H Q => ∃ (a : Addr) (bs : List (V × γ)), vs = [V.ref a] ∧ zs = [V.ref f] ∧ SqL K H a (bs.map (·.1)) ∧ (∀ b ∈ bs, KeyOf K sp enc b H) ∧
  ∀ H1 p, Gr H H1 → H1 p = none → Q (.ref p) (upd H1 p (.lst ((bs.mergeSort (dataLe false fun b => enc b.2)).map (·.1))))
theorem paired_each {K : PySem.W.Frag} {pins : List (Addr × Obj)} {σ : L2.St} {H : Hp} {s : Shared} (I : Inv X pins σ H s) (hK : X.K = K) : ∀ {kvs : List V} {us : List Value} {ds : List PyData}, Vals kvs us → Paired (fun v d => Dp K H v d) kvs ds → EachIs (fun u d => ∃ as, PySem.Reads s.heap u d as) us ds
  | _, _, _, .nil, .nil => .nil
  | _, _, _, .cons r t, .cons h t2 => by
    subst hK
    exact .cons (Dp.reads I _ _ _ h r) (paired_each I rfl t t2)
theorem paired_snoc {α β : Type} {R : α → β → Prop} : ∀ {as : List α} {bs : List β} {a : α} {b : β}, Paired R as bs → R a b → Paired R (as ++ [a]) (bs ++ [b])
  | _, _, _, _, .nil, h => .cons h .nil
  | _, _, _, _, .cons r t, h => .cons r (paired_snoc t h)
theorem paired_imp {α β : Type} {R S : α → β → Prop} (f : ∀ a b, R a b → S a b) : ∀ {as : List α} {bs : List β}, Paired R as bs → Paired S as bs
  | _, _, .nil => .nil
  | _, _, .cons r t => .cons (f _ _ r) (paired_imp f t)

set_option maxHeartbeats 8000000 in
theorem cr_sortedKey (o : Ord enc) (F : FnOk X.prog X.w X.K X.mg X.base CX0 k f fd ps sp) (hb : Binds X.K fd ps []) (hr : Room (k + 2) X.A) : CallRK X (.builtin "sorted") [Str.ofString "key"] (rSortedKey X.K f sp enc) := by
  intro pins s σ H vs zs us ws Q I r rz h
  obtain ⟨l, bs, rfl, rfl, hs, hkey, q⟩ := h
  obtain rfl := Vals.ref1 r
  obtain rfl := Vals.ref1 rz
  obtain ⟨its, rv, hl, hz⟩ := I.list hs
  have hbz : bs.length ≤ sizeLine := by simpa using hz
  have e0 := each_vals rv
  have hil : its.length = bs.length := by rw [← rv.length, List.length_map]
  have hr2 : Room k X.A.in1.in1 := (show Room (k + 1) X.A.in1 from Room.in1 hr).in1
  show wpAny _ _ (call (.builtin "sorted") [.ref l] [(Str.ofString "key", .ref f)]) _ _ _
  refine PySem.W.sorted_of_sort hl.isList (by rw [hil]; exact hbz) (PyProof.Rows.ksk_s1 _ _) (fun _ => PyProof.Rows.ksk_l1 _ _) fun E' => ?_
  rw [PyProof.Rows.ksk_t1]
  -- the copy at L, the tuple, the keys' list at kS
  generalize hL : s.heap.objs.size + 1 = L
  have hLat : (PySem.W.copyHeap s.heap its).get? L = some (seqObj "list" its.toArray 0) := by
    rw [← hL]; exact PySem.W.copyHeap_at s.heap its
  obtain ⟨e1, hL1⟩ : ∃ e1, ((PySem.W.copyHeap s.heap its).update L (Obj.mapSeq fun _ => (#[] : Array Value))).get? L = some (seqObj "list" #[] e1) := ⟨_, get?_update_seq hLat fun _ => #[]⟩
  unfold PyProof.Rows.ksk_tree
  refine wpAny_bind (listItems_at hLat rfl ?_)
  refine wpAny_bind (listUpdate_at hLat rfl ?_ (by rw [List.size_toArray, hil]; exact hbz) (Nat.zero_le _))
  refine wpAny_bind (seqEpoch_at hL1 rfl ?_)
  refine wpAny_bind (wpAny_newTuple ?_ (by show its.length ≤ _; rw [hil]; exact hbz))
  refine wpAny_bind (wpAny_newList ?_ (Nat.zero_le _))
  refine wpAny_holding ?_
  generalize hkS : (((PySem.W.copyHeap s.heap its).update L (Obj.mapSeq fun _ => (#[] : Array Value))).push (seqObj "tuple" its.toArray 0)).objs.size = kS
  generalize hg : ((((PySem.W.copyHeap s.heap its).update L (Obj.mapSeq fun _ => (#[] : Array Value))).push (seqObj "tuple" its.toArray 0)).push (seqObj "list" #[] 0)) = g0
  have keep0 : ∀ b u, s.heap.get? b = some u → g0.get? b = some u := by
    intro b u e
    have lt := Heap.lt_size e
    rw [← hg]
    exact PySem.W.sortingHeap_old (by rw [← hL]; exact Nat.ne_of_lt (Nat.lt_succ_of_lt lt)) (PySem.W.copyHeap_old e)
  have hLlt : L < ((PySem.W.copyHeap s.heap its).update L (Obj.mapSeq fun _ => (#[] : Array Value))).objs.size := Heap.lt_size hL1
  have hkL : kS ≠ L := by
    rw [← hkS, size_push']
    exact Nat.ne_of_gt (Nat.lt_succ_of_lt hLlt)
  have hkz : s.heap.objs.size ≤ kS := by
    rw [← hkS, size_push']
    have : s.heap.objs.size < L := by rw [← hL]; exact Nat.lt_succ_self _
    exact Nat.le_succ_of_le (Nat.le_of_lt (Nat.lt_trans this hLlt))
  have hLz : s.heap.objs.size ≤ L := by rw [← hL]; exact Nat.le_succ _
  have gL : g0.get? L = some (seqObj "list" #[] e1) := by
    rw [← hg]; exact Heap.get?_push_of_some _ (Heap.get?_push_of_some _ hL1)
  have gk : g0.get? kS = some (seqObj "list" #[] 0) := by
    rw [← hg, ← hkS]; exact Heap.get?_push_size _ rfl
  have nk : H kS = none := I.hok.fresh hkz
  have nL : H L = none := I.hok.fresh hLz
  have fk := I.fpOk hkz nk
  have fL := I.fpOk hLz nL
  have I0 : Inv X pins σ H { s with heap := g0 } := I.kept (t' := s.toks) keep0
  have ncell : ∀ (kA : Array Value) (e : Nat) (v : Option Value), (seqObj "list" kA e).data ≠ .cell v := fun kA e v z => nomatch z
  -- the state behind i keys
  have pinned : ∀ {H' : Hp} {s' : Shared} {kA : Array Value} {e : Nat}, Inv X pins σ H' s' → H' kS = none → H' L = none → s'.heap.get? kS = some (seqObj "list" kA e) → s'.heap.get? L = some (seqObj "list" #[] e1) →
      Inv X (pins ++ [(kS, seqObj "list" kA e), (L, seqObj "list" #[] e1)]) σ H' s' := by
    intro H' s' kA e I' n1 n2 g1 g2
    refine I'.pins_of fun p hp => ?_
    rcases List.mem_append.mp hp with hp | hp
    · exact I'.pin p (List.mem_append_right _ hp)
    · rcases List.mem_cons.mp hp with z | hp
      · rw [z]; exact ⟨g1, n1, fk.2.1, fk.2.2.1, ncell _ _⟩
      · have z : p = (L, seqObj "list" #[] e1) := by simpa using hp
        rw [z]; exact ⟨g2, n2, fL.2.1, fL.2.2.1, ncell _ _⟩
  show wpAny _ _ (PyProof.Rows.ksk_rest L (.ref f) false its.toArray e1 (.ref kS)) _ _ { s with heap := g0 }
  unfold PyProof.Rows.ksk_rest
  refine wpAny_bind (wpAny_rule ?_)
  first
    | rw [List.forIn_toArray]
    | (rw [← Array.forIn_toList]; simp only [List.toList_toArray])
    | rw [← Array.forIn_toList]
  refine wpAny_bind (PyProof.Rows.ksk_fold (fun i s' => ∃ (H' : Hp) (kA : Array Value) (e : Nat) (kvs : List V), Inv X pins σ H' s' ∧ Gr H H' ∧ H' kS = none ∧ H' L = none ∧ s'.heap.get? kS = some (seqObj "list" kA e) ∧ s'.heap.get? L = some (seqObj "list" #[] e1) ∧
      Vals kvs kA.toList ∧ Paired (fun v d => Dp X.K H' v d) kvs ((bs.take i).map fun b => enc b.2)) its 0 _
    ⟨H, #[], 0, [], I0, Gr.refl H, nk, nL, gk, gL, .nil, by rw [List.take_zero]; exact .nil⟩ ?step ?done)
  case step =>
    rintro j x s' hx ⟨H', kA, e, kvs, I', gr, n1, n2, g1, g2, vk, pk⟩
    simp only [Nat.zero_add] at pk ⊢
    have hj : j < its.length := (List.getElem?_eq_some_iff.mp hx).1
    have hjb : j < bs.length := by omega
    have hbj : bs[j]? = some bs[j] := List.getElem?_eq_getElem hjb
    obtain ⟨u, hu, ru⟩ := rv.get (i := j) (x := bs[j].1) (by rw [List.getElem?_map, hbj]; rfl)
    rw [hx] at hu
    cases hu
    have J := pinned I' n1 n2 g1 g2
    have hsp : sp [bs[j].1] H' (fun v H2 => Gr H' H2 ∧ Dp X.K H2 v (enc bs[j].2)) E0 := hkey _ (List.getElem_mem hjb) H' gr _ fun v H2 h1 h2 => ⟨h1, h2⟩
    have hlen : (([x] : List Value) ++ []).length = ps.length := F.len _ _ _ _ hsp
    refine wpAny_bind (wpAny_attempt (wpAny_call (codeAny_mono (F.run X.A.in1.in1 X.stack s' H' ⟨[x], []⟩ ([x] ++ []) [bs[j].1] _ E0 hr2 J.env0.in1.in1 (hb s' [x] J.kIn hlen) (.cons ru .nil) hsp) fun rr s'' hq => ?_)))
    cases rr with
    | error er => exact hq.elim
    | ok fl =>
      cases fl with
      | next => exact False.elim hq
      | brk => exact False.elim hq
      | cont => exact False.elim hq
      | ret u =>
        obtain ⟨v, H2, J2, rv2, gr2, dp2⟩ := J.after hq
        have pk1 := J2.pin (kS, seqObj "list" kA e) (List.mem_append_right _ (List.mem_append_right _ List.mem_cons_self))
        have pL1 := J2.pin (L, seqObj "list" #[] e1) (List.mem_append_right _ (List.mem_append_right _ (List.mem_cons_of_mem _ List.mem_cons_self)))
        have I2 : Inv X pins σ H2 s'' := J2.unpinned
        have hkAz : kA.size ≤ bs.length := by
          have h1 : kvs.length = kA.toList.length := Paired.length vk
          have h2 : kvs.length = ((bs.take j).map fun b => enc b.2).length := Paired.length pk
          have h3 : ((bs.take j).map fun b => enc b.2).length ≤ bs.length := by
            rw [List.length_map, List.length_take]
            exact Nat.min_le_right _ _
          have h4 : kA.toList.length = kA.size := Array.length_toList
          rw [← h4, ← h1, h2]
          exact h3
        have sb := Heap.SameBut.update s''.heap kS (Obj.mapSeq (·.push u))
        obtain ⟨c2, hc2⟩ : ∃ c2, (s''.heap.update kS (Obj.mapSeq (·.push u))).get? kS = some (seqObj "list" (kA.push u) c2) := ⟨_, get?_update_seq pk1.1 (·.push u)⟩
        refine wpAny_bind (listUpdate_at pk1.1 rfl ?_ (Nat.le_trans hkAz hbz) (Nat.le_trans (Nat.le_of_eq (Array.size_push ..)) (Nat.succ_le_succ (Nat.le_trans hkAz hbz))))
        have I3 : Inv X pins σ H2 { s'' with heap := s''.heap.update kS (Obj.mapSeq (·.push u)) } := I2.turned (t' := s''.toks) (fun b o hb e => (sb.2 b hb).trans e) pk1.2.1 fk.2.1 fk.2.2.2.1 fk.2.2.2.2.1 fk.2.2.2.2.2
        refine wpAny_pure ⟨rfl, H2, kA.push u, c2, kvs ++ [v], I3, gr.trans gr2, pk1.2.1, pL1.2.1, hc2, (sb.2 L hkL.symm).trans pL1.1, ?_, ?_⟩
        · rw [Array.toList_push]
          exact vk.append (.cons rv2 .nil)
        · rw [List.take_add_one, hbj, Option.toList_some, List.map_append]
          exact paired_snoc (paired_imp (fun v d h => gr2.dp h) pk) dp2
  case done =>
    rintro s' ⟨H', kA, e, kvs, I', gr, n1, n2, g1, g2, vk, pk⟩
    rw [Nat.zero_add, hil, List.take_length] at pk
    have ek : EachIs (fun u d => ∃ as, PySem.Reads s'.heap u d as) kA.toList (bs.map fun b => enc b.2) := paired_each I' rfl vk pk
    have hsz : kA.size = its.length := by
      have h1 := ek.length
      rw [Array.length_toList, List.length_map] at h1
      omega
    have hal : AllAlike (bs.map fun b => enc b.2) := PySem.W.AllAlike.of fun x y => o.alike _ _
    refine wpAny_bind (listItems_at g1 rfl ?_)
    refine PySem.W.keyH_end (κ := dataKind s'.heap (bs.map fun b => enc b.2)) (h₁ := PySem.W.hideAll s'.heap [kS]) (vs := its) (fun b o _ e => PySem.W.of_hideAll [kS] e) (PySem.W.hideAll_none [kS] List.mem_cons_self) g1 g2 hkL
      (SortsAt.data (s := s') ek hal ((o.comap Prod.snd).sortable bs) (fun d hd => by
        obtain ⟨b, _, rfl⟩ := List.mem_map.mp hd
        have h1 := o.depth b.2
        have h2 := hr.un
        show X.A.units + 1 + 1 + _ < _
        omega)) hsz (by rw [hil]; exact hbz) fun h' tk c kp hat => ⟨rfl, ?_⟩
    have ko : KeyedOut false (bs.map fun b => enc b.2) its (sortVals (dataKind s'.heap (bs.map fun b => enc b.2)) false kA.toList its) := ⟨s'.heap, kA.toList, hal, rfl, ek⟩
    have hout := PySem.W.keyedOut_each (fun b : V × γ => enc b.2) ko e0
    have keepB : ∀ b u, b ≠ L → b ≠ kS → s'.heap.get? b = some u → h'.get? b = some u := by
      intro b u h1 h2 e
      exact kp b u h1 (PySem.W.hideAll_get [kS] e (by simpa using h2))
    have nT : ∀ b u, H' b = some u → b ≠ L ∧ b ≠ kS := by
      intro b u e
      exact ⟨fun z => (by rw [z, n2] at e; cases e), fun z => (by rw [z, n1] at e; cases e)⟩
    have there : ∃ u, h'.get? kS = some u ∨ h'.get? kS = none := by
      cases z : h'.get? kS with
      | none => exact ⟨seqObj "list" #[] 0, .inr rfl⟩
      | some u => exact ⟨u, .inl rfl⟩
    have hylen : ((bs.mergeSort (dataLe false fun b => enc b.2)).map (·.1)).length ≤ sizeLine := by
      rw [List.length_map, List.length_mergeSort]; exact hbz
    refine ⟨.ref L, upd H' L (.lst ((bs.mergeSort (dataLe false fun b => enc b.2)).map (·.1))), ?_, rfl, q H' L gr n2⟩
    refine I'.step (g' := s'.gens) (t' := tk) (d' := s'.drawn) (ch := [kS, L]) (fun b hb => ?_) (fun b o h1 h2 hc e n => ?_) (fun b o h1 h2 hc e n => ?_) (fun b o hc e n => ?_) (fun b o hc e => ?_) (fun b xs e => ?_) (fun b o u e => ?_) (fun b qs e => ?_) (fun m hm => ?_) (fun b u e => ?_) I'.bare
    · rcases List.mem_cons.mp hb with z | hb
      · rw [z]; exact ⟨fk.2.2.2.1, fk.2.1, fk.2.2.2.2.1, fk.2.2.2.2.2⟩
      · have z : b = L := by simpa using hb
        rw [z]; exact ⟨fL.2.2.2.1, fL.2.1, fL.2.2.2.2.1, fL.2.2.2.2.2⟩
    · exact keepB b o (fun z => hc (by rw [z]; simp)) (fun z => hc (by rw [z]; simp)) e
    · exact ⟨o.slots, keepB b o (fun z => hc (by rw [z]; simp)) (fun z => hc (by rw [z]; simp)) e⟩
    · rw [upd_ne (fun z => hc (by rw [z]; simp))]; exact n
    · exact ⟨o, keepB b o (fun z => hc (by rw [z]; simp)) (fun z => hc (by rw [z]; simp)) e⟩
    · rw [upd_ne (nT b _ e).1]; exact e
    · rw [upd_ne (nT b _ e).1]; exact e
    · exact ⟨#[], by rw [upd_ne (nT b _ e).1, e]; simp⟩
    · obtain ⟨o', es, ep, ho, rr⟩ := hm
      exact ⟨o', es, ep, keepB _ o' (Ne.symm fL.2.1) (Ne.symm fk.2.1) ho, rr⟩
    · by_cases hbL : b = L
      · subst hbL
        rw [upd_same] at e
        cases e
        exact ⟨hylen, _, c, vals_each hout, hat⟩
      · rw [upd_ne hbL] at e
        refine (I'.hok b u e).stay (fun c' v hc' qq => ?_) (fun c' qq => by rw [upd_ne (nT c' _ qq).1]; exact qq) fun c' xs qq => by rw [upd_ne (nT c' _ qq).1]; exact qq
        rcases hc' with z | z
        · rw [z] at qq ⊢
          exact keepB b v (nT b _ e).1 (nT b _ e).2 qq
        · exact keepB c' v (nT c' _ z).1 (nT c' _ z).2 qq
end
end Skx
end
section
set_option maxHeartbeats 4000000
/-! {k: v for ..} whose keys are tuples of ints and texts. -/
namespace Dcx
open PySem PySem.Spec PyProof.Rows L2
theorem put_tup {X : Cx} {pins : List (Addr × Obj)} {σ : L2.St} {H : Hp} {s : Shared} {E : Value → Shared → Prop} {D b : Addr} {kvs : List (List Key × V)} {k : List Key} {v : V} {r : Value} {Q : Unit → Shared → Prop} (hu : X.A.units + 1 < cLine)
    (I : Inv X pins σ H s) (hD : H D = some (.dT kvs)) (hb : H b = some (.tup (k.map kV))) (hz : kvs.length < sizeLine) (rv : RelV v r) (h : ∀ s', Inv X pins σ (upd H D (.dT (putK kvs k v))) s' → Q () s') :
    wpAny (model X.prog X.w) X.A (dictSet D (.ref b) r) Q E s := by
  obtain ⟨z, hd, xs, rel, dd⟩ := dt_of I.hok hD
  have hxs : xs.length ≤ sizeLine := by
    rw [← Paired.length rel]; exact z
  have hl : (putK kvs k v).length ≤ sizeLine := by
    have := length_putK kvs k v
    omega
  refine wpAny_dictSet_heap (hsz := hxs) (show X.A.units < cLine by omega) (key_of I.hok hb) dd fun h' dd' sb => h _ ?_
  obtain ⟨q, es, ep, e1, e2, e3, e4, _, e5⟩ := dd'
  refine d_write I (by rw [hD]; exact True.intro) sb ⟨q, e1⟩ ⟨hl, hd, _, (rel.put k hb rv).keeps fun c ys ec => ?_, q, es, ep, e1, e2, e3, e4, e5⟩
  rw [upd_ne (ne_of ec hD fun z => nomatch z)]
  exact ec
section
variable {X : Cx}
/-- D: the new dict; a turn's key is a tuple at b -/
def tDt (wi : TI) (g : TG) (tt : TT) (tk tv : TE) (vs : List Nat) : TE := fun σ H Q => wi σ H fun J H1 => ∀ D, H1 D = none → ∃ W : Nat → Nat → Hp → Prop, (∃ m, W 0 m (upd H1 D (.dT []))) ∧ ∀ i m H, W i m H →
  (J.stop i H ∧ Q (.ref D) H) ∨ (J.go i H ∧ ∀ x H', J.yld i H x H' → g x (wipe σ vs) H' fun σ2 H2 => wipe σ2 vs = wipe σ vs ∧ tt σ2 H2 fun c H3 =>
    if c = true then tk σ2 H3 fun y H4 => tv σ2 H4 fun z H5 => ∃ kvs k b, y = .ref b ∧ H5 b = some (.tup (k.map kV)) ∧ H5 D = some (.dT kvs) ∧ kvs.length < sizeLine ∧ ∃ m', m' < m ∧ W (i + 1) m' (upd H5 D (.dT (putK kvs k z)))
    else ∃ m', m' < m ∧ W (i + 1) m' H3)
abbrev blkE (X : Cx) (scope : Scope) (s : Shared) : Env := compEnvC scope (cellsFrom (s.heap.objs.size + 1) scope.names (cloFrom X.env.cells scope.names [])) s.heap.objs.size X.env
theorem dt_core {pins : List (Addr × Obj)} {s : Shared} {σ : L2.St} {H : Hp} {Q : VK} {kx vx tg iter : Expr} {ifs : List Expr} {scope : Scope} {own : List (Str × Nat)} {pos pos' : Pos} {wi : TI} {g : TG} {tt : TT} {tk tv : TE} {use : Option (Value → Sem Unit)} {Qf : Value → Shared → Prop}
    (hu : X.A.units + 1 < cLine) (hc : X.calm = true) (hN : X.N.Nodup) (I : Inv X pins σ H s) (hi : PI X tg iter wi) (ok : BlkOk X.N X.env.scope scope own)
    (hg : ∀ (s : Shared) (H : Hp) (C : Addr) (cl : List (Str × Addr)) (fp : List Addr), PG (X.blk s H scope (compEnvC scope cl C X.env) fp) tg g)
    (ht : ∀ (s : Shared) (H : Hp) (C : Addr) (cl : List (Str × Addr)) (fp : List Addr), PTs (X.blk s H scope (compEnvC scope cl C X.env) fp) ifs tt)
    (hk : ∀ (s : Shared) (H : Hp) (C : Addr) (cl : List (Str × Addr)) (fp : List Addr), PE (X.blk s H scope (compEnvC scope cl C X.env) fp) kx tk)
    (he : ∀ (s : Shared) (H : Hp) (C : Addr) (cl : List (Str × Addr)) (fp : List Addr), PE (X.blk s H scope (compEnvC scope cl C X.env) fp) vx tv) (hs : ∀ x, foldedSetIterable iter X.env x = pure x)
    (h : tDt wi g tt tk tv (own.map (·.2)) σ H Q)
    (hRR : ∀ D C s' m H', Inv X pins σ H' s' → Q (.ref D) H' → s'.heap.Ns C m → FpOk X pins H' C → compPost (model X.prog X.w) X.A X.xe use Qf (.ref D) C (.ok .next) s') :
    wpAny (model X.prog X.w) X.A (comprehension (.DictComp kx vx [⟨tg, iter, ifs, 0⟩] scope pos) scope X.env pos' newDict false (eval iter X.env) use) Qf X.xe s := by
  have hfree : ∀ y ∈ scope.names, y.2 = .free → ∃ c, X.env.cells.lookup y.1 = some c := by
    intro y hy e
    rcases ok.free y hy e with z | z
    · exact I.ok.has _ (.inl z)
    · exact I.ok.has _ (.inr z)
  refine wpAny_comprehension_free (use := use) rfl hs (closure_ok hfree) ok.kind (fun y hy e => by rw [ok.uniq y hy, e]) (thn (hi.run pins s σ H _ I h) fun _ _ hx => thn hx fun itv s2 h2 => ?_)
  obtain ⟨it, fp, tn, J, H2, e, I2, T, st2, f2, q⟩ := h2
  subst e
  refine wpAny_newObj_type (newEnv_comp ?_)
  generalize hD : s2.heap.objs.size = D
  have nD : H2 D = none := I2.hok.fresh (Nat.le_of_eq hD)
  obtain ⟨W, ⟨m0, w0⟩, turn⟩ := q D nD
  generalize hs3 : ({ s2 with heap := s2.heap.push { cls := .type "dict", data := .dict #[] } } : Shared) = s3
  have h3 : s3.heap = s2.heap.push { cls := .type "dict", data := .dict #[] } := by subst hs3; rfl
  have I3 : Inv X pins σ (upd H2 D (.dT [])) s3 := by
    subst hs3 hD
    exact I2.laid (t' := s2.toks) (fun _ _ e => Heap.get?_push_of_some _ e) (Nat.le_refl _) (dt_empty s2.heap I2.big)
  have f3 : ∀ b ∈ fp, FpOk X pins (upd H2 D (.dT [])) b ∧ b < s3.heap.objs.size := by
    intro b hb
    obtain ⟨o, e, _⟩ := T.obj _ _ st2 b hb
    have lt := Heap.lt_size e
    refine ⟨⟨?_, (f2 b hb).2⟩, ?_⟩
    · rw [upd_ne (by subst hD; exact Nat.ne_of_lt lt)]
      exact (f2 b hb).1
    · rw [h3, Heap.size_push]
      exact Nat.lt_succ_of_lt lt
  have st3 : tn 0 s3.heap := T.keep _ _ _ st2 fun b _ o e => by
    rw [h3]; exact Heap.get?_push_of_some _ e
  have I4 := block_start I3 ok hN f3
  show codeAny _ _ (.compStart (.DictComp kx vx [⟨tg, iter, ifs, 0⟩] scope pos) 0 (.ref it) (.ref D) (blkE X scope s3)) (compPost (model X.prog X.w) X.A X.xe use Qf (.ref D) s3.heap.objs.size) { s3 with heap := pushCells (s3.heap.push { cls := .type "dict", data := .dict #[] }) scope.names }
  generalize hce : blkE X scope s3 = ce
  rw [show compEnvC scope (cellsFrom (s3.heap.objs.size + 1) scope.names (cloFrom X.env.cells scope.names [])) s3.heap.objs.size X.env = ce from hce] at I4
  have pg := hg s3 (upd H2 D (.dT [])) s3.heap.objs.size (cellsFrom (s3.heap.objs.size + 1) scope.names (cloFrom X.env.cells scope.names [])) fp
  have pt := ht s3 (upd H2 D (.dT [])) s3.heap.objs.size (cellsFrom (s3.heap.objs.size + 1) scope.names (cloFrom X.env.cells scope.names [])) fp
  have pk := hk s3 (upd H2 D (.dT [])) s3.heap.objs.size (cellsFrom (s3.heap.objs.size + 1) scope.names (cloFrom X.env.cells scope.names [])) fp
  have pe := he s3 (upd H2 D (.dT [])) s3.heap.objs.size (cellsFrom (s3.heap.objs.size + 1) scope.names (cloFrom X.env.cells scope.names [])) fp
  rw [show compEnvC scope (cellsFrom (s3.heap.objs.size + 1) scope.names (cloFrom X.env.cells scope.names [])) s3.heap.objs.size X.env = ce from hce] at pg pt pk pe
  have cL : ce.locals = s3.heap.objs.size := by subst hce; rfl
  have n3 : ∀ b ∈ fp, (upd H2 D (.dT [])) b = none := fun b hb => (f3 b hb).1.1
  generalize hH3 : upd H2 D (.dT []) = H3 at I3 I4 pg pt pk pe w0 n3 f3
  generalize hs4 : ({ s3 with heap := pushCells (s3.heap.push { cls := .type "dict", data := .dict #[] }) scope.names } : Shared) = s4 at I4 ⊢
  have st4 : tn 0 s4.heap := T.keep _ _ _ st3 fun b _ o e => by
    subst hs4
    exact pushCells_keeps _ _ _ _ (Heap.get?_push_of_some _ e)
  have stat : ∀ {σ' : L2.St} {H' : Hp} {s' : Shared}, Inv (X.blk s3 H3 scope ce fp) [] σ' H' s' → (∀ b ∈ fp, H' b = none) → ∀ b ∈ fp, FpOk (X.blk s3 H3 scope ce fp) [] H' b := by
    intro σ' H' s' I' hn b hb
    refine ⟨hn b hb, (I'.ok.exf b hb).1, I'.ok.exfs b hb, .inl hb, fun x c e => (I'.ok.exf b hb).2 x c e, fun p hp => ?_⟩
    have hp : p ∈ ([] : List (Addr × Obj)) ++ [] := hp
    simp at hp
  have loop : codeAny (model X.prog X.w) X.A (.compLoop (.DictComp kx vx [⟨tg, iter, ifs, 0⟩] scope pos) 0 (.ref it) (.ref D) ce) (compPost (model X.prog X.w) X.A X.xe use Qf (.ref D) s3.heap.objs.size) s4 := ?loop
  exact codeAny_compStart_dict loop (T.self X.A 0 _ _ _ st4 loop)
  refine compLoop_anyD (fun n s' => ∃ i H', Inv (X.blk s3 H3 scope ce fp) [] (wipe σ (own.map (·.2))) H' s' ∧ tn i s'.heap ∧ (∀ b ∈ fp, H' b = none) ∧ W i n H') ?_ m0 ⟨0, H3, I4, st4, n3, w0⟩
  rintro n s5 ⟨i, H5, I5, st5, n5, w5⟩
  rcases turn i n H5 w5 with ⟨stop, qq⟩ | ⟨go, step⟩
  · refine thnF (T.done (X.blk s3 H3 scope ce fp) rfl rfl rfl hc i [] s5 _ H5 (fun _ _ => False) I5 (stat I5 n5) st5 stop) fun r s6 ⟨hr, I6⟩ => ?_
    subst hr
    have I7 : Inv X pins σ H5 s6 := I3.call' (ch := fp) I6.os I6.base I6.hok I6.bare fun b hb => by
      obtain ⟨z0, z1, z2, z3, z4, z5⟩ := (f3 b hb).1
      exact ⟨z3, z1, z4, z5⟩
    have nC : H5 s3.heap.objs.size = none := by
      have z : H5 ce.locals = none := I6.free
      rw [cL] at z; exact z
    obtain ⟨m, hn, _⟩ := I6.loc
    have hn : s6.heap.Ns ce.locals m := hn
    rw [cL] at hn
    exact hRR D s3.heap.objs.size s6 m H5 I7 qq hn (I3.fpOk (Nat.le_refl _) nC)
  · refine thnF (T.item (X.blk s3 H3 scope ce fp) rfl rfl rfl hc i [] s5 _ H5 (fun _ _ => False) I5 (stat I5 n5) st5 go) fun r s6 ⟨u, hr, h6⟩ => ?_
    subst hr
    refine thnF h6 fun _ s7 ⟨x, H7, I7, r7, y7, st7, n7⟩ => ?_
    have I7' := I7.pinned (stat I7 n7) (T.obj _ _ st7)
    refine thnF (pg.run _ s7 _ H7 x u _ I7' r7 (step x H7 y7)) fun _ s8 ⟨σ8, H8, I8, hw8, q8⟩ => ?_
    refine thnF (pt.run _ s8 σ8 H8 _ I8 q8) fun c s9 ⟨H9, I9, q9⟩ => ?_
    have fin : ∀ {s' : Shared} {H' : Hp}, Inv (X.blk s3 H3 scope ce fp) ([] ++ pinsAt fp s7.heap) σ8 H' s' → (∃ m', m' < n ∧ W (i + 1) m' H') →
        ∃ m, m < n ∧ ∃ i H', Inv (X.blk s3 H3 scope ce fp) [] (wipe σ (own.map (·.2))) H' s' ∧ tn i s'.heap ∧ (∀ b ∈ fp, H' b = none) ∧ W i m H' := by
      intro s' H' I' ⟨m', hm, w'⟩
      have pin' : ∀ b ∈ fp, ∀ o, s7.heap.get? b = some o → s'.heap.get? b = some o ∧ H' b = none := by
        intro b hb o e
        have z := I'.pin (b, o) (List.mem_append_right _ (List.mem_append_right _ (mem_pinsAt hb e)))
        exact ⟨z.1, z.2.1⟩
      have hl : (wipe σ (own.map (·.2))).length = σ8.length := by rw [← hw8, wipe_length]
      refine ⟨m', hm, i + 1, H', (I'.unpinned (pins := [])).weak hl (fun j v e => ?_), T.keep _ _ _ st7 fun b hb o e => (pin' b hb o e).1, fun b hb => ?_, w'⟩
      · rw [← hw8] at e
        exact (wipe_some e).1
      · obtain ⟨o, e, _⟩ := T.obj _ _ st7 b hb
        exact (pin' b hb o e).2
    cases c with
    | false =>
      simp only [Bool.false_eq_true, if_false] at q9 ⊢
      exact fin I9 q9
    | true =>
      simp only [if_true] at q9 ⊢
      refine thnF (pk.run _ s9 σ8 H9 _ I9 q9) fun z s10 ⟨yk, H10, I10, r10, q10⟩ => ?_
      refine thnF (pe.run _ s10 σ8 H10 _ I10 q10) fun z2 s11 ⟨yv, H11, I11, r11, kvs, k, b, ek, hb11, hD11, hz11, nx⟩ => ?_
      subst ek
      cases (show z = Value.ref b from r10)
      exact put_tup (X := X.blk s3 H3 scope ce fp) hu I11 hD11 hb11 hz11 r11 fun s12 I12 => fin I12 nx
variable {kx vx tg iter : Expr} {ifs : List Expr} {scope : Scope} {own : List (Str × Nat)} {pos spos : Pos} {wi : TI} {g : TG} {tt : TT} {tk tv : TE}
/-- name = {..}, the name a local, on one line -/
theorem ps_setDt {i : Nat} {y : Str} {py : Pos} (hu : X.A.units + 1 < cLine) (hc : X.calm = true) (hN : X.N.Nodup) (hy : X.N[i]? = some y) (hyl : X.env.scope.names.lookup y = some .local)
    (hsw : swapsWith (.DictComp kx vx [⟨tg, iter, ifs, 0⟩] scope pos) (some (.Name y py)) spos.line X.env = pure true) (hi : PI X tg iter wi) (ok : BlkOk X.N X.env.scope scope own)
    (hg : ∀ (s : Shared) (H : Hp) (C : Addr) (cl : List (Str × Addr)) (fp : List Addr), PG (X.blk s H scope (compEnvC scope cl C X.env) fp) tg g)
    (ht : ∀ (s : Shared) (H : Hp) (C : Addr) (cl : List (Str × Addr)) (fp : List Addr), PTs (X.blk s H scope (compEnvC scope cl C X.env) fp) ifs tt)
    (hk : ∀ (s : Shared) (H : Hp) (C : Addr) (cl : List (Str × Addr)) (fp : List Addr), PE (X.blk s H scope (compEnvC scope cl C X.env) fp) kx tk)
    (he : ∀ (s : Shared) (H : Hp) (C : Addr) (cl : List (Str × Addr)) (fp : List Addr), PE (X.blk s H scope (compEnvC scope cl C X.env) fp) vx tv) (hs : ∀ x, foldedSetIterable iter X.env x = pure x := by intro _; rfl) :
    PS X (.Assign [.Name y py] (.DictComp kx vx [⟨tg, iter, ifs, 0⟩] scope pos) spos) (tAsg (tDt wi g tt tk tv (own.map (·.2))) (gName i)) := by
  refine ⟨fun pins s σ H D I h => ?_⟩
  rw [exec_Assign_Name_used _ _ _ _ hsw]
  refine wpAny_bind (wpAny_standAt (wpAny_bind ?_))
  show wpAny _ X.A (do let _ ← comprehension (.DictComp kx vx [⟨tg, iter, ifs, 0⟩] scope pos) scope X.env (firstIterPos [⟨tg, iter, ifs, 0⟩] pos) newDict false (eval iter X.env) (some (assign (.Name y py) X.env))) _ _ s
  have h : tDt wi g tt tk tv (own.map (·.2)) σ H (fun x H1 => gName i x σ H1 D.nx) := h
  refine wpAny_bind (thn (dt_core (Qf := fun _ s' => SP X pins D .next s') hu hc hN I hi ok hg ht hk he hs h fun L C s' m H' I' q hn f => ?_) fun _ s' hq => wpAny_pure (wpAny_pure hq))
  show wpAny _ _ (assign (.Name y py) X.env (.ref L)) _ _ _
  refine wpAny_assign_Name (store_ok2 (v := V.ref L) I' hN hy (.inl hyl) rfl (fun s2 I2 ⟨a, sb, ha⟩ => ?_) (.inr hyl))
  obtain ⟨f0, f1, f2, f3, f4, f5⟩ := f
  have haC : C ≠ a := by
    rcases ha with z | z
    · rw [z]; exact f1
    · exact fun e => f4 y a z e.symm
  refine ⟨m, hn.sameBut sb haC, fun h3 sb3 => ?_⟩
  exact ⟨_, H', I2.turned (t' := s2.toks) (fun b o hb e => (sb3.2 b hb).trans e) f0 f1 f3 f4 f5, q⟩
theorem swd_true {l : Nat} {y : Str} {py : Pos} {env : Env} (hk : env.scope.kind = .function) (hy : env.scope.names.lookup y = some .local) (hl : (py.line == pos.line) = true)
    (ha : (scope.names.any fun (n, k) => n == y && (k == .local || k == .cell)) = false) {gs : List Comprehension} : swapsWith (.DictComp kx vx gs scope pos) (some (.Name y py)) l env = pure true := by
  have ky : env.kindOf y = some .local := hy
  have hb : env.blockKind = .function := by
    unfold Env.blockKind
    rw [hk]; rfl
  unfold swapsWith
  simp only [hb, ky, ha, Expr.pos, hl]
  rfl
end
end Dcx
end
section
set_option maxHeartbeats 8000000
namespace K1
open PySem PySem.Spec PyProof.Rows L2 Gr GxR
abbrev FnP (K : PySem.W.Frag) (x : Str) (st : Stmt) (f : Addr) (fd : FuncData) : Prop := FunD K x x (defArgs st) (defBody st) (defScope st) [] [] f fd
/-- the def's code object is known: it is the one its table hangs on -/
theorem okC {P : Program} {w : World} {K : PySem.W.Frag} {mg : Str → Option Value} {base : Heap} {x qual : Str} {params : Arguments} {body : List Stmt} {scope : Scope} {dvs : List V} {kws : List (Str × V)} {fd : FuncData} {p : He.Defn} {CX : CXT} {N ps : List Str} {k : Nat} {sp : Sp}
    (F : FunD K x qual params body scope dvs kws (He.fAd K p) fd) (S : FnScope N ps scope) (len : ∀ vs H Q E, sp vs H Q E → vs.length = ps.length)
    (hbody : ∀ (A : Around) (outer : List Env) (s : Shared) (H : Hp) (vs : List V) (Q : VK) (E : XK), Room k (A.deeper (envOfC qual scope s.heap.objs.size (He.fAd K p) (.ref (He.cT K p).1))) → sp vs H Q E →
      ∃ t, PSs (cxOf CX P w K mg base N qual scope (He.fAd K p) (.ref (He.cT K p).1) A outer s H E) body t ∧ t { nx := fun _ H' => Q .non H', rt := Q } (start N vs) H) : FnOk P w K mg base CX (k + 1) (He.fAd K p) fd ps sp := by
  obtain ⟨oc, od, dV, kV, doc, pm, an, cdv, ct, osl, rfl, lk, hcd, _, _⟩ := F.ex
  obtain ⟨c, rfl⟩ := He.codeIn_ref hcd
  have e : (He.cT K p).1 = c := He.codeOf_eq lk rfl
  rw [e] at hbody
  exact fn_of lk hcd S len fun A outer s H vs Q E hr hsp => hbody A outer s H vs Q E hr hsp
theorem inV_str (x : Str) (xs : List Str) : inV (.str x) (xs.map V.str) = xs.contains x := by
  unfold inV
  induction xs with
  | nil => rfl
  | cons y r ih =>
    rw [List.map_cons, List.any_cons, List.contains_cons, ih]
    show ((y == x) || _) = _
    rw [BEq.comm]
theorem flat_str (xs : List Str) : (xs.map V.str).all flatV = true := by
  rw [List.all_eq_true]
  intro v hv
  obtain ⟨x, _, rfl⟩ := List.mem_map.mp hv
  rfl
theorem get_map {α β : Type} {f : α → β} {xs : List α} {i : Nat} {v : β} (h : (xs.map f)[i]? = some v) : ∃ x, xs[i]? = some x ∧ v = f x := by
  rw [List.getElem?_map] at h
  cases e : xs[i]? with
  | none => rw [e] at h; cases h
  | some x =>
    rw [e] at h
    exact ⟨x, rfl, (Option.some.inj h).symm⟩
end K1
namespace K1
open PySem PySem.Spec PyProof.Rows L2 Gr GxR
section
variable {P : Program} {w : World} {K : PySem.W.Frag} {mg : Str → Option Value} {base : Heap} {f : Addr} {fd : FuncData}
def spDraw (K : PySem.W.Frag) : Sp := fun vs H Q _ => ∃ (a : Addr) (ns : List Int) (k : Nat), vs = [.ref a, .int (k : Int)] ∧ SqL K H a (ns.map V.int) ∧ Q (.int (ns.getD k 0)) H
def spLMeets (K : PySem.W.Frag) : Sp := fun vs H Q _ => ∃ (a b : Addr) (xs ys : List Str), vs = [.ref a, .ref b] ∧ SqL K H a (xs.map V.str) ∧ SqL K H b (ys.map V.str) ∧ Q (.bl (xs.any ys.contains)) H
theorem any_at {p : Str → Bool} {xs : List Str} {i : Nat} {x : Str} (h : xs[i]? = some x) : (xs.take (i + 1)).any p = ((xs.take i).any p || p x) := by
  rw [List.take_add_one, h, List.any_append]
  simp
theorem all_at {p : Str → Bool} {xs : List Str} {i : Nat} {x : Str} (h : xs[i]? = some x) : (xs.take (i + 1)).all p = ((xs.take i).all p && p x) := by
  rw [List.take_add_one, h, List.all_append]
  simp
def spLWithin (K : PySem.W.Frag) : Sp := fun vs H Q _ => ∃ (a b : Addr) (xs ys : List Str), vs = [.ref a, .ref b] ∧ SqL K H a (xs.map V.str) ∧ SqL K H b (ys.map V.str) ∧ Q (.bl (xs.all ys.contains)) H
def spTruth : Sp := fun vs H Q _ => ∃ (a b : Bool), vs = [.bl a, .bl b] ∧ Q (.bl (a == b)) H
def rk (xs : List Str) : PyData := .tuple [.int xs.length, .list (xs.map PyData.str)]
def spRank (K : PySem.W.Frag) : Sp := fun vs H Q _ => ∃ (a : Addr) (xs : List Str), vs = [.ref a] ∧ SqL K H a (xs.map V.str) ∧ ∀ v H', Gr H H' → Dp K H' v (rk xs) → Q v H'
theorem dp_strs {K : PySem.W.Frag} {H : Hp} (xs : List Str) : DpAll K H (xs.map V.str) (xs.map PyData.str) := by
  induction xs with
  | nil => exact .nil
  | cons x r ih => exact .cons (.str x) ih
end
end K1
namespace Gx
open PySem PySem.Spec PyProof.Rows L2 GxR
theorem gx_list {K : PySem.W.Frag} {a : Addr} {xs : List V} {P : Addr} {stp : Bool} {g : TG} {tt : TT} {te : TE} {vs : List Nat} {σ : L2.St} {H1 : Hp} {Qs Qn : Hp → Prop} (hT : TabG H1 P) (Pv : Nat → Hp → Prop) (h0 : ∀ H2, Tabbed P H1 H2 → Pv 0 H2) (hl : ∀ i H, i ≤ xs.length → Pv i H → SqL K H a xs)
    (hs : ∀ i x H (Nx : Hp → Prop), (∀ H', Pv (i + 1) H' → Nx H') → xs[i]? = some x → Pv i H → g x (wipe σ vs) H fun σ2 H3 => wipe σ2 vs = wipe σ vs ∧ tt σ2 H3 fun c H4 =>
      if c = true then te σ2 H4 fun y H5 => ∃ b, y = .bl b ∧ (b = stp → Qs H5) ∧ (b ≠ stp → Nx H5) else Nx H4) (hd : ∀ H, Pv xs.length H → Qn H) :
    TabG H1 P ∧ ∀ H2, Tabbed P H1 H2 → ∃ W : Nat → Nat → Hp → Prop, (∃ m, W 0 m H2) ∧ ∀ i m H, W i m H →
      ((Itl K a).stop i H ∧ Qn H) ∨ ((Itl K a).go i H ∧ ∀ x H', (Itl K a).yld i H x H' → g x (wipe σ vs) H' fun σ2 H3 => wipe σ2 vs = wipe σ vs ∧ tt σ2 H3 fun c H4 =>
        if c = true then te σ2 H4 fun y H5 => ∃ b, y = .bl b ∧ (b = stp → Qs H5) ∧ (b ≠ stp → ∃ m', m' < m ∧ W (i + 1) m' H5) else ∃ m', m' < m ∧ W (i + 1) m' H4) := by
  refine ⟨hT, fun H2 t2 => ⟨fun i m H => m = xs.length - i ∧ i ≤ xs.length ∧ Pv i H, ⟨xs.length, by simp, Nat.zero_le _, h0 H2 t2⟩, ?_⟩⟩
  rintro i m H ⟨rfl, hi, p⟩
  have q := hl i H hi p
  by_cases hlt : i < xs.length
  · refine .inr ⟨⟨xs, xs[i], q, by simp [hlt]⟩, fun x H' y => ?_⟩
    obtain ⟨e, y⟩ := y
    subst e
    exact hs i x _ _ (fun H6 p6 => ⟨xs.length - (i + 1), by omega, rfl, hlt, p6⟩) (y xs q) p
  · have e : i = xs.length := by omega
    subst e
    exact .inl ⟨⟨xs, q, Nat.le_refl _⟩, hd H p⟩
end Gx
namespace K1
open PySem PySem.Spec PyProof.Rows L2 Gr GxR Srx
theorem yesIf {A B : Hp → Prop} {σ : L2.St} {H : Hp} (h : A H) : tYes σ H fun c H4 => if c = true then A H4 else B H4 := h
theorem hu64 {k : Nat} {A : Around} (hr : Room k A) : A.units + 64 < cLine := by
  have := hr.un
  omega
section
variable {P : Program} {w : World} {K : PySem.W.Frag} {mg : Str → Option Value} {base : Heap} {f : Addr} {fd : FuncData} {p : He.Defn}
abbrev Tb (K : PySem.W.Frag) (base : Heap) (mg : Str → Option Value) (p : He.Defn) : Prop := TabB base mg (He.cT K p).1 (He.cT K p).2
def spWithin (K : PySem.W.Frag) (T : Addr) : Sp := fun vs H Q _ => ∃ (a b : Addr) (xs ys : List Str), vs = [.ref a, .ref b] ∧ SqL K H a (xs.map V.str) ∧ SqL K H b (ys.map V.str) ∧ TabG H T ∧ ∀ H', Gr H H' → Q (.bl (xs.all ys.contains)) H'
def gexp : Stmt → Scope
  | .FunctionDef (body := [.Return (some (.Call _ [.GeneratorExp _ _ s _] _ _)) _]) .. => s
  | _ => ⟨.function, [], false, false, []⟩
def spMeets (K : PySem.W.Frag) (T : Addr) : Sp := fun vs H Q _ => ∃ (a b : Addr) (xs ys : List Str), vs = [.ref a, .ref b] ∧ SqL K H a (xs.map V.str) ∧ SqL K H b (ys.map V.str) ∧ TabG H T ∧ ∀ H', Gr H H' → Q (.bl (xs.any ys.contains)) H'
/-- a list's names in order, each once -/
def once (xs : List Str) : List Str := srt (Sx.dd xs)
def spOnce (K : PySem.W.Frag) : Sp := fun vs H Q _ => ∃ (a : Addr) (xs : List Str), vs = [.ref a] ∧ SqL K H a (xs.map V.str) ∧ xs.length ≤ 1000 ∧ ∀ p H', Gr H H' → H p = none → H' p = some (.lst ((once xs).map V.str)) → Q (.ref p) H'
end
end K1
namespace Gx
open PySem PySem.Spec PyProof.Rows L2 GxR
theorem gx_text {x : Str} {P : Addr} {stp : Bool} {g : TG} {tt : TT} {te : TE} {vs : List Nat} {σ : L2.St} {H1 : Hp} {Qs Qn : Hp → Prop} (hT : TabG H1 P) (Pv : Nat → Hp → Prop) (h0 : ∀ H2, Tabbed P H1 H2 → Pv 0 H2)
    (hs : ∀ i c H (Nx : Hp → Prop), (∀ H', Pv (i + 1) H' → Nx H') → x.cps.toList[i]? = some c → Pv i H → g (.str ⟨#[c]⟩) (wipe σ vs) H fun σ2 H3 => wipe σ2 vs = wipe σ vs ∧ tt σ2 H3 fun c H4 =>
      if c = true then te σ2 H4 fun y H5 => ∃ b, y = .bl b ∧ (b = stp → Qs H5) ∧ (b ≠ stp → Nx H5) else Nx H4) (hd : ∀ H, Pv x.cps.toList.length H → Qn H) :
    TabG H1 P ∧ ∀ H2, Tabbed P H1 H2 → ∃ W : Nat → Nat → Hp → Prop, (∃ m, W 0 m H2) ∧ ∀ i m H, W i m H →
      ((Its x).stop i H ∧ Qn H) ∨ ((Its x).go i H ∧ ∀ v H', (Its x).yld i H v H' → g v (wipe σ vs) H' fun σ2 H3 => wipe σ2 vs = wipe σ vs ∧ tt σ2 H3 fun c H4 =>
        if c = true then te σ2 H4 fun y H5 => ∃ b, y = .bl b ∧ (b = stp → Qs H5) ∧ (b ≠ stp → ∃ m', m' < m ∧ W (i + 1) m' H5) else ∃ m', m' < m ∧ W (i + 1) m' H4) := by
  refine ⟨hT, fun H2 t2 => ⟨fun i m H => m = x.cps.size - i ∧ i ≤ x.cps.size ∧ Pv i H, ⟨x.cps.size, by simp, Nat.zero_le _, h0 H2 t2⟩, ?_⟩⟩
  rintro i m H ⟨rfl, hi, p⟩
  by_cases hlt : i < x.cps.size
  · refine .inr ⟨hlt, fun v H' y => ?_⟩
    obtain ⟨e, c, hc, rfl⟩ := y
    subst e
    exact hs i c _ _ (fun H6 p6 => ⟨x.cps.size - (i + 1), by omega, rfl, hlt, p6⟩) (by rw [Array.getElem?_toList]; exact hc) p
  · have e : i = x.cps.size := by omega
    subst e
    exact .inl ⟨Nat.le_refl _, hd H (by rw [Array.length_toList]; exact p)⟩
end Gx
namespace K1
open PySem PySem.Spec PyProof.Rows L2 Gr GxR Srx
def small (c : Nat) : Bool := decide (97 ≤ c) && decide (c ≤ 122)
/-- a text of 1 to 8 small letters -/
def isNm (x : Str) : Bool := decide (1 ≤ x.length) && (decide (x.length ≤ 8) && x.cps.toList.all small)
def nmV : V → Bool
  | .str x => isNm x
  | _ => false
def strV : V → Bool
  | .str _ => true
  | _ => false
/-- a thing whose kind is_name can ask -/
def Thing (K : PySem.W.Frag) (H : Hp) (v : V) : Prop := ∃ t : String, TyX K H v (.type t) ∧ kitB t "str" = some (strV v) ∧ (∀ x, v = .str x → x.length ≤ sizeLine)
theorem lt_one (c d : Nat) : (([c] : List Nat) < [d]) ↔ c < d := by
  rw [List.cons_lt_cons_iff]
  constructor
  · rintro (h | ⟨_, h⟩)
    · exact h
    · exact absurd h (List.not_lt_nil _)
  · exact .inl
section
variable {P : Program} {w : World} {K : PySem.W.Frag} {mg : Str → Option Value} {base : Heap} {f : Addr} {fd : FuncData} {p : He.Defn}
def spIsName (K : PySem.W.Frag) (T : Addr) : Sp := fun vs H Q _ => ∃ v, vs = [v] ∧ Thing K H v ∧ TabG H T ∧ ∀ H', Gr H H' → Q (.bl (nmV v)) H'
def gexp2 : Stmt → Scope
  | .FunctionDef (body := [_, .Return (some (.Call _ [.GeneratorExp _ _ s _] _ _)) _]) .. => s
  | _ => ⟨.function, [], false, false, []⟩
end
end K1
namespace K1
open PySem PySem.Spec PyProof.Rows L2 Gr GxR Srx
open PySem.W (dataLe dataLt DatumOrd Datum)
def leR (a b : List Str) : Bool := dataLe false rk a b
theorem leR_eq (a b : List Str) : leR a b = !dataLt (rk b) (rk a) := rfl
theorem toD_eq (xs : List Str) : (Datum.toD ((xs.length : Int), xs) : PyData) = rk xs := rfl
theorem str_anti {a b : Str} (h1 : decide (a.cps.toList < b.cps.toList) = false) (h2 : decide (b.cps.toList < a.cps.toList) = false) : a = b := by
  have h1 := of_decide_eq_false h1
  have h2 := of_decide_eq_false h2
  exact PySem.W.str_of_cps (List.le_antisymm h2 h1)
theorem listLt_anti : ∀ (xs ys : List Str), PySem.W.listLt xs ys = false → PySem.W.listLt ys xs = false → xs = ys
  | [], [], _, _ => rfl
  | [], y :: ys, h, _ => by cases (show true = false from h)
  | x :: xs, [], _, h => by cases (show true = false from h)
  | x :: xs, y :: ys, h1, h2 => by
    unfold PySem.W.listLt at h1 h2
    by_cases e : x = y
    · rw [if_pos e] at h1
      rw [if_pos e.symm] at h2
      rw [e, listLt_anti xs ys h1 h2]
    · rw [if_neg e] at h1
      rw [if_neg (fun z => e z.symm)] at h2
      exact absurd (str_anti h1 h2) e
theorem leR_anti {a b : List Str} (h1 : leR a b = true) (h2 : leR b a = true) : a = b := by
  rw [leR_eq, Bool.not_eq_true'] at h1 h2
  rw [← toD_eq, ← toD_eq, DatumOrd.lt_eq] at h1 h2
  have h1 : (if (b.length : Int) = a.length then PySem.W.listLt b a else decide ((b.length : Int) < a.length)) = false := h1
  have h2 : (if (a.length : Int) = b.length then PySem.W.listLt a b else decide ((a.length : Int) < b.length)) = false := h2
  by_cases e : (a.length : Int) = b.length
  · rw [if_pos e.symm] at h1
    rw [if_pos e] at h2
    exact listLt_anti a b h2 h1
  · rw [if_neg (fun z => e z.symm)] at h1
    rw [if_neg e] at h2
    have := of_decide_eq_false h1
    have := of_decide_eq_false h2
    omega
theorem leR_trans {a b c : List Str} (h1 : leR a b = true) (h2 : leR b c = true) : leR a c = true := by
  rw [leR_eq, Bool.not_eq_true'] at *
  by_cases z : dataLt (rk c) (rk a) = true
  · rcases PyProof.Rows.lex_negTrans _ (PySem.W.keyToks (rk b)) _ z with y | y
    · rw [show dataLt (rk c) (rk b) = true from y] at h2
      cases h2
    · rw [show dataLt (rk b) (rk a) = true from y] at h1
      cases h1
  · simpa using z
theorem leR_total (a b : List Str) : (leR a b || leR b a) = true := by
  rw [leR_eq, leR_eq]
  cases h : dataLt (rk b) (rk a) with
  | false => rfl
  | true =>
    cases h2 : dataLt (rk a) (rk b) with
    | false => rfl
    | true =>
      have := PyProof.Rows.lex_trans _ _ _ (show PyProof.Rows.lexLt _ _ _ = true from h) (show PyProof.Rows.lexLt _ _ _ = true from h2)
      have e := PySem.W.dataLt_self (rk b)
      rw [show dataLt (rk b) (rk b) = true from this] at e
      cases e
def rkd (xss : List (List Str)) : List (List Str) := xss.mergeSort leR
theorem rkd_perm (xss : List (List Str)) : (rkd xss).Perm xss := List.mergeSort_perm _ _
theorem rkd_sorted (xss : List (List Str)) : (rkd xss).Pairwise (fun a b => leR a b = true) := List.pairwise_mergeSort (le := leR) (fun _ _ _ h1 h2 => leR_trans h1 h2) leR_total xss
theorem rkd_one {xs ys : List (List Str)} (p : xs.Perm ys) (h1 : xs.Pairwise (fun a b => leR a b = true)) (h2 : ys.Pairwise (fun a b => leR a b = true)) : xs = ys :=
  List.Perm.eq_of_pairwise (fun a b _ _ z1 z2 => leR_anti z1 z2) h1 h2 p
section
variable {α : Type} [DecidableEq α]
def once1 (acc : List α) (x : α) : List α := if x ∈ acc then acc else acc ++ [x]
def ddG (xs : List α) : List α := xs.foldl once1 []
theorem ddG_snoc (xs : List α) (x : α) : ddG (xs ++ [x]) = once1 (ddG xs) x := by
  unfold ddG
  rw [List.foldl_append]
  rfl
theorem once1_mem {acc : List α} {x y : α} : y ∈ once1 acc x ↔ y ∈ acc ∨ y = x := by
  unfold once1
  split
  · rename_i h
    exact ⟨.inl, fun z => z.elim id fun e => e ▸ h⟩
  · simp
theorem once1_nodup {acc : List α} {x : α} (h : acc.Nodup) : (once1 acc x).Nodup := by
  unfold once1
  split
  · exact h
  · rename_i hx
    refine List.nodup_append.mpr ⟨h, by simp, fun a ha b hb e => ?_⟩
    have hb : b = x := by simpa using hb
    rw [e, hb] at ha
    exact hx ha
theorem fold1_mem : ∀ (xs acc : List α) (y : α), y ∈ xs.foldl once1 acc ↔ y ∈ acc ∨ y ∈ xs
  | [], acc, y => by simp
  | x :: xs, acc, y => by
    rw [List.foldl_cons, fold1_mem xs, once1_mem, List.mem_cons, or_assoc]
theorem fold1_nodup : ∀ (xs acc : List α), acc.Nodup → (xs.foldl once1 acc).Nodup
  | [], _, h => h
  | _ :: xs, _, h => fold1_nodup xs _ (once1_nodup h)
theorem fold1_sub : ∀ (xs acc : List α), List.Sublist (xs.foldl once1 acc) (acc ++ xs)
  | [], acc => by rw [List.append_nil]; exact List.Sublist.refl _
  | x :: xs, acc => by
    rw [List.foldl_cons]
    refine (fold1_sub xs _).trans ?_
    unfold once1
    split
    · exact List.Sublist.append (List.Sublist.refl _) (List.sublist_cons_self _ _)
    · rw [List.append_assoc]
      exact List.Sublist.refl _
theorem ddG_mem {xs : List α} {y : α} : y ∈ ddG xs ↔ y ∈ xs := by
  unfold ddG
  rw [fold1_mem]
  simp
theorem ddG_nodup (xs : List α) : (ddG xs).Nodup := fold1_nodup xs [] List.nodup_nil
theorem ddG_sub (xs : List α) : List.Sublist (ddG xs) xs := fold1_sub xs []
theorem ddG_len (xs : List α) : (ddG xs).length ≤ xs.length := (ddG_sub xs).length_le
end
theorem rkd_dd (xss : List (List Str)) : rkd (ddG xss) = ddG (rkd xss) := by
  refine rkd_one ((rkd_perm _).trans ?_) (rkd_sorted _) ((rkd_sorted xss).sublist (ddG_sub _))
  refine (List.perm_ext_iff_of_nodup (ddG_nodup _) (ddG_nodup _)).mpr fun q => ?_
  rw [ddG_mem, ddG_mem, (rkd_perm xss).mem_iff]
def wi (a b : List Str) : Bool := a.all b.contains
def keep (acc : List (List Str)) (x : List Str) : List (List Str) := if acc.any (fun l => wi l x) = true then acc else acc ++ [x]
theorem wi_self (x : List Str) : wi x x = true := List.all_eq_true.mpr fun y hy => List.contains_iff_mem.mpr hy
theorem keep_any {acc : List (List Str)} {x y : List Str} (h : acc.any (fun l => wi l y) = true) : (keep acc x).any (fun l => wi l y) = true := by
  unfold keep
  split
  · exact h
  · rw [List.any_append, h]
    rfl
theorem keep_self (acc : List (List Str)) (x : List Str) : (keep acc x).any (fun l => wi l x) = true := by
  unfold keep
  split
  · assumption
  · rw [List.any_append]
    simp [wi_self]
theorem fold_any : ∀ (l acc : List (List Str)) (y : List Str), (acc.any (fun l => wi l y) = true ∨ y ∈ l) → (l.foldl keep acc).any (fun l => wi l y) = true
  | [], acc, y, h => h.elim id fun z => nomatch z
  | x :: l, acc, y, h => by
    refine fold_any l _ y ?_
    rcases h with h | h
    · exact .inl (keep_any h)
    · rcases List.mem_cons.mp h with e | h
      · rw [e]
        exact .inl (keep_self acc x)
      · exact .inr h
theorem snoc_ind {α : Type} {p : List α → Prop} (h0 : p []) (h1 : ∀ xs x, p xs → p (xs ++ [x])) : ∀ xs, p xs := by
  intro xs
  rw [← List.reverse_reverse xs]
  induction xs.reverse with
  | nil => exact h0
  | cons x r ih =>
    rw [List.reverse_cons]
    exact h1 _ _ ih
theorem keep_dd (l : List (List Str)) : (ddG l).foldl keep [] = l.foldl keep [] := by
  refine snoc_ind (p := fun l => (ddG l).foldl keep [] = l.foldl keep []) rfl (fun xs x ih => ?_) l
  rw [ddG_snoc, List.foldl_append]
  show _ = keep (xs.foldl keep []) x
  unfold once1
  split
  · rename_i h
    rw [ih]
    have z := fold_any xs [] x (.inr (ddG_mem.mp h))
    exact (if_pos z).symm
  · rw [List.foldl_append, ih]
    rfl
/-- least_of's sets, told -/
def least (xss : List (List Str)) : List (List Str) := (rkd (ddG xss)).foldl keep []
theorem least_eq (xss : List (List Str)) : least xss = (rkd xss).foldl keep [] := by
  unfold least
  rw [rkd_dd, keep_dd]
end K1
namespace K1
open PySem PySem.Spec PyProof.Rows L2 Gr GxR Srx Skx
open PySem.W (dataLe dataLt DatumOrd Datum)
/-- p: a new list of new lists: ps tells where they stand and what they are -/
structure Told (H H' : Hp) (p : Addr) (ps : List (Addr × List Str)) : Prop where
  new : H p = none
  at_ : H' p = some (.lst (ps.map fun q => V.ref q.1))
  own : ∀ q ∈ ps, H q.1 = none ∧ q.1 ≠ p ∧ H' q.1 = some (.lst (q.2.map V.str))
  nd : (ps.map (·.1)).Nodup
theorem Told.nil {H H1 : Hp} {p : Addr} (h : H p = none) : Told H (upd H1 p (.lst [])) p [] :=
  { new := h, at_ := upd_same, own := (fun q z => absurd z List.not_mem_nil), nd := List.nodup_nil }
theorem Told.snoc {H H2 : Hp} {D l : Addr} {ps : List (Addr × List Str)} {x : List Str} (T : Told H H2 D ps) (g : Gr H H2) (hl : H2 l = none) : Told H (upd (upd H2 l (.lst (x.map V.str))) D (.lst ((ps.map fun q => V.ref q.1) ++ [V.ref l]))) D (ps ++ [(l, x)]) := by
  have nD : D ≠ l := ne_of_none T.at_ hl
  refine ⟨T.new, ?_, fun q hq => ?_, ?_⟩
  · rw [upd_same, List.map_append]
    rfl
  · rcases List.mem_append.mp hq with hq | hq
    · obtain ⟨h1, h2, h3⟩ := T.own q hq
      refine ⟨h1, h2, ?_⟩
      rw [upd_ne h2, upd_ne (ne_of_none h3 hl)]
      exact h3
    · have e : q = (l, x) := by simpa using hq
      subst e
      refine ⟨g.free hl, nD.symm, ?_⟩
      rw [upd_ne nD.symm, upd_same]
  · rw [List.map_append]
    refine List.nodup_append.mpr ⟨T.nd, by simp, fun a ha b hb e => ?_⟩
    have hb : b = l := by simpa using hb
    obtain ⟨q, hq, rfl⟩ := List.mem_map.mp ha
    have h3 := (T.own q hq).2.2
    rw [e, hb, hl] at h3
    cases h3
theorem Told.gr {H H' H2 : Hp} {p : Addr} {ps : List (Addr × List Str)} (T : Told H H' p ps) (g : Gr H' H2) : Told H H2 p ps :=
  ⟨T.new, g.lst T.at_, fun q hq => ⟨(T.own q hq).1, (T.own q hq).2.1, g.lst (T.own q hq).2.2⟩, T.nd⟩
theorem Told.from {H0 H H' : Hp} {p : Addr} {ps : List (Addr × List Str)} (T : Told H H' p ps) (g : Gr H0 H) : Told H0 H' p ps :=
  ⟨g.free T.new, T.at_, fun q hq => ⟨g.free (T.own q hq).1, (T.own q hq).2⟩, T.nd⟩
theorem take_map {α β : Type} {f : α → β} {xs : List α} {i : Nat} {x : α} (h : xs[i]? = some x) : (xs.take (i + 1)).map f = (xs.take i).map f ++ [f x] := by
  rw [List.take_add_one, h, List.map_append]
  rfl
theorem lc_fresh {K : PySem.W.Frag} {a D : Addr} {j : Nat} {σ : L2.St} {vs : List Nat} {te : TE} {H H1 : Hp} {Qd : Hp → Prop} {ps0 : List (Addr × List Str)} (F : List Str → List Str)
    (hA : SqL K H a (ps0.map fun q => V.ref q.1)) (few : ps0.length < sizeLine) (gr : Gr H H1) (hD : H1 D = none) (hw : ∀ v, wipe ((wipe σ vs).set j (some v)) vs = wipe σ vs)
    (he : ∀ q ∈ ps0, ∀ (H4 : Hp) (Q' : VK), Gr H H4 → (∀ l, H4 l = none → Q' (.ref l) (upd H4 l (.lst ((F q.2).map V.str)))) → te ((wipe σ vs).set j (some (.ref q.1))) H4 Q')
    (q : ∀ H2 ps, Gr H H2 → Told H H2 D ps → ps.map (·.2) = ps0.map (fun q => F q.2) → Qd H2) :
    ∃ W : Nat → Nat → Hp → Prop, (∃ m, W 0 m (upd H1 D (.lst []))) ∧ ∀ i m H, W i m H →
      ((Itl K a).stop i H ∧ Qd H) ∨ ((Itl K a).go i H ∧ ∃ Nx : Hp → Prop, (∀ H', Nx H' → ∃ m', m' < m ∧ W (i + 1) m' H') ∧ ∀ x H', (Itl K a).yld i H x H' → gName j x (wipe σ vs) H' fun σ2 H2 => wipe σ2 vs = wipe σ vs ∧ tYes σ2 H2 fun b H3 =>
        if b = true then te σ2 H3 fun y H4 => ∃ acc, H4 D = some (.lst acc) ∧ acc.length < sizeLine ∧ Nx (upd H4 D (.lst (acc ++ [y]))) else Nx H3) := by
  have hD0 : H D = none := gr.free hD
  refine lc_list (xs := ps0.map fun q => V.ref q.1) (Qd := Qd) (fun i H2 => Gr H H2 ∧ ∃ ps, Told H H2 D ps ∧ ps.map (·.2) = (ps0.take i).map (fun q => F q.2)) ⟨gr.mut hD0, [], Told.nil hD0, rfl⟩ (fun i H2 _ h => h.1.seq hA) (fun i x H2 hx h => ?_) (fun H2 h => ?_)
  · obtain ⟨g2, ps, T, e⟩ := h
    obtain ⟨q0, hq0, rfl⟩ := get_map hx
    refine ⟨hw _, yesIf (he q0 (List.mem_of_getElem? hq0) H2 _ g2 fun l hl => ⟨_, ?_, ?_, g2.trans (Gr.new hl) |>.mut hD0, ps ++ [(l, F q0.2)], T.snoc g2 hl, ?_⟩)⟩
    · rw [upd_ne (ne_of_none T.at_ hl)]
      exact T.at_
    · rw [List.length_map]
      have h1 : ps.length = ((ps0.take i).map (fun q => F q.2)).length := by rw [← e, List.length_map]
      rw [h1, List.length_map, List.length_take]
      omega
    · rw [List.map_append, e, take_map hq0]
      rfl
  · obtain ⟨g2, ps, T, e⟩ := h
    rw [List.length_map, List.take_length] at e
    exact q H2 ps g2 T e
section
variable {P : Program} {w : World} {K : PySem.W.Frag} {mg : Str → Option Value} {base : Heap} {f fR : Addr} {fd fdR : FuncData} {p : He.Defn}
theorem ordRk : Ord rk := ⟨fun x y => by rw [← toD_eq, ← toD_eq]; exact DatumOrd.alike _ _, .inl fun x => ⟨_, _, rfl⟩, fun x => by
  rw [← toD_eq]
  exact Nat.le_trans (Datum.depth_le _) (by decide)⟩
/-- a list or tuple of texts -/
def Sq (K : PySem.W.Frag) (H : Hp) (a : Addr) (xs : List Str) : Prop := SqL K H a (xs.map V.str) ∨ SqT K H a (xs.map V.str)
theorem Sq.gr {H H' : Hp} {a : Addr} {xs : List Str} (h : Sq K H a xs) (g : Gr H H') : Sq K H' a xs := h.imp (fun z => g.seq z) fun z => g.seqT z
def rListOf (K : PySem.W.Frag) : List V → Hp → VK → Prop := fun xs H Q => ∃ p ys, xs = [V.ref p] ∧ (SqL K H p ys ∨ SqT K H p ys) ∧ ∀ l, H l = none → Q (.ref l) (upd H l (.lst ys))
def spRanked (K : PySem.W.Frag) : Sp := fun vs H Q _ => ∃ (a : Addr) (ps0 : List (Addr × List Str)), vs = [.ref a] ∧ SqL K H a (ps0.map fun q => V.ref q.1) ∧ (∀ q ∈ ps0, Sq K H q.1 q.2) ∧ ps0.length < sizeLine ∧
  ∀ p H' ps, Gr H H' → Told H H' p ps → ps.map (·.2) = rkd (ps0.map (·.2)) → Q (.ref p) H'
end
end K1
namespace Dcx
open PySem PySem.Spec PyProof.Rows L2
theorem dt_list {K : PySem.W.Frag} {a : Addr} {xs : List V} {g : TG} {tt : TT} {tk tv : TE} {vs : List Nat} {σ : L2.St} {H1 : Hp} {D : Addr} {Qd : Hp → Prop} (Pv : Nat → Hp → Prop) (h0 : Pv 0 (upd H1 D (.dT []))) (hl : ∀ i H, i ≤ xs.length → Pv i H → SqL K H a xs)
    (hs : ∀ i x H (Nx : Hp → Prop), (∀ H', Pv (i + 1) H' → Nx H') → xs[i]? = some x → Pv i H → g x (wipe σ vs) H fun σ2 H2 => wipe σ2 vs = wipe σ vs ∧ tt σ2 H2 fun c H3 =>
      if c = true then tk σ2 H3 fun y H4 => tv σ2 H4 fun z H5 => ∃ kvs k b, y = .ref b ∧ H5 b = some (.tup (k.map kV)) ∧ H5 D = some (.dT kvs) ∧ kvs.length < sizeLine ∧ Nx (upd H5 D (.dT (putK kvs k z))) else Nx H3) (hd : ∀ H, Pv xs.length H → Qd H) :
    ∃ W : Nat → Nat → Hp → Prop, (∃ m, W 0 m (upd H1 D (.dT []))) ∧ ∀ i m H, W i m H →
      ((Itl K a).stop i H ∧ Qd H) ∨ ((Itl K a).go i H ∧ ∀ x H', (Itl K a).yld i H x H' → g x (wipe σ vs) H' fun σ2 H2 => wipe σ2 vs = wipe σ vs ∧ tt σ2 H2 fun c H3 =>
        if c = true then tk σ2 H3 fun y H4 => tv σ2 H4 fun z H5 => ∃ kvs k b, y = .ref b ∧ H5 b = some (.tup (k.map kV)) ∧ H5 D = some (.dT kvs) ∧ kvs.length < sizeLine ∧ ∃ m', m' < m ∧ W (i + 1) m' (upd H5 D (.dT (putK kvs k z))) else ∃ m', m' < m ∧ W (i + 1) m' H3) := by
  refine ⟨fun i m H => m = xs.length - i ∧ i ≤ xs.length ∧ Pv i H, ⟨xs.length, by simp, Nat.zero_le _, h0⟩, ?_⟩
  rintro i m H ⟨rfl, hi, p⟩
  have q := hl i H hi p
  by_cases hlt : i < xs.length
  · refine .inr ⟨⟨xs, xs[i], q, by simp [hlt]⟩, fun x H' y => ?_⟩
    obtain ⟨e, y⟩ := y
    subst e
    exact hs i x _ (fun H6 => ∃ m', m' < xs.length - i ∧ m' = xs.length - (i + 1) ∧ i + 1 ≤ xs.length ∧ Pv (i + 1) H6) (fun H6 p6 => ⟨xs.length - (i + 1), by omega, rfl, hlt, p6⟩) (y xs q) p
  · have e : i = xs.length := by omega
    subst e
    exact .inl ⟨⟨xs, q, Nat.le_refl _⟩, hd H p⟩
end Dcx
namespace K1
open PySem PySem.Spec PyProof.Rows L2 Gr GxR Srx Skx Dcx
def kvT (l : List (List Str)) : List (List Key × V) := l.map fun x => (x.map Sum.inr, V.bl true)
theorem inr_inj : ∀ {x y : List Str}, x.map (Sum.inr : Str → Key) = y.map Sum.inr → x = y
  | [], [], _ => rfl
  | [], _ :: _, h => by cases h
  | _ :: _, [], h => by cases h
  | a :: x, b :: y, h => by
    rw [List.map_cons, List.map_cons] at h
    injection h with h1 h2
    injection h1 with h1
    rw [h1, inr_inj h2]
theorem put_once (l : List (List Str)) (x : List Str) : putK (kvT l) (x.map Sum.inr) (V.bl true) = kvT (once1 l x) := by
  unfold putK kvT once1
  by_cases h : x ∈ l
  · rw [if_pos h, if_pos]
    · rw [List.map_map]
      refine List.map_congr_left fun y hy => ?_
      show (if _ then _ else _) = _
      split <;> rfl
    · rw [List.any_eq_true]
      exact ⟨_, List.mem_map.mpr ⟨x, h, rfl⟩, decide_eq_true rfl⟩
  · rw [if_neg h, if_neg]
    · rw [List.map_append]
      rfl
    · intro z
      rw [List.any_eq_true] at z
      obtain ⟨q, hq, e⟩ := z
      obtain ⟨y, hy, rfl⟩ := List.mem_map.mp hq
      have e := inr_inj (of_decide_eq_true e)
      rw [e] at hy
      exact h hy
theorem kV_inr (x : List Str) : (x.map (Sum.inr : Str → Key)).map kV = x.map V.str := by
  rw [List.map_map]
  rfl
theorem keys_ps {H : Hp} : ∀ {l : List (List Str)} {bs : List Addr}, IsKeys H (kvT l) bs → ∃ ps : List (Addr × List Str), bs.map V.ref = ps.map (fun q => V.ref q.1) ∧ ps.map (·.2) = l ∧ ∀ q ∈ ps, H q.1 = some (.tup (q.2.map V.str))
  | [], bs, h => by
    have h : Paired _ ([] : List (List Key × V)) bs := h
    cases h
    exact ⟨[], rfl, rfl, fun _ z => absurd z List.not_mem_nil⟩
  | x :: l, bs, h => by
    have h : Paired _ ((x.map Sum.inr, V.bl true) :: kvT l) bs := h
    cases h with
    | cons h1 h2 =>
      rename_i b bs
      obtain ⟨ps, e1, e2, e3⟩ := keys_ps h2
      refine ⟨(b, x) :: ps, by rw [List.map_cons, List.map_cons, e1], by rw [List.map_cons, e2], fun q hq => ?_⟩
      rcases List.mem_cons.mp hq with e | hq
      · rw [e]
        have h1 : H b = some (.tup ((x.map Sum.inr).map kV)) := h1
        rw [kV_inr] at h1
        exact h1
      · exact e3 q hq
theorem small60 {n : Nat} (h : n ≤ 60000) : n < sizeLine := Nat.lt_of_le_of_lt h (by decide)
def rTupOf (K : PySem.W.Frag) : List V → Hp → VK → Prop := fun xs H Q => ∃ p ys, xs = [V.ref p] ∧ ((SqL K H p ys ∧ ∀ l, H l = none → Q (.ref l) (upd H l (.tup ys))) ∨ (SqT K H p ys ∧ Q (.ref p) H))
section
variable {P : Program} {w : World} {K : PySem.W.Frag} {mg : Str → Option Value} {base : Heap} {f fR fO : Addr} {fd fdR fdO fdW : FuncData} {p pW : He.Defn}
def spLeast (K : PySem.W.Frag) (T T2 : Addr) : Sp := fun vs H Q _ => ∃ (a : Addr) (ps0 : List (Addr × List Str)), vs = [.ref a] ∧ SqL K H a (ps0.map fun q => V.ref q.1) ∧ (∀ q ∈ ps0, SqL K H q.1 (q.2.map V.str) ∧ q.2.length ≤ 1000) ∧ ps0.length ≤ 60000 ∧ TabG H T ∧ TabG H T2 ∧
  ∀ p H' ps, Gr H H' → Told H H' p ps → ps.map (·.2) = least ((ps0.map (·.2)).map once) → Q (.ref p) H'
end
end K1
namespace K1
open PySem PySem.Spec PyProof.Rows L2 Gr GxR Srx Skx Dcx
theorem for_enum {K : PySem.W.Frag} {a : Addr} {xs : List V} {g : TG} {tb : TS} {D : Ends} {σ : L2.St} {H : Hp} (Pv : Nat → L2.St → Hp → Prop) (h0 : Pv 0 σ H) (hl : ∀ i σ H, i ≤ xs.length → Pv i σ H → SqL K H a xs)
    (hs : ∀ i x T σ H, xs[i]? = some x → Pv i σ H → H T = none → g (.ref T) σ (upd H T (.tup [.int (i : Nat), x])) fun σ2 H2 => tb { D with nx := Pv (i + 1), ct := Pv (i + 1), bk := D.nx } σ2 H2) (hd : ∀ σ H, Pv xs.length σ H → D.nx σ H) :
    ∃ W : Nat → Nat → L2.St → Hp → Prop, (∃ m, W 0 m σ H) ∧ ∀ i m σ H, W i m σ H →
      ((Ite K a).stop i H ∧ D.nx σ H) ∨ ((Ite K a).go i H ∧ ∃ N : L2.St → Hp → Prop, (∀ σ' H', N σ' H' → ∃ m', m' < m ∧ W (i + 1) m' σ' H') ∧ ∀ x H', (Ite K a).yld i H x H' → g x σ H' fun σ2 H2 => tb { D with nx := N, ct := N, bk := D.nx } σ2 H2) := by
  refine ⟨fun i m σ H => m = xs.length - i ∧ i ≤ xs.length ∧ Pv i σ H, ⟨xs.length, by simp, Nat.zero_le _, h0⟩, ?_⟩
  rintro i m σ H ⟨rfl, hi, p⟩
  have q := hl i σ H hi p
  by_cases hlt : i < xs.length
  · refine .inr ⟨⟨xs, xs[i], q, by simp [hlt]⟩, Pv (i + 1), fun σ' H' p' => ⟨xs.length - (i + 1), by omega, rfl, hlt, p'⟩, fun x H' y => ?_⟩
    obtain ⟨T, z, rfl, hT, rfl, y⟩ := y
    exact hs i z T σ H (y xs q) p hT
  · have e : i = xs.length := by omega
    subst e
    exact .inl ⟨⟨xs, q, Nat.le_refl _⟩, hd σ H p⟩
theorem tyx_gr {K : PySem.W.Frag} {H H' : Hp} (g : Gr H H') {v : V} {t : Value} (h : TyX K H v t) : TyX K H' v t := by
  cases h with
  | base h =>
    refine .base ?_
    cases h with
    | non => exact .non
    | bl x => exact .bl x
    | int i => exact .int i
    | str x => exact .str x
    | flt x => exact .flt x
    | lst e => exact .lst (g.lst e)
    | frz e => exact .frz (g.at_ _ _ e notbl_frz)
    | tup e => exact .tup (g.tup e)
    | dK e => exact .dK (g.at_ _ _ e fun _ z => nomatch z)
    | dT e => exact .dT (g.at_ _ _ e fun _ z => nomatch z)
    | ins e a b c d f => exact .ins (g.at_ _ _ e fun _ z => nomatch z) a b c d f
  | byt b => exact .byt b
  | set e => exact .set (g.at_ _ _ e fun _ z => nomatch z)
  | kList e c => exact .kList e c
  | kTuple e c => exact .kTuple e c
  | kDict e c => exact .kDict e c
  | fTuple e => exact .fTuple (g.at_ _ _ e notbl_frz)
  | fDict e => exact .fDict (g.at_ _ _ e notbl_frz)
theorem Thing.gr {K : PySem.W.Frag} {H H' : Hp} (g : Gr H H') {v : V} (h : Thing K H v) : Thing K H' v := by
  obtain ⟨t, ty, k, l⟩ := h
  exact ⟨t, tyx_gr g ty, k, l⟩
/-- an own error class, as it stands: made by its name, raised -/
structure ErrC (K : PySem.W.Frag) (mg : Str → Option Value) (x : Str) (C : Addr) : Prop where
  gC : mg x = some (.ref C)
  xC : PySem.W.excIn K C [.type "ValueError", .type "Exception", .type "BaseException", .type "object"] "ValueError.__new__" = true
  kC : PySem.W.keepIn K (.ref C) = true
  bC : PySem.W.subIn K (.ref C) (.type "BaseException") = some true
  tC : PySem.W.typeIn K (.ref C) = some (.type "type")
section
variable {P : Program} {w : World} {K : PySem.W.Frag} {mg : Str → Option Value} {base : Heap} {f fO C : Addr} {fd fdO fdI : FuncData} {p pI : He.Defn}
def spRising (K : PySem.W.Frag) (T C : Addr) : Sp := fun vs H Q E => ∃ (a : Addr) (vls : List V), vs = [.ref a] ∧ SqL K H a vls ∧ (∀ v ∈ vls, Thing K H v) ∧ vls.length ≤ 1000 ∧ TabG H T ∧
  ((∃ xs : List Str, vls = xs.map V.str ∧ xs.all isNm = true ∧ ∀ p H', Gr H H' → H p = none → H' p = some (.lst ((once xs).map V.str)) → Q (.ref p) H') ∨ ((∃ v ∈ vls, nmV v = false) ∧ ∀ H', Gr H H' → E (.ref C) none H'))
theorem strlen_le (x : Str) (n : Nat) (h : x.length = n) (hn : n ≤ 100) : x.length ≤ 100 := by omega
end
end K1
namespace K1
open PySem PySem.Spec PyProof.Rows L2 Gr GxR Srx Skx Dcx
def rIsC (K : PySem.W.Frag) (cls : Value) (d : Option Addr) (D a : Addr) : List V → Hp → VK → Prop := fun xs H Q => cls = .ref D ∧ d = none ∧ ∃ (c : V) (cv : Value) (b : Bool), xs = [.ref a, c] ∧ ClsV c cv ∧ PySem.W.kitOne K (.ref D) cv = some b ∧ Q (.bl b) H
theorem call_isC {X : Cx} {a D : Addr} {oe : Obj} {pn : List (Addr × Obj)} {cls : Value} {d : Option Addr} (C : ExcC X.K D) (hz : Zc cls d oe) (hf : ∃ vs, oe.data = .fields vs) : CallR (X.suite a ((a, oe) :: pn)) (.builtin "isinstance") (rIsC X.K cls d D a) := by
  intro pins s σ H xs us Q I r h
  obtain ⟨rfl, rfl, c, cv, b, e1, k, e, q⟩ := h
  exact call_isE C hz hf pins s σ H xs us Q I r ⟨c, cv, b, e1, fun u ru => k.eq ru, e, q⟩
def rIsCT (K : PySem.W.Frag) (cls : Value) (d : Option Addr) (D a : Addr) : List V → Hp → VK → Prop := fun xs H Q => cls = .ref D ∧ d = none ∧ ∃ (tp : Addr) (cs : List V) (us : List Value) (b : Bool), xs = [.ref a, .ref tp] ∧ H tp = some (.tup cs) ∧ Paired ClsV cs us ∧ PySem.W.kitAny K (.ref D) us = some b ∧ Q (.bl b) H
theorem call_isCT {X : Cx} {a D : Addr} {oe : Obj} {pn : List (Addr × Obj)} {cls : Value} {d : Option Addr} (C : ExcC X.K D) (hz : Zc cls d oe) (hf : ∃ vs, oe.data = .fields vs) : CallR (X.suite a ((a, oe) :: pn)) (.builtin "isinstance") (rIsCT X.K cls d D a) := by
  intro pins s σ H xs us Q I r h
  obtain ⟨rfl, rfl, tp, cs, ws, b, rfl, hT, k, e, q⟩ := h
  obtain ⟨u1, u2, rfl, r1, r2⟩ := vals2 r
  cases (show u1 = Value.ref a from r1)
  cases (show u2 = Value.ref tp from r2)
  obtain ⟨hget, _⟩ := I.pin (a, oe) (List.mem_append.mpr (.inl List.mem_cons_self))
  obtain ⟨vs, hv⟩ := hf
  have J : PySem.W.InstAt s.heap a oe D none := by
    obtain ⟨oc, od, oda, osl⟩ := oe
    obtain ⟨h1, h2⟩ := hz
    dsimp only at h1 h2 hv
    subst h1 h2 hv
    exact ⟨hget, rfl, rfl, trivial⟩
  obtain ⟨_, its, rv, o, h1, h2, n, h3⟩ := (show ObjOk _ _ H s.heap tp (.tup cs) from I.hok tp _ hT)
  have e3 := ClsV.all k rv
  subst e3
  obtain ⟨oc, od, dt, sl⟩ := o
  simp only at h2 h3
  subst h2 h3
  exact PySem.W.kia_tup (PySem.W.handS_kitx_exc C.hg C.hk C.hs C.hd C.ha C.hn C.ht C.hm) I.kIn J h1 e (fun z => nomatch z) fun tk => ⟨.bl b, H, I.kept (t' := tk) fun _ _ z => z, rfl, q⟩
/-- what the law's look at a refusal takes of the error classes -/
structure RefC (K : PySem.W.Frag) (mg : Str → Option Value) (C M c1 c2 c3 c4 c5 : Addr) : Prop where
  gM : mg "MeetError" = some (.ref M)
  gC : mg "BadName" = some (.ref C)
  g1 : mg "BadRow" = some (.ref c1)
  g2 : mg "NoRow" = some (.ref c2)
  g3 : mg "TooMany" = some (.ref c3)
  g4 : mg "NoMeet" = some (.ref c4)
  g5 : mg "Unread" = some (.ref c5)
  e : PySem.W.exmOne K (.ref C) (.ref M) = some true
  k5 : PySem.W.kitAny K (.ref C) [.ref c1, .ref c2, .ref c3, .ref c4, .ref c5] = some false
  kC : PySem.W.kitOne K (.ref C) (.ref C) = some true
  kV : PySem.W.kitOne K (.ref C) (.type "ValueError") = some true
  ex : ExcC K C
section
variable {P : Program} {w : World} {K : PySem.W.Frag} {mg : Str → Option Value} {base : Heap} {f fS C M c1 c2 c3 c4 c5 : Addr} {fd fdS : FuncData} {p : He.Defn} {T : Addr}
def spRefused (K : PySem.W.Frag) (T : Addr) : Sp := fun vs H Q _ => ∃ (a : Addr) (vls : List V), vs = [.ref a] ∧ SqL K H a vls ∧ (∀ v ∈ vls, Thing K H v) ∧ vls.length ≤ 1000 ∧ TabG H T ∧ (∃ v ∈ vls, nmV v = false) ∧ ∀ H', Gr H H' → Q (.bl true) H'
end
end K1
namespace K1
open PySem PySem.Spec PyProof.Rows L2 Gr GxR Srx
open PySem.W (dataLe dataLt DatumOrd Datum)
def dS (xs : List Str) : PyData := .list (xs.map PyData.str)
def dSS (xss : List (List Str)) : PyData := .list (xss.map dS)
/-- names, all of them -/
def Nms (xs : List Str) : Prop := ∀ x ∈ xs, isNm x = true
theorem nm_ok {x : Str} (h : isNm x = true) : PyData.strOk x = true := by
  unfold isNm at h
  rw [Bool.and_eq_true, Bool.and_eq_true] at h
  show (x.cps.all (· < 0x110000)) = true
  rw [← Array.all_toList, List.all_eq_true]
  intro c hc
  have z := List.all_eq_true.mp h.2.2 c hc
  unfold small at z
  rw [Bool.and_eq_true, decide_eq_true_iff, decide_eq_true_iff] at z
  exact decide_eq_true (by omega)
theorem nm_len {x : Str} (h : isNm x = true) : x.length ≤ 8 := by
  unfold isNm at h
  rw [Bool.and_eq_true, Bool.and_eq_true] at h
  exact of_decide_eq_true h.2.1
theorem canL_strs : ∀ xs : List Str, Nms xs → PyData.canLayAll0 (xs.map PyData.str) = true
  | [], _ => by simp [PyData.canLayAll0]
  | n :: r, h => by
    have h1 := nm_ok (h n List.mem_cons_self)
    simp [PyData.canLayAll0, PyData.canLay0, h1, canL_strs r fun x hx => h x (List.mem_cons_of_mem _ hx)]
theorem deep_strs : ∀ xs : List Str, PyData.depthAll (xs.map PyData.str) ≤ 1
  | [] => by simp [PyData.depthAll]
  | n :: r => by
    have := deep_strs r
    simp only [List.map_cons, PyData.depthAll, PyData.depth]
    omega
theorem shaped_dS {xs : List Str} (nm : Nms xs) : SeqAt.shaped (dS xs) = true := by
  have h1 := deep_strs xs
  have h2 : PyData.depth (dS xs) ≤ 64 := by simp only [dS, PyData.depth]; omega
  show (PyData.canLay0 (dS xs) && decide (PyData.depth (dS xs) ≤ 64)) = true
  rw [Bool.and_eq_true]
  exact ⟨by simp only [dS, PyData.canLay0]; exact canL_strs xs nm, decide_eq_true h2⟩
theorem canL_sets : ∀ xss : List (List Str), (∀ xs ∈ xss, Nms xs) → PyData.canLayAll0 (xss.map dS) = true
  | [], _ => by simp [PyData.canLayAll0]
  | n :: r, h => by
    have h1 := canL_strs n (h n List.mem_cons_self)
    have h2 := canL_sets r fun x hx => h x (List.mem_cons_of_mem _ hx)
    simp only [List.map_cons, PyData.canLayAll0, h2, Bool.and_true]
    simp only [dS, PyData.canLay0]
    exact h1
theorem deep_sets : ∀ xss : List (List Str), PyData.depthAll (xss.map dS) ≤ 3
  | [] => by simp [PyData.depthAll]
  | n :: r => by
    have h1 := deep_sets r
    have h2 := deep_strs n
    simp only [List.map_cons, PyData.depthAll, PyData.depth, dS] at h1 ⊢
    omega
theorem shaped_dSS {xss : List (List Str)} (nm : ∀ xs ∈ xss, Nms xs) : SeqAt.shaped (dSS xss) = true := by
  have h1 := deep_sets xss
  have h2 : PyData.depth (dSS xss) ≤ 64 := by simp only [dSS, PyData.depth]; omega
  show (PyData.canLay0 (dSS xss) && decide (PyData.depth (dSS xss) ≤ 64)) = true
  rw [Bool.and_eq_true]
  exact ⟨by simp only [dSS, PyData.canLay0]; exact canL_sets xss nm, decide_eq_true h2⟩
theorem eqv_dS (xs ys : List Str) : PyData.eqv (dS xs) (dS ys) = decide (xs = ys) := Datum.eqv xs ys
theorem eqv_dSS (xs ys : List (List Str)) : PyData.eqv (dSS xs) (dSS ys) = decide (xs = ys) := Datum.eqv xs ys
theorem dp_dS {K : PySem.W.Frag} {H : Hp} {a : Addr} {xs : List Str} (h : SqL K H a (xs.map V.str)) : Dp K H (.ref a) (dS xs) := .lst h (dp_strs xs)
theorem dp_sets {K : PySem.W.Frag} {H : Hp} : ∀ {ps : List (Addr × List Str)}, (∀ q ∈ ps, SqL K H q.1 (q.2.map V.str)) → DpAll K H (ps.map fun q => V.ref q.1) (ps.map fun q => dS q.2)
  | [], _ => .nil
  | q :: r, h => .cons (dp_dS (h q List.mem_cons_self)) (dp_sets fun z hz => h z (List.mem_cons_of_mem _ hz))
theorem dp_dSS {K : PySem.W.Frag} {H : Hp} {a : Addr} {ps : List (Addr × List Str)} (hA : SqL K H a (ps.map fun q => V.ref q.1)) (h : ∀ q ∈ ps, SqL K H q.1 (q.2.map V.str)) : Dp K H (.ref a) (dSS (ps.map (·.2))) := by
  refine .lst hA ?_
  rw [List.map_map]
  exact dp_sets h
end K1
namespace K1
open PySem PySem.Spec PyProof.Rows L2 Gr GxR Srx Skx Dcx
section
variable {P : Program} {w : World} {K : PySem.W.Frag} {mg : Str → Option Value} {base : Heap} {f : Addr} {fd : FuncData} {p : He.Defn} {T : Addr}
def spOdd (K : PySem.W.Frag) : Sp := fun vs H Q _ => ∃ c : Int, vs = [.int c] ∧ ∀ v H', Gr H H' → Thing K H' v → nmV v = false → Q v H'
theorem thing_str {K : PySem.W.Frag} {H : Hp} {x : Str} (h : x.length ≤ sizeLine) : Thing K H (.str x) := ⟨"str", .base (.str x), (by show kitB "str" "str" = some true; decide +kernel), fun y e => by cases e; exact h⟩
theorem thing_not {K : PySem.W.Frag} {H : Hp} {t : String} {z : V} (ty : TyX K H z (.type t)) (kt : kitB t "str" = some false) (e : strV z = false) : Thing K H z := ⟨t, ty, by rw [e]; exact kt, fun y e2 => by rw [e2] at e; cases e⟩
theorem atI_mod {α : Type} {xs : List α} {c : Int} {n : Nat} (hn : xs.length = n) (h0 : 0 < n) : ∃ v, atI xs (c % (n : Int)) = some v ∧ v ∈ xs := by
  have h1 : 0 ≤ c % (n : Int) := Int.emod_nonneg _ (by omega)
  have h2 : c % (n : Int) < n := Int.emod_lt_of_pos _ (by omega)
  obtain ⟨j, hj⟩ := Int.eq_ofNat_of_zero_le h1
  have hlt : j < xs.length := by omega
  rw [hj]
  exact ⟨xs[j], atI_nat (List.getElem?_eq_getElem hlt), List.getElem_mem hlt⟩
def spRow (K : PySem.W.Frag) : Sp := fun vs H Q _ => ∃ (a : Addr) (c : Int) (ns : List Str), vs = [.ref a, .int c] ∧ SqL K H a (ns.map V.str) ∧ ns ≠ [] ∧ ns.Nodup ∧ Nms ns ∧ ns.length ≤ 1000 ∧
  ∀ (p : Addr) (H' : Hp) (ys : List Str), Gr H H' → H p = none → H' p = some (.lst (ys.map V.str)) → ys.Nodup → (∀ y ∈ ys, y ∈ ns) → ys.length ≤ ns.length → Q (.ref p) H'
end
end K1
namespace K1
open PySem PySem.Spec PyProof.Rows L2 Gr GxR Srx Skx Dcx
/-- at a: a list of the lists ps -/
structure LL (H : Hp) (a : Addr) (ps : List (Addr × List Str)) : Prop where
  at_ : H a = some (.lst (ps.map fun q => V.ref q.1))
  own : ∀ q ∈ ps, H q.1 = some (.lst (q.2.map V.str))
theorem LL.gr {H H' : Hp} {a : Addr} {ps : List (Addr × List Str)} (h : LL H a ps) (g : Gr H H') : LL H' a ps := ⟨g.lst h.at_, fun q hq => g.lst (h.own q hq)⟩
theorem Told.ll {H H' : Hp} {p : Addr} {ps : List (Addr × List Str)} (T : Told H H' p ps) : LL H' p ps := ⟨T.at_, fun q hq => (T.own q hq).2.2⟩
/-- sets of names, not too many -/
def Fit (xss : List (List Str)) : Prop := xss.length ≤ 1000 ∧ ∀ xs ∈ xss, Nms xs ∧ xs.length ≤ 1000
section
variable {P : Program} {w : World} {K : PySem.W.Frag} {mg : Str → Option Value} {base : Heap} {f : Addr} {fd : FuncData} {p : He.Defn} {T : Addr}
def spSets : Sp := fun vs H Q _ => ∃ (a b : Addr) (ps qs : List (Addr × List Str)), vs = [.ref a, .ref b] ∧ LL H a ps ∧ LL H b qs ∧ ps.map (·.2) = qs.map (·.2) ∧ Fit (ps.map (·.2)) ∧ ∀ H', Gr H H' → Q (.bl true) H'
end
end K1
namespace K1
open PySem PySem.Spec PyProof.Rows L2 Gr GxR Srx Skx Dcx
/-- for x in C: x.append(m), the lists of C younger than H -/
theorem for_more {K : PySem.W.Frag} {C : Addr} {A : List Addr} {H H5 : Hp} {σ : L2.St} {D : Ends} {j : Nat} {m : Str} (hC : H5 C = some (.lst (A.map V.ref))) (gr : Gr H H5) (nC : C ∉ A) (new : ∀ x ∈ A, H x = none) (has : ∀ x ∈ A, ∃ zs, H5 x = some (.lst zs) ∧ zs.length ≤ 1000) (few : A.length ≤ 5000) (hj : j < σ.length)
    (hd : ∀ (v : Option V) (H6 : Hp), Gr H H6 → (∀ b o, b ∉ A → H5 b = some o → H6 b = some o) → D.nx (σ.set j v) H6) :
    ∃ W : Nat → Nat → L2.St → Hp → Prop, (∃ m, W 0 m σ H5) ∧ ∀ i m' σ H, W i m' σ H →
      ((Itl K C).stop i H ∧ D.nx σ H) ∨ ((Itl K C).go i H ∧ ∃ N : L2.St → Hp → Prop, (∀ σ' H', N σ' H' → ∃ m2, m2 < m' ∧ W (i + 1) m2 σ' H') ∧ ∀ x H', (Itl K C).yld i H x H' → gName j x σ H' fun σ2 H2 => tDrop (tBM K "list" rAppend (tVar j) (tCons (tC (.str m)) tNil)) { D with nx := N, ct := N, bk := D.nx } σ2 H2) := by
  refine for_list (K := K) (xs := A.map V.ref) (fun i σ' H6 => Gr H H6 ∧ (∀ b o, b ∉ A → H5 b = some o → H6 b = some o) ∧ (∀ x ∈ A, ∃ zs, H6 x = some (.lst zs) ∧ zs.length ≤ 1000 + i) ∧ ∃ v, σ' = σ.set j v) ⟨gr, fun _ _ _ e => e, has, σ[j], (List.set_getElem_self ..).symm⟩ (fun i σ' H6 _ h => .inl (.inl (h.2.1 _ _ nC hC))) (fun i x σ' H6 hx h => ?_) (fun σ' H6 h => ?_)
  · obtain ⟨g, fr, lens, v, rfl⟩ := h
    obtain ⟨a, ha, rfl⟩ := get_map hx
    have ma := List.mem_of_getElem? ha
    have hi : i < A.length := (List.getElem?_eq_some_iff.mp ha).1
    obtain ⟨zs, ez, hz⟩ := lens a ma
    show tDrop _ _ ((σ.set j v).set j (some (.ref a))) H6
    rw [List.set_set]
    refine ⟨.ref a, ?_, .inl ⟨rfl, _, .inl (.inl ez)⟩, a, _, _, rfl, rfl, ez, ?_, ?_⟩
    · rw [List.getElem?_set_self hj]
    · rw [sizeLine_eq]
      omega
    · refine ⟨g.mut (new a ma), fun b o hb e => ?_, fun x hx => ?_, _, rfl⟩
      · rw [upd_ne (fun z => hb (by rw [z]; exact ma))]
        exact fr b o hb e
      · by_cases hxa : x = a
        · subst hxa
          exact ⟨_, upd_same, by rw [List.length_append, List.length_singleton]; omega⟩
        · obtain ⟨ys, ey, hy⟩ := lens x hx
          exact ⟨ys, by rw [upd_ne hxa]; exact ey, by omega⟩
  · obtain ⟨g, fr, _, v, rfl⟩ := h
    exact hd v H6 g fr
theorem keep_sub : ∀ (l acc : List (List Str)), List.Sublist (l.foldl keep acc) (acc ++ l)
  | [], acc => by rw [List.append_nil]; exact List.Sublist.refl _
  | x :: l, acc => by
    rw [List.foldl_cons]
    refine (keep_sub l _).trans ?_
    unfold keep
    split
    · exact List.Sublist.append (List.Sublist.refl _) (List.sublist_cons_self _ _)
    · rw [List.append_assoc]
      exact List.Sublist.refl _
theorem fit_rkd {xss : List (List Str)} (h : Fit xss) : Fit (rkd xss) := ⟨by rw [(rkd_perm _).length_eq]; exact h.1, fun xs hx => h.2 xs ((rkd_perm _).mem_iff.mp hx)⟩
theorem fit_sub {xss yss : List (List Str)} (h : Fit xss) (s : List.Sublist yss xss) : Fit yss := ⟨Nat.le_trans s.length_le h.1, fun xs hx => h.2 xs (s.subset hx)⟩
theorem once_nms {xs : List Str} (h : Nms xs) : Nms (once xs) := fun x hx => h x (Sx.dd_mem.mp (srt_mem.mp hx))
theorem once_len {xs : List Str} : (once xs).length ≤ xs.length := by
  unfold once
  rw [srt_len]
  exact Sx.dd_len xs
theorem fit_least {xss : List (List Str)} (h : Fit xss) : Fit (least (xss.map once)) := by
  have h1 : Fit (xss.map once) := ⟨by rw [List.length_map]; exact h.1, fun xs hx => by
    obtain ⟨ys, hy, rfl⟩ := List.mem_map.mp hx
    obtain ⟨a, b⟩ := h.2 ys hy
    exact ⟨once_nms a, Nat.le_trans once_len b⟩⟩
  unfold least
  exact fit_sub (fit_rkd (fit_sub h1 (ddG_sub _))) (keep_sub _ [])
theorem lens_of {ps : List (Addr × List Str)} (h : Fit (ps.map (·.2))) : ps.length ≤ 1000 ∧ ∀ q ∈ ps, Nms q.2 ∧ q.2.length ≤ 1000 := ⟨by have := h.1; rw [List.length_map] at this; exact this, fun q hq => h.2 q.2 (List.mem_map.mpr ⟨q, hq, rfl⟩)⟩
theorem LL.dp {K : PySem.W.Frag} {H : Hp} {a : Addr} {ps : List (Addr × List Str)} (h : LL H a ps) : Dp K H (.ref a) (dSS (ps.map (·.2))) := dp_dSS (.inl (.inl h.at_)) fun q hq => .inl (.inl (h.own q hq))
theorem LL.fr {H H' : Hp} {a : Addr} {A : List Addr} {ps : List (Addr × List Str)} (h : LL H a ps) (fr : ∀ b o, b ∉ A → H b = some o → H' b = some o) (na : a ∉ A) (nq : ∀ q ∈ ps, q.1 ∉ A) : LL H' a ps := ⟨fr _ _ na h.at_, fun q hq => fr _ _ (nq q hq) (h.own q hq)⟩
/-- told lists are none of what stood -/
theorem Told.off {H H' : Hp} {p x : Addr} {o : HO} {ps : List (Addr × List Str)} (T : Told H H' p ps) (e : H x = some o) : x ≠ p ∧ ∀ q ∈ ps, x ≠ q.1 := ⟨ne_of_none e T.new, fun q hq => ne_of_none e (T.own q hq).1⟩
section
variable {P : Program} {w : World} {K : PySem.W.Frag} {mg : Str → Option Value} {base : Heap} {f fR fL fS : Addr} {fd fdR fdL fdS : FuncData} {p : He.Defn} {T T2 : Addr}
def spTold (T T2 : Addr) : Sp := fun vs H Q _ => ∃ (s h d b : Addr) (ps hs ds bs : List (Addr × List Str)), vs = [.ref s, .ref h, .ref d, .ref b] ∧ LL H s ps ∧ LL H h hs ∧ LL H d ds ∧ LL H b bs ∧ Fit (ps.map (·.2)) ∧ Fit (hs.map (·.2)) ∧
  ds.map (·.2) = rkd (hs.map (·.2)) ∧ bs.map (·.2) = least ((ps.map (·.2)).map once) ∧ TabG H T ∧ TabG H T2 ∧ ∀ H', Gr H H' → Q (.bl true) H'
end
end K1
namespace K1
open PySem PySem.Spec PyProof.Rows L2
def L0 : List Nat := List.range' 97 26
theorem letters_eq : Str.ofString "abcdefghijklmnopqrstuvwxyz" = SX.S L0 := by decide +kernel
def let_ (x : Int) : Nat := L0.getD (x % 26).toNat 0
def nm1 (d k : Nat) : Str := SX.S ((L0.drop d).take (k + 1))
def turned (d : Nat) : List Nat := (L0.drop d).take 8
def nm2 (d k : Nat) : Str := SX.S ((turned d).drop k ++ (turned d).take k)
def nm3 (base : List Nat) (at_ : Nat) (x : Int) (k : Nat) : Str := SX.S (base.take at_ ++ [let_ (x + 3 * (k : Int))] ++ base.drop at_)
def baseOf (c : Int) (size : Nat) : List Nat := (List.range size).map fun j : Nat => let_ (c / 224 + 5 * (j : Int))
def many (c : Int) : Nat := (1 + c % 7).toNat
def names (c : Int) : List Str :=
  if c / 7 % 4 = 1 then (List.range (many c)).map (nm1 (c / 28 % 18).toNat)
  else if c / 7 % 4 = 2 then (List.range (many c)).map (nm2 (c / 28 % 18).toNat)
  else (List.range (many c)).map (nm3 (baseOf c (c / 28 % 8).toNat) (c / 7 % ((c / 28 % 8) + 1)).toNat (c / 1000))
theorem many_lt (c : Int) : 1 ≤ many c ∧ many c ≤ 7 := by
  unfold many
  omega
theorem L0_at {j : Nat} (h : j < 26) : L0[j]? = some (97 + j) := by
  unfold L0
  rw [List.getElem?_range' (by omega)]
  simp
theorem L0_len : L0.length = 26 := by decide
theorem L0_small : ∀ x ∈ L0, small x = true := by decide +kernel
theorem let_eq (x : Int) : let_ x = 97 + (x % 26).toNat := by
  unfold let_
  rw [List.getD_eq_getElem?_getD, L0_at (by omega)]
  rfl
theorem let_mem (x : Int) : let_ x ∈ L0 := by
  rw [let_eq]
  exact List.mem_of_getElem? (L0_at (j := (x % 26).toNat) (by omega))
theorem nm_S {l : List Nat} (h1 : 1 ≤ l.length) (h8 : l.length ≤ 8) (hs : ∀ x ∈ l, x ∈ L0) : isNm (SX.S l) = true := by
  unfold isNm
  rw [SX.S_len, decide_eq_true h1, decide_eq_true h8, Bool.true_and, Bool.true_and, List.all_eq_true]
  intro x hx
  exact L0_small x (hs x hx)
theorem nodup_range_map {α : Type} {f : Nat → α} {n : Nat} (h : ∀ i j, i < n → j < n → f i = f j → i = j) : ((List.range n).map f).Nodup := by
  unfold List.Nodup
  rw [List.pairwise_map]
  refine List.Pairwise.imp_of_mem ?_ (List.nodup_range (n := n))
  intro a b ha hb ne e
  exact ne (h a b (List.mem_range.mp ha) (List.mem_range.mp hb) e)
theorem names_ok (c : Int) : Nms (names c) ∧ (names c).Nodup ∧ names c ≠ [] ∧ (names c).length ≤ 7 := by
  obtain ⟨m1, m7⟩ := many_lt c
  have ne : ∀ f : Nat → Str, (List.range (many c)).map f ≠ [] := by
    intro f z
    have := congrArg List.length z
    rw [List.length_map, List.length_range] at this
    simp at this
    omega
  have ln : ∀ f : Nat → Str, ((List.range (many c)).map f).length ≤ 7 := by
    intro f
    rw [List.length_map, List.length_range]
    exact m7
  have nms : ∀ f : Nat → Str, (∀ k, k < many c → isNm (f k) = true) → Nms ((List.range (many c)).map f) := by
    intro f h x hx
    obtain ⟨k, hk, rfl⟩ := List.mem_map.mp hx
    exact h k (List.mem_range.mp hk)
  unfold names
  have hd : (c / 28 % 18).toNat ≤ 17 := by omega
  generalize (c / 28 % 18).toNat = d at hd
  split
  · refine ⟨nms _ fun k hk => ?_, nodup_range_map fun i j hi hj e => ?_, ne _, ln _⟩
    · refine nm_S ?_ ?_ fun x hx => List.mem_of_mem_drop (List.mem_of_mem_take hx)
      · rw [List.length_take, List.length_drop, L0_len]; omega
      · rw [List.length_take, List.length_drop, L0_len]; omega
    · have e := congrArg List.length (SX.S_inj e)
      rw [List.length_take, List.length_take, List.length_drop, L0_len] at e
      omega
  · split
    · have tl : (turned d).length = 8 := by
        unfold turned
        rw [List.length_take, List.length_drop, L0_len]; omega
      have tm : ∀ x ∈ turned d, x ∈ L0 := fun x hx => List.mem_of_mem_drop (List.mem_of_mem_take hx)
      have ta : ∀ k, k < 8 → (turned d)[k]? = some (97 + (d + k)) := by
        intro k hk
        unfold turned
        rw [List.getElem?_take_of_lt hk, List.getElem?_drop, L0_at (by omega)]
      refine ⟨nms _ fun k hk => ?_, nodup_range_map fun i j hi hj e => ?_, ne _, ln _⟩
      · refine nm_S ?_ ?_ fun x hx => ?_
        · rw [List.length_append, List.length_drop, List.length_take, tl]; omega
        · rw [List.length_append, List.length_drop, List.length_take, tl]; omega
        · rcases List.mem_append.mp hx with h | h
          · exact tm x (List.mem_of_mem_drop h)
          · exact tm x (List.mem_of_mem_take h)
      · have e := congrArg (fun l : List Nat => l[0]?) (SX.S_inj e)
        have hh : ∀ k, k < many c → ((turned d).drop k ++ (turned d).take k)[0]? = some (97 + (d + k)) := by
          intro k hk
          rw [List.getElem?_append_left (by rw [List.length_drop, tl]; omega), List.getElem?_drop]
          exact ta k (by omega)
        have e : ((turned d).drop i ++ (turned d).take i)[0]? = ((turned d).drop j ++ (turned d).take j)[0]? := e
        rw [hh i hi, hh j hj] at e
        have e := Option.some.inj e
        omega
    · have hsz : (c / 28 % 8).toNat ≤ 7 := by omega
      have hat : (c / 7 % ((c / 28 % 8) + 1)).toNat ≤ (c / 28 % 8).toNat := by
        have h1 : 0 ≤ c / 28 % 8 := Int.emod_nonneg _ (by omega)
        have h2 := Int.emod_lt_of_pos (c / 7) (show (0 : Int) < c / 28 % 8 + 1 by omega)
        have h3 := Int.emod_nonneg (c / 7) (show (c / 28 % 8 + 1 : Int) ≠ 0 by omega)
        omega
      generalize (c / 28 % 8).toNat = size at hsz hat
      generalize (c / 7 % ((c / 28 % 8) + 1)).toNat = at_ at hat
      have bl : (baseOf c size).length = size := by
        unfold baseOf
        rw [List.length_map, List.length_range]
      have bm : ∀ x ∈ baseOf c size, x ∈ L0 := by
        intro x hx
        obtain ⟨j, _, rfl⟩ := List.mem_map.mp hx
        exact let_mem _
      refine ⟨nms _ fun k hk => ?_, nodup_range_map fun i j hi hj e => ?_, ne _, ln _⟩
      · refine nm_S ?_ ?_ fun x hx => ?_
        · rw [List.length_append, List.length_append, List.length_take, List.length_drop, bl]; simp; omega
        · rw [List.length_append, List.length_append, List.length_take, List.length_drop, bl, List.length_singleton]; omega
        · rcases List.mem_append.mp hx with h | h
          · rcases List.mem_append.mp h with h | h
            · exact bm x (List.mem_of_mem_take h)
            · have h : x = let_ (c / 1000 + 3 * (k : Int)) := by simpa using h
              rw [h]
              exact let_mem _
          · exact bm x (List.mem_of_mem_drop h)
      · have hh : ∀ k : Nat, ((baseOf c size).take at_ ++ [let_ (c / 1000 + 3 * (k : Int))] ++ (baseOf c size).drop at_)[at_]? = some (let_ (c / 1000 + 3 * (k : Int))) := by
          intro k
          have tk : ((baseOf c size).take at_).length = at_ := by rw [List.length_take, bl]; omega
          rw [List.append_assoc, List.getElem?_append_right (by omega), tk, Nat.sub_self]
          rfl
        have e : ((baseOf c size).take at_ ++ [let_ (c / 1000 + 3 * (i : Int))] ++ (baseOf c size).drop at_)[at_]? = ((baseOf c size).take at_ ++ [let_ (c / 1000 + 3 * (j : Int))] ++ (baseOf c size).drop at_)[at_]? := congrArg (fun l : List Nat => l[at_]?) (SX.S_inj e)
        rw [hh i, hh j] at e
        have e := Option.some.inj e
        rw [let_eq, let_eq] at e
        omega
end K1
namespace K1
open PySem PySem.Spec PyProof.Rows L2 Gr GxR Srx Skx Dcx
theorem lc_texts {D : Addr} {j n : Nat} {σ : L2.St} {vs : List Nat} {te : TE} {H H1 : Hp} {Qd : Hp → Prop} (F : Nat → Str) (few : n ≤ 1000) (gr : Gr H H1) (hD : H1 D = none) (hw : ∀ v, wipe ((wipe σ vs).set j (some v)) vs = wipe σ vs)
    (he : ∀ (k : Nat) (H4 : Hp) (Q' : VK), k < n → Q' (.str (F k)) H4 → te ((wipe σ vs).set j (some (.int ((0 : Int) + (k : Nat))))) H4 Q')
    (q : ∀ H2, Gr H H2 → H2 D = some (.lst (((List.range n).map F).map V.str)) → Qd H2) :
    ∃ W : Nat → Nat → Hp → Prop, (∃ m, W 0 m (upd H1 D (.lst []))) ∧ ∀ i m H, W i m H →
      ((Itr 0 n).stop i H ∧ Qd H) ∨ ((Itr 0 n).go i H ∧ ∃ Nx : Hp → Prop, (∀ H', Nx H' → ∃ m', m' < m ∧ W (i + 1) m' H') ∧ ∀ x H', (Itr 0 n).yld i H x H' → gName j x (wipe σ vs) H' fun σ2 H2 => wipe σ2 vs = wipe σ vs ∧ tYes σ2 H2 fun b H3 =>
        if b = true then te σ2 H3 fun y H4 => ∃ acc, H4 D = some (.lst acc) ∧ acc.length < sizeLine ∧ Nx (upd H4 D (.lst (acc ++ [y]))) else Nx H3) := by
  have hD0 : H D = none := gr.free hD
  refine lc_range (Qd := Qd) (fun i H2 => Gr H H2 ∧ H2 D = some (.lst (((List.range i).map F).map V.str))) ⟨gr.mut hD0, upd_same⟩ (fun i H2 hi h => ?_) (fun H2 h => q H2 h.1 h.2)
  obtain ⟨g2, e⟩ := h
  refine ⟨hw _, yesIf (he i H2 _ hi ⟨_, e, ?_, g2.mut hD0, ?_⟩)⟩
  · rw [List.length_map, List.length_map, List.length_range]
    exact small1000 (by omega)
  · rw [upd_same, List.range_succ, List.map_append, List.map_append]
    rfl
theorem let_at (x : Int) : atI (Str.ofString "abcdefghijklmnopqrstuvwxyz").cps.toList (x % 26) = some (let_ x) := by
  rw [letters_eq]
  show atI L0 (x % 26) = _
  have h0 : 0 ≤ x % 26 := Int.emod_nonneg _ (by omega)
  obtain ⟨j, hj⟩ := Int.eq_ofNat_of_zero_le h0
  rw [let_eq, hj]
  exact atI_nat (L0_at (by omega))
theorem joinL_ones : ∀ l : List Nat, TL.joinL [] (l.map fun x => [x]) = l
  | [] => rfl
  | [x] => rfl
  | x :: y :: r => by
    show [x] ++ ([] ++ _) = _
    rw [List.nil_append]
    exact congrArg (fun z => x :: z) (joinL_ones (y :: r))
section
variable {P : Program} {w : World} {K : PySem.W.Frag} {mg : Str → Option Value} {base : Heap} {f fD : Addr} {fd fdD : FuncData} {p : He.Defn} {T T2 : Addr}
def spNames (K : PySem.W.Frag) : Sp := fun vs H Q _ => ∃ (a : Addr) (ns : List Int), vs = [.ref a] ∧ SqL K H a (ns.map V.int) ∧ ∀ p H', Gr H H' → H p = none → H' p = some (.lst ((names (ns.getD 0 0)).map V.str)) → Q (.ref p) H'
end
end K1
namespace K1
open PySem PySem.Spec PyProof.Rows L2 Gr GxR Srx Skx Dcx
theorem cut_map (xs : List Str) (lo hi : Option Int) : ∃ zs : List Str, cutV (xs.map V.str) lo hi = zs.map V.str ∧ (∀ z ∈ zs, z ∈ xs) ∧ zs.length ≤ xs.length := by
  refine ⟨(xs.drop (HT.sIx (xs.map V.str).length 0 lo)).take (HT.sIx (xs.map V.str).length (xs.map V.str).length hi - HT.sIx (xs.map V.str).length 0 lo), ?_, fun z hz => List.mem_of_mem_drop (List.mem_of_mem_take hz), ?_⟩
  · unfold cutV
    rw [List.map_take, List.map_drop]
  · rw [List.length_take, List.length_drop]
    omega
theorem once_same {xs zs : List Str} (nd : xs.Nodup) (h : ∀ y, y ∈ zs ↔ y ∈ xs) : once zs = srt xs := by
  unfold once
  refine srt_eq ((List.perm_ext_iff_of_nodup (Sx.dd_nodup zs) nd).mpr fun q => ?_)
  rw [Sx.dd_mem]
  exact h q
def rLenQ (K : PySem.W.Frag) : List V → Hp → VK → Prop := fun xs H Q => ∃ p ys, xs = [V.ref p] ∧ (SqL K H p ys ∨ SqT K H p ys) ∧ Q (.int ys.length) H
structure Calls (P : Program) (w : World) (K : PySem.W.Frag) (mg : Str → Option Value) (base : Heap) (CX : CXT) (k : Nat) (x : Str) (sp : Sp) : Prop where
  ex : ∃ (f : Addr) (fd : FuncData) (ps : List Str), FnOk P w K mg base CX k f fd ps sp ∧ mg x = some (.ref f) ∧ PySem.W.keepIn K (.ref f) = true ∧ Binds K fd ps []
section
variable {X : Cx} {k j : Nat} {x : Str} {ps : List Str} {sp : Sp} {p pos : Pos} {e : Expr} {es : List Expr} {t : TA}
theorem pe_k (c : Calls X.prog X.w X.K X.mg X.base CX0 k x sp) (hr : Room j X.A) (hk : k ≤ j) (hg : Gl X x) (ha : PA X (e :: es) t)
    (hdb : (x == ("__debug__" : Str)) = false := by decide) (he : starEach (e :: es) X.env = (false, eval e X.env) :: starEach es X.env := by rfl) (hpl : (backTo pos (starEach es X.env)).any (·.1) = false := by rfl) :
    PE X (.Call (.Name x p) (e :: es) [] pos) (tCall sp [] E0 t) := by
  obtain ⟨f, fd, ps, F, hm, kp, b⟩ := c.ex
  exact pe_call F (hr.mono hk) hg hm kp b .nil pass0 ha hdb he hpl
theorem pe_kX (c : Calls X.prog X.w X.K X.mg X.base (L2.CX X.prog X.w) k x sp) (hr : Room j X.A) (hk : k ≤ j) (hg : Gl X x) (ha : PA X (e :: es) t)
    (hdb : (x == ("__debug__" : Str)) = false := by decide) (he : starEach (e :: es) X.env = (false, eval e X.env) :: starEach es X.env := by rfl) (hpl : (backTo pos (starEach es X.env)).any (·.1) = false := by rfl) :
    PE X (.Call (.Name x p) (e :: es) [] pos) (tCall sp [] E0 t) := by
  obtain ⟨f, fd, ps, F, hm, kp, b⟩ := c.ex
  exact pe_call F (hr.mono hk) hg hm kp b .nil passL ha hdb he hpl
end
section
variable {P : Program} {w : World} {K : PySem.W.Frag} {mg : Str → Option Value} {base : Heap} {f : Addr} {fd : FuncData} {p : He.Defn} {T TI TW TM TL C : Addr}
/-- what the law calls -/
structure Env1 (P : Program) (w : World) (K : PySem.W.Frag) (mg : Str → Option Value) (base : Heap) (TI TW TM TL C : Addr) : Prop where
  draw : Calls P w K mg base CX0 1 "_law_draw" (spDraw K)
  names : Calls P w K mg base CX0 2 "_law_names" (spNames K)
  row : Calls P w K mg base CX0 1 "_law_row" (spRow K)
  odd : Calls P w K mg base CX0 1 "_law_odd" (spOdd K)
  truth : Calls P w K mg base CX0 1 "_law_truth" spTruth
  lmeets : Calls P w K mg base CX0 1 "_law_meets" (spLMeets K)
  lwithin : Calls P w K mg base CX0 1 "_law_within" (spLWithin K)
  refused : Calls P w K mg base CX0 3 "_law_refused" (spRefused K TI)
  told : Calls P w K mg base CX0 6 "_law_told_right" (spTold TL TW)
  isname : Calls P w K mg base CX0 1 "is_name" (spIsName K TI)
  rising : Calls P w K mg base (L2.CX P w) 2 "rising" (spRising K TI C)
  within : Calls P w K mg base CX0 1 "within" (spWithin K TW)
  meets : Calls P w K mg base CX0 1 "meets" (spMeets K TM)
  gR : mg "range" = none
  gA : mg "all" = none
  gLi : mg "list" = none
  gL : mg "len" = none
  gS : mg "sorted" = none
def spLaw (K : PySem.W.Frag) (TI TW TM TL : Addr) : Sp := fun vs H Q _ => ∃ (a : Addr) (ns : List Int), vs = [.ref a] ∧ SqL K H a (ns.map V.int) ∧ TabG H TI ∧ TabG H TW ∧ TabG H TM ∧ TabG H TL ∧ ∀ H', Q (.bl true) H'
end
end K1
namespace K1
open PySem PySem.Spec PyProof.Rows L2 Srx
open PySem.W (dataLe dataLt DatumOrd Datum)
def ltS (a b : Str) : Prop := leS a b = true ∧ a ≠ b
def Ris (xs : List Str) : Prop := xs.Pairwise ltS
theorem ris_nil : Ris [] := List.Pairwise.nil
theorem Ris.nodup {xs : List Str} (h : Ris xs) : xs.Nodup := List.Pairwise.imp (fun z => z.2) h
theorem Ris.sorted {xs : List Str} (h : Ris xs) : xs.Pairwise (fun a b => leS a b = true) := List.Pairwise.imp (fun z => z.1) h
theorem ris_of {xs : List Str} (h : xs.Pairwise (fun a b => leS a b = true)) (n : xs.Nodup) : Ris xs := List.Pairwise.imp₂ (fun _ _ a b => ⟨a, b⟩) h n
theorem ris_sub {xs ys : List Str} (s : List.Sublist xs ys) (h : Ris ys) : Ris xs := List.Pairwise.sublist s h
theorem sublist_of : ∀ {N x : List Str}, Ris N → Ris x → (∀ y ∈ x, y ∈ N) → List.Sublist x N
  | [], [], _, _, _ => List.Sublist.refl _
  | [], a :: x, _, _, h => absurd (h a List.mem_cons_self) List.not_mem_nil
  | n :: N, [], _, _, _ => List.nil_sublist _
  | n :: N, a :: x, hN, hx, h => by
    obtain ⟨hn, hN'⟩ := List.pairwise_cons.mp hN
    obtain ⟨ha, hx'⟩ := List.pairwise_cons.mp hx
    by_cases e : a = n
    · subst e
      refine List.Sublist.cons₂ a (sublist_of hN' hx' fun y hy => ?_)
      rcases List.mem_cons.mp (h y (List.mem_cons_of_mem _ hy)) with z | z
      · exact absurd z.symm (ha y hy).2
      · exact z
    · have aN : a ∈ N := (List.mem_cons.mp (h a List.mem_cons_self)).resolve_left e
      refine List.Sublist.cons n (sublist_of hN' hx fun y hy => ?_)
      rcases List.mem_cons.mp (h y hy) with z | z
      · subst z
        rcases List.mem_cons.mp hy with w | w
        · exact absurd w.symm e
        · exact absurd (leS_anti (ha y w).1 (hn a aN).1) e
      · exact z
theorem ris_once (xs : List Str) : Ris (once xs) := ris_of (srt_sorted _) ((srt_perm _).nodup_iff.mpr (Sx.dd_nodup xs))
theorem once_mem {xs : List Str} {y : Str} : y ∈ once xs ↔ y ∈ xs := by
  unfold once
  rw [srt_mem, Sx.dd_mem]
theorem once_ris {xs : List Str} (h : Ris xs) : once xs = xs := by
  unfold once
  rw [Sx.dd_id h.nodup, srt_id h.sorted]
theorem wi_iff {a b : List Str} : wi a b = true ↔ ∀ y ∈ a, y ∈ b := by
  unfold wi
  rw [List.all_eq_true]
  exact ⟨fun h y hy => List.contains_iff_mem.mp (h y hy), fun h y hy => List.contains_iff_mem.mpr (h y hy)⟩
theorem wi_trans {a b c : List Str} (h1 : wi a b = true) (h2 : wi b c = true) : wi a c = true := wi_iff.mpr fun y hy => wi_iff.mp h2 y (wi_iff.mp h1 y hy)
theorem wi_anti {a b : List Str} (ha : Ris a) (hb : Ris b) (h1 : wi a b = true) (h2 : wi b a = true) : a = b := by
  have s1 := sublist_of hb ha (wi_iff.mp h1)
  have s2 := sublist_of ha hb (wi_iff.mp h2)
  exact s1.eq_of_length_le s2.length_le
theorem wi_len {a b : List Str} (ha : Ris a) (hb : Ris b) (h : wi a b = true) : a.length ≤ b.length := (sublist_of hb ha (wi_iff.mp h)).length_le
theorem wi_eq {a b : List Str} (ha : Ris a) (hb : Ris b) (h : wi a b = true) (l : b.length ≤ a.length) : a = b := (sublist_of hb ha (wi_iff.mp h)).eq_of_length_le l
theorem leR_len {a b : List Str} (h : leR a b = true) : a.length ≤ b.length := by
  rw [leR_eq, Bool.not_eq_true'] at h
  rw [← toD_eq, ← toD_eq, DatumOrd.lt_eq] at h
  have h : (if (b.length : Int) = a.length then PySem.W.listLt b a else decide ((b.length : Int) < a.length)) = false := h
  by_cases e : (b.length : Int) = a.length
  · omega
  · rw [if_neg e] at h
    have := of_decide_eq_false h
    omega
theorem keep_mem : ∀ L : List (List Str), L.Pairwise (fun a b => leR a b = true) → (∀ x ∈ L, Ris x) → ∀ z, z ∈ L.foldl keep [] ↔ z ∈ L ∧ ∀ y ∈ L, wi y z = true → y = z := by
  intro L
  refine snoc_ind (p := fun L => L.Pairwise (fun a b => leR a b = true) → (∀ x ∈ L, Ris x) → ∀ z, z ∈ L.foldl keep [] ↔ z ∈ L ∧ ∀ y ∈ L, wi y z = true → y = z) ?_ (fun L x ih => ?_) L
  · intro _ _ z
    simp
  · intro hs hr z
    obtain ⟨hs1, _, hs2⟩ := List.pairwise_append.mp hs
    have hr1 : ∀ y ∈ L, Ris y := fun y hy => hr y (List.mem_append_left _ hy)
    have hrx : Ris x := hr x (List.mem_append_right _ List.mem_cons_self)
    have ih := ih hs1 hr1
    have hlen : ∀ y ∈ L, y.length ≤ x.length := fun y hy => leR_len (hs2 y hy x List.mem_cons_self)
    rw [List.foldl_append]
    show z ∈ keep (L.foldl keep []) x ↔ _
    have up : ∀ z, z ∈ L.foldl keep [] → z ∈ L ++ [x] ∧ ∀ y ∈ L ++ [x], wi y z = true → y = z := by
      intro z hz
      obtain ⟨h1, h2⟩ := (ih z).mp hz
      refine ⟨List.mem_append_left _ h1, fun y hy w => ?_⟩
      rcases List.mem_append.mp hy with hy | hy
      · exact h2 y hy w
      · have hy : y = x := by simpa using hy
        subst hy
        exact wi_eq hrx (hr1 z h1) w (hlen z h1)
    unfold keep
    split
    · rename_i hany
      refine ⟨up z, fun ⟨h1, h2⟩ => ?_⟩
      have zL : z ∈ L := by
        rcases List.mem_append.mp h1 with h1 | h1
        · exact h1
        · have h1 : z = x := by simpa using h1
          subst h1
          obtain ⟨a, ha, wa⟩ := List.any_eq_true.mp hany
          have aL := ((ih a).mp ha).1
          rw [← h2 a (List.mem_append_left _ aL) wa]
          exact aL
      exact (ih z).mpr ⟨zL, fun y hy => h2 y (List.mem_append_left _ hy)⟩
    · rename_i hany
      constructor
      · intro hz
        rcases List.mem_append.mp hz with hz | hz
        · exact up z hz
        · have hz : z = x := by simpa using hz
          subst hz
          refine ⟨List.mem_append_right _ List.mem_cons_self, fun y hy w => ?_⟩
          rcases List.mem_append.mp hy with hy | hy
          · obtain ⟨a, ha, wa⟩ := List.any_eq_true.mp (fold_any L [] y (.inr hy))
            exact (hany (List.any_eq_true.mpr ⟨a, ha, wi_trans wa w⟩)).elim
          · simpa using hy
      · intro ⟨h1, h2⟩
        rcases List.mem_append.mp h1 with h1 | h1
        · exact List.mem_append_left _ ((ih z).mpr ⟨h1, fun y hy => h2 y (List.mem_append_left _ hy)⟩)
        · exact List.mem_append_right _ h1
theorem keep_nodup : ∀ L : List (List Str), (L.foldl keep []).Nodup := by
  intro L
  refine snoc_ind (p := fun L => (L.foldl keep []).Nodup) List.nodup_nil (fun L x ih => ?_) L
  rw [List.foldl_append]
  show (keep (L.foldl keep []) x).Nodup
  unfold keep
  split
  · exact ih
  · rename_i hany
    refine List.nodup_append.mpr ⟨ih, by simp, fun a ha b hb e => ?_⟩
    have hb : b = x := by simpa using hb
    subst hb
    subst e
    exact hany (List.any_eq_true.mpr ⟨a, ha, wi_self a⟩)
theorem keep_sorted {L : List (List Str)} (h : L.Pairwise (fun a b => leR a b = true)) : (L.foldl keep []).Pairwise (fun a b => leR a b = true) := by
  have s : ∀ (l acc : List (List Str)), List.Sublist (l.foldl keep acc) (acc ++ l) := by
    intro l
    induction l with
    | nil => intro acc; rw [List.append_nil]; exact List.Sublist.refl _
    | cons x l ih =>
      intro acc
      rw [List.foldl_cons]
      refine (ih _).trans ?_
      unfold keep
      split
      · exact List.Sublist.append (List.Sublist.refl _) (List.sublist_cons_self _ _)
      · rw [List.append_assoc]
        exact List.Sublist.refl _
  exact h.sublist (s L [])
def RisAll (l : List (List Str)) : Prop := ∀ x ∈ l, Ris x
theorem least_mem {l : List (List Str)} (h : RisAll l) {z : List Str} : z ∈ least l ↔ z ∈ l ∧ ∀ y ∈ l, wi y z = true → y = z := by
  rw [least_eq, keep_mem _ (rkd_sorted l) (fun x hx => h x ((rkd_perm l).mem_iff.mp hx))]
  constructor
  · intro ⟨h1, h2⟩
    exact ⟨(rkd_perm l).mem_iff.mp h1, fun y hy => h2 y ((rkd_perm l).mem_iff.mpr hy)⟩
  · intro ⟨h1, h2⟩
    exact ⟨(rkd_perm l).mem_iff.mpr h1, fun y hy => h2 y ((rkd_perm l).mem_iff.mp hy)⟩
theorem least_nodup (l : List (List Str)) : (least l).Nodup := by
  rw [least_eq]
  exact keep_nodup _
theorem least_sorted (l : List (List Str)) : (least l).Pairwise (fun a b => leR a b = true) := by
  rw [least_eq]
  exact keep_sorted (rkd_sorted l)
theorem least_one {xs ys : List (List Str)} (n1 : xs.Nodup) (n2 : ys.Nodup) (h1 : xs.Pairwise (fun a b => leR a b = true)) (h2 : ys.Pairwise (fun a b => leR a b = true)) (h : ∀ z, z ∈ xs ↔ z ∈ ys) : xs = ys :=
  rkd_one ((List.perm_ext_iff_of_nodup n1 n2).mpr h) h1 h2
/-- below each one lies a least one -/
theorem least_below {l : List (List Str)} {y : List Str} (hy : y ∈ l) : ∃ m ∈ least l, wi m y = true := by
  rw [least_eq]
  exact List.any_eq_true.mp (fold_any (rkd l) [] y (.inr ((rkd_perm l).mem_iff.mpr hy)))
theorem least_sub {l : List (List Str)} (h : RisAll l) {z : List Str} (hz : z ∈ least l) : z ∈ l := ((least_mem h).mp hz).1
theorem least_ris {l : List (List Str)} (h : RisAll l) : RisAll (least l) := fun z hz => h z (least_sub h hz)
/-- two lists, each with one below each of the other: the same least ones -/
theorem least_ext {A B : List (List Str)} (hA : RisAll A) (hB : RisAll B) (ab : ∀ a ∈ A, ∃ b ∈ B, wi b a = true) (ba : ∀ b ∈ B, ∃ a ∈ A, wi a b = true) : least A = least B := by
  have half : ∀ {A B : List (List Str)}, RisAll A → RisAll B → (∀ a ∈ A, ∃ b ∈ B, wi b a = true) → (∀ b ∈ B, ∃ a ∈ A, wi a b = true) → ∀ z, z ∈ least A → z ∈ least B := by
    intro A B hA hB ab ba z hz
    obtain ⟨zA, zmin⟩ := (least_mem hA).mp hz
    have key : ∀ b ∈ B, wi b z = true → b = z := by
      intro b hb w
      obtain ⟨a, ha, wa⟩ := ba b hb
      have e := zmin a ha (wi_trans wa w)
      subst e
      exact wi_anti (hB b hb) (hA a ha) w wa
    obtain ⟨b, hb, w⟩ := ab z zA
    have e := key b hb w
    subst e
    exact (least_mem hB).mpr ⟨hb, key⟩
  exact least_one (least_nodup A) (least_nodup B) (least_sorted A) (least_sorted B) fun z => ⟨half hA hB ab ba z, half hB hA ba ab z⟩
theorem least_idem {l : List (List Str)} (h : RisAll l) : least (least l) = least l :=
  least_ext (least_ris h) h (fun a ha => ⟨a, least_sub h ha, wi_self a⟩) fun b hb => least_below hb
def box (N : List Str) : List (List Str) := N.foldl (fun acc n => acc ++ acc.map (· ++ [n])) [[]]
theorem box_snoc (N : List Str) (n : Str) : box (N ++ [n]) = box N ++ (box N).map (· ++ [n]) := by
  unfold box
  rw [List.foldl_append]
  rfl
theorem sub_snoc {x N : List Str} {n : Str} : List.Sublist x (N ++ [n]) ↔ List.Sublist x N ∨ ∃ y, x = y ++ [n] ∧ List.Sublist y N := by
  rw [List.sublist_append_iff]
  constructor
  · rintro ⟨a, b, rfl, ha, hb⟩
    cases hb with
    | cons _ hb =>
      cases hb
      rw [List.append_nil]
      exact .inl ha
    | cons_cons _ hb =>
      cases hb
      exact .inr ⟨a, rfl, ha⟩
  · rintro (h | ⟨y, rfl, hy⟩)
    · exact ⟨x, [], by rw [List.append_nil], h, List.nil_sublist _⟩
    · exact ⟨y, [n], rfl, hy, List.Sublist.refl _⟩
theorem box_sub {N : List Str} : ∀ x, x ∈ box N ↔ List.Sublist x N := by
  refine snoc_ind (p := fun N => ∀ x, x ∈ box N ↔ List.Sublist x N) ?_ (fun N n ih => ?_) N
  · intro x
    show x ∈ [[]] ↔ _
    rw [List.mem_singleton, List.sublist_nil]
  · intro x
    rw [box_snoc, List.mem_append, ih, sub_snoc]
    refine or_congr_right ?_
    rw [List.mem_map]
    constructor
    · rintro ⟨y, hy, rfl⟩
      exact ⟨y, rfl, (ih y).mp hy⟩
    · rintro ⟨y, rfl, hy⟩
      exact ⟨y, (ih y).mpr hy, rfl⟩
theorem box_mem {N x : List Str} (h : Ris N) : x ∈ box N ↔ Ris x ∧ ∀ y ∈ x, y ∈ N := by
  rw [box_sub]
  exact ⟨fun s => ⟨ris_sub s h, fun y hy => s.subset hy⟩, fun ⟨h1, h2⟩ => sublist_of h h1 h2⟩
/-- meets a row -/
def mt (s r : List Str) : Bool := s.any r.contains
theorem mt_iff {s r : List Str} : mt s r = true ↔ ∃ y ∈ s, y ∈ r := by
  unfold mt
  rw [List.any_eq_true]
  exact ⟨fun ⟨y, h1, h2⟩ => ⟨y, h1, List.contains_iff_mem.mp h2⟩, fun ⟨y, h1, h2⟩ => ⟨y, h1, List.contains_iff_mem.mpr h2⟩⟩
theorem mt_mono {s t r : List Str} (w : wi s t = true) (h : mt s r = true) : mt t r = true := by
  obtain ⟨y, h1, h2⟩ := mt_iff.mp h
  exact mt_iff.mpr ⟨y, wi_iff.mp w y h1, h2⟩
/-- meets each row -/
def mtAll (s : List Str) (rows : List (List Str)) : Bool := rows.all (mt s)
theorem mtAll_mono {s t : List Str} {rows : List (List Str)} (w : wi s t = true) (h : mtAll s rows = true) : mtAll t rows = true := by
  unfold mtAll at *
  rw [List.all_eq_true] at *
  exact fun r hr => mt_mono w (h r hr)
/-- the sets of N's names that meet all rows -/
def tr (N : List Str) (rows : List (List Str)) : List (List Str) := (box N).filter fun s => mtAll s rows
theorem tr_mem {N x : List Str} {rows : List (List Str)} (h : Ris N) : x ∈ tr N rows ↔ (Ris x ∧ ∀ y ∈ x, y ∈ N) ∧ mtAll x rows = true := by
  unfold tr
  rw [List.mem_filter, box_mem h]
theorem tr_ris {N : List Str} {rows : List (List Str)} (h : Ris N) : RisAll (tr N rows) := fun x hx => ((tr_mem h).mp hx).1.1
def cand (S : List (List Str)) (r : List Str) : List (List Str) := S.flatMap fun s => if mt s r = true then [s] else r.map fun x => once (s ++ [x])
theorem cand_mem {S : List (List Str)} {r z : List Str} : z ∈ cand S r ↔ ∃ s ∈ S, (mt s r = true ∧ z = s) ∨ (mt s r = false ∧ ∃ x ∈ r, z = once (s ++ [x])) := by
  unfold cand
  rw [List.mem_flatMap]
  refine exists_congr fun s => and_congr_right fun _ => ?_
  cases e : mt s r with
  | true => simp
  | false => simp [eq_comm]
theorem cand_ris {S : List (List Str)} {r : List Str} (h : RisAll S) : RisAll (cand S r) := by
  intro z hz
  obtain ⟨s, hs, h1⟩ := cand_mem.mp hz
  rcases h1 with ⟨_, rfl⟩ | ⟨_, x, _, rfl⟩
  · exact h _ hs
  · exact ris_once _
theorem wi_once {s : List Str} {x : Str} : wi s (once (s ++ [x])) = true := wi_iff.mpr fun y hy => once_mem.mpr (List.mem_append_left _ hy)
/-- ONE ROW MORE: the least sets behind it are the least ones of the candidates -/
theorem berge {N : List Str} {rows : List (List Str)} {r : List Str} (hN : Ris N) (hr : ∀ y ∈ r, y ∈ N) : least (tr N (rows ++ [r])) = least (cand (least (tr N rows)) r) := by
  have rT := tr_ris (rows := rows) hN
  refine least_ext (tr_ris hN) (cand_ris (least_ris rT)) (fun t ht => ?_) fun b hb => ?_
  · obtain ⟨⟨t1, t2⟩, t3⟩ := (tr_mem hN).mp ht
    unfold mtAll at t3
    rw [List.all_append, Bool.and_eq_true] at t3
    obtain ⟨s, hs, w⟩ := least_below ((tr_mem hN).mpr ⟨⟨t1, t2⟩, t3.1⟩)
    cases e : mt s r with
    | true => exact ⟨s, cand_mem.mpr ⟨s, hs, .inl ⟨e, rfl⟩⟩, w⟩
    | false =>
      have m : mt t r = true := by simpa using t3.2
      obtain ⟨x, hx, xr⟩ := mt_iff.mp m
      refine ⟨once (s ++ [x]), cand_mem.mpr ⟨s, hs, .inr ⟨e, x, xr, rfl⟩⟩, wi_iff.mpr fun y hy => ?_⟩
      rcases List.mem_append.mp (once_mem.mp hy) with z | z
      · exact wi_iff.mp w y z
      · have z : y = x := by simpa using z
        rw [z]; exact hx
  · obtain ⟨s, hs, h1⟩ := cand_mem.mp hb
    obtain ⟨⟨s1, s2⟩, s3⟩ := (tr_mem hN).mp (least_sub rT hs)
    rcases h1 with ⟨m, rfl⟩ | ⟨_, x, xr, rfl⟩
    · refine ⟨b, (tr_mem hN).mpr ⟨⟨s1, s2⟩, ?_⟩, wi_self b⟩
      unfold mtAll at *
      rw [List.all_append, s3]
      simpa using m
    · refine ⟨_, (tr_mem hN).mpr ⟨⟨ris_once _, fun y hy => ?_⟩, ?_⟩, wi_self _⟩
      · rcases List.mem_append.mp (once_mem.mp hy) with z | z
        · exact s2 y z
        · have z : y = x := by simpa using z
          rw [z]; exact hr x xr
      · have m := mtAll_mono (wi_once (x := x)) s3
        unfold mtAll at *
        rw [List.all_append, m]
        have : mt (once (s ++ [x])) r = true := mt_iff.mpr ⟨x, once_mem.mpr (List.mem_append_right _ List.mem_cons_self), xr⟩
        simpa using this
theorem least_start {N : List Str} (hN : Ris N) : least (tr N []) = [[]] := by
  have e : least (tr N []) = least [[]] := least_ext (tr_ris hN) (fun x hx => by rw [List.mem_singleton.mp hx]; exact ris_nil) (fun a _ => ⟨[], List.mem_singleton.mpr rfl, rfl⟩) fun b hb => ⟨[], (tr_mem hN).mpr ⟨⟨ris_nil, fun _ z => absurd z List.not_mem_nil⟩, rfl⟩, rfl⟩
  rw [e]
  unfold least rkd
  rw [show ddG ([[]] : List (List Str)) = [[]] from rfl, List.mergeSort_singleton]
  rfl
/-- row by row, from the empty set on -/
def grown (rows : List (List Str)) : List (List Str) := rows.foldl (fun S r => least (cand S r)) [[]]
theorem grown_eq {N : List Str} (hN : Ris N) : ∀ rows : List (List Str), (∀ r ∈ rows, ∀ y ∈ r, y ∈ N) → grown rows = least (tr N rows) := by
  intro rows
  refine snoc_ind (p := fun rows => (∀ r ∈ rows, ∀ y ∈ r, y ∈ N) → grown rows = least (tr N rows)) (fun _ => (least_start hN).symm) (fun rows r ih => ?_) rows
  intro h
  have ih := ih fun r' hr' => h r' (List.mem_append_left _ hr')
  unfold grown at *
  rw [List.foldl_append]
  show least (cand (rows.foldl _ [[]]) r) = _
  rw [ih, berge hN (h r (List.mem_append_right _ List.mem_cons_self))]
end K1
namespace K1
open PySem PySem.Spec PyProof.Rows L2 Srx
/-- x is a least set of the rows -/
def Lst (rows : List (List Str)) (x : List Str) : Prop := Ris x ∧ mtAll x rows = true ∧ ∀ y, Ris y → mtAll y rows = true → wi y x = true → y = x
theorem mtAll_iff {x : List Str} {rows : List (List Str)} : mtAll x rows = true ↔ ∀ r ∈ rows, ∃ y ∈ x, y ∈ r := by
  unfold mtAll
  rw [List.all_eq_true]
  exact forall_congr' fun r => imp_congr_right fun _ => mt_iff
def allN (rows : List (List Str)) : List Str := once rows.flatten
theorem allN_mem {rows : List (List Str)} {r : List Str} {y : Str} (hr : r ∈ rows) (hy : y ∈ r) : y ∈ allN rows := once_mem.mpr (List.mem_flatten.mpr ⟨r, hr, hy⟩)
theorem ris_filter {x : List Str} (p : Str → Bool) (h : Ris x) : Ris (x.filter p) := ris_sub List.filter_sublist h
theorem wi_filter {x : List Str} (p : Str → Bool) : wi (x.filter p) x = true := wi_iff.mpr fun y hy => (List.mem_filter.mp hy).1
theorem grown_mem {rows : List (List Str)} {x : List Str} : x ∈ grown rows ↔ Lst rows x := by
  have hN : Ris (allN rows) := ris_once _
  rw [grown_eq hN rows fun r hr y hy => allN_mem hr hy, least_mem (tr_ris hN), tr_mem hN]
  constructor
  · rintro ⟨⟨⟨h1, h2⟩, h3⟩, h4⟩
    exact ⟨h1, h3, fun y y1 y2 w => h4 y ((tr_mem hN).mpr ⟨⟨y1, fun z hz => h2 z (wi_iff.mp w z hz)⟩, y2⟩) w⟩
  · rintro ⟨h1, h3, h4⟩
    refine ⟨⟨⟨h1, ?_⟩, h3⟩, fun y hy w => ?_⟩
    · have e := h4 (x.filter fun y => decide (y ∈ allN rows)) (ris_filter _ h1) (mtAll_iff.mpr fun r hr => by
        obtain ⟨y, y1, y2⟩ := mtAll_iff.mp h3 r hr
        exact ⟨y, List.mem_filter.mpr ⟨y1, decide_eq_true (allN_mem hr y2)⟩, y2⟩) (wi_filter _)
      intro y hy
      rw [← e] at hy
      exact of_decide_eq_true (List.mem_filter.mp hy).2
    · obtain ⟨⟨y1, y2⟩, y3⟩ := (tr_mem hN).mp hy
      exact h4 y y1 y3 w
theorem grown_nodup (rows : List (List Str)) : (grown rows).Nodup := by
  rw [grown_eq (ris_once _) rows fun r hr y hy => allN_mem hr hy]
  exact least_nodup _
theorem grown_sorted (rows : List (List Str)) : (grown rows).Pairwise (fun a b => leR a b = true) := by
  rw [grown_eq (ris_once _) rows fun r hr y hy => allN_mem hr hy]
  exact least_sorted _
theorem grown_ris (rows : List (List Str)) : RisAll (grown rows) := fun x hx => (grown_mem.mp hx).1
/-- told lists of sets are one where they hold the same -/
theorem grown_one {xs : List (List Str)} {rows : List (List Str)} (n : xs.Nodup) (s : xs.Pairwise (fun a b => leR a b = true)) (h : ∀ z, z ∈ xs ↔ Lst rows z) : xs = grown rows :=
  least_one n (grown_nodup rows) s (grown_sorted rows) fun z => (h z).trans grown_mem.symm
theorem lst_congr {rows rows' : List (List Str)} (h : ∀ x, mtAll x rows = mtAll x rows') {x : List Str} : Lst rows x ↔ Lst rows' x := by
  unfold Lst
  simp only [h]
theorem grown_congr {rows rows' : List (List Str)} (h : ∀ x, mtAll x rows = mtAll x rows') : grown rows = grown rows' :=
  least_one (grown_nodup _) (grown_nodup _) (grown_sorted _) (grown_sorted _) fun z => grown_mem.trans ((lst_congr h).trans grown_mem.symm)
theorem lst_below {rows : List (List Str)} {x : List Str} (hx : Ris x) (h : mtAll x rows = true) : ∃ m, Lst rows m ∧ wi m x = true := by
  have hN : Ris (once (x ++ rows.flatten)) := ris_once _
  have hr : ∀ r ∈ rows, ∀ y ∈ r, y ∈ once (x ++ rows.flatten) := fun r hr y hy => once_mem.mpr (List.mem_append_right _ (List.mem_flatten.mpr ⟨r, hr, hy⟩))
  obtain ⟨m, hm, w⟩ := least_below ((tr_mem (rows := rows) hN).mpr ⟨⟨hx, fun y hy => once_mem.mpr (List.mem_append_left _ hy)⟩, h⟩)
  rw [← grown_eq hN rows hr] at hm
  exact ⟨m, grown_mem.mp hm, w⟩
theorem lst_own {rows : List (List Str)} {x : List Str} : Lst rows x ↔ Ris x ∧ mtAll x rows = true ∧ ∀ y ∈ x, ∃ r ∈ rows, y ∈ r ∧ ∀ z ∈ x, z ∈ r → z = y := by
  constructor
  · rintro ⟨h1, h2, h3⟩
    refine ⟨h1, h2, fun y hy => Classical.byContradiction fun no => ?_⟩
    have e := h3 (x.filter fun z => decide (z ≠ y)) (ris_filter _ h1) (mtAll_iff.mpr fun r hr => ?_) (wi_filter _)
    · rw [← e] at hy
      exact of_decide_eq_true (List.mem_filter.mp hy).2 rfl
    · obtain ⟨z, z1, z2⟩ := mtAll_iff.mp h2 r hr
      by_cases ez : z = y
      · subst ez
        exact Classical.byContradiction fun no2 => no ⟨r, hr, z2, fun u u1 u2 => Classical.byContradiction fun ne => no2 ⟨u, List.mem_filter.mpr ⟨u1, decide_eq_true ne⟩, u2⟩⟩
      · exact ⟨z, List.mem_filter.mpr ⟨z1, decide_eq_true ez⟩, z2⟩
  · rintro ⟨h1, h2, h3⟩
    refine ⟨h1, h2, fun y y1 y2 w => wi_anti y1 h1 w (wi_iff.mpr fun u hu => ?_)⟩
    obtain ⟨r, hr, ur, own⟩ := h3 u hu
    obtain ⟨z, z1, z2⟩ := mtAll_iff.mp y2 r hr
    rw [← own z (wi_iff.mp w z z1) z2]
    exact z1
theorem risAll_once (rows : List (List Str)) : RisAll (rows.map once) := fun x hx => by
  obtain ⟨r, _, rfl⟩ := List.mem_map.mp hx
  exact ris_once r
theorem mtAll_once (x : List Str) (rows : List (List Str)) : mtAll x (rows.map once) = mtAll x rows := by
  rw [Bool.eq_iff_iff, mtAll_iff, mtAll_iff]
  constructor
  · intro h r hr
    obtain ⟨y, y1, y2⟩ := h (once r) (List.mem_map.mpr ⟨r, hr, rfl⟩)
    exact ⟨y, y1, once_mem.mp y2⟩
  · intro h r' hr'
    obtain ⟨r, hr, rfl⟩ := List.mem_map.mp hr'
    obtain ⟨y, y1, y2⟩ := h r hr
    exact ⟨y, y1, once_mem.mpr y2⟩
theorem mtAll_least (x : List Str) (rows : List (List Str)) : mtAll x (least (rows.map once)) = mtAll x rows := by
  rw [← mtAll_once x rows, Bool.eq_iff_iff, mtAll_iff, mtAll_iff]
  constructor
  · intro h r hr
    obtain ⟨m, hm, w⟩ := least_below hr
    obtain ⟨y, y1, y2⟩ := h m hm
    exact ⟨y, y1, wi_iff.mp w y y2⟩
  · exact fun h r hr => h r (least_sub (risAll_once rows) hr)
theorem grown_least_rows (rows : List (List Str)) : grown (least (rows.map once)) = grown rows := grown_congr fun x => mtAll_least x rows
/-- THERE AND BACK: the least sets of the book of the least sets are the least rows -/
theorem grown_grown (rows : List (List Str)) : grown (grown rows) = least (rows.map once) := by
  refine (grown_one (rows := grown rows) (least_nodup _) (least_sorted _) fun z => ?_).symm
  have rB := risAll_once rows
  have row_meets : ∀ r ∈ rows, mtAll (once r) (grown rows) = true := fun r hr => mtAll_iff.mpr fun s hs => by
    obtain ⟨y, y1, y2⟩ := mtAll_iff.mp (grown_mem.mp hs).2.1 r hr
    exact ⟨y, once_mem.mpr y2, y1⟩
  have below : ∀ t, Ris t → mtAll t (grown rows) = true → ∃ r ∈ rows, wi (once r) t = true := by
    intro t ht hm
    refine Classical.byContradiction fun no => ?_
    have hc : mtAll ((allN rows).filter fun y => !decide (y ∈ t)) rows = true := mtAll_iff.mpr fun r hr => Classical.byContradiction fun no2 => no ⟨r, hr, wi_iff.mpr fun y hy => Classical.byContradiction fun ny => no2 ⟨y, List.mem_filter.mpr ⟨allN_mem hr (once_mem.mp hy), by simp [ny]⟩, once_mem.mp hy⟩⟩
    obtain ⟨m, hm2, w⟩ := lst_below (ris_filter _ (ris_once _)) hc
    obtain ⟨y, y1, y2⟩ := mtAll_iff.mp hm m (grown_mem.mpr hm2)
    have := (List.mem_filter.mp (wi_iff.mp w y y2)).2
    simp [y1] at this
  rw [least_mem rB]
  constructor
  · rintro ⟨h1, h2⟩
    obtain ⟨r, hr, rfl⟩ := List.mem_map.mp h1
    refine ⟨ris_once r, row_meets r hr, fun y y1 y2 w => ?_⟩
    obtain ⟨r2, hr2, w2⟩ := below y y1 y2
    have e := h2 (once r2) (List.mem_map.mpr ⟨r2, hr2, rfl⟩) (wi_trans w2 w)
    rw [e] at w2
    exact wi_anti y1 (ris_once r) w w2
  · rintro ⟨h1, h2, h3⟩
    obtain ⟨r, hr, w⟩ := below z h1 h2
    have e := h3 (once r) (ris_once r) (row_meets r hr) w
    refine ⟨List.mem_map.mpr ⟨r, hr, e⟩, fun y hy w2 => ?_⟩
    obtain ⟨r2, hr2, rfl⟩ := List.mem_map.mp hy
    exact h3 (once r2) (ris_once r2) (row_meets r2 hr2) w2
def strike (n : Str) (rows : List (List Str)) : List (List Str) := rows.map fun r => r.filter fun y => decide (y ≠ n)
def away (n : Str) (rows : List (List Str)) : List (List Str) := rows.filter fun r => !r.contains n
theorem away_mem {n : Str} {rows : List (List Str)} {r : List Str} : r ∈ away n rows ↔ r ∈ rows ∧ n ∉ r := by
  unfold away
  rw [List.mem_filter]
  refine and_congr_right fun _ => ?_
  rw [Bool.not_eq_true', ← Bool.not_eq_true, List.contains_iff_mem]
theorem mtAll_strike {n : Str} {rows : List (List Str)} {x : List Str} (hn : n ∉ x) : mtAll x (strike n rows) = mtAll x rows := by
  unfold strike
  rw [Bool.eq_iff_iff, mtAll_iff, mtAll_iff]
  constructor
  · intro h r hr
    obtain ⟨y, y1, y2⟩ := h _ (List.mem_map.mpr ⟨r, hr, rfl⟩)
    exact ⟨y, y1, (List.mem_filter.mp y2).1⟩
  · intro h r' hr'
    obtain ⟨r, hr, rfl⟩ := List.mem_map.mp hr'
    obtain ⟨y, y1, y2⟩ := h r hr
    exact ⟨y, y1, List.mem_filter.mpr ⟨y2, decide_eq_true fun e => hn (e ▸ y1)⟩⟩
theorem lst_strike {n : Str} {rows : List (List Str)} {x : List Str} : Lst (strike n rows) x ↔ Lst rows x ∧ n ∉ x := by
  constructor
  · intro h
    have hn : n ∉ x := fun hx => by
      obtain ⟨r', hr', h1, _⟩ := (lst_own.mp h).2.2 n hx
      obtain ⟨r, hr, rfl⟩ := List.mem_map.mp hr'
      exact of_decide_eq_true (List.mem_filter.mp h1).2 rfl
    obtain ⟨h1, h2, h3⟩ := h
    refine ⟨⟨h1, (mtAll_strike hn).symm.trans h2, fun y y1 y2 w => h3 y y1 ?_ w⟩, hn⟩
    rw [mtAll_strike fun hy => hn (wi_iff.mp w n hy)]
    exact y2
  · rintro ⟨⟨h1, h2, h3⟩, hn⟩
    refine ⟨h1, (mtAll_strike hn).trans h2, fun y y1 y2 w => h3 y y1 ?_ w⟩
    rw [← mtAll_strike fun hy => hn (wi_iff.mp w n hy)]
    exact y2
theorem lst_with {n : Str} {rows : List (List Str)} {x : List Str} : Lst rows x ∧ n ∈ x ↔ ∃ s, Lst (away n rows) s ∧ mtAll s rows = false ∧ x = once (s ++ [n]) := by
  constructor
  · rintro ⟨h, hn⟩
    obtain ⟨h1, h2, h3⟩ := lst_own.mp h
    have ms : ∀ z, z ∈ x.filter (fun z => decide (z ≠ n)) ↔ z ∈ x ∧ z ≠ n := fun z => by
      rw [List.mem_filter, decide_eq_true_iff]
    refine ⟨x.filter fun z => decide (z ≠ n), lst_own.mpr ⟨ris_filter _ h1, mtAll_iff.mpr fun r hr => ?_, fun y hy => ?_⟩, ?_, ?_⟩
    · obtain ⟨r1, r2⟩ := away_mem.mp hr
      obtain ⟨z, z1, z2⟩ := mtAll_iff.mp h2 r r1
      exact ⟨z, (ms z).mpr ⟨z1, fun e => r2 (e ▸ z2)⟩, z2⟩
    · obtain ⟨y1, y2⟩ := (ms y).mp hy
      obtain ⟨r, r1, r2, own⟩ := h3 y y1
      exact ⟨r, away_mem.mpr ⟨r1, fun z => y2 (own n hn z).symm⟩, r2, fun z hz => own z ((ms z).mp hz).1⟩
    · obtain ⟨r, r1, r2, own⟩ := h3 n hn
      refine Bool.eq_false_iff.mpr fun z => ?_
      obtain ⟨u, u1, u2⟩ := mtAll_iff.mp z r r1
      exact ((ms u).mp u1).2 (own u ((ms u).mp u1).1 u2)
    · refine wi_anti h1 (ris_once _) (wi_iff.mpr fun y hy => once_mem.mpr ?_) (wi_iff.mpr fun y hy => ?_)
      · by_cases e : y = n
        · exact List.mem_append_right _ (by rw [e]; exact List.mem_cons_self)
        · exact List.mem_append_left _ ((ms y).mpr ⟨hy, e⟩)
      · rcases List.mem_append.mp (once_mem.mp hy) with z | z
        · exact ((ms y).mp z).1
        · rw [List.mem_singleton.mp z]; exact hn
  · rintro ⟨s, h, bad, rfl⟩
    obtain ⟨h1, h2, h3⟩ := lst_own.mp h
    have mo : ∀ z, z ∈ once (s ++ [n]) ↔ z ∈ s ∨ z = n := fun z => by
      rw [once_mem, List.mem_append, List.mem_singleton]
    refine ⟨lst_own.mpr ⟨ris_once _, mtAll_iff.mpr fun r hr => ?_, fun y hy => ?_⟩, (mo n).mpr (.inr rfl)⟩
    · by_cases hn : n ∈ r
      · exact ⟨n, (mo n).mpr (.inr rfl), hn⟩
      · obtain ⟨y, y1, y2⟩ := mtAll_iff.mp h2 r (away_mem.mpr ⟨hr, hn⟩)
        exact ⟨y, (mo y).mpr (.inl y1), y2⟩
    · rcases (mo y).mp hy with hs | rfl
      · obtain ⟨r, r1, r2, own⟩ := h3 y hs
        obtain ⟨r3, r4⟩ := away_mem.mp r1
        refine ⟨r, r3, r2, fun z hz zr => ?_⟩
        rcases (mo z).mp hz with k | k
        · exact own z k zr
        · exact absurd (k ▸ zr) r4
      · have ex : ∃ r ∈ rows, ¬ ∃ z ∈ s, z ∈ r := Classical.byContradiction fun no => by
          have : mtAll s rows = true := mtAll_iff.mpr fun r hr => Classical.byContradiction fun k => no ⟨r, hr, k⟩
          rw [this] at bad
          cases bad
        obtain ⟨r, hr, none_⟩ := ex
        refine ⟨r, hr, Classical.byContradiction fun ny => none_ ?_, fun z hz zr => ?_⟩
        · obtain ⟨z, z1, z2⟩ := mtAll_iff.mp h2 r (away_mem.mpr ⟨hr, ny⟩)
          exact ⟨z, z1, z2⟩
        · rcases (mo z).mp hz with k | k
          · exact absurd ⟨z, k, zr⟩ none_
          · exact k
end K1
namespace K1
open PySem PySem.Spec PyProof.Rows L2 Srx
/-- sets that meet all, one of them below each that does: their least ones are the least sets -/
theorem least_grown {B rows : List (List Str)} (hB : RisAll B) (all : ∀ b ∈ B, mtAll b rows = true) (below : ∀ x, Ris x → mtAll x rows = true → ∃ b ∈ B, wi b x = true) : least B = grown rows := by
  refine grown_one (least_nodup _) (least_sorted _) fun z => ?_
  rw [least_mem hB]
  constructor
  · rintro ⟨h1, h2⟩
    refine ⟨hB z h1, all z h1, fun y y1 y2 w => ?_⟩
    obtain ⟨b, hb, wb⟩ := below y y1 y2
    have e := h2 b hb (wi_trans wb w)
    rw [e] at wb
    exact wi_anti y1 (hB z h1) w wb
  · rintro ⟨h1, h2, h3⟩
    obtain ⟨b, hb, wb⟩ := below z h1 h2
    have e := h3 b (hB b hb) (all b hb) wb
    subst e
    exact ⟨hb, fun y hy w => h3 y (hB y hy) (all y hy) w⟩
def unions (A B : List (List Str)) : List (List Str) := A.flatMap fun a => B.map fun b => once (a ++ b)
theorem unions_mem {A B : List (List Str)} {z : List Str} : z ∈ unions A B ↔ ∃ a ∈ A, ∃ b ∈ B, z = once (a ++ b) := by
  unfold unions
  rw [List.mem_flatMap]
  refine exists_congr fun a => and_congr_right fun _ => ?_
  rw [List.mem_map]
  exact exists_congr fun b => and_congr_right fun _ => eq_comm
theorem mtAll_append (x : List Str) (A B : List (List Str)) : mtAll x (A ++ B) = (mtAll x A && mtAll x B) := by
  unfold mtAll
  rw [List.all_append]
theorem joined_eq (A B : List (List Str)) : least (unions (grown A) (grown B)) = grown (A ++ B) := by
  refine least_grown (fun z hz => ?_) (fun z hz => ?_) fun x x1 x2 => ?_
  · obtain ⟨a, _, b, _, rfl⟩ := unions_mem.mp hz
    exact ris_once _
  · obtain ⟨a, ha, b, hb, rfl⟩ := unions_mem.mp hz
    rw [mtAll_append, Bool.and_eq_true]
    exact ⟨mtAll_mono (wi_iff.mpr fun y hy => once_mem.mpr (List.mem_append_left _ hy)) (grown_mem.mp ha).2.1, mtAll_mono (wi_iff.mpr fun y hy => once_mem.mpr (List.mem_append_right _ hy)) (grown_mem.mp hb).2.1⟩
  · rw [mtAll_append, Bool.and_eq_true] at x2
    obtain ⟨a, ha, wa⟩ := lst_below x1 x2.1
    obtain ⟨b, hb, wb⟩ := lst_below x1 x2.2
    refine ⟨_, unions_mem.mpr ⟨a, grown_mem.mpr ha, b, grown_mem.mpr hb, rfl⟩, wi_iff.mpr fun y hy => ?_⟩
    rcases List.mem_append.mp (once_mem.mp hy) with z | z
    · exact wi_iff.mp wa y z
    · exact wi_iff.mp wb y z
theorem crossed_eq (A B : List (List Str)) : least (grown A ++ grown B) = grown (unions A B) := by
  refine least_grown (fun z hz => (List.mem_append.mp hz).elim (grown_ris A z) (grown_ris B z)) (fun z hz => mtAll_iff.mpr fun r hr => ?_) fun x x1 x2 => ?_
  · obtain ⟨a, ha, b, hb, rfl⟩ := unions_mem.mp hr
    rcases List.mem_append.mp hz with h | h
    · obtain ⟨y, y1, y2⟩ := mtAll_iff.mp (grown_mem.mp h).2.1 a ha
      exact ⟨y, y1, once_mem.mpr (List.mem_append_left _ y2)⟩
    · obtain ⟨y, y1, y2⟩ := mtAll_iff.mp (grown_mem.mp h).2.1 b hb
      exact ⟨y, y1, once_mem.mpr (List.mem_append_right _ y2)⟩
  · by_cases hA : mtAll x A = true
    · obtain ⟨a, ha, wa⟩ := lst_below x1 hA
      exact ⟨a, List.mem_append_left _ (grown_mem.mpr ha), wa⟩
    · by_cases hB : mtAll x B = true
      · obtain ⟨b, hb, wb⟩ := lst_below x1 hB
        exact ⟨b, List.mem_append_right _ (grown_mem.mpr hb), wb⟩
      · refine absurd (mtAll_iff.mpr fun a ha => Classical.byContradiction fun na => hB (mtAll_iff.mpr fun b hb => ?_)) hA
        obtain ⟨y, y1, y2⟩ := mtAll_iff.mp x2 _ (unions_mem.mpr ⟨a, ha, b, hb, rfl⟩)
        rcases List.mem_append.mp (once_mem.mp y2) with z | z
        · exact absurd ⟨y, y1, z⟩ na
        · exact ⟨y, y1, z⟩
theorem lst_ex {rows : List (List Str)} : (∃ x, Lst rows x) ↔ [] ∉ rows := by
  constructor
  · rintro ⟨x, _, h, _⟩ he
    obtain ⟨y, _, y2⟩ := mtAll_iff.mp h [] he
    exact absurd y2 List.not_mem_nil
  · intro h
    obtain ⟨m, hm, _⟩ := lst_below (rows := rows) (ris_once rows.flatten) (mtAll_iff.mpr fun r hr => by
      cases r with
      | nil => exact absurd hr h
      | cons y r => exact ⟨y, allN_mem hr List.mem_cons_self, List.mem_cons_self⟩)
    exact ⟨m, hm⟩
theorem needed_iff {rows : List (List Str)} {y : Str} : ((∃ x, Lst rows x) ∧ ∀ x, Lst rows x → y ∈ x) ↔ [] ∉ rows ∧ ∃ r ∈ rows, ∀ z ∈ r, z = y := by
  constructor
  · rintro ⟨h1, h2⟩
    have h0 := lst_ex.mp h1
    refine ⟨h0, Classical.byContradiction fun no => ?_⟩
    have hc : mtAll ((allN rows).filter fun z => decide (z ≠ y)) rows = true := mtAll_iff.mpr fun r hr => Classical.byContradiction fun k => no ⟨r, hr, fun z hz => Classical.byContradiction fun ne => k ⟨z, List.mem_filter.mpr ⟨allN_mem hr hz, decide_eq_true ne⟩, hz⟩⟩
    obtain ⟨m, hm, w⟩ := lst_below (ris_filter _ (ris_once _)) hc
    exact of_decide_eq_true (List.mem_filter.mp (wi_iff.mp w y (h2 m hm))).2 rfl
  · rintro ⟨h0, r, hr, hy⟩
    refine ⟨lst_ex.mpr h0, fun x h => ?_⟩
    obtain ⟨z, z1, z2⟩ := mtAll_iff.mp h.2.1 r hr
    rw [← hy z z2]
    exact z1
/-- a name stands in a least set just where it stands in a least row -/
theorem used_iff {rows : List (List Str)} {y : Str} : (∃ x, Lst rows x ∧ y ∈ x) ↔ ∃ r ∈ least (rows.map once), y ∈ r := by
  constructor
  · rintro ⟨x, h, hy⟩
    obtain ⟨r, hr, yr, own⟩ := (lst_own.mp h).2.2 y hy
    obtain ⟨m, hm, w⟩ := least_below (List.mem_map.mpr ⟨r, hr, rfl⟩ : once r ∈ rows.map once)
    obtain ⟨z, z1, z2⟩ := mtAll_iff.mp ((mtAll_least x rows).trans h.2.1) m hm
    have e := own z z1 (once_mem.mp (wi_iff.mp w z z2))
    exact ⟨m, hm, e ▸ z2⟩
  · rintro ⟨r, hr, hy⟩
    rw [← grown_grown] at hr
    obtain ⟨s, hs, ys, _⟩ := (lst_own.mp (grown_mem.mp hr)).2.2 y hy
    exact ⟨s, grown_mem.mp hs, ys⟩
theorem find_first {α : Type} {p : α → Bool} {le : α → α → Prop} : ∀ {l : List α}, l.Pairwise le → ∀ {f : α}, l.find? p = some f → f ∈ l ∧ p f = true ∧ ∀ y ∈ l, p y = true → y = f ∨ le f y
  | [], _, f, h => by cases h
  | a :: l, hp, f, h => by
    obtain ⟨h1, h2⟩ := List.pairwise_cons.mp hp
    rw [List.find?_cons] at h
    cases e : p a with
    | true =>
      rw [e] at h
      cases h
      exact ⟨List.mem_cons_self, e, fun y hy _ => (List.mem_cons.mp hy).imp id (h1 y)⟩
    | false =>
      rw [e] at h
      obtain ⟨k1, k2, k3⟩ := find_first h2 h
      refine ⟨List.mem_cons_of_mem _ k1, k2, fun y hy py => ?_⟩
      rcases List.mem_cons.mp hy with z | z
      · rw [z, e] at py
        cases py
      · exact k3 y z py
theorem leR_refl (a : List Str) : leR a a = true := by
  have := leR_total a a
  simpa using this
/-- the first, by rank, of all sets of N's names that meet all rows: the first least set -/
theorem first_eq {N : List Str} {rows : List (List Str)} (hN : Ris N) (hr : ∀ r ∈ rows, ∀ y ∈ r, y ∈ N) : (rkd (box N)).find? (fun s => mtAll s rows) = (grown rows).head? := by
  rw [grown_eq hN rows hr]
  have mem : ∀ x, x ∈ rkd (box N) ↔ Ris x ∧ ∀ y ∈ x, y ∈ N := fun x => by rw [(rkd_perm _).mem_iff, box_mem hN]
  cases e : (rkd (box N)).find? (fun s => mtAll s rows) with
  | none =>
    have no := List.find?_eq_none.mp e
    cases e2 : least (tr N rows) with
    | nil => rfl
    | cons x l =>
      have hx : x ∈ least (tr N rows) := by rw [e2]; exact List.mem_cons_self
      obtain ⟨k1, k2⟩ := (tr_mem hN).mp (least_sub (tr_ris hN) hx)
      exact absurd k2 (no x ((mem x).mpr k1))
  | some f =>
    obtain ⟨h1, h2, h3⟩ := find_first (rkd_sorted _) e
    obtain ⟨f1, f2⟩ := (mem f).mp h1
    have fT : f ∈ tr N rows := (tr_mem hN).mpr ⟨⟨f1, f2⟩, h2⟩
    have first : ∀ y ∈ tr N rows, leR f y = true := fun y hy => by
      obtain ⟨k1, k2⟩ := (tr_mem hN).mp hy
      rcases h3 y ((mem y).mpr k1) k2 with z | z
      · rw [z]; exact leR_refl f
      · exact z
    have fL : f ∈ least (tr N rows) := (least_mem (tr_ris hN)).mpr ⟨fT, fun y hy w => wi_eq (tr_ris hN y hy) f1 w (leR_len (first y hy))⟩
    cases e2 : least (tr N rows) with
    | nil => rw [e2] at fL; exact absurd fL List.not_mem_nil
    | cons x l =>
      have hx : x ∈ least (tr N rows) := by rw [e2]; exact List.mem_cons_self
      have s := least_sorted (tr N rows)
      rw [e2] at s fL
      have a1 : leR f x = true := first x (least_sub (tr_ris hN) hx)
      have a2 : leR x f = true := by
        rcases List.mem_cons.mp fL with z | z
        · rw [z]; exact leR_refl x
        · exact (List.pairwise_cons.mp s).1 f z
      rw [leR_anti a1 a2]
      rfl
def pareStep (rows : List (List Str)) (left : List Str) (n : Str) : List Str := if mtAll (left.filter fun y => decide (y ≠ n)) rows = true then left.filter fun y => decide (y ≠ n) else left
def pared (rows : List (List Str)) (x : List Str) : List Str := x.reverse.foldl (pareStep rows) x
theorem pare_inv {rows : List (List Str)} : ∀ (ns left done : List Str), Ris left → mtAll left rows = true → (∀ p ∈ done, p ∈ left → mtAll (left.filter fun y => decide (y ≠ p)) rows = false) →
    Ris (ns.foldl (pareStep rows) left) ∧ mtAll (ns.foldl (pareStep rows) left) rows = true ∧ (∀ y ∈ ns.foldl (pareStep rows) left, y ∈ left) ∧ ∀ p, (p ∈ done ∨ p ∈ ns) → p ∈ ns.foldl (pareStep rows) left → mtAll ((ns.foldl (pareStep rows) left).filter fun y => decide (y ≠ p)) rows = false
  | [], left, done, h1, h2, h3 => ⟨h1, h2, fun y hy => hy, fun p hp => h3 p (hp.resolve_right List.not_mem_nil)⟩
  | n :: ns, left, done, h1, h2, h3 => by
    rw [List.foldl_cons]
    have key : ∀ left', left' = pareStep rows left n → Ris left' ∧ mtAll left' rows = true ∧ (∀ y ∈ left', y ∈ left) ∧ ∀ p ∈ n :: done, p ∈ left' → mtAll (left'.filter fun y => decide (y ≠ p)) rows = false := by
      intro left' e
      unfold pareStep at e
      by_cases c : mtAll (left.filter fun y => decide (y ≠ n)) rows = true
      · rw [if_pos c] at e
        subst e
        refine ⟨ris_filter _ h1, c, fun y hy => (List.mem_filter.mp hy).1, fun p hp hpl => ?_⟩
        obtain ⟨p1, p2⟩ := List.mem_filter.mp hpl
        have pn : p ≠ n := of_decide_eq_true p2
        have pd : p ∈ done := (List.mem_cons.mp hp).resolve_left pn
        refine Bool.eq_false_iff.mpr fun z => ?_
        have z2 : mtAll (left.filter fun y => decide (y ≠ p)) rows = true := mtAll_mono (wi_iff.mpr fun y hy => by
          obtain ⟨y1, y2⟩ := List.mem_filter.mp hy
          exact List.mem_filter.mpr ⟨(List.mem_filter.mp y1).1, y2⟩) z
        rw [h3 p pd p1] at z2
        cases z2
      · rw [if_neg c] at e
        subst e
        refine ⟨h1, h2, fun y hy => hy, fun p hp hpl => ?_⟩
        rcases List.mem_cons.mp hp with z | z
        · rw [z]; exact Bool.eq_false_iff.mpr c
        · exact h3 p z hpl
    obtain ⟨k1, k2, k3, k4⟩ := key _ rfl
    obtain ⟨j1, j2, j3, j4⟩ := pare_inv ns (pareStep rows left n) (n :: done) k1 k2 k4
    refine ⟨j1, j2, fun y hy => k3 y (j3 y hy), fun p hp => j4 p ?_⟩
    rcases hp with hp | hp
    · exact .inl (List.mem_cons_of_mem _ hp)
    · rcases List.mem_cons.mp hp with z | z
      · exact .inl (by rw [z]; exact List.mem_cons_self)
      · exact .inr z
theorem pared_lst {rows : List (List Str)} {x : List Str} (h1 : Ris x) (h2 : mtAll x rows = true) : Lst rows (pared rows x) ∧ ∀ y ∈ pared rows x, y ∈ x := by
  obtain ⟨k1, k2, k3, k4⟩ := pare_inv (rows := rows) x.reverse x [] h1 h2 fun p hp => absurd hp List.not_mem_nil
  refine ⟨⟨k1, k2, fun y y1 y2 w => ?_⟩, k3⟩
  refine wi_anti y1 k1 w (wi_iff.mpr fun u hu => Classical.byContradiction fun nu => ?_)
  have z := k4 u (.inr (List.mem_reverse.mpr (k3 u hu))) hu
  have z2 : mtAll ((x.reverse.foldl (pareStep rows) x).filter fun y => decide (y ≠ u)) rows = true := mtAll_mono (wi_iff.mpr fun v hv => List.mem_filter.mpr ⟨wi_iff.mp w v hv, decide_eq_true fun e => nu (e ▸ hv)⟩) y2
  rw [z] at z2
  cases z2
theorem pared_id {rows : List (List Str)} {x : List Str} (h : Lst rows x) : pared rows x = x := by
  obtain ⟨p1, p2⟩ := pared_lst h.1 h.2.1
  exact h.2.2 _ p1.1 p1.2.1 (wi_iff.mpr p2)
theorem pared_iff {rows : List (List Str)} {x : List Str} (h1 : Ris x) (h2 : mtAll x rows = true) : pared rows x = x ↔ Lst rows x := ⟨fun e => e ▸ (pared_lst h1 h2).1, pared_id⟩
end K1
namespace K1
open PySem PySem.Spec PyProof.Rows L2 Gr GxR Srx Skx Dcx
/-- for one in G: if [other for other in found if within(other, one)] == []: found.append(one) -/
theorem keep_loop {K : PySem.W.Frag} {G B : Addr} {gs : List (Addr × List Str)} {H3 H4 : Hp} {σ : L2.St} {D : Ends} {j jo jf : Nat}
    (hG : H4 G = some (.lst (gs.map fun q => V.ref q.1))) (nGB : G ≠ B) (gown : ∀ q ∈ gs, H3 q.1 = some (.lst (q.2.map V.str)) ∧ Nms q.2) (gl : gs.length ≤ 5000) (nB : H3 B = none) (gB0 : Gr H3 H4) (eB0 : H4 B = some (.lst []))
    (hj : j < σ.length) (hjo : jo < σ.length) (hf : σ[jf]? = some (some (.ref B))) (n1 : jf ≠ j) (n2 : jo ≠ j) (n3 : jo ≠ jf)
    (hd : ∀ (v : Option V) (H5 : Hp) (kps : List (Addr × List Str)), Gr H3 H5 → H5 B = some (.lst (kps.map fun q => V.ref q.1)) → List.Sublist kps gs → kps.map (·.2) = (gs.map (·.2)).foldl keep [] → D.nx (σ.set j v) H5) :
    ∃ W : Nat → Nat → L2.St → Hp → Prop, (∃ m, W 0 m σ H4) ∧ ∀ i m' σ H, W i m' σ H →
      ((Itl K G).stop i H ∧ D.nx σ H) ∨ ((Itl K G).go i H ∧ ∃ N : L2.St → Hp → Prop, (∀ σ' H', N σ' H' → ∃ m2, m2 < m' ∧ W (i + 1) m2 σ' H') ∧ ∀ x H', (Itl K G).yld i H x H' → gName j x σ H' fun σ2 H2 =>
        tIfS (tTest (tOp (rEqD K) (tLc (iList K (tVar jf)) (gName jo) (tB (tCall (spLWithin K) [] E0 (tCons (tVar jo) (tCons (tVar j) tNil)))) (tVar jo) [jo]) (tLst tNil))) (tDrop (tBM K "list" rAppend (tVar jf) (tCons (tVar j) tNil))) tNext { D with nx := N, ct := N, bk := D.nx } σ2 H2) := by
  have big : ∀ n : Nat, n ≤ 5000 → n < sizeLine := fun n hn => by rw [sizeLine_eq]; omega
  refine for_list (K := K) (xs := gs.map fun q : Addr × List Str => V.ref q.1) (fun i σ' H5 => Gr H3 H5 ∧ H5 G = some (.lst (gs.map fun q => V.ref q.1)) ∧ ∃ (kps : List (Addr × List Str)), H5 B = some (.lst (kps.map fun q => V.ref q.1)) ∧ List.Sublist kps (gs.take i) ∧ kps.map (·.2) = ((gs.take i).map (·.2)).foldl keep [] ∧ ∃ v, σ' = σ.set j v) ⟨gB0, hG, [], eB0, List.Sublist.refl _, rfl, σ[j], (List.set_getElem_self ..).symm⟩ (fun i σ' H5 _ h => .inl (.inl h.2.1)) (fun i x σ' H5 hx h => ?_) (fun σ' H5 h => ?_)
  · obtain ⟨g5, eG, kps, eB, sub, km, v, rfl⟩ := h
    obtain ⟨q0, hq0, rfl⟩ := get_map hx
    have m0 := List.mem_of_getElem? hq0
    have hi : i < gs.length := (List.getElem?_eq_some_iff.mp hq0).1
    have kl : kps.length ≤ 5000 := by
      have h1 := sub.length_le
      rw [List.length_take] at h1
      omega
    have ksub : ∀ q ∈ kps, q ∈ gs := fun q hq => List.mem_of_mem_take (sub.subset hq)
    show tIfS _ _ _ _ ((σ.set j v).set j (some (.ref q0.1))) H5
    rw [List.set_set]
    have sf : (σ.set j (some (V.ref q0.1)))[jf]? = some (some (.ref B)) := by rw [List.getElem?_set_ne (Ne.symm n1)]; exact hf
    have sj : (σ.set j (some (V.ref q0.1)))[j]? = some (some (.ref q0.1)) := by rw [List.getElem?_set_self hj]
    have sl : jo < (σ.set j (some (V.ref q0.1))).length := by rw [List.length_set]; exact hjo
    generalize hτ : σ.set j (some (V.ref q0.1)) = τ at sf sj sl
    have lo : ∀ z : Option V, ((τ.set jo none).set jo z)[jo]? = some z := fun z => by rw [List.getElem?_set_self (by rw [List.length_set]; exact sl)]
    have lj : ∀ z : Option V, ((τ.set jo none).set jo z)[j]? = some (some (.ref q0.1)) := fun z => by rw [List.getElem?_set_ne n2, List.getElem?_set_ne n2]; exact sj
    refine ⟨.ref B, sf, B, rfl, ⟨_, .inl (.inl eB)⟩, fun D5 nD5 => lc_list (K := K) (xs := kps.map fun q : Addr × List Str => V.ref q.1) (fun k H6 => Gr H5 H6 ∧ H6 D5 = some (.lst (((kps.take k).filter fun q => wi q.2 q0.2).map fun q => V.ref q.1))) ⟨Gr.new nD5, upd_same⟩ (fun k H6 _ h => .inl (.inl (h.1.lst eB))) (fun k x H6 hx h => ?_) (fun H6 h => ?_)⟩
    · obtain ⟨g6, eD5⟩ := h
      obtain ⟨k0, hk0, rfl⟩ := get_map hx
      have hk : k < kps.length := (List.getElem?_eq_some_iff.mp hk0).1
      have g36 := g5.trans g6
      refine ⟨?_, ?_⟩
      · show ((τ.set jo none).set jo _).set jo none = τ.set jo none
        rw [List.set_set, List.set_set]
      refine ⟨.ref k0.1, lo _, .ref q0.1, lj _, k0.1, q0.1, k0.2, q0.2, rfl, .inl (.inl (g36.lst (gown k0 (ksub k0 (List.mem_of_getElem? hk0))).1)), .inl (.inl (g36.lst (gown q0 m0).1)), _, rfl, ?_⟩
      have tk : (kps.take (k + 1)).filter (fun q => wi q.2 q0.2) = (kps.take k).filter (fun q => wi q.2 q0.2) ++ (if wi k0.2 q0.2 = true then [k0] else []) := by
        rw [List.take_add_one, hk0, List.filter_append]
        congr 1
        show List.filter _ [k0] = _
        rw [List.filter_cons]
        rfl
      cases e : wi k0.2 q0.2 with
      | true =>
        rw [show k0.2.all q0.2.contains = true from e]
        refine iteT ⟨.ref k0.1, lo _, _, eD5, ?_, g6.mut nD5, ?_⟩
        · rw [List.length_map]
          refine Nat.lt_of_le_of_lt (List.length_filter_le _ _) ?_
          rw [List.length_take]
          exact big _ (by omega)
        · rw [upd_same, tk, e, List.map_append]
          rfl
      | false =>
        rw [show k0.2.all q0.2.contains = false from e]
        refine iteF ⟨g6, ?_⟩
        rw [tk, e]
        simp only [Bool.false_eq_true, if_false, List.append_nil]
        exact eD5
    · obtain ⟨g6, eD5⟩ := h
      rw [List.length_map, List.take_length] at eD5
      refine ⟨Nat.zero_le _, fun E6 nE6 => ?_⟩
      have g7 : Gr H6 (upd H6 E6 (.lst [])) := Gr.new nE6
      have eE6 : (upd H6 E6 (.lst [])) E6 = some (.lst []) := upd_same
      generalize upd H6 E6 (.lst []) = H7 at g7 eE6
      have g37 := (g5.trans g6).trans g7
      have g57 := g6.trans g7
      have fsub : ∀ q ∈ kps.filter (fun q => wi q.2 q0.2), q ∈ gs := fun q hq => ksub q (List.mem_filter.mp hq).1
      refine ⟨dSS ((kps.filter fun q => wi q.2 q0.2).map (·.2)), dSS (([] : List (Addr × List Str)).map (·.2)), dp_dSS (.inl (.inl (g7.lst eD5))) (fun q hq => .inl (.inl (g37.lst (gown q (fsub q hq)).1))), dp_dSS (.inl (.inl eE6)) (fun q hq => absurd hq List.not_mem_nil), shaped_dSS (fun xs hx => ?_), shaped_dSS (fun xs hx => absurd hx List.not_mem_nil), _, rfl, ?_⟩
      · obtain ⟨q, hq, rfl⟩ := List.mem_map.mp hx
        exact (gown q (fsub q hq)).2
      · rw [eqv_dSS]
        have anyeq : (kps.map (·.2)).any (fun l => wi l q0.2) = kps.any (fun q => wi q.2 q0.2) := by
          rw [List.any_map]
          rfl
        by_cases hany : kps.any (fun q => wi q.2 q0.2) = true
        · have ne1 : ¬ ((kps.filter fun q => wi q.2 q0.2).map (·.2) = ([] : List (Addr × List Str)).map (·.2)) := by
            intro z
            obtain ⟨k0, mk, wk⟩ := List.any_eq_true.mp hany
            have z : (kps.filter fun q => wi q.2 q0.2) = [] := List.map_eq_nil_iff.mp z
            have mf : k0 ∈ kps.filter (fun q => wi q.2 q0.2) := List.mem_filter.mpr ⟨mk, wk⟩
            rw [z] at mf
            exact absurd mf List.not_mem_nil
          rw [decide_eq_false ne1]
          refine iteF ⟨g37, g57.lst eG, kps, g57.lst eB, sub.trans (List.take_sublist_take_left (Nat.le_succ _)), ?_, _, hτ.symm⟩
          rw [take_map hq0, List.foldl_append, ← km]
          exact (if_pos (anyeq.trans hany)).symm
        · have e1 : ((kps.filter fun q => wi q.2 q0.2).map (·.2) = ([] : List (Addr × List Str)).map (·.2)) := by
            have fe : kps.filter (fun q => wi q.2 q0.2) = [] := List.filter_eq_nil_iff.mpr fun q hq z => hany (List.any_eq_true.mpr ⟨q, hq, z⟩)
            rw [fe]
          rw [decide_eq_true e1]
          have eB7 := g57.lst eB
          refine iteT ⟨.ref B, sf, .inl ⟨rfl, _, .inl (.inl eB7)⟩, .ref q0.1, sj, B, _, _, rfl, rfl, eB7, ?_, ?_⟩
          · rw [List.length_map]
            exact big _ (by omega)
          · refine ⟨g37.mut nB, by rw [upd_ne nGB]; exact g57.lst eG, kps ++ [q0], ?_, ?_, ?_, _, hτ.symm⟩
            · rw [upd_same, List.map_append]
              rfl
            · rw [List.take_add_one, hq0]
              exact sub.append (List.Sublist.refl _)
            · rw [take_map hq0, List.foldl_append, List.map_append, ← km]
              exact (if_neg (fun z => hany (anyeq.symm.trans z))).symm
  · obtain ⟨g5, eG, kps, eB, sub, km, v, rfl⟩ := h
    rw [List.length_map, List.take_length] at sub km
    exact hd v H5 kps g5 eB sub km
end K1
namespace K1
open PySem PySem.Spec PyProof.Rows L2 Gr GxR Srx Skx Dcx
theorem dpAll_snoc {K : PySem.W.Frag} {H : Hp} : ∀ {vs : List V} {ds : List PyData} {v : V} {d : PyData}, DpAll K H vs ds → Dp K H v d → DpAll K H (vs ++ [v]) (ds ++ [d])
  | _, _, _, _, .nil, h => .cons h .nil
  | _, _, _, _, .cons r t, h => .cons r (dpAll_snoc t h)
theorem dpAll_len {K : PySem.W.Frag} {H : Hp} : ∀ {vs : List V} {ds : List PyData}, DpAll K H vs ds → vs.length = ds.length
  | _, _, .nil => rfl
  | _, _, .cons _ t => congrArg Nat.succ (dpAll_len t)
/-- a heap but for one object -/
def mask (D : Addr) (H : Hp) : Hp := fun b => if b = D then none else H b
theorem mask_at {D b : Addr} {H : Hp} (h : b ≠ D) : mask D H b = H b := if_neg h
theorem mask_self (D : Addr) (H : Hp) : mask D H D = none := if_pos rfl
theorem mask_upd (D : Addr) (H : Hp) (o : HO) : mask D (upd H D o) = mask D H := by
  funext b
  by_cases h : b = D
  · rw [h, mask_self, mask_self]
  · rw [mask_at h, mask_at h, upd_ne h]
theorem mask_some {D b : Addr} {H : Hp} {o : HO} (h : mask D H b = some o) : b ≠ D ∧ H b = some o := by
  by_cases e : b = D
  · rw [e, mask_self] at h
    cases h
  · exact ⟨e, (mask_at e).symm.trans h⟩
theorem gr_mask {D : Addr} {H H' : Hp} (g : Gr H H') : Gr (mask D H) (mask D H') :=
  ⟨fun b o e n => by
    obtain ⟨h1, h2⟩ := mask_some e
    rw [mask_at h1]
    exact g.at_ b o h2 n, fun b ps e => by
    obtain ⟨h1, h2⟩ := mask_some e
    obtain ⟨p1, e1, k1⟩ := g.tab b ps h2
    exact ⟨p1, by rw [mask_at h1]; exact e1, k1⟩⟩
theorem gr_unmask (D : Addr) (H : Hp) : Gr (mask D H) H :=
  ⟨fun b o e _ => (mask_some e).2, fun b ps e => ⟨ps, (mask_some e).2, fun h => h⟩⟩
/-- what stood where D did not -/
theorem gr_masked {D : Addr} {H H' : Hp} (hD : H D = none) (g : Gr H H') : Gr H (mask D H') :=
  ⟨fun b o e n => by rw [mask_at (ne_of_none e hD)]; exact g.at_ b o e n, fun b ps e => by
    obtain ⟨p1, e1, k1⟩ := g.tab b ps e
    exact ⟨p1, by rw [mask_at (ne_of_none e hD)]; exact e1, k1⟩⟩
/-- [e for k in range(n)]: what is made is read as data -/
theorem lc_data {K : PySem.W.Frag} {D : Addr} {j n : Nat} {σ : L2.St} {vs : List Nat} {te : TE} {H H1 : Hp} {Qd : Hp → Prop} (enc : Nat → PyData) (few : n ≤ 1000) (gr : Gr H H1) (hD : H1 D = none) (hw : ∀ v, wipe ((wipe σ vs).set j (some v)) vs = wipe σ vs)
    (he : ∀ (k : Nat) (H4 : Hp) (Q' : VK), k < n → Gr H H4 → (∃ xs, H4 D = some (.lst xs)) → (∀ v H5, Gr H4 H5 → Dp K (mask D H5) v (enc k) → Q' v H5) → te ((wipe σ vs).set j (some (.int ((0 : Int) + (k : Nat))))) H4 Q')
    (q : ∀ H2, Gr H H2 → Dp K H2 (.ref D) (.list ((List.range n).map enc)) → Qd H2) :
    ∃ W : Nat → Nat → Hp → Prop, (∃ m, W 0 m (upd H1 D (.lst []))) ∧ ∀ i m H, W i m H →
      ((Itr 0 n).stop i H ∧ Qd H) ∨ ((Itr 0 n).go i H ∧ ∃ Nx : Hp → Prop, (∀ H', Nx H' → ∃ m', m' < m ∧ W (i + 1) m' H') ∧ ∀ x H', (Itr 0 n).yld i H x H' → gName j x (wipe σ vs) H' fun σ2 H2 => wipe σ2 vs = wipe σ vs ∧ tYes σ2 H2 fun b H3 =>
        if b = true then te σ2 H3 fun y H4 => ∃ acc, H4 D = some (.lst acc) ∧ acc.length < sizeLine ∧ Nx (upd H4 D (.lst (acc ++ [y]))) else Nx H3) := by
  have hD0 : H D = none := gr.free hD
  refine lc_range (Qd := Qd) (fun i H2 => Gr H H2 ∧ ∃ vs : List V, H2 D = some (.lst vs) ∧ DpAll K (mask D H2) vs ((List.range i).map enc)) ⟨gr.mut hD0, [], upd_same, .nil⟩ (fun i H2 hi h => ?_) (fun H2 h => ?_)
  · obtain ⟨g2, vs, e, a⟩ := h
    refine ⟨hw _, yesIf (he i H2 _ hi g2 ⟨_, e⟩ fun v H5 g5 d => ⟨vs, g5.lst e, ?_, (g2.trans g5).mut hD0, vs ++ [v], upd_same, ?_⟩)⟩
    · rw [dpAll_len a, List.length_map, List.length_range]
      exact small1000 (by omega)
    · rw [mask_upd, List.range_succ, List.map_append]
      exact dpAll_snoc (dpAll_gr (gr_mask g5) _ _ a) d
  · obtain ⟨g2, vs, e, a⟩ := h
    exact q H2 g2 (.lst (.inl (.inl e)) (dpAll_gr (gr_unmask D H2) _ _ a))
end K1
namespace Gr
open PySem PySem.Spec PyProof.Rows L2 GxR
structure GrX (X : Addr → Prop) (H H' : Hp) : Prop where
  at_ : ∀ b o, ¬ X b → H b = some o → NoTbl o → H' b = some o
  tab : ∀ b ps, H b = some (.tbl ps) → ∃ ps', H' b = some (.tbl ps') ∧ (TriplesOk ps.toList → TriplesOk ps'.toList)
  stay : ∀ b o, X b → H b = some o → ∃ o', H' b = some o'
theorem Gr.x {H H' : Hp} (g : Gr H H') (X : Addr → Prop) : GrX X H H' := ⟨fun b o _ e n => g.at_ b o e n, g.tab, fun _ _ _ e => g.some e⟩
theorem GrX.gr {H H' : Hp} (g : GrX (fun _ => False) H H') : Gr H H' := ⟨fun b o e n => g.at_ b o id e n, g.tab⟩
theorem GrX.refl (X : Addr → Prop) (H : Hp) : GrX X H H := (Gr.refl H).x X
theorem GrX.mono {X Y : Addr → Prop} {H H' : Hp} (g : GrX X H H') (h : ∀ b, X b → Y b) (s : ∀ b o, Y b → ¬ X b → H b = some o → NoTbl o) : GrX Y H H' :=
  ⟨fun b o n e k => g.at_ b o (fun z => n (h b z)) e k, g.tab, fun b o hy e => by
    by_cases hx : X b
    · exact g.stay b o hx e
    · exact ⟨o, g.at_ b o hx e (s b o hy hx e)⟩⟩
theorem GrX.has {X : Addr → Prop} {H H' : Hp} (g : GrX X H H') {b : Addr} {o : HO} (e : H b = some o) : ∃ o', H' b = some o' := by
  by_cases h : ∃ ps, o = .tbl ps
  · obtain ⟨ps, rfl⟩ := h
    obtain ⟨p1, e1, _⟩ := g.tab b ps e
    exact ⟨_, e1⟩
  · by_cases hx : X b
    · exact g.stay b o hx e
    · exact ⟨o, g.at_ b o hx e fun ps z => h ⟨ps, z⟩⟩
theorem GrX.free {X : Addr → Prop} {H H' : Hp} (g : GrX X H H') {b : Addr} (e : H' b = none) : H b = none := by
  cases q : H b with
  | none => rfl
  | some o =>
    obtain ⟨o', z⟩ := g.has q
    rw [e] at z
    cases z
theorem GrX.trans {X : Addr → Prop} {H H1 H2 : Hp} (a : GrX X H H1) (b : GrX X H1 H2) : GrX X H H2 :=
  ⟨fun c o h e n => b.at_ c o h (a.at_ c o h e n) n, fun c ps e => by
    obtain ⟨p1, e1, k1⟩ := a.tab c ps e
    obtain ⟨p2, e2, k2⟩ := b.tab c p1 e1
    exact ⟨p2, e2, fun h => k2 (k1 h)⟩, fun c o h e => by
    obtain ⟨o1, e1⟩ := a.stay c o h e
    exact b.stay c o1 h e1⟩
theorem GrX.then {X : Addr → Prop} {H H1 H2 : Hp} (a : GrX X H H1) (b : Gr H1 H2) : GrX X H H2 := a.trans (b.x X)
/-- an object of X, or a new one, is written -/
theorem GrX.put {X : Addr → Prop} {H H' : Hp} {p : Addr} {o : HO} (g : GrX X H H') (h : X p ∨ H p = none) (nt : ∀ ps, H p ≠ some (.tbl ps)) : GrX X H (upd H' p o) :=
  ⟨fun b u n e k => by
    have hb : b ≠ p := by
      rintro rfl
      rcases h with h | h
      · exact n h
      · rw [h] at e; cases e
    rw [upd_ne hb]; exact g.at_ b u n e k, fun b ps e => by
    have hb : b ≠ p := by
      rintro rfl
      exact nt ps e
    obtain ⟨p1, e1, k1⟩ := g.tab b ps e
    exact ⟨p1, by rw [upd_ne hb]; exact e1, k1⟩, fun b u hx e => by
    by_cases hb : b = p
    · subst hb; exact ⟨o, upd_same⟩
    · rw [upd_ne hb]; exact g.stay b u hx e⟩
theorem GrX.lst {X : Addr → Prop} {H H' : Hp} (g : GrX X H H') {a : Addr} {xs : List V} (n : ¬ X a) (e : H a = some (.lst xs)) : H' a = some (.lst xs) := g.at_ a _ n e notbl_lst
theorem GrX.tup {X : Addr → Prop} {H H' : Hp} (g : GrX X H H') {a : Addr} {xs : List V} (n : ¬ X a) (e : H a = some (.tup xs)) : H' a = some (.tup xs) := g.at_ a _ n e notbl_tup
theorem GrX.seq {X : Addr → Prop} {K : PySem.W.Frag} {H H' : Hp} {a : Addr} {xs : List V} (g : GrX X H H') (n : ¬ X a) (h : SqL K H a xs) : SqL K H' a xs := by
  rcases h with (h | ⟨o, h⟩) | h
  · exact .inl (.inl (g.lst n h))
  · exact .inl (.inr ⟨o, g.at_ _ _ n h notbl_frz⟩)
  · exact .inr h
theorem GrX.tabG {X : Addr → Prop} {H H' : Hp} (g : GrX X H H') {P : Addr} (h : TabG H P) : TabG H' P := by
  obtain ⟨ps, e, k⟩ := h
  obtain ⟨p1, e1, k1⟩ := g.tab P ps e
  exact ⟨p1, e1, k1 k⟩
/-- seen from a heap in which X's objects do not stand, nothing but growth -/
theorem GrX.young {X : Addr → Prop} {H0 H H' : Hp} (g0 : Gr H0 H) (g : GrX X H H') (h : ∀ b, X b → H0 b = none) : Gr H0 H' :=
  ⟨fun b o e n => g.at_ b o (fun z => by rw [h b z] at e; cases e) (g0.at_ b o e n) n, fun b ps e => by
    obtain ⟨p1, e1, k1⟩ := g0.tab b ps e
    obtain ⟨p2, e2, k2⟩ := g.tab b p1 e1
    exact ⟨p2, e2, fun h => k2 (k1 h)⟩⟩
end Gr
namespace K1
open PySem PySem.Spec PyProof.Rows L2
def tMethT (C : Addr) (m : Str) (sp : Sp) (E : L2.St → XK) (ta : TE) (t : TA) : TE := fun σ H Q => ta σ H fun x H1 => ∃ a dx fs, x = .ref a ∧ H1 a = some (.ins C dx fs) ∧ fs.lookup m = none ∧ t σ H1 fun vs H2 => sp (.ref a :: vs) H2 Q (E σ)
section
variable {X : Cx} {CX : CXT} {k : Nat} {f C : Addr} {fd : FuncData} {ps : List Str} {sp : Sp} {E : L2.St → XK} {m : Str} {pos apos : Pos} {e o : Expr} {es : List Expr} {ta : TE} {t : TA}
theorem pe_methT {pl : Sem Bool} (he : PE X o ta) (c : Cls X.K C) (hm : Meth X.K C m f) (F : FnOk X.prog X.w X.K X.mg X.base CX k f fd ps sp) (hr : Room k X.A) (hb : Binds X.K fd ps []) (hx : ∀ σ, PassesAt CX X σ (E σ)) (ha : PA X (e :: es) t)
    (h1 : starEach (e :: es) X.env = (false, eval e X.env) :: starEach es X.env := by rfl) (h2 : (backTo pos (starEach es X.env)).any (·.1) = false := by rfl)
    (h3 : eval (.Call (.Attribute o m apos) (e :: es) [] pos) X.env = (do
        let ov ← eval o X.env
        standAt apos.atName
        let (f, first) ← holding [ov] (getMethod ov m pl)
        callWith pos f first (backTo pos (starEach (e :: es) X.env)) (backToKw pos (keywordEach [] X.env))) := by rfl) :
    PE X (.Call (.Attribute o m apos) (e :: es) [] pos) (tMethT C m sp E ta t) := by
  refine ⟨fun pins s σ H Q I h => PySem.W.methodCall_KW (pl := pl) (thn (he.run pins s σ H _ I h) fun u s1 hu => ?_) h3⟩
  obtain ⟨x, H1, I1, rx, a, dx, fs, rfl, ea, l, q⟩ := hu
  obtain rfl : u = Value.ref a := rx
  refine getmeth_ok I1 ea c hm l (PySem.W.callWith_K (first := [.ref a]) (h₀ := X.base) I.ok.mod.kin hm.kp (thn (ha.run pos pins s1 σ H1 _ I1 q) fun us s2 hv => ?_) h1 h2)
  obtain ⟨vs, H2, I2, r, q2⟩ := hv
  exact ⟨I2.kIn, run_fnS (us := .ref a :: us) (vs := .ref a :: vs) F hr hb (hx σ) I2 (.cons rfl r) q2⟩
theorem pe_methT0 {pl : Sem Bool} (he : PE X o ta) (c : Cls X.K C) (hm : Meth X.K C m f) (F : FnOk X.prog X.w X.K X.mg X.base CX k f fd ps sp) (hr : Room k X.A) (hb : Binds X.K fd ps []) (hx : ∀ σ, PassesAt CX X σ (E σ))
    (h3 : eval (.Call (.Attribute o m apos) [] [] pos) X.env = (do
        let ov ← eval o X.env
        standAt apos.atName
        let (f, first) ← holding [ov] (getMethod ov m pl)
        callWith pos f first (backTo pos (starEach [] X.env)) (backToKw pos (keywordEach [] X.env))) := by rfl) :
    PE X (.Call (.Attribute o m apos) [] [] pos) (tMethT C m sp E ta tNil) := by
  refine ⟨fun pins s σ H Q I h => PySem.W.methodCall_KW (pl := pl) (thn (he.run pins s σ H _ I h) fun u s1 hu => ?_) h3⟩
  obtain ⟨x, H1, I1, rx, a, dx, fs, rfl, ea, l, q⟩ := hu
  obtain rfl : u = Value.ref a := rx
  exact getmeth_ok I1 ea c hm l (PySem.W.callWith_K0 (first := [.ref a]) I1.kIn hm.kp (run_fnS (us := [.ref a]) (vs := [.ref a]) F hr hb (hx σ) I1 (.cons rfl .nil) q))
end
end K1
namespace K1
open PySem PySem.Spec PyProof.Rows L2 Gr GxR Srx Skx Dcx
section
variable {P : Program} {w : World} {K : PySem.W.Frag} {mg : Str → Option Value} {base : Heap} {f fM fB fR fA fW : Addr} {fd fdM fdB fdR fdA fdW : FuncData}
def spLAll (K : PySem.W.Frag) : Sp := fun vs H Q _ => ∃ (a b : Addr) (xs : List Str) (ps : List (Addr × List Str)), vs = [.ref a, .ref b] ∧ SqL K H a (xs.map V.str) ∧ SqL K H b (ps.map fun q => V.ref q.1) ∧ (∀ q ∈ ps, SqL K H q.1 (q.2.map V.str)) ∧ Q (.bl (mtAll xs (ps.map (·.2)))) H
theorem box_len (N : List Str) : (box N).length = 2 ^ N.length := by
  refine snoc_ind (p := fun N => (box N).length = 2 ^ N.length) rfl (fun N n ih => ?_) N
  rw [box_snoc, List.length_append, List.length_map, ih, List.length_append, List.length_singleton, Nat.pow_succ]
  omega
/-- [.. one ..]: each made anew, of what else is made on the way -/
theorem lc_fresh2 {K : PySem.W.Frag} {a D : Addr} {j : Nat} {σ : L2.St} {vs : List Nat} {te : TE} {H H1 : Hp} {Qd : Hp → Prop} {ps0 : List (Addr × List Str)} (F : List Str → List Str)
    (hA : SqL K H1 a (ps0.map fun q => V.ref q.1)) (few : ps0.length < sizeLine) (gr : Gr H H1) (hD : H1 D = none) (hw : ∀ v, wipe ((wipe σ vs).set j (some v)) vs = wipe σ vs)
    (he : ∀ q ∈ ps0, ∀ (H4 : Hp) (Q' : VK), Gr H1 H4 → (∀ H5 l, Gr H4 H5 → H5 l = none → Q' (.ref l) (upd H5 l (.lst ((F q.2).map V.str)))) → te ((wipe σ vs).set j (some (.ref q.1))) H4 Q')
    (q : ∀ H2 ps, Gr H1 H2 → Told H1 H2 D ps → ps.map (·.2) = ps0.map (fun q => F q.2) → Qd H2) :
    ∃ W : Nat → Nat → Hp → Prop, (∃ m, W 0 m (upd H1 D (.lst []))) ∧ ∀ i m H, W i m H →
      ((Itl K a).stop i H ∧ Qd H) ∨ ((Itl K a).go i H ∧ ∃ Nx : Hp → Prop, (∀ H', Nx H' → ∃ m', m' < m ∧ W (i + 1) m' H') ∧ ∀ x H', (Itl K a).yld i H x H' → gName j x (wipe σ vs) H' fun σ2 H2 => wipe σ2 vs = wipe σ vs ∧ tYes σ2 H2 fun b H3 =>
        if b = true then te σ2 H3 fun y H4 => ∃ acc, H4 D = some (.lst acc) ∧ acc.length < sizeLine ∧ Nx (upd H4 D (.lst (acc ++ [y]))) else Nx H3) := by
  refine lc_list (xs := ps0.map fun q => V.ref q.1) (Qd := Qd) (fun i H2 => Gr H1 H2 ∧ ∃ ps, Told H1 H2 D ps ∧ ps.map (·.2) = (ps0.take i).map (fun q => F q.2)) ⟨Gr.new hD, [], Told.nil hD, rfl⟩ (fun i H2 _ h => h.1.seq hA) (fun i x H2 hx h => ?_) (fun H2 h => ?_)
  · obtain ⟨g2, ps, T, e⟩ := h
    obtain ⟨q0, hq0, rfl⟩ := get_map hx
    refine ⟨hw _, yesIf (he q0 (List.mem_of_getElem? hq0) H2 _ g2 fun H5 l g5 hl => ⟨_, ?_, ?_, (g2.trans g5).trans (Gr.new hl) |>.mut hD, ps ++ [(l, F q0.2)], (T.gr g5).snoc (g2.trans g5) hl, ?_⟩)⟩
    · rw [upd_ne (ne_of_none (g5.lst T.at_) hl)]
      exact g5.lst T.at_
    · rw [List.length_map]
      have h1 : ps.length = ((ps0.take i).map (fun q => F q.2)).length := by rw [← e, List.length_map]
      rw [h1, List.length_map, List.length_take]
      omega
    · rw [List.map_append, e, take_map hq0]
      rfl
  · obtain ⟨g2, ps, T, e⟩ := h
    rw [List.length_map, List.take_length] at e
    exact q H2 ps g2 T e
theorem sortedT {K : PySem.W.Frag} {H : Hp} {a : Addr} {xs : List Str} {σ : L2.St} {Q : VK} (hs : SqL K H a (xs.map V.str)) (q : ∀ p, H p = none → Q (.ref p) (upd H p (.lst ((srt xs).map V.str)))) :
    tNil σ H fun ys H2 => rSortedD K (fun x : Str => PyData.str x) (V.ref a :: ys) H2 Q := sortedS_texts hs q
def spBox (K : PySem.W.Frag) : Sp := fun vs H Q _ => ∃ (a : Addr) (ns : List Str), vs = [.ref a] ∧ SqL K H a (ns.map V.str) ∧ ns.length ≤ 8 ∧ ∀ p H' bs, Gr H H' → Told H H' p bs → bs.map (·.2) = box (srt ns) → Q (.ref p) H'
end
end K1
namespace K1
open PySem PySem.Spec PyProof.Rows L2 Gr GxR Srx Skx Dcx
section
variable {P : Program} {w : World} {K : PySem.W.Frag} {mg : Str → Option Value} {base : Heap} {f fM fB fR fA fW : Addr} {fd fdM fdB fdR fdA fdW : FuncData}
def spLRanked (K : PySem.W.Frag) : Sp := fun vs H Q _ => ∃ (a : Addr) (ps : List (Addr × List Str)), vs = [.ref a] ∧ SqL K H a (ps.map fun q => V.ref q.1) ∧ (∀ q ∈ ps, SqL K H q.1 (q.2.map V.str)) ∧ ps.length ≤ 5000 ∧
  ∀ (p : Addr) (H' : Hp) (ds : List (Addr × List Str)), Gr H H' → H p = none → H' p = some (.lst (ds.map fun q => V.ref q.1)) → ds.Perm ps → ds.map (·.2) = rkd (ps.map (·.2)) → Q (.ref p) H'
theorem filter_pairwise {α : Type} {r : α → α → Prop} {p : α → Bool} {l : List α} (h : l.Pairwise r) : (l.filter p).Pairwise r := h.sublist List.filter_sublist
/-- the law's own least sets -/
theorem lleast_eq {N : List Str} {rows : List (List Str)} : ((rkd (box N)).filter fun s => mtAll s rows).foldl keep [] = least (tr N rows) := by
  rw [least_eq]
  congr 1
  refine rkd_one ?_ (filter_pairwise (rkd_sorted _)) (rkd_sorted _)
  exact ((rkd_perm (box N)).filter _).trans (rkd_perm _).symm
def spLLeast (K : PySem.W.Frag) : Sp := fun vs H Q _ => ∃ (a b : Addr) (ns : List Str) (ps : List (Addr × List Str)), vs = [.ref a, .ref b] ∧ SqL K H a (ns.map V.str) ∧ Nms ns ∧ ns.length ≤ 8 ∧ SqL K H b (ps.map fun q => V.ref q.1) ∧ (∀ q ∈ ps, SqL K H q.1 (q.2.map V.str)) ∧
  ∀ p H' ks, Gr H H' → Told H H' p ks → ks.map (·.2) = least (tr (srt ns) (ps.map (·.2))) → Q (.ref p) H'
end
end K1
namespace K1
open PySem PySem.Spec PyProof.Rows L2 Gr GxR Srx Skx Dcx
section
variable {P : Program} {w : World} {K : PySem.W.Frag} {mg : Str → Option Value} {base : Heap} {f : Addr} {fd : FuncData}
def numD (rows : List (List Str)) : PyData := .list ((List.range rows.length).map fun i : Nat => .tuple [.int i, dS (srt (rows.getD i []))])
def spNumbered (K : PySem.W.Frag) : Sp := fun vs H Q _ => ∃ (a : Addr) (ps : List (Addr × List Str)), vs = [.ref a] ∧ SqL K H a (ps.map fun q => V.ref q.1) ∧ (∀ q ∈ ps, SqL K H q.1 (q.2.map V.str)) ∧ ps.length ≤ 1000 ∧ ∀ v H', Gr H H' → Dp K H' v (numD (ps.map (·.2))) → Q v H'
theorem sqL_mask {K : PySem.W.Frag} {D a : Addr} {H H' : Hp} {xs : List V} (h : SqL K H a xs) (hD : H D = none) (g : Gr H H') : SqL K (mask D H') a xs := (gr_masked hD g).seq h
def spBest (K : PySem.W.Frag) : Sp := fun vs H Q _ => ∃ (a : Addr) (ps : List (Addr × List Str)), vs = [.ref a] ∧ SqL K H a (ps.map fun q => V.ref q.1) ∧ (∀ q ∈ ps, H q.1 = some (.lst (q.2.map V.str)) ∧ Nms q.2) ∧ ps.length ≤ 5000 ∧
  ∀ (p : Addr) (H' : Hp) (ks : List (Addr × List Str)), Gr H H' → H p = none → H' p = some (.lst (ks.map fun q => V.ref q.1)) → (∀ q ∈ ks, q ∈ ps) → ks.map (·.2) = least (ps.map (·.2)) → Q (.ref p) H'
end
end K1
namespace K1
open PySem PySem.Spec PyProof.Rows L2 Gr GxR Srx Skx Dcx
theorem union_eq {a b : List Str} (ha : a.Nodup) (hb : b.Nodup) : srt (a ++ b.filter fun y => !a.contains y) = once (a ++ b) := by
  refine (once_same ?_ fun y => ?_).symm
  · refine List.nodup_append.mpr ⟨ha, hb.sublist List.filter_sublist, fun x hx y hy e => ?_⟩
    have h1 := (List.mem_filter.mp hy).2
    rw [← e, List.contains_iff_mem.mpr hx] at h1
    cases h1
  · rw [List.mem_append, List.mem_append, List.mem_filter]
    constructor
    · rintro (h | h)
      · exact .inl h
      · by_cases hy : y ∈ a
        · exact .inl hy
        · exact .inr ⟨h, by rw [Bool.not_eq_true', ← Bool.not_eq_true, List.contains_iff_mem]; exact hy⟩
    · rintro (h | h)
      · exact .inl h
      · exact .inr h.1
section
variable {P : Program} {w : World} {K : PySem.W.Frag} {mg : Str → Option Value} {base : Heap} {f : Addr} {fd : FuncData}
def spUnions : Sp := fun vs H Q _ => ∃ (a b : Addr) (ps qs : List (Addr × List Str)), vs = [.ref a, .ref b] ∧ LL H a ps ∧ LL H b qs ∧ (∀ q ∈ ps, q.2.Nodup ∧ q.2.length ≤ 100) ∧ (∀ q ∈ qs, q.2.Nodup ∧ q.2.length ≤ 100) ∧ ps.length * qs.length ≤ 5000 ∧
  ∀ p H' us, Gr H H' → Told H H' p us → us.map (·.2) = unions (ps.map (·.2)) (qs.map (·.2)) → Q (.ref p) H'
theorem unions_snoc (A B : List (List Str)) (a : List Str) : unions (A ++ [a]) B = unions A B ++ B.map fun b => once (a ++ b) := by
  unfold unions
  rw [List.flatMap_append]
  simp
end
end K1
namespace K1
open PySem PySem.Spec PyProof.Rows L2 Gr GxR Srx Skx Dcx
theorem cand_snoc (A : List (List Str)) (s r : List Str) : cand (A ++ [s]) r = cand A r ++ (if mt s r = true then [s] else r.map fun x => once (s ++ [x])) := by
  unfold cand
  rw [List.flatMap_append]
  simp
section
variable {P : Program} {w : World} {K : PySem.W.Frag} {mg : Str → Option Value} {base : Heap} {f : Addr} {fd : FuncData}
def spStep (K : PySem.W.Frag) : Sp := fun vs H Q _ => ∃ (a r : Addr) (ps : List (Addr × List Str)) (row : List Str), vs = [.ref a, .ref r] ∧ LL H a ps ∧ SqL K H r (row.map V.str) ∧ Nms row ∧ (∀ q ∈ ps, Ris q.2 ∧ Nms q.2 ∧ q.2.length ≤ 100) ∧ ps.length * (row.length + 1) ≤ 1100 ∧
  ∀ (p : Addr) (H' : Hp) (ks : List (Addr × List Str)), Gr H H' → H p = none → LL H' p ks → (∀ q ∈ ks, q ∈ ps ∨ H q.1 = none) → ks.map (·.2) = least (cand (ps.map (·.2)) row) → Q (.ref p) H'
end
end K1
namespace K1
open PySem PySem.Spec PyProof.Rows L2 Gr GxR Srx Skx Dcx
theorem for_rev {K : PySem.W.Frag} {a : Addr} {xs : List V} {g : TG} {tb : TS} {D : Ends} {σ : L2.St} {H : Hp} (Pv : Nat → L2.St → Hp → Prop) (h0 : Pv 0 σ H) (hl : ∀ i σ H, i ≤ xs.length → Pv i σ H → SqL K H a xs)
    (hs : ∀ i x σ H, xs.reverse[i]? = some x → Pv i σ H → g x σ H fun σ2 H2 => tb { D with nx := Pv (i + 1), ct := Pv (i + 1), bk := D.nx } σ2 H2) (hd : ∀ σ H, Pv xs.length σ H → D.nx σ H) :
    ∃ W : Nat → Nat → L2.St → Hp → Prop, (∃ m, W 0 m σ H) ∧ ∀ i m σ H, W i m σ H →
      ((Itv K a xs.length).stop i H ∧ D.nx σ H) ∨ ((Itv K a xs.length).go i H ∧ ∃ N : L2.St → Hp → Prop, (∀ σ' H', N σ' H' → ∃ m', m' < m ∧ W (i + 1) m' σ' H') ∧ ∀ x H', (Itv K a xs.length).yld i H x H' → g x σ H' fun σ2 H2 => tb { D with nx := N, ct := N, bk := D.nx } σ2 H2) := by
  refine ⟨fun i m σ H => m = xs.length - i ∧ i ≤ xs.length ∧ Pv i σ H, ⟨xs.length, by simp, Nat.zero_le _, h0⟩, ?_⟩
  rintro i m σ H ⟨rfl, hi, p⟩
  have q := hl i σ H hi p
  by_cases hlt : i < xs.length
  · have hx : xs[xs.length - 1 - i]? = some xs[xs.length - 1 - i] := List.getElem?_eq_getElem (by omega)
    refine .inr ⟨⟨hlt, xs, _, q, hx⟩, Pv (i + 1), fun σ' H' p' => ⟨xs.length - (i + 1), by omega, rfl, hlt, p'⟩, fun x H' y => ?_⟩
    obtain ⟨e, y⟩ := y
    subst e
    exact hs i x σ _ (by rw [List.getElem?_reverse hlt]; exact y xs q) p
  · have e : i = xs.length := by omega
    subst e
    exact .inl ⟨Nat.le_refl _, hd σ H p⟩
section
variable {P : Program} {w : World} {K : PySem.W.Frag} {mg : Str → Option Value} {base : Heap} {f : Addr} {fd : FuncData}
def spPared (K : PySem.W.Frag) : Sp := fun vs H Q _ => ∃ (a b : Addr) (xs : List Str) (ps : List (Addr × List Str)), vs = [.ref a, .ref b] ∧ SqL K H a (xs.map V.str) ∧ xs.length ≤ 1000 ∧ SqL K H b (ps.map fun q => V.ref q.1) ∧ (∀ q ∈ ps, SqL K H q.1 (q.2.map V.str)) ∧
  ∀ p H', Gr H H' → H p = none → H' p = some (.lst ((pared (ps.map (·.2)) xs).map V.str)) → Q (.ref p) H'
theorem pare_len (rows : List (List Str)) : ∀ (ns left : List Str), (ns.foldl (pareStep rows) left).length ≤ left.length
  | [], left => Nat.le_refl _
  | n :: ns, left => by
    rw [List.foldl_cons]
    refine Nat.le_trans (pare_len rows ns _) ?_
    unfold pareStep
    split
    · exact List.length_filter_le _ _
    · exact Nat.le_refl _
end
end K1
namespace K1
open PySem PySem.Spec PyProof.Rows L2 Gr GxR Srx Skx Dcx
section
variable {P : Program} {w : World} {K : PySem.W.Frag} {mg : Str → Option Value} {base : Heap} {f : Addr} {fd : FuncData}
def spLRows (K : PySem.W.Frag) : Sp := fun vs H Q _ => ∃ (a : Addr) (ps : List (Addr × List Str)), vs = [.ref a] ∧ SqL K H a (ps.map fun q => V.ref q.1) ∧ (∀ q ∈ ps, SqL K H q.1 (q.2.map V.str) ∧ Nms q.2) ∧ ps.length ≤ 1000 ∧
  ∀ p H' ks, Gr H H' → Told H H' p ks → ks.map (·.2) = least ((ps.map (·.2)).map srt) → Q (.ref p) H'
end
end K1
namespace K1
open PySem PySem.Spec PyProof.Rows L2 Gr GxR Srx Skx Dcx
section
variable {P : Program} {w : World} {K : PySem.W.Frag} {mg : Str → Option Value} {base : Heap} {f : Addr} {fd : FuncData}
def lenV : Option (List Str) → V
  | some s => .int (s.length : Nat)
  | none => .non
def spFewest (K : PySem.W.Frag) : Sp := fun vs H Q _ => ∃ (a b : Addr) (ns : List Str) (ps : List (Addr × List Str)), vs = [.ref a, .ref b] ∧ SqL K H a (ns.map V.str) ∧ ns.length ≤ 8 ∧ SqL K H b (ps.map fun q => V.ref q.1) ∧ (∀ q ∈ ps, SqL K H q.1 (q.2.map V.str)) ∧
  ∀ H', Gr H H' → Q (lenV ((rkd (box (srt ns))).find? fun s => mtAll s (ps.map (·.2)))) H'
theorem find_take {α : Type} {p : α → Bool} {l : List α} {i : Nat} {x : α} (h : l[i]? = some x) (n : ∀ y ∈ l.take i, p y = false) (hx : p x = true) : l.find? p = some x := by
  have e : l = l.take i ++ x :: l.drop (i + 1) := by
    have hi := (List.getElem?_eq_some_iff.mp h)
    obtain ⟨h1, h2⟩ := hi
    rw [← h2, ← List.drop_eq_getElem_cons h1, List.take_append_drop]
  rw [e, List.find?_append, List.find?_eq_none.mpr (fun y hy => by rw [n y hy]; exact Bool.false_ne_true)]
  rw [List.find?_cons, hx]
  rfl
end
end K1
namespace K1
open PySem PySem.Spec PyProof.Rows L2 Gr GxR Srx Skx Dcx
/-- a dict of True by texts -/
def kvK (l : List Str) : List (Key × V) := l.map fun x => (Sum.inr x, V.bl true)
theorem put_key (l : List Str) (x : Str) : putK (kvK l) (Sum.inr x) (V.bl true) = kvK (once1 l x) := by
  unfold putK kvK once1
  by_cases h : x ∈ l
  · rw [if_pos h, if_pos]
    · rw [List.map_map]
      refine List.map_congr_left fun y hy => ?_
      show (if _ then _ else _) = _
      split <;> rfl
    · rw [List.any_eq_true]
      exact ⟨_, List.mem_map.mpr ⟨x, h, rfl⟩, decide_eq_true rfl⟩
  · rw [if_neg h, if_neg]
    · rw [List.map_append]
      rfl
    · intro z
      rw [List.any_eq_true] at z
      obtain ⟨q, hq, e⟩ := z
      obtain ⟨y, hy, rfl⟩ := List.mem_map.mp hq
      have e := of_decide_eq_true e
      injection e with e
      rw [e] at hy
      exact h hy
theorem keys_map (l : List Str) : (kvK l).map (fun kv => kV kv.1) = l.map V.str := by
  unfold kvK
  rw [List.map_map]
  rfl
theorem srt_ddG (l : List Str) : srt (ddG l) = once l := (once_same (ddG_nodup l) fun y => ddG_mem.symm).symm
theorem any_empty (xss : List (List Str)) : (xss.map dS).any (fun z => PyData.eqv z (dS [])) = decide ([] ∈ xss) := by
  induction xss with
  | nil => rfl
  | cons x r ih =>
    rw [List.map_cons, List.any_cons, ih, eqv_dS]
    by_cases h : x = []
    · simp [h]
    · have h2 : ¬ [] = x := fun z => h z.symm
      simp [h, h2]
theorem hu65 {k : Nat} {A : Around} (hr : Room k A) : A.units + 65 < cLine := by
  have := hr.un
  omega
section
variable {P : Program} {w : World} {K : PySem.W.Frag} {mg : Str → Option Value} {base : Heap} {f : Addr} {fd : FuncData}
def one1 (rows : List (List Str)) : List Str := rows.flatMap fun r => if r.length = 1 then r else []
def needed (rows : List (List Str)) : List Str := if [] ∈ rows then [] else once (one1 rows)
def spNeeded (K : PySem.W.Frag) : Sp := fun vs H Q _ => ∃ (a : Addr) (ps : List (Addr × List Str)), vs = [.ref a] ∧ SqL K H a (ps.map fun q => V.ref q.1) ∧ (∀ q ∈ ps, SqL K H q.1 (q.2.map V.str) ∧ Nms q.2) ∧ ps.length ≤ 1000 ∧
  ∀ p H', Gr H H' → H p = none → H' p = some (.lst ((needed (ps.map (·.2))).map V.str)) → Q (.ref p) H'
end
end K1
end
section
set_option maxHeartbeats 4000000
/-! {e for x in xs for y in x}: a set of texts out of two walks. -/
namespace Sc2
open PySem PySem.Spec PyProof.Rows L2 Sx Srx
abbrev two (e t0 i0 : Expr) (f0 : List Expr) (t1 i1 : Expr) (f1 : List Expr) (sc : Scope) (p : Pos) : Expr := .SetComp e [⟨t0, i0, f0, 0⟩, ⟨t1, i1, f1, 0⟩] sc p
theorem turn_a (e t0 i0 t1 i1 : Expr) (f0 f1 : List Expr) (sc : Scope) (p : Pos) (it acc : Value) (env : Env) :
    compTurn (two e t0 i0 f0 t1 i1 f1 sc p) 0 it acc env = (do
      standAt i0.pos
      match ← pyNext it with
      | none => pure (.done .next)
      | some v => do
        letOwnedTupleGo t0 it v
        assign t0 env v
        let mut keeps := true
        for c in f0 do
          if keeps then keeps ← isTrue c env (eval c env)
        if keeps then
          let src ← eval i1 env
          standAt i1.pos
          let src ← foldedSetIterable i1 env src
          let _ ← runOwn (.compStart (two e t0 i0 f0 t1 i1 f1 sc p) 1 (← holding [src] (pyIter src)) acc env) env
        again (.compLoop (two e t0 i0 f0 t1 i1 f1 sc p) 0 it acc env)) := by rfl
theorem turn_b (e t0 i0 t1 i1 : Expr) (f0 f1 : List Expr) (sc : Scope) (p : Pos) (it acc : Value) (env : Env) :
    compTurn (two e t0 i0 f0 t1 i1 f1 sc p) 1 it acc env = (do
      standAt i1.pos
      match ← pyNext it with
      | none => pure (.done .next)
      | some v => do
        letOwnedTupleGo t1 it v
        assign t1 env v
        let mut keeps := true
        for c in f1 do
          if keeps then keeps ← isTrue c env (eval c env)
        if keeps then
          (do let y ← eval e env; standAt e.pos; let _ ← call (.builtin "set.add") [acc, y])
        again (.compLoop (two e t0 i0 f0 t1 i1 f1 sc p) 1 it acc env)) := by rfl
section
variable {P : Program} {w : World} {A : Around} {R : Result → Shared → Prop} {s : Shared} {e t0 i0 t1 i1 : Expr} {f0 f1 : List Expr} {sc : Scope} {p : Pos} {it acc : Value} {env : Env}
abbrev nb (P : Program) (w : World) (A : Around) (env : Env) (R : Result → Shared → Prop) : Value → Shared → Prop := notedBy (model P w) A env fun x s' => R (.error x) s'
abbrev tests (fs : List Expr) (env : Env) : Sem Bool := forIn fs true fun c r => if r = true then do let ok ← isTrue c env (eval c env); pure (ForInStep.yield ok) else pure (ForInStep.yield r)
/-- the outer walk -/
theorem loop_a (hs : ∀ x, foldedSetIterable i1 env x = pure x) (J : Nat → Shared → Prop)
    (go : ∀ n s, J n s → wpAny (model P w) A (pyNext it) (fun r sa => match r with
      | none => R (.ok .next) sa
      | some v => wpAny (model P w) A (letOwnedTupleGo t0 it v) (fun _ sb => wpAny (model P w) A (assign t0 env v) (fun _ sc' => wpAny (model P w) A (tests f0 env) (fun k sd =>
            if k = true then wpAny (model P w) A (eval i1 env) (fun x se => wpAny (model P w) A (pyIter x) (fun it1 sf =>
              codeAny (model P w) A (.compStart (two e t0 i0 f0 t1 i1 f1 sc p) 1 it1 acc env) (fun r s' => match r with
                | .ok _ => ∃ m, m < n ∧ J m s'
                | .error _ => False) sf) (nb P w A env R) se) (nb P w A env R) sd
            else ∃ m, m < n ∧ J m sd) (nb P w A env R) sc') (nb P w A env R) sb) (nb P w A env R) sa) (nb P w A env R) s)
    (n : Nat) (h : J n s) : codeAny (model P w) A (.compLoop (two e t0 i0 f0 t1 i1 f1 sc p) 0 it acc env) R s := by
  refine codeAny_loop rfl J (fun n s hJ => ?_) n h
  show wpAny _ A ((compTurn (two e t0 i0 f0 t1 i1 f1 sc p) 0 it acc env).onRaise (fun x => do noteFrame x env; theTreesLotGoes x)) _ _ s
  refine wpAny_noted ?_
  rw [turn_a]
  refine wpAny_bind (wpAny_standAt (wpAny_bind (wpAny_mono (go n s hJ) (fun r sa ha => ?_) fun _ _ z => z)))
  cases r with
  | none => exact wpAny_pure ha
  | some v =>
    refine wpAny_bind (wpAny_mono ha (fun _ sb hb => wpAny_bind (wpAny_mono hb (fun _ sc' hc => wpAny_bind (wpAny_mono hc (fun k sd hd => ?_) fun _ _ z => z)) fun _ _ z => z)) fun _ _ z => z)
    cases k with
    | false => exact wpAny_pure ⟨rfl, hd⟩
    | true =>
      refine wpAny_bind (wpAny_mono hd (fun x se he => wpAny_bind (wpAny_standAt (wpAny_bind (wpAny_of_eq (hs x) (wpAny_bind (wpAny_holding (wpAny_mono he (fun it1 sf hf => ?_) fun _ _ z => z))))))) fun _ _ z => z)
      refine wpAny_bind (wpAny_runOwn ?_)
      rw [Around.mark_none]
      refine codeAny_mono hf fun r s' hr => ?_
      cases r with
      | error y => exact hr.elim
      | ok y => first | exact wpAny_pure ⟨rfl, hr⟩ | exact wpAny_bind (wpAny_pure (wpAny_pure ⟨rfl, hr⟩))
/-- the inner one -/
theorem loop_b (J : Nat → Shared → Prop)
    (go : ∀ n s, J n s → wpAny (model P w) A (pyNext it) (fun r sa => match r with
      | none => R (.ok .next) sa
      | some v => wpAny (model P w) A (letOwnedTupleGo t1 it v) (fun _ sb => wpAny (model P w) A (assign t1 env v) (fun _ sc' => wpAny (model P w) A (tests f1 env) (fun k sd =>
            if k = true then wpAny (model P w) A (eval e env) (fun x se => wpAny (model P w) A (call (.builtin "set.add") [acc, x]) (fun _ sf => ∃ m, m < n ∧ J m sf) (nb P w A env R) se) (nb P w A env R) sd
            else ∃ m, m < n ∧ J m sd) (nb P w A env R) sc') (nb P w A env R) sb) (nb P w A env R) sa) (nb P w A env R) s)
    (n : Nat) (h : J n s) : codeAny (model P w) A (.compLoop (two e t0 i0 f0 t1 i1 f1 sc p) 1 it acc env) R s := by
  refine codeAny_loop rfl J (fun n s hJ => ?_) n h
  show wpAny _ A ((compTurn (two e t0 i0 f0 t1 i1 f1 sc p) 1 it acc env).onRaise (fun x => do noteFrame x env; theTreesLotGoes x)) _ _ s
  refine wpAny_noted ?_
  rw [turn_b]
  refine wpAny_bind (wpAny_standAt (wpAny_bind (wpAny_mono (go n s hJ) (fun r sa ha => ?_) fun _ _ z => z)))
  cases r with
  | none => exact wpAny_pure ha
  | some v =>
    refine wpAny_bind (wpAny_mono ha (fun _ sb hb => wpAny_bind (wpAny_mono hb (fun _ sc' hc => wpAny_bind (wpAny_mono hc (fun k sd hd => ?_) fun _ _ z => z)) fun _ _ z => z)) fun _ _ z => z)
    cases k with
    | false => exact wpAny_pure ⟨rfl, hd⟩
    | true => exact wpAny_bind (wpAny_bind (wpAny_mono hd (fun x se he => wpAny_bind (wpAny_standAt (wpAny_bind (wpAny_mono he (fun _ sf hf => wpAny_pure (wpAny_pure ⟨rfl, hf⟩)) fun _ _ z => z)))) fun _ _ z => z))
theorem start_b (h0 : codeAny (model P w) A (.compLoop (two e t0 i0 f0 t1 i1 f1 sc p) 1 it acc env) R s)
    (h : wpAny (model P w) A (pyIter it) (fun j s' => codeAny (model P w) A (.compLoop (two e t0 i0 f0 t1 i1 f1 sc p) 1 j acc env) R s') (nb P w A env R) s) :
    codeAny (model P w) A (.compStart (two e t0 i0 f0 t1 i1 f1 sc p) 1 it acc env) R s := by
  refine codeAny_of_tree ?_
  show wpAny _ _ ((compStart (two e t0 i0 f0 t1 i1 f1 sc p) 1 it acc env).onRaise (fun x => do noteFrame x env; standAt theWindowsPlace)) _ _ s
  refine wpAny_notedAt ?_
  unfold compStart
  show wpAny _ _ (ask >>= _) _ _ s
  refine wpAny_bind (wpAny_askSetting (wpAny_ite ?_))
  split
  · first | exact wpAny_pure ⟨rfl, h0⟩ | exact wpAny_bind (wpAny_pure (wpAny_pure ⟨rfl, h0⟩))
  · first
      | exact wpAny_bind (wpAny_rule (wpAny_bind (wpAny_standAt (wpAny_bind (wpAny_mono h (fun j s' z => wpAny_pure ⟨rfl, z⟩) fun _ _ z => z)))))
      | (refine wpAny_bind (wpAny_rule ?_); show wpAny _ _ (standAt i1.pos >>= _) _ _ s; exact wpAny_bind (wpAny_standAt (wpAny_bind (wpAny_mono h (fun j s' z => wpAny_pure ⟨rfl, z⟩) fun _ _ z => z))))
end
section
variable {X : Cx}
/-- set.add of a text -/
theorem add_ok {pins : List (Addr × Obj)} {σ : L2.St} {H : Hp} {s : Shared} {E : Value → Shared → Prop} {D : Addr} {ks : List Str} {y : Str} {u : Value} {Q : Value → Shared → Prop} (I : Inv X pins σ H s) (hD : H D = some (SetTx X.w D ks)) (room : ks.length + 1 < scanBound) (ru : RelV (.str y) u)
    (h : ∀ s', Inv X pins σ (upd H D (SetTx X.w D (Sx.once ks y))) s' → Q .none s') : wpAny (model X.prog X.w) X.A (call (.builtin "set.add") [.ref D, u]) Q E s := by
  obtain ⟨tk, rfl⟩ : ∃ tk, u = Value.str y tk := ru
  have R := setTx_get I hD
  have hS : s.heap.SetOf (PySem.strKind X.prog X.w) D (fun x => decide (x ∈ ks)) ks.length := R.setOf
  refine wpAny_call_entry F.slot_set_add hS.typeIs F.entry_set_add ?_ (F.args_set_add_2 _ _)
  unfold Builtin.«set.add» Builtin.Frozenset.oneOther
  simp only [List.isEmpty_nil, bind_assoc]
  unfold Builtin.Frozenset.addrOf setAdd
  refine wpAny_bind (wpAny_pure ?_)
  try dsimp only
  refine wpAny_bind (wpAny_pure ?_)
  try dsimp only
  refine wpAny_bind (wpAny_holding (wpAny_bind ((PySem.strKind X.prog X.w).pyHash (k := y) (strKind_is X.prog X.w y tk) ?_)))
  refine put_hashed (s := { s with toks := s.toks + 1 }) R room fun h' b sb new => ?_
  show wpAny _ _ (ret Value.none) _ _ _
  have he : ∃ q, h'.get? D = some q := by
    obtain ⟨o, _, _, _, ho, _⟩ := id new
    exact ⟨o, ho⟩
  exact wpAny_pure ⟨_, rfl, h _ (I.write (e := D) (t' := s.toks + 1) (by rw [hD]; trivial) (.inl rfl) (fun b u hb hu => (sb.2 b hb).trans hu) he (setTx_new new))⟩
/-- {y for .. for ..}: D the new set -/
def tSc2 (w : World) (wi : TI) (g : TG) (tt : TT) (wi1 : TI) (g1 : TG) (tt1 : TT) (te : TE) (vs vs1 : List Nat) : TE := fun σ H Q => wi σ H fun J H1 => ∀ D, H1 D = none → ∃ W : Nat → Nat → Hp → Prop, (∃ m, W 0 m (upd H1 D (SetTx w D []))) ∧ ∀ i m H, W i m H →
  (J.stop i H ∧ Q (.ref D) H) ∨ (J.go i H ∧ ∃ Nx : Hp → Prop, (∀ H', Nx H' → ∃ m', m' < m ∧ W (i + 1) m' H') ∧ ∀ x H', J.yld i H x H' → g x (wipe σ vs) H' fun σ2 H2 => wipe σ2 vs = wipe σ vs ∧ tt σ2 H2 fun b H3 =>
    if b = true then wi1 σ2 H3 fun J1 H4 => ∃ W1 : Nat → Nat → Hp → Prop, (∃ m, W1 0 m H4) ∧ ∀ j k H, W1 j k H →
      (J1.stop j H ∧ Nx H) ∨ (J1.go j H ∧ ∃ Nx1 : Hp → Prop, (∀ H', Nx1 H' → ∃ k', k' < k ∧ W1 (j + 1) k' H') ∧ ∀ x H', J1.yld j H x H' → g1 x (wipe σ2 vs1) H' fun σ3 H5 => wipe σ3 vs1 = wipe σ2 vs1 ∧ tt1 σ3 H5 fun b H6 =>
        if b = true then te σ3 H6 fun y H7 => ∃ x ks, y = .str x ∧ H7 D = some (SetTx w D ks) ∧ ks.length + 1 < scanBound ∧ Nx1 (upd H7 D (SetTx w D (Sx.once ks x))) else Nx1 H6)
    else Nx H3)
abbrev benv (X : Cx) (sc : Scope) (s : Shared) : Env := compEnvC sc (cellsFrom (s.heap.objs.size + 1) sc.names (cloFrom X.env.cells sc.names [])) s.heap.objs.size X.env
theorem newset {M : World} {P : Program} {A : Around} {E : Value → Shared → Prop} {s : Shared} {Q : Value → Shared → Prop} (h : Q (.ref s.heap.objs.size) { s with heap := s.heap.push (setObj0 M) }) : wpAny (model P M) A (newSet (.type "set")) Q E s := PpSet.newSet_ok h
theorem core {pins : List (Addr × Obj)} {s : Shared} {σ : L2.St} {H : Hp} {Q : VK} {e t0 i0 t1 i1 : Expr} {f0 f1 : List Expr} {sc : Scope} {own : List (Str × Nat)} {vs1 : List Nat} {p p' : Pos} {wi wi1 : TI} {g g1 : TG} {tt tt1 : TT} {te : TE} {Qf : Value → Shared → Prop}
    (hc : X.calm = true) (hN : X.N.Nodup) (I : Inv X pins σ H s) (hi : PI X t0 i0 wi) (ok : BlkOk X.N X.env.scope sc own) (hv : ∀ i ∈ vs1, i ∈ own.map (·.2))
    (hg : ∀ (s : Shared) (H : Hp) (C : Addr) (cl : List (Str × Addr)) (fp : List Addr), PG (X.blk s H sc (compEnvC sc cl C X.env) fp) t0 g) (ht : ∀ (s : Shared) (H : Hp) (C : Addr) (cl : List (Str × Addr)) (fp : List Addr), PTs (X.blk s H sc (compEnvC sc cl C X.env) fp) f0 tt)
    (he : ∀ (s : Shared) (H : Hp) (C : Addr) (cl : List (Str × Addr)) (fp : List Addr), PE (X.blk s H sc (compEnvC sc cl C X.env) fp) e te) (hs : ∀ x, foldedSetIterable i0 X.env x = pure x)
    (hi1 : ∀ (s : Shared) (H : Hp) (C : Addr) (cl : List (Str × Addr)) (fp : List Addr), PI (X.blk s H sc (compEnvC sc cl C X.env) fp) t1 i1 wi1)
    (hg1 : ∀ (s : Shared) (H : Hp) (C : Addr) (cl : List (Str × Addr)) (fp : List Addr), PG (X.blk s H sc (compEnvC sc cl C X.env) fp) t1 g1)
    (ht1 : ∀ (s : Shared) (H : Hp) (C : Addr) (cl : List (Str × Addr)) (fp : List Addr), PTs (X.blk s H sc (compEnvC sc cl C X.env) fp) f1 tt1) (hs1 : ∀ env x, foldedSetIterable i1 env x = pure x)
    (h : tSc2 X.w wi g tt wi1 g1 tt1 te (own.map (·.2)) vs1 σ H Q)
    (hRR : ∀ D C s' m H', Inv X pins σ H' s' → Q (.ref D) H' → s'.heap.Ns C m → FpOk X pins H' C → compPost (model X.prog X.w) X.A X.xe none Qf (.ref D) C (.ok .next) s') :
    wpAny (model X.prog X.w) X.A (comprehension (two e t0 i0 f0 t1 i1 f1 sc p) sc X.env p' (newSet (.type "set")) false (eval i0 X.env) none) Qf X.xe s := by
  have hfree : ∀ y ∈ sc.names, y.2 = .free → ∃ c, X.env.cells.lookup y.1 = some c := by
    intro y hy z
    exact (ok.free y hy z).elim (fun k => I.ok.has _ (.inl k)) fun k => I.ok.has _ (.inr k)
  refine wpAny_comprehension_free (use := none) rfl hs (closure_ok hfree) ok.kind (fun y hy z => by rw [ok.uniq y hy, z]) (thn (hi.run pins s σ H _ I h) fun _ _ hx => thn hx fun itv s2 h2 => ?_)
  obtain ⟨it, fp, tn, J, H2, rfl, I2, T, st2, f2, q⟩ := h2
  refine newset (newEnv_comp ?_)
  generalize hD : s2.heap.objs.size = D
  have nD : H2 D = none := I2.hok.fresh (Nat.le_of_eq hD)
  obtain ⟨W, ⟨m0, w0⟩, turn⟩ := q D nD
  generalize hs3 : ({ s2 with heap := s2.heap.push (setObj0 X.w) } : Shared) = s3
  have h3 : s3.heap = s2.heap.push (setObj0 X.w) := by subst hs3; rfl
  have I3 : Inv X pins σ (upd H2 D (SetTx X.w D [])) s3 := by
    subst hs3 hD
    exact I2.laid (t' := s2.toks) (fun _ _ z => Heap.get?_push_of_some _ z) (Nat.le_refl _) (setTx_new (setS_fresh (Heap.get?_push_size _ rfl)))
  have f3 : ∀ b ∈ fp, FpOk X pins (upd H2 D (SetTx X.w D [])) b ∧ b < s3.heap.objs.size := by
    intro b hb
    obtain ⟨o, z, _⟩ := T.obj _ _ st2 b hb
    have lt := Heap.lt_size z
    refine ⟨⟨?_, (f2 b hb).2⟩, by rw [h3, Heap.size_push]; exact Nat.lt_succ_of_lt lt⟩
    rw [upd_ne (by subst hD; exact Nat.ne_of_lt lt)]
    exact (f2 b hb).1
  have st3 : tn 0 s3.heap := T.keep _ _ _ st2 fun b _ o z => by
    rw [h3]; exact Heap.get?_push_of_some _ z
  have I4 := block_start I3 ok hN f3
  show codeAny _ _ (.compStart (two e t0 i0 f0 t1 i1 f1 sc p) 0 (.ref it) (.ref D) (benv X sc s3)) (compPost (model X.prog X.w) X.A X.xe none Qf (.ref D) s3.heap.objs.size) { s3 with heap := pushCells (s3.heap.push { cls := .type "dict", data := .dict #[] }) sc.names }
  have pg := hg s3 (upd H2 D (SetTx X.w D [])) s3.heap.objs.size (cellsFrom (s3.heap.objs.size + 1) sc.names (cloFrom X.env.cells sc.names [])) fp
  have pt := ht s3 (upd H2 D (SetTx X.w D [])) s3.heap.objs.size (cellsFrom (s3.heap.objs.size + 1) sc.names (cloFrom X.env.cells sc.names [])) fp
  have pe := he s3 (upd H2 D (SetTx X.w D [])) s3.heap.objs.size (cellsFrom (s3.heap.objs.size + 1) sc.names (cloFrom X.env.cells sc.names [])) fp
  have qi := hi1 s3 (upd H2 D (SetTx X.w D [])) s3.heap.objs.size (cellsFrom (s3.heap.objs.size + 1) sc.names (cloFrom X.env.cells sc.names [])) fp
  have qg := hg1 s3 (upd H2 D (SetTx X.w D [])) s3.heap.objs.size (cellsFrom (s3.heap.objs.size + 1) sc.names (cloFrom X.env.cells sc.names [])) fp
  have qt := ht1 s3 (upd H2 D (SetTx X.w D [])) s3.heap.objs.size (cellsFrom (s3.heap.objs.size + 1) sc.names (cloFrom X.env.cells sc.names [])) fp
  have n3 : ∀ b ∈ fp, (upd H2 D (SetTx X.w D [])) b = none := fun b hb => (f3 b hb).1.1
  generalize hce : benv X sc s3 = ce
  rw [show compEnvC sc (cellsFrom (s3.heap.objs.size + 1) sc.names (cloFrom X.env.cells sc.names [])) s3.heap.objs.size X.env = ce from hce] at I4 pg pt pe qi qg qt
  have cL : ce.locals = s3.heap.objs.size := by subst hce; rfl
  generalize hH3 : upd H2 D (SetTx X.w D []) = H3 at I3 I4 pg pt pe qi qg qt w0 n3 f3
  generalize hs4 : ({ s3 with heap := pushCells (s3.heap.push { cls := .type "dict", data := .dict #[] }) sc.names } : Shared) = s4 at I4 ⊢
  have st4 : tn 0 s4.heap := T.keep _ _ _ st3 fun b _ o z => by
    subst hs4
    exact pushCells_keeps _ _ _ _ (Heap.get?_push_of_some _ z)
  have stat : ∀ {σ' : L2.St} {H' : Hp} {s' : Shared}, Inv (X.blk s3 H3 sc ce fp) [] σ' H' s' → (∀ b ∈ fp, H' b = none) → ∀ b ∈ fp, FpOk (X.blk s3 H3 sc ce fp) [] H' b := by
    intro σ' H' s' I' hn b hb
    exact ⟨hn b hb, (I'.ok.exf b hb).1, I'.ok.exfs b hb, .inl hb, fun x c z => (I'.ok.exf b hb).2 x c z, fun q hq => absurd (show q ∈ ([] : List (Addr × Obj)) ++ [] from hq) (by simp)⟩
  let JJ : Nat → Shared → Prop := fun n s' => ∃ i H', Inv (X.blk s3 H3 sc ce fp) [] (wipe σ (own.map (·.2))) H' s' ∧ tn i s'.heap ∧ (∀ b ∈ fp, H' b = none) ∧ W i n H'
  have loop : codeAny (model X.prog X.w) X.A (.compLoop (two e t0 i0 f0 t1 i1 f1 sc p) 0 (.ref it) (.ref D) ce) (compPost (model X.prog X.w) X.A X.xe none Qf (.ref D) s3.heap.objs.size) s4 := ?loop
  exact PpSet.codeAny_compStart_set loop (T.self X.A 0 _ _ _ st4 loop)
  refine loop_a (hs1 ce) JJ ?_ m0 ⟨0, H3, I4, st4, n3, w0⟩
  rintro n s5 ⟨i, H5, I5, st5, n5, w5⟩
  rcases turn i n H5 w5 with ⟨stop, qq⟩ | ⟨gos, Nx, hNx, step⟩
  · refine thnF (T.done (X.blk s3 H3 sc ce fp) rfl rfl rfl hc i [] s5 _ H5 (fun _ _ => False) I5 (stat I5 n5) st5 stop) fun r s6 ⟨hr, I6⟩ => ?_
    subst hr
    have I7 : Inv X pins σ H5 s6 := I3.call' (ch := fp) I6.os I6.base I6.hok I6.bare fun b hb => by
      obtain ⟨_, z1, _, z3, z4, z5⟩ := (f3 b hb).1
      exact ⟨z3, z1, z4, z5⟩
    have nC : H5 s3.heap.objs.size = none := cL ▸ (show H5 ce.locals = none from I6.free)
    obtain ⟨m, hn, _⟩ := I6.loc
    exact hRR D s3.heap.objs.size s6 m H5 I7 qq (cL ▸ (show s6.heap.Ns ce.locals m from hn)) (I3.fpOk (Nat.le_refl _) nC)
  · refine thnF (T.item (X.blk s3 H3 sc ce fp) rfl rfl rfl hc i [] s5 _ H5 (fun _ _ => False) I5 (stat I5 n5) st5 gos) fun r s6 ⟨u, hr, h6⟩ => ?_
    subst hr
    refine thnF h6 fun _ s7 ⟨x, H7, I7, r7, y7, st7, n7⟩ => ?_
    have I7' := I7.pinned (stat I7 n7) (T.obj _ _ st7)
    refine thnF (pg.run _ s7 _ H7 x u _ I7' r7 (step x H7 y7)) fun _ s8 ⟨σ8, H8, I8, hw8, q8⟩ => ?_
    refine thnF (pt.run _ s8 σ8 H8 _ I8 q8) fun b s9 ⟨H9, I9, q9⟩ => ?_
    have fin : ∀ {σ9 : L2.St} {s' : Shared} {H' : Hp}, Inv (X.blk s3 H3 sc ce fp) ([] ++ pinsAt fp s7.heap) σ9 H' s' → (wipe σ (own.map (·.2))).length = σ9.length → (∀ (j : Nat) v, (wipe σ (own.map (·.2)))[j]? = some (some v) → σ9[j]? = some (some v)) → Nx H' → ∃ m, m < n ∧ JJ m s' := by
      intro σ9 s' H' I' hl hk nx
      obtain ⟨m', hm, w'⟩ := hNx H' nx
      have pin' : ∀ b ∈ fp, ∀ o, s7.heap.get? b = some o → s'.heap.get? b = some o ∧ H' b = none := by
        intro b hb o z
        have y := I'.pin (b, o) (List.mem_append_right _ (List.mem_append_right _ (mem_pinsAt hb z)))
        exact ⟨y.1, y.2.1⟩
      refine ⟨m', hm, i + 1, H', (I'.unpinned (pins := [])).weak hl hk, T.keep _ _ _ st7 fun b hb o z => (pin' b hb o z).1, fun b hb => ?_, w'⟩
      obtain ⟨o, z, _⟩ := T.obj _ _ st7 b hb
      exact (pin' b hb o z).2
    have l8 : (wipe σ (own.map (·.2))).length = σ8.length := by rw [← hw8, wipe_length]
    have k8 : ∀ (j : Nat) v, (wipe σ (own.map (·.2)))[j]? = some (some v) → σ8[j]? = some (some v) := by
      intro j v z
      rw [← hw8] at z
      exact (wipe_some z).1
    have k9 : ∀ (j : Nat) v, (wipe σ (own.map (·.2)))[j]? = some (some v) → (wipe σ8 vs1)[j]? = some (some v) := by
      intro j v z
      rw [← hw8] at z
      obtain ⟨z1, z2⟩ := wipe_some z
      rw [wipe_out fun y => z2 (hv j y)]
      exact z1
    cases b with
    | false =>
      simp only [Bool.false_eq_true, if_false] at q9 ⊢
      exact fin I9 l8 k8 q9
    | true =>
      simp only [if_true] at q9 ⊢
      refine thnF (qi.run _ s9 σ8 H9 _ I9 q9) fun _ _ hx => thnF hx fun itv sB hB => ?_
      obtain ⟨jt, fq, un, J1, HB, rfl, IB, U, stB, fB, W1, ⟨m1, w1⟩, turn1⟩ := hB
      have stat1 : ∀ {H' : Hp}, (∀ b ∈ fq, H' b = none) → ∀ b ∈ fq, FpOk (X.blk s3 H3 sc ce fp) ([] ++ pinsAt fp s7.heap) H' b := fun hn b hb => ⟨hn b hb, (fB b hb).2⟩
      let KK : Nat → Shared → Prop := fun k s' => ∃ j H', Inv (X.blk s3 H3 sc ce fp) ([] ++ pinsAt fp s7.heap) (wipe σ8 vs1) H' s' ∧ un j s'.heap ∧ (∀ b ∈ fq, H' b = none) ∧ W1 j k H'
      have inner : codeAny (model X.prog X.w) X.A (.compLoop (two e t0 i0 f0 t1 i1 f1 sc p) 1 (.ref jt) (.ref D) ce) (fun r s' => match r with
            | .ok _ => ∃ m, m < n ∧ JJ m s'
            | .error _ => False) sB := ?inner
      exact start_b inner (U.self X.A 0 _ _ _ stB inner)
      refine loop_b KK ?_ m1 ⟨0, HB, IB.weak (wipe_length _ _) (fun j v z => (wipe_some z).1), stB, fun b hb => (fB b hb).1, w1⟩
      rintro k sC ⟨j, HC, IC, stC, nC, wC⟩
      rcases turn1 j k HC wC with ⟨stop1, nx1⟩ | ⟨gos1, Nx1, hNx1, step1⟩
      · refine thnF (U.done (X.blk s3 H3 sc ce fp) rfl rfl rfl hc j _ sC (wipe σ8 vs1) HC (fun _ _ => False) IC (stat1 nC) stC stop1) fun r sD ⟨hr, ID⟩ => ?_
        subst hr
        exact fin ID (l8.trans (wipe_length σ8 vs1).symm) k9 nx1
      · refine thnF (U.item (X.blk s3 H3 sc ce fp) rfl rfl rfl hc j _ sC (wipe σ8 vs1) HC (fun _ _ => False) IC (stat1 nC) stC gos1) fun r sD ⟨u1, hr, hD2⟩ => ?_
        subst hr
        refine thnF hD2 fun _ sE ⟨x1, HE, IE, rE, yE, stE, nE⟩ => ?_
        have IE' := IE.pinned (stat1 nE) (U.obj _ _ stE)
        refine thnF (qg.run _ sE (wipe σ8 vs1) HE x1 u1 _ IE' rE (step1 x1 HE yE)) fun _ sF ⟨σF, HF, IF, hwF, qF⟩ => ?_
        refine thnF (qt.run _ sF σF HF _ IF qF) fun b1 sG ⟨HG, IG, qG⟩ => ?_
        have fin1 : ∀ {s' : Shared} {H' : Hp}, Inv (X.blk s3 H3 sc ce fp) (([] ++ pinsAt fp s7.heap) ++ pinsAt fq sE.heap) σF H' s' → Nx1 H' → ∃ m, m < k ∧ KK m s' := by
          intro s' H' I' nx
          obtain ⟨m', hm, w'⟩ := hNx1 H' nx
          have pin' : ∀ b ∈ fq, ∀ o, sE.heap.get? b = some o → s'.heap.get? b = some o ∧ H' b = none := by
            intro b hb o z
            have y := I'.pin (b, o) (List.mem_append_right _ (List.mem_append_right _ (mem_pinsAt hb z)))
            exact ⟨y.1, y.2.1⟩
          refine ⟨m', hm, j + 1, H', I'.unpinned.weak (by rw [← hwF, wipe_length]) (fun j v z => ?_), U.keep _ _ _ stE fun b hb o z => (pin' b hb o z).1, fun b hb => ?_, w'⟩
          · rw [← hwF] at z
            exact (wipe_some z).1
          · obtain ⟨o, z, _⟩ := U.obj _ _ stE b hb
            exact (pin' b hb o z).2
        cases b1 with
        | false =>
          simp only [Bool.false_eq_true, if_false] at qG ⊢
          exact fin1 IG qG
        | true =>
          simp only [if_true] at qG ⊢
          refine thnF (pe.run _ sG σF HG _ IG qG) fun z sH ⟨yv, HH, IH, rH, x, ks, ey, hDH, roomH, nx⟩ => ?_
          subst ey
          exact add_ok (X := X.blk s3 H3 sc ce fp) IH hDH roomH rH fun sI II => fin1 II nx
/-- as a value -/
theorem pe_sc2 {e t0 i0 t1 i1 : Expr} {f0 f1 : List Expr} {sc : Scope} {own : List (Str × Nat)} {vs1 : List Nat} {p : Pos} {wi wi1 : TI} {g g1 : TG} {tt tt1 : TT} {te : TE} (hc : X.calm = true) (hN : X.N.Nodup) (hi : PI X t0 i0 wi) (ok : BlkOk X.N X.env.scope sc own) (hv : ∀ i ∈ vs1, i ∈ own.map (·.2))
    (hg : ∀ (s : Shared) (H : Hp) (C : Addr) (cl : List (Str × Addr)) (fp : List Addr), PG (X.blk s H sc (compEnvC sc cl C X.env) fp) t0 g) (ht : ∀ (s : Shared) (H : Hp) (C : Addr) (cl : List (Str × Addr)) (fp : List Addr), PTs (X.blk s H sc (compEnvC sc cl C X.env) fp) f0 tt)
    (hi1 : ∀ (s : Shared) (H : Hp) (C : Addr) (cl : List (Str × Addr)) (fp : List Addr), PI (X.blk s H sc (compEnvC sc cl C X.env) fp) t1 i1 wi1)
    (hg1 : ∀ (s : Shared) (H : Hp) (C : Addr) (cl : List (Str × Addr)) (fp : List Addr), PG (X.blk s H sc (compEnvC sc cl C X.env) fp) t1 g1)
    (ht1 : ∀ (s : Shared) (H : Hp) (C : Addr) (cl : List (Str × Addr)) (fp : List Addr), PTs (X.blk s H sc (compEnvC sc cl C X.env) fp) f1 tt1)
    (he : ∀ (s : Shared) (H : Hp) (C : Addr) (cl : List (Str × Addr)) (fp : List Addr), PE (X.blk s H sc (compEnvC sc cl C X.env) fp) e te) (hs : ∀ x, foldedSetIterable i0 X.env x = pure x := by intro _; rfl) (hs1 : ∀ env x, foldedSetIterable i1 env x = pure x := by intro _ _; rfl) :
    PE X (.SetComp e [⟨t0, i0, f0, 0⟩, ⟨t1, i1, f1, 0⟩] sc p) (tSc2 X.w wi g tt wi1 g1 tt1 te (own.map (·.2)) vs1) := by
  refine ⟨fun pins s σ H Q I h => ?_⟩
  rw [PpSet.eval_SetComp]
  refine core hc hN I hi ok hv hg ht he hs hi1 hg1 ht1 hs1 h fun D C s' m H' I' q hn f => ⟨m, hn, fun h2 sb => ?_⟩
  obtain ⟨f0, f1, f2, f3, f4, f5⟩ := f
  exact ⟨.ref D, H', I'.turned (t' := s'.toks) (fun b o hb z => (sb.2 b hb).trans z) f0 f1 f3 f4 f5, rfl, q⟩
end
end Sc2
end
section
set_option maxHeartbeats 4000000
/-! list(d.values()) -/
namespace LVals
open PySem PySem.Spec PyProof.Rows L2
def tVals (te : TE) : TE := fun σ H Q => te σ H fun x H1 => ∃ d kvs, x = .ref d ∧ H1 d = some (.dK kvs) ∧ ∀ q, H1 q = none → Q (.ref q) (upd H1 q (.lst (kvs.map (·.2))))
theorem vals_list {kvs : List (Key × V)} {ws : List (Key × Value)} (r : KV kvs ws) {acc : Array Value} (h : ItemsOf (fun i v => ∃ k, ws[i]? = some (k, v)) acc ws.length) : Vals (kvs.map (·.2)) acc.toList := by
  refine vals_of_at (by
    have h0 : acc.toList.length = ws.length := by simpa using h.1
    rw [List.length_map, h0]; exact Paired.length r) fun j x u e1 e2 => ?_
  rw [Array.getElem?_toList] at e2
  obtain ⟨k, hk⟩ := h.2 j u e2
  rw [List.getElem?_map] at e1
  cases e3 : kvs[j]? with
  | none => rw [e3] at e1; cases e1
  | some kv =>
    rw [e3] at e1
    obtain rfl : kv.2 = x := Option.some.inj e1
    obtain ⟨y, hy, h1, h2⟩ := LiI.paired_get r e3
    rw [hk] at hy
    cases hy
    exact h2
section
variable {X : Cx} {e : Expr} {te : TE} {p apos cpos pos : Pos}
theorem pe_listVals (hc : X.calm = true) (he : PE X e te) (hg : Gl X "list") (hm : X.mg "list" = none) (hv : bootBuiltins "list" = some (.type "list")) (hbase : attributeBase e "values" X.env (eval e X.env) = eval e X.env := by rfl) (hline : (apos.endLine == cpos.line) = true := by rfl)
    (hs : starEach [.Call (.Attribute e "values" apos) [] [] cpos] X.env = (false, eval (.Call (.Attribute e "values" apos) [] [] cpos) X.env) :: starEach [] X.env := by rfl) :
    PE X (.Call (.Name "list" p) [.Call (.Attribute e "values" apos) [] [] cpos] [] pos) (tVals te) := by
  refine ⟨fun pins s σ H Q I hq => wpAny_Call_Name_kw (ld_blt I hg hm hv (PyProof.Rows.callWith_type1 ?_ hs rfl))⟩
  rw [hs]
  show wpAny _ _ (spliced ((false, eval (.Call (.Attribute e "values" apos) [] [] cpos) X.env) :: backTo pos (starEach [] X.env))) _ _ s
  refine Calls.spliced_cons (wpAny_Call_method (T := "dict") (id := "dict.values") hbase rfl hline F.plainAttrs_dict F.slot_dict_values F.type_dict_values (thn (he.run pins s σ H _ I hq) fun u s1 ⟨x, H1, I1, rx, d, kvs, ex, hd, q⟩ => ?_))
  subst ex
  obtain rfl : u = Value.ref d := rx
  obtain ⟨hz, lo, ws, kv, hdo⟩ := I1.hok d _ hd
  obtain ⟨ep, hat⟩ := hdo.dictAt
  have lk : kvs.length = ws.length := Paired.length kv
  have I2 : Inv X pins σ H1 { s1 with heap := s1.heap.push { cls := .type "dict_values", data := .fields #[.ref d] } } := I1.kept (t' := s1.toks) fun b ob z => Heap.get?_push_of_some _ z
  refine ⟨hdo.typeIs, hdo.mapOf.noDict, ?_⟩
  show wpAny _ _ (callWith cpos (.builtin "dict.values") [.ref d] [] []) _ X.xe s1
  refine method_meetsIn F.slot_dict_values F.entry_dict_values rfl (PySem.evalArgs_none ⟨rfl, hdo.typeIs, F.args_dict_values_1 _, _, meets_dict_values (mixKind X.prog X.w) d lo, ⟨ws, hdo⟩, Calls.spliced_nil ?_⟩)
  refine PySem.W.kdl_call (PySem.W.kdl_values (knd := mixKind X.prog X.w) (kvs := ws) (ep := ep) (d := d)) (I2.ok.hd hc) ⟨⟨_, Heap.get?_push_size _ rfl, rfl, rfl⟩, hat.push _⟩ (by rw [← lk]; exact hz) fun h' tk acc c kk hS hacc => ?_
  refine ⟨.ref _, upd H1 _ (.lst (kvs.map (·.2))), I2.laid (t' := tk) kk (Nat.le_refl _) ⟨?_, acc.toList, c, vals_list kv hacc, ?_⟩, rfl, q _ (I2.hok.fresh (Nat.le_refl _))⟩
  · rw [List.length_map]; exact hz
  · rw [Array.toArray_toList]; exact hS
end
end LVals
end
section
set_option maxHeartbeats 8000000
/-! a book of rows, as it stands; calls that may raise -/
namespace K1
open PySem PySem.Spec PyProof.Rows L2 Gr GxR Srx
/-- number, where the row stands, the row -/
abbrev Tb1 := List (Int × Addr × List Str)
def rws (tb : Tb1) : List (List Str) := tb.map (·.2.2)
def nums (tb : Tb1) : List Int := tb.map (·.1)
theorem kNR : ¬ (("_rows" : Str) = "_next_number") := by decide +kernel
def bfl (d : Addr) (n : Int) : List (Str × V) := putF "_next_number" (.int n) (putF "_rows" (.ref d) [])
theorem bfl_eq (d : Addr) (n : Int) : bfl d n = ([("_rows", V.ref d), ("_next_number", V.int n)] : List (Str × V)) := by
  show (if ("_rows" : Str) = "_next_number" then [(("_rows" : Str), V.int n)] else (("_rows" : Str), V.ref d) :: putF "_next_number" (V.int n) []) = _
  rw [if_neg kNR]
  rfl
theorem bfl_rows (d : Addr) (n : Int) : (bfl d n).lookup ("_rows" : Str) = some (.ref d) := by
  unfold bfl
  rw [lookup_putF, if_neg kNR, lookup_putF, if_pos rfl]
theorem bfl_next (d : Addr) (n : Int) : (bfl d n).lookup ("_next_number" : Str) = some (.int n) := by
  unfold bfl
  rw [lookup_putF, if_pos rfl]
def mOk (m : Str) : Bool := decide (¬ m = "_rows") && decide (¬ m = "_next_number")
theorem bfl_no {m : Str} (h : mOk m = true) (d : Addr) (n : Int) : (bfl d n).lookup m = none := by
  unfold mOk at h
  rw [Bool.and_eq_true] at h
  have h1 := of_decide_eq_true h.1
  have h2 := of_decide_eq_true h.2
  unfold bfl
  rw [lookup_putF, if_neg h2, lookup_putF, if_neg h1]
  rfl
theorem bfl_put (d : Addr) (n m : Int) : putF "_next_number" (.int m) (bfl d n) = bfl d m := by
  rw [bfl_eq, bfl_eq]
  show (if ("_rows" : Str) = "_next_number" then _ else (("_rows" : Str), V.ref d) :: (if ("_next_number" : Str) = "_next_number" then [(("_next_number" : Str), V.int m)] else _)) = _
  rw [if_neg kNR, if_pos rfl]
/-- the entries of a book's dict -/
def kvB (tb : Tb1) : List (Key × V) := tb.map fun e => ((Sum.inl e.1 : Key), V.ref e.2.1)
/-- at b: a book, its dict at d -/
structure Bk (C : Addr) (H : Hp) (b d : Addr) (tb : Tb1) (n : Int) : Prop where
  ob : ∃ dx, H b = some (.ins C dx (bfl d n))
  dc : H d = some (.dK (kvB tb))
  own : ∀ e ∈ tb, H e.2.1 = some (.lst (e.2.2.map V.str))
theorem Bk.gr {C b d : Addr} {H H' : Hp} {tb : Tb1} {n : Int} (B : Bk C H b d tb n) (g : Gr H H') : Bk C H' b d tb n := by
  obtain ⟨⟨dx, e⟩, e2, e3⟩ := B
  exact ⟨⟨dx, g.at_ _ _ e fun _ z => nomatch z⟩, g.at_ _ _ e2 fun _ z => (nomatch z), fun e he => g.lst (e3 e he)⟩
theorem Bk.grx {X : Addr → Prop} {C b d : Addr} {H H' : Hp} {tb : Tb1} {n : Int} (B : Bk C H b d tb n) (g : GrX X H H') (nb : ¬ X b) (nd : ¬ X d) (no : ∀ e ∈ tb, ¬ X e.2.1) : Bk C H' b d tb n := by
  obtain ⟨⟨dx, e⟩, e2, e3⟩ := B
  exact ⟨⟨dx, g.at_ _ _ nb e fun _ z => nomatch z⟩, g.at_ _ _ nd e2 fun _ z => (nomatch z), fun e he => g.lst (no e he) (e3 e he)⟩
theorem Bk.ne {C b d : Addr} {H : Hp} {tb : Tb1} {n : Int} (B : Bk C H b d tb n) : b ≠ d := let ⟨_, e⟩ := B.ob; ne_of e B.dc (by intro z; cases z)
theorem Bk.neb {C b d : Addr} {H : Hp} {tb : Tb1} {n : Int} (B : Bk C H b d tb n) {e} (he : e ∈ tb) : e.2.1 ≠ b ∧ e.2.1 ≠ d := by
  obtain ⟨dx, z⟩ := B.ob
  exact ⟨ne_of (B.own e he) z (by intro z; cases z), ne_of (B.own e he) B.dc (by intro z; cases z)⟩
/-- what holds of a book's rows and numbers -/
structure Tok (tb : Tb1) (n : Int) : Prop where
  num : (nums tb).Pairwise (· < ·)
  bnd : ∀ e ∈ tb, 0 ≤ e.1 ∧ e.1 < n
  set : ∀ e ∈ tb, Ris e.2.2 ∧ Nms e.2.2
  few : tb.length ≤ 30
  nms : (allN (rws tb)).length ≤ 12
  n0 : 0 ≤ n
theorem Tok.nil : Tok [] 0 := ⟨.nil, fun _ z => absurd z List.not_mem_nil, fun _ z => absurd z List.not_mem_nil, by decide, by decide +kernel, by decide⟩
/-- a function by its name, that may raise; a method -/
structure MCalls (P : Program) (w : World) (K : PySem.W.Frag) (mg : Str → Option Value) (base : Heap) (CX : CXT) (k : Nat) (C : Addr) (m : Str) (sp : Sp) : Prop where
  ex : ∃ (f : Addr) (fd : FuncData) (ps : List Str), FnOk P w K mg base CX k f fd ps sp ∧ Meth K C m f ∧ Binds K fd ps []
/-- what is raised, by the slots -/
abbrev Pa (CX : CXT) (X : Cx) (E : L2.St → XK) : Prop := ∀ σ, PassesAt CX X σ (E σ)
theorem pa0 {X : Cx} : Pa CX0 X (fun _ => E0) := fun _ _ _ _ _ _ _ h => h.elim
theorem paL {X : Cx} : Pa (L2.CX X.prog X.w) X (fun _ => E0) := fun σ pins H s e s' I h => passL pins σ H s e s' I h
theorem paE {X : Cx} {E : XK} (tk : Takes X (fun cls d _ H => E cls d H)) : Pa (L2.CX X.prog X.w) X (fun _ => E) := fun σ pins H s e s' I h => passes_call tk (fun _ _ _ _ z => z) pins σ H s e s' I h
theorem paT {X : Cx} {W : WX} (tk : Takes X W) : Pa (L2.CX X.prog X.w) X (WE W) := fun σ => passAt tk σ
def tM (C : Addr) (sp : Sp) (E : L2.St → XK) (ta : TE) (t : TA) : TE := fun σ H Q => ta σ H fun x H1 => ∃ b d tb n, x = .ref b ∧ Bk C H1 b d tb n ∧ t σ H1 fun vs H2 => sp (.ref b :: vs) H2 Q (E σ)
def tF (sp : Sp) (E : L2.St → XK) (t : TA) : TE := fun σ H Q => t σ H fun vs H1 => sp vs H1 Q (E σ)
section
variable {X : Cx} {CX : CXT} {k j : Nat} {C : Addr} {sp : Sp} {E : L2.St → XK} {m x : Str} {p pos apos : Pos} {o e : Expr} {es : List Expr} {ta : TE} {t : TA}
theorem pe_m {pl : Sem Bool} (c : MCalls X.prog X.w X.K X.mg X.base CX k C m sp) (cl : Cls X.K C) (hr : Room j X.A) (hk : k ≤ j) (hx : Pa CX X E) (ho : PE X o ta) (ha : PA X (e :: es) t) (hm : mOk m = true := by decide +kernel)
    (h1 : starEach (e :: es) X.env = (false, eval e X.env) :: starEach es X.env := by rfl) (h2 : (backTo pos (starEach es X.env)).any (·.1) = false := by rfl)
    (h3 : eval (.Call (.Attribute o m apos) (e :: es) [] pos) X.env = (do
        let ov ← eval o X.env
        standAt apos.atName
        let (f, first) ← holding [ov] (getMethod ov m pl)
        callWith pos f first (backTo pos (starEach (e :: es) X.env)) (backToKw pos (keywordEach [] X.env))) := by rfl) :
    PE X (.Call (.Attribute o m apos) (e :: es) [] pos) (tM C sp E ta t) := by
  obtain ⟨f, fd, ps, F, me, bi⟩ := c.ex
  refine ⟨fun pins s σ H Q I h => PySem.W.methodCall_KW (pl := pl) (thn (ho.run pins s σ H _ I h) fun u s1 hu => ?_) h3⟩
  obtain ⟨x, H1, I1, rx, b, d, tb, n, rfl, B, q⟩ := hu
  obtain rfl : u = Value.ref b := rx
  obtain ⟨dx, eb⟩ := B.ob
  refine getmeth_ok I1 eb cl me (bfl_no hm d n) (PySem.W.callWith_K (first := [.ref b]) (h₀ := X.base) I.ok.mod.kin me.kp (thn (ha.run pos pins s1 σ H1 _ I1 q) fun us s2 hv => ?_) h1 h2)
  obtain ⟨vs, H2, I2, r, q2⟩ := hv
  exact ⟨I2.kIn, run_fnS (us := .ref b :: us) (vs := .ref b :: vs) F (hr.mono hk) bi (hx σ) I2 (.cons rfl r) q2⟩
theorem pe_m0 {pl : Sem Bool} (c : MCalls X.prog X.w X.K X.mg X.base CX k C m sp) (cl : Cls X.K C) (hr : Room j X.A) (hk : k ≤ j) (hx : Pa CX X E) (ho : PE X o ta) (hm : mOk m = true := by decide +kernel)
    (h3 : eval (.Call (.Attribute o m apos) [] [] pos) X.env = (do
        let ov ← eval o X.env
        standAt apos.atName
        let (f, first) ← holding [ov] (getMethod ov m pl)
        callWith pos f first (backTo pos (starEach [] X.env)) (backToKw pos (keywordEach [] X.env))) := by rfl) :
    PE X (.Call (.Attribute o m apos) [] [] pos) (tM C sp E ta tNil) := by
  obtain ⟨f, fd, ps, F, me, bi⟩ := c.ex
  refine ⟨fun pins s σ H Q I h => PySem.W.methodCall_KW (pl := pl) (thn (ho.run pins s σ H _ I h) fun u s1 hu => ?_) h3⟩
  obtain ⟨x, H1, I1, rx, b, d, tb, n, rfl, B, q⟩ := hu
  obtain rfl : u = Value.ref b := rx
  obtain ⟨dx, eb⟩ := B.ob
  exact getmeth_ok I1 eb cl me (bfl_no hm d n) (PySem.W.callWith_K0 (first := [.ref b]) I1.kIn me.kp (run_fnS (us := [.ref b]) (vs := [.ref b]) F (hr.mono hk) bi (hx σ) I1 (.cons rfl .nil) q))
theorem pe_f (c : Calls X.prog X.w X.K X.mg X.base CX k x sp) (hr : Room j X.A) (hk : k ≤ j) (hx : Pa CX X E) (hg : Gl X x) (ha : PA X (e :: es) t)
    (hdb : (x == ("__debug__" : Str)) = false := by decide) (he : starEach (e :: es) X.env = (false, eval e X.env) :: starEach es X.env := by rfl) (hpl : (backTo pos (starEach es X.env)).any (·.1) = false := by rfl) :
    PE X (.Call (.Name x p) (e :: es) [] pos) (tF sp E t) := by
  obtain ⟨f, fd, ps, F, hm, kp, b⟩ := c.ex
  exact pe_callS F (hr.mono hk) hg hm kp b hx ha hdb he hpl
end
end K1
namespace K1
open PySem PySem.Spec PyProof.Rows L2 Gr GxR Srx
/-- the tables of code of is_name, within, meets, least_of, _met_by, own -/
structure TabN where
  i : Addr
  w : Addr
  m : Addr
  l : Addr
  b : Addr
  o : Addr
structure TabN.S (N : TabN) (H : Hp) : Prop where
  i : TabG H N.i
  w : TabG H N.w
  m : TabG H N.m
  l : TabG H N.l
theorem TabN.S.gr {N : TabN} {H H' : Hp} (t : N.S H) (g : Gr H H') : N.S H' := ⟨g.tabG t.i, g.tabG t.w, g.tabG t.m, g.tabG t.l⟩
structure TabN.G (N : TabN) (H : Hp) : Prop where
  s : N.S H
  b : TabG H N.b
  o : TabG H N.o
theorem TabN.G.gr {N : TabN} {H H' : Hp} (t : N.G H) (g : Gr H H') : N.G H' := ⟨t.s.gr g, g.tabG t.b, g.tabG t.o⟩
theorem TabN.G.grx {X : Addr → Prop} {N : TabN} {H H' : Hp} (t : N.G H) (g : GrX X H H') : N.G H' := ⟨⟨g.tabG t.s.i, g.tabG t.s.w, g.tabG t.s.m, g.tabG t.s.l⟩, g.tabG t.b, g.tabG t.o⟩
/-- the errors' classes -/
structure ErN where
  name : Addr
  row : Addr
  no : Addr
  many : Addr
  meet : Addr
  un : Addr
/-- what is handed in as a list of names -/
def HOk (H : Hp) (v : V) (xs : List Str) : Prop := ∃ a, v = .ref a ∧ H a = some (.lst (xs.map V.str)) ∧ Nms xs ∧ xs.length ≤ 1000
def HBadN (K : PySem.W.Frag) (H : Hp) (v : V) : Prop := ∃ a vls, v = .ref a ∧ H a = some (.lst vls) ∧ (∀ v ∈ vls, Thing K H v) ∧ vls.length ≤ 1000 ∧ ∃ v ∈ vls, nmV v = false
def HBadR (K : PySem.W.Frag) (H : Hp) (v : V) : Prop := ∃ t : String, TyX K H v (.type t) ∧ kitB t "list" = some false
theorem HOk.gr {H H' : Hp} {v : V} {xs : List Str} (h : HOk H v xs) (g : Gr H H') : HOk H' v xs := let ⟨a, e, z, r⟩ := h; ⟨a, e, g.lst z, r⟩
theorem HBadN.gr {K : PySem.W.Frag} {H H' : Hp} {v : V} (h : HBadN K H v) (g : Gr H H') : HBadN K H' v := let ⟨a, vls, e, z, t, r⟩ := h; ⟨a, vls, e, g.lst z, fun v hv => (t v hv).gr g, r⟩
theorem HBadR.gr {K : PySem.W.Frag} {H H' : Hp} {v : V} (h : HBadR K H v) (g : Gr H H') : HBadR K H' v := let ⟨t, e, k⟩ := h; ⟨t, tyx_gr g e, k⟩
def spNamesFrom (K : PySem.W.Frag) (T : Addr) (R : ErN) : Sp := fun vs H Q E => ∃ v, vs = [v] ∧ TabG H T ∧
  ((∃ xs, HOk H v xs ∧ ∀ p H', Gr H H' → H p = none → H' p = some (.lst ((once xs).map V.str)) → Q (.ref p) H') ∨ (HBadN K H v ∧ ∀ H', Gr H H' → E (.ref R.name) none H') ∨ (HBadR K H v ∧ ∀ H', Gr H H' → E (.ref R.row) none H'))
def spRowFrom (K : PySem.W.Frag) (T : Addr) (R : ErN) : Sp := fun vs H Q E => ∃ v, vs = [v] ∧ TabG H T ∧
  ((∃ xs, HOk H v xs ∧ xs.Nodup ∧ ∀ p H', Gr H H' → H p = none → H' p = some (.lst ((once xs).map V.str)) → Q (.ref p) H') ∨ (∃ xs, HOk H v xs ∧ ¬ xs.Nodup ∧ ∀ H', Gr H H' → E (.ref R.row) none H') ∨ (HBadN K H v ∧ ∀ H', Gr H H' → E (.ref R.name) none H') ∨ (HBadR K H v ∧ ∀ H', Gr H H' → E (.ref R.row) none H'))
theorem nms_all {xs : List Str} : xs.all isNm = true ↔ Nms xs := by
  rw [List.all_eq_true]
  exact Iff.rfl
theorem nms_things {K : PySem.W.Frag} {H : Hp} {xs : List Str} (h : Nms xs) : ∀ v ∈ xs.map V.str, Thing K H v := by
  intro v hv
  obtain ⟨x, hx, rfl⟩ := List.mem_map.mp hv
  exact thing_str (by have := nm_len (h x hx); rw [sizeLine_eq]; omega)
theorem once_full {xs : List Str} (h : xs.Nodup) : (once xs).length = xs.length := by
  unfold once
  rw [srt_len, Sx.dd_id h]
theorem nodup_of_dd : ∀ {xs : List Str}, (Sx.dd xs).length = xs.length → xs.Nodup := by
  intro xs
  induction xs using snoc_ind with
  | h0 => exact fun _ => List.nodup_nil
  | h1 xs x ih =>
    intro h
    have e : Sx.dd (xs ++ [x]) = Sx.once (Sx.dd xs) x := by
      unfold Sx.dd
      rw [List.foldl_append]
      rfl
    rw [e] at h
    have h1 := Sx.dd_len xs
    by_cases hx : x ∈ Sx.dd xs
    · rw [show Sx.once (Sx.dd xs) x = Sx.dd xs from if_pos hx, List.length_append, List.length_singleton] at h
      omega
    · rw [show Sx.once (Sx.dd xs) x = Sx.dd xs ++ [x] from if_neg hx, List.length_append, List.length_append] at h
      have h2 := ih (by omega)
      refine List.nodup_append.mpr ⟨h2, by simp, fun a ha b hb z => ?_⟩
      have hb : b = x := by simpa using hb
      rw [z, hb] at ha
      exact hx (Sx.dd_mem.mpr ha)
theorem once_twice {xs : List Str} (h : ¬ xs.Nodup) : (once xs).length ≠ xs.length := by
  unfold once
  rw [srt_len]
  exact fun z => h (nodup_of_dd z)
end K1
namespace K1
open PySem PySem.Spec PyProof.Rows L2 Gr GxR Srx Skx Dcx
/-- [.. x ..] for texts x: each made anew -/
theorem lc_newT {K : PySem.W.Frag} {a D : Addr} {j : Nat} {σ : L2.St} {vs : List Nat} {te : TE} {H1 : Hp} {Qd : Hp → Prop} {xs : List Str} (F : Str → List Str)
    (hA : SqL K H1 a (xs.map V.str)) (few : xs.length < sizeLine) (hD : H1 D = none) (hw : ∀ v, wipe ((wipe σ vs).set j (some v)) vs = wipe σ vs)
    (he : ∀ x ∈ xs, ∀ (H4 : Hp) (Q' : VK), Gr H1 H4 → (∀ H5 l, Gr H4 H5 → H5 l = none → Q' (.ref l) (upd H5 l (.lst ((F x).map V.str)))) → te ((wipe σ vs).set j (some (.str x))) H4 Q')
    (q : ∀ H2 ps, Gr H1 H2 → Told H1 H2 D ps → ps.map (·.2) = xs.map F → Qd H2) :
    ∃ W : Nat → Nat → Hp → Prop, (∃ m, W 0 m (upd H1 D (.lst []))) ∧ ∀ i m H, W i m H →
      ((Itl K a).stop i H ∧ Qd H) ∨ ((Itl K a).go i H ∧ ∃ Nx : Hp → Prop, (∀ H', Nx H' → ∃ m', m' < m ∧ W (i + 1) m' H') ∧ ∀ x H', (Itl K a).yld i H x H' → gName j x (wipe σ vs) H' fun σ2 H2 => wipe σ2 vs = wipe σ vs ∧ tYes σ2 H2 fun b H3 =>
        if b = true then te σ2 H3 fun y H4 => ∃ acc, H4 D = some (.lst acc) ∧ acc.length < sizeLine ∧ Nx (upd H4 D (.lst (acc ++ [y]))) else Nx H3) := by
  refine lc_list (xs := xs.map V.str) (Qd := Qd) (fun i H2 => Gr H1 H2 ∧ ∃ ps, Told H1 H2 D ps ∧ ps.map (·.2) = (xs.take i).map F) ⟨Gr.new hD, [], Told.nil hD, rfl⟩ (fun i H2 _ h => h.1.seq hA) (fun i x H2 hx h => ?_) (fun H2 h => ?_)
  · obtain ⟨g2, ps, T, e⟩ := h
    obtain ⟨x0, hx0, rfl⟩ := get_map hx
    refine ⟨hw _, yesIf (he x0 (List.mem_of_getElem? hx0) H2 _ g2 fun H5 l g5 hl => ⟨_, ?_, ?_, (g2.trans g5).trans (Gr.new hl) |>.mut hD, ps ++ [(l, F x0)], (T.gr g5).snoc (g2.trans g5) hl, ?_⟩)⟩
    · rw [upd_ne (ne_of_none (g5.lst T.at_) hl)]
      exact g5.lst T.at_
    · rw [List.length_map]
      have h1 := congrArg List.length e
      rw [List.length_map, List.length_map, List.length_take] at h1
      omega
    · rw [List.map_append, e, take_map hx0]
      rfl
  · obtain ⟨g2, ps, T, e⟩ := h
    rw [List.length_map, List.take_length] at e
    exact q H2 ps g2 T e
/-- what grown finds for each set, unsorted -/
def found (S : List (List Str)) (r : List Str) : List (List Str) := S.flatMap fun s => if mt s r = true then [s] else r.map fun x => s ++ [x]
theorem found_snoc (A : List (List Str)) (s r : List Str) : found (A ++ [s]) r = found A r ++ (if mt s r = true then [s] else r.map fun x => s ++ [x]) := by
  unfold found
  rw [List.flatMap_append]
  simp
theorem found_once {S : List (List Str)} {r : List Str} (h : RisAll S) : (found S r).map once = cand S r := by
  unfold found cand
  rw [List.map_flatMap]
  refine congrArg List.flatten (List.map_congr_left fun s hs => ?_)
  split
  · rw [List.map_cons, List.map_nil, once_ris (h s hs)]
  · rw [List.map_map]
    rfl
theorem mt_once {s r : List Str} : mt s (once r) = mt s r := by
  rw [Bool.eq_iff_iff, mt_iff, mt_iff]
  exact ⟨fun ⟨y, h1, h2⟩ => ⟨y, h1, once_mem.mp h2⟩, fun ⟨y, h1, h2⟩ => ⟨y, h1, once_mem.mpr h2⟩⟩
theorem cand_once {S : List (List Str)} {r : List Str} (h : RisAll S) : least (cand S (once r)) = least (cand S r) := by
  have mem : ∀ z, z ∈ cand S (once r) ↔ z ∈ cand S r := by
    intro z
    rw [cand_mem, cand_mem]
    refine exists_congr fun s => and_congr_right fun _ => ?_
    rw [mt_once]
    refine or_congr_right (and_congr_right fun _ => exists_congr fun x => and_congr_left fun _ => once_mem)
  refine least_ext (cand_ris h) (cand_ris h) (fun a ha => ⟨a, (mem a).mp ha, wi_self a⟩) fun b hb => ⟨b, (mem b).mpr hb, wi_self b⟩
def spGrown (K : PySem.W.Frag) (N : TabN) : Sp := fun vs H Q _ => ∃ (a : Addr) (v : V) (ps : List (Addr × List Str)) (r : List Str), vs = [.ref a, v] ∧ LL H a ps ∧ (∀ q ∈ ps, Ris q.2 ∧ q.2.length ≤ 100) ∧ ps.length ≤ 5000 ∧ HOk H v r ∧ r.Nodup ∧ r.length ≤ 12 ∧ N.S H ∧
  ∀ p H' ks, Gr H H' → Told H H' p ks → ks.map (·.2) = least (cand (ps.map (·.2)) r) → Q (.ref p) H'
end K1
end
section
set_option maxHeartbeats 8000000
namespace K1
open PySem PySem.Spec PyProof.Rows L2 Gr GxR Srx Skx Dcx
theorem Told.snoc2 {H H2 H5 : Hp} {D l : Addr} {ps : List (Addr × List Str)} {x : List Str} (T : Told H H2 D ps) (g : Gr H H2) (g5 : Gr H2 H5) (hl : H2 l = none) (el : H5 l = some (.lst (x.map V.str))) : Told H (upd H5 D (.lst ((ps.map fun q => V.ref q.1) ++ [V.ref l]))) D (ps ++ [(l, x)]) := by
  have nD : l ≠ D := (ne_of_none T.at_ hl).symm
  refine ⟨T.new, by rw [upd_same, List.map_append]; rfl, fun q hq => ?_, ?_⟩
  · rcases List.mem_append.mp hq with hq | hq
    · obtain ⟨h1, h2, h3⟩ := T.own q hq
      exact ⟨h1, h2, by rw [upd_ne h2]; exact g5.lst h3⟩
    · rw [List.mem_singleton.mp hq]
      exact ⟨g.free hl, nD, by rw [upd_ne nD]; exact el⟩
  · rw [List.map_append]
    refine List.nodup_append.mpr ⟨T.nd, by simp, fun a ha b hb e => ?_⟩
    have hb : b = l := by simpa using hb
    obtain ⟨q, hq, rfl⟩ := List.mem_map.mp ha
    have h3 := (T.own q hq).2.2
    rw [e, hb, hl] at h3
    cases h3
/-- rows out of the names -/
theorem lc_rows {D : Addr} {j n : Nat} {σ : L2.St} {vs : List Nat} {te : TE} {H1 : Hp} {Qd : Hp → Prop} {N : List Str} (few : n ≤ 1000) (hD : H1 D = none) (hw : ∀ v, wipe ((wipe σ vs).set j (some v)) vs = wipe σ vs)
    (he : ∀ (k : Nat), k < n → ∀ (H4 : Hp) (Q' : VK), Gr H1 H4 → (∀ (l : Addr) (H5 : Hp) (ys : List Str), Gr H4 H5 → H4 l = none → H5 l = some (.lst (ys.map V.str)) → ys.Nodup → (∀ y ∈ ys, y ∈ N) → ys.length ≤ N.length → Q' (.ref l) H5) → te ((wipe σ vs).set j (some (.int ((0 : Int) + (k : Nat))))) H4 Q')
    (q : ∀ H2 ps, Gr H1 H2 → Told H1 H2 D ps → ps.length = n → (∀ q ∈ ps, q.2.Nodup ∧ (∀ y ∈ q.2, y ∈ N) ∧ q.2.length ≤ N.length) → Qd H2) :
    ∃ W : Nat → Nat → Hp → Prop, (∃ m, W 0 m (upd H1 D (.lst []))) ∧ ∀ i m H, W i m H →
      ((Itr 0 n).stop i H ∧ Qd H) ∨ ((Itr 0 n).go i H ∧ ∃ Nx : Hp → Prop, (∀ H', Nx H' → ∃ m', m' < m ∧ W (i + 1) m' H') ∧ ∀ x H', (Itr 0 n).yld i H x H' → gName j x (wipe σ vs) H' fun σ2 H2 => wipe σ2 vs = wipe σ vs ∧ tYes σ2 H2 fun b H3 =>
        if b = true then te σ2 H3 fun y H4 => ∃ acc, H4 D = some (.lst acc) ∧ acc.length < sizeLine ∧ Nx (upd H4 D (.lst (acc ++ [y]))) else Nx H3) := by
  refine lc_range (lo := 0) (n := n) (Qd := Qd) (fun i H2 => Gr H1 H2 ∧ ∃ ps, Told H1 H2 D ps ∧ ps.length = i ∧ ∀ q ∈ ps, q.2.Nodup ∧ (∀ y ∈ q.2, y ∈ N) ∧ q.2.length ≤ N.length) ⟨Gr.new hD, [], Told.nil hD, rfl, fun _ z => absurd z List.not_mem_nil⟩ (fun i H2 hi h => ?_) (fun H2 h => ?_)
  · obtain ⟨g2, ps, T, e, ok⟩ := h
    refine ⟨hw _, yesIf (he i hi H2 _ g2 fun l H5 ys g5 nl el nd mem ln => ⟨_, g5.lst T.at_, ?_, (g2.trans g5).mut hD, ps ++ [(l, ys)], T.snoc2 g2 g5 nl el, ?_, fun q hq => ?_⟩)⟩
    · rw [List.length_map, e]
      exact small1000 (by omega)
    · rw [List.length_append, e]
      rfl
    · rcases List.mem_append.mp hq with hq | hq
      · exact ok q hq
      · rw [List.mem_singleton.mp hq]
        exact ⟨nd, mem, ln⟩
  · obtain ⟨g2, ps, T, e, ok⟩ := h
    exact q H2 ps g2 T e ok
theorem Told.mask {H H' : Hp} {D p : Addr} {o : HO} {ps : List (Addr × List Str)} (T : Told H H' p ps) (e : H D = some o) : LL (mask D H') p ps :=
  ⟨by rw [mask_at (T.off e).1.symm]; exact T.at_, fun q hq => by rw [mask_at ((T.off e).2 q hq).symm]; exact (T.own q hq).2.2⟩
theorem LL.unmask {H : Hp} {D p : Addr} {ps : List (Addr × List Str)} (l : LL (mask D H) p ps) : LL H p ps := l.gr (gr_unmask D H)
theorem LL.off {H : Hp} {D p : Addr} {ps : List (Addr × List Str)} (l : LL (mask D H) p ps) : p ≠ D ∧ ∀ q ∈ ps, q.1 ≠ D := ⟨(mask_some l.at_).1, fun q hq => (mask_some (l.own q hq)).1⟩
/-- new lists stand in the masked heap, too -/
theorem LL.mask {H' : Hp} {D p : Addr} {ps : List (Addr × List Str)} (l : LL H' p ps) (np : p ≠ D) (nq : ∀ q ∈ ps, q.1 ≠ D) : LL (mask D H') p ps :=
  ⟨by rw [mask_at np]; exact l.at_, fun q hq => by rw [mask_at (nq q hq)]; exact l.own q hq⟩
theorem atI_end {α : Type} {xs : List α} {v : α} (h : xs.getLast? = some v) : atI xs (-1) = some v := by
  obtain ⟨ys, rfl⟩ := List.getLast?_eq_some_iff.mp h
  exact atI_last ys v
theorem LL.out {H : Hp} {p : Addr} {ps : List (Addr × List Str)} (l : LL H p ps) : p ∉ ps.map (·.1) := by
  intro z
  obtain ⟨q, hq, z⟩ := List.mem_map.mp z
  have h1 := l.own q hq
  rw [z, l.at_] at h1
  have h2 : (ps.map fun q => V.ref q.1) = q.2.map V.str := by injection (Option.some.inj h1)
  cases ps with
  | nil => cases hq
  | cons x r =>
    cases h3 : q.2 with
    | nil => rw [h3] at h2; cases h2
    | cons y s =>
      rw [h3] at h2
      injection h2 with h2
      cases h2
theorem least_len (l : List (List Str)) : (least l).length ≤ l.length := by
  rw [least_eq]
  refine Nat.le_trans (keep_sub _ []).length_le ?_
  rw [List.nil_append, (rkd_perm _).length_eq]
  exact Nat.le_refl _
theorem grown_len {N : List Str} (hN : Ris N) {rows : List (List Str)} (h : ∀ r ∈ rows, ∀ y ∈ r, y ∈ N) : (grown rows).length ≤ 2 ^ N.length := by
  rw [grown_eq hN rows h]
  refine Nat.le_trans (least_len _) ?_
  unfold tr
  refine Nat.le_trans (List.length_filter_le _ _) ?_
  rw [box_len]
  exact Nat.le_refl _
theorem ris_srt {xs : List Str} (h : xs.Nodup) : Ris (srt xs) := ris_of (srt_sorted xs) ((srt_perm xs).nodup_iff.mpr h)
theorem grown_in {N : List Str} (hN : Ris N) {rows : List (List Str)} (h : ∀ r ∈ rows, ∀ y ∈ r, y ∈ N) {s : List Str} (hs : s ∈ grown rows) : Ris s ∧ (∀ y ∈ s, y ∈ N) ∧ s.length ≤ N.length := by
  rw [grown_eq hN rows h] at hs
  have m := least_sub (tr_ris hN) hs
  obtain ⟨⟨h1, h2⟩, _⟩ := (tr_mem hN).mp m
  exact ⟨h1, h2, (sublist_of hN h1 h2).length_le⟩
theorem grown_snoc (rows : List (List Str)) (r : List Str) : grown (rows ++ [r]) = least (cand (grown rows) r) := by
  unfold grown
  rw [List.foldl_append]
  rfl
end K1
end
section
set_option maxHeartbeats 8000000
/-! what a book's methods promise -/
namespace K1
open PySem PySem.Spec PyProof.Rows L2 Gr GxR Srx Skx Dcx
structure BkC (K : PySem.W.Frag) (mg : Str → Option Value) (C : Addr) : Prop where
  cl : Cls K C
  nR : NoAttr K C "_rows"
  nN : NoAttr K C "_next_number"
  mgC : mg "Book" = some (.ref C)
/-! ### rows and names -/
theorem flatten_len : ∀ {rows : List (List Str)} {m : Nat}, (∀ r ∈ rows, r.length ≤ m) → rows.flatten.length ≤ rows.length * m
  | [], _, _ => Nat.zero_le _
  | r :: rows, m, h => by
    have h1 := flatten_len (rows := rows) (m := m) fun x hx => h x (List.mem_cons_of_mem _ hx)
    have h2 := h r List.mem_cons_self
    rw [List.flatten_cons, List.length_append, List.length_cons, Nat.succ_mul]
    omega
theorem allN_iff {rows : List (List Str)} {y : Str} : y ∈ allN rows ↔ ∃ r ∈ rows, y ∈ r := by
  unfold allN
  rw [once_mem, List.mem_flatten]
theorem ris_allN (rows : List (List Str)) : Ris (allN rows) := ris_once _
theorem row_in {rows : List (List Str)} {r : List Str} (hr : r ∈ rows) : ∀ y ∈ r, y ∈ allN rows := fun y hy => allN_iff.mpr ⟨r, hr, hy⟩
theorem rws_mem {tb : Tb1} {e : Int × Addr × List Str} (h : e ∈ tb) : e.2.2 ∈ rws tb := List.mem_map.mpr ⟨e, h, rfl⟩
theorem Tok.rlen {tb : Tb1} {n : Int} (T : Tok tb n) {r : List Str} (h : r ∈ rws tb) : Ris r ∧ Nms r ∧ r.length ≤ 12 := by
  obtain ⟨e, he, rfl⟩ := List.mem_map.mp h
  obtain ⟨h1, h2⟩ := T.set e he
  exact ⟨h1, h2, Nat.le_trans (sublist_of (ris_allN _) h1 (row_in h)).length_le T.nms⟩
theorem Tok.flat {tb : Tb1} {n : Int} (T : Tok tb n) : (rws tb).flatten.length ≤ 360 := by
  refine Nat.le_trans (flatten_len fun r h => (T.rlen h).2.2) ?_
  have h1 := T.few
  unfold rws
  rw [List.length_map]
  omega
theorem Tok.nmsN {tb : Tb1} {n : Int} (T : Tok tb n) : Nms (allN (rws tb)) := by
  intro y hy
  obtain ⟨r, hr, hy⟩ := allN_iff.mp hy
  exact (T.rlen hr).2.1 y hy
/-- what least tells of such a book -/
theorem Tok.grown {tb : Tb1} {n : Int} (T : Tok tb n) : (grown (rws tb)).length ≤ 4096 ∧ ∀ s ∈ grown (rws tb), Ris s ∧ Nms s ∧ s.length ≤ 12 := by
  have hN := ris_allN (rws tb)
  have hr : ∀ r ∈ rws tb, ∀ y ∈ r, y ∈ allN (rws tb) := fun r h => row_in h
  refine ⟨Nat.le_trans (grown_len hN hr) (Nat.pow_le_pow_right (by decide) T.nms : 2 ^ _ ≤ 2 ^ 12), fun s hs => ?_⟩
  obtain ⟨h1, h2, h3⟩ := grown_in hN hr hs
  exact ⟨h1, fun y hy => T.nmsN y (h2 y hy), Nat.le_trans h3 T.nms⟩
theorem rws_snoc (tb : Tb1) (e : Int × Addr × List Str) : rws (tb ++ [e]) = rws tb ++ [e.2.2] := by
  unfold rws
  rw [List.map_append]
  rfl
theorem once_congr {xs ys : List Str} (h : ∀ y, y ∈ xs ↔ y ∈ ys) : once xs = once ys := by
  have n1 := (ris_once xs).nodup
  have n2 := (ris_once ys).nodup
  refine sorted_one ((List.perm_ext_iff_of_nodup n1 n2).mpr fun y => ?_) (ris_once xs).sorted (ris_once ys).sorted
  rw [once_mem, once_mem]
  exact h y
theorem allN_once (rows : List (List Str)) (xs : List Str) : allN (rows ++ [once xs]) = allN (rows ++ [xs]) := by
  unfold allN
  refine once_congr fun y => ?_
  rw [List.flatten_append, List.flatten_append, List.mem_append, List.mem_append, List.mem_flatten (L := [once xs]), List.mem_flatten (L := [xs])]
  simp [once_mem]
theorem Tok.put {tb : Tb1} {n : Int} (T : Tok tb n) {xs : List Str} (nm : Nms xs) (few : tb.length < 30) (wide : (allN (rws tb ++ [xs])).length ≤ 12) (p : Addr) : Tok (tb ++ [(n, p, once xs)]) (n + 1) := by
  refine ⟨?_, fun e he => ?_, fun e he => ?_, ?_, ?_, ?_⟩
  · unfold nums
    rw [List.map_append]
    refine List.pairwise_append.mpr ⟨T.num, List.pairwise_singleton _ _, fun a ha b hb => ?_⟩
    obtain ⟨e, he, rfl⟩ := List.mem_map.mp ha
    rw [show b = n by simpa using hb]
    exact (T.bnd e he).2
  · rcases List.mem_append.mp he with he | he
    · have := T.bnd e he
      exact ⟨this.1, by omega⟩
    · rw [List.mem_singleton.mp he]
      exact ⟨T.n0, by show n < n + 1; omega⟩
  · rcases List.mem_append.mp he with he | he
    · exact T.set e he
    · rw [List.mem_singleton.mp he]
      exact ⟨ris_once xs, once_nms nm⟩
  · rw [List.length_append, List.length_singleton]
    omega
  · rw [rws_snoc, allN_once]
    exact wide
  · have := T.n0
    omega
theorem Tok.take {tb : Tb1} {n : Int} (T : Tok tb n) (k : Int) : Tok (tb.filter fun e => decide (e.1 ≠ k)) n := by
  have sub : List.Sublist (tb.filter fun e => decide (e.1 ≠ k)) tb := List.filter_sublist
  refine ⟨T.num.sublist (sub.map _), fun e he => T.bnd e (sub.subset he), fun e he => T.set e (sub.subset he), Nat.le_trans sub.length_le T.few, ?_, T.n0⟩
  refine Nat.le_trans (sublist_of (ris_allN _) (ris_allN _) fun y hy => ?_).length_le T.nms
  obtain ⟨r, hr, hy⟩ := allN_iff.mp hy
  exact allN_iff.mpr ⟨r, (sub.map _).subset hr, hy⟩
/-! ### a new book -/
def spInit (C : Addr) : Sp := fun vs H Q _ => ∃ (b dx : Addr), vs = [.ref b] ∧ H b = some (.ins C dx []) ∧ ∀ d H', H d = none → GrX (fun a => a = b) H H' → Bk C H' b d [] 0 → Q .non H'
def tNew (C : Addr) : TE := fun _ H Q => ∀ b d H', Gr H H' → H b = none → H d = none → Bk C H' b d [] 0 → Q (.ref b) H'
structure MkB (P : Program) (w : World) (K : PySem.W.Frag) (mg : Str → Option Value) (base : Heap) (C : Addr) : Prop where
  ex : ∃ (f : Addr) (fd : FuncData) (ps : List Str), FnOk P w K mg base CX0 1 f fd ps (spInit C) ∧ Mk K C f ∧ Binds K fd ps []
theorem pe_new {X : Cx} {C : Addr} {j : Nat} {p pos : Pos} (c : MkB X.prog X.w X.K X.mg X.base C) (BC : BkC X.K X.mg C) (hr : Room j X.A) (hk : 2 ≤ j) (hg : Gl X "Book") : PE X (.Call (.Name "Book" p) [] [] pos) (tNew C) := by
  obtain ⟨f, fd, ps, F, M, b⟩ := c.ex
  refine ⟨fun pins s σ H Q I h => (pe_make0 M F (hr.mono hk) hg BC.mgC b .nil pass0).run pins s σ H Q I ?_⟩
  intro x dx nx ndx ne
  have hdx : (upd H dx (.own x)) x = none := by rw [upd_ne ne.symm]; exact nx
  have g2 : Gr H (upd (upd H dx (.own x)) x (.ins C dx [])) := (Gr.new ndx).trans (Gr.new hdx)
  refine ⟨x, dx, rfl, upd_same, fun d H' nd g B => ⟨rfl, h x d H' (GrX.young g2 g fun b hb => by rw [hb]; exact nx) nx (g2.free nd) B⟩⟩
/-! ### the promises -/
def spBSets (C : Addr) : Sp := fun vs H Q _ => ∃ b d tb n, vs = [.ref b] ∧ Bk C H b d tb n ∧ ∀ p, H p = none → Q (.ref p) (upd H p (.lst (tb.map fun e => V.ref e.2.1)))
def spBNames (C : Addr) : Sp := fun vs H Q _ => ∃ b d tb n, vs = [.ref b] ∧ Bk C H b d tb n ∧ Tok tb n ∧ ∀ p H', Gr H H' → H p = none → H' p = some (.lst ((allN (rws tb)).map V.str)) → Q (.ref p) H'
def spPut (K : PySem.W.Frag) (C : Addr) (N : TabN) (R : ErN) : Sp := fun vs H Q E => ∃ b d tb n v, vs = [.ref b, v] ∧ Bk C H b d tb n ∧ Tok tb n ∧ N.G H ∧
  ((∃ xs, HOk H v xs ∧ xs.length ≤ 100 ∧ xs.Nodup ∧ tb.length < 30 ∧ (allN (rws tb ++ [xs])).length ≤ 12 ∧ ∀ p H', GrX (fun a => a = b ∨ a = d) H H' → H p = none → Bk C H' b d (tb ++ [(n, p, once xs)]) (n + 1) → Q (.int n) H') ∨
   (∃ xs, HOk H v xs ∧ xs.length ≤ 100 ∧ xs.Nodup ∧ (30 ≤ tb.length ∨ 12 < (allN (rws tb ++ [xs])).length) ∧ ∀ H', Gr H H' → E (.ref R.many) none H') ∨
   (∃ xs, HOk H v xs ∧ ¬ xs.Nodup ∧ ∀ H', Gr H H' → E (.ref R.row) none H') ∨ (HBadN K H v ∧ ∀ H', Gr H H' → E (.ref R.name) none H') ∨ (HBadR K H v ∧ ∀ H', Gr H H' → E (.ref R.row) none H'))
/-- what is no number of a row that is there -/
def BadNo (K : PySem.W.Frag) (H : Hp) (v : V) (tb : Tb1) : Prop := (∃ k : Int, v = .int k ∧ k ∉ nums tb) ∨ (∃ t : String, TyX K H v (.type t) ∧ (kitB t "int" = some false ∨ (kitB t "int" = some true ∧ kitB t "bool" = some true)))
def spTake (K : PySem.W.Frag) (C : Addr) (R : ErN) : Sp := fun vs H Q E => ∃ b d tb n v, vs = [.ref b, v] ∧ Bk C H b d tb n ∧ Tok tb n ∧
  ((∃ k : Int, v = .int k ∧ k ∈ nums tb ∧ ∀ H', GrX (fun a => a = d) H H' → Bk C H' b d (tb.filter fun e => decide (e.1 ≠ k)) n → Q .non H') ∨ (BadNo K H v tb ∧ ∀ H', Gr H H' → E (.ref R.no) none H'))
/-- a told pair: its tuple, its number, its list, the row -/
structure Pr1 where
  t : Addr
  k : Int
  l : Addr
  r : List Str
structure ToldP (H H' : Hp) (p : Addr) (rs : List Pr1) : Prop where
  new : H p = none
  at_ : H' p = some (.lst (rs.map fun r => V.ref r.t))
  own : ∀ r ∈ rs, H r.t = none ∧ H r.l = none ∧ r.t ≠ p ∧ r.l ≠ p ∧ H' r.t = some (.tup [.int r.k, .ref r.l]) ∧ H' r.l = some (.lst (r.r.map V.str))
def nr (tb : Tb1) : List (Int × List Str) := tb.map fun e => (e.1, e.2.2)
def spBRows (C : Addr) : Sp := fun vs H Q _ => ∃ b d tb n, vs = [.ref b] ∧ Bk C H b d tb n ∧ Tok tb n ∧ ∀ p H' rs, Gr H H' → ToldP H H' p rs → rs.map (fun r => (r.k, r.r)) = nr tb → Q (.ref p) H'
def spBLeastRows (C : Addr) (N : TabN) : Sp := fun vs H Q _ => ∃ b d tb n, vs = [.ref b] ∧ Bk C H b d tb n ∧ Tok tb n ∧ N.G H ∧ ∀ p H' ks, Gr H H' → Told H H' p ks → ks.map (·.2) = least (rws tb) → Q (.ref p) H'
def spBLeast (C : Addr) (N : TabN) : Sp := fun vs H Q _ => ∃ b d tb n, vs = [.ref b] ∧ Bk C H b d tb n ∧ Tok tb n ∧ N.G H ∧ ∀ p H' ks, Gr H H' → Told H H' p ks → ks.map (·.2) = grown (rws tb) → Q (.ref p) H'
def fewV (rows : List (List Str)) : V := match grown rows with
  | [] => .non
  | s :: _ => .int (s.length : Nat)
def spBFewest (C : Addr) (N : TabN) : Sp := fun vs H Q _ => ∃ b d tb n, vs = [.ref b] ∧ Bk C H b d tb n ∧ Tok tb n ∧ N.G H ∧ ∀ H', Gr H H' → Q (fewV (rws tb)) H'
def spBMetBy (K : PySem.W.Frag) (C : Addr) (N : TabN) : Sp := fun vs H Q _ => ∃ (b d : Addr) (tb : Tb1) (n : Int) (a : Addr) (xs : List Str), vs = [.ref b, .ref a] ∧ Bk C H b d tb n ∧ Tok tb n ∧ N.G H ∧ H a = some (.lst (xs.map V.str)) ∧ ∀ H', Gr H H' → Q (.bl (mtAll xs (rws tb))) H'
def spBMeets (K : PySem.W.Frag) (C : Addr) (N : TabN) (R : ErN) : Sp := fun vs H Q E => ∃ b d tb n v, vs = [.ref b, v] ∧ Bk C H b d tb n ∧ Tok tb n ∧ N.G H ∧
  ((∃ xs, HOk H v xs ∧ ∀ H', Gr H H' → Q (.bl (mtAll xs (rws tb))) H') ∨ (HBadN K H v ∧ ∀ H', Gr H H' → E (.ref R.name) none H') ∨ (HBadR K H v ∧ ∀ H', Gr H H' → E (.ref R.row) none H'))
def spBMeeting (K : PySem.W.Frag) (C : Addr) (N : TabN) (R : ErN) : Sp := fun vs H Q E => ∃ b d tb n v, vs = [.ref b, v] ∧ Bk C H b d tb n ∧ Tok tb n ∧ N.G H ∧
  ((∃ xs, HOk H v xs ∧ mtAll xs (rws tb) = true ∧ ∀ p H', Gr H H' → H p = none → H' p = some (.lst ((once xs).map V.str)) → Q (.ref p) H') ∨ (∃ xs, HOk H v xs ∧ mtAll xs (rws tb) = false ∧ ∀ H', Gr H H' → E (.ref R.meet) none H') ∨
   (HBadN K H v ∧ ∀ H', Gr H H' → E (.ref R.name) none H') ∨ (HBadR K H v ∧ ∀ H', Gr H H' → E (.ref R.row) none H'))
/-! ### small readings -/
theorem gr_lock {H H' : Hp} {d : Addr} {u : HO} {od : Obj} (e : H d = some u) (nt : NoTbl u) (g : Gr (upd H d (.frz od u)) H') : Gr H (upd H' d u) :=
  ⟨fun b o eb n => by
    by_cases h : b = d
    · subst h
      rw [upd_same, ← eb, e]
    · rw [upd_ne h]
      exact g.at_ b o (by rw [upd_ne h]; exact eb) n, fun b ps eb => by
    by_cases h : b = d
    · subst h
      rw [e] at eb
      exact absurd (Option.some.inj eb) (nt ps)
    · obtain ⟨p1, e1, k1⟩ := g.tab b ps (by rw [upd_ne h]; exact eb)
      exact ⟨p1, by rw [upd_ne h]; exact e1, k1⟩⟩
theorem kvB_in (tb : Tb1) (k : Int) : (valV (kvB tb) (Sum.inl k : Key)).isSome = decide (k ∈ nums tb) := by
  rw [← valV_any, Bool.eq_iff_iff, List.any_eq_true, decide_eq_true_eq]
  unfold kvB nums
  constructor
  · rintro ⟨kv, h, e⟩
    obtain ⟨x, hx, rfl⟩ := List.mem_map.mp h
    have e := of_decide_eq_true e
    injection e with e
    exact List.mem_map.mpr ⟨x, hx, e⟩
  · intro h
    obtain ⟨x, hx, rfl⟩ := List.mem_map.mp h
    exact ⟨_, List.mem_map.mpr ⟨x, hx, rfl⟩, decide_eq_true rfl⟩
theorem kvB_put {tb : Tb1} {k : Int} (h : k ∉ nums tb) (p : Addr) (r : List Str) : putK (kvB tb) (Sum.inl k : Key) (V.ref p) = kvB (tb ++ [(k, p, r)]) := by
  rw [putK_new]
  · unfold kvB
    rw [List.map_append]
    rfl
  · have h1 := kvB_in tb k
    rw [decide_eq_false h] at h1
    cases e : valV (kvB tb) (Sum.inl k : Key) with
    | none => rfl
    | some v => rw [e] at h1; cases h1
theorem kvB_drop (tb : Tb1) (k : Int) : dropK (kvB tb) (Sum.inl k : Key) = kvB (tb.filter fun e => decide (e.1 ≠ k)) := by
  unfold dropK kvB
  rw [List.filter_map]
  refine congrArg _ (List.filter_congr fun e _ => ?_)
  show decide ((Sum.inl e.1 : Key) ≠ Sum.inl k) = decide (e.1 ≠ k)
  rw [decide_eq_decide]
  exact not_congr ⟨fun z => by injection z, fun z => by rw [z]⟩
theorem Tok.fresh {tb : Tb1} {n : Int} (T : Tok tb n) : n ∉ nums tb := by
  intro h
  obtain ⟨e, he, z⟩ := List.mem_map.mp h
  have := (T.bnd e he).2
  omega
theorem kvB_len (tb : Tb1) : (kvB tb).length = tb.length := List.length_map _
end K1
namespace K1
open PySem PySem.Spec PyProof.Rows L2 Gr GxR Srx Skx Dcx
abbrev FnM (K : PySem.W.Frag) (x q : Str) (st : Stmt) (f : Addr) (fd : FuncData) : Prop := FunD K x q (defArgs st) (defBody st) (defScope st) [] [] f fd
/-- {name for row in xs for name in row} -/
theorem sc2_rows {w : World} {K : PySem.W.Frag} {a D : Addr} {ps : List (Addr × List Str)} {σ : L2.St} {H1 : Hp} {Qd : Hp → Prop} {i j : Nat}
    (hA : SqL K H1 a (ps.map fun q => V.ref q.1)) (hq : ∀ q ∈ ps, SqL K H1 q.1 (q.2.map V.str)) (hD : H1 D = none) (few : (ps.map (·.2)).flatten.length ≤ 1000) (qd : Qd (upd H1 D (SetTx w D (Sx.dd (ps.map (·.2)).flatten))))
    (hw1 : ∀ v, wipe ((wipe σ [i, j]).set i (some v)) [i, j] = wipe σ [i, j]) (hw2 : ∀ v u, wipe ((wipe ((wipe σ [i, j]).set i (some v)) [j]).set j (some u)) [j] = wipe ((wipe σ [i, j]).set i (some v)) [j])
    (hg1 : ∀ v : V, ((wipe σ [i, j]).set i (some v))[i]? = some (some v)) (hg2 : ∀ v u : V, ((wipe ((wipe σ [i, j]).set i (some v)) [j]).set j (some u))[j]? = some (some u)) :
    ∃ W : Nat → Nat → Hp → Prop, (∃ m, W 0 m (upd H1 D (SetTx w D []))) ∧ ∀ k m H, W k m H →
      ((Itl K a).stop k H ∧ Qd H) ∨ ((Itl K a).go k H ∧ ∃ Nx : Hp → Prop, (∀ H', Nx H' → ∃ m', m' < m ∧ W (k + 1) m' H') ∧ ∀ x H', (Itl K a).yld k H x H' → gName i x (wipe σ [i, j]) H' fun σ2 H2 => wipe σ2 [i, j] = wipe σ [i, j] ∧ tYes σ2 H2 fun b H3 =>
        if b = true then iList K (tVar i) σ2 H3 fun J1 H4 => ∃ W1 : Nat → Nat → Hp → Prop, (∃ m, W1 0 m H4) ∧ ∀ l k H, W1 l k H →
          (J1.stop l H ∧ Nx H) ∨ (J1.go l H ∧ ∃ Nx1 : Hp → Prop, (∀ H', Nx1 H' → ∃ k', k' < k ∧ W1 (l + 1) k' H') ∧ ∀ x H', J1.yld l H x H' → gName j x (wipe σ2 [j]) H' fun σ3 H5 => wipe σ3 [j] = wipe σ2 [j] ∧ tYes σ3 H5 fun b H6 =>
            if b = true then tVar j σ3 H6 fun y H7 => ∃ x ks, y = .str x ∧ H7 D = some (SetTx w D ks) ∧ ks.length + 1 < scanBound ∧ Nx1 (upd H7 D (SetTx w D (Sx.once ks x))) else Nx1 H6)
        else Nx H3) := by
  have look : ∀ (b : Addr) (xs : List V) (ks : List Str), SqL K H1 b xs → SqL K (upd H1 D (SetTx w D ks)) b xs := fun b xs ks h => (Gr.new hD).seq h
  have room : ∀ zs : List Str, zs.length ≤ 1000 → (Sx.dd zs).length + 1 < scanBound := fun zs h => by
    have := Sx.dd_len zs
    unfold scanBound
    omega
  refine ⟨fun k m H => m = ps.length - k ∧ k ≤ ps.length ∧ H = upd H1 D (SetTx w D (Sx.dd ((ps.take k).map (·.2)).flatten)), ⟨ps.length, by simp, Nat.zero_le _, rfl⟩, ?_⟩
  rintro k m H ⟨rfl, hk, rfl⟩
  have q := look a _ (Sx.dd ((ps.take k).map (·.2)).flatten) hA
  by_cases lt : k < ps.length
  · refine .inr ⟨⟨_, V.ref ps[k].1, q, by simp [lt]⟩, fun H6 => H6 = upd H1 D (SetTx w D (Sx.dd ((ps.take (k + 1)).map (·.2)).flatten)), fun H6 e6 => ⟨ps.length - (k + 1), by omega, rfl, lt, e6⟩, fun x H6 y => ?_⟩
    obtain ⟨e, y⟩ := y
    subst e
    have hx := y _ q
    obtain ⟨q0, hq0, rfl⟩ := get_map hx
    have mq := List.mem_of_getElem? hq0
    refine ⟨hw1 _, yesIf ?_⟩
    have etk : ((ps.take (k + 1)).map (·.2)).flatten = ((ps.take k).map (·.2)).flatten ++ q0.2 := by
      rw [take_map hq0, List.flatten_append]
      simp
    have small : ((ps.take k).map (·.2)).flatten.length + q0.2.length ≤ 1000 := by
      rw [← List.length_append, ← etk]
      have e9 : (ps.map (·.2)).flatten = ((ps.take (k + 1)).map (·.2)).flatten ++ ((ps.drop (k + 1)).map (·.2)).flatten := by
        rw [← List.flatten_append, ← List.map_append, List.take_append_drop]
      rw [e9, List.length_append] at few
      omega
    refine ⟨_, hg1 _, q0.1, rfl, ⟨_, look q0.1 _ _ (hq q0 mq)⟩, fun l k' H => k' = q0.2.length - l ∧ l ≤ q0.2.length ∧ H = upd H1 D (SetTx w D (Sx.dd (((ps.take k).map (·.2)).flatten ++ q0.2.take l))), ⟨q0.2.length, by simp, Nat.zero_le _, by rw [List.take_zero, List.append_nil]⟩, ?_⟩
    rintro l k' H ⟨rfl, hl, rfl⟩
    have q2 := look q0.1 _ (Sx.dd (((ps.take k).map (·.2)).flatten ++ q0.2.take l)) (hq q0 mq)
    by_cases lt2 : l < q0.2.length
    · refine .inr ⟨⟨_, V.str q0.2[l], q2, by simp [lt2]⟩, fun H6 => H6 = upd H1 D (SetTx w D (Sx.dd (((ps.take k).map (·.2)).flatten ++ q0.2.take (l + 1)))), fun H6 e6 => ⟨q0.2.length - (l + 1), by omega, rfl, lt2, e6⟩, fun x H6 y => ?_⟩
      obtain ⟨e, y⟩ := y
      subst e
      have hx := y _ q2
      obtain ⟨x0, hx0, rfl⟩ := get_map hx
      refine ⟨hw2 _ _, yesIf ⟨_, hg2 _ _, x0, _, rfl, upd_same, ?_, ?_⟩⟩
      · refine room _ ?_
        rw [List.length_append, List.length_take]
        omega
      · rw [upd_upd, List.take_add_one, hx0, ← List.append_assoc]
        congr 2
        unfold Sx.dd
        show Sx.once _ x0 = List.foldl Sx.once [] (_ ++ [x0])
        exact (List.foldl_append (f := Sx.once) (b := []) (l := _) (l' := [x0])).symm
    · have e : l = q0.2.length := by omega
      subst e
      refine .inl ⟨⟨_, q2, by rw [List.length_map]; exact Nat.le_refl _⟩, ?_⟩
      rw [List.take_length, etk]
  · have e : k = ps.length := by omega
    subst e
    refine .inl ⟨⟨_, q, by rw [List.length_map]; exact Nat.le_refl _⟩, ?_⟩
    rw [List.take_length]
    exact qd
end K1
namespace K1
open PySem PySem.Spec PyProof.Rows L2 Gr GxR Srx Skx Dcx
theorem once_two (rows : List (List Str)) (xs : List Str) : once (allN rows ++ once xs) = allN (rows ++ [xs]) := by
  unfold allN
  refine once_congr fun y => ?_
  rw [List.mem_append, once_mem, once_mem, List.flatten_append, List.mem_append, List.mem_flatten (L := [xs])]
  simp
end K1
namespace K1
open PySem PySem.Spec PyProof.Rows L2 Gr GxR Srx Skx Dcx
theorem once_all {rows : List (List Str)} (h : ∀ r ∈ rows, Ris r) : rows.map once = rows := by
  conv => rhs; rw [← List.map_id rows]
  exact List.map_congr_left fun r hr => once_ris (h r hr)
theorem Told.one {H : Hp} {e A : Addr} (ne : H e = none) (nA : (upd H e (.lst [])) A = none) : Told H (upd (upd H e (.lst [])) A (.lst [V.ref e])) A [(e, [])] := by
  have eA : e ≠ A := ne_of_none (show (upd H e (.lst [])) e = some _ from upd_same) nA
  refine ⟨(Gr.new ne).free nA, upd_same, fun q hq => ?_, by simp⟩
  rw [List.mem_singleton.mp hq]
  exact ⟨ne, eA, by rw [upd_ne eA, upd_same]; rfl⟩
end K1
namespace K1
open PySem PySem.Spec PyProof.Rows L2 Gr GxR Srx Skx Dcx
theorem mtAll_once_l (xs : List Str) (rows : List (List Str)) : mtAll (once xs) rows = mtAll xs rows := by
  rw [Bool.eq_iff_iff, mtAll_iff, mtAll_iff]
  exact forall_congr' fun r => imp_congr_right fun _ => exists_congr fun y => and_congr_left fun _ => once_mem
end K1
namespace K1
open PySem PySem.Spec PyProof.Rows L2 Gr GxR Srx Skx Dcx
/-- rows numbered from 0 on -/
def numd (rows : List (List Str)) : List (Int × List Str) := rows.mapIdx fun i r => ((i : Int), r)
theorem numd_snoc (rows : List (List Str)) (r : List Str) : numd (rows ++ [r]) = numd rows ++ [((rows.length : Int), r)] := by
  unfold numd
  rw [List.mapIdx_concat]
theorem numd_rows (rows : List (List Str)) : (numd rows).map (·.2) = rows := by
  induction rows using snoc_ind with
  | h0 => rfl
  | h1 xs x ih => rw [numd_snoc, List.map_append, ih]; rfl
theorem rws_nr (tb : Tb1) : rws tb = (nr tb).map (·.2) := by
  unfold rws nr
  rw [List.map_map]
  rfl
theorem nr_snoc (tb : Tb1) (e : Int × Addr × List Str) : nr (tb ++ [e]) = nr tb ++ [(e.1, e.2.2)] := by
  unfold nr
  rw [List.map_append]
  rfl
theorem rws_numd {tb : Tb1} {rows : List (List Str)} (h : nr tb = numd rows) : rws tb = rows := by rw [rws_nr, h, numd_rows]
theorem allN_map_once (rows : List (List Str)) : allN (rows.map once) = allN rows := by
  unfold allN
  refine once_congr fun y => ?_
  rw [List.mem_flatten, List.mem_flatten]
  constructor
  · rintro ⟨r, hr, hy⟩
    obtain ⟨x, hx, rfl⟩ := List.mem_map.mp hr
    exact ⟨x, hx, once_mem.mp hy⟩
  · rintro ⟨r, hr, hy⟩
    exact ⟨once r, List.mem_map.mpr ⟨r, hr, rfl⟩, once_mem.mpr hy⟩
theorem allN_mono {A B : List (List Str)} (h : ∀ r ∈ A, r ∈ B) : (allN A).length ≤ (allN B).length :=
  (sublist_of (ris_allN B) (ris_allN A) fun y hy => by
    obtain ⟨r, hr, hy⟩ := allN_iff.mp hy
    exact allN_iff.mpr ⟨r, h r hr, hy⟩).length_le
/-- a list of lists, read -/
structure LQ (K : PySem.W.Frag) (H : Hp) (a : Addr) (ps : List (Addr × List Str)) : Prop where
  at_ : SqL K H a (ps.map fun q => V.ref q.1)
  own : ∀ q ∈ ps, SqL K H q.1 (q.2.map V.str)
theorem LQ.gr {K : PySem.W.Frag} {H H' : Hp} {a : Addr} {ps : List (Addr × List Str)} (h : LQ K H a ps) (g : Gr H H') : LQ K H' a ps := ⟨g.seq h.at_, fun q hq => g.seq (h.own q hq)⟩
theorem LL.lq {K : PySem.W.Frag} {H : Hp} {a : Addr} {ps : List (Addr × List Str)} (h : LL H a ps) : LQ K H a ps := ⟨.inl (.inl h.at_), fun q hq => .inl (.inl (h.own q hq))⟩
/-- rows that a book may take all together -/
structure RowsOk (rows : List (List Str)) : Prop where
  row : ∀ r ∈ rows, Nms r ∧ r.Nodup ∧ r.length ≤ 100
  few : rows.length ≤ 30
  wide : (allN rows).length ≤ 12
/-- a book of the rows -/
structure NewB (C : Addr) (H H' : Hp) (b d : Addr) (tb : Tb1) (rows : List (List Str)) : Prop where
  nb : H b = none
  ndd : H d = none
  bk : Bk C H' b d tb rows.length
  ok : Tok tb rows.length
  rows : nr tb = numd (rows.map once)
theorem NewB.gr {C b d : Addr} {H H1 H2 : Hp} {tb : Tb1} {rows : List (List Str)} (h : NewB C H H1 b d tb rows) (g : Gr H1 H2) : NewB C H H2 b d tb rows := ⟨h.nb, h.ndd, h.bk.gr g, h.ok, h.rows⟩
theorem NewB.from {C b d : Addr} {H0 H H2 : Hp} {tb : Tb1} {rows : List (List Str)} (h : NewB C H H2 b d tb rows) (g : Gr H0 H) : NewB C H0 H2 b d tb rows := ⟨g.free h.nb, g.free h.ndd, h.bk, h.ok, h.rows⟩
theorem NewB.rws {C b d : Addr} {H H1 : Hp} {tb : Tb1} {rows : List (List Str)} (h : NewB C H H1 b d tb rows) : rws tb = rows.map once := rws_numd h.rows
theorem NewB.least {C b d : Addr} {H H1 : Hp} {tb : Tb1} {rows : List (List Str)} (h : NewB C H H1 b d tb rows) : grown (K1.rws tb) = grown rows := by
  rw [h.rws]
  exact grown_congr fun x => mtAll_once x rows
def spLBook (K : PySem.W.Frag) (C : Addr) (N : TabN) : Sp := fun vs H Q _ => ∃ (a : Addr) (ps : List (Addr × List Str)), vs = [.ref a] ∧ LQ K H a ps ∧ RowsOk (ps.map (·.2)) ∧ N.G H ∧
  ∀ b d H' tb, Gr H H' → NewB C H H' b d tb (ps.map (·.2)) → Q (.ref b) H'
end K1
namespace K1
open PySem PySem.Spec PyProof.Rows L2 Gr GxR Srx Skx Dcx
theorem rows_in (nm : List Str) {rps : List (Addr × List Str)} (rok : ∀ q ∈ rps, q.2.Nodup ∧ (∀ y ∈ q.2, y ∈ nm) ∧ q.2.length ≤ nm.length) : ∀ r ∈ rps.map (·.2), ∀ y ∈ r, y ∈ srt nm := by
  intro r hr y hy
  obtain ⟨q0, hq0, rfl⟩ := List.mem_map.mp hr
  exact srt_mem.mpr ((rok q0 hq0).2.1 y hy)
theorem rowsOk {nm : List Str} {rps : List (Addr × List Str)} (nms : Nms nm) (nd : nm.Nodup) (few : nm.length ≤ 12) (rok : ∀ q ∈ rps, q.2.Nodup ∧ (∀ y ∈ q.2, y ∈ nm) ∧ q.2.length ≤ nm.length) (len : rps.length ≤ 30) : RowsOk (rps.map (·.2)) := by
  refine ⟨fun r hr => ?_, by rw [List.length_map]; exact len, ?_⟩
  · obtain ⟨q0, hq0, rfl⟩ := List.mem_map.mp hr
    obtain ⟨h1, h2, h3⟩ := rok q0 hq0
    exact ⟨fun y hy => nms y (h2 y hy), h1, by omega⟩
  · refine Nat.le_trans (sublist_of (ris_srt nd) (ris_allN _) fun y hy => ?_).length_le (by rw [srt_len]; exact few)
    obtain ⟨r, hr, hy⟩ := allN_iff.mp hy
    exact rows_in nm rok r hr y hy
theorem fit_grown {M : List Str} (hM : Ris M) {rows : List (List Str)} (h : ∀ r ∈ rows, ∀ y ∈ r, y ∈ M) (nm : Nms M) (len : M.length ≤ 7) : Fit (grown rows) := by
  refine ⟨?_, fun xs hx => ?_⟩
  · exact Nat.le_trans (grown_len hM h) (Nat.le_trans (Nat.pow_le_pow_right (by decide) len : 2 ^ M.length ≤ 2 ^ 7) (by decide))
  · obtain ⟨h1, h2, h3⟩ := grown_in hM h hx
    exact ⟨fun y hy => nm y (h2 y hy), by omega⟩
theorem nms_srt {nm : List Str} (h : Nms nm) : Nms (srt nm) := fun y hy => h y (srt_mem.mp hy)
end K1
end
section
set_option maxHeartbeats 8000000
namespace K1
open PySem PySem.Spec PyProof.Rows L2 Gr GxR Srx Skx Dcx
theorem grown_empty {rows : List (List Str)} (h : [] ∈ rows) : grown rows = [] := by
  refine List.eq_nil_iff_forall_not_mem.mpr fun x hx => ?_
  obtain ⟨y, _, hy⟩ := mtAll_iff.mp (grown_mem.mp hx).2.1 [] h
  cases hy
theorem head_nm {nm : List Str} (h : nm ≠ []) : ∃ n0 nrest, nm = n0 :: nrest := by
  cases nm with
  | nil => exact absurd rfl h
  | cons x r => exact ⟨x, r, rfl⟩
theorem at_zero (x : Str) (r : List Str) : atI ((x :: r).map V.str) 0 = some (V.str x) := by
  show atI ((x :: r).map V.str) ((0 : Nat) : Int) = _
  exact atI_nat rfl
theorem fit_nil : Fit [] := ⟨Nat.zero_le _, fun _ z => absurd z List.not_mem_nil⟩
theorem fit_one : Fit [[]] := ⟨by decide, fun x hx => by rw [List.mem_singleton.mp hx]; exact ⟨fun _ z => absurd z List.not_mem_nil, Nat.zero_le _⟩⟩
end K1
namespace K1
open PySem PySem.Spec PyProof.Rows L2 Gr GxR Srx Skx Dcx
/-- [.. x .. y .. for x in xs for y in ys]: each made anew; ys is asked in each turn -/
theorem lc2_new {K : PySem.W.Frag} {a D : Addr} {ps qs : List (Addr × List Str)} {σ : L2.St} {H1 : Hp} {Qd : Hp → Prop} {wi1 : TI} {te : TE} {i j : Nat} (F : List Str → List Str → List Str)
    (hA : SqL K H1 a (ps.map fun q => V.ref q.1)) (few : ps.length * qs.length < sizeLine) (hD : H1 D = none)
    (h1 : ∀ q ∈ ps, ∀ (H3 : Hp) (R : It → Hp → Prop), Gr H1 H3 → (∀ c H4, Gr H3 H4 → H3 c = none → H4 c = some (.lst (qs.map fun q => V.ref q.1)) → R (Itl K c) H4) → wi1 ((wipe σ [i, j]).set i (some (.ref q.1))) H3 R)
    (he : ∀ q ∈ ps, ∀ u ∈ qs, ∀ (H5 : Hp) (Q' : VK), Gr H1 H5 → (∀ l H6, Gr H5 H6 → H5 l = none → H6 l = some (.lst ((F q.2 u.2).map V.str)) → Q' (.ref l) H6) → te ((wipe ((wipe σ [i, j]).set i (some (.ref q.1))) [j]).set j (some (.ref u.1))) H5 Q')
    (qd : ∀ H2 rs, Gr H1 H2 → Told H1 H2 D rs → rs.map (·.2) = ps.flatMap (fun q => qs.map fun u => F q.2 u.2) → Qd H2)
    (hw1 : ∀ v, wipe ((wipe σ [i, j]).set i (some v)) [i, j] = wipe σ [i, j]) (hw2 : ∀ v u, wipe ((wipe ((wipe σ [i, j]).set i (some v)) [j]).set j (some u)) [j] = wipe ((wipe σ [i, j]).set i (some v)) [j]) :
    ∃ W : Nat → Nat → Hp → Prop, (∃ m, W 0 m (upd H1 D (.lst []))) ∧ ∀ k m H, W k m H →
      ((Itl K a).stop k H ∧ Qd H) ∨ ((Itl K a).go k H ∧ ∃ Nx : Hp → Prop, (∀ H', Nx H' → ∃ m', m' < m ∧ W (k + 1) m' H') ∧ ∀ x H', (Itl K a).yld k H x H' → gName i x (wipe σ [i, j]) H' fun σ2 H2 => wipe σ2 [i, j] = wipe σ [i, j] ∧ tYes σ2 H2 fun b H3 =>
        if b = true then wi1 σ2 H3 fun J1 H4 => ∃ W1 : Nat → Nat → Hp → Prop, (∃ m, W1 0 m H4) ∧ ∀ l k H, W1 l k H →
          (J1.stop l H ∧ Nx H) ∨ (J1.go l H ∧ ∃ Nx1 : Hp → Prop, (∀ H', Nx1 H' → ∃ k', k' < k ∧ W1 (l + 1) k' H') ∧ ∀ x H', J1.yld l H x H' → gName j x (wipe σ2 [j]) H' fun σ3 H5 => wipe σ3 [j] = wipe σ2 [j] ∧ tYes σ3 H5 fun b H6 =>
            if b = true then te σ3 H6 fun y H7 => ∃ acc, H7 D = some (.lst acc) ∧ acc.length < sizeLine ∧ Nx1 (upd H7 D (.lst (acc ++ [y]))) else Nx1 H6)
        else Nx H3) := by
  let G : List (Addr × List Str) → List (List Str) := fun zs => zs.flatMap (fun q => qs.map fun u => F q.2 u.2)
  have Gtk : ∀ {k : Nat} {q0 : Addr × List Str}, ps[k]? = some q0 → G (ps.take (k + 1)) = G (ps.take k) ++ qs.map fun u => F q0.2 u.2 := by
    intro k q0 h
    show List.flatMap _ _ = List.flatMap _ _ ++ _
    rw [List.take_add_one, h, List.flatMap_append]
    simp
  have Glen : ∀ zs : List (Addr × List Str), (G zs).length = zs.length * qs.length := by
    intro zs
    induction zs with
    | nil => simp [G]
    | cons z zs ih =>
      show (List.flatMap _ (z :: zs)).length = _
      rw [List.flatMap_cons, List.length_append, List.length_map, List.length_cons, Nat.succ_mul]
      have ih : (List.flatMap (fun q : Addr × List Str => qs.map fun u => F q.2 u.2) zs).length = zs.length * qs.length := ih
      omega
  refine ⟨fun k m H => m = ps.length - k ∧ k ≤ ps.length ∧ Gr H1 H ∧ ∃ rs, Told H1 H D rs ∧ rs.map (·.2) = G (ps.take k), ⟨ps.length, by simp, Nat.zero_le _, Gr.new hD, [], Told.nil hD, rfl⟩, ?_⟩
  rintro k m H ⟨rfl, hk, g, rs, T, e⟩
  have q := g.seq hA
  by_cases lt : k < ps.length
  · refine .inr ⟨⟨_, V.ref ps[k].1, q, by simp [lt]⟩, fun H6 => Gr H1 H6 ∧ ∃ rs, Told H1 H6 D rs ∧ rs.map (·.2) = G (ps.take (k + 1)), fun H6 e6 => ⟨ps.length - (k + 1), by omega, rfl, lt, e6⟩, fun x H6 y => ?_⟩
    obtain ⟨e1, y⟩ := y
    subst e1
    have hx := y _ q
    obtain ⟨q0, hq0, rfl⟩ := get_map hx
    have mq := List.mem_of_getElem? hq0
    refine ⟨hw1 _, yesIf (h1 q0 mq _ _ g fun c H4 g4 nc hc => ?_)⟩
    have cD : c ≠ D := (ne_of_none T.at_ nc).symm
    refine ⟨fun l k' H => k' = qs.length - l ∧ l ≤ qs.length ∧ (Gr H1 H ∧ H c = some (.lst (qs.map fun q => V.ref q.1))) ∧ ∃ rs, Told H1 H D rs ∧ rs.map (·.2) = G (ps.take k) ++ (qs.take l).map fun u => F q0.2 u.2, ⟨qs.length, by simp, Nat.zero_le _, ⟨g.trans g4, hc⟩, rs, T.gr g4, by rw [e]; simp⟩, ?_⟩
    rintro l k' H ⟨rfl, hl, ⟨g1x, hc5⟩, rs5, T5, e5⟩
    have q2 : SqL K H c (qs.map fun q => V.ref q.1) := .inl (.inl hc5)
    by_cases lt2 : l < qs.length
    · refine .inr ⟨⟨_, V.ref qs[l].1, q2, by simp [lt2]⟩, fun H6 => (Gr H1 H6 ∧ H6 c = some (.lst (qs.map fun q => V.ref q.1))) ∧ ∃ rs, Told H1 H6 D rs ∧ rs.map (·.2) = G (ps.take k) ++ (qs.take (l + 1)).map fun u => F q0.2 u.2, fun H6 e6 => ⟨qs.length - (l + 1), by omega, rfl, lt2, e6⟩, fun x H6 y => ?_⟩
      obtain ⟨e1, y⟩ := y
      subst e1
      have hx := y _ q2
      obtain ⟨u0, hu0, rfl⟩ := get_map hx
      have mu := List.mem_of_getElem? hu0
      refine ⟨hw2 _ _, yesIf (he q0 mq u0 mu _ _ g1x fun l2 H6 g6 nl el => ⟨_, g6.lst T5.at_, ?_, ⟨(g1x.trans g6).mut hD, by rw [upd_ne cD]; exact g6.lst hc5⟩, rs5 ++ [(l2, F q0.2 u0.2)], T5.snoc2 g1x g6 nl el, ?_⟩)⟩
      · rw [List.length_map]
        have h2 := congrArg List.length e5
        rw [List.length_map, List.length_append, Glen, List.length_map, List.length_take, List.length_take] at h2
        have h3 : (k + 1) * qs.length ≤ ps.length * qs.length := Nat.mul_le_mul_right _ lt
        rw [Nat.succ_mul] at h3
        rw [show min k ps.length = k by omega] at h2
        omega
      · rw [List.map_append, e5, take_map hu0, List.append_assoc]
        rfl
    · have e1 : l = qs.length := by omega
      subst e1
      refine .inl ⟨⟨_, q2, by rw [List.length_map]; exact Nat.le_refl _⟩, g1x, rs5, T5, ?_⟩
      rw [List.take_length] at e5
      rw [Gtk hq0]
      exact e5
  · have e1 : k = ps.length := by omega
    subst e1
    rw [List.take_length] at e
    exact .inl ⟨⟨_, q, by rw [List.length_map]; exact Nat.le_refl _⟩, qd _ rs g T e⟩
end K1
namespace K1
open PySem PySem.Spec PyProof.Rows L2 Gr GxR Srx Skx Dcx
/-- [x for x in xs if ..], texts -/
theorem lc_filtT {K : PySem.W.Frag} {a D : Addr} {j : Nat} {σ : L2.St} {vs : List Nat} {tt : TT} {H1 : Hp} {Qd : Hp → Prop} {xs : List Str} (p : Str → Bool)
    (hA : SqL K H1 a (xs.map V.str)) (few : xs.length < sizeLine) (hD : H1 D = none) (hw : ∀ v, wipe ((wipe σ vs).set j (some v)) vs = wipe σ vs) (hj : ∀ v : V, ((wipe σ vs).set j (some v))[j]? = some (some v))
    (ht : ∀ x ∈ xs, ∀ (H4 : Hp) (Qb : Bool → Hp → Prop), Gr H1 H4 → (∀ H5, Gr H4 H5 → Qb (p x) H5) → tt ((wipe σ vs).set j (some (.str x))) H4 Qb)
    (q : ∀ H2, Gr H1 H2 → H2 D = some (.lst ((xs.filter p).map V.str)) → Qd H2) :
    ∃ W : Nat → Nat → Hp → Prop, (∃ m, W 0 m (upd H1 D (.lst []))) ∧ ∀ i m H, W i m H →
      ((Itl K a).stop i H ∧ Qd H) ∨ ((Itl K a).go i H ∧ ∃ Nx : Hp → Prop, (∀ H', Nx H' → ∃ m', m' < m ∧ W (i + 1) m' H') ∧ ∀ x H', (Itl K a).yld i H x H' → gName j x (wipe σ vs) H' fun σ2 H2 => wipe σ2 vs = wipe σ vs ∧ tt σ2 H2 fun b H3 =>
        if b = true then tVar j σ2 H3 fun y H4 => ∃ acc, H4 D = some (.lst acc) ∧ acc.length < sizeLine ∧ Nx (upd H4 D (.lst (acc ++ [y]))) else Nx H3) := by
  refine lc_list (xs := xs.map V.str) (Qd := Qd) (fun i H2 => Gr H1 H2 ∧ H2 D = some (.lst (((xs.take i).filter p).map V.str))) ⟨Gr.new hD, upd_same⟩ (fun i H2 _ h => h.1.seq hA) (fun i x H2 hx h => ?_) (fun H2 h => ?_)
  · obtain ⟨g2, e⟩ := h
    obtain ⟨x0, hx0, rfl⟩ := get_map hx
    have etk : (xs.take (i + 1)).filter p = (xs.take i).filter p ++ [x0].filter p := by
      rw [List.take_add_one, hx0, List.filter_append]
      rfl
    refine ⟨hw _, ht x0 (List.mem_of_getElem? hx0) H2 _ g2 fun H3 g3 => ?_⟩
    cases hp : p x0 with
    | true =>
      refine iteT ⟨_, hj _, _, g3.lst e, ?_, (g2.trans g3).mut hD, ?_⟩
      · rw [List.length_map]
        have h1 := List.length_filter_le p (xs.take i)
        rw [List.length_take] at h1
        omega
      · rw [upd_same, etk, List.map_append]
        simp [hp]
    | false =>
      refine iteF ⟨g2.trans g3, ?_⟩
      rw [etk, List.map_append]
      simp only [hp, List.filter_cons, Bool.false_eq_true, if_false, List.filter_nil, List.map_nil, List.append_nil]
      exact g3.lst e
  · obtain ⟨g2, e⟩ := h
    rw [List.length_map, List.take_length] at e
    exact q H2 g2 e
/-- [x for x in xs if ..], lists -/
theorem lc_filtL {K : PySem.W.Frag} {a D : Addr} {j : Nat} {σ : L2.St} {vs : List Nat} {tt : TT} {H1 : Hp} {Qd : Hp → Prop} {ps : List (Addr × List Str)} (p : Addr × List Str → Bool)
    (hA : SqL K H1 a (ps.map fun q => V.ref q.1)) (few : ps.length < sizeLine) (hD : H1 D = none) (hw : ∀ v, wipe ((wipe σ vs).set j (some v)) vs = wipe σ vs) (hj : ∀ v : V, ((wipe σ vs).set j (some v))[j]? = some (some v))
    (ht : ∀ x ∈ ps, ∀ (H4 : Hp) (Qb : Bool → Hp → Prop), Gr H1 H4 → (∀ H5, Gr H4 H5 → Qb (p x) H5) → tt ((wipe σ vs).set j (some (.ref x.1))) H4 Qb)
    (q : ∀ H2, Gr H1 H2 → H2 D = some (.lst ((ps.filter p).map fun q => V.ref q.1)) → Qd H2) :
    ∃ W : Nat → Nat → Hp → Prop, (∃ m, W 0 m (upd H1 D (.lst []))) ∧ ∀ i m H, W i m H →
      ((Itl K a).stop i H ∧ Qd H) ∨ ((Itl K a).go i H ∧ ∃ Nx : Hp → Prop, (∀ H', Nx H' → ∃ m', m' < m ∧ W (i + 1) m' H') ∧ ∀ x H', (Itl K a).yld i H x H' → gName j x (wipe σ vs) H' fun σ2 H2 => wipe σ2 vs = wipe σ vs ∧ tt σ2 H2 fun b H3 =>
        if b = true then tVar j σ2 H3 fun y H4 => ∃ acc, H4 D = some (.lst acc) ∧ acc.length < sizeLine ∧ Nx (upd H4 D (.lst (acc ++ [y]))) else Nx H3) := by
  refine lc_list (xs := ps.map fun q => V.ref q.1) (Qd := Qd) (fun i H2 => Gr H1 H2 ∧ H2 D = some (.lst (((ps.take i).filter p).map fun q => V.ref q.1))) ⟨Gr.new hD, upd_same⟩ (fun i H2 _ h => h.1.seq hA) (fun i x H2 hx h => ?_) (fun H2 h => ?_)
  · obtain ⟨g2, e⟩ := h
    obtain ⟨x0, hx0, rfl⟩ := get_map hx
    have etk : (ps.take (i + 1)).filter p = (ps.take i).filter p ++ [x0].filter p := by
      rw [List.take_add_one, hx0, List.filter_append]
      rfl
    refine ⟨hw _, ht x0 (List.mem_of_getElem? hx0) H2 _ g2 fun H3 g3 => ?_⟩
    cases hp : p x0 with
    | true =>
      refine iteT ⟨_, hj _, _, g3.lst e, ?_, (g2.trans g3).mut hD, ?_⟩
      · rw [List.length_map]
        have h1 := List.length_filter_le p (ps.take i)
        rw [List.length_take] at h1
        omega
      · rw [upd_same, etk, List.map_append]
        simp [hp]
    | false =>
      refine iteF ⟨g2.trans g3, ?_⟩
      rw [etk, List.map_append]
      simp only [hp, List.filter_cons, Bool.false_eq_true, if_false, List.filter_nil, List.map_nil, List.append_nil]
      exact g3.lst e
  · obtain ⟨g2, e⟩ := h
    rw [List.length_map, List.take_length] at e
    exact q H2 g2 e
def spNameFrom (K : PySem.W.Frag) (T : Addr) (R : ErN) : Sp := fun vs H Q E => ∃ v, vs = [v] ∧ Thing K H v ∧ TabG H T ∧ ((nmV v = true ∧ ∀ H', Gr H H' → Q v H') ∨ (nmV v = false ∧ ∀ H', Gr H H' → E (.ref R.name) none H'))
def spBookOf (C : Addr) (N : TabN) (R : ErN) : Sp := fun vs H Q E => ∃ (a : Addr) (ps : List (Addr × List Str)), vs = [.ref a] ∧ LL H a ps ∧ (∀ r ∈ ps.map (·.2), Nms r ∧ r.Nodup ∧ r.length ≤ 100) ∧ ps.length ≤ 1000 ∧ N.G H ∧
  ((RowsOk (ps.map (·.2)) ∧ ∀ b d H' tb, Gr H H' → NewB C H H' b d tb (ps.map (·.2)) → Q (.ref b) H') ∨ (¬ RowsOk (ps.map (·.2)) ∧ ∀ H', Gr H H' → E (.ref R.many) none H'))
def spStruck (K : PySem.W.Frag) (C : Addr) (N : TabN) (R : ErN) (f : Str → List (List Str) → List (List Str)) : Sp := fun vs H Q E => ∃ b d tb n v, vs = [.ref b, v] ∧ Bk C H b d tb n ∧ Tok tb n ∧ N.G H ∧ Thing K H v ∧
  ((∃ x, v = .str x ∧ isNm x = true ∧ ∀ b' d' H' tb', Gr H H' → NewB C H H' b' d' tb' (f x (rws tb)) → Q (.ref b') H') ∨ (nmV v = false ∧ ∀ H', Gr H H' → E (.ref R.name) none H'))
def spJoined (K : PySem.W.Frag) (C : Addr) (N : TabN) (R : ErN) (f : List (List Str) → List (List Str) → List (List Str)) : Sp := fun vs H Q E => ∃ b d tb n b2 d2 tb2 n2, vs = [.ref b, .ref b2] ∧ Bk C H b d tb n ∧ Tok tb n ∧ Bk C H b2 d2 tb2 n2 ∧ Tok tb2 n2 ∧ N.G H ∧
  ((RowsOk (f (rws tb) (rws tb2)) ∧ ∀ b' d' H' tb', Gr H H' → NewB C H H' b' d' tb' (f (rws tb) (rws tb2)) → Q (.ref b') H') ∨ (¬ RowsOk (f (rws tb) (rws tb2)) ∧ ∀ H', Gr H H' → E (.ref R.many) none H'))
def stScope2 : Stmt → Scope
  | .FunctionDef (body := [_, .Return (some (.Call _ [.ListComp _ _ s _] _ _)) _]) .. => s
  | _ => ⟨.function, [], false, false, []⟩
/-- all that a book's rows may be, filtered or not -/
theorem Tok.rowsOk {tb : Tb1} {n : Int} (T : Tok tb n) {rows : List (List Str)} (len : rows.length ≤ 30) (h : ∀ r ∈ rows, r.Nodup ∧ ∀ y ∈ r, y ∈ allN (rws tb)) : RowsOk rows := by
  have sub : (allN rows).length ≤ 12 := Nat.le_trans (sublist_of (ris_allN _) (ris_allN _) fun y hy => by
    obtain ⟨r, hr, hy⟩ := allN_iff.mp hy
    exact (h r hr).2 y hy).length_le T.nms
  refine ⟨fun r hr => ⟨fun y hy => T.nmsN y ((h r hr).2 y hy), (h r hr).1, ?_⟩, len, sub⟩
  have h1 := (sublist_of (ris_allN (rws tb)) (ris_once r) fun y hy => (h r hr).2 y (once_mem.mp hy)).length_le
  rw [once_full (h r hr).1] at h1
  have := T.nms
  omega
end K1
namespace K1
open PySem PySem.Spec PyProof.Rows L2 Gr GxR Srx Skx Dcx
theorem ne_strB (y x : Str) : (!decide (V.str y = V.str x)) = decide (y ≠ x) := by
  rw [← decide_not]
  exact decide_eq_decide.mpr (not_congr ⟨fun z => by injection z, fun z => by rw [z]⟩)
theorem lc_fresh3 {K : PySem.W.Frag} {a D : Addr} {j : Nat} {σ : L2.St} {vs : List Nat} {te : TE} {H1 : Hp} {Qd : Hp → Prop} {ps0 : List (Addr × List Str)} (F : List Str → List Str)
    (hA : SqL K H1 a (ps0.map fun q => V.ref q.1)) (few : ps0.length < sizeLine) (hD : H1 D = none) (hw : ∀ v, wipe ((wipe σ vs).set j (some v)) vs = wipe σ vs)
    (he : ∀ q ∈ ps0, ∀ (H4 : Hp) (Q' : VK), Gr H1 H4 → (∀ l H5, Gr H4 H5 → H4 l = none → H5 l = some (.lst ((F q.2).map V.str)) → Q' (.ref l) H5) → te ((wipe σ vs).set j (some (.ref q.1))) H4 Q')
    (q : ∀ H2 ps, Gr H1 H2 → Told H1 H2 D ps → ps.map (·.2) = ps0.map (fun q => F q.2) → Qd H2) :
    ∃ W : Nat → Nat → Hp → Prop, (∃ m, W 0 m (upd H1 D (.lst []))) ∧ ∀ i m H, W i m H →
      ((Itl K a).stop i H ∧ Qd H) ∨ ((Itl K a).go i H ∧ ∃ Nx : Hp → Prop, (∀ H', Nx H' → ∃ m', m' < m ∧ W (i + 1) m' H') ∧ ∀ x H', (Itl K a).yld i H x H' → gName j x (wipe σ vs) H' fun σ2 H2 => wipe σ2 vs = wipe σ vs ∧ tYes σ2 H2 fun b H3 =>
        if b = true then te σ2 H3 fun y H4 => ∃ acc, H4 D = some (.lst acc) ∧ acc.length < sizeLine ∧ Nx (upd H4 D (.lst (acc ++ [y]))) else Nx H3) := by
  refine lc_list (xs := ps0.map fun q => V.ref q.1) (Qd := Qd) (fun i H2 => Gr H1 H2 ∧ ∃ ps, Told H1 H2 D ps ∧ ps.map (·.2) = (ps0.take i).map (fun q => F q.2)) ⟨Gr.new hD, [], Told.nil hD, rfl⟩ (fun i H2 _ h => h.1.seq hA) (fun i x H2 hx h => ?_) (fun H2 h => ?_)
  · obtain ⟨g2, ps, T, e⟩ := h
    obtain ⟨q0, hq0, rfl⟩ := get_map hx
    refine ⟨hw _, yesIf (he q0 (List.mem_of_getElem? hq0) H2 _ g2 fun l H5 g5 nl el => ⟨_, g5.lst T.at_, ?_, (g2.trans g5).mut hD, ps ++ [(l, F q0.2)], T.snoc2 g2 g5 nl el, ?_⟩)⟩
    · rw [List.length_map]
      have h1 := congrArg List.length e
      rw [List.length_map, List.length_map, List.length_take] at h1
      omega
    · rw [List.map_append, e, take_map hq0]
      rfl
  · obtain ⟨g2, ps, T, e⟩ := h
    rw [List.length_map, List.take_length] at e
    exact q H2 ps g2 T e
theorem tb_map (tb : Tb1) : (tb.map fun e => (e.2.1, e.2.2)).map (·.2) = rws tb := by
  rw [List.map_map]
  rfl
theorem once_all' {rows : List (List Str)} (h : ∀ r ∈ rows, Ris r) : rows.map once = rows := once_all h
theorem rows_facts {tb : Tb1} {n : Int} (T : Tok tb n) {rows : List (List Str)} (len : rows.length ≤ 30) (h : ∀ r ∈ rows, ∃ r0 ∈ rws tb, List.Sublist r r0) : RowsOk rows :=
  T.rowsOk len fun r hr => by
    obtain ⟨r0, h0, sub⟩ := h r hr
    exact ⟨((T.rlen h0).1.nodup).sublist sub, fun y hy => row_in h0 y (sub.subset hy)⟩
theorem rws_len (tb : Tb1) : (rws tb).length = tb.length := List.length_map _
end K1
namespace K1
theorem flat_len {α β γ : Type} (F : α → β → γ) (qs : List β) : ∀ ps : List α, (ps.flatMap fun q => qs.map fun u => F q u).length = ps.length * qs.length
  | [] => by simp
  | p :: ps => by
    rw [List.flatMap_cons, List.length_append, List.length_map, flat_len F qs ps, List.length_cons, Nat.succ_mul]
    omega
end K1
namespace K1
open PySem PySem.Spec PyProof.Rows L2 Gr GxR Srx Skx Dcx
def spBPared (K : PySem.W.Frag) (C : Addr) (N : TabN) (R : ErN) : Sp := fun vs H Q E => ∃ b d tb n v, vs = [.ref b, v] ∧ Bk C H b d tb n ∧ Tok tb n ∧ N.G H ∧
  ((∃ xs, HOk H v xs ∧ mtAll xs (rws tb) = true ∧ ∀ p H', Gr H H' → H p = none → H' p = some (.lst ((pared (rws tb) (once xs)).map V.str)) → Q (.ref p) H') ∨ (∃ xs, HOk H v xs ∧ mtAll xs (rws tb) = false ∧ ∀ H', Gr H H' → E (.ref R.meet) none H') ∨
   (HBadN K H v ∧ ∀ H', Gr H H' → E (.ref R.name) none H') ∨ (HBadR K H v ∧ ∀ H', Gr H H' → E (.ref R.row) none H'))
/-- the first row in which of the set asked that name stands alone -/
def firstOwn (tb : Tb1) (asked : List Str) (x : Str) : Option Int := (tb.find? fun e => decide (asked.filter e.2.2.contains = [x])).map (·.1)
def ownV : Option Int → V
  | some k => .int k
  | none => .non
def spFirstOwn (K : PySem.W.Frag) (C : Addr) : Sp := fun vs H Q _ => ∃ (b d : Addr) (tb : Tb1) (n : Int) (x : Str) (a : Addr) (asked : List Str), vs = [.ref b, .str x, .ref a] ∧ Bk C H b d tb n ∧ Tok tb n ∧ H a = some (.lst (asked.map V.str)) ∧ Nms asked ∧ isNm x = true ∧ asked.length ≤ 1000 ∧
  ∀ H', Gr H H' → Q (ownV (firstOwn tb asked x)) H'
def spBOwn (K : PySem.W.Frag) (C : Addr) (N : TabN) (R : ErN) : Sp := fun vs H Q E => ∃ b d tb n v, vs = [.ref b, v] ∧ Bk C H b d tb n ∧ Tok tb n ∧ N.G H ∧
  ((∃ xs, HOk H v xs ∧ mtAll xs (rws tb) = true ∧ (∀ x ∈ once xs, (firstOwn tb (once xs) x).isSome = true) ∧
      ∀ p H' (ts : List (Addr × Str × Int)), Gr H H' → H p = none → H' p = some (.lst (ts.map fun t => V.ref t.1)) → (∀ t ∈ ts, H t.1 = none ∧ t.1 ≠ p ∧ H' t.1 = some (.tup [.str t.2.1, .int t.2.2])) → ts.map (·.2) = (once xs).map (fun x => (x, (firstOwn tb (once xs) x).getD 0)) → Q (.ref p) H') ∨
   (∃ xs, HOk H v xs ∧ (mtAll xs (rws tb) = false ∨ ∃ x ∈ once xs, firstOwn tb (once xs) x = none) ∧ ∀ H', Gr H H' → E (.ref R.meet) none H') ∨
   (HBadN K H v ∧ ∀ H', Gr H H' → E (.ref R.name) none H') ∨ (HBadR K H v ∧ ∀ H', Gr H H' → E (.ref R.row) none H'))
def needB (rows : List (List Str)) : List Str := (least rows).flatMap fun r => if r.length = 1 then r else []
def spBNeeded (C : Addr) (N : TabN) : Sp := fun vs H Q _ => ∃ b d tb n, vs = [.ref b] ∧ Bk C H b d tb n ∧ Tok tb n ∧ N.G H ∧ ∀ p H', Gr H H' → H p = none → H' p = some (.lst ((needB (rws tb)).map V.str)) → Q (.ref p) H'
theorem find_snoc {α : Type} {p : α → Bool} {l : List α} {i : Nat} {x : α} (h : l[i]? = some x) (n : (l.take i).find? p = none) : (l.take (i + 1)).find? p = if p x = true then some x else none := by
  rw [List.take_add_one, h, List.find?_append, n]
  simp only [Option.none_or, Option.toList]
  rw [List.find?_cons]
  split
  · rename_i e; rw [if_pos e]
  · rename_i e; rw [if_neg (by rw [e]; exact Bool.false_ne_true)]; rfl
theorem find_done {α : Type} {p : α → Bool} {l : List α} {i : Nat} {x : α} (h : l[i]? = some x) (n : (l.take i).find? p = none) (hx : p x = true) : l.find? p = some x := by
  have e := find_snoc h n
  rw [if_pos hx] at e
  rw [← List.take_append_drop (i + 1) l, List.find?_append, e]
  rfl
end K1
end
section
set_option maxHeartbeats 8000000
namespace K1
open PySem PySem.Spec PyProof.Rows L2 Gr GxR Srx Skx Dcx
open PySem.W (dataLe dataLt DatumOrd Datum)
/-- pairs of a number and a set, as data -/
def prD (z : Int × List Str) : PyData := .tuple [.int z.1, dS z.2]
def pairsD (l : List (Int × List Str)) : PyData := .list (l.map prD)
theorem ToldP.dp {K : PySem.W.Frag} {H H' : Hp} {p : Addr} {rs : List Pr1} (T : ToldP H H' p rs) : Dp K H' (.ref p) (pairsD (rs.map fun r => (r.k, r.r))) := by
  have gen : ∀ l : List Pr1, (∀ r ∈ l, r ∈ rs) → DpAll K H' (l.map fun r => V.ref r.t) ((l.map fun r => (r.k, r.r)).map prD) := by
    intro l
    induction l with
    | nil => intro _; exact .nil
    | cons r l ih =>
      intro h
      obtain ⟨_, _, _, _, h5, h6⟩ := T.own r (h r List.mem_cons_self)
      exact .cons (.tup (.inl (.inl h5)) (.cons (.int r.k) (.cons (dp_dS (.inl (.inl h6))) .nil))) (ih fun x hx => h x (List.mem_cons_of_mem _ hx))
  exact .lst (.inl (.inl T.at_)) (gen rs fun _ z => z)
theorem canL_pairs : ∀ l : List (Int × List Str), (∀ z ∈ l, Nms z.2) → PyData.canLayAll0 (l.map prD) = true
  | [], _ => by simp [PyData.canLayAll0]
  | n :: r, h => by
    have h1 := canL_strs n.2 (h n List.mem_cons_self)
    have h2 := canL_pairs r fun x hx => h x (List.mem_cons_of_mem _ hx)
    simp only [List.map_cons, PyData.canLayAll0, h2, Bool.and_true]
    simp only [prD, dS, PyData.canLay0, PyData.canLayAll0, h1, Bool.and_true]
theorem deep_pairs : ∀ l : List (Int × List Str), PyData.depthAll (l.map prD) ≤ 5
  | [] => by simp [PyData.depthAll]
  | n :: r => by
    have h1 := deep_pairs r
    have h2 := deep_strs n.2
    simp only [List.map_cons, PyData.depthAll, PyData.depth, prD, dS] at h1 ⊢
    omega
theorem shaped_pairs {l : List (Int × List Str)} (nm : ∀ z ∈ l, Nms z.2) : SeqAt.shaped (pairsD l) = true := by
  have h1 := deep_pairs l
  have h2 : PyData.depth (pairsD l) ≤ 64 := by simp only [pairsD, PyData.depth]; omega
  show (PyData.canLay0 (pairsD l) && decide (PyData.depth (pairsD l) ≤ 64)) = true
  rw [Bool.and_eq_true]
  exact ⟨by simp only [pairsD, PyData.canLay0]; exact canL_pairs l nm, decide_eq_true h2⟩
theorem eqv_pairs (xs ys : List (Int × List Str)) : PyData.eqv (pairsD xs) (pairsD ys) = decide (xs = ys) := Datum.eqv xs ys
theorem numD_eq (rows : List (List Str)) : numD rows = pairsD (numd (rows.map srt)) := by
  unfold numD pairsD numd
  congr 1
  refine List.ext_getElem? fun i => ?_
  rw [List.getElem?_map, List.getElem?_map, List.getElem?_mapIdx, List.getElem?_map]
  by_cases h : i < rows.length
  · rw [List.getElem?_range h, List.getElem?_eq_getElem h]
    show some (PyData.tuple [.int i, dS (srt (rows.getD i []))]) = some (PyData.tuple [.int i, dS (srt rows[i])])
    rw [List.getD_eq_getElem?_getD, List.getElem?_eq_getElem h]
    rfl
  · rw [List.getElem?_eq_none (by simpa using h), List.getElem?_eq_none (by simpa using h)]
    rfl
theorem once_srt {r : List Str} (h : r.Nodup) : once r = srt r := once_same h fun _ => Iff.rfl
theorem map_once_srt {rows : List (List Str)} (h : ∀ r ∈ rows, r.Nodup) : rows.map once = rows.map srt := List.map_congr_left fun r hr => once_srt (h r hr)
theorem nms_numd {rows : List (List Str)} (h : ∀ r ∈ rows, Nms r) : ∀ z ∈ numd rows, Nms z.2 := by
  intro z hz
  have : z.2 ∈ (numd rows).map (·.2) := List.mem_map.mpr ⟨z, hz, rfl⟩
  rw [numd_rows] at this
  exact h _ this
/-- lists of sets, sorted -/
theorem ordDS : Ord dS := ⟨fun x y => (DatumOrd.alike x y : PySem.W.alike (Datum.toD x) (Datum.toD y) = true), .inr fun x => ⟨by simp [dS], fun ds => by simp [dS]⟩, fun x => by
  have := deep_strs x
  simp only [dS, PyData.depth]
  omega⟩
end K1
namespace K1
open PySem PySem.Spec PyProof.Rows L2 Gr GxR Srx Skx Dcx
open PySem.W (dataLe dataLt DatumOrd Datum)
def leD (a b : List Str) : Bool := dataLe false dS a b
theorem leD_eq (a b : List Str) : leD a b = !dataLt (dS b) (dS a) := rfl
theorem leD_anti {a b : List Str} (h1 : leD a b = true) (h2 : leD b a = true) : a = b := by
  rw [leD_eq, Bool.not_eq_true'] at h1 h2
  have e1 : dataLt (Datum.toD b) (Datum.toD a) = false := h1
  have e2 : dataLt (Datum.toD a) (Datum.toD b) = false := h2
  rw [DatumOrd.lt_eq] at e1 e2
  exact listLt_anti a b e2 e1
theorem leD_trans {a b c : List Str} (h1 : leD a b = true) (h2 : leD b c = true) : leD a c = true := by
  rw [leD_eq, Bool.not_eq_true'] at *
  cases z : dataLt (dS c) (dS a) with
  | false => rfl
  | true =>
    rcases PyProof.Rows.lex_negTrans _ (PySem.W.keyToks (dS b)) _ z with y | y
    · rw [show dataLt (dS c) (dS b) = true from y] at h2
      cases h2
    · rw [show dataLt (dS b) (dS a) = true from y] at h1
      cases h1
theorem leD_total (a b : List Str) : (leD a b || leD b a) = true := by
  rw [leD_eq, leD_eq]
  cases h : dataLt (dS b) (dS a) with
  | false => rfl
  | true =>
    cases h2 : dataLt (dS a) (dS b) with
    | false => rfl
    | true =>
      have t := PyProof.Rows.lex_trans _ _ _ (show PyProof.Rows.lexLt _ _ _ = true from h) (show PyProof.Rows.lexLt _ _ _ = true from h2)
      have e := PySem.W.dataLt_self (dS b)
      rw [show dataLt (dS b) (dS b) = true from t] at e
      cases e
def srtD (xss : List (List Str)) : List (List Str) := xss.mergeSort leD
theorem srtD_eq {xs ys : List (List Str)} (p : xs.Perm ys) : srtD xs = srtD ys := by
  have s : ∀ zs : List (List Str), (srtD zs).Pairwise (fun a b => leD a b = true) := fun zs => List.pairwise_mergeSort (le := leD) (fun _ _ _ h1 h2 => leD_trans h1 h2) leD_total zs
  exact List.Perm.eq_of_pairwise (fun a b _ _ z1 z2 => leD_anti z1 z2) (s xs) (s ys) ((List.mergeSort_perm _ _).trans (p.trans (List.mergeSort_perm _ _).symm))
theorem srtD_perm (xs : List (List Str)) : (srtD xs).Perm xs := List.mergeSort_perm _ _
/-- sorted(..) of a list of lists -/
theorem sortedDS {K : PySem.W.Frag} {H : Hp} {a : Addr} {ps : List (Addr × List Str)} {σ : L2.St} {Q : VK} (hs : SqL K H a (ps.map fun q => V.ref q.1)) (own : ∀ q ∈ ps, SqL K H q.1 (q.2.map V.str))
    (q : ∀ p qs, H p = none → List.Perm qs ps → qs.map (·.2) = srtD (ps.map (·.2)) → Q (.ref p) (upd H p (.lst (qs.map fun q => V.ref q.1)))) :
    tNil σ H fun ys H2 => rSortedD K dS (V.ref a :: ys) H2 Q := by
  have e0 : (ps.map fun q => (V.ref q.1, q.2)).mergeSort (dataLe false fun b => dS b.2) = (ps.mergeSort fun x y => leD x.2 y.2).map fun q => (V.ref q.1, q.2) := by
    rw [List.map_mergeSort]
    intro x _ y _
    rfl
  refine ⟨a, ps.map fun q => (V.ref q.1, q.2), rfl, by rw [List.map_map]; exact hs, fun b hb => ?_, fun p hp => ?_⟩
  · obtain ⟨x, hx, rfl⟩ := List.mem_map.mp hb
    exact dp_dS (own x hx)
  · rw [e0, List.map_map]
    refine q p _ hp (List.mergeSort_perm _ _) ?_
    unfold srtD
    rw [List.map_mergeSort]
    intro x _ y _
    rfl
/-- [.. x .. for x in xs if ..]: each made anew -/
theorem lc_freshF {K : PySem.W.Frag} {a D : Addr} {j : Nat} {σ : L2.St} {vs : List Nat} {tt : TT} {te : TE} {H1 : Hp} {Qd : Hp → Prop} {ps0 : List (Addr × List Str)} (p : List Str → Bool) (F : List Str → List Str)
    (hA : SqL K H1 a (ps0.map fun q => V.ref q.1)) (few : ps0.length < sizeLine) (hD : H1 D = none) (hw : ∀ v, wipe ((wipe σ vs).set j (some v)) vs = wipe σ vs)
    (ht : ∀ q ∈ ps0, ∀ (H4 : Hp) (Qb : Bool → Hp → Prop), Gr H1 H4 → (∀ H5, Gr H4 H5 → Qb (p q.2) H5) → tt ((wipe σ vs).set j (some (.ref q.1))) H4 Qb)
    (he : ∀ q ∈ ps0, p q.2 = true → ∀ (H4 : Hp) (Q' : VK), Gr H1 H4 → (∀ l H5, Gr H4 H5 → H4 l = none → H5 l = some (.lst ((F q.2).map V.str)) → Q' (.ref l) H5) → te ((wipe σ vs).set j (some (.ref q.1))) H4 Q')
    (q : ∀ H2 ps, Gr H1 H2 → Told H1 H2 D ps → ps.map (·.2) = ((ps0.map (·.2)).filter p).map F → Qd H2) :
    ∃ W : Nat → Nat → Hp → Prop, (∃ m, W 0 m (upd H1 D (.lst []))) ∧ ∀ i m H, W i m H →
      ((Itl K a).stop i H ∧ Qd H) ∨ ((Itl K a).go i H ∧ ∃ Nx : Hp → Prop, (∀ H', Nx H' → ∃ m', m' < m ∧ W (i + 1) m' H') ∧ ∀ x H', (Itl K a).yld i H x H' → gName j x (wipe σ vs) H' fun σ2 H2 => wipe σ2 vs = wipe σ vs ∧ tt σ2 H2 fun b H3 =>
        if b = true then te σ2 H3 fun y H4 => ∃ acc, H4 D = some (.lst acc) ∧ acc.length < sizeLine ∧ Nx (upd H4 D (.lst (acc ++ [y]))) else Nx H3) := by
  have etk : ∀ {i : Nat} {q0 : Addr × List Str}, ps0[i]? = some q0 → (((ps0.take (i + 1)).map (·.2)).filter p).map F = (((ps0.take i).map (·.2)).filter p).map F ++ (if p q0.2 = true then [F q0.2] else []) := by
    intro i q0 h
    rw [take_map h, List.filter_append, List.map_append]
    congr 1
    rw [List.filter_cons]
    split <;> simp
  refine lc_list (xs := ps0.map fun q => V.ref q.1) (Qd := Qd) (fun i H2 => Gr H1 H2 ∧ ∃ ps, Told H1 H2 D ps ∧ ps.map (·.2) = (((ps0.take i).map (·.2)).filter p).map F) ⟨Gr.new hD, [], Told.nil hD, rfl⟩ (fun i H2 _ h => h.1.seq hA) (fun i x H2 hx h => ?_) (fun H2 h => ?_)
  · obtain ⟨g2, ps, T, e⟩ := h
    obtain ⟨q0, hq0, rfl⟩ := get_map hx
    have m0 := List.mem_of_getElem? hq0
    refine ⟨hw _, ht q0 m0 H2 _ g2 fun H3 g3 => ?_⟩
    have T3 := T.gr g3
    cases hp : p q0.2 with
    | false =>
      refine iteF ⟨g2.trans g3, ps, T3, ?_⟩
      rw [etk hq0, if_neg (by rw [hp]; exact Bool.false_ne_true), List.append_nil]
      exact e
    | true =>
      refine iteT (he q0 m0 hp H3 _ (g2.trans g3) fun l H5 g5 nl el => ⟨_, g5.lst T3.at_, ?_, ((g2.trans g3).trans g5).mut hD, ps ++ [(l, F q0.2)], T3.snoc2 (g2.trans g3) g5 nl el, ?_⟩)
      · rw [List.length_map]
        have h1 := congrArg List.length e
        rw [List.length_map, List.length_map] at h1
        have h2 := List.length_filter_le p ((ps0.take i).map (·.2))
        rw [List.length_map, List.length_take] at h2
        omega
      · rw [List.map_append, e, etk hq0, if_pos hp]
        rfl
  · obtain ⟨g2, ps, T, e⟩ := h
    rw [List.length_map, List.take_length] at e
    exact q H2 ps g2 T e
end K1
namespace K1
open PySem PySem.Spec PyProof.Rows L2 Gr GxR Srx Skx Dcx
theorem contains_once (r : List Str) (x : Str) : (once r).contains x = r.contains x := by
  rw [Bool.eq_iff_iff, List.contains_iff_mem, List.contains_iff_mem]
  exact once_mem
theorem once_filter (r : List Str) (p : Str → Bool) : (once r).filter p = once (r.filter p) := by
  refine (wi_anti (ris_filter p (ris_once r)) (ris_once _) (wi_iff.mpr fun y hy => ?_) (wi_iff.mpr fun y hy => ?_))
  · obtain ⟨h1, h2⟩ := List.mem_filter.mp hy
    exact once_mem.mpr (List.mem_filter.mpr ⟨once_mem.mp h1, h2⟩)
  · obtain ⟨h1, h2⟩ := List.mem_filter.mp (once_mem.mp hy)
    exact List.mem_filter.mpr ⟨once_mem.mpr h1, h2⟩
theorem once_once (r : List Str) : once (once r) = once r := once_ris (ris_once r)
/-- the struck rows of a book of once-rows -/
theorem strike_once (x : Str) (rows : List (List Str)) : (strike x (rows.map once)).map once = (strike x rows).map once := by
  unfold strike
  rw [List.map_map, List.map_map, List.map_map]
  refine List.map_congr_left fun r _ => ?_
  show once ((once r).filter _) = once (r.filter _)
  rw [once_filter, once_once]
theorem away_map (x : Str) (rows : List (List Str)) : away x (rows.map once) = (away x rows).map once := by
  unfold away
  rw [List.filter_map]
  refine congrArg _ (List.filter_congr fun r _ => ?_)
  show (!(once r).contains x) = !r.contains x
  rw [contains_once]
theorem away_once (x : Str) (rows : List (List Str)) : (away x (rows.map once)).map once = (away x rows).map once := by
  rw [away_map, List.map_map]
  exact List.map_congr_left fun r _ => once_once r
theorem grown_once (rows : List (List Str)) : grown (rows.map once) = grown rows := grown_congr fun x => mtAll_once x rows
end K1
namespace K1
open PySem PySem.Spec PyProof.Rows L2 Gr GxR Srx Skx Dcx
theorem strike_grown (x : Str) (rows : List (List Str)) : grown (strike x (rows.map once)) = (grown rows).filter fun z => !z.contains x := by
  refine (grown_one ((grown_nodup rows).filter _) ((grown_sorted rows).filter _) fun z => ?_).symm
  rw [List.mem_filter, grown_mem, lst_strike, lst_congr (rows := rows.map once) (rows' := rows) fun y => mtAll_once y rows]
  refine and_congr_right fun _ => ?_
  rw [Bool.not_eq_true', Bool.eq_false_iff, Ne, List.contains_iff_mem]
theorem away_no {x : Str} {rows : List (List Str)} {z : List Str} (h : z ∈ grown (away x rows)) : x ∉ z := by
  intro hx
  obtain ⟨r, hr, hy, _⟩ := (lst_own.mp (grown_mem.mp h)).2.2 x hx
  exact (away_mem.mp hr).2 hy
theorem srt_snoc {z : List Str} {x : Str} (hz : Ris z) (hx : x ∉ z) : srt (z ++ [x]) = once (z ++ [x]) :=
  (once_srt (List.nodup_append.mpr ⟨hz.nodup, by simp, fun a ha b hb e => hx (by rw [← List.mem_singleton.mp hb, ← e]; exact ha)⟩)).symm
theorem with_perm {x : Str} {rows : List (List Str)} : List.Perm (((grown (away x rows)).filter fun z => !mtAll z rows).map fun z => srt (z ++ [x])) ((grown rows).filter fun z => z.contains x) := by
  have m1 : ∀ z ∈ (grown (away x rows)).filter (fun z => !mtAll z rows), Ris z ∧ x ∉ z ∧ Lst (away x rows) z ∧ mtAll z rows = false := by
    intro z hz
    obtain ⟨h1, h2⟩ := List.mem_filter.mp hz
    exact ⟨grown_ris _ z h1, away_no h1, grown_mem.mp h1, by simpa using h2⟩
  refine (List.perm_ext_iff_of_nodup ?_ ((grown_nodup rows).filter _)).mpr fun y => ?_
  · refine List.pairwise_map.mpr (((grown_nodup (away x rows)).filter _).imp_of_mem fun {a b} ha hb ne e => ne ?_)
    obtain ⟨a1, a2, _⟩ := m1 a ha
    obtain ⟨b1, b2, _⟩ := m1 b hb
    rw [srt_snoc a1 a2, srt_snoc b1 b2] at e
    have key : ∀ {u v : List Str}, x ∉ u → once (u ++ [x]) = once (v ++ [x]) → wi u v = true := by
      intro u v hu e
      refine wi_iff.mpr fun y hy => ?_
      have : y ∈ once (v ++ [x]) := e ▸ once_mem.mpr (List.mem_append_left _ hy)
      rcases List.mem_append.mp (once_mem.mp this) with h | h
      · exact h
      · rw [List.mem_singleton.mp h] at hy
        exact absurd hy hu
    exact wi_anti a1 b1 (key a2 e) (key b2 e.symm)
  · rw [List.mem_filter, grown_mem, List.contains_iff_mem, lst_with, List.mem_map]
    constructor
    · rintro ⟨z, hz, rfl⟩
      obtain ⟨h1, h2, h3, h4⟩ := m1 z hz
      exact ⟨z, h3, h4, srt_snoc h1 h2⟩
    · rintro ⟨s, h3, h4, rfl⟩
      have hs : s ∈ grown (away x rows) := grown_mem.mpr h3
      exact ⟨s, List.mem_filter.mpr ⟨hs, by rw [h4]; rfl⟩, srt_snoc h3.1 (away_no hs)⟩
end K1
namespace K1
open PySem PySem.Spec PyProof.Rows L2 Gr GxR Srx Skx Dcx
def spLawG (K : PySem.W.Frag) (N : TabN) : Sp := fun vs H Q _ => ∃ (a : Addr) (ns : List Int), vs = [.ref a] ∧ SqL K H a (ns.map V.int) ∧ N.G H ∧ ∀ H', Q (.bl true) H'
end K1
end
section
set_option maxHeartbeats 8000000
namespace K1
open PySem PySem.Spec PyProof.Rows L2 Gr GxR Srx Skx Dcx
/-- what is neither a book's object nor its dict stays -/
structure Sqs (H H' : Hp) : Prop where
  at_ : ∀ a o, H a = some o → (∀ ps, o ≠ .tbl ps) → (∀ C dx f, o ≠ .ins C dx f) → (∀ kv, o ≠ .dK kv) → H' a = some o
theorem Sqs.lst {H H' : Hp} (g : Sqs H H') {a : Addr} {xs : List V} (e : H a = some (.lst xs)) : H' a = some (.lst xs) := g.at_ a _ e (fun _ z => nomatch z) (fun _ _ _ z => nomatch z) (fun _ z => nomatch z)
theorem Sqs.ll {H H' : Hp} (g : Sqs H H') {a : Addr} {ps : List (Addr × List Str)} (h : LL H a ps) : LL H' a ps := ⟨g.lst h.at_, fun q hq => g.lst (h.own q hq)⟩
theorem Sqs.seq {K : PySem.W.Frag} {H H' : Hp} (g : Sqs H H') {a : Addr} {xs : List V} (h : SqL K H a xs) : SqL K H' a xs := by
  rcases h with (h | ⟨o, h⟩) | h
  · exact .inl (.inl (g.lst h))
  · exact .inl (.inr ⟨o, g.at_ _ _ h (fun _ z => nomatch z) (fun _ _ _ z => nomatch z) (fun _ z => nomatch z)⟩)
  · exact .inr h
theorem Sqs.seqT {K : PySem.W.Frag} {H H' : Hp} (g : Sqs H H') {a : Addr} {xs : List V} (h : SqT K H a xs) : SqT K H' a xs := by
  rcases h with (h | ⟨o, h⟩) | h
  · exact .inl (.inl (g.at_ _ _ h (fun _ z => nomatch z) (fun _ _ _ z => nomatch z) (fun _ z => nomatch z)))
  · exact .inl (.inr ⟨o, g.at_ _ _ h (fun _ z => nomatch z) (fun _ _ _ z => nomatch z) (fun _ z => nomatch z)⟩)
  · exact .inr h
mutual
theorem dp_sq {K : PySem.W.Frag} {H H' : Hp} (g : Sqs H H') : ∀ (d : PyData) (v : V), Dp K H v d → Dp K H' v d
  | .none, v, h => by cases h; exact .non
  | .bool b, v, h => by cases h; exact .bl b
  | .int i, v, h => by cases h; exact .int i
  | .str x, v, h => by cases h; exact .str x
  | .list ds, v, h => by
    cases h with
    | lst hs ha => exact .lst (g.seq hs) (dpAll_sq g ds _ ha)
  | .tuple ds, v, h => by
    cases h with
    | tup hs ha => exact .tup (g.seqT hs) (dpAll_sq g ds _ ha)
  | .dict _, v, h => by cases h
theorem dpAll_sq {K : PySem.W.Frag} {H H' : Hp} (g : Sqs H H') : ∀ (ds : List PyData) (vs : List V), DpAll K H vs ds → DpAll K H' vs ds
  | [], vs, h => by cases h; exact .nil
  | d :: ds, vs, h => by
    cases h with
    | cons h1 h2 => exact .cons (dp_sq g d _ h1) (dpAll_sq g ds _ h2)
end
theorem Sqs.dp {K : PySem.W.Frag} {H H' : Hp} (g : Sqs H H') {d : PyData} {v : V} (h : Dp K H v d) : Dp K H' v d := dp_sq g d v h
theorem Sqs.trans {H H1 H2 : Hp} (g : Sqs H H1) (h : Sqs H1 H2) : Sqs H H2 := ⟨fun a o e n1 n2 n3 => h.at_ a o (g.at_ a o e n1 n2 n3) n1 n2 n3⟩
theorem Sqs.gr {H H' : Hp} (g : Gr H H') : Sqs H H' := ⟨fun a o e n1 _ _ => g.at_ a o e n1⟩
theorem Bk.off {X : Addr → Prop} {C b d : Addr} {H H' : Hp} {tb : Tb1} {n : Int} (B : Bk C H b d tb n) (g : GrX X H H') (h : ∀ z, X z → z = b ∨ z = d) : Sqs H H' := by
  obtain ⟨dx, e1⟩ := B.ob
  refine ⟨fun a o e n1 n2 n3 => g.at_ a o (fun hx => ?_) e n1⟩
  rcases h a hx with rfl | rfl
  · rw [e1] at e
    exact n2 _ _ _ (Option.some.inj e).symm
  · rw [B.dc] at e
    exact n3 _ (Option.some.inj e).symm
/-- another book stays -/
theorem Bk.off2 {X : Addr → Prop} {C b d b2 d2 : Addr} {H H' : Hp} {tb tb2 : Tb1} {n n2 : Int} (B : Bk C H b d tb n) (g : GrX X H H') (h : ∀ z, X z → z = b ∨ z = d) (B2 : Bk C H b2 d2 tb2 n2) (n1 : b2 ≠ b) (nd : d2 ≠ d) : Bk C H' b2 d2 tb2 n2 := by
  obtain ⟨dx, e1⟩ := B.ob
  obtain ⟨dx2, e2⟩ := B2.ob
  refine B2.grx g (fun z => ?_) (fun z => ?_) fun e he z => ?_
  · rcases h _ z with z | z
    · exact n1 z
    · rw [z, B.dc] at e2
      cases e2
  · rcases h _ z with z | z
    · have := B2.dc
      rw [z, e1] at this
      cases this
    · exact nd z
  · have := B2.own e he
    rcases h _ z with z | z
    · rw [z, e1] at this
      cases this
    · rw [z, B.dc] at this
      cases this
/-- a book made anew is no older one -/
theorem NewB.apart {C b d b2 d2 : Addr} {H H' : Hp} {tb tb2 : Tb1} {n2 : Int} {rows : List (List Str)} (NB : NewB C H H' b d tb rows) (B2 : Bk C H b2 d2 tb2 n2) : b2 ≠ b ∧ d2 ≠ d := by
  obtain ⟨dx, e1⟩ := B2.ob
  exact ⟨ne_of_none e1 NB.nb, ne_of_none B2.dc NB.ndd⟩
theorem unions_once (A B : List (List Str)) : unions (A.map once) (B.map once) = unions A B := by
  unfold unions
  rw [List.flatMap_map]
  congr 1
  funext a
  rw [List.map_map]
  refine List.map_congr_left fun b _ => once_congr fun y => ?_
  rw [List.mem_append, List.mem_append, once_mem, once_mem]
theorem map_once_once (A : List (List Str)) : (A.map once).map once = A.map once := by
  rw [List.map_map]
  exact List.map_congr_left fun r _ => once_once r
theorem unions_ris (A B : List (List Str)) : ∀ z ∈ unions A B, Ris z := fun z hz => by
  obtain ⟨a, _, b, _, rfl⟩ := unions_mem.mp hz
  exact ris_once _
theorem unions_len (A B : List (List Str)) : (unions A B).length = A.length * B.length := flat_len (fun a b => once (a ++ b)) B A
theorem cut6 (xs : List Str) : cutV (xs.map V.str) none (some 6) = (xs.take 6).map V.str := by
  unfold cutV
  rw [HT.sIx_none, List.drop_zero, show (some (6 : Int)) = some ((6 : Nat) : Int) from rfl, HT.sIx_nat, Nat.sub_zero, List.map_take, List.length_map]
  by_cases h : 6 ≤ xs.length
  · rw [Nat.min_eq_left h]
  · rw [Nat.min_eq_right (by omega), List.take_of_length_le (by rw [List.length_map]; omega), List.take_of_length_le (by rw [List.length_map]; omega)]
theorem TabN.G.young {N : TabN} {H H' : Hp} (h : N.G H) (g : Gr H H') : N.G H' := h.gr g
end K1
end
section
set_option maxHeartbeats 4000000
/-! >= of data that are alike -/
namespace K1
open PySem PySem.Spec PyProof.Rows L2 Gr GxR Srx Skx Dcx
open PySem.W (dataLt alike)
def rGeD (K : PySem.W.Frag) : R2 := fun x y H Q => ∃ d e, Dp K H x d ∧ Dp K H y e ∧ alike d e = true ∧ d ≠ .none ∧ PyData.depth d ≤ 64 ∧ Q (.bl (!dataLt d e)) H
theorem op_geD {X : Cx} (hu : X.A.units + 64 < cLine) : OpR X (compareOp .GtE) (rGeD X.K) := by
  intro pins s σ H x y v u Q I rx ry h
  obtain ⟨d, e, hd, he, al, nn, dl, q⟩ := h
  obtain ⟨as, r1⟩ := Dp.reads I d x v hd rx
  obtain ⟨bs, r2⟩ := Dp.reads I e y u he ry
  exact PySem.W.rcGe_alike d e X.A s v u as bs r1 r2 al nn (by omega) _ _ _ _ ⟨.bl _, H, I, rfl, q⟩
/-- by rank: neither below nor alike -/
theorem ge_rk (a b : List Str) : (!dataLt (rk a) (rk b)) = leR b a := rfl
theorem alike_rk (a b : List Str) : alike (rk a) (rk b) = true := ordRk.1 a b
end K1
namespace K1
open PySem PySem.Spec PyProof.Rows L2 Gr GxR Srx Skx Dcx
/-- len of a set of texts -/
def rLenTx (w : World) : List V → Hp → VK → Prop := fun vs H Q => ∃ (a : Addr) (ks : List Str), vs = [V.ref a] ∧ H a = some (SetTx w a ks) ∧ Q (.int (ks.length : Nat)) H
theorem call_lenTx {X : Cx} : CallR X (.builtin "len") (rLenTx X.w) := by
  intro pins s σ H vs us Q I r h
  obtain ⟨a, ks, rfl, ha, q⟩ := h
  rw [Vals.ref1 r]
  obtain ⟨o, es, ep, t, ho, hex, hd, g, pm0, nd, hb, hf, hr, hl⟩ := setTx_get I ha
  have e : es.size = ks.length := by
    have h1 := pm0.length_eq
    rw [List.length_map, Array.length_toList] at h1
    exact h1
  have sb : (scanBound : Int) ≤ 2 ^ 62 := by decide +kernel
  refine PySem.call_len_set ho hex hd hf (by omega) ⟨.int (es.size : Nat), H, I.kept (t' := s.toks + 1 + 1) (fun _ _ z => z), ⟨_, rfl⟩, ?_⟩
  rw [e]
  exact q
end K1
namespace K1
open PySem PySem.Spec PyProof.Rows L2 Gr GxR Srx Skx Dcx
/-- a number or None is neither True nor False -/
def rIsF : R2 := fun x y H Q => ∃ (b : Bool), ((∃ i : Int, x = .int i) ∨ x = .non) ∧ y = .bl b ∧ Q (.bl false) H
theorem op_isF {X : Cx} : OpR X (compareOp .Is) rIsF := by
  intro pins s σ H x y v u Q I rx ry h
  obtain ⟨b, hx, rfl, q⟩ := h
  cases (show u = Value.bool b from ry)
  rcases hx with ⟨i, rfl⟩ | rfl
  · obtain ⟨t, rfl⟩ := rx
    exact wpAny_is_other rfl (fun z => nomatch z) ⟨.bl false, H, I, rfl, q⟩
  · cases (show v = Value.none from rx)
    exact wpAny_is_other rfl (fun z => nomatch z) ⟨.bl false, H, I, rfl, q⟩
/-- a number is neither True nor False -/
def rIsB : R2 := fun x y H Q => ∃ (i : Int) (b : Bool), x = .int i ∧ y = .bl b ∧ Q (.bl false) H
theorem op_isB {X : Cx} : OpR X (compareOp .Is) rIsB := by
  intro pins s σ H x y v u Q I rx ry h
  obtain ⟨i, b, rfl, rfl, q⟩ := h
  obtain ⟨t, rfl⟩ := rx
  cases (show u = Value.bool b from ry)
  exact wpAny_is_other rfl (fun z => nomatch z) ⟨.bl false, H, I, rfl, q⟩
end K1
end
section
set_option maxHeartbeats 4000000
/-! dicts compared with {}; sorted keys; tables -/
namespace K1
open PySem PySem.Spec PyProof.Rows L2 Gr GxR Srx Skx Dcx
def rEqE : R2 := fun x y H Q => ∃ a b kvs, x = .ref a ∧ y = .ref b ∧ H a = some (.dK kvs) ∧ H b = some (.dK []) ∧ Q (.bl kvs.isEmpty) H
def rNeE : R2 := fun x y H Q => ∃ a b kvs, x = .ref a ∧ y = .ref b ∧ H a = some (.dK kvs) ∧ H b = some (.dK []) ∧ Q (.bl (!kvs.isEmpty)) H
theorem kv_nil {vs : List (Key × Value)} (r : KV ([] : List (Key × V)) vs) : vs = [] := by
  have h := Paired.length r
  cases vs with
  | nil => rfl
  | cons a b => cases h
theorem op_eqE {X : Cx} (hu : X.A.units < cLine) : OpR X (compareOp .Eq) rEqE := by
  intro pins s σ H x y v u Q I rx ry h
  obtain ⟨a, b, ks, rfl, rfl, ea, eb, q⟩ := h
  obtain rfl : v = Value.ref a := rx
  obtain rfl : u = Value.ref b := ry
  obtain ⟨_, ya, va, ra, da⟩ := (show ObjOk X.prog X.w H s.heap a (.dK ks) from I.hok a _ ea)
  obtain ⟨_, yb, vb, rb, db⟩ := (show ObjOk X.prog X.w H s.heap b (.dK []) from I.hok b _ eb)
  have hb := kv_nil rb
  subst hb
  have hl : ks.length = va.length := Paired.length ra
  refine PySem.W.keq_eq (knd := mixKind X.prog X.w) (r := true) ya yb da db hu (fun e => ?_) (fin_bl I q ?_)
  · cases va with
    | nil => exact .nil
    | cons c r => cases e
  · rw [Bool.and_true]
    cases ks with
    | nil => rw [List.length_nil] at hl; rw [← hl]; rfl
    | cons c r => rw [← hl]; rfl
theorem op_neE {X : Cx} (hu : X.A.units < cLine) : OpR X (compareOp .NotEq) rNeE := by
  intro pins s σ H x y v u Q I rx ry h
  obtain ⟨a, b, ks, rfl, rfl, ea, eb, q⟩ := h
  obtain rfl : v = Value.ref a := rx
  obtain rfl : u = Value.ref b := ry
  obtain ⟨_, ya, va, ra, da⟩ := (show ObjOk X.prog X.w H s.heap a (.dK ks) from I.hok a _ ea)
  obtain ⟨_, yb, vb, rb, db⟩ := (show ObjOk X.prog X.w H s.heap b (.dK []) from I.hok b _ eb)
  have hb := kv_nil rb
  subst hb
  have hl : ks.length = va.length := Paired.length ra
  refine PySem.W.keq_ne (knd := mixKind X.prog X.w) (r := true) ya yb da db hu (fun e => ?_) (fin_bl I q ?_)
  · cases va with
    | nil => exact .nil
    | cons c r => cases e
  · rw [Bool.and_true]
    cases ks with
    | nil => rw [List.length_nil] at hl; rw [← hl]; rfl
    | cons c r => rw [← hl]; rfl
theorem hu1 {k : Nat} {A : Around} (hr : Room k A) : A.units < cLine := by
  have := hr.un
  omega
/-! ### sorted texts, once more -/
theorem ltCps_iff : ∀ a b : List Nat, ltCps a b = true ↔ a < b
  | [], [] => ⟨fun z => (nomatch z), fun z => absurd z (List.not_lt_nil _)⟩
  | [], _ :: _ => ⟨fun _ => List.nil_lt_cons _ _, fun _ => rfl⟩
  | _ :: _, [] => ⟨fun z => (nomatch z), fun z => absurd z (List.not_lt_nil _)⟩
  | a :: r, b :: t => by
    rw [List.cons_lt_cons_iff, ← ltCps_iff r t]
    show (decide (a < b) || (a == b && ltCps r t)) = true ↔ _
    rw [Bool.or_eq_true, Bool.and_eq_true, decide_eq_true_eq, beq_iff_eq]
theorem rising_pw : ∀ (p : Str) (l : List Str), risingS p l = true → (p :: l).Pairwise (fun a b => leS a b = true)
  | p, [], _ => List.pairwise_singleton _ _
  | p, x :: r, h => by
    have h : (!ltCps x.cps.toList p.cps.toList && risingS x r) = true := h
    rw [Bool.and_eq_true, Bool.not_eq_true', Bool.eq_false_iff, Ne, ltCps_iff] at h
    have ih := rising_pw x r h.2
    have px : leS p x = true := leS_iff.mpr (List.not_lt.mp h.1)
    refine List.pairwise_cons.mpr ⟨fun y hy => ?_, ih⟩
    rcases List.mem_cons.mp hy with e | hy
    · rw [e]; exact px
    · exact leS_trans px (List.rel_of_pairwise_cons ih hy)
theorem sortedS_pw {l : List Str} (h : sortedS l = true) : l.Pairwise (fun a b => leS a b = true) := by
  cases l with
  | nil => exact .nil
  | cons x r => exact rising_pw x r h
def rSortD : List V → Hp → VK → Prop := fun xs H Q => ∃ (a : Addr) (kvs : List (Key × V)) (ks : List Str), xs = [V.ref a] ∧ Rd H a (.dK kvs) ∧ kvs.map (·.1) = ks.map Sum.inr ∧ ks.length < 64 ∧ ∀ ys p, ys.Perm ks → sortedS ys = true → H p = none → Q (.ref p) (upd H p (.lst (ys.map V.str)))
theorem call_sortedK {X : Cx} (hc : X.calm = true) : CallR X (.builtin "sorted") rSortD := call_sortedD hc
/-- sorted(d), d a dict with names for keys -/
theorem sortedKeys {H : Hp} {a : Addr} {l : List Str} {σ : L2.St} {Q : VK} (h : H a = some (.dK (kvK l))) (nd : l.Nodup) (few : l.length < 64) (q : ∀ p, H p = none → Q (.ref p) (upd H p (.lst ((once l).map V.str)))) :
    tNil σ H fun ys H2 => rSortD (V.ref a :: ys) H2 Q := by
  refine ⟨a, kvK l, l, rfl, .inl h, ?_, few, fun ys p pm so np => ?_⟩
  · unfold kvK
    rw [List.map_map]
    rfl
  · rw [show ys = once l from ?_]
    · exact q p np
    · rw [once_same nd fun _ => Iff.rfl]
      exact sorted_one (pm.trans (srt_perm l).symm) (sortedS_pw so) (srt_sorted l)
/-- sorted(xs), rising numbers -/
theorem sortedI {K : PySem.W.Frag} {H : Hp} {a : Addr} {ns : List Int} {σ : L2.St} {Q : VK} (h : SqL K H a (ns.map V.int)) (so : ns.Pairwise (· < ·)) (few : ns.length < 64) (q : ∀ p, H p = none → Q (.ref p) (upd H p (.lst (ns.map V.int)))) :
    tNil σ H fun ys H2 => rSorted K (V.ref a :: ys) H2 Q := by
  refine ⟨a, ns, rfl, h, few, fun ys p pm s2 np => ?_⟩
  rw [show ys = ns from List.Perm.eq_of_pairwise (fun a b _ _ z1 z2 => Int.le_antisymm z1 z2) s2 (so.imp fun z => Int.le_of_lt z) pm]
  exact q p np
/-! ### what stands apart from some objects -/
noncomputable def hide (X : Addr → Prop) (H : Hp) : Hp := fun b => open Classical in if X b then none else H b
theorem hide_in {X : Addr → Prop} {H : Hp} {b : Addr} (h : ¬ X b) : hide X H b = H b := by
  unfold hide
  rw [if_neg h]
theorem hide_out {X : Addr → Prop} {H : Hp} {b : Addr} {o : HO} (h : hide X H b = some o) : ¬ X b ∧ H b = some o := by
  unfold hide at h
  by_cases x : X b
  · rw [if_pos x] at h; cases h
  · rw [if_neg x] at h; exact ⟨x, h⟩
theorem GrX.hide {X : Addr → Prop} {H H' : Hp} (g : GrX X H H') : Gr (hide X H) (hide X H') :=
  ⟨fun b o e n => by
    obtain ⟨x, e⟩ := hide_out e
    rw [hide_in x]
    exact g.at_ b o x e n, fun b ps e => by
    obtain ⟨x, e⟩ := hide_out e
    obtain ⟨p, e1, k⟩ := g.tab b ps e
    exact ⟨p, by rw [hide_in x]; exact e1, k⟩⟩
theorem gr_unhide (X : Addr → Prop) (H : Hp) : Gr (hide X H) H :=
  ⟨fun b o e _ => (hide_out e).2, fun b ps e => ⟨ps, (hide_out e).2, fun h => h⟩⟩
/-- what has been told anew is none of X's, which stood before -/
theorem new_out {X : Addr → Prop} {H : Hp} {b : Addr} (hX : ∀ z, X z → ∃ o, H z = some o) (h : H b = none) : ¬ X b := fun z => by
  obtain ⟨o, e⟩ := hX b z
  rw [h] at e; cases e
/-! ### a list of told pairs -/
structure DueP (H : Hp) (p : Addr) (rs : List Pr1) : Prop where
  at_ : H p = some (.lst (rs.map fun r => V.ref r.t))
  own : ∀ r ∈ rs, H r.t = some (.tup [.int r.k, .ref r.l]) ∧ H r.l = some (.lst (r.r.map V.str))
theorem ToldP.due {H H' : Hp} {p : Addr} {rs : List Pr1} (T : ToldP H H' p rs) : DueP H' p rs := ⟨T.at_, fun r hr => ⟨(T.own r hr).2.2.2.2.1, (T.own r hr).2.2.2.2.2⟩⟩
theorem DueP.gr {H H' : Hp} {p : Addr} {rs : List Pr1} (T : DueP H p rs) (g : Gr H H') : DueP H' p rs := ⟨g.lst T.at_, fun r hr => ⟨g.tup (T.own r hr).1, g.lst (T.own r hr).2⟩⟩
theorem DueP.dp {K : PySem.W.Frag} {H' : Hp} {p : Addr} {rs : List Pr1} (T : DueP H' p rs) : Dp K H' (.ref p) (pairsD (rs.map fun r => (r.k, r.r))) := by
  have gen : ∀ l : List Pr1, (∀ r ∈ l, r ∈ rs) → DpAll K H' (l.map fun r => V.ref r.t) ((l.map fun r => (r.k, r.r)).map prD) := by
    intro l
    induction l with
    | nil => intro _; exact .nil
    | cons r l ih =>
      intro h
      obtain ⟨h5, h6⟩ := T.own r (h r List.mem_cons_self)
      exact .cons (.tup (.inl (.inl h5)) (.cons (.int r.k) (.cons (dp_dS (.inl (.inl h6))) .nil))) (ih fun x hx => h x (List.mem_cons_of_mem _ hx))
  exact .lst (.inl (.inl T.at_)) (gen rs fun _ z => z)
/-! ### a table of rows by numbers -/
structure Tbl (H : Hp) (t : Addr) (tb : Tb1) : Prop where
  at_ : H t = some (.dK (kvB tb))
  own : ∀ e ∈ tb, H e.2.1 = some (.lst (e.2.2.map V.str))
theorem Tbl.gr {H H' : Hp} {t : Addr} {tb : Tb1} (T : Tbl H t tb) (g : Gr H H') : Tbl H' t tb := ⟨g.at_ _ _ T.at_ (fun _ z => nomatch z), fun e he => g.lst (T.own e he)⟩
theorem Tbl.ne {H : Hp} {t : Addr} {tb : Tb1} (T : Tbl H t tb) {e : Int × Addr × List Str} (he : e ∈ tb) : e.2.1 ≠ t := ne_of (T.own e he) T.at_ (by intro z; cases z)
theorem Tbl.locked {H : Hp} {t : Addr} {tb : Tb1} {od : Obj} (T : Tbl H t tb) : ∀ e ∈ tb, (upd H t (.frz od (.dK (kvB tb)))) e.2.1 = some (.lst (e.2.2.map V.str)) := fun e he => by rw [upd_ne (T.ne he)]; exact T.own e he
theorem kvB_keys (tb : Tb1) : (kvB tb).map (fun kv => kV kv.1) = (nums tb).map V.int := by
  unfold kvB nums
  rw [List.map_map, List.map_map]
  rfl
theorem kvB_empty (tb : Tb1) : (kvB tb).isEmpty = tb.isEmpty := by
  cases tb <;> rfl
theorem pw_nodup {ns : List Int} (h : ns.Pairwise (· < ·)) : ns.Nodup := h.imp fun z e => by rw [e] at z; exact absurd z (Int.lt_irrefl _)
theorem kvB_get {tb : Tb1} (nd : (nums tb).Nodup) {e : Int × Addr × List Str} (he : e ∈ tb) : valV (kvB tb) (Sum.inl e.1 : Key) = some (V.ref e.2.1) := by
  induction tb with
  | nil => cases he
  | cons x r ih =>
    have nd2 : x.1 ∉ nums r ∧ (nums r).Nodup := List.nodup_cons.mp nd
    unfold valV kvB
    rw [List.map_cons, List.find?_cons]
    rcases List.mem_cons.mp he with rfl | he
    · rw [decide_eq_true rfl]
      rfl
    · have ne : (Sum.inl x.1 : Key) ≠ Sum.inl e.1 := fun z => nd2.1 (by injection z with z; rw [z]; exact List.mem_map.mpr ⟨e, he, rfl⟩)
      rw [decide_eq_false ne]
      exact ih nd2.2 he
end K1
namespace K1
open PySem PySem.Spec PyProof.Rows L2 Gr GxR Srx Skx Dcx
/-- [(n, table[n]) for n in ..] -/
theorem lc_due {K : PySem.W.Frag} {a D : Addr} {j : Nat} {σ : L2.St} {vs : List Nat} {te : TE} {H1 : Hp} {Qd : Hp → Prop} {tt : Tb1}
    (hA : SqL K H1 a ((nums tt).map V.int)) (few : tt.length ≤ 1000) (hD : H1 D = none) (own : ∀ e ∈ tt, H1 e.2.1 = some (.lst (e.2.2.map V.str))) (hw : ∀ v, wipe ((wipe σ vs).set j (some v)) vs = wipe σ vs)
    (he : ∀ e ∈ tt, ∀ (H4 : Hp) (Q' : VK), Gr H1 H4 → (∀ T, H4 T = none → Q' (.ref T) (upd H4 T (.tup [.int e.1, .ref e.2.1]))) → te ((wipe σ vs).set j (some (.int e.1))) H4 Q')
    (q : ∀ H2 rs, Gr H1 H2 → DueP H2 D rs → (∀ r ∈ rs, H1 r.t = none ∧ ∃ e ∈ tt, r.l = e.2.1) → rs.map (fun r => (r.k, r.r)) = nr tt → Qd H2) :
    ∃ W : Nat → Nat → Hp → Prop, (∃ m, W 0 m (upd H1 D (.lst []))) ∧ ∀ i m H, W i m H →
      ((Itl K a).stop i H ∧ Qd H) ∨ ((Itl K a).go i H ∧ ∃ Nx : Hp → Prop, (∀ H', Nx H' → ∃ m', m' < m ∧ W (i + 1) m' H') ∧ ∀ x H', (Itl K a).yld i H x H' → gName j x (wipe σ vs) H' fun σ2 H2 => wipe σ2 vs = wipe σ vs ∧ tYes σ2 H2 fun b H3 =>
        if b = true then te σ2 H3 fun y H4 => ∃ acc, H4 D = some (.lst acc) ∧ acc.length < sizeLine ∧ Nx (upd H4 D (.lst (acc ++ [y]))) else Nx H3) := by
  refine lc_list (xs := (nums tt).map V.int) (Qd := Qd) (fun i H2 => Gr H1 H2 ∧ ∃ rs : List Pr1, H2 D = some (.lst (rs.map fun r => V.ref r.t)) ∧ (∀ r ∈ rs, H1 r.t = none ∧ r.t ≠ D ∧ H2 r.t = some (.tup [.int r.k, .ref r.l]) ∧ ∃ e ∈ tt, r.l = e.2.1 ∧ r.r = e.2.2) ∧ rs.map (fun r => (r.k, r.r)) = nr (tt.take i)) ⟨Gr.new hD, [], upd_same, fun _ z => absurd z List.not_mem_nil, rfl⟩ (fun i H2 _ h => h.1.seq hA) (fun i x H2 hx h => ?_) (fun H2 h => ?_)
  · obtain ⟨g2, rs, eD, ow, em⟩ := h
    obtain ⟨k0, hk0, rfl⟩ := get_map hx
    obtain ⟨e0, he0, rfl⟩ := get_map hk0
    have m0 := List.mem_of_getElem? he0
    have hi : i < tt.length := (List.getElem?_eq_some_iff.mp he0).1
    refine ⟨hw _, yesIf (he e0 m0 H2 _ g2 fun T nT => ⟨_, (Gr.new nT).lst eD, ?_, (g2.trans (Gr.new nT)).mut hD, rs ++ [⟨T, e0.1, e0.2.1, e0.2.2⟩], ?_, fun r hr => ?_, ?_⟩)⟩
    · have h1 := congrArg List.length em
      unfold nr at h1
      rw [List.length_map, List.length_map, List.length_take] at h1
      rw [List.length_map]
      exact small1000 (by omega)
    · rw [upd_same, List.map_append]
      rfl
    · have TD : T ≠ D := (ne_of_none eD nT).symm
      rcases List.mem_append.mp hr with hr | hr
      · obtain ⟨h1, h2, h3, h4⟩ := ow r hr
        exact ⟨h1, h2, by rw [upd_ne h2]; exact (Gr.new nT).tup h3, h4⟩
      · rw [List.mem_singleton.mp hr]
        exact ⟨g2.free nT, TD, by rw [upd_ne TD, upd_same], e0, m0, rfl, rfl⟩
    · rw [List.map_append, em]
      unfold nr
      rw [take_map he0]
      rfl
  · obtain ⟨g2, rs, eD, ow, em⟩ := h
    rw [List.length_map, show (nums tt).length = tt.length from List.length_map _, List.take_length] at em
    refine q H2 rs g2 ⟨eD, fun r hr => ?_⟩ (fun r hr => ?_) em
    · obtain ⟨h1, h2, h3, e, he, h4, h5⟩ := ow r hr
      exact ⟨h3, by rw [h4, h5]; exact g2.lst (own e he)⟩
    · obtain ⟨h1, h2, h3, e, he, h4, h5⟩ := ow r hr
      exact ⟨h1, e, he, h4⟩
end K1
namespace K1
open PySem PySem.Spec PyProof.Rows L2 Gr GxR Srx Skx Dcx
theorem upd_comm {H : Hp} {a b : Addr} {x y : HO} (h : a ≠ b) : upd (upd H a x) b y = upd (upd H b y) a x := by
  funext c
  by_cases ca : c = a
  · subst ca
    rw [upd_ne h, upd_same, upd_same]
  · by_cases cb : c = b
    · subst cb
      rw [upd_same, upd_ne ca, upd_same]
    · rw [upd_ne cb, upd_ne ca, upd_ne ca, upd_ne cb]
theorem kvB_vals (tb : Tb1) : (kvB tb).map (·.2) = (tb.map fun e => (e.2.1, e.2.2)).map fun q : Addr × List Str => V.ref q.1 := by
  unfold kvB
  rw [List.map_map, List.map_map]
  rfl
theorem tb_rows (tb : Tb1) : (tb.map fun e => (e.2.1, e.2.2)).map (fun q : Addr × List Str => q.2) = rws tb := by
  unfold rws
  rw [List.map_map]
  rfl
theorem once_ddG (l : List Str) : once (ddG l) = once l := once_congr fun _ => ddG_mem
theorem nr_len {a b : Tb1} (h : nr a = nr b) : a.length = b.length := by
  have h1 := congrArg List.length h
  unfold nr at h1
  rw [List.length_map, List.length_map] at h1
  exact h1
theorem nr_rws {a b : Tb1} (h : nr a = nr b) : rws a = rws b := by rw [rws_nr, rws_nr, h]
theorem nr_nums {a b : Tb1} (h : nr a = nr b) : nums a = nums b := by
  have e : ∀ z : Tb1, nums z = (nr z).map (·.1) := fun z => by unfold nums nr; rw [List.map_map]; rfl
  rw [e, e, h]
theorem Tok.nmsRows {tb : Tb1} {n : Int} (T : Tok tb n) : ∀ z ∈ nr tb, Nms z.2 := fun z hz => by
  unfold nr at hz
  obtain ⟨e, he, rfl⟩ := List.mem_map.mp hz
  exact (T.set e he).2
theorem isEmpty_len {a b : Tb1} (h : a.length = b.length) : a.isEmpty = b.isEmpty := by
  cases a with
  | nil => cases b with
    | nil => rfl
    | cons y s => cases h
  | cons x r => cases b with
    | nil => cases h
    | cons y s => rfl
theorem mtAll_nil (rows : List (List Str)) : mtAll [] rows = rows.isEmpty := by
  cases rows with
  | nil => rfl
  | cons r rows => rfl
theorem rws_isEmpty (tb : Tb1) : (rws tb).isEmpty = tb.isEmpty := by cases tb <;> rfl
theorem mtAll_two (xs ys : List Str) (rows : List (List Str)) (h : ∀ y ∈ ys, y ∈ xs) : mtAll (xs ++ ys) rows = mtAll xs rows := by
  rw [Bool.eq_iff_iff, mtAll_iff, mtAll_iff]
  refine forall_congr' fun r => imp_congr_right fun _ => exists_congr fun y => and_congr_left fun _ => ?_
  rw [List.mem_append]
  exact ⟨fun z => z.elim id (h y), .inl⟩
theorem ne_selfB (v : V) : (!decide (v = v)) = false := by rw [decide_eq_true rfl]; rfl
theorem eq_selfB (v : V) : decide (v = v) = true := decide_eq_true rfl
end K1
end
section
set_option maxHeartbeats 4000000
namespace K1
open PySem PySem.Spec PyProof.Rows L2 Gr GxR Srx Skx Dcx
open PySem.W (dataLe dataLt DatumOrd Datum)
theorem leR_one {x y : Str} (h : leR [x] [y] = true) : leS x y = true := by
  rw [leR_eq, Bool.not_eq_true', ← toD_eq, ← toD_eq, DatumOrd.lt_eq] at h
  have h : PySem.W.listLt [y] [x] = false := h
  unfold PySem.W.listLt at h
  by_cases e : y = x
  · rw [e]
    exact (leS_total x x).elim id id
  · rw [if_neg e] at h
    exact leS_iff.mpr (List.not_lt.mp (of_decide_eq_false h))
def oneOf (r : List Str) : List Str := if r.length = 1 then r else []
theorem oneOf_mem {r : List Str} {y : Str} : y ∈ oneOf r ↔ r = [y] := by
  unfold oneOf
  constructor
  · intro h
    split at h
    · rename_i h1
      obtain ⟨z, hz⟩ := List.length_eq_one_iff.mp h1
      rw [hz] at h ⊢
      rw [List.mem_singleton.mp h]
    · cases h
  · rintro rfl
    simp
theorem ris_ones : ∀ {L : List (List Str)}, L.Nodup → L.Pairwise (fun a b => leR a b = true) → Ris (L.flatMap oneOf)
  | [], _, _ => .nil
  | r :: L, nd, pw => by
    have nd := List.nodup_cons.mp nd
    have pw := List.pairwise_cons.mp pw
    rw [List.flatMap_cons]
    refine List.pairwise_append.mpr ⟨?_, ris_ones nd.2 pw.2, fun x hx y hy => ?_⟩
    · unfold oneOf
      split
      · rename_i h1
        obtain ⟨z, hz⟩ := List.length_eq_one_iff.mp h1
        rw [hz]
        exact List.pairwise_singleton _ _
      · exact .nil
    · obtain rfl := oneOf_mem.mp hx
      obtain ⟨r2, h2, h3⟩ := List.mem_flatMap.mp hy
      obtain rfl := oneOf_mem.mp h3
      exact ⟨leR_one (pw.1 _ h2), fun e => nd.1 (by rw [e]; exact h2)⟩
theorem needB_mem {rows : List (List Str)} {y : Str} : y ∈ needB rows ↔ [y] ∈ least rows := by
  show y ∈ (least rows).flatMap oneOf ↔ _
  rw [List.mem_flatMap]
  constructor
  · rintro ⟨r, h1, h2⟩
    rw [← oneOf_mem.mp h2]
    exact h1
  · exact fun h => ⟨_, h, oneOf_mem.mpr rfl⟩
theorem ris_needB (rows : List (List Str)) : Ris (needB rows) := ris_ones (least_nodup rows) (least_sorted rows)
theorem wi_one {z : List Str} {y : Str} (hz : Ris z) : wi z [y] = true ↔ z = [] ∨ z = [y] := by
  rw [wi_iff]
  constructor
  · intro h
    cases z with
    | nil => exact .inl rfl
    | cons a r =>
      have ea : a = y := List.mem_singleton.mp (h a List.mem_cons_self)
      cases r with
      | nil => rw [ea]; exact .inr rfl
      | cons b r2 =>
        have eb : b = y := List.mem_singleton.mp (h b (List.mem_cons_of_mem _ List.mem_cons_self))
        have := (List.pairwise_cons.mp hz).1 b List.mem_cons_self
        exact absurd (ea.trans eb.symm) this.2
  · rintro (rfl | rfl) x hx
    · cases hx
    · exact hx
theorem needed_eq {rows : List (List Str)} (nd : ∀ r ∈ rows, r.Nodup) : needB (rows.map once) = needed rows := by
  have hr := risAll_once rows
  have hn : Ris (needed rows) := by
    unfold needed
    split
    · exact .nil
    · exact ris_once _
  have key : ∀ y, y ∈ needB (rows.map once) ↔ y ∈ needed rows := fun y => by
    rw [needB_mem, least_mem hr]
    have e1 : [] ∈ rows.map once ↔ [] ∈ rows := by
      rw [List.mem_map]
      constructor
      · rintro ⟨r, h1, h2⟩
        have : r = [] := by
          refine List.eq_nil_iff_forall_not_mem.mpr fun x hx => ?_
          have := once_mem.mpr hx
          rw [h2] at this
          cases this
        rw [← this]
        exact h1
      · exact fun h => ⟨[], h, once_ris .nil⟩
    unfold needed
    constructor
    · rintro ⟨h1, h2⟩
      rw [if_neg (fun h => by
        have := h2 [] (e1.mpr h) rfl
        cases this), once_mem]
      obtain ⟨r, h3, h4⟩ := List.mem_map.mp h1
      refine List.mem_flatMap.mpr ⟨r, h3, ?_⟩
      have hl : r.length = 1 := by
        rw [← once_full (nd r h3), h4]
        rfl
      rw [if_pos hl]
      exact once_mem.mp (by rw [h4]; exact List.mem_singleton_self y)
    · intro h
      split at h
      · cases h
      · rename_i hne
        rw [once_mem] at h
        obtain ⟨r, h3, h4⟩ := List.mem_flatMap.mp h
        have h4 := oneOf_mem.mp h4
        have e2 : once r = [y] := by rw [h4]; exact once_ris (List.pairwise_singleton _ _)
        refine ⟨List.mem_map.mpr ⟨r, h3, e2⟩, fun z hz hw => ?_⟩
        rcases (wi_one (hr z hz)).mp hw with e | e
        · exact absurd (e1.mp (by rw [← e]; exact hz)) hne
        · exact e
  exact wi_anti (ris_needB _) hn (wi_iff.mpr fun y hy => (key y).mp hy) (wi_iff.mpr fun y hy => (key y).mpr hy)
theorem least_void {rows : List (List Str)} (hr : RisAll rows) (h : [] ∈ rows) : (least rows).flatten = [] := by
  refine List.eq_nil_iff_forall_not_mem.mpr fun y hy => ?_
  obtain ⟨z, hz, hy⟩ := List.mem_flatten.mp hy
  have := ((least_mem hr).mp hz).2 [] h rfl
  rw [← this] at hy
  cases hy
end K1
end
section
set_option maxHeartbeats 4000000
/-! a small table laid anew: there is room -/
namespace Sl
open PySem PySem.Spec PyProof.Rows L2
def M2 (m : Nat) : Prop := m = 7 ∨ m = 15
def hop (m i : Nat) : Nat := (i * 5 + 1) % (m + 1)
def hops (m : Nat) : Nat → Nat → Nat
  | 0, i => i
  | k + 1, i => hops m k (hop m i)
theorem cover7 : ∀ i < 8, ∀ j < 8, ∃ k, k < 8 ∧ hops 7 k i = j := by decide +kernel
theorem cover15 : ∀ i < 16, ∀ j < 16, ∃ k, k < 16 ∧ hops 15 k i = j := by decide +kernel
theorem cover {m : Nat} (hm : M2 m) {i j : Nat} (hi : i ≤ m) (hj : j ≤ m) : ∃ k, k < m + 1 ∧ hops m k i = j := by
  rcases hm with rfl | rfl
  · exact cover7 i (by omega) j (by omega)
  · exact cover15 i (by omega) j (by omega)
theorem free_succ (m : Nat) (owner : Array (Option Nat)) (fuel i p : Nat) : SetTable.layClean.free m owner (fuel + 1) i p =
    match (List.range (SetTable.runEnd m i + 1 - i)).find? fun k => (owner.getD (i + k) (some 0)).isNone with
    | some k => some (i + k)
    | none => SetTable.layClean.free m owner fuel (SetTable.leap m i p).1 (SetTable.leap m i p).2 := rfl
theorem free_here {m : Nat} {owner : Array (Option Nat)} {fuel i p : Nat} (h : oAt owner i = none) : ∃ r, SetTable.layClean.free m owner (fuel + 1) i p = some r := by
  rw [free_succ]
  cases e : (List.range (SetTable.runEnd m i + 1 - i)).find? fun k => (owner.getD (i + k) (some 0)).isNone with
  | some k => exact ⟨_, rfl⟩
  | none =>
    exfalso
    have h1 := List.find?_eq_none.mp e 0 (List.mem_range.mpr (by unfold SetTable.runEnd; split <;> omega))
    have h2 : (owner.getD (i + 0) (some 0)).isNone = true := by
      show (oAt owner i).isNone = true
      rw [h]; rfl
    exact h1 h2
theorem free_on {m : Nat} {owner : Array (Option Nat)} {fuel i p : Nat} (h : ∃ r, SetTable.layClean.free m owner fuel (SetTable.leap m i p).1 (SetTable.leap m i p).2 = some r) : ∃ r, SetTable.layClean.free m owner (fuel + 1) i p = some r := by
  rw [free_succ]
  cases e : (List.range (SetTable.runEnd m i + 1 - i)).find? fun k => (owner.getD (i + k) (some 0)).isNone with
  | some k => exact ⟨_, rfl⟩
  | none => exact h
theorem free0 {m : Nat} {owner : Array (Option Nat)} {j : Nat} (h : oAt owner j = none) : ∀ (k fuel i : Nat), hops m k i = j → k < fuel → ∃ r, SetTable.layClean.free m owner fuel i 0 = some r
  | 0, fuel, i, e, hf => by
    obtain ⟨f, rfl⟩ : ∃ f, fuel = f + 1 := ⟨fuel - 1, by omega⟩
    exact free_here (by rw [show i = j from e]; exact h)
  | k + 1, fuel, i, e, hf => by
    obtain ⟨f, rfl⟩ : ∃ f, fuel = f + 1 := ⟨fuel - 1, by omega⟩
    refine free_on ?_
    have h1 := free0 h k f (hop m i) e (by omega)
    have e1 : (SetTable.leap m i 0).1 = hop m i := by unfold SetTable.leap hop; simp
    have e2 : (SetTable.leap m i 0).2 = 0 := rfl
    rw [e1, e2]
    exact h1
theorem free1 {m : Nat} (hm : M2 m) {owner : Array (Option Nat)} {j : Nat} (hj : j ≤ m) (h : oAt owner j = none) : ∀ (d fuel i p : Nat), p < 32 ^ d → i ≤ m → d + (m + 1) ≤ fuel → ∃ r, SetTable.layClean.free m owner fuel i p = some r
  | 0, fuel, i, p, hp, hi, hf => by
    have hp : p = 0 := by
      have : p < 1 := hp
      omega
    subst hp
    obtain ⟨k, hk, e⟩ := cover hm hi hj
    exact free0 h k fuel i e (by omega)
  | d + 1, fuel, i, p, hp, hi, hf => by
    obtain ⟨f, rfl⟩ : ∃ f, fuel = f + 1 := ⟨fuel - 1, by omega⟩
    refine free_on (free1 hm hj h d f _ _ ?_ ?_ (by omega))
    · show p / 32 < 32 ^ d
      rw [Nat.pow_succ] at hp
      exact Nat.div_lt_of_lt_mul (by rw [Nat.mul_comm]; exact hp)
    · show (i * 5 + 1 + p / 32) % (m + 1) ≤ m
      have := Nat.mod_lt (i * 5 + 1 + p / 32) (show 0 < m + 1 by omega)
      omega
theorem free_sound {m : Nat} {owner : Array (Option Nat)} : ∀ (fuel i p r : Nat), SetTable.layClean.free m owner fuel i p = some r → oAt owner r = none
  | 0, i, p, r, h => by cases h
  | fuel + 1, i, p, r, h => by
    rw [free_succ] at h
    cases e : (List.range (SetTable.runEnd m i + 1 - i)).find? fun k => (owner.getD (i + k) (some 0)).isNone with
    | some k =>
      rw [e] at h
      obtain rfl : i + k = r := Option.some.inj h
      have h1 := List.find?_some e
      exact Option.isNone_iff_eq_none.mp h1
    | none =>
      rw [e] at h
      exact free_sound fuel _ _ r h
theorem oAt_lt {owner : Array (Option Nat)} {r : Nat} (h : oAt owner r = none) : r < owner.size := by
  rcases Nat.lt_or_ge r owner.size with h1 | h1
  · exact h1
  · exfalso
    have h2 : owner.getD r (some 0) = none := h
    rw [Array.getD_eq_getD_getElem?, Array.getElem?_eq_none h1] at h2
    cases h2
/-- the first k are laid, each at a place of its own -/
structure OwnS (m k : Nat) (owner : Array (Option Nat)) : Prop where
  sz : owner.size = m + 1
  ps : ∃ ps : List Nat, ps.length = k ∧ (∀ i j, ps[i]? = some j → j ≤ m ∧ oAt owner j = some i) ∧ ∀ i j, j ≤ m → oAt owner j = some i → ps[i]? = some j
theorem OwnS.init (m : Nat) : OwnS m 0 (Array.replicate (m + 1) none) :=
  ⟨by simp, [], rfl, fun i j h => absurd h (by simp), fun i j hj h => absurd h (by rw [oAt_init hj]; simp)⟩
theorem OwnS.step {m k : Nat} (hm : M2 m) {owner : Array (Option Nat)} (W : OwnS m k owner) (hk : k < 8) (h : Int) :
    ∃ j, SetTable.layClean.free m owner (SetTable.turns m) (SetTable.bits h % (m + 1)) (SetTable.bits h) = some j ∧ OwnS m (k + 1) (owner.setIfInBounds j (some k)) := by
  obtain ⟨sz, ps, hl, h1, h2⟩ := W
  have m7 : 7 ≤ m := by rcases hm with rfl | rfl <;> omega
  obtain ⟨j0, hj0, hn⟩ : ∃ j, j ≤ m ∧ oAt owner j = none := by
    refine Classical.byContradiction fun hc => ?_
    have all : ∀ j ∈ List.range (m + 1), j ∈ ps := fun j hj => by
      have hj : j ≤ m := Nat.le_of_lt_succ (List.mem_range.mp hj)
      cases e : oAt owner j with
      | none => exact absurd ⟨j, hj, e⟩ hc
      | some i => exact List.mem_of_getElem? (h2 i j hj e)
    have := nat_nodup_len _ ps List.nodup_range all
    rw [List.length_range] at this
    omega
  have hb : SetTable.bits h < 32 ^ 13 := by
    unfold SetTable.bits
    have h1 : h % (2 ^ 64 : Int) < 2 ^ 64 := Int.emod_lt_of_pos _ (by decide)
    have h2 : 0 ≤ h % (2 ^ 64 : Int) := Int.emod_nonneg _ (by decide)
    have h3 : (h % (2 ^ 64 : Int)).toNat < 2 ^ 64 := by omega
    exact Nat.lt_of_lt_of_le h3 (by decide)
  obtain ⟨j, ej⟩ := free1 hm hj0 hn 13 (SetTable.turns m) (SetTable.bits h % (m + 1)) (SetTable.bits h) hb (by have := Nat.mod_lt (SetTable.bits h) (show 0 < m + 1 by omega); omega) (by unfold SetTable.turns; omega)
  have hj := free_sound _ _ _ _ ej
  have js := oAt_lt hj
  refine ⟨j, ej, by rw [Array.size_setIfInBounds]; exact sz, ps ++ [j], by rw [List.length_append, hl]; rfl, fun i r hr => ?_, fun i r hr e => ?_⟩
  · rcases Nat.lt_or_ge i ps.length with hi | hi
    · rw [List.getElem?_append_left hi] at hr
      obtain ⟨h4, h3⟩ := h1 i r hr
      rw [oAt_set_ne _ (fun z => by rw [z, hj] at h3; cases h3)]
      exact ⟨h4, h3⟩
    · rw [List.getElem?_append_right hi] at hr
      have hi2 : i - ps.length = 0 := by
        have := (List.getElem?_eq_some_iff.mp hr).1
        simp at this
        omega
      rw [hi2] at hr
      obtain rfl : j = r := Option.some.inj hr
      rw [oAt_set_self _ js]
      rw [sz] at js
      exact ⟨by omega, congrArg some (by omega)⟩
  · by_cases c : r = j
    · rw [c, oAt_set_self _ js] at e
      obtain rfl : k = i := Option.some.inj e
      rw [← hl, List.getElem?_append_right (Nat.le_refl _), Nat.sub_self, c]
      rfl
    · rw [oAt_set_ne _ c] at e
      have h3 := h2 i r hr e
      rw [List.getElem?_append_left (List.getElem?_eq_some_iff.mp h3).1]
      exact h3
theorem layClean_fold (m : Nat) (hs : Array Int) : SetTable.layClean m hs = (hs.toList.foldl (stepF m) (some (Array.replicate (m + 1) none, 0))).map (·.1) := layClean_eq m hs
theorem fold_ok {m : Nat} (hm : M2 m) : ∀ (rest : List Int) (k : Nat) (owner : Array (Option Nat)), OwnS m k owner → k + rest.length ≤ 8 → ∃ owner', rest.foldl (stepF m) (some (owner, k)) = some (owner', k + rest.length) ∧ OwnS m (k + rest.length) owner'
  | [], k, owner, W, _ => ⟨owner, rfl, W⟩
  | h :: rest, k, owner, W, hk => by
    rw [List.length_cons] at hk
    obtain ⟨j, ej, W2⟩ := W.step hm (by omega) h
    obtain ⟨o', e2, W3⟩ := fold_ok hm rest (k + 1) _ W2 (by omega)
    refine ⟨o', ?_, ?_⟩
    · rw [List.foldl_cons, stepF_some ej, e2, List.length_cons]
      congr 2
      omega
    · rw [List.length_cons, show k + (rest.length + 1) = k + 1 + rest.length by omega]
      exact W3
theorem laid_ok {m : Nat} (hm : M2 m) {hs : Array Int} (hn : hs.size ≤ 8) (finger moves : Nat) (led plain : Bool) :
    ∃ t' order, SetTable.laid m finger moves led plain hs = some (t', order) ∧ order.toList.Perm (List.range hs.size) ∧ t'.place.size = hs.size ∧ Ris t'.place.toList ∧ t'.dummies = #[] ∧ t'.mask = m ∧ t'.led = led ∧ t'.plain = plain := by
  obtain ⟨owner, f, W⟩ := fold_ok hm hs.toList 0 _ (OwnS.init m) (by rw [Array.length_toList]; omega)
  rw [Array.length_toList, Nat.zero_add] at f W
  have ec : SetTable.layClean m hs = some owner := by rw [layClean_fold, f]; rfl
  obtain ⟨sz, ps, hl, h1, h2⟩ := W
  refine ⟨{ mask := m, place := ((liveOf m owner).map (·.1)).toArray, dummies := #[], finger, led, moves, plain }, ((liveOf m owner).map (·.2)).toArray, ?_, ?_⟩
  · unfold SetTable.laid
    rw [ec]
    rfl
  have ris := (ris_live (fun j => owner.getD j none) (List.range (m + 1)) (by
    unfold Ris
    first | exact List.pairwise_lt_range | exact List.pairwise_lt_range _)).1
  have r1 : Ris ((liveOf m owner).map (·.1)) := ris
  have nd : ((liveOf m owner).map (·.1)).Nodup := List.Pairwise.imp (fun h => Nat.ne_of_lt h) r1
  have all : ∀ k, k < hs.size → k ∈ (liveOf m owner).map (·.2) := fun k hk => by
    have e := List.getElem?_eq_getElem (l := ps) (i := k) (by omega)
    obtain ⟨h4, h3⟩ := h1 k _ e
    exact List.mem_map.mpr ⟨(ps[k]'(by omega), k), (mem_live sz).2 ⟨h4, h3⟩, rfl⟩
  have hlen : (liveOf m owner).length = hs.size := by
    have a := nat_nodup_len ((liveOf m owner).map (·.1)) ps nd fun x hx => by
      obtain ⟨q, hq, eq1⟩ := List.mem_map.mp hx
      obtain ⟨y, k⟩ := q
      obtain rfl : y = x := eq1
      obtain ⟨b1, b2⟩ := (mem_live sz).1 hq
      exact List.mem_of_getElem? (h2 k y b1 b2)
    have b := nat_nodup_len (List.range hs.size) ((liveOf m owner).map (·.2)) List.nodup_range fun k hk => all k (List.mem_range.mp hk)
    rw [List.length_map] at a
    rw [List.length_map, List.length_range] at b
    omega
  refine ⟨perm_range hs.size _ (by show ((liveOf m owner).map (·.2)).length = _; rw [List.length_map]; exact hlen) all, by show ((liveOf m owner).map (·.1)).toArray.size = _; rw [List.size_toArray, List.length_map]; exact hlen, r1, rfl, rfl, rfl, rfl⟩
end Sl
end
section
set_option maxHeartbeats 4000000
/-! set - set, texts -/
namespace Sd
open PySem PySem.Spec PyProof.Rows L2 Sx
open Sem (wp)
section
variable {P : Program} {w : World} {A : Around} {E : Value → Shared → Prop} {s : Shared} {a f o : Addr} {ks fs ls : List Str}
/-- what a walk gives -/
structure Got (w : World) (arr : Array (Int × Value)) (ks : List Str) : Prop where
  row : ∀ e ∈ arr.toList, Row w e
  perm : (arr.toList.map fun e => kS e.2).Perm ks
theorem walk_at {Q : Array (Int × Value) → Shared → Prop} (R : SetS w s.heap a ks) (h : ∀ arr d, Got w arr ks → Q arr { s with drawn := d }) : wpAny (model P w) A (setWalk a) Q E s := by
  obtain ⟨o, es, ep, t, ho, hex, hd, g, pm0, nd, hb, hf, hr, hl⟩ := R
  unfold setWalk
  refine wpAny_bind (wpAny_setState_of ho hd hf ?_)
  dsimp only
  refine wpAny_bind (wpAny_byText ?_)
  by_cases hbt : w.params.followText "set-order" = true
  · refine wp_if_pos hbt ?_
    have p := pick_perm (w.params.setOrder a ep) es
    exact wpAny_bind (wpAny_askSetting (wpAny_pure (h _ s.drawn ⟨fun e he => g e (p.mem_iff.mp he), (p.map _).trans pm0⟩)))
  · refine wp_if_neg hbt ?_
    try refine wpAny_bind (wpAny_pure ?_)
    by_cases hdr : (!t.plain && decide (es.size > 1)) = true
    · refine wp_if_pos hdr ?_
      refine wpAny_bind (drawOrder_at _ _ s _ (by rw [Array.length_toList]; exact Nat.le_refl _) fun ys d hp => ?_)
      refine wpAny_pure (h _ d ⟨fun e he => g e (hp.mem_iff.mp (by simpa using he)), ?_⟩)
      exact (hp.map _).trans pm0
    · refine wp_if_neg hdr ?_
      try refine wpAny_bind (wpAny_pure ?_)
      have led : t.led = true := hl.resolve_left hbt
      refine wpAny_bind (wpAny_of_eq (a := ()) ?_ ?_)
      · show (if (!t.led && decide (es.size > 1)) = true then unsupported "set:maker-not-led" else pure ()) = pure ()
        rw [led] <;> rfl
      · exact wpAny_pure (h es s.drawn ⟨g, pm0⟩)
theorem quiet_at {Q : Bool → Shared → Prop} {l : List Addr} (R : ∀ a ∈ l, ∃ ks, SetS w s.heap a ks) (h : Q true s) : wpAny (model P w) A (setsQuiet l) Q E s := by
  unfold setsQuiet
  refine wpAny_bind (wpAny_forIn_list _ (fun rest b s' => b.1 = none ∧ s' = s ∧ ∀ a ∈ rest, ∃ ks, SetS w s.heap a ks) _ (fun x rest b s' hI => ?_) (fun b s' hI => ?_) _ _ ⟨rfl, rfl, R⟩)
  · obtain ⟨hb, rfl, hR⟩ := hI
    obtain ⟨ks, R⟩ := hR x List.mem_cons_self
    obtain ⟨o, es, ep, t, ho, hex, hd, g, pm0, nd, hb2, hf, hr, hl⟩ := R
    refine wpAny_bind (wpAny_setEntries_of ho hd hf ?_)
    refine wpAny_bind (wpAny_forIn_array' _ (fun rest b s'' => b.1 = none ∧ s'' = s' ∧ ∀ e ∈ rest, Row w e) _ (fun e rest2 b2 s2 hI => ?_) (fun b2 s2 hI => ?_) _ _ ⟨rfl, rfl, g⟩)
    · obtain ⟨h1, rfl, h3⟩ := hI
      obtain ⟨i, v⟩ := e
      obtain ⟨x, tk, h4, _⟩ := (h3 (i, v) List.mem_cons_self).str
      obtain rfl : v = Value.str x tk := h4
      dsimp only
      exact wpAny_pure ⟨rfl, rfl, fun e he => h3 e (List.mem_cons_of_mem _ he)⟩
    · obtain ⟨h1, rfl, _⟩ := hI
      obtain ⟨c1, c2⟩ := b2
      obtain rfl : c1 = none := h1
      exact wpAny_pure ⟨rfl, rfl, fun a ha => hR a (List.mem_cons_of_mem _ ha)⟩
  · obtain ⟨h1, rfl, _⟩ := hI
    obtain ⟨c1, c2⟩ := b
    obtain rfl : c1 = none := h1
    exact wpAny_pure h
/-- the same set, its table's marks changed -/
theorem SetS.mark {h h' : Heap} {o1 : Obj} {es : Array (Int × Value)} {ep : Nat} {t : SetTable} (R : SetS w h f fs) (e1 : h.get? f = some o1) (e2 : o1.data = .set es ep t) {b1 b2 : Bool} (hb : w.params.followText "set-order" = true ∨ b1 = true)
    (e3 : h'.get? f = some { o1 with data := .set es (ep + 1) { t with led := b1, plain := b2 } }) : SetS w h' f fs := by
  obtain ⟨o, es', ep', t', ho, hex, hd, g, pm0, nd, hb2, hf, hr, hl⟩ := R
  rw [e1] at ho
  obtain rfl := Option.some.inj ho
  rw [hd] at e2
  obtain ⟨rfl, rfl, rfl⟩ : es' = es ∧ ep' = ep ∧ t' = t := by injection e2 with a b c; exact ⟨a, b, c⟩
  exact ⟨_, es', ep' + 1, { t' with led := b1, plain := b2 }, e3, hex, rfl, g, pm0, nd, hb2, hf, hr, hb⟩
theorem walk_unseen {Q : Array (Int × Value) → Shared → Prop} {os : List Addr} (R : SetS w s.heap a ks) (Rf : SetS w s.heap f fs) (ne : a ≠ f) (Ro : ∀ b ∈ os, ∃ ks, SetS w s.heap b ks)
    (h : ∀ arr h' d, Got w arr ks → Heap.SameBut f s.heap h' → SetS w h' f fs → Q arr { s with heap := h', drawn := d }) : wpAny (model P w) A (setWalkUnseen a os (some f)) Q E s := by
  have R0 := R
  have Rf0 := Rf
  obtain ⟨o, es, ep, t, ho, hex, hd, g, pm0, nd, hb, hf, hr, hl⟩ := R
  obtain ⟨o2, es2, ep2, t2, ho2, hex2, hd2, g2, pm2, nd2, hb2, hf2, hr2, hl2⟩ := Rf
  have fall : wpAny (model P w) A (setWalk a) Q E s := walk_at R0 fun arr d G => h arr s.heap d G (Heap.SameBut.refl _ _) Rf0
  unfold setWalkUnseen
  refine wpAny_bind (wpAny_setState_of ho hd hf ?_)
  dsimp only
  refine wpAny_bind (wpAny_byText ?_)
  by_cases h1 : (w.params.followText "set-order" || t.led && t.plain || decide (es.size ≤ 1)) = true
  · refine wp_if_pos h1 ?_
    exact fall
  · refine wp_if_neg h1 ?_
    try refine wpAny_bind (wpAny_pure ?_)
    have hbt : ¬ w.params.followText "set-order" = true := fun z => h1 (by rw [z]; rfl)
    refine wpAny_bind (quiet_at (l := a :: os) (fun b hb => ?_) ?_)
    · rcases List.mem_cons.mp hb with rfl | hb
      · exact ⟨ks, R0⟩
      · exact Ro b hb
    · refine wp_if_neg (by simp) ?_
      try refine wpAny_bind (wpAny_pure ?_)
      refine wpAny_bind (wpAny_rule ?_)
      refine wpAny_bind (wpAny_setState_of ho2 hd2 hf2 ?_)
      dsimp only
      by_cases h2 : (t2.led && !t.led || t2.plain && !t.plain) = true
      · rw [if_pos h2]
        refine wpAny_bind (wpAny_storeSet_of ho2 hd2 ?_ (fits_of_scanBound hb2))
        refine wpAny_pure (h es _ s.drawn ⟨g, pm0⟩ (Heap.SameBut.update s.heap f _) ?_)
        exact SetS.mark Rf0 ho2 hd2 (.inr (by rw [hl.resolve_left hbt, hl2.resolve_left hbt]; rfl)) (store_at ho2 hd2)
      · rw [if_neg h2]
        try refine wpAny_bind (wpAny_pure ?_)
        exact wpAny_pure (h es s.heap s.drawn ⟨g, pm0⟩ (Heap.SameBut.refl _ _) Rf0)
theorem SetS.typeIs (P : Program) (R : SetS w s.heap a ks) : s.TypeIs (.ref a) "set" := (R.setOf (P := P)).typeIs
theorem SetS.perm {h : Heap} {ks' : List Str} (R : SetS w h a ks) (p : ks.Perm ks') : SetS w h a ks' := by
  obtain ⟨o, es, ep, t, ho, hex, hd, g, pm0, nd, hb, hf, hr, hl⟩ := R
  exact ⟨o, es, ep, t, ho, hex, hd, g, pm0.trans p, p.nodup_iff.mp nd, hb, hf, hr, hl⟩
theorem anySet {Q : Bool → Shared → Prop} (R : SetS w s.heap a ks) (h : Q true s) : wpAny (model P w) A (Builtin.Frozenset.isAnySet (.ref a)) Q E s := by
  unfold Builtin.Frozenset.isAnySet
  refine wpAny_bind (wpAny_isInstance (SetS.typeIs P R) PySem.F.sub_set_set ?_)
  exact wpAny_pure h
theorem base_at {Q : Value → Shared → Prop} (R : SetS w s.heap a ks) (h : Q (.type "set") s) : wpAny (model P w) A (Builtin.Frozenset.baseOf a) Q E s := by
  unfold Builtin.Frozenset.baseOf
  refine wpAny_bind (wpAny_isInstance (SetS.typeIs P R) PySem.F.sub_set_set ?_)
  exact wpAny_pure h
theorem size_at {Q : Nat → Shared → Prop} (R : SetS w s.heap a ks) (h : Q ks.length s) : wpAny (model P w) A (Builtin.Frozenset.sizeOf a) Q E s := by
  obtain ⟨o, es, ep, t, ho, hex, hd, g, pm0, nd, hb, hf, hr, hl⟩ := R
  have e : es.size = ks.length := by
    have h1 := pm0.length_eq
    rw [List.length_map, Array.length_toList] at h1
    exact h1
  unfold Builtin.Frozenset.sizeOf
  refine wpAny_bind (wpAny_setEntries_of ho hd hf ?_)
  rw [← e] at h
  exact wpAny_pure h
theorem epoch_at {Q : Nat → Shared → Prop} {ep : Nat} {o1 : Obj} {es : Array (Int × Value)} {t : SetTable} (ho : s.heap.get? a = some o1) (hd : o1.data = .set es ep t) (hf : t.fits es.size = true) (h : Q ep s) : wpAny (model P w) A (setEpoch a) Q E s := wpAny_setEpoch_of ho hd hf h
theorem unchanged_at {Q : Unit → Shared → Prop} {id : String} {ep : Nat} {o1 : Obj} {es : Array (Int × Value)} {t : SetTable} (ho : s.heap.get? a = some o1) (hd : o1.data = .set es ep t) (hf : t.fits es.size = true) (h : Q () s) : wpAny (model P w) A (Builtin.Frozenset.unchanged id a ep) Q E s := by
  unfold Builtin.Frozenset.unchanged
  refine wpAny_bind (epoch_at ho hd hf ?_)
  refine wp_if_neg (by simp) ?_
  exact wpAny_pure h
def kept (ls : List Str) (done : List (Int × Value)) : List Str := dd ((done.map fun e => kS e.2).filter fun x => decide (x ∉ ls))
theorem kept_in {ls : List Str} {done : List (Int × Value)} {e : Int × Value} (h : kS e.2 ∈ ls) : kept ls (done ++ [e]) = kept ls done := by
  unfold kept
  rw [List.map_append, List.filter_append]
  simp [h]
theorem kept_out {ls : List Str} {done : List (Int × Value)} {e : Int × Value} (h : kS e.2 ∉ ls) : kept ls (done ++ [e]) = once (kept ls done) (kS e.2) := by
  unfold kept
  rw [List.map_append, List.filter_append]
  simp only [List.map_cons, List.map_nil, List.filter_cons, h, not_false_eq_true, decide_true, if_true, List.filter_nil]
  unfold dd
  rw [List.foldl_append]
  rfl
theorem kept_len (ls : List Str) (done : List (Int × Value)) : (kept ls done).length ≤ done.length := by
  have h1 := dd_len ((done.map fun e => kS e.2).filter fun x => decide (x ∉ ls))
  have h2 := List.length_filter_le (fun x => decide (x ∉ ls)) (done.map fun e => kS e.2)
  rw [List.length_map] at h2
  unfold kept
  omega
/-- the plain road -/
theorem diff_at {Q : Value → Shared → Prop} {id : String} (R : SetS w s.heap a ks) (Ro : SetS w s.heap o ls) (small : ¬ ks.length / 4 > ls.length) (few : ks.length + 2 < scanBound)
    (h : ∀ h' d tk, (∀ b ob, s.heap.get? b = some ob → h'.get? b = some ob) → SetS w h' s.heap.objs.size (ks.filter fun x => decide (x ∉ ls)) → Q (.ref s.heap.objs.size) { s with heap := h', drawn := d, toks := tk }) :
    wpAny (model P w) A (Builtin.Frozenset.difference id a (.ref o)) Q E s := by
  unfold Builtin.Frozenset.difference
  refine wpAny_bind (anySet Ro ?_)
  refine wp_if_neg (by simp) ?_
  refine wpAny_bind (m := Builtin.Frozenset.addrOf (.ref o)) (wpAny_pure ?_)
  have c1 : ¬ (!true && o == sysModules) = true := by simp
  refine wp_if_neg c1 ?_
  refine wp_if_pos rfl ?_
  refine wpAny_bind (size_at Ro ?_)
  refine wpAny_bind (size_at R ?_)
  refine wp_if_neg small ?_
  refine wpAny_bind (base_at R ?_)
  refine wpAny_bind (PpSet.newSet_ok ?_)
  have hS : (s.heap.push (setObj0 w)).get? s.heap.objs.size = some (setObj0 w) := Heap.get?_push_size _ rfl
  have kp : ∀ b ob, s.heap.get? b = some ob → (s.heap.push (setObj0 w)).get? b = some ob := fun b ob e => Heap.get?_push_of_some _ e
  have lt : ∀ b ob, s.heap.get? b = some ob → b ≠ s.heap.objs.size := fun b ob e => Nat.ne_of_lt (Heap.lt_size e)
  refine wpAny_bind (m := Builtin.Frozenset.addrOf (.ref s.heap.objs.size)) (wpAny_pure ?_)
  have R2 := R
  obtain ⟨oa, esa, epa, ta, hoa, hexa, hda, ga, pma, nda, hba, hfa, hra, hla⟩ := R2
  refine wpAny_bind (epoch_at (s := { s with heap := s.heap.push (setObj0 w) }) (kp _ _ hoa) hda hfa ?_)
  refine wpAny_bind (wpAny_holding ?_)
  have S0 : SetS w (s.heap.push (setObj0 w)) s.heap.objs.size [] := setS_fresh hS
  have R1 : SetS w (s.heap.push (setObj0 w)) a ks := R.at fun ob e => kp _ _ e
  have Ro1 : SetS w (s.heap.push (setObj0 w)) o ls := Ro.at fun ob e => kp _ _ e
  have nea : a ≠ s.heap.objs.size := lt _ _ hoa
  have neo : o ≠ s.heap.objs.size := by
    obtain ⟨oo, _, _, _, hoo, _⟩ := Ro
    exact lt _ _ hoo
  refine wpAny_bind (wp_if_pos (c := true = true) rfl ?_)
  refine walk_unseen (s := { s with heap := s.heap.push (setObj0 w) }) R1 S0 nea (fun b hb => ?_) fun arr h1 d1 G sb1 S1 => ?_
  · rcases List.mem_cons.mp hb with rfl | hb
    · exact ⟨_, Ro1⟩
    · rw [List.mem_singleton.mp hb]
      exact ⟨_, S0⟩
  have keysN : (arr.toList.map fun e => kS e.2).Nodup := G.perm.nodup_iff.mpr nda
  refine wpAny_bind (wpAny_forIn_array' _ (fun rest b s' => ∃ h' done tk, s' = { s with heap := h', drawn := d1, toks := tk } ∧ done ++ rest = arr.toList ∧ Heap.SameBut s.heap.objs.size (s.heap.push (setObj0 w)) h' ∧ SetS w h' s.heap.objs.size (kept ls done)) _ (fun e rest b s' hI => ?_) (fun b s' hI => ?_) _ _ ⟨h1, [], s.toks, rfl, rfl, sb1, S1⟩)
  · obtain ⟨h', done, tk0, rfl, ed, sb, S⟩ := hI
    obtain ⟨i, v⟩ := e
    have me : (i, v) ∈ arr.toList := by rw [← ed]; exact List.mem_append_right _ List.mem_cons_self
    obtain ⟨x, tk, h4, h5, h6⟩ := (G.row _ me).str
    obtain rfl : v = Value.str x tk := h4
    obtain rfl : i = hashStr w x := h5
    have keep : ∀ c, c ≠ s.heap.objs.size → ∀ ob, s.heap.get? c = some ob → h'.get? c = some ob := fun c hc ob e => (sb.2 c hc).trans (kp _ _ e)
    have Ro2 : SetS w h' o ls := Ro.at fun ob e => keep _ neo ob e
    dsimp only
    have key : (PySem.strKind P w).is x (.str x tk) = true := strKind_is P w x tk
    refine wpAny_bind (wpAny_holding ?_)
    refine wp_if_pos (c := true = true) rfl ?_
    refine wpAny_bind (wpAny_setFind_of (knd := PySem.strKind P w) key rfl (Ro2.setOf (P := P)) fun r hr => ?_)
    refine wpAny_bind (wpAny_pure ?_)
    have small2 : (kept ls done).length + 1 < scanBound := by
      have h2 := kept_len ls done
      have h3 := congrArg List.length ed
      have h4 := G.perm.length_eq
      rw [List.length_append] at h3
      rw [List.length_map] at h4
      omega
    have ed2 : (done ++ [(hashStr w x, Value.str x tk)]) ++ rest = arr.toList := by rw [List.append_assoc]; exact ed
    have unch : ∀ {h2 : Heap} {tk2 : Nat} {Q' : Unit → Shared → Prop}, Heap.SameBut s.heap.objs.size (s.heap.push (setObj0 w)) h2 → Q' () { s with heap := h2, drawn := d1, toks := tk2 } → wpAny (model P w) A (Builtin.Frozenset.unchanged id a epa) Q' E { s with heap := h2, drawn := d1, toks := tk2 } := fun sb2 hq => unchanged_at (s := { s with heap := _, drawn := d1, toks := _ }) ((sb2.2 a nea).trans (kp _ _ hoa)) hda hfa hq
    by_cases hc : x ∈ ls
    · have e1 : r.isSome = true := by rw [hr]; exact decide_eq_true hc
      refine wp_if_neg (by rw [e1]; simp) ?_
      refine wpAny_pure (wpAny_bind (unch sb ?_))
      exact wpAny_pure ⟨h', _, tk0, rfl, ed2, sb, by rw [kept_in hc]; exact S⟩
    · have e1 : r.isSome = false := by rw [hr]; exact decide_eq_false hc
      refine wp_if_pos (by rw [e1]; rfl) ?_
      refine wpAny_bind (put_hashed (s := { s with heap := h', drawn := d1, toks := tk0 }) S small2 fun h2 b2 sb2 S2 => ?_)
      refine wpAny_pure (wpAny_bind (unch (sb.trans sb2) ?_))
      exact wpAny_pure ⟨h2, _, tk0, rfl, ed2, sb.trans sb2, by rw [kept_out hc]; exact S2⟩
  · obtain ⟨h', done, tk0, rfl, ed, sb, S⟩ := hI
    rw [List.append_nil] at ed
    subst ed
    refine wpAny_pure (wpAny_pure (h h' d1 tk0 (fun b ob e => (sb.2 b (lt _ _ e)).trans (kp _ _ e)) (SetS.perm S ?_)))
    unfold kept
    rw [dd_id (keysN.filter _)]
    exact G.perm.filter _
/-- a fresh table, laid wider -/
structure Emp (h : Heap) (w : World) (r : Addr) (ep : Nat) (t : SetTable) : Prop where
  at_ : ∃ ob, h.get? r = some ob ∧ ob.ExactSet ∧ ob.data = .set #[] ep t
  m : Sl.M2 t.mask
  pl : t.place = #[]
  dm : t.dummies = #[]
  led : t.led = !w.params.followText "set-order"
theorem room_at {Q : Unit → Shared → Prop} {r n : Nat} (h0 : s.heap.get? r = some (setObj0 w)) (hn : n ≤ 7) (h : ∀ h' ep t, Heap.SameBut r s.heap h' → Emp h' w r ep t → Q () { s with heap := h' }) : wpAny (model P w) A (setRoomFor r n) Q E s := by
  unfold setRoomFor
  have hd : (setObj0 w).data = .set #[] 0 (.fresh 0 0 (!w.params.followText "set-order")) := rfl
  refine wpAny_bind (wpAny_setState_of h0 hd rfl ?_)
  have e0 : (SetTable.fresh 0 0 (!w.params.followText "set-order")).roomFor n = if (0 + n) * 5 ≥ 7 * 3 then some ((0 + n) * 2) else none := rfl
  dsimp only
  rw [e0]
  by_cases h5 : (0 + n) * 5 ≥ 7 * 3
  · rw [if_pos h5]
    dsimp only
    have hs : SetTable.sizeAbove ((0 + n) * 2) = 16 := by
      have : n = 5 ∨ n = 6 ∨ n = 7 := by omega
      rcases this with rfl | rfl | rfl <;> decide +kernel
    obtain ⟨t', order, e, hp, p1, p2, p3, p4, p5, p6⟩ := Sl.laid_ok (m := 15) (.inr rfl) (hs := (#[] : Array Int)) (by decide) 0 (SetTable.movedTo (.fresh 0 0 (!w.params.followText "set-order")) 15) (!w.params.followText "set-order") true
    have er : (SetTable.fresh 0 0 (!w.params.followText "set-order")).relaid ((#[] : Array (Int × Value)).map (·.1)) ((0 + n) * 2) = some (t', order) := by
      unfold SetTable.relaid
      rw [hs, show (#[] : Array (Int × Value)).map (fun x => x.1) = #[] from Array.map_empty]
      exact e
    rw [setRelay_eq]
    refine wpAny_bind (wpAny_setState_of h0 hd rfl ?_)
    dsimp only
    refine wp_if_neg (by rw [hs, sizeLine_eq]; decide) ?_
    try refine wpAny_bind (wpAny_pure ?_)
    rw [er]
    dsimp only
    have hs2 : (order.filterMap ((#[] : Array (Int × Value))[·]?)).size = (#[] : Array (Int × Value)).size := by
      have h1 : order.toList = [] := by
        have := hp.length_eq
        exact List.eq_nil_of_length_eq_zero this
      have h2 : order = #[] := by rw [← Array.toArray_toList (xs := order), h1]
      rw [h2]
      rfl
    have hs3 : order.filterMap ((#[] : Array (Int × Value))[·]?) = #[] := Array.eq_empty_of_size_eq_zero hs2
    refine wpAny_bind ?_
    refine wp_if_neg (by rw [hs2]; simp) ?_
    try refine wpAny_bind (wpAny_pure ?_)
    refine wpAny_pure ?_
    dsimp only
    rw [hs3]
    refine wpAny_storeSet_of h0 hd ?_ (by decide)
    exact h _ 1 t' (Heap.SameBut.update ..) ⟨⟨_, store_at h0 hd, ⟨rfl, rfl, rfl⟩, rfl⟩, by rw [p4]; exact .inr rfl, Array.eq_empty_of_size_eq_zero p1, p3, p5⟩
  · rw [if_neg h5]
    dsimp only
    exact wpAny_pure (h s.heap 0 _ (Heap.SameBut.refl _ _) ⟨⟨_, h0, ⟨rfl, rfl, rfl⟩, hd⟩, .inl rfl, rfl, rfl, rfl⟩)
theorem order_perm {es : Array (Int × Value)} {order : Array Nat} (hp : order.toList.Perm (List.range es.size)) : (order.filterMap (es[·]?)).toList.Perm es.toList := by
  rw [Array.toList_filterMap]
  refine (hp.filterMap _).trans (List.Perm.of_eq ?_)
  refine List.ext_getElem? fun i => ?_
  have gen : (List.range es.size).filterMap (fun x => es[x]?) = es.toList := by
    have h : ∀ n, n ≤ es.size → (List.range n).filterMap (fun x => es[x]?) = es.toList.take n := by
      intro n
      induction n with
      | zero => intro _; rfl
      | succ n ih =>
        intro hn
        have e1 : es[n]? = some es[n] := Array.getElem?_eq_getElem hn
        rw [List.range_succ, List.filterMap_append, ih (by omega), List.take_add_one, Array.getElem?_toList, e1]
        simp [e1]
    rw [h es.size (Nat.le_refl _), ← Array.length_toList, List.take_length]
  rw [gen]
def NoDum (h : Heap) (a : Addr) : Prop := ∃ o es ep t, h.get? a = some o ∧ o.data = .set es ep t ∧ t.fits es.size = true ∧ t.dummies = #[]
theorem copy_at {Q : Value → Shared → Prop} (R : SetS w s.heap a ks) (h4 : 4 ≤ ks.length) (h7 : ks.length ≤ 7)
    (h : ∀ h', (∀ b ob, s.heap.get? b = some ob → h'.get? b = some ob) → SetS w h' s.heap.objs.size ks → NoDum h' s.heap.objs.size → Q (.ref s.heap.objs.size) { s with heap := h' }) :
    wpAny (model P w) A (Builtin.Frozenset.copyOf a) Q E s := by
  have R2 := R
  obtain ⟨oa, esa, epa, ta, hoa, hexa, hda, ga, pma, nda, hba, hfa, hra, hla⟩ := R2
  have zn : esa.size = ks.length := by
    have h1 := pma.length_eq
    rw [List.length_map, Array.length_toList] at h1
    exact h1
  unfold Builtin.Frozenset.copyOf
  refine wpAny_bind (base_at R ?_)
  refine wpAny_bind (PpSet.newSet_ok ?_)
  have hS : (s.heap.push (setObj0 w)).get? s.heap.objs.size = some (setObj0 w) := Heap.get?_push_size _ rfl
  have kp : ∀ b ob, s.heap.get? b = some ob → (s.heap.push (setObj0 w)).get? b = some ob := fun b ob e => Heap.get?_push_of_some _ e
  have lt : ∀ b ob, s.heap.get? b = some ob → b ≠ s.heap.objs.size := fun b ob e => Nat.ne_of_lt (Heap.lt_size e)
  refine wpAny_bind (m := Builtin.Frozenset.addrOf (.ref s.heap.objs.size)) (wpAny_pure ?_)
  refine wpAny_bind ?_
  unfold setMerge
  refine wp_if_neg (by rw [beq_iff_eq]; exact (lt _ _ hoa).symm) ?_
  try refine wpAny_bind (wpAny_pure ?_)
  refine wpAny_bind (wpAny_setState_of (s := { s with heap := s.heap.push (setObj0 w) }) (kp _ _ hoa) hda hfa ?_)
  dsimp only
  refine wp_if_neg (by rw [Array.isEmpty_iff_size_eq_zero]; omega) ?_
  try refine wpAny_bind (wpAny_pure ?_)
  refine wpAny_bind (room_at (s := { s with heap := s.heap.push (setObj0 w) }) hS (by omega) fun h1 ep1 t1 sb1 M => ?_)
  obtain ⟨⟨ob, e1, ex1, ed1⟩, mm, pl, dm, led⟩ := M
  have f1 : t1.fits (#[] : Array (Int × Value)).size = true := by
    unfold SetTable.fits SetTable.fill
    rw [pl, dm]
    simp
  refine wpAny_bind (wpAny_setState_of (s := { s with heap := h1 }) e1 ed1 f1 ?_)
  dsimp only
  have ldd : w.params.followText "set-order" = true ∨ (t1.led && ta.led) = true := by
    cases hb : w.params.followText "set-order" with
    | true => exact .inl rfl
    | false =>
      refine .inr ?_
      rw [led, hb, hla.resolve_left (by rw [hb]; exact Bool.false_ne_true)]
      rfl
  have fin : ∀ (es' : Array (Int × Value)) (t' : SetTable), es'.toList.Perm esa.toList → t'.fits es'.size = true → Ris t'.place.toList → t'.led = (t1.led && ta.led) → t'.dummies = #[] →
      wpAny (model P w) A (storeSet s.heap.objs.size es' t') (fun _ s' => wpAny (model P w) A (pure (Value.ref s.heap.objs.size)) Q E s') E { s with heap := h1 } := fun es' t' pm ft rs ld dm2 => by
    have z : es'.size = esa.size := by rw [← Array.length_toList, pm.length_eq, Array.length_toList]
    refine wpAny_storeSet_of (s := { s with heap := h1 }) e1 ed1 ?_ (by rw [z, sizeLine_eq]; omega)
    refine wpAny_pure (h _ (fun b ob2 e => ?_) ⟨_, es', ep1 + 1, t', store_at e1 ed1, ex1, rfl, fun e he => ga e (pm.mem_iff.mp he), (pm.map _).trans pma, nda, by rw [z]; exact hba, ft, rs, by rw [ld]; exact ldd⟩ ⟨_, es', ep1 + 1, t', store_at e1 ed1, rfl, ft, dm2⟩)
    have h2 := (Heap.SameBut.update h1 s.heap.objs.size (Obj.putSet es' t')).2 b (lt _ _ e)
    exact h2.trans ((sb1.2 b (lt _ _ e)).trans (kp _ _ e))
  have road : t1.road ta = if (t1.mask == ta.mask && ta.dummies.isEmpty) = true then .slotForSlot else .clean := by
    unfold SetTable.road
    rw [if_neg]
    unfold SetTable.fill
    rw [pl, dm]
    simp
  rw [road]
  by_cases hc : (t1.mask == ta.mask && ta.dummies.isEmpty) = true
  · rw [if_pos hc]
    dsimp only
    exact fin _ _ (List.Perm.refl _) (by exact hfa) hra rfl (by rw [Bool.and_eq_true] at hc; exact Array.isEmpty_iff.mp hc.2)
  · rw [if_neg hc]
    dsimp only
    obtain ⟨t', order, e, hp, p1, p2, p3, p4, p5, p6⟩ := Sl.laid_ok mm (hs := esa.map (·.1)) (by rw [Array.size_map]; omega) t1.finger t1.moves (t1.led && ta.led) (t1.plain && ta.plain)
    rw [Array.size_map] at hp p1
    have pm := order_perm hp
    have hs2 : (order.filterMap (esa[·]?)).size = esa.size := by rw [← Array.length_toList, pm.length_eq, Array.length_toList]
    show wpAny _ _ (do
      let (es, t) ← (do
        let some (t, order) := SetTable.laid t1.mask t1.finger t1.moves (t1.led && ta.led) (t1.plain && ta.plain) (esa.map (·.1)) | unsupported "internal:set-table-without-room"
        let es' := order.filterMap (esa[·]?)
        if es'.size != esa.size then unsupported "internal:set-table-lost-an-element"
        pure (es', t) : Sem (Array (Int × Value) × SetTable))
      storeSet s.heap.objs.size es t) _ _ _
    rw [e]
    dsimp only
    refine wpAny_bind ?_
    refine wp_if_neg (by rw [hs2]; simp) ?_
    try refine wpAny_bind (wpAny_pure ?_)
    refine wpAny_pure ?_
    dsimp only
    refine fin _ _ pm ?_ p2 p5 p3
    unfold SetTable.fits SetTable.fill
    rw [hs2, p1, p3, p4, Bool.and_eq_true, beq_iff_eq, decide_eq_true_eq]
    have : 7 ≤ t1.mask := by rcases mm with h | h <;> rw [h] <;> decide
    exact ⟨rfl, by show esa.size + 0 ≤ t1.mask; omega⟩
/-- the road by a copy, nothing to take away -/
theorem diff_none {Q : Value → Shared → Prop} {id : String} (R : SetS w s.heap a ks) (Ro : SetS w s.heap o []) (h4 : 4 ≤ ks.length) (h7 : ks.length ≤ 7)
    (h : ∀ h' d, (∀ b ob, s.heap.get? b = some ob → h'.get? b = some ob) → SetS w h' s.heap.objs.size ks → Q (.ref s.heap.objs.size) { s with heap := h', drawn := d }) :
    wpAny (model P w) A (Builtin.Frozenset.difference id a (.ref o)) Q E s := by
  unfold Builtin.Frozenset.difference
  refine wpAny_bind (anySet Ro ?_)
  refine wp_if_neg (by simp) ?_
  refine wpAny_bind (m := Builtin.Frozenset.addrOf (.ref o)) (wpAny_pure ?_)
  have c1 : ¬ (!true && o == sysModules) = true := by simp
  refine wp_if_neg c1 ?_
  refine wp_if_pos rfl ?_
  refine wpAny_bind (size_at Ro ?_)
  refine wpAny_bind (size_at R ?_)
  refine wp_if_pos (by show ks.length / 4 > 0; omega) ?_
  refine wpAny_bind (wpAny_rule ?_)
  refine wpAny_bind (copy_at R h4 h7 fun h1 k1 S1 D1 => ?_)
  refine wpAny_bind (m := Builtin.Frozenset.addrOf (.ref s.heap.objs.size)) (wpAny_pure ?_)
  have neo : o ≠ s.heap.objs.size := by
    obtain ⟨oo, _, _, _, hoo, _⟩ := Ro
    exact Nat.ne_of_lt (Heap.lt_size hoo)
  have Ro1 : SetS w h1 o [] := Ro.at fun ob e => k1 _ _ e
  refine wpAny_bind (wpAny_holding ?_)
  unfold Builtin.Frozenset.differenceUpdate
  refine wp_if_neg (by rw [beq_iff_eq]; intro z; injection z with z; exact neo z) ?_
  try refine wpAny_bind (wpAny_pure ?_)
  refine wpAny_bind (anySet (s := { s with heap := h1 }) Ro1 ?_)
  refine wp_if_pos rfl ?_
  refine wpAny_bind (m := Builtin.Frozenset.addrOf (.ref o)) (wpAny_pure ?_)
  refine wpAny_bind (size_at (s := { s with heap := h1 }) Ro1 ?_)
  refine wpAny_bind (size_at (s := { s with heap := h1 }) S1 ?_)
  refine wp_if_neg (by show ¬ (0 / 8 > ks.length); omega) ?_
  try refine wpAny_bind (wpAny_pure ?_)
  have Ro2 := Ro1
  obtain ⟨o2, es2, ep2, t2, ho2, hex2, hd2, g2, pm2, nd2, hb2, hf2, hr2, hl2⟩ := Ro2
  refine wpAny_bind (epoch_at (s := { s with heap := h1 }) ho2 hd2 hf2 ?_)
  refine wpAny_bind (wpAny_holding ?_)
  have z2 : es2.size = 0 := by
    have h1 := pm2.length_eq
    rw [List.length_map, Array.length_toList] at h1
    exact h1
  refine wpAny_bind ?_
  unfold setWalkUnseen
  refine wpAny_bind (wpAny_setState_of (s := { s with heap := h1 }) ho2 hd2 hf2 ?_)
  dsimp only
  refine wpAny_bind (wpAny_byText ?_)
  refine wp_if_pos (by rw [z2]; simp) ?_
  refine walk_at (s := { s with heap := h1 }) Ro1 fun arr d G => ?_
  have ea : arr.toList = [] := by
    have := G.perm.length_eq
    rw [List.length_map] at this
    exact List.eq_nil_of_length_eq_zero this
  refine wpAny_bind (wpAny_forIn_array' _ (fun rest b s' => rest = [] ∧ s' = { s with heap := h1, drawn := d }) _ (fun e rest b s' hI => ?_) (fun b s' hI => ?_) _ _ ⟨ea, rfl⟩)
  · cases hI.1
  · obtain ⟨_, rfl⟩ := hI
    refine wpAny_pure ?_
    obtain ⟨o3, es3, ep3, t3, e3, d3, f3, dm3⟩ := D1
    unfold setTidy
    refine wpAny_bind (wpAny_setState_of (s := { s with heap := h1, drawn := d }) e3 d3 f3 ?_)
    dsimp only
    refine wp_if_neg (by unfold SetTable.tooManyDummies; rw [dm3]; simp) ?_
    exact wpAny_pure (wpAny_pure (h h1 d k1 S1))
theorem entry_set_sub : entryFor table "set.__sub__" = some Builtin.«frozenset.__sub__» :=
  entryFor_alias (id' := "frozenset.__sub__") (by kernel_rfl) rfl (by decide +kernel) (by kernel_rfl)
/-- a - o, of two sets of texts -/
theorem sub_at {Q : Value → Shared → Prop} (R : SetS w s.heap a ks) (Ro : SetS w s.heap o ls) (few : ks.length ≤ 7)
    (h : ∀ h' d tk, (∀ b ob, s.heap.get? b = some ob → h'.get? b = some ob) → SetS w h' s.heap.objs.size (ks.filter fun x => decide (x ∉ ls)) → Q (.ref s.heap.objs.size) { s with heap := h', drawn := d, toks := tk }) :
    wpAny (model P w) A (binaryOp .Sub (.ref a) (.ref o)) Q E s := by
  have ta := SetS.typeIs P R
  have to := SetS.typeIs P Ro
  refine wpAny_binaryOp_same (op := .Sub) ta to PySem.F.fills_set_sub PySem.F.slot_set_sub (wpAny_call_entry PySem.F.slot_set_sub ta entry_set_sub ?_ (PySem.F.args_set_sub_2 _ _))
  show wpAny _ _ (do
    let (self, other) ← Builtin.Frozenset.slot1 "__sub__" ⟨[.ref a, .ref o], []⟩
    let (l, r) := if false = true then (other, self) else (self, other)
    if !(← Builtin.Frozenset.isAnySet l <&&> Builtin.Frozenset.isAnySet r) then rule s!"frozenset.{"__sub__"}.declined"; return ← ret .notImplemented
    ret (← Builtin.Frozenset.difference s!"frozenset.{"__sub__"}" (← Builtin.Frozenset.addrOf l) r)) _ _ _
  refine wpAny_bind (wpAny_of_eq (a := (Value.ref a, Value.ref o)) rfl ?_)
  have hc : ∀ Q' : Bool → Shared → Prop, Q' true s → wpAny (model P w) A.in1 (Builtin.Frozenset.isAnySet (.ref a) <&&> Builtin.Frozenset.isAnySet (.ref o)) Q' E s := fun Q' hq => wpAny_bind (anySet R (anySet (P := P) Ro hq))
  refine wpAny_bind (hc _ ?_)
  refine wp_if_neg (by simp) ?_
  try refine wpAny_bind (wpAny_pure ?_)
  have fin : ∀ h' d tk, (∀ b ob, s.heap.get? b = some ob → h'.get? b = some ob) → SetS w h' s.heap.objs.size (ks.filter fun x => decide (x ∉ ls)) →
      wpAny (model P w) A.in1 (ret (Value.ref s.heap.objs.size)) (fun fin s' => ∃ v, fin = Fin.done (Flow.ret v) ∧ v ≠ Value.notImplemented ∧ Q v s') E { s with heap := h', drawn := d, toks := tk } := fun h' d tk k S => wpAny_pure ⟨_, rfl, (fun z => by cases z), h h' d tk k S⟩
  by_cases hs : ks.length / 4 > ls.length
  · have e0 : ls = [] := List.eq_nil_of_length_eq_zero (by omega)
    subst e0
    have h4 : 4 ≤ ks.length := by
      have : 0 < ks.length / 4 := hs
      omega
    refine wpAny_bind (diff_none R Ro h4 few fun h' d k S => fin h' d s.toks k ?_)
    rw [List.filter_eq_self.mpr (by simp)]
    exact S
  · exact wpAny_bind (diff_at R Ro hs (by unfold scanBound; omega) fun h' d tk k S => fin h' d tk k S)
end
section
variable {X : Cx}
/-- a - b: sets of texts -/
def rSubTx (w : World) : R2 := fun x y H Q => ∃ a b ks ls, x = .ref a ∧ y = .ref b ∧ H a = some (Srx.SetTx w a ks) ∧ H b = some (Srx.SetTx w b ls) ∧ ks.length ≤ 7 ∧ ∀ p, H p = none → Q (.ref p) (upd H p (Srx.SetTx w p (ks.filter fun x => decide (x ∉ ls))))
theorem op_subTx : OpR X (binaryOp .Sub) (rSubTx X.w) := by
  intro pins s σ H x y v u Q I rx ry h
  obtain ⟨a, b, ks, ls, rfl, rfl, ha, hb, few, q⟩ := h
  obtain rfl : v = Value.ref a := rx
  obtain rfl : u = Value.ref b := ry
  refine sub_at (Srx.setTx_get I ha) (Srx.setTx_get I hb) few fun h' d tk k R => ?_
  have hn : H s.heap.objs.size = none := I.hok.fresh (Nat.le_refl _)
  refine ⟨.ref s.heap.objs.size, upd H s.heap.objs.size (Srx.SetTx X.w s.heap.objs.size (ks.filter fun x => decide (x ∉ ls))), ?_, rfl, q _ hn⟩
  exact I.call (g' := s.gens) (t' := tk) (d' := d) (ch := []) (Un.laid (o := Srx.SetTx X.w s.heap.objs.size (ks.filter fun x => decide (x ∉ ls))) k (Nat.le_refl _) hn) (I.hok.laid k (Nat.le_refl _) (Srx.setTx_new R)) I.bare (fun _ z => nomatch z)
end
end Sd
end
section
set_option maxHeartbeats 8000000
namespace K1
open PySem PySem.Spec PyProof.Rows L2 Gr GxR
def topS (i : Nat) : Stmt := PySem.Challenge.pw_meetrows_k12_what_is_refused.main.body.getD i (.Pass ⟨0, 0, 0, 0⟩)
abbrev s_wall_x : Stmt := topS 0
abbrev sIsName : Stmt := topS 11
abbrev sRising : Stmt := topS 12
abbrev sWithin : Stmt := topS 13
abbrev sMeets : Stmt := topS 14
abbrev sRanked : Stmt := topS 16
abbrev sLeast : Stmt := topS 17
abbrev sOnce : Stmt := topS 18
abbrev sRank : Stmt := topS 19
abbrev s_name_from : Stmt := topS 21
abbrev s_names_from : Stmt := topS 22
abbrev s_row_from : Stmt := topS 23
abbrev s_grown : Stmt := topS 25
abbrev m_init : Stmt := inClass (topS 29) 2
abbrev m_put : Stmt := inClass (topS 29) 3
abbrev m_take : Stmt := inClass (topS 29) 4
abbrev m_rows : Stmt := inClass (topS 29) 5
abbrev m_names : Stmt := inClass (topS 29) 6
abbrev m_least : Stmt := inClass (topS 29) 7
abbrev m_meets : Stmt := inClass (topS 29) 9
abbrev m_pared : Stmt := inClass (topS 29) 10
abbrev m_own : Stmt := inClass (topS 29) 11
abbrev m_least_rows : Stmt := inClass (topS 29) 12
abbrev m_struck : Stmt := inClass (topS 29) 15
abbrev m_without : Stmt := inClass (topS 29) 16
abbrev m_joined : Stmt := inClass (topS 29) 17
abbrev m_crossed : Stmt := inClass (topS 29) 18
abbrev m_sets : Stmt := inClass (topS 29) 19
abbrev m_met_by : Stmt := inClass (topS 29) 20
abbrev m_meeting : Stmt := inClass (topS 29) 21
abbrev m_first_own : Stmt := inClass (topS 29) 22
abbrev s_book_of : Stmt := topS 30
abbrev sDraw : Stmt := topS 32
abbrev s_law_words_x : Stmt := topS 33
abbrev s_law_call_x : Stmt := topS 34
abbrev s_law_odd_x : Stmt := topS 35
abbrev s_law_list_x : Stmt := topS 36
abbrev s_law_is_name_x : Stmt := topS 37
abbrev s_law_due_x : Stmt := topS 38
abbrev s_law_both_x : Stmt := topS 39
abbrev s_law_x : Stmt := topS 40
end K1
namespace K1
open PySem PySem.Spec PyProof.Rows L2 Gr GxR
section
variable {P : Program} {w : World} {K : PySem.W.Frag} {mg : Str → Option Value} {base : Heap} {f : Addr} {fd : FuncData}
theorem scDraw : FnScope ["_law_script", "_law_k"] ["_law_script", "_law_k"] (defScope sDraw) := ⟨rfl, rfl, rfl, by decide +kernel, rfl, by decide +kernel, by decide +kernel⟩
theorem ok_draw (F : FnP K "_law_draw" sDraw f fd) (gL : mg "len" = none) : FnOk P w K mg base CX0 1 f fd ["_law_script", "_law_k"] (spDraw K) := by
  refine F.ok scDraw (fun vs H Q E h => ?_) (fun cdv A outer s H vs Q E hr h => ?_)
  · obtain ⟨a, ns, k, rfl, _⟩ := h
    rfl
  · obtain ⟨a, ns, k, rfl, hS, q⟩ := h
    refine ⟨_, PSs.nox (pss_one (ps_ret (pe_ifExp (pt_cmpR op_gt (pe_callB call_len_seq (by rfl) gL boot_len (pa_cons (pv 0) pa_nil)) (pv 1) (nomark _)) (pe_ix ix_list (pv 0) (pv 1) (fun _ _ => rfl)) pe_int))), ?_⟩
    refine ⟨_, rfl, a, _, rfl, .inl hS, _, rfl, _, _, rfl, rfl, _, rfl, ?_⟩
    rw [List.length_map]
    by_cases hk : k < ns.length
    · rw [decide_eq_true (show (k : Int) < (ns.length : Int) by omega)]
      refine iteT ⟨_, rfl, _, rfl, a, _, _, _, rfl, rfl, hS, atI_nat (v := .int ns[k]) (by rw [List.getElem?_map, List.getElem?_eq_getElem hk]; rfl), ?_⟩
      have e : ns.getD k 0 = ns[k] := by rw [List.getD_eq_getElem?_getD, List.getElem?_eq_getElem hk]; rfl
      rw [e] at q
      exact q
    · rw [decide_eq_false (show ¬ (k : Int) < (ns.length : Int) by omega)]
      refine iteF ?_
      have e : ns.getD k 0 = 0 := by rw [List.getD_eq_getElem?_getD, List.getElem?_eq_none (by omega)]; rfl
      rw [e] at q
      exact q
theorem scRank : FnScope ["one"] ["one"] (defScope sRank) := ⟨rfl, rfl, rfl, by decide +kernel, rfl, by decide +kernel, by decide +kernel⟩
theorem ok_rank (F : FnP K "_rank" sRank f fd) (gL : mg "len" = none) : FnOk P w K mg base CX0 1 f fd ["one"] (spRank K) := by
  refine F.ok scRank (fun vs H Q E h => ?_) (fun cdv A outer s H vs Q E hr h => ?_)
  · obtain ⟨a, xs, rfl, _⟩ := h
    rfl
  · obtain ⟨a, xs, rfl, hS, q⟩ := h
    refine ⟨_, PSs.nox (pss_one (ps_ret (pe_tup (pa_cons (pe_callB call_len_seq (by rfl) gL boot_len (pa_cons (pv 0) pa_nil)) (pa_cons (pv 0) pa_nil))))), ?_⟩
    refine ⟨_, rfl, a, _, rfl, .inl hS, _, rfl, (by show 2 ≤ sizeLine; decide), fun t ht => ?_⟩
    refine q _ _ (Gr.new ht) ?_
    rw [List.length_map]
    exact .tup (.inl (.inl upd_same)) (.cons (.int _) (.cons (.lst ((Gr.new ht).seq hS) (dp_strs xs)) .nil))
end
end K1
namespace K1
open PySem PySem.Spec PyProof.Rows L2 Gr GxR Srx
section
variable {P : Program} {w : World} {K : PySem.W.Frag} {mg : Str → Option Value} {base : Heap} {f : Addr} {fd : FuncData} {p : He.Defn}
theorem scWithin : FnScope ["one", "other", "name"] ["one", "other"] (defScope sWithin) := ⟨rfl, rfl, rfl, by decide +kernel, rfl, by decide +kernel, by decide +kernel⟩
theorem blkWithin : BlkOk ["one", "other", "name"] (defScope sWithin) (gexp sWithin) [("name", 2)] := blkOk_by (by decide +kernel)
theorem gxsWithin : Gx.GxS (gexp sWithin) := Gx.gxs_by (by decide +kernel)
theorem ok_within (F : FunD K "within" "within" (defArgs sWithin) (defBody sWithin) (defScope sWithin) [] [] (He.fAd K p) fd) (T : Tb K base mg p) (gA : mg "all" = none) : FnOk P w K mg base CX0 1 (He.fAd K p) fd ["one", "other"] (spWithin K (He.cT K p).2) := by
  refine okC F scWithin (fun vs H Q E h => ?_) (fun A outer s H vs Q E hr h => ?_)
  · obtain ⟨a, b, xs, ys, rfl, _⟩ := h
    rfl
  · obtain ⟨a, b, xs, ys, rfl, hA, hB, hT, q⟩ := h
    refine ⟨_, PSs.nox (pss_one (ps_ret (Gx.pe_all (own := [("name", 2)]) (gt := gName 2) (tt := tYes) hr rfl scWithin.nd (by rfl) gA T rfl blkWithin gxsWithin (pi_list (pv 0))
      (fun _ _ _ _ _ _ => pg_name (i := 2) scWithin.nd rfl (.inl rfl)) (fun _ _ _ _ _ _ => pts_nil) (fun _ _ _ _ _ _ => pe_cmpR (r := rIn K false) op_in_seq (pv 2) (pv 1) rfl)))), ?_⟩
    refine ⟨_, rfl, a, rfl, ⟨_, hA⟩, Gx.gx_list (xs := xs.map V.str) hT (fun i H' => Gr H H' ∧ (xs.take i).all ys.contains = true) (fun H2 t2 => ⟨Gr.tabbed hT t2, rfl⟩) (fun i H' _ h => h.1.seq hA) (fun i x H' Nx nx hx h => ?_) (fun H' h => ?_)⟩
    · obtain ⟨g, hn⟩ := h
      obtain ⟨y, hy, rfl⟩ := get_map hx
      refine ⟨rfl, yesIf ?_⟩
      refine ⟨_, rfl, _, rfl, b, _, rfl, .inl (g.seq hB), rfl, flat_str ys, _, rfl, fun e => ?_, fun e => nx _ ⟨g, ?_⟩⟩
      · rw [inV_str] at e
        have z := q H' g
        rw [show xs.all ys.contains = false from List.all_eq_false.mpr ⟨y, List.mem_of_getElem? hy, by rw [show ys.contains y = false from e]; exact Bool.false_ne_true⟩] at z
        exact z
      · rw [inV_str] at e
        rw [all_at hy, hn, show ys.contains y = true by simpa using e]
        rfl
    · have z := q H' h.1
      have hn := h.2
      rw [List.length_map, List.take_length] at hn
      rw [hn] at z
      exact z
theorem scMeets : FnScope ["one", "other", "name"] ["one", "other"] (defScope sMeets) := ⟨rfl, rfl, rfl, by decide +kernel, rfl, by decide +kernel, by decide +kernel⟩
theorem blkMeets : BlkOk ["one", "other", "name"] (defScope sMeets) (gexp sMeets) [("name", 2)] := blkOk_by (by decide +kernel)
theorem gxsMeets : Gx.GxS (gexp sMeets) := Gx.gxs_by (by decide +kernel)
theorem ok_meets (F : FunD K "meets" "meets" (defArgs sMeets) (defBody sMeets) (defScope sMeets) [] [] (He.fAd K p) fd) (T : Tb K base mg p) (gA : mg "any" = none) : FnOk P w K mg base CX0 1 (He.fAd K p) fd ["one", "other"] (spMeets K (He.cT K p).2) := by
  refine okC F scMeets (fun vs H Q E h => ?_) (fun A outer s H vs Q E hr h => ?_)
  · obtain ⟨a, b, xs, ys, rfl, _⟩ := h
    rfl
  · obtain ⟨a, b, xs, ys, rfl, hA, hB, hT, q⟩ := h
    refine ⟨_, PSs.nox (pss_one (ps_ret (Gx.pe_any (own := [("name", 2)]) (gt := gName 2) (tt := tYes) hr rfl scMeets.nd (by rfl) gA T rfl blkMeets gxsMeets (pi_list (pv 0))
      (fun _ _ _ _ _ _ => pg_name (i := 2) scMeets.nd rfl (.inl rfl)) (fun _ _ _ _ _ _ => pts_nil) (fun _ _ _ _ _ _ => pe_cmpR (r := rIn K false) op_in_seq (pv 2) (pv 1) rfl)))), ?_⟩
    refine ⟨_, rfl, a, rfl, ⟨_, hA⟩, Gx.gx_list (xs := xs.map V.str) hT (fun i H' => Gr H H' ∧ (xs.take i).any ys.contains = false) (fun H2 t2 => ⟨Gr.tabbed hT t2, rfl⟩) (fun i H' _ h => h.1.seq hA) (fun i x H' Nx nx hx h => ?_) (fun H' h => ?_)⟩
    · obtain ⟨g, hn⟩ := h
      obtain ⟨y, hy, rfl⟩ := get_map hx
      refine ⟨rfl, yesIf ?_⟩
      refine ⟨_, rfl, _, rfl, b, _, rfl, .inl (g.seq hB), rfl, flat_str ys, _, rfl, fun e => ?_, fun e => nx _ ⟨g, ?_⟩⟩
      · rw [inV_str] at e
        have z := q H' g
        rw [show xs.any ys.contains = true from List.any_eq_true.mpr ⟨y, List.mem_of_getElem? hy, e⟩] at z
        exact z
      · rw [inV_str] at e
        rw [any_at hy, hn, show ys.contains y = false by simpa using e]
        rfl
    · have z := q H' h.1
      have hn := h.2
      rw [List.length_map, List.take_length] at hn
      rw [hn] at z
      exact z
theorem scOnce : FnScope ["names"] ["names"] (defScope sOnce) := ⟨rfl, rfl, rfl, by decide +kernel, rfl, by decide +kernel, by decide +kernel⟩
theorem ok_once (F : FnP K "_once_each" sOnce f fd) (gS : mg "sorted" = none) (gT : mg "set" = none) : FnOk P w K mg base CX0 1 f fd ["names"] (spOnce K) := by
  refine F.ok scOnce (fun vs H Q E h => ?_) (fun cdv A outer s H vs Q E hr h => ?_)
  · obtain ⟨a, xs, rfl, _⟩ := h
    rfl
  · obtain ⟨a, xs, rfl, hA, few, q⟩ := h
    refine ⟨_, PSs.nox (pss_one (ps_ret (pe_callB (Srx.cr_sortedTx rfl (hu64 hr)) (by rfl) gS boot_sorted (pa_cons (pe_callTy (Srx.cr_setTx rfl) (by rfl) gT boot_set (pa_cons (pv 0) pa_nil)) pa_nil)))), ?_⟩
    refine ⟨_, rfl, a, xs, rfl, hA, few, fun b nb => ?_⟩
    refine ⟨b, Sx.dd xs, rfl, upd_same, fun p np => ?_⟩
    have g : Gr H (upd (upd H b (Srx.SetTx w b (Sx.dd xs))) p (.lst ((srt (Sx.dd xs)).map V.str))) := (Gr.new nb).trans (Gr.new np)
    exact q p _ g ((Gr.new nb).free np) upd_same
end
end K1
namespace K1
open PySem PySem.Spec PyProof.Rows L2 Gr GxR Srx
section
variable {P : Program} {w : World} {K : PySem.W.Frag} {mg : Str → Option Value} {base : Heap} {f : Addr} {fd : FuncData} {p : He.Defn}
theorem scIsName : FnScope ["thing", "letter"] ["thing"] (defScope sIsName) := ⟨rfl, rfl, rfl, by decide +kernel, rfl, by decide +kernel, by decide +kernel⟩
theorem blkIsName : BlkOk ["thing", "letter"] (defScope sIsName) (gexp2 sIsName) [("letter", 1)] := blkOk_by (by decide +kernel)
theorem gxsIsName : Gx.GxS (gexp2 sIsName) := Gx.gxs_by (by decide +kernel)
theorem ok_isname (F : FunD K "is_name" "is_name" (defArgs sIsName) (defBody sIsName) (defScope sIsName) [] [] (He.fAd K p) fd) (T : Tb K base mg p) (gA : mg "all" = none) (gI : mg "isinstance" = none) (gS : mg "str" = none) (gL : mg "len" = none) (gM : ∃ t, mg "MOST_LETTERS" = some (.int 8 t)) :
    FnOk P w K mg base CX0 1 (He.fAd K p) fd ["thing"] (spIsName K (He.cT K p).2) := by
  obtain ⟨tM, gM⟩ := gM
  refine okC F scIsName (fun vs H Q E h => ?_) (fun A outer s H vs Q E hr h => ?_)
  · obtain ⟨v, rfl, _⟩ := h
    rfl
  · obtain ⟨v, rfl, hv, hT, q⟩ := h
    refine ⟨_, PSs.nox (pss_cons (ps_if (PW.pt (pw_or (pt_not (pt_val (pe_callB call_isi (by rfl) gI (by decide +kernel) (pa_cons (pv 0) (pa_cons (pe_bltn (v := .ty "str") (by rfl) gS (by decide +kernel) rfl) pa_nil)))))
        (pw_or1 (pt_not (pt_chain op_le op_le pe_int (pe_callB call_len_str (by rfl) gL boot_len (pa_cons (pv 0) pa_nil)) (pe_glob (v := .int 8) (by rfl) gM ⟨_, rfl⟩)))))) (pss_one (ps_ret pe_bl)) pss_nil)
      (pss_one (ps_ret (Gx.pe_all (own := [("letter", 1)]) (gt := gName 1) (tt := tYes) hr rfl scIsName.nd (by rfl) gA T rfl blkIsName gxsIsName (pi_str (pv 0))
      (fun _ _ _ _ _ _ => pg_name (i := 1) scIsName.nd rfl (.inl rfl)) (fun _ _ _ _ _ _ => pts_nil) (fun _ _ _ _ _ _ => pe_chain op_le_str op_le_str pe_str (pv 1) pe_str))))), ?_⟩
    obtain ⟨t, ty, kt, hl⟩ := hv
    refine ⟨v, rfl, _, _, _, _, _, rfl, .ty _, ty, kit_ty kt, _, rfl, ?_⟩
    cases v with
    | str x =>
      refine iteF ?_
      refine ⟨V.str x, rfl, x, rfl, hl x rfl, 1, _, rfl, rfl, _, rfl, ?_⟩
      by_cases h1 : (1 : Int) ≤ x.length
      · rw [decide_eq_true h1]
        refine iteT ⟨_, _, rfl, rfl, ?_⟩
        refine ⟨decide ((x.length : Int) ≤ 8), rfl, ?_⟩
        by_cases h8 : (x.length : Int) ≤ 8
        · rw [decide_eq_true h8]
          refine iteF ?_
          refine ⟨_, rfl, x, rfl, Gx.gx_text hT (fun i H' => Gr H H' ∧ (x.cps.toList.take i).all small = true) (fun H2 t2 => ⟨Gr.tabbed hT t2, rfl⟩) (fun i c H' Nx nx hc h => ?_) (fun H' h => ?_)⟩
          · obtain ⟨g, hn⟩ := h
            refine ⟨rfl, yesIf ?_⟩
            have e1 : (!decide ((⟨#[c]⟩ : Str).cps.toList < (Str.ofString "a").cps.toList)) = decide (97 ≤ c) := by
              show (!decide ([c] < [97])) = _
              rw [decide_eq_decide.mpr (lt_one c 97)]
              by_cases z : 97 ≤ c
              · rw [decide_eq_true z, decide_eq_false (by omega)]; rfl
              · rw [decide_eq_false z, decide_eq_true (by omega)]; rfl
            have e2 : (!decide ((Str.ofString "z").cps.toList < (⟨#[c]⟩ : Str).cps.toList)) = decide (c ≤ 122) := by
              show (!decide ([122] < [c])) = _
              rw [decide_eq_decide.mpr (lt_one 122 c)]
              by_cases z : c ≤ 122
              · rw [decide_eq_true z, decide_eq_false (by omega)]; rfl
              · rw [decide_eq_false z, decide_eq_true (by omega)]; rfl
            have bad : small c = false → Q (.bl false) H' := by
              intro z
              have hq := q H' g
              rw [show nmV (V.str x) = false by
                show isNm x = false
                unfold isNm
                rw [show x.cps.toList.all small = false from List.all_eq_false.mpr ⟨c, List.mem_of_getElem? hc, by rw [z]; exact Bool.false_ne_true⟩]
                simp] at hq
              exact hq
            refine ⟨_, rfl, _, _, rfl, rfl, _, rfl, ?_⟩
            rw [e1]
            by_cases z1 : 97 ≤ c
            · rw [decide_eq_true z1]
              refine iteT ⟨_, _, rfl, rfl, _, rfl, fun e => bad ?_, fun e => nx _ ⟨g, ?_⟩⟩
              · rw [e2] at e
                unfold small
                rw [e, Bool.and_false]
              · rw [e2] at e
                have e : decide (c ≤ 122) = true := by simpa using e
                rw [List.take_add_one, hc, List.all_append, hn]
                show (true && ([c].all small)) = true
                rw [List.all_cons, List.all_nil]
                unfold small
                rw [decide_eq_true z1, e]
                rfl
            · rw [decide_eq_false z1]
              refine iteF ⟨_, rfl, fun _ => bad ?_, fun e => absurd rfl e⟩
              unfold small
              rw [decide_eq_false z1, Bool.false_and]
          · have hq := q H' h.1
            have hn := h.2
            rw [List.take_length] at hn
            rw [show nmV (V.str x) = true by
              show isNm x = true
              unfold isNm
              rw [hn, decide_eq_true (show 1 ≤ x.length by omega), decide_eq_true (show x.length ≤ 8 by omega)]
              rfl] at hq
            exact hq
        · rw [decide_eq_false h8]
          refine iteT ?_
          have hq := q H (Gr.refl H)
          rw [show nmV (V.str x) = false by
            show isNm x = false
            unfold isNm
            rw [decide_eq_false (show ¬ x.length ≤ 8 by omega)]
            simp] at hq
          exact hq
      · rw [decide_eq_false h1]
        refine iteF ⟨false, rfl, ?_⟩
        refine iteT ?_
        have hq := q H (Gr.refl H)
        rw [show nmV (V.str x) = false by
          show isNm x = false
          unfold isNm
          rw [decide_eq_false (show ¬ 1 ≤ x.length by omega)]
          simp] at hq
        exact hq
    | _ => exact q H (Gr.refl H)
end
end K1
namespace K1
open PySem PySem.Spec PyProof.Rows L2 Gr GxR Srx Skx
open PySem.W (dataLe dataLt DatumOrd Datum)
section
variable {P : Program} {w : World} {K : PySem.W.Frag} {mg : Str → Option Value} {base : Heap} {f fR : Addr} {fd fdR : FuncData} {p : He.Defn}
theorem scRanked : FnScope ["sets", "one"] ["sets"] (defScope sRanked) := ⟨rfl, rfl, rfl, by decide +kernel, rfl, by decide +kernel, by decide +kernel⟩
theorem ok_ranked (F : FnP K "ranked" sRanked f fd) (FR : FnP K "_rank" sRank fR fdR) (gR : mg "_rank" = some (.ref fR)) (gS : mg "sorted" = none) (gLi : mg "list" = none) (gL : mg "len" = none) : FnOk P w K mg base CX0 4 f fd ["sets"] (spRanked K) := by
  have GR : FnOk P w K mg base CX0 1 fR fdR ["one"] (spRank K) := ok_rank FR gL
  have bR : Binds K fdR ["one"] [] := FR.bindsN fun _ _ _ _ _ _ us hl => match us, hl with | [_], _ => rfl
  refine F.ok scRanked (fun vs H Q E h => ?_) (fun cdv A outer s H vs Q E hr h => ?_)
  · obtain ⟨a, ps0, rfl, _⟩ := h
    rfl
  · obtain ⟨a, ps0, rfl, hA, hin, few, q⟩ := h
    refine ⟨_, PSs.nox (pss_one (ps_ret (pe_callBK (ks := ["key"]) (cr_sortedKey ordRk GR bR hr) (by rfl) gS boot_sorted
      (pa_cons (pe_lc (own := [("one", 1)]) (g := gName 1) (tt := tYes) rfl scRanked.nd (pi_list (pv 0)) (blkOk_by (N := ["sets", "one"]) (sc := defScope sRanked) (by decide +kernel)) (fun _ _ _ _ _ => pg_name (i := 1) scRanked.nd rfl (.inl rfl)) (fun _ _ _ _ _ => pts_nil)
        (fun _ _ _ _ _ => pe_callTy (r := rListOf K) call_list_of (by rfl) gLi boot_list (pa_cons (pv 1) pa_nil))) pa_nil)
      (pk_cons (pe_glob (v := .ref fR) (by rfl) gR rfl) pk_nil)))), ?_⟩
    refine ⟨_, rfl, a, rfl, ⟨_, hA⟩, fun D hD => lc_fresh (fun x => x) hA few (Gr.refl H) hD (fun v => rfl) (fun q0 hq0 H4 Q' g4 h4 => ?_) fun H2 ps g2 T e => ?_⟩
    · refine ⟨_, rfl, q0.1, q0.2.map V.str, rfl, (hin q0 hq0).gr g4, h4⟩
    · refine ⟨D, ps.map fun q => (V.ref q.1, q.2), rfl, rfl, ?_, fun b hb => ?_, fun H3 r g3 hr3 => ?_⟩
      · rw [List.map_map]
        exact .inl (.inl T.at_)
      · obtain ⟨q0, hq0, rfl⟩ := List.mem_map.mp hb
        intro H3 g3 Q' hQ
        exact ⟨q0.1, q0.2, rfl, .inl (.inl (g3.lst (T.own q0 hq0).2.2)), fun v H' g' d => hQ v H' g' d⟩
      · have eq1 : (ps.map fun q => (V.ref q.1, q.2)).mergeSort (dataLe false fun b => rk b.2) = (ps.mergeSort fun a b => leR a.2 b.2).map fun q => (V.ref q.1, q.2) := by
          rw [List.map_mergeSort]
          intro a _ b _
          rfl
        have eq2 : (ps.mergeSort fun a b => leR a.2 b.2).map (·.2) = rkd (ps.map (·.2)) := by
          unfold rkd
          rw [List.map_mergeSort]
          intro a _ b _
          rfl
        rw [eq1, List.map_map]
        have T3 := T.gr g3
        have pm : (ps.mergeSort fun a b => leR a.2 b.2).Perm ps := List.mergeSort_perm _ _
        refine q r _ (ps.mergeSort fun a b => leR a.2 b.2) (g2.trans g3 |>.mut ?_) ⟨?_, upd_same, fun q0 hq0 => ?_, ?_⟩ ?_
        · exact (g2.trans g3).free hr3
        · exact (g2.trans g3).free hr3
        · obtain ⟨h1, h2, h3⟩ := T3.own q0 (pm.mem_iff.mp hq0)
          have nr : q0.1 ≠ r := ne_of_none h3 hr3
          refine ⟨h1, nr, ?_⟩
          rw [upd_ne nr]
          exact h3
        · exact ((pm.map (·.1)).nodup_iff).mpr T.nd
        · rw [eq2, e]
end
end K1
namespace K1
open PySem PySem.Spec PyProof.Rows L2 Gr GxR Srx Skx Dcx
section
variable {P : Program} {w : World} {K : PySem.W.Frag} {mg : Str → Option Value} {base : Heap} {f fR fO : Addr} {fd fdR fdO fdW : FuncData} {p pW : He.Defn}
abbrev nLeast : List Str := ["sets", "once", "kept", "one", "least"]
theorem scLeast : FnScope nLeast ["sets"] (defScope sLeast) := ⟨rfl, rfl, rfl, by decide +kernel, rfl, by decide +kernel, by decide +kernel⟩
theorem ok_least (F : FunD K "least_of" "least_of" (defArgs sLeast) (defBody sLeast) (defScope sLeast) [] [] (He.fAd K p) fd) (T : Tb K base mg p) (GR : FnOk P w K mg base CX0 4 fR fdR ["sets"] (spRanked K)) (bR : Binds K fdR ["sets"] []) (kR : PySem.W.keepIn K (.ref fR) = true) (gR : mg "ranked" = some (.ref fR))
    (GO : FnOk P w K mg base CX0 1 fO fdO ["names"] (spOnce K)) (bO : Binds K fdO ["names"] []) (kO : PySem.W.keepIn K (.ref fO) = true) (gO : mg "_once_each" = some (.ref fO))
    (GW : FnOk P w K mg base CX0 1 (He.fAd K pW) fdW ["one", "other"] (spWithin K (He.cT K pW).2)) (bW : Binds K fdW ["one", "other"] []) (kW : PySem.W.keepIn K (.ref (He.fAd K pW)) = true) (gW : mg "within" = some (.ref (He.fAd K pW)))
    (gA : mg "any" = none) (gT : mg "tuple" = none) (gLi : mg "list" = none) : FnOk P w K mg base CX0 5 (He.fAd K p) fd ["sets"] (spLeast K (He.cT K p).2 (He.cT K pW).2) := by
  refine okC F scLeast (fun vs H Q E h => ?_) (fun A outer s H vs Q E hr h => ?_)
  · obtain ⟨a, ps0, rfl, _⟩ := h
    rfl
  · obtain ⟨a, ps0, rfl, hA, hin, few, hT, hT2, q⟩ := h
    refine ⟨_, PSs.nox (pss_cons (ps_setDt (i := 1) (own := [("one", 3)]) (g := gName 3) (tt := tYes) (hu_of hr) rfl scLeast.nd rfl rfl (swd_true rfl rfl rfl (by decide +kernel)) (pi_list (pv 0)) (blkOk_by (N := nLeast) (sc := defScope sLeast) (by decide +kernel))
        (fun _ _ _ _ _ => pg_name (i := 3) scLeast.nd rfl (.inl rfl)) (fun _ _ _ _ _ => pts_nil)
        (fun _ _ _ _ _ => pe_callTy (r := rTupOf K) call_tuple_of (by rfl) gT boot_tuple (pa_cons (pe_call GO (hr.mono (by decide)) (by rfl) gO kO bO .nil pass0 (pa_cons (pv 3) pa_nil)) pa_nil)) (fun _ _ _ _ _ => pe_bl))
      (pss_cons (ps_set (i := 2) scLeast.nd rfl (.inl rfl) (pe_lst pa_nil))
      (pss_cons (ps_for PassesOwn.never rfl (pi_list (pe_call GR hr (by rfl) gR kR bR .nil pass0 (pa_cons (pe_callTy (call_list_dT rfl) (by rfl) gLi boot_list (pa_cons (pv 1) pa_nil)) pa_nil))) (pg_name (i := 3) scLeast.nd rfl (.inr rfl))
        (pss_one (ps_if (pt_not (pt_val (Gx.pe_any (own := [("least", 4)]) (gt := gName 4) (tt := tYes) hr rfl scLeast.nd (by rfl) gA T rfl (blkOk_by (N := nLeast) (sc := defScope sLeast) (by decide +kernel)) (Gx.gxs_by (by decide +kernel)) (pi_list (pv 2))
            (fun _ _ _ _ _ _ => pg_name (i := 4) scLeast.nd rfl (.inl rfl)) (fun _ _ _ _ _ _ => pts_nil) (fun _ _ _ _ _ _ => pe_call GW ((Gx.room_gx hr _).mono (by decide)) (by rfl) gW kW bW .nil pass0 (pa_cons (pv 4) (pa_cons (pv 3) pa_nil))))))
          (pss_one (ps_expr (pe_bm PySem.F.plainAttrs_list PySem.F.slot_list_append PySem.F.type_list_append mt_append (pv 2) (pa_cons (pv 3) pa_nil)))) pss_nil)))
      (pss_one (ps_ret (pv 2)))))), ?_⟩
    refine ⟨_, rfl, a, rfl, ⟨_, hA⟩, fun D hD => dt_list (K := K) (xs := ps0.map fun q : Addr × List Str => V.ref q.1) (fun i H2 => Gr H H2 ∧ H2 D = some (.dT (kvT (ddG (((ps0.take i).map (·.2)).map once))))) ⟨Gr.new hD, upd_same⟩ (fun i H2 _ h => h.1.seq hA) (fun i x H2 Nx nx hx h => ?_) (fun H2 h => ?_)⟩
    · obtain ⟨g2, eD⟩ := h
      obtain ⟨q0, hq0, rfl⟩ := get_map hx
      obtain ⟨hl, hz⟩ := hin q0 (List.mem_of_getElem? hq0)
      refine ⟨rfl, yesIf ?_⟩
      refine ⟨_, rfl, q0.1, q0.2, rfl, g2.seq hl, hz, fun o H3 g3 no eo => ?_⟩
      refine ⟨o, (once q0.2).map V.str, rfl, .inl ⟨.inl (.inl eo), fun t ht => ?_⟩⟩
      have eD3 : H3 D = some (.dT (kvT (ddG (((ps0.take i).map (·.2)).map once)))) := g3.at_ _ _ eD (fun _ z => nomatch z)
      refine ⟨kvT (ddG (((ps0.take i).map (·.2)).map once)), (once q0.2).map Sum.inr, t, rfl, ?_, ?_, ?_, nx _ ⟨?_, ?_⟩⟩
      · rw [upd_same, kV_inr]
      · rw [upd_ne (ne_of_none eD3 ht)]
        exact eD3
      · unfold kvT
        rw [List.length_map]
        have h1 := ddG_len (((ps0.take i).map (·.2)).map once)
        rw [List.length_map, List.length_map, List.length_take] at h1
        have := small60 (n := 60000) (by omega)
        omega
      · exact ((g2.trans g3).trans (Gr.new ht)).mut hD
      · rw [upd_same, put_once, take_map hq0, List.map_append]
        rw [show (List.map once ((ps0.take i).map (·.2)) ++ List.map once [q0.2]) = (((ps0.take i).map (·.2)).map once) ++ [once q0.2] from rfl, ddG_snoc]
    · obtain ⟨g2, eD⟩ := h
      rw [List.length_map, List.take_length] at eD
      -- kept = []
      refine ⟨Nat.zero_le _, fun Kp nK => ?_⟩
      have nKH : H Kp = none := g2.free nK
      have g3 : Gr H (upd H2 Kp (.lst [])) := g2.mut nKH
      have eK : (upd H2 Kp (.lst [])) Kp = some (.lst []) := upd_same
      have eD3 : (upd H2 Kp (.lst [])) D = some (.dT (kvT (ddG ((ps0.map (·.2)).map once)))) := by
        rw [upd_ne (ne_of_none eD nK)]
        exact eD
      generalize upd H2 Kp (.lst []) = H3 at g3 eK eD3
      refine ⟨_, rfl, D, _, rfl, .inl eD3, fun l bs nl hk => ?_⟩
      obtain ⟨ps1, e1, e2, e3⟩ := keys_ps hk
      have g4 : Gr H3 (upd H3 l (.lst (bs.map V.ref))) := Gr.new nl
      rw [e1] at g4 ⊢
      have hlen1 : ps1.length ≤ 60000 := by
        have h1 := ddG_len ((ps0.map (·.2)).map once)
        rw [← e2, List.length_map, List.length_map, List.length_map] at h1
        omega
      refine ⟨l, ps1, rfl, .inl (.inl upd_same), fun q0 hq0 => .inr (.inl (.inl (g4.tup (e3 q0 hq0)))), small60 hlen1, fun r H5 ps g5 T5 e5 => ?_⟩
      have g35 : Gr H3 H5 := g4.trans g5
      have T5 : Told H3 H5 r ps := T5.from g4
      have hplen : ps.length ≤ 60000 := by
        have h1 : (ps.map (·.2)).length = (rkd (ps1.map (·.2))).length := congrArg List.length e5
        rw [List.length_map, (rkd_perm _).length_eq, List.length_map] at h1
        omega
      refine ⟨r, rfl, ⟨_, .inl (.inl T5.at_)⟩, for_list (xs := ps.map fun q : Addr × List Str => V.ref q.1) (fun i σ H6 => Gr H H6 ∧ H6 r = some (.lst (ps.map fun q => V.ref q.1)) ∧ (∀ q ∈ ps, H6 q.1 = some (.lst (q.2.map V.str))) ∧ (∃ kps, H6 Kp = some (.lst (kps.map fun q => V.ref q.1)) ∧ List.Sublist kps (ps.take i) ∧ kps.map (·.2) = ((ps.take i).map (·.2)).foldl keep []) ∧
        ∃ v1 v2, σ = [some (.ref a), some (.ref D), some (.ref Kp), v1, v2]) ⟨g3.trans g35, T5.at_, fun q hq => (T5.own q hq).2.2, ⟨[], g35.lst eK, List.Sublist.refl _, rfl⟩, _, _, rfl⟩ (fun i σ H6 _ h => .inl (.inl h.2.1)) (fun i x σ H6 hx h => ?_) (fun σ H6 h => ?_)⟩
      · obtain ⟨g6, er, eo, ⟨kps, ek, sub, em⟩, v1, v2, rfl⟩ := h
        obtain ⟨q0, hq0, rfl⟩ := get_map hx
        have m0 := List.mem_of_getElem? hq0
        have nr : Kp ≠ r := ne_of_none eK T5.new
        have nq : ∀ q ∈ ps, Kp ≠ q.1 := fun q hq => ne_of_none eK (T5.own q hq).1
        have subps : ∀ q ∈ kps, q ∈ ps := fun q hq => List.mem_of_mem_take (sub.subset hq)
        have any_at2 : ∀ {j : Nat} {y : Addr × List Str} , kps[j]? = some y → (kps.take (j + 1)).any (fun q => wi q.2 q0.2) = ((kps.take j).any (fun q => wi q.2 q0.2) || wi y.2 q0.2) := by
          intro j y hy
          rw [List.take_add_one, hy, List.any_append]
          simp
        have anyeq : (kps.map (·.2)).any (fun l => wi l q0.2) = kps.any (fun q => wi q.2 q0.2) := by
          rw [List.any_map]
          rfl
        have fin : ∀ (b : Bool) (H7 : Hp), Gr H6 H7 → kps.any (fun q => wi q.2 q0.2) = b → True := fun _ _ _ _ => trivial
        refine ⟨_, rfl, Kp, rfl, ⟨_, .inl (.inl ek)⟩, Gx.gx_list (K := K) (xs := kps.map fun q : Addr × List Str => V.ref q.1) (g6.tabG hT) (fun j H7 => Gr H6 H7 ∧ (kps.take j).any (fun q => wi q.2 q0.2) = false) (fun H7 t7 => ⟨Gr.tabbed (g6.tabG hT) t7, rfl⟩) (fun j H7 _ h => .inl (.inl (h.1.lst ek))) (fun j x H7 Nx nx hx h => ?_) (fun H7 h => ?_)⟩
        · obtain ⟨g7, hn⟩ := h
          obtain ⟨k0, hk0, rfl⟩ := get_map hx
          have mk := subps k0 (List.mem_of_getElem? hk0)
          refine ⟨rfl, yesIf ?_⟩
          refine ⟨_, rfl, _, rfl, k0.1, q0.1, k0.2, q0.2, rfl, .inl (.inl (g7.lst (eo k0 mk))), .inl (.inl (g7.lst (eo q0 m0))), (g6.trans g7).tabG hT2, fun H8 g8 => ⟨_, rfl, fun e => ?_, fun e => nx _ ⟨g7.trans g8, ?_⟩⟩⟩
          · -- left out
            have e : wi k0.2 q0.2 = true := e
            have g68 := g7.trans g8
            refine ⟨true, rfl, ?_⟩
            refine iteF ⟨g6.trans g68, g68.lst er, fun q hq => g68.lst (eo q hq), ⟨kps, g68.lst ek, sub.trans (List.take_sublist_take_left (Nat.le_succ _)), ?_⟩, _, _, rfl⟩
            rw [take_map hq0, List.foldl_append, ← em]
            refine (if_pos ?_).symm
            rw [anyeq]
            exact List.any_eq_true.mpr ⟨k0, List.mem_of_getElem? hk0, e⟩
          · rw [any_at2 hk0, hn]
            show wi k0.2 q0.2 = false
            exact Bool.eq_false_iff.mpr e
        · -- put
          obtain ⟨g7, hn⟩ := h
          rw [List.length_map, List.take_length] at hn
          have ek7 := g7.lst ek
          refine ⟨false, rfl, ?_⟩
          refine iteT ⟨_, rfl, .inl ⟨rfl, _, .inl (.inl ek7)⟩, _, rfl, Kp, _, _, rfl, rfl, ek7, ?_, ?_⟩
          · rw [List.length_map]
            have h1 := sub.length_le
            have h2 := List.length_take_le i ps
            rw [List.length_take] at h1
            exact Nat.lt_of_le_of_lt h1 (small60 (by omega))
          · refine ⟨(g6.trans g7).mut nKH, ?_, fun q hq => ?_, ⟨kps ++ [q0], ?_, ?_, ?_⟩, _, _, rfl⟩
            · rw [upd_ne nr.symm]
              exact g7.lst er
            · rw [upd_ne (nq q hq).symm]
              exact g7.lst (eo q hq)
            · rw [upd_same, List.map_append]
              rfl
            · rw [List.take_add_one, hq0]
              exact sub.append (List.Sublist.refl _)
            · rw [take_map hq0, List.foldl_append, List.map_append, ← em]
              refine (if_neg ?_).symm
              rw [anyeq, hn]
              exact Bool.false_ne_true
      · obtain ⟨g6, er, eo, ⟨kps, ek, sub, em⟩, v1, v2, rfl⟩ := h
        rw [List.length_map, List.take_length] at sub em
        refine ⟨_, rfl, q Kp H6 kps g6 ⟨nKH, ek, fun q0 hq0 => ?_, ?_⟩ ?_⟩
        · have m0 := sub.subset hq0
          exact ⟨g3.free (T5.own q0 m0).1, (ne_of_none eK (T5.own q0 m0).1).symm, eo q0 m0⟩
        · exact T5.nd.sublist (sub.map _)
        · rw [em, e5, e2]
          rfl
end
end K1
namespace K1
open PySem PySem.Spec PyProof.Rows L2 Gr GxR Srx Skx Dcx
section
variable {P : Program} {w : World} {K : PySem.W.Frag} {mg : Str → Option Value} {base : Heap} {f fO C : Addr} {fd fdO fdI : FuncData} {p pI : He.Defn}
theorem scRising : FnScope ["names", "at", "thing"] ["names"] (defScope sRising) := ⟨rfl, rfl, rfl, by decide +kernel, rfl, by decide +kernel, by decide +kernel⟩
theorem ok_rising (F : FnP K "rising" sRising f fd) (GI : FnOk P w K mg base CX0 1 (He.fAd K pI) fdI ["thing"] (spIsName K (He.cT K pI).2)) (bI : Binds K fdI ["thing"] []) (kI : PySem.W.keepIn K (.ref (He.fAd K pI)) = true) (gI : mg "is_name" = some (.ref (He.fAd K pI)))
    (GO : FnOk P w K mg base CX0 1 fO fdO ["names"] (spOnce K)) (bO : Binds K fdO ["names"] []) (kO : PySem.W.keepIn K (.ref fO) = true) (gO : mg "_once_each" = some (.ref fO)) (EC : ErrC K mg "BadName" C) (gE : mg "enumerate" = none) (gM : ∃ t, mg "MOST_LETTERS" = some (.int 8 t)) :
    FnOk P w K mg base (L2.CX P w) 2 f fd ["names"] (spRising K (He.cT K pI).2 C) := by
  obtain ⟨tM, gM⟩ := gM
  refine F.ok scRising (fun vs H Q E h => ?_) (fun cdv A outer s H vs Q E hr h => ?_)
  · obtain ⟨a, vls, rfl, _⟩ := h
    rfl
  · obtain ⟨a, vls, rfl, hA, hth, few, hT, hq⟩ := h
    refine ⟨_, pss_cons (ps_for (passes_of rfl) rfl (pi_enum (by rfl) gE (pa_cons (pv 0) pa_nil)) (pg_tup rfl (pgs_cons (pg_name (i := 1) scRising.nd rfl (.inl rfl)) (pgs_cons (pg_name (i := 2) scRising.nd rfl (.inl rfl)) pgs_nil)))
        (pss_one (ps_if (pt_not (pt_val (pe_call GI (hr.mono (by decide)) (by rfl) gI kI bI .nil pass0 (pa_cons (pv 2) pa_nil))))
          (pss_one (ps_raise rfl (takes_of rfl rfl rfl rfl) (SkE.pmk_own1 PySem.F.excBase_ValueError EC.xC EC.gC EC.kC (raises_own EC.bC EC.tC) (by rfl) (pe_joined (.cons pe_str (.cons (pe_fmt (pv 1)) (.cons pe_str (.cons (pe_fmt (pe_glob (v := .int 8) (by rfl) gM ⟨_, rfl⟩)) (.cons pe_str .nil))))))))) pss_nil)))
      (pss_one (ps_ret (pe_call GO (hr.mono (by decide)) (by rfl) gO kO bO .nil pass0 (pa_cons (pv 0) pa_nil)))), ?_⟩
    refine ⟨_, rfl, a, vls, rfl, hA, for_enum (xs := vls) (fun i σ H2 => Gr H H2 ∧ (∀ v ∈ vls.take i, nmV v = true) ∧ ∃ v1 v2, σ = [some (.ref a), v1, v2]) ⟨Gr.refl H, fun _ z => absurd z List.not_mem_nil, _, _, rfl⟩ (fun i σ H2 _ h => h.1.seq hA) (fun i x T σ H2 hx h nT => ?_) (fun σ H2 h => ?_)⟩
    · obtain ⟨g2, ok, v1, v2, rfl⟩ := h
      have mx := List.mem_of_getElem? hx
      have hi : i < vls.length := (List.getElem?_eq_some_iff.mp hx).1
      have g3 : Gr H (upd H2 T (.tup [.int (i : Nat), x])) := g2.trans (Gr.new nT)
      refine ⟨T, _, rfl, .inl (.inl upd_same), rfl, _, _, rfl, _, _, rfl, rfl, ?_⟩
      refine ⟨x, rfl, x, rfl, (hth x mx).gr g3, g3.tabG hT, fun H4 g4 => ⟨_, rfl, ?_⟩⟩
      cases e : nmV x with
      | true =>
        refine iteF ⟨g3.trans g4, fun v hv => ?_, _, _, rfl⟩
        rw [List.take_add_one, hx] at hv
        rcases List.mem_append.mp hv with hv | hv
        · exact ok v hv
        · have hv : v = x := by simpa using hv
          rw [hv]; exact e
      | false =>
        refine iteT ?_
        rcases hq with ⟨xs, rfl, all, _⟩ | ⟨_, hE⟩
        · obtain ⟨y, hy, rfl⟩ := get_map hx
          have z := List.all_eq_true.mp all y (List.mem_of_getElem? hy)
          rw [show isNm y = false from e] at z
          cases z
        · have hk : ((Str.ofString (toString ((i : Nat) : Int)))).length ≤ 10 := PySem.W.KT.len_num (by omega) (by omega)
          have hb : (Str.ofString (toString (8 : Int))).length ≤ 10 := PySem.W.KT.len_num (by omega) (by omega)
          have l1 : (Str.empty ++ (Str.ofString "item ")).length ≤ 10 := by decide +kernel
          have l2 := PySem.W.KT.len_app l1 hk
          have l3 := PySem.W.KT.len_app l2 (show (Str.ofString " of the list is not a text of 1 to ").length ≤ 50 by decide +kernel)
          have l4 := PySem.W.KT.len_app l3 hb
          have l5 := PySem.W.KT.len_app l4 (show (Str.ofString " small letters").length ≤ 50 by decide +kernel)
          have big : ∀ n : Nat, n ≤ 200 → n ≤ sizeLine := fun n hn => by rw [sizeLine_eq]; omega
          refine ⟨_, rfl, big _ (by omega), _, rfl, .inr ⟨_, rfl, ?_, _, rfl, big _ (by omega), _, rfl, big _ (by omega), .inr ⟨_, rfl, ?_, _, rfl, big _ (by omega), _, rfl, big _ (by omega), hE _ (g3.trans g4)⟩⟩⟩
          · show ((i : Nat) : Int).natAbs.log2 < 1920
            rw [Int.natAbs_natCast]
            exact Nat.lt_of_le_of_lt (Nat.log2_le_self i) (by omega)
          · decide
    · obtain ⟨g2, ok, v1, v2, rfl⟩ := h
      rw [List.take_length] at ok
      rcases hq with ⟨xs, rfl, all, q⟩ | ⟨⟨v, hv, e⟩, _⟩
      · refine ⟨_, rfl, a, xs, rfl, g2.seq hA, by rw [List.length_map] at few; exact few, fun p H4 g4 np ep => q p H4 (g2.trans g4) (g2.free np) ep⟩
      · rw [ok v hv] at e
        cases e
end
end K1
namespace K1
open PySem PySem.Spec PyProof.Rows L2 Gr GxR Srx Skx Dcx
section
variable {P : Program} {w : World} {K : PySem.W.Frag} {mg : Str → Option Value} {base : Heap} {f : Addr} {fd : FuncData} {p : He.Defn} {T : Addr} {R : ErN}
theorem scNamesFrom : FnScope ["thing"] ["thing"] (defScope s_names_from) := ⟨rfl, rfl, rfl, by decide +kernel, rfl, by decide +kernel, by decide +kernel⟩
theorem ok_names_from (F : FnP K "names_from" s_names_from f fd) (cR : Calls P w K mg base (L2.CX P w) 2 "rising" (spRising K T R.name)) (EC : ErrC K mg "BadRow" R.row) (gI : mg "isinstance" = none) (gL : mg "list" = none) :
    FnOk P w K mg base (L2.CX P w) 3 f fd ["thing"] (spNamesFrom K T R) := by
  refine F.ok scNamesFrom (fun vs H Q E h => ?_) (fun cdv A outer s H vs Q E hr h => ?_)
  · obtain ⟨v, rfl, _⟩ := h
    rfl
  · obtain ⟨v, rfl, hT, h⟩ := h
    refine ⟨_, pss_cons (ps_if (pt_not (pt_val (pe_callB call_isi (by rfl) gI (by decide +kernel) (pa_cons (pv 0) (pa_cons (pe_bltn (v := .ty "list") (by rfl) gL (by decide +kernel) rfl) pa_nil)))))
        (pss_one (ps_raise rfl (takes_of rfl rfl rfl rfl) (SkE.pmk_own1 PySem.F.excBase_ValueError EC.xC EC.gC EC.kC (raises_own EC.bC EC.tC) (by rfl) pe_str))) pss_nil)
      (pss_one (ps_ret (pe_f cR hr (by decide) (paE (takes_of rfl rfl rfl rfl)) (by rfl) (pa_cons (pv 0) pa_nil)))), ?_⟩
    rcases h with ⟨xs, ⟨a, rfl, ha, nm, few⟩, q⟩ | ⟨⟨a, vls, rfl, ha, th, few, bad⟩, q⟩ | ⟨⟨t, ty, kt⟩, q⟩
    · refine ⟨_, rfl, _, _, _, _, true, rfl, .ty _, .base (.lst ha), kit_ty (by decide +kernel), _, rfl, ?_⟩
      refine iteF ⟨_, rfl, a, _, rfl, .inl (.inl ha), nms_things nm, by rw [List.length_map]; exact few, hT, .inl ⟨xs, rfl, nms_all.mpr nm, q⟩⟩
    · refine ⟨_, rfl, _, _, _, _, true, rfl, .ty _, .base (.lst ha), kit_ty (by decide +kernel), _, rfl, ?_⟩
      refine iteF ⟨_, rfl, a, _, rfl, .inl (.inl ha), th, few, hT, .inr ⟨bad, q⟩⟩
    · refine ⟨_, rfl, _, _, _, _, false, rfl, .ty _, ty, kit_ty kt, _, rfl, ?_⟩
      exact iteT (q H (Gr.refl H))
theorem scRowFrom : FnScope ["thing", "names"] ["thing"] (defScope s_row_from) := ⟨rfl, rfl, rfl, by decide +kernel, rfl, by decide +kernel, by decide +kernel⟩
theorem ok_row_from (F : FnP K "row_from" s_row_from f fd) (cN : Calls P w K mg base (L2.CX P w) 3 "names_from" (spNamesFrom K T R)) (EC : ErrC K mg "BadRow" R.row) (gL : mg "len" = none) :
    FnOk P w K mg base (L2.CX P w) 4 f fd ["thing"] (spRowFrom K T R) := by
  refine F.ok scRowFrom (fun vs H Q E h => ?_) (fun cdv A outer s H vs Q E hr h => ?_)
  · obtain ⟨v, rfl, _⟩ := h
    rfl
  · obtain ⟨v, rfl, hT, h⟩ := h
    refine ⟨_, pss_cons (ps_set (i := 1) scRowFrom.nd rfl (.inl rfl) (pe_f cN hr (by decide) (paE (takes_of rfl rfl rfl rfl)) (by rfl) (pa_cons (pv 0) pa_nil)))
      (pss_cons (ps_if (pt_cmpR op_ne (pe_callB call_len_seq (by rfl) gL boot_len (pa_cons (pv 1) pa_nil)) (pe_callB call_len_seq (by rfl) gL boot_len (pa_cons (pv 0) pa_nil)) (nomark _))
        (pss_one (ps_raise rfl (takes_of rfl rfl rfl rfl) (SkE.pmk_own1 PySem.F.excBase_ValueError EC.xC EC.gC EC.kC (raises_own EC.bC EC.tC) (by rfl) pe_str))) pss_nil)
      (pss_one (ps_ret (pv 1)))), ?_⟩
    refine ⟨_, rfl, _, rfl, hT, ?_⟩
    rcases h with ⟨xs, hk, nd, q⟩ | ⟨xs, hk, nd, q⟩ | ⟨hb, q⟩ | ⟨hb, q⟩
    · refine .inl ⟨xs, hk, fun p H2 g np ep => ?_⟩
      obtain ⟨a, rfl, ha, nm, few⟩ := hk.gr g
      refine ⟨_, rfl, p, _, rfl, .inl (.inl (.inl ep)), _, rfl, a, _, rfl, .inl (.inl (.inl ha)), rfl, _, rfl, ?_⟩
      rw [List.length_map, List.length_map, once_full nd]
      refine iteNS (by simp) ⟨_, rfl, q p H2 g np ep⟩
    · refine .inl ⟨xs, hk, fun p H2 g np ep => ?_⟩
      obtain ⟨a, rfl, ha, nm, few⟩ := hk.gr g
      refine ⟨_, rfl, p, _, rfl, .inl (.inl (.inl ep)), _, rfl, a, _, rfl, .inl (.inl (.inl ha)), rfl, _, rfl, ?_⟩
      rw [List.length_map, List.length_map]
      have ne := once_twice nd
      rw [decide_eq_false (show ¬ (V.int ((once xs).length : Nat) = V.int (xs.length : Nat)) from fun z => ne (by injection z with z; omega))]
      exact iteT (q H2 g)
    · exact .inr (.inl ⟨hb, q⟩)
    · exact .inr (.inr ⟨hb, q⟩)
end
end K1
namespace K1
open PySem PySem.Spec PyProof.Rows L2 Gr GxR Srx Skx Dcx
section
variable {P : Program} {w : World} {K : PySem.W.Frag} {mg : Str → Option Value} {base : Heap} {f : Addr} {fd : FuncData} {p : He.Defn} {N : TabN} {R : ErN}
abbrev nGrown : List Str := ["sets", "row", "names", "found", "one", "name"]
theorem scGrown : FnScope nGrown ["sets", "row"] (defScope s_grown) := ⟨rfl, rfl, rfl, by decide +kernel, rfl, by decide +kernel, by decide +kernel⟩
theorem ok_grown (F : FnP K "grown" s_grown f fd) (cR : Calls P w K mg base (L2.CX P w) 4 "row_from" (spRowFrom K N.i R)) (cM : Calls P w K mg base CX0 1 "meets_sets" (spMeets K N.m)) (cL : Calls P w K mg base CX0 5 "least_of" (spLeast K N.l N.w)) :
    FnOk P w K mg base CX0 6 f fd ["sets", "row"] (spGrown K N) := by
  refine F.ok scGrown (fun vs H Q E h => ?_) (fun cdv A outer s H vs Q E hr h => ?_)
  · obtain ⟨a, v, ps, r, rfl, _⟩ := h
    rfl
  · obtain ⟨a, v, ps, r, rfl, lA, hp, few, hR, nd, rl, hN, q⟩ := h
    refine ⟨_, PSs.nox (pss_cons (ps_set (i := 2) scGrown.nd rfl (.inl rfl) (pe_f cR hr (by decide) paL (by rfl) (pa_cons (pv 1) pa_nil)))
      (pss_cons (ps_set (i := 3) scGrown.nd rfl (.inl rfl) (pe_lst pa_nil))
      (pss_cons (ps_for PassesOwn.never rfl (pi_list (pv 0)) (pg_name (i := 4) scGrown.nd rfl (.inr rfl))
        (pss_one (ps_if (pt_val (pe_k cM hr (by decide) (by rfl) (pa_cons (pv 4) (pa_cons (pv 2) pa_nil))))
          (pss_one (ps_expr (pe_bm PySem.F.plainAttrs_list PySem.F.slot_list_append PySem.F.type_list_append mt_append (pv 3) (pa_cons (pv 4) pa_nil))))
          (pss_one (ps_expr (pe_bm PySem.F.plainAttrs_list PySem.F.slot_list_extend PySem.F.type_list_extend mt_extend (pv 3) (pa_cons (pe_lc (own := [("name", 5)]) (g := gName 5) (tt := tYes) (te := tLst (StX.tStar K (tVar 4) (tCons (tVar 5) tNil))) rfl scGrown.nd (pi_list (pv 2)) (blkOk_by (N := nGrown) (sc := defScope s_grown) (by decide +kernel))
              (fun _ _ _ _ _ => pg_name (i := 5) scGrown.nd rfl (.inl rfl)) (fun _ _ _ _ _ => pts_nil) (fun _ _ _ _ _ => pe_lst (StX.pa_star (pv 4) (pa_cons (pv 5) pa_nil)))) pa_nil)))))))
      (pss_one (ps_ret (pe_k cL hr (by decide) (by rfl) (pa_cons (pv 3) pa_nil))))))), ?_⟩
    refine ⟨_, rfl, _, rfl, hN.i, .inl ⟨r, hR, nd, fun nm H1 g1 nnm enm => ?_⟩⟩
    have onl : (once r).length ≤ 12 := Nat.le_trans once_len rl
    refine ⟨Nat.zero_le _, fun S nS => ?_⟩
    have g2 : Gr H (upd H1 S (.lst [])) := g1.trans (Gr.new nS)
    have nSH : H S = none := g1.free nS
    have eS : (upd H1 S (.lst [])) S = some (.lst []) := upd_same
    have em2 : (upd H1 S (.lst [])) nm = some (.lst ((once r).map V.str)) := (Gr.new nS).lst enm
    have nmS : nm ≠ S := ne_of_none enm nS
    generalize upd H1 S (.lst []) = H2 at g2 eS em2
    refine ⟨_, rfl, a, rfl, ⟨_, .inl (.inl (lA.gr g2).at_)⟩, for_list (K := K) (xs := ps.map fun q : Addr × List Str => V.ref q.1) (fun i σ H3 => Gr H H3 ∧ H3 nm = some (.lst ((once r).map V.str)) ∧ ∃ (ss : List (Addr × List Str)) (v4 : Option V), H3 S = some (.lst (ss.map fun q => V.ref q.1)) ∧ (∀ q ∈ ss, q.1 ≠ S ∧ q.2.length ≤ 101 ∧ H3 q.1 = some (.lst (q.2.map V.str))) ∧ ss.map (·.2) = found ((ps.take i).map (·.2)) (once r) ∧ ss.length ≤ i * 12 ∧
        σ = [some (.ref a), some v, some (.ref nm), some (.ref S), v4, none]) ⟨g2, em2, [], none, eS, fun _ z => absurd z List.not_mem_nil, rfl, Nat.zero_le _, rfl⟩ (fun i σ H3 _ h => .inl (.inl (lA.gr h.1).at_)) (fun i x σ H3 hx h => ?_) (fun σ H3 h => ?_)⟩
    · obtain ⟨g3, em3, ss, v4, eS3, own, es, sl, rfl⟩ := h
      obtain ⟨p0, hp0, rfl⟩ := get_map hx
      have mp := List.mem_of_getElem? hp0
      have hi : i < ps.length := (List.getElem?_eq_some_iff.mp hp0).1
      have sz : ss.length ≤ 60000 - 12 := by omega
      have ePp := (lA.gr g3).own p0 mp
      have npS : p0.1 ≠ S := ne_of_none (lA.own p0 mp) nSH
      refine ⟨_, rfl, _, rfl, p0.1, nm, p0.2, once r, rfl, .inl (.inl ePp), .inl (.inl em3), g3.tabG hN.m, fun H4 g4 => ⟨_, rfl, ?_⟩⟩
      show if mt p0.2 (once r) = true then _ else _
      cases em : mt p0.2 (once r) with
      | true =>
        refine iteT ⟨_, rfl, .inl ⟨rfl, _, .inl (.inl (g4.lst eS3))⟩, _, rfl, S, _, _, rfl, rfl, g4.lst eS3, ?_, ?_⟩
        · rw [List.length_map]
          exact small60 (by omega)
        · refine ⟨(g3.trans g4).mut nSH, ?_, ss ++ [p0], _, ?_, fun q hq => ?_, ?_, ?_, rfl⟩
          · rw [upd_ne nmS]
            exact g4.lst em3
          · rw [upd_same, List.map_append]
            rfl
          · rcases List.mem_append.mp hq with hq | hq
            · obtain ⟨h1, h2, h3⟩ := own q hq
              exact ⟨h1, h2, by rw [upd_ne h1]; exact g4.lst h3⟩
            · rw [List.mem_singleton.mp hq]
              exact ⟨npS, Nat.le_succ_of_le (hp p0 mp).2, by rw [upd_ne npS]; exact g4.lst ePp⟩
          · rw [List.map_append, es, take_map hp0, found_snoc, em]
            rfl
          · rw [List.length_append, List.length_singleton]
            omega
      | false =>
        refine iteF ⟨_, rfl, .inl ⟨rfl, _, .inl (.inl (g4.lst eS3))⟩, _, rfl, nm, rfl, ⟨_, .inl (.inl (g4.lst em3))⟩, fun D nD => lc_newT (K := K) (xs := once r) (fun x => p0.2 ++ [x]) (.inl (.inl (g4.lst em3))) (small1000 (by omega)) nD (fun v => rfl) (fun x hx H5 Q' g5 hq => ?_) (fun H5 cs g5 T5 ec => ?_)⟩
        · refine ⟨_, rfl, p0.1, p0.2.map V.str, rfl, .inr (.inl (.inl ((g4.trans g5).lst ePp))), _, rfl, ?_, fun l nl => ?_⟩
          · rw [List.length_append, List.length_map, List.length_singleton]
            have := (hp p0 mp).2
            exact Nat.le_of_lt (small1000 (by omega))
          · have z := hq H5 l (Gr.refl H5) nl
            rw [List.map_append] at z
            exact z
        · have g45 := g4.trans g5
          have cl : cs.length ≤ 12 := by
            have h1 := congrArg List.length ec
            rw [List.length_map, List.length_map] at h1
            omega
          have SD : S ≠ D := ne_of_none (g4.lst eS3) nD
          refine ⟨S, D, _, _, rfl, rfl, g45.lst eS3, T5.at_, ?_, ?_⟩
          · rw [List.length_map, List.length_map]
            exact Nat.le_of_lt (small60 (by omega))
          · refine ⟨(g3.trans g45).mut nSH, ?_, ss ++ cs, _, ?_, fun q hq => ?_, ?_, ?_, rfl⟩
            · rw [upd_ne nmS]
              exact g45.lst em3
            · rw [upd_same, List.map_append]
            · rcases List.mem_append.mp hq with hq | hq
              · obtain ⟨h1, h2, h3⟩ := own q hq
                exact ⟨h1, h2, by rw [upd_ne h1]; exact g45.lst h3⟩
              · obtain ⟨h1, h2, h3⟩ := T5.own q hq
                have h4 : q.1 ≠ S := (ne_of_none (g4.lst eS3) h1).symm
                refine ⟨h4, ?_, by rw [upd_ne h4]; exact h3⟩
                have h5 : q.2 ∈ (once r).map (fun x => p0.2 ++ [x]) := by rw [← ec]; exact List.mem_map.mpr ⟨q, hq, rfl⟩
                obtain ⟨x, _, e3⟩ := List.mem_map.mp h5
                rw [← e3, List.length_append, List.length_singleton]
                exact Nat.succ_le_succ (hp p0 mp).2
            · rw [List.map_append, es, ec, take_map hp0, found_snoc, em]
              rfl
            · rw [List.length_append]
              omega
    · obtain ⟨g3, em3, ss, v4, eS3, own, es, sl, rfl⟩ := h
      rw [List.length_map, List.take_length] at es
      rw [List.length_map] at sl
      refine ⟨_, rfl, S, ss, rfl, .inl (.inl eS3), fun q0 hq0 => ⟨.inl (.inl (own q0 hq0).2.2), Nat.le_trans (own q0 hq0).2.1 (by decide)⟩, by omega, g3.tabG hN.l, g3.tabG hN.w, fun p H4 ks g4 T4 e4 => q p H4 ks (g3.trans g4) (T4.from g3) ?_⟩
      have ra : RisAll (ps.map (·.2)) := by
        intro x hx
        obtain ⟨q0, hq0, rfl⟩ := List.mem_map.mp hx
        exact (hp q0 hq0).1
      rw [e4, es, found_once ra, cand_once ra]
end
end K1
namespace K1
open PySem PySem.Spec PyProof.Rows L2 Gr GxR Srx Skx Dcx
section
variable {P : Program} {w : World} {K : PySem.W.Frag} {mg : Str → Option Value} {base : Heap} {f C : Addr} {fd : FuncData} {p : He.Defn} {N : TabN} {R : ErN}
theorem scInit : FnScope ["self"] ["self"] (defScope m_init) := ⟨rfl, rfl, rfl, by decide +kernel, rfl, by decide +kernel, by decide +kernel⟩
theorem ok_init (F : FnM K "__init__" "Book.__init__" m_init f fd) (BC : BkC K mg C) : FnOk P w K mg base CX0 1 f fd ["self"] (spInit C) := by
  refine F.ok scInit (fun vs H Q E h => ?_) (fun cdv A outer s H vs Q E hr h => ?_)
  · obtain ⟨b, dx, rfl, _⟩ := h
    rfl
  · obtain ⟨b, dx, rfl, hb, k⟩ := h
    refine ⟨_, PSs.nox (pss_cons (ps_fld (pv 0) pe_dnewK rfl) (pss_one (ps_fld (pv 0) pe_int rfl))), ?_⟩
    intro d hd
    have nbd : b ≠ d := ne_of_none hb hd
    refine ⟨_, rfl, b, C, dx, [], rfl, (by rw [upd_ne nbd]; exact hb), BC.cl, BC.nR, (by show 0 < 1000; decide), _, rfl, b, C, dx, _, rfl, upd_same, BC.cl, BC.nN, (by show 1 < 1000; decide), ?_⟩
    refine k d _ hd ⟨fun c o hc e n => ?_, fun c ps e => ⟨ps, ?_, fun h => h⟩, fun c o hc e => ?_⟩ ⟨⟨dx, upd_same⟩, by rw [upd_ne nbd.symm, upd_ne nbd.symm, upd_same]; rfl, fun e he => absurd he List.not_mem_nil⟩
    · rw [upd_ne hc, upd_ne hc, upd_ne (ne_of_none e hd)]
      exact e
    · have hc : c ≠ b := fun z => by rw [z, hb] at e; cases e
      rw [upd_ne hc, upd_ne hc, upd_ne (ne_of_none e hd)]
      exact e
    · exact ⟨_, by rw [hc, upd_same]⟩
theorem scBSets : FnScope ["self"] ["self"] (defScope m_sets) := ⟨rfl, rfl, rfl, by decide +kernel, rfl, by decide +kernel, by decide +kernel⟩
theorem ok_bsets (F : FnM K "_sets" "Book._sets" m_sets f fd) (BC : BkC K mg C) (g_list : mg "list" = none) : FnOk P w K mg base CX0 1 f fd ["self"] (spBSets C) := by
  refine F.ok scBSets (fun vs H Q E h => ?_) (fun cdv A outer s H vs Q E hr h => ?_)
  · obtain ⟨b, d, tb, n, rfl, _⟩ := h
    rfl
  · obtain ⟨b, d, tb, n, rfl, B, q⟩ := h
    refine ⟨_, PSs.nox (pss_one (ps_ret (LVals.pe_listVals rfl (pe_fld (pv 0) rfl) (by rfl) g_list boot_list))), ?_⟩
    obtain ⟨dx, eb⟩ := B.ob
    refine ⟨_, rfl, b, C, dx, _, _, rfl, eb, BC.cl, BC.nR, bfl_rows d n, d, kvB tb, rfl, B.dc, fun p np => ?_⟩
    have z := q p np
    rw [show (kvB tb).map (·.2) = tb.map fun e => V.ref e.2.1 from by unfold kvB; rw [List.map_map]; rfl]
    exact z
abbrev nBNames : List Str := ["self", "row", "name"]
theorem scBNames : FnScope nBNames ["self"] (defScope m_names) := ⟨rfl, rfl, rfl, by decide +kernel, rfl, by decide +kernel, by decide +kernel⟩
theorem ok_bnames (F : FnM K "names" "Book.names" m_names f fd) (BC : BkC K mg C) (cSets : MCalls P w K mg base CX0 1 C "_sets" (spBSets C)) (g_sorted : mg "sorted" = none) : FnOk P w K mg base CX0 2 f fd ["self"] (spBNames C) := by
  refine F.ok scBNames (fun vs H Q E h => ?_) (fun cdv A outer s H vs Q E hr h => ?_)
  · obtain ⟨b, d, tb, n, rfl, _⟩ := h
    rfl
  · obtain ⟨b, d, tb, n, rfl, B, T, q⟩ := h
    refine ⟨_, PSs.nox (pss_one (ps_ret (pe_callB (Srx.cr_sortedTx rfl (hu64 hr)) (by rfl) g_sorted boot_sorted (pa_cons (Sc2.pe_sc2 (own := [("row", 1), ("name", 2)]) (g := gName 1) (tt := tYes) (g1 := gName 2) (tt1 := tYes) (vs1 := [2]) (wi1 := iList K (tVar 1)) (te := tVar 2) rfl scBNames.nd (pi_list (pe_m0 cSets BC.cl hr (by decide) pa0 (pv 0))) (blkOk_by (N := nBNames) (sc := defScope m_names) (by decide +kernel)) (by decide) (fun _ _ _ _ _ => (pg_name (i := 1) scBNames.nd rfl (.inl rfl))) (fun _ _ _ _ _ => pts_nil) (fun _ _ _ _ _ => (pi_list (pv 1))) (fun _ _ _ _ _ => (pg_name (i := 2) scBNames.nd rfl (.inl rfl))) (fun _ _ _ _ _ => pts_nil) (fun _ _ _ _ _ => (pv 2))) pa_nil)))), ?_⟩
    refine ⟨_, rfl, b, d, tb, n, rfl, B, b, d, tb, n, rfl, B, fun L nL => ⟨L, rfl, ⟨_, .inl (.inl upd_same)⟩, fun D nD => ?_⟩⟩
    have g1 : Gr H (upd H L (.lst (tb.map fun e => V.ref e.2.1))) := Gr.new nL
    have B1 := B.gr g1
    have eL : (upd H L (.lst (tb.map fun e => V.ref e.2.1))) L = some (.lst (tb.map fun e => V.ref e.2.1)) := upd_same
    generalize upd H L (.lst (tb.map fun e => V.ref e.2.1)) = H1 at g1 B1 eL nD
    refine sc2_rows (K := K) (ps := tb.map fun e => (e.2.1, e.2.2)) (by rw [List.map_map]; exact .inl (.inl eL)) (fun q hq => ?_) nD ?_ ?_ (fun _ => rfl) (fun _ _ => rfl) (fun _ => rfl) (fun _ _ => rfl)
    · obtain ⟨e, he, rfl⟩ := List.mem_map.mp hq
      exact .inl (.inl (B1.own e he))
    · have h1 := T.flat
      rw [List.map_map]
      exact Nat.le_trans h1 (by decide)
    · refine ⟨D, _, rfl, upd_same, fun p np => ?_⟩
      refine q p _ (g1.trans ((Gr.new nD).trans (Gr.new np))) ((g1.trans (Gr.new nD)).free np) ?_
      rw [upd_same, List.map_map]
      rfl
end
end K1
namespace K1
open PySem PySem.Spec PyProof.Rows L2 Gr GxR Srx Skx Dcx
section
variable {P : Program} {w : World} {K : PySem.W.Frag} {mg : Str → Option Value} {base : Heap} {f C : Addr} {fd : FuncData} {p : He.Defn} {N : TabN} {R : ErN}
abbrev nPut : List Str := ["self", "row", "names", "number"]
theorem scPut : FnScope nPut ["self", "row"] (defScope m_put) := ⟨rfl, rfl, rfl, by decide +kernel, rfl, by decide +kernel, by decide +kernel⟩
theorem ok_put (F : FnM K "put" "Book.put" m_put f fd) (BC : BkC K mg C) (cRow : Calls P w K mg base (L2.CX P w) 4 "row_from" (spRowFrom K N.i R)) (cRis : Calls P w K mg base (L2.CX P w) 2 "rising" (spRising K N.i R.name))
    (cNames : MCalls P w K mg base CX0 2 C "names" (spBNames C)) (eMany : ErrC K mg "TooMany" R.many) (g_len : mg "len" = none) (gMR : ∃ t, mg "MOST_ROWS_books" = some (.int 30 t)) (gMN : ∃ t, mg "MOST_NAMES_books" = some (.int 12 t)) :
    FnOk P w K mg base (L2.CX P w) 5 f fd ["self", "row"] (spPut K C N R) := by
  obtain ⟨tR, gMR⟩ := gMR
  obtain ⟨tN, gMN⟩ := gMN
  refine F.ok scPut (fun vs H Q E h => ?_) (fun cdv A outer s H vs Q E hr h => ?_)
  · obtain ⟨b, d, tb, n, v, rfl, _⟩ := h
    rfl
  · obtain ⟨b, d, tb, n, v, rfl, B, T, hN, h⟩ := h
    refine ⟨_, pss_cons (ps_set (i := 2) scPut.nd rfl (.inl rfl) (pe_f cRow hr (by decide) (paE (takes_of rfl rfl rfl rfl)) (by rfl) (pa_cons (pv 1) pa_nil))) (pss_cons (ps_if (pt_cmpR op_ge (pe_callB call_lenD (by rfl) g_len PySem.boot_len (pa_cons (pe_fld (pv 0) rfl) pa_nil)) (pe_glob (v := .int 30) (by rfl) gMR ⟨_, rfl⟩) (nomark _)) (pss_one (ps_raise rfl (takes_of rfl rfl rfl rfl) (SkE.pmk_own1 PySem.F.excBase_ValueError eMany.xC eMany.gC eMany.kC (raises_own eMany.bC eMany.tC) (by rfl) (pe_joined (.cons pe_str (.cons (pe_fmt (pe_glob (v := .int 30) (by rfl) gMR ⟨_, rfl⟩)) (.cons pe_str .nil))))))) (pss_nil)) (pss_cons (ps_if (pt_cmpR op_gt (pe_callB call_len_seq (by rfl) g_len boot_len (pa_cons (pe_f cRis hr (by decide) (paE (takes_of rfl rfl rfl rfl)) (by rfl) (pa_cons (pe_op op_cat (pe_m0 cNames BC.cl hr (by decide) pa0 (pv 0)) (pv 2)) pa_nil)) pa_nil)) (pe_glob (v := .int 12) (by rfl) gMN ⟨_, rfl⟩) (nomark _)) (pss_one (ps_raise rfl (takes_of rfl rfl rfl rfl) (SkE.pmk_own1 PySem.F.excBase_ValueError eMany.xC eMany.gC eMany.kC (raises_own eMany.bC eMany.tC) (by rfl) (pe_joined (.cons pe_str (.cons (pe_fmt (pe_glob (v := .int 12) (by rfl) gMN ⟨_, rfl⟩)) (.cons pe_str .nil))))))) (pss_nil)) (pss_cons (ps_set (i := 3) scPut.nd rfl (.inl rfl) (pe_fld (pv 0) rfl)) (pss_cons (ps_dput (hu_of hr) (pe_fld (pv 0) rfl) (pv 3) (pv 2) rfl) (pss_cons (ps_fld (pv 0) (pe_op op_add (pv 3) pe_int) rfl) (pss_one (ps_ret (pv 3)))))))), ?_⟩
    refine ⟨_, rfl, _, rfl, hN.s.i, ?_⟩
    have h : (∃ xs, HOk H v xs ∧ xs.length ≤ 100 ∧ xs.Nodup ∧ ((tb.length < 30 ∧ (allN (rws tb ++ [xs])).length ≤ 12 ∧ ∀ p H', GrX (fun a => a = b ∨ a = d) H H' → H p = none → Bk C H' b d (tb ++ [(n, p, once xs)]) (n + 1) → Q (.int n) H') ∨
        ((30 ≤ tb.length ∨ 12 < (allN (rws tb ++ [xs])).length) ∧ ∀ H', Gr H H' → E (.ref R.many) none H'))) ∨
        (∃ xs, HOk H v xs ∧ ¬ xs.Nodup ∧ ∀ H', Gr H H' → E (.ref R.row) none H') ∨ (HBadN K H v ∧ ∀ H', Gr H H' → E (.ref R.name) none H') ∨ (HBadR K H v ∧ ∀ H', Gr H H' → E (.ref R.row) none H') := by
      rcases h with ⟨xs, hk, few, nd, q⟩ | ⟨xs, hk, few, nd, q⟩ | h | h | h
      · exact .inl ⟨xs, hk, few, nd, .inl q⟩
      · exact .inl ⟨xs, hk, few, nd, .inr q⟩
      · exact .inr (.inl h)
      · exact .inr (.inr (.inl h))
      · exact .inr (.inr (.inr h))
    rcases h with ⟨xs, hk, few, nd, h⟩ | ⟨xs, hk, nd, q⟩ | ⟨hb, q⟩ | ⟨hb, q⟩
    rotate_left
    · exact .inr (.inl ⟨xs, hk, nd, q⟩)
    · exact .inr (.inr (.inl ⟨hb, q⟩))
    · exact .inr (.inr (.inr ⟨hb, q⟩))
    · refine .inl ⟨xs, hk, nd, fun nm H1 g1 nnm enm => ?_⟩
      have nm1 : Nms xs := hk.choose_spec.2.2.1
      have B1 := B.gr g1
      obtain ⟨dx, eb1⟩ := B1.ob
      refine ⟨_, rfl, b, C, dx, _, _, rfl, eb1, BC.cl, BC.nR, bfl_rows d n, d, _, rfl, B1.dc, _, _, rfl, rfl, _, rfl, ?_⟩
      rw [kvB_len]
      by_cases h30 : tb.length < 30
      · rw [decide_eq_false (show ¬ (tb.length : Int) ≥ 30 by omega)]
        refine iteF ?_
        refine ⟨_, rfl, b, d, tb, n, rfl, B1, b, d, tb, n, rfl, B1, T, fun L H2 g2 nL eL => ?_⟩
        have an12 := T.nms
        refine ⟨_, rfl, _, _, _, _, rfl, rfl, eL, g2.lst enm, ?_, fun c nc => ?_⟩
        · rw [List.length_map, List.length_map]
          have := once_len (xs := xs)
          exact Nat.le_of_lt (small1000 (by omega))
        have g3 : Gr H2 (upd H2 c (.lst ((allN (rws tb)).map V.str ++ (once xs).map V.str))) := Gr.new nc
        have ec : (upd H2 c (.lst ((allN (rws tb)).map V.str ++ (once xs).map V.str))) c = some (.lst ((allN (rws tb) ++ once xs).map V.str)) := by
          rw [upd_same, List.map_append]
        generalize upd H2 c (.lst ((allN (rws tb)).map V.str ++ (once xs).map V.str)) = H3 at g3 ec
        have nmA : Nms (allN (rws tb) ++ once xs) := fun y hy => (List.mem_append.mp hy).elim (T.nmsN y) (once_nms nm1 y)
        have g03 := (g1.trans g2).trans g3
        refine ⟨c, _, rfl, .inl (.inl ec), nms_things nmA, ?_, g03.tabG hN.s.i, .inl ⟨_, rfl, nms_all.mpr nmA, fun r H4 g4 nr er => ?_⟩⟩
        · rw [List.length_map, List.length_append]
          have := once_len (xs := xs)
          omega
        refine ⟨r, _, rfl, .inl (.inl (.inl er)), _, _, rfl, rfl, _, rfl, ?_⟩
        rw [List.length_map, once_two]
        have g04 := g03.trans g4
        by_cases h12 : (allN (rws tb ++ [xs])).length ≤ 12
        · rw [decide_eq_false (show ¬ ((allN (rws tb ++ [xs])).length : Int) > 12 by omega)]
          refine iteF ?_
          have B4 := B.gr g04
          obtain ⟨dy, eb4⟩ := B4.ob
          have enm4 : H4 nm = some (.lst ((once xs).map V.str)) := ((g2.trans g3).trans g4).lst enm
          have nbd := B.ne
          refine ⟨_, rfl, b, C, dy, _, _, rfl, eb4, BC.cl, BC.nN, bfl_next d n, ?_⟩
          refine ⟨_, rfl, _, rfl, b, C, dy, _, _, rfl, eb4, BC.cl, BC.nR, bfl_rows d n, _, rfl, d, _, rfl, DPut.k (k := Sum.inl n) B4.dc (by rw [kvB_len]; exact small1000 (by omega)), ?_⟩
          refine ⟨_, rfl, _, _, rfl, rfl, _, rfl, b, C, dy, _, rfl, (by rw [upd_ne nbd]; exact eb4), BC.cl, BC.nN, (by rw [bfl_eq]; show 2 < 1000; decide), _, rfl, ?_⟩
          rw [kvB_put T.fresh nm (once xs), bfl_put]
          rcases h with ⟨_, _, q⟩ | ⟨h, _⟩
          · refine q nm _ ?_ nnm ⟨⟨dy, upd_same⟩, by rw [upd_ne nbd.symm, upd_same], fun e he => ?_⟩
            · obtain ⟨dz, eb⟩ := B.ob
              refine ((g04.x _).put (.inl (.inr rfl)) fun ps z => ?_).put (.inl (.inl rfl)) fun ps z => ?_
              · rw [B.dc] at z; cases z
              · rw [eb] at z; cases z
            · rcases List.mem_append.mp he with he | he
              · obtain ⟨h1, h2⟩ := B.neb he
                rw [upd_ne h1, upd_ne h2]
                exact B4.own e he
              · rw [List.mem_singleton.mp he]
                obtain ⟨dz, eb⟩ := B.ob
                show upd (upd H4 d _) b _ nm = _
                rw [upd_ne (ne_of_none eb nnm).symm, upd_ne (ne_of_none B.dc nnm).symm]
                exact enm4
          · omega
        · rw [decide_eq_true (show ((allN (rws tb ++ [xs])).length : Int) > 12 by omega)]
          refine iteT ?_
          rcases h with ⟨_, h, _⟩ | ⟨_, q⟩
          · exact absurd h h12
          · refine ⟨_, rfl, by rw [sizeLine_eq]; decide +kernel, .inr ⟨_, rfl, by decide, _, rfl, by rw [sizeLine_eq]; decide +kernel, _, rfl, by rw [sizeLine_eq]; decide +kernel, q _ g04⟩⟩
      · rw [decide_eq_true (show (tb.length : Int) ≥ 30 by omega)]
        refine iteT ?_
        rcases h with ⟨h, _, _⟩ | ⟨_, q⟩
        · exact absurd h h30
        · refine ⟨_, rfl, by rw [sizeLine_eq]; decide +kernel, .inr ⟨_, rfl, by decide, _, rfl, by rw [sizeLine_eq]; decide +kernel, _, rfl, by rw [sizeLine_eq]; decide +kernel, q _ g1⟩⟩
end
end K1
namespace K1
open PySem PySem.Spec PyProof.Rows L2 Gr GxR Srx Skx Dcx
section
variable {P : Program} {w : World} {K : PySem.W.Frag} {mg : Str → Option Value} {base : Heap} {f C : Addr} {fd : FuncData} {p : He.Defn} {N : TabN} {R : ErN}
theorem scTake : FnScope ["self", "number"] ["self", "number"] (defScope m_take) := ⟨rfl, rfl, rfl, by decide +kernel, rfl, by decide +kernel, by decide +kernel⟩
theorem ok_take (F : FnM K "take" "Book.take" m_take f fd) (BC : BkC K mg C) (eNo : ErrC K mg "NoRow" R.no) (g_isinstance : mg "isinstance" = none) (g_int : mg "int" = none) (g_bool : mg "bool" = none) :
    FnOk P w K mg base (L2.CX P w) 1 f fd ["self", "number"] (spTake K C R) := by
  refine F.ok scTake (fun vs H Q E h => ?_) (fun cdv A outer s H vs Q E hr h => ?_)
  · obtain ⟨b, d, tb, n, v, rfl, _⟩ := h
    rfl
  · obtain ⟨b, d, tb, n, v, rfl, B, T, h⟩ := h
    refine ⟨_, pss_cons (ps_if (PW.pt (pw_or (pt_not (pt_val (pe_callB call_isi (by rfl) g_isinstance (by decide +kernel) (pa_cons (pv 1) (pa_cons (pe_bltn (v := .ty "int") (by rfl) g_int (by decide +kernel) rfl) pa_nil))))) (pw_or (pt_val (pe_callB call_isi (by rfl) g_isinstance (by decide +kernel) (pa_cons (pv 1) (pa_cons (pe_bltn (v := .ty "bool") (by rfl) g_bool (by decide +kernel) rfl) pa_nil)))) (pw_or1 (pt_cmp (pc_dnotin (hu_of hr) (pv 1) (pe_fld (pv 0) rfl))))))) (pss_one (ps_raise rfl (takes_of rfl rfl rfl rfl) (SkE.pmk_own1 PySem.F.excBase_ValueError eNo.xC eNo.gC eNo.kC (raises_own eNo.bC eNo.tC) (by rfl) pe_str))) (pss_nil)) (pss_one (ps_ddel (pe_fld (pv 0) rfl) (pv 1))), ?_⟩
    obtain ⟨dx, eb⟩ := B.ob
    rcases h with ⟨k, rfl, hk, q⟩ | ⟨⟨k, rfl, hk⟩ | ⟨t, ty, kt⟩, q⟩
    · refine ⟨_, rfl, _, _, _, _, true, rfl, .ty _, .base (.int k), kit_ty (by decide +kernel), _, rfl, ?_⟩
      refine iteF ⟨_, rfl, _, _, _, _, false, rfl, .ty _, .base (.int k), kit_ty (by decide +kernel), _, rfl, ?_⟩
      refine iteF ⟨_, rfl, _, rfl, b, C, dx, _, _, rfl, eb, BC.cl, BC.nR, bfl_rows d n, d, _, rfl, DGet.k (k := Sum.inl k) B.dc, _, rfl, ?_⟩
      rw [kvB_in, decide_eq_true hk]
      refine iteF ⟨_, rfl, b, C, dx, _, _, rfl, eb, BC.cl, BC.nR, bfl_rows d n, _, rfl, d, _, Sum.inl k, rfl, B.dc, rfl, (by rw [kvB_in, decide_eq_true hk]), ?_⟩
      rw [kvB_drop]
      have nbd := B.ne
      refine q _ (((Gr.refl H).x _).put (.inl rfl) fun ps z => ?_) ⟨⟨dx, by rw [upd_ne nbd]; exact eb⟩, upd_same, fun e he => ?_⟩
      · rw [B.dc] at z; cases z
      · have he := (List.mem_filter.mp he).1
        rw [upd_ne (B.neb he).2]
        exact B.own e he
    · refine ⟨_, rfl, _, _, _, _, true, rfl, .ty _, .base (.int k), kit_ty (by decide +kernel), _, rfl, ?_⟩
      refine iteF ⟨_, rfl, _, _, _, _, false, rfl, .ty _, .base (.int k), kit_ty (by decide +kernel), _, rfl, ?_⟩
      refine iteF ⟨_, rfl, _, rfl, b, C, dx, _, _, rfl, eb, BC.cl, BC.nR, bfl_rows d n, d, _, rfl, DGet.k (k := Sum.inl k) B.dc, _, rfl, ?_⟩
      rw [kvB_in, decide_eq_false hk]
      exact iteT (q H (Gr.refl H))
    · rcases kt with kt | ⟨kt, kb⟩
      · refine ⟨_, rfl, _, _, _, _, false, rfl, .ty _, ty, kit_ty kt, _, rfl, ?_⟩
        exact iteT (q H (Gr.refl H))
      · refine ⟨_, rfl, _, _, _, _, true, rfl, .ty _, ty, kit_ty kt, _, rfl, ?_⟩
        refine iteF ⟨_, rfl, _, _, _, _, true, rfl, .ty _, ty, kit_ty kb, _, rfl, ?_⟩
        exact iteT (q H (Gr.refl H))
abbrev nBRows : List Str := ["self", "number", "row"]
theorem scBRows : FnScope nBRows ["self"] (defScope m_rows) := ⟨rfl, rfl, rfl, by decide +kernel, rfl, by decide +kernel, by decide +kernel⟩
theorem ok_brows (F : FnM K "rows" "Book.rows" m_rows f fd) (BC : BkC K mg C) (g_list : mg "list" = none) : FnOk P w K mg base CX0 1 f fd ["self"] (spBRows C) := by
  refine F.ok scBRows (fun vs H Q E h => ?_) (fun cdv A outer s H vs Q E hr h => ?_)
  · obtain ⟨b, d, tb, n, rfl, _⟩ := h
    rfl
  · obtain ⟨b, d, tb, n, rfl, B, T, q⟩ := h
    refine ⟨_, PSs.nox (pss_one (ps_ret (pe_lock (pe_lc (own := [("number", 1), ("row", 2)]) (g := gTup K 2 (gCons (gName 1) (gCons (gName 2) gNil))) (tt := tYes) rfl scBRows.nd (pi_items (pe_fld (pv 0) rfl)) (blkOk_by (N := nBRows) (sc := defScope m_rows) (by decide +kernel)) (fun _ _ _ _ _ => (pg_tup rfl (pgs_cons (pg_name (i := 1) scBRows.nd rfl (.inl rfl)) (pgs_cons (pg_name (i := 2) scBRows.nd rfl (.inl rfl)) pgs_nil)))) (fun _ _ _ _ _ => pts_nil) (fun _ _ _ _ _ => (pe_tup (pa_cons (pv 1) (pa_cons (pe_callTy (r := rListOf K) call_list_of (by rfl) g_list boot_list (pa_cons (pv 2) pa_nil)) pa_nil)))))))), ?_⟩
    obtain ⟨dx, eb⟩ := B.ob
    have nbd := B.ne
    refine ⟨d, _, B.dc, trivial, fun od => ?_⟩
    have eL : (upd H d (.frz od (.dK (kvB tb)))) d = some (.frz od (.dK (kvB tb))) := upd_same
    have oL : ∀ e ∈ tb, (upd H d (.frz od (.dK (kvB tb)))) e.2.1 = some (.lst (e.2.2.map V.str)) := fun e he => by rw [upd_ne (B.neb he).2]; exact B.own e he
    have freeL : ∀ x, (upd H d (.frz od (.dK (kvB tb)))) x = none → H x = none := fun x hx => by
      by_cases h : x = d
      · rw [h, upd_same] at hx; cases hx
      · rw [upd_ne h] at hx; exact hx
    refine ⟨_, rfl, b, C, dx, _, _, rfl, (by rw [upd_ne nbd]; exact eb), BC.cl, BC.nR, bfl_rows d n, d, od, kvB tb, rfl, eL, fun D nD => ?_⟩
    have hback : ∀ H', Gr (upd H d (.frz od (.dK (kvB tb)))) H' → Gr H (upd H' d (.dK (kvB tb))) := fun H' g => gr_lock B.dc (fun ps z => nomatch z) g
    generalize upd H d (.frz od (.dK (kvB tb))) = HL at eL oL freeL nD hback
    refine lc_it (walk_items (d := d) (o := od) (kvs := kvB tb)) (Qd := _) (fun i H2 => Gr HL H2 ∧ ∃ rs : List Pr1, rs.map (fun r => (r.k, r.r)) = nr (tb.take i) ∧ H2 D = some (.lst (rs.map fun r => V.ref r.t)) ∧ ∀ r ∈ rs, HL r.t = none ∧ HL r.l = none ∧ r.t ≠ D ∧ r.l ≠ D ∧ H2 r.t = some (.tup [.int r.k, .ref r.l]) ∧ H2 r.l = some (.lst (r.r.map V.str)))
      ⟨Gr.new nD, [], rfl, upd_same, fun _ z => absurd z List.not_mem_nil⟩ (fun i H2 _ h => h.1.at_ _ _ eL notbl_frz) (fun i x H2 H3 hi h y => ?_) (fun H2 h => ?_)
    · obtain ⟨g2, rs, er, eD, own⟩ := h
      obtain ⟨TT, ky, vv, rfl, nT, rfl, hk, hv⟩ := y
      rw [kvB_len] at hi
      have hx : tb[i]? = some tb[i] := List.getElem?_eq_getElem hi
      generalize tb[i] = e0 at hx
      have m0 := List.mem_of_getElem? hx
      have hkv : (kvB tb)[i]? = some ((Sum.inl e0.1 : Key), V.ref e0.2.1) := by
        unfold kvB
        rw [List.getElem?_map, hx]
        rfl
      have hk : Option.map (fun kv : Key × V => kV kv.1) (kvB tb)[i]? = some ky := hk
      have hv : Option.map Prod.snd (kvB tb)[i]? = some vv := hv
      rw [hkv] at hk hv
      obtain rfl : V.int e0.1 = ky := Option.some.inj hk
      obtain rfl : V.ref e0.2.1 = vv := Option.some.inj hv
      have g3 : Gr H2 (upd H2 TT (.tup [.int e0.1, .ref e0.2.1])) := Gr.new nT
      refine ⟨TT, _, rfl, .inl (.inl upd_same), rfl, _, _, rfl, _, _, rfl, rfl, rfl, yesIf ?_⟩
      have eD3 := g3.lst eD
      have own3 : ∀ r ∈ rs, HL r.t = none ∧ HL r.l = none ∧ r.t ≠ D ∧ r.l ≠ D ∧ (upd H2 TT (.tup [.int e0.1, .ref e0.2.1])) r.t = some (.tup [.int r.k, .ref r.l]) ∧ (upd H2 TT (.tup [.int e0.1, .ref e0.2.1])) r.l = some (.lst (r.r.map V.str)) := fun r hr => by
        obtain ⟨h1, h2, h3, h4, h5, h6⟩ := own r hr
        exact ⟨h1, h2, h3, h4, g3.tup h5, g3.lst h6⟩
      have gL3 := g2.trans g3
      generalize upd H2 TT (.tup [.int e0.1, .ref e0.2.1]) = H3 at g3 eD3 own3 gL3
      refine ⟨_, rfl, _, rfl, e0.2.1, e0.2.2.map V.str, rfl, .inl (.inl (.inl (gL3.lst (oL e0 m0)))), fun l nl => ⟨(by show 2 ≤ sizeLine; decide), fun t nt => ?_⟩⟩
      have lt : l ≠ t := ne_of_none (show (upd H3 l (.lst (e0.2.2.map V.str))) l = some _ from upd_same) nt
      have gl : Gr H3 (upd (upd H3 l (.lst (e0.2.2.map V.str))) t (.tup [.int e0.1, .ref l])) := (Gr.new nl).trans (Gr.new nt)
      have nt3 : H3 t = none := (Gr.new nl).free nt
      refine ⟨_, gl.lst eD3, ?_, (gL3.trans gl).mut nD, rs ++ [⟨t, e0.1, l, e0.2.2⟩], ?_, ?_, fun r hr => ?_⟩
      · rw [List.length_map]
        have h1 := congrArg List.length er
        rw [List.length_map] at h1
        unfold nr at h1
        rw [List.length_map, List.length_take] at h1
        have := T.few
        exact small1000 (by omega)
      · rw [List.map_append, er]
        unfold nr
        rw [take_map hx]
        rfl
      · rw [upd_same, List.map_append]
        rfl
      · have lD : l ≠ D := (ne_of_none eD3 nl).symm
        have tD : t ≠ D := (ne_of_none eD3 nt3).symm
        rcases List.mem_append.mp hr with hr | hr
        · obtain ⟨h1, h2, h3, h4, h5, h6⟩ := own3 r hr
          exact ⟨h1, h2, h3, h4, by rw [upd_ne h3]; exact gl.tup h5, by rw [upd_ne h4]; exact gl.lst h6⟩
        · rw [List.mem_singleton.mp hr]
          refine ⟨gL3.free nt3, gL3.free nl, tD, lD, by rw [upd_ne tD, upd_same], by rw [upd_ne lD, upd_ne lt, upd_same]⟩
    · obtain ⟨g2, rs, er, eD, own⟩ := h
      rw [kvB_len, List.take_length] at er
      have nDd : D ≠ d := (ne_of_none eL nD).symm
      refine ⟨g2.at_ _ _ eL notbl_frz, q D _ rs (hback H2 g2) ⟨freeL D nD, by rw [upd_ne nDd]; exact eD, fun r hr => ?_⟩ er⟩
      obtain ⟨h1, h2, h3, h4, h5, h6⟩ := own r hr
      exact ⟨freeL _ h1, freeL _ h2, h3, h4, by rw [upd_ne (ne_of_none eL h1).symm]; exact h5, by rw [upd_ne (ne_of_none eL h2).symm]; exact h6⟩
theorem scBLR : FnScope ["self"] ["self"] (defScope m_least_rows) := ⟨rfl, rfl, rfl, by decide +kernel, rfl, by decide +kernel, by decide +kernel⟩
theorem ok_bleastrows (F : FnM K "least_rows" "Book.least_rows" m_least_rows f fd) (BC : BkC K mg C) (cSets : MCalls P w K mg base CX0 1 C "_sets" (spBSets C)) (cLO : Calls P w K mg base CX0 5 "least_of" (spLeast K N.l N.w)) : FnOk P w K mg base CX0 6 f fd ["self"] (spBLeastRows C N) := by
  refine F.ok scBLR (fun vs H Q E h => ?_) (fun cdv A outer s H vs Q E hr h => ?_)
  · obtain ⟨b, d, tb, n, rfl, _⟩ := h
    rfl
  · obtain ⟨b, d, tb, n, rfl, B, T, hN, q⟩ := h
    refine ⟨_, PSs.nox (pss_one (ps_ret (pe_k cLO hr (by decide) (by rfl) (pa_cons (pe_m0 cSets BC.cl hr (by decide) pa0 (pv 0)) pa_nil)))), ?_⟩
    refine ⟨_, rfl, b, d, tb, n, rfl, B, b, d, tb, n, rfl, B, fun L nL => ?_⟩
    have g1 : Gr H (upd H L (.lst (tb.map fun e => V.ref e.2.1))) := Gr.new nL
    refine ⟨L, tb.map fun e => (e.2.1, e.2.2), rfl, .inl (.inl (by rw [upd_same, List.map_map]; rfl)), fun q0 hq0 => ?_, ?_, g1.tabG hN.s.l, g1.tabG hN.s.w, fun p H2 ks g2 T2 e2 => q p H2 ks (g1.trans g2) (T2.from g1) ?_⟩
    · obtain ⟨e, he, rfl⟩ := List.mem_map.mp hq0
      exact ⟨.inl (.inl ((B.gr g1).own e he)), Nat.le_trans (T.rlen (rws_mem he)).2.2 (by decide)⟩
    · rw [List.length_map]
      have := T.few
      omega
    · rw [e2]
      rw [show (tb.map fun e => (e.2.1, e.2.2)).map (fun x => x.2) = rws tb from by rw [List.map_map]; rfl]
      rw [once_all fun r hr => (T.rlen hr).1]
abbrev nBLe : List Str := ["self", "sets", "row"]
theorem scBLe : FnScope nBLe ["self"] (defScope m_least) := ⟨rfl, rfl, rfl, by decide +kernel, rfl, by decide +kernel, by decide +kernel⟩
theorem ok_bleast (F : FnM K "least" "Book.least" m_least f fd) (BC : BkC K mg C) (cLR : MCalls P w K mg base CX0 6 C "least_rows" (spBLeastRows C N)) (cGr : Calls P w K mg base CX0 6 "grown" (spGrown K N)) : FnOk P w K mg base CX0 7 f fd ["self"] (spBLeast C N) := by
  refine F.ok scBLe (fun vs H Q E h => ?_) (fun cdv A outer s H vs Q E hr h => ?_)
  · obtain ⟨b, d, tb, n, rfl, _⟩ := h
    rfl
  · obtain ⟨b, d, tb, n, rfl, B, T, hN, q⟩ := h
    refine ⟨_, PSs.nox (pss_cons (ps_set (i := 1) scBLe.nd rfl (.inl rfl) (pe_lst (pa_cons (pe_lst pa_nil) pa_nil))) (pss_cons (ps_for PassesOwn.never rfl (pi_list (pe_m0 cLR BC.cl hr (by decide) pa0 (pv 0))) (pg_name (i := 2) scBLe.nd rfl (.inl rfl)) (pss_one (ps_set (i := 1) scBLe.nd rfl (.inl rfl) (pe_k cGr hr (by decide) (by rfl) (pa_cons (pv 1) (pa_cons (pv 2) pa_nil)))))) (pss_one (ps_ret (pv 1))))), ?_⟩
    have one : 1 ≤ sizeLine := by rw [sizeLine_eq]; omega
    refine ⟨Nat.zero_le _, fun e0 ne0 => ⟨one, fun A0 nA0 => ?_⟩⟩
    have T0 := Told.one ne0 nA0
    have g3 : Gr H (upd (upd H e0 (.lst [])) A0 (.lst [V.ref e0])) := (Gr.new ne0).trans (Gr.new nA0)
    generalize upd (upd H e0 (.lst [])) A0 (.lst [V.ref e0]) = H1 at g3 T0
    refine ⟨_, rfl, b, d, tb, n, rfl, B.gr g3, b, d, tb, n, rfl, B.gr g3, T, hN.gr g3, fun L H2 ks g2 T2 e2 => ?_⟩
    have Lin : ∀ r ∈ ks.map (·.2), Ris r ∧ Nms r ∧ r.length ≤ 12 ∧ ∀ y ∈ r, y ∈ allN (rws tb) := by
      intro r hr
      rw [e2] at hr
      have m1 := least_sub (fun x hx => (T.rlen hx).1) hr
      exact ⟨(T.rlen m1).1, (T.rlen m1).2.1, (T.rlen m1).2.2, row_in m1⟩
    refine ⟨L, rfl, ⟨_, .inl (.inl T2.at_)⟩, for_list (K := K) (xs := ks.map fun q : Addr × List Str => V.ref q.1) (fun i σ H3 => Gr H2 H3 ∧ ∃ (A : Addr) (as : List (Addr × List Str)) (v2 : Option V), Told H H3 A as ∧ as.map (·.2) = grown ((ks.map (·.2)).take i) ∧ σ = [some (.ref b), some (.ref A), v2]) ⟨Gr.refl H2, A0, _, none, (T0.gr g2), rfl, rfl⟩ (fun i σ H3 _ h => .inl (.inl (h.1.lst T2.at_))) (fun i x σ H3 hx h => ?_) (fun σ H3 h => ?_)⟩
    · obtain ⟨g23, A, as, v2, TA, ea, rfl⟩ := h
      obtain ⟨k0, hk0, rfl⟩ := get_map hx
      have mk := List.mem_of_getElem? hk0
      obtain ⟨rR, rN, rl, rin⟩ := Lin k0.2 (List.mem_map.mpr ⟨k0, mk, rfl⟩)
      have hin : ∀ r ∈ (ks.map (·.2)).take i, ∀ y ∈ r, y ∈ allN (rws tb) := fun r hr => (Lin r (List.mem_of_mem_take hr)).2.2.2
      have gl := grown_len (ris_allN _) hin
      have as2 : as.length ≤ 4096 := by
        have h1 := congrArg List.length ea
        rw [List.length_map] at h1
        rw [h1]
        exact Nat.le_trans gl (Nat.pow_le_pow_right (by decide) T.nms : 2 ^ _ ≤ 2 ^ 12)
      have g03 := (g3.trans g2).trans g23
      refine ⟨_, rfl, _, rfl, A, .ref k0.1, as, k0.2, rfl, TA.ll, fun q0 hq0 => ?_, by omega, ⟨k0.1, rfl, g23.lst (T2.own k0 mk).2.2, rN, by omega⟩, rR.nodup, rl, (hN.s.gr g03), fun p H4 ps g4 T4 e4 => ⟨g23.trans g4, p, ps, _, T4.from g03, ?_, rfl⟩⟩
      · have m1 : q0.2 ∈ grown ((ks.map (·.2)).take i) := by rw [← ea]; exact List.mem_map.mpr ⟨q0, hq0, rfl⟩
        obtain ⟨h1, h2, h3⟩ := grown_in (ris_allN _) hin m1
        have := T.nms
        exact ⟨h1, by omega⟩
      · rw [e4, ea, ← grown_snoc, ← List.map_take, ← List.map_take, take_map hk0]
    · obtain ⟨g23, A, as, v2, TA, ea, rfl⟩ := h
      rw [List.length_map, List.take_of_length_le (by rw [List.length_map]; exact Nat.le_refl _)] at ea
      refine ⟨_, rfl, q A H3 as ((g3.trans g2).trans g23) TA ?_⟩
      rw [ea, e2]
      have z := grown_least_rows (rws tb)
      rw [once_all fun r hr => (T.rlen hr).1] at z
      exact z
end
end K1
namespace K1
open PySem PySem.Spec PyProof.Rows L2 Gr GxR Srx Skx Dcx
section
variable {P : Program} {w : World} {K : PySem.W.Frag} {mg : Str → Option Value} {base : Heap} {f C : Addr} {fd : FuncData} {p : He.Defn} {N : TabN} {R : ErN}
abbrev nMetBy : List Str := ["self", "one", "row"]
theorem scMetBy : FnScope nMetBy ["self", "one"] (defScope m_met_by) := ⟨rfl, rfl, rfl, by decide +kernel, rfl, by decide +kernel, by decide +kernel⟩
theorem ok_metby (F : FnM K "_met_by" "Book._met_by" m_met_by (He.fAd K p) fd) (TB : Tb K base mg p) (eT : (He.cT K p).2 = N.b) (BC : BkC K mg C) (cSets : MCalls P w K mg base CX0 1 C "_sets" (spBSets C)) (cMe : Calls P w K mg base CX0 1 "meets_sets" (spMeets K N.m)) (g_all : mg "all" = none) :
    FnOk P w K mg base CX0 4 (He.fAd K p) fd ["self", "one"] (spBMetBy K C N) := by
  refine okC F scMetBy (fun vs H Q E h => ?_) (fun A outer s H vs Q E hr h => ?_)
  · obtain ⟨b, d, tb, n, a, xs, rfl, _⟩ := h
    rfl
  · obtain ⟨b, d, tb, n, a, xs, rfl, B, T, hN, ha, q⟩ := h
    have hT : TabG H (He.cT K p).2 := eT ▸ hN.b
    refine ⟨_, PSs.nox (pss_one (ps_ret (Gx.pe_all (own := [("row", 2)]) (gt := gName 2) (tt := tYes) hr rfl scMetBy.nd (by rfl) g_all TB rfl (blkOk_by (N := nMetBy) (sc := defScope m_met_by) (by decide +kernel)) (Gx.gxs_by (by decide +kernel)) (pi_list (pe_m0 cSets BC.cl hr (by decide) pa0 (pv 0))) (fun _ _ _ _ _ _ => (pg_name (i := 2) scMetBy.nd rfl (.inl rfl))) (fun _ _ _ _ _ _ => pts_nil) (fun _ _ _ _ _ _ => (pe_k cMe (Gx.room_gx hr _) (by decide) (by rfl) (pa_cons (pv 1) (pa_cons (pv 2) pa_nil))))))), ?_⟩
    refine ⟨_, rfl, b, d, tb, n, rfl, B, b, d, tb, n, rfl, B, fun L nL => ⟨L, rfl, ⟨_, .inl (.inl upd_same)⟩, ?_⟩⟩
    have g1 : Gr H (upd H L (.lst (tb.map fun e => V.ref e.2.1))) := Gr.new nL
    have eL : (upd H L (.lst (tb.map fun e => V.ref e.2.1))) L = some (.lst (tb.map fun e => V.ref e.2.1)) := upd_same
    generalize upd H L (.lst (tb.map fun e => V.ref e.2.1)) = H1 at g1 eL
    refine Gx.gx_list (xs := tb.map fun e : Int × Addr × List Str => V.ref e.2.1) (g1.tabG hT) (fun i H2 => Gr H1 H2 ∧ mtAll xs ((rws tb).take i) = true) (fun H2 t2 => ⟨Gr.tabbed (g1.tabG hT) t2, rfl⟩) (fun i H2 _ h => .inl (.inl (h.1.lst eL))) (fun i x H2 Nx nx hx h => ?_) (fun H2 h => ?_)
    · obtain ⟨g2, hn⟩ := h
      obtain ⟨e0, he0, rfl⟩ := get_map hx
      have m0 := List.mem_of_getElem? he0
      have g02 := g1.trans g2
      have etk : mtAll xs ((rws tb).take (i + 1)) = (mtAll xs ((rws tb).take i) && mt xs e0.2.2) := by
        unfold mtAll rws
        rw [← List.map_take, take_map he0, List.all_append, ← List.map_take]
        simp
      refine ⟨rfl, yesIf ?_⟩
      refine ⟨_, rfl, _, rfl, a, e0.2.1, xs, e0.2.2, rfl, .inl (.inl (g02.lst ha)), .inl (.inl ((B.gr g02).own e0 m0)), g02.tabG hN.s.m, fun H3 g3 => ⟨_, rfl, fun e => ?_, fun e => nx _ ⟨g2.trans g3, ?_⟩⟩⟩
      · have z := q H3 (g02.trans g3)
        rw [show mtAll xs (rws tb) = false from by
          rw [Bool.eq_false_iff]
          intro hh
          have := List.all_eq_true.mp hh _ (rws_mem m0)
          rw [show mt xs e0.2.2 = false from e] at this
          cases this] at z
        exact z
      · rw [etk, hn, show mt xs e0.2.2 = true from Bool.ne_false_iff.mp e]
        rfl
    · have hn := h.2
      rw [List.length_map, show (rws tb).take tb.length = rws tb from List.take_of_length_le (by unfold rws; rw [List.length_map]; exact Nat.le_refl _)] at hn
      have z := q H2 (g1.trans h.1)
      rw [hn] at z
      exact z
theorem scBMe : FnScope ["self", "names"] ["self", "names"] (defScope m_meets) := ⟨rfl, rfl, rfl, by decide +kernel, rfl, by decide +kernel, by decide +kernel⟩
theorem ok_bmeets (F : FnM K "meets" "Book.meets" m_meets f fd) (BC : BkC K mg C) (cNF : Calls P w K mg base (L2.CX P w) 3 "names_from" (spNamesFrom K N.i R)) (cMB : MCalls P w K mg base CX0 4 C "_met_by" (spBMetBy K C N)) :
    FnOk P w K mg base (L2.CX P w) 5 f fd ["self", "names"] (spBMeets K C N R) := by
  refine F.ok scBMe (fun vs H Q E h => ?_) (fun cdv A outer s H vs Q E hr h => ?_)
  · obtain ⟨b, d, tb, n, v, rfl, _⟩ := h
    rfl
  · obtain ⟨b, d, tb, n, v, rfl, B, T, hN, h⟩ := h
    refine ⟨_, pss_one (ps_ret (pe_m cMB BC.cl hr (by decide) pa0 (pv 0) (pa_cons (pe_f cNF hr (by decide) (paE (takes_of rfl rfl rfl rfl)) (by rfl) (pa_cons (pv 1) pa_nil)) pa_nil))), ?_⟩
    refine ⟨_, rfl, b, d, tb, n, rfl, B, _, rfl, _, rfl, hN.s.i, ?_⟩
    rcases h with ⟨xs, hk, q⟩ | ⟨hb, q⟩ | ⟨hb, q⟩
    · refine .inl ⟨xs, hk, fun p H1 g1 np ep => ⟨b, d, tb, n, p, once xs, rfl, B.gr g1, T, hN.gr g1, ep, fun H2 g2 => ?_⟩⟩
      rw [mtAll_once_l]
      exact q H2 (g1.trans g2)
    · exact .inr (.inl ⟨hb, q⟩)
    · exact .inr (.inr ⟨hb, q⟩)
theorem scBMg : FnScope ["self", "names", "asked"] ["self", "names"] (defScope m_meeting) := ⟨rfl, rfl, rfl, by decide +kernel, rfl, by decide +kernel, by decide +kernel⟩
theorem ok_bmeeting (F : FnM K "_meeting" "Book._meeting" m_meeting f fd) (BC : BkC K mg C) (cNF : Calls P w K mg base (L2.CX P w) 3 "names_from" (spNamesFrom K N.i R)) (cMB : MCalls P w K mg base CX0 4 C "_met_by" (spBMetBy K C N)) (eMeet : ErrC K mg "NoMeet" R.meet) :
    FnOk P w K mg base (L2.CX P w) 5 f fd ["self", "names"] (spBMeeting K C N R) := by
  refine F.ok scBMg (fun vs H Q E h => ?_) (fun cdv A outer s H vs Q E hr h => ?_)
  · obtain ⟨b, d, tb, n, v, rfl, _⟩ := h
    rfl
  · obtain ⟨b, d, tb, n, v, rfl, B, T, hN, h⟩ := h
    refine ⟨_, pss_cons (ps_set (i := 2) scBMg.nd rfl (.inl rfl) (pe_f cNF hr (by decide) (paE (takes_of rfl rfl rfl rfl)) (by rfl) (pa_cons (pv 1) pa_nil))) (pss_cons (ps_if (pt_not (pt_val (pe_m cMB BC.cl hr (by decide) pa0 (pv 0) (pa_cons (pv 2) pa_nil)))) (pss_one (ps_raise rfl (takes_of rfl rfl rfl rfl) (SkE.pmk_own1 PySem.F.excBase_ValueError eMeet.xC eMeet.gC eMeet.kC (raises_own eMeet.bC eMeet.tC) (by rfl) pe_str))) (pss_nil)) (pss_one (ps_ret (pv 2)))), ?_⟩
    refine ⟨_, rfl, _, rfl, hN.s.i, ?_⟩
    rcases h with ⟨xs, hk, hm, q⟩ | ⟨xs, hk, hm, q⟩ | ⟨hb, q⟩ | ⟨hb, q⟩
    · refine .inl ⟨xs, hk, fun p H1 g1 np ep => ⟨_, rfl, b, d, tb, n, rfl, B.gr g1, _, rfl, b, d, tb, n, p, once xs, rfl, B.gr g1, T, hN.gr g1, ep, fun H2 g2 => ⟨_, rfl, ?_⟩⟩⟩
      rw [mtAll_once_l, hm]
      exact iteF ⟨_, rfl, q p H2 (g1.trans g2) np (g2.lst ep)⟩
    · refine .inl ⟨xs, hk, fun p H1 g1 np ep => ⟨_, rfl, b, d, tb, n, rfl, B.gr g1, _, rfl, b, d, tb, n, p, once xs, rfl, B.gr g1, T, hN.gr g1, ep, fun H2 g2 => ⟨_, rfl, ?_⟩⟩⟩
      rw [mtAll_once_l, hm]
      exact iteT (q H2 (g1.trans g2))
    · exact .inr (.inl ⟨hb, q⟩)
    · exact .inr (.inr ⟨hb, q⟩)
end
end K1
namespace K1
open PySem PySem.Spec PyProof.Rows L2 Gr GxR Srx Skx Dcx
section
variable {P : Program} {w : World} {K : PySem.W.Frag} {mg : Str → Option Value} {base : Heap} {f C : Addr} {fd : FuncData} {p : He.Defn} {N : TabN} {R : ErN}
theorem scNameFrom : FnScope ["thing"] ["thing"] (defScope s_name_from) := ⟨rfl, rfl, rfl, by decide +kernel, rfl, by decide +kernel, by decide +kernel⟩
theorem ok_name_from (F : FnP K "name_from" s_name_from f fd) (cIs : Calls P w K mg base CX0 1 "is_name" (spIsName K N.i)) (eName : ErrC K mg "BadName" R.name) (gM : ∃ t, mg "MOST_LETTERS" = some (.int 8 t)) : FnOk P w K mg base (L2.CX P w) 2 f fd ["thing"] (spNameFrom K N.i R) := by
  obtain ⟨tM, gM⟩ := gM
  refine F.ok scNameFrom (fun vs H Q E h => ?_) (fun cdv A outer s H vs Q E hr h => ?_)
  · obtain ⟨v, rfl, _⟩ := h
    rfl
  · obtain ⟨v, rfl, th, hT, h⟩ := h
    refine ⟨_, pss_cons (ps_if (pt_not (pt_val (pe_k cIs hr (by decide) (by rfl) (pa_cons (pv 0) pa_nil)))) (pss_one (ps_raise rfl (takes_of rfl rfl rfl rfl) (SkE.pmk_own1 PySem.F.excBase_ValueError eName.xC eName.gC eName.kC (raises_own eName.bC eName.tC) (by rfl) (pe_joined (.cons pe_str (.cons (pe_fmt (pe_glob (v := .int 8) (by rfl) gM ⟨_, rfl⟩)) (.cons pe_str .nil))))))) (pss_nil)) (pss_one (ps_ret (pv 0))), ?_⟩
    refine ⟨_, rfl, v, rfl, th, hT, fun H1 g1 => ⟨_, rfl, ?_⟩⟩
    rcases h with ⟨e, q⟩ | ⟨e, q⟩
    · rw [e]
      exact iteF ⟨_, rfl, q H1 g1⟩
    · rw [e]
      refine iteT ⟨_, rfl, by rw [sizeLine_eq]; decide +kernel, .inr ⟨_, rfl, by decide, _, rfl, by rw [sizeLine_eq]; decide +kernel, _, rfl, by rw [sizeLine_eq]; decide +kernel, q _ g1⟩⟩
abbrev nBookOf : List Str := ["rows", "book", "row"]
theorem scBookOf : FnScope nBookOf ["rows"] (defScope s_book_of) := ⟨rfl, rfl, rfl, by decide +kernel, rfl, by decide +kernel, by decide +kernel⟩
theorem ok_book_of (F : FnP K "_book_of" s_book_of f fd) (BC : BkC K mg C) (cMk : MkB P w K mg base C) (cPut : MCalls P w K mg base (L2.CX P w) 5 C "put" (spPut K C N R)) : FnOk P w K mg base (L2.CX P w) 6 f fd ["rows"] (spBookOf C N R) := by
  refine F.ok scBookOf (fun vs H Q E h => ?_) (fun cdv A outer s H vs Q E hr h => ?_)
  · obtain ⟨a, ps, rfl, _⟩ := h
    rfl
  · obtain ⟨a, ps, rfl, lA, hrow, few, hN, h⟩ := h
    refine ⟨_, pss_cons (ps_set (i := 1) scBookOf.nd rfl (.inl rfl) (pe_new cMk BC hr (by decide) (by rfl))) (pss_cons (ps_for (passes_of rfl) rfl (pi_list (pv 0)) (pg_name (i := 2) scBookOf.nd rfl (.inl rfl)) (pss_one (ps_expr (pe_m cPut BC.cl hr (by decide) (paE (takes_of rfl rfl rfl rfl)) (pv 1) (pa_cons (pv 2) pa_nil))))) (pss_one (ps_ret (pv 1)))), ?_⟩
    intro b d H1 g1 nb ndd B1
    refine ⟨_, rfl, a, rfl, ⟨_, .inl (.inl (lA.gr g1).at_)⟩, for_list (K := K) (xs := ps.map fun q : Addr × List Str => V.ref q.1) (fun i σ H2 => Gr H H2 ∧ ∃ (tb : Tb1) (v : Option V), NewB C H H2 b d tb ((ps.take i).map (·.2)) ∧ σ = [some (.ref a), some (.ref b), v]) ⟨g1, [], none, ⟨nb, ndd, B1, Tok.nil, rfl⟩, rfl⟩ (fun i σ H2 _ h => .inl (.inl (lA.gr h.1).at_)) (fun i x σ H2 hx h => ?_) (fun σ H2 h => ?_)⟩
    · obtain ⟨g2, tb, v, NB, rfl⟩ := h
      obtain ⟨q0, hq0, rfl⟩ := get_map hx
      have m0 := List.mem_of_getElem? hq0
      have hi : i < ps.length := (List.getElem?_eq_some_iff.mp hq0).1
      obtain ⟨rn, rd, rl⟩ := hrow q0.2 (List.mem_map.mpr ⟨q0, m0, rfl⟩)
      have el := (lA.gr g2).own q0 m0
      have len : ((ps.take i).map (·.2)).length = i := by rw [List.length_map, List.length_take]; omega
      have tlen : tb.length = i := by
        have h1 := congrArg List.length NB.rows
        unfold nr numd at h1
        rw [List.length_map, List.length_mapIdx, List.length_map, len] at h1
        exact h1
      have eN : allN (rws tb ++ [q0.2]) = allN ((ps.take (i + 1)).map (·.2)) := by
        rw [NB.rws, ← allN_once, ← List.map_singleton (f := once), ← List.map_append, allN_map_once, take_map hq0]
      refine ⟨_, rfl, b, d, tb, _, rfl, NB.bk, _, rfl, b, d, tb, _, .ref q0.1, rfl, NB.bk, NB.ok, hN.gr g2, ?_⟩
      by_cases hok : tb.length < 30 ∧ (allN (rws tb ++ [q0.2])).length ≤ 12
      · refine .inl ⟨q0.2, ⟨q0.1, rfl, el, rn, by omega⟩, rl, rd, hok.1, hok.2, fun p H4 g4 np B4 => ⟨GrX.young g2 g4 (fun z hz => ?_), tb ++ [((((ps.take i).map (·.2)).length : Int), p, once q0.2)], _, ⟨nb, ndd, ?_, ?_, ?_⟩, rfl⟩⟩
        · rcases hz with rfl | rfl
          · exact nb
          · exact ndd
        · rw [take_map hq0, List.length_append]
          exact B4
        · rw [take_map hq0, List.length_append]
          exact NB.ok.put rn hok.1 hok.2 p
        · rw [nr_snoc, NB.rows, take_map hq0, List.map_append]
          show _ = numd (_ ++ [once q0.2])
          rw [numd_snoc, List.length_map (f := once)]
      · refine .inr (.inl ⟨q0.2, ⟨q0.1, rfl, el, rn, by omega⟩, rl, rd, by omega, fun H4 g4 => ?_⟩)
        rcases h with ⟨RO, _⟩ | ⟨_, q⟩
        · refine absurd ⟨?_, ?_⟩ hok
          · have := RO.few
            rw [List.length_map] at this
            omega
          · rw [eN]
            exact Nat.le_trans (allN_mono fun r hr => ((List.take_sublist (i + 1) ps).map _).subset hr) RO.wide
        · exact q H4 (g2.trans g4)
    · obtain ⟨g2, tb, v, NB, rfl⟩ := h
      rw [List.length_map, List.take_length] at NB
      rcases h with ⟨_, q⟩ | ⟨nRO, _⟩
      · exact ⟨_, rfl, q b d H2 tb g2 NB⟩
      · refine absurd ⟨hrow, ?_, ?_⟩ nRO
        · have h1 := NB.ok.few
          have h2 := congrArg List.length NB.rows
          unfold nr numd at h2
          rw [List.length_map, List.length_mapIdx, List.length_map] at h2
          omega
        · have h1 := NB.ok.nms
          rw [NB.rws, allN_map_once] at h1
          exact h1
end
end K1
namespace K1
open PySem PySem.Spec PyProof.Rows L2 Gr GxR Srx Skx Dcx
section
variable {P : Program} {w : World} {K : PySem.W.Frag} {mg : Str → Option Value} {base : Heap} {f C : Addr} {fd : FuncData} {p : He.Defn} {N : TabN} {R : ErN}
abbrev nStruck : List Str := ["self", "name", "gone", "row", "one"]
theorem scStruck : FnScope nStruck ["self", "name"] (defScope m_struck) := ⟨rfl, rfl, rfl, by decide +kernel, rfl, by decide +kernel, by decide +kernel⟩
theorem ok_struck (F : FnM K "struck" "Book.struck" m_struck f fd) (BC : BkC K mg C) (cNm : Calls P w K mg base (L2.CX P w) 2 "name_from" (spNameFrom K N.i R)) (cBO : Calls P w K mg base (L2.CX P w) 6 "_book_of" (spBookOf C N R)) (cSets : MCalls P w K mg base CX0 1 C "_sets" (spBSets C)) :
    FnOk P w K mg base (L2.CX P w) 7 f fd ["self", "name"] (spStruck K C N R strike) := by
  refine F.ok scStruck (fun vs H Q E h => ?_) (fun cdv A outer s H vs Q E hr h => ?_)
  · obtain ⟨b, d, tb, n, v, rfl, _⟩ := h
    rfl
  · obtain ⟨b, d, tb, n, v, rfl, B, T, hN, th, h⟩ := h
    refine ⟨_, pss_cons (ps_set (i := 2) scStruck.nd rfl (.inr rfl) (pe_f cNm hr (by decide) (paE (takes_of rfl rfl rfl rfl)) (by rfl) (pa_cons (pv 1) pa_nil)))
      (pss_one (ps_ret (pe_f cBO hr (by decide) (paE (takes_of rfl rfl rfl rfl)) (by rfl) (pa_cons (pe_lc (own := [("row", 3)]) (g := gName 3) (tt := tYes) rfl scStruck.nd (pi_list (pe_m0 cSets BC.cl hr (by decide) pa0 (pv 0))) (blkOk_by (N := nStruck) (sc := defScope m_struck) (by decide +kernel))
        (fun _ _ _ _ _ => pg_name (i := 3) scStruck.nd rfl (.inl rfl)) (fun _ _ _ _ _ => pts_nil)
        (fun _ _ _ _ _ => pe_lc (own := [("one", 4)]) (g := gName 4) (wi := iList K (tVar 3)) rfl scStruck.nd (pi_list (pv 3)) (blkOk_by (N := nStruck) (sc := relS (stScope2 m_struck) (defScope m_struck)) (by decide +kernel))
          (fun _ _ _ _ _ => pg_name (i := 4) scStruck.nd rfl (.inl rfl)) (fun _ _ _ _ _ => pts_one (pt_cmpR op_ne (pv 4) (pv 2) (nomark _))) (fun _ _ _ _ _ => pv 4))) pa_nil)))), ?_⟩
    refine ⟨_, rfl, v, rfl, th, hN.s.i, ?_⟩
    rcases h with ⟨x, rfl, nx, q⟩ | ⟨e, q⟩
    rotate_left
    · exact .inr ⟨e, q⟩
    refine .inl ⟨nx, fun H1 g1 => ?_⟩
    have B1 := B.gr g1
    refine ⟨_, rfl, b, d, tb, n, rfl, B1, b, d, tb, n, rfl, B1, fun L nL => ⟨L, rfl, ⟨_, .inl (.inl upd_same)⟩, fun D nD => ?_⟩⟩
    have g2 : Gr H1 (upd H1 L (.lst (tb.map fun e => V.ref e.2.1))) := Gr.new nL
    have eL : (upd H1 L (.lst (tb.map fun e => V.ref e.2.1))) L = some (.lst ((tb.map fun e => (e.2.1, e.2.2)).map fun q => V.ref q.1)) := by
      rw [upd_same, List.map_map]
      rfl
    have B2 := B1.gr g2
    generalize upd H1 L (.lst (tb.map fun e => V.ref e.2.1)) = H2 at g2 eL B2 nD
    have few := T.few
    refine lc_fresh3 (K := K) (ps0 := tb.map fun e => (e.2.1, e.2.2)) (fun r => r.filter fun y => decide (y ≠ x)) (.inl (.inl eL)) ?_ nD (fun _ => rfl) (fun q0 hq0 H4 Q' g4 hq => ?_) (fun H3 ps g3 T3 e3 => ?_)
    · rw [List.length_map]
      exact small1000 (by omega)
    · obtain ⟨e, he, rfl⟩ := List.mem_map.mp hq0
      have rl := (T.rlen (rws_mem he)).2.2
      refine ⟨_, rfl, e.2.1, rfl, ⟨_, .inl (.inl ((B2.gr g4).own e he))⟩, fun D2 nD2 => lc_filtT (K := K) (fun y => decide (y ≠ x)) (.inl (.inl ((B2.gr g4).own e he))) (small1000 (by omega)) nD2 (fun _ => rfl) (fun _ => rfl) (fun y hy H5 Qb g5 hb => ?_) (fun H5 g5 e5 => hq D2 H5 g5 nD2 e5)⟩
      refine ⟨_, rfl, _, rfl, rfl, _, rfl, ?_⟩
      rw [ne_strB]
      exact hb H5 (Gr.refl H5)
    · have e3' : ps.map (·.2) = strike x (rws tb) := by
        rw [e3, ← tb_map]
        unfold strike
        simp only [List.map_map, Function.comp_def]
      have RO : RowsOk (ps.map (·.2)) := by
        rw [e3']
        refine rows_facts T (by rw [strike, List.length_map, rws_len]; exact few) fun r hr => ?_
        obtain ⟨r0, h0, rfl⟩ := List.mem_map.mp hr
        exact ⟨r0, h0, List.filter_sublist⟩
      have pl : ps.length ≤ 1000 := by
        have h1 := RO.few
        rw [List.length_map] at h1
        omega
      refine ⟨D, ps, rfl, T3.ll, fun r hr => RO.row r hr, pl, hN.gr ((g1.trans g2).trans g3), .inl ⟨RO, fun b' d' H' tb' g' NB => ?_⟩⟩
      have g0 := (g1.trans g2).trans g3
      rw [e3'] at NB
      exact q b' d' H' tb' (g0.trans g') (NB.from g0)
abbrev nWithout : List Str := ["self", "name", "gone", "row"]
theorem scWithout : FnScope nWithout ["self", "name"] (defScope m_without) := ⟨rfl, rfl, rfl, by decide +kernel, rfl, by decide +kernel, by decide +kernel⟩
theorem ok_without (F : FnM K "without" "Book.without" m_without f fd) (BC : BkC K mg C) (cNm : Calls P w K mg base (L2.CX P w) 2 "name_from" (spNameFrom K N.i R)) (cBO : Calls P w K mg base (L2.CX P w) 6 "_book_of" (spBookOf C N R)) (cSets : MCalls P w K mg base CX0 1 C "_sets" (spBSets C)) :
    FnOk P w K mg base (L2.CX P w) 7 f fd ["self", "name"] (spStruck K C N R away) := by
  refine F.ok scWithout (fun vs H Q E h => ?_) (fun cdv A outer s H vs Q E hr h => ?_)
  · obtain ⟨b, d, tb, n, v, rfl, _⟩ := h
    rfl
  · obtain ⟨b, d, tb, n, v, rfl, B, T, hN, th, h⟩ := h
    refine ⟨_, pss_cons (ps_set (i := 2) scWithout.nd rfl (.inr rfl) (pe_f cNm hr (by decide) (paE (takes_of rfl rfl rfl rfl)) (by rfl) (pa_cons (pv 1) pa_nil))) (pss_one (ps_ret (pe_f cBO hr (by decide) (paE (takes_of rfl rfl rfl rfl)) (by rfl) (pa_cons (pe_lc (own := [("row", 3)]) (g := gName 3) rfl scWithout.nd (pi_list (pe_m0 cSets BC.cl hr (by decide) pa0 (pv 0))) (blkOk_by (N := nWithout) (sc := defScope m_without) (by decide +kernel)) (fun _ _ _ _ _ => (pg_name (i := 3) scWithout.nd rfl (.inl rfl))) (fun _ _ _ _ _ => pts_one (pt_cmpR (r := rIn K true) op_notIn_seq (pv 2) (pv 3) rfl)) (fun _ _ _ _ _ => (pv 3))) pa_nil)))), ?_⟩
    refine ⟨_, rfl, v, rfl, th, hN.s.i, ?_⟩
    rcases h with ⟨x, rfl, nx, q⟩ | ⟨e, q⟩
    rotate_left
    · exact .inr ⟨e, q⟩
    refine .inl ⟨nx, fun H1 g1 => ?_⟩
    have B1 := B.gr g1
    have few := T.few
    refine ⟨_, rfl, b, d, tb, n, rfl, B1, b, d, tb, n, rfl, B1, fun L nL => ⟨L, rfl, ⟨_, .inl (.inl upd_same)⟩, fun D nD => ?_⟩⟩
    have g2 : Gr H1 (upd H1 L (.lst (tb.map fun e => V.ref e.2.1))) := Gr.new nL
    have eL : (upd H1 L (.lst (tb.map fun e => V.ref e.2.1))) L = some (.lst ((tb.map fun e => (e.2.1, e.2.2)).map fun q => V.ref q.1)) := by
      rw [upd_same, List.map_map]
      rfl
    have B2 := B1.gr g2
    generalize upd H1 L (.lst (tb.map fun e => V.ref e.2.1)) = H2 at g2 eL B2 nD
    refine lc_filtL (K := K) (ps := tb.map fun e => (e.2.1, e.2.2)) (fun q => !q.2.contains x) (.inl (.inl eL)) ?_ nD (fun _ => rfl) (fun _ => rfl) (fun q0 hq0 H4 Qb g4 hb => ?_) (fun H3 g3 e3 => ?_)
    · rw [List.length_map]
      exact small1000 (by omega)
    · obtain ⟨e, he, rfl⟩ := List.mem_map.mp hq0
      refine ⟨_, rfl, _, rfl, e.2.1, _, rfl, .inl (.inl (.inl ((B2.gr g4).own e he))), rfl, flat_str e.2.2, _, rfl, ?_⟩
      rw [inV_str]
      exact hb H4 (Gr.refl H4)
    · have g0 := (g1.trans g2).trans g3
      have e4 : (((tb.map fun e => (e.2.1, e.2.2)).filter fun q => !q.2.contains x).map (·.2)) = away x (rws tb) := by
        unfold away
        rw [← tb_map, List.filter_map (f := fun q : Addr × List Str => q.2)]
        rfl
      have RO : RowsOk (((tb.map fun e => (e.2.1, e.2.2)).filter fun q => !q.2.contains x).map (·.2)) := by
        rw [e4]
        refine rows_facts T (Nat.le_trans (List.length_filter_le _ _) (by rw [rws_len]; exact few)) fun r hr => ⟨r, (List.mem_filter.mp hr).1, List.Sublist.refl _⟩
      have pl := RO.few
      rw [List.length_map] at pl
      refine ⟨D, _, rfl, ⟨e3, fun q0 hq0 => ?_⟩, fun r hr => RO.row r hr, by omega, hN.gr g0, .inl ⟨RO, fun b' d' H' tb' g' NB => ?_⟩⟩
      · obtain ⟨e, he, rfl⟩ := List.mem_map.mp (List.mem_filter.mp hq0).1
        exact (B2.gr g3).own e he
      · rw [e4] at NB
        exact q b' d' H' tb' (g0.trans g') (NB.from g0)
theorem scJoined : FnScope ["self", "other"] ["self", "other"] (defScope m_joined) := ⟨rfl, rfl, rfl, by decide +kernel, rfl, by decide +kernel, by decide +kernel⟩
theorem ok_joined (F : FnM K "joined" "Book.joined" m_joined f fd) (BC : BkC K mg C) (cBO : Calls P w K mg base (L2.CX P w) 6 "_book_of" (spBookOf C N R)) (cSets : MCalls P w K mg base CX0 1 C "_sets" (spBSets C)) :
    FnOk P w K mg base (L2.CX P w) 7 f fd ["self", "other"] (spJoined K C N R fun A B => A ++ B) := by
  refine F.ok scJoined (fun vs H Q E h => ?_) (fun cdv A outer s H vs Q E hr h => ?_)
  · obtain ⟨b, d, tb, n, b2, d2, tb2, n2, rfl, _⟩ := h
    rfl
  · obtain ⟨b, d, tb, n, b2, d2, tb2, n2, rfl, B, T, B2, T2, hN, h⟩ := h
    refine ⟨_, pss_one (ps_ret (pe_f cBO hr (by decide) (paE (takes_of rfl rfl rfl rfl)) (by rfl) (pa_cons (pe_op op_cat (pe_m0 cSets BC.cl hr (by decide) pa0 (pv 0)) (pe_m0 cSets BC.cl hr (by decide) pa0 (pv 1))) pa_nil))), ?_⟩
    have few := T.few
    have few2 := T2.few
    refine ⟨_, rfl, b, d, tb, n, rfl, B, b, d, tb, n, rfl, B, fun L nL => ?_⟩
    have g1 : Gr H (upd H L (.lst (tb.map fun e => V.ref e.2.1))) := Gr.new nL
    have eL : (upd H L (.lst (tb.map fun e => V.ref e.2.1))) L = some (.lst (tb.map fun e => V.ref e.2.1)) := upd_same
    generalize upd H L (.lst (tb.map fun e => V.ref e.2.1)) = H1 at g1 eL
    refine ⟨_, rfl, b2, d2, tb2, n2, rfl, B2.gr g1, b2, d2, tb2, n2, rfl, B2.gr g1, fun L2 nL2 => ?_⟩
    have g2 : Gr H1 (upd H1 L2 (.lst (tb2.map fun e => V.ref e.2.1))) := Gr.new nL2
    have eL2 : (upd H1 L2 (.lst (tb2.map fun e => V.ref e.2.1))) L2 = some (.lst (tb2.map fun e => V.ref e.2.1)) := upd_same
    generalize upd H1 L2 (.lst (tb2.map fun e => V.ref e.2.1)) = H2 at g2 eL2
    refine ⟨_, _, _, _, rfl, rfl, g2.lst eL, eL2, ?_, fun D nD => ?_⟩
    · rw [List.length_map, List.length_map]
      exact Nat.le_of_lt (small1000 (by omega))
    have g3 : Gr H2 (upd H2 D (.lst ((tb.map fun e => V.ref e.2.1) ++ tb2.map fun e => V.ref e.2.1))) := Gr.new nD
    have eD : (upd H2 D (.lst ((tb.map fun e => V.ref e.2.1) ++ tb2.map fun e => V.ref e.2.1))) D = some (.lst (((tb ++ tb2).map fun e => (e.2.1, e.2.2)).map fun q => V.ref q.1)) := by
      rw [upd_same, List.map_map, ← List.map_append]
      rfl
    generalize upd H2 D (.lst ((tb.map fun e => V.ref e.2.1) ++ tb2.map fun e => V.ref e.2.1)) = H3 at g3 eD
    have g0 := (g1.trans g2).trans g3
    have er : ((tb ++ tb2).map fun e => (e.2.1, e.2.2)).map (·.2) = rws tb ++ rws tb2 := by
      rw [tb_map]
      unfold rws
      rw [List.map_append]
    refine ⟨D, _, rfl, ⟨eD, fun q0 hq0 => ?_⟩, fun r hr => ?_, ?_, hN.gr g0, ?_⟩
    · obtain ⟨e, he, rfl⟩ := List.mem_map.mp hq0
      rcases List.mem_append.mp he with he | he
      · exact (B.gr g0).own e he
      · exact (B2.gr g0).own e he
    · rw [er] at hr
      rcases List.mem_append.mp hr with hr | hr
      · have := T.rlen hr
        exact ⟨this.2.1, this.1.nodup, by omega⟩
      · have := T2.rlen hr
        exact ⟨this.2.1, this.1.nodup, by omega⟩
    · rw [List.length_map, List.length_append]
      omega
    · rw [er]
      rcases h with ⟨RO, q⟩ | ⟨nRO, q⟩
      · exact .inl ⟨RO, fun b' d' H' tb' g' NB => q b' d' H' tb' (g0.trans g') (NB.from g0)⟩
      · exact .inr ⟨nRO, fun H' g' => q H' (g0.trans g')⟩
abbrev nCrossed : List Str := ["self", "other", "row", "theirs"]
theorem scCrossed : FnScope nCrossed ["self", "other"] (defScope m_crossed) := ⟨rfl, rfl, rfl, by decide +kernel, rfl, by decide +kernel, by decide +kernel⟩
theorem ok_crossed (F : FnM K "crossed" "Book.crossed" m_crossed f fd) (BC : BkC K mg C) (cBO : Calls P w K mg base (L2.CX P w) 6 "_book_of" (spBookOf C N R)) (cRis : Calls P w K mg base (L2.CX P w) 2 "rising" (spRising K N.i R.name)) (cSets : MCalls P w K mg base CX0 1 C "_sets" (spBSets C)) :
    FnOk P w K mg base (L2.CX P w) 7 f fd ["self", "other"] (spJoined K C N R unions) := by
  refine F.ok scCrossed (fun vs H Q E h => ?_) (fun cdv A outer s H vs Q E hr h => ?_)
  · obtain ⟨b, d, tb, n, b2, d2, tb2, n2, rfl, _⟩ := h
    rfl
  · obtain ⟨b, d, tb, n, b2, d2, tb2, n2, rfl, B, T, B2, T2, hN, h⟩ := h
    refine ⟨_, pss_one (ps_ret (pe_f cBO hr (by decide) (paE (takes_of rfl rfl rfl rfl)) (by rfl) (pa_cons (pe_lc2 (own := [("row", 2), ("theirs", 3)]) (g := gName 2) (tt := tYes) (g1 := gName 3) (tt1 := tYes) (vs1 := [3]) (wi1 := iList K (tM C (spBSets C) (fun _ => E0) (tVar 1) tNil)) rfl scCrossed.nd (pi_list (pe_m0 cSets BC.cl hr (by decide) pa0 (pv 0))) (blkOk_by (N := nCrossed) (sc := defScope m_crossed) (by decide +kernel)) (by decide)
        (fun _ _ _ _ _ => pg_name (i := 2) scCrossed.nd rfl (.inl rfl)) (fun _ _ _ _ _ => pts_nil) (fun _ _ _ _ _ => pi_list (pe_m0 cSets BC.cl hr (by decide) pa0 (pv 1))) (fun _ _ _ _ _ => pg_name (i := 3) scCrossed.nd rfl (.inl rfl)) (fun _ _ _ _ _ => pts_nil)
        (fun _ _ _ _ _ => pe_f cRis hr (by decide) paL (by rfl) (pa_cons (pe_op op_cat (pv 2) (pv 3)) pa_nil))) pa_nil))), ?_⟩
    have few := T.few
    have few2 := T2.few
    refine ⟨_, rfl, b, d, tb, n, rfl, B, b, d, tb, n, rfl, B, fun L nL => ⟨L, rfl, ⟨_, .inl (.inl upd_same)⟩, fun D nD => ?_⟩⟩
    have g1 : Gr H (upd H L (.lst (tb.map fun e => V.ref e.2.1))) := Gr.new nL
    have eL : (upd H L (.lst (tb.map fun e => V.ref e.2.1))) L = some (.lst ((tb.map fun e => (e.2.1, e.2.2)).map fun q => V.ref q.1)) := by
      rw [upd_same, List.map_map]
      rfl
    generalize upd H L (.lst (tb.map fun e => V.ref e.2.1)) = H1 at g1 eL nD
    refine lc2_new (K := K) (ps := tb.map fun e => (e.2.1, e.2.2)) (qs := tb2.map fun e => (e.2.1, e.2.2)) (fun x y => once (x ++ y)) (.inl (.inl eL)) ?_ nD (fun q0 hq0 H3 Rr g3 hc => ?_) (fun q0 hq0 u0 hu0 H5 Q' g5 hq => ?_) (fun H2 rs g2 T3 e3 => ?_) (fun _ => rfl) (fun _ _ => rfl)
    · rw [List.length_map, List.length_map]
      exact small1000 (Nat.le_trans (Nat.mul_le_mul few few2) (by decide))
    · have B3 := B2.gr (g1.trans g3)
      exact ⟨_, rfl, b2, d2, tb2, n2, rfl, B3, b2, d2, tb2, n2, rfl, B3, fun c nc => ⟨c, rfl, ⟨_, .inl (.inl upd_same)⟩, hc c _ (Gr.new nc) nc (by rw [upd_same, List.map_map]; rfl)⟩⟩
    · obtain ⟨e, he, rfl⟩ := List.mem_map.mp hq0
      obtain ⟨u, hu, rfl⟩ := List.mem_map.mp hu0
      have g05 := g1.trans g5
      obtain ⟨_, en, el⟩ := T.rlen (rws_mem he)
      obtain ⟨_, un, ul⟩ := T2.rlen (rws_mem hu)
      refine ⟨_, rfl, _, rfl, _, _, _, _, rfl, rfl, (B.gr g05).own e he, (B2.gr g05).own u hu, ?_, fun c nc => ?_⟩
      · rw [List.length_map, List.length_map]
        exact Nat.le_of_lt (small1000 (by omega))
      have g6 : Gr H5 (upd H5 c (.lst (e.2.2.map V.str ++ u.2.2.map V.str))) := Gr.new nc
      have ec : (upd H5 c (.lst (e.2.2.map V.str ++ u.2.2.map V.str))) c = some (.lst ((e.2.2 ++ u.2.2).map V.str)) := by
        rw [upd_same, List.map_append]
      generalize upd H5 c (.lst (e.2.2.map V.str ++ u.2.2.map V.str)) = H6 at g6 ec
      have nm : Nms (e.2.2 ++ u.2.2) := fun y hy => (List.mem_append.mp hy).elim (en y) (un y)
      refine ⟨c, _, rfl, .inl (.inl ec), nms_things nm, ?_, (g05.trans g6).tabG hN.s.i, .inl ⟨_, rfl, nms_all.mpr nm, fun l H7 g7 nl el7 => hq l H7 (g6.trans g7) (g6.free nl) el7⟩⟩
      rw [List.length_map, List.length_append]
      omega
    · have er : rs.map (·.2) = unions (rws tb) (rws tb2) := by
        rw [e3]
        unfold unions
        rw [← tb_map tb, ← tb_map tb2]
        simp only [List.flatMap_map, List.map_map, Function.comp_def]
      have g0 := g1.trans g2
      refine ⟨D, rs, rfl, T3.ll, fun r hr => ?_, ?_, hN.gr g0, ?_⟩
      · rw [er] at hr
        obtain ⟨x, hx, y, hy, rfl⟩ := unions_mem.mp hr
        obtain ⟨_, en, el⟩ := T.rlen hx
        obtain ⟨_, un, ul⟩ := T2.rlen hy
        refine ⟨once_nms fun z hz => (List.mem_append.mp hz).elim (en z) (un z), (ris_once _).nodup, ?_⟩
        have := once_len (xs := x ++ y)
        rw [List.length_append] at this
        omega
      · have h1 := congrArg List.length e3
        rw [List.length_map] at h1
        rw [h1, flat_len]
        rw [List.length_map, List.length_map]
        exact Nat.le_trans (Nat.mul_le_mul few few2) (by decide)
      · rw [er]
        rcases h with ⟨RO, q⟩ | ⟨nRO, q⟩
        · exact .inl ⟨RO, fun b' d' H' tb' g' NB => q b' d' H' tb' (g0.trans g') (NB.from g0)⟩
        · exact .inr ⟨nRO, fun H' g' => q H' (g0.trans g')⟩
end
end K1
namespace K1
open PySem PySem.Spec PyProof.Rows L2 Gr GxR Srx Skx Dcx
section
variable {P : Program} {w : World} {K : PySem.W.Frag} {mg : Str → Option Value} {base : Heap} {f C : Addr} {fd : FuncData} {p : He.Defn} {N : TabN} {R : ErN}
abbrev nBPared : List Str := ["self", "names", "asked", "kept", "name", "rest", "one"]
theorem scBPared : FnScope nBPared ["self", "names"] (defScope m_pared) := ⟨rfl, rfl, rfl, by decide +kernel, rfl, by decide +kernel, by decide +kernel⟩
theorem ok_bpared (F : FnM K "pared" "Book.pared" m_pared f fd) (BC : BkC K mg C) (cMg : MCalls P w K mg base (L2.CX P w) 5 C "_meeting" (spBMeeting K C N R)) (cMB : MCalls P w K mg base CX0 4 C "_met_by" (spBMetBy K C N)) (g_reversed : mg "reversed" = none) :
    FnOk P w K mg base (L2.CX P w) 6 f fd ["self", "names"] (spBPared K C N R) := by
  refine F.ok scBPared (fun vs H Q E h => ?_) (fun cdv A outer s H vs Q E hr h => ?_)
  · obtain ⟨b, d, tb, n, v, rfl, _⟩ := h
    rfl
  · obtain ⟨b, d, tb, n, v, rfl, B, T, hN, h⟩ := h
    refine ⟨_, pss_cons (ps_set (i := 2) scBPared.nd rfl (.inl rfl) (pe_m cMg BC.cl hr (by decide) (paE (takes_of rfl rfl rfl rfl)) (pv 0) (pa_cons (pv 1) pa_nil))) (pss_cons (ps_set (i := 3) scBPared.nd rfl (.inl rfl) (pv 2)) (pss_cons (ps_for (passes_of rfl) rfl (pi_reversed (by rfl) g_reversed (pa_cons (pv 2) pa_nil)) (pg_name (i := 4) scBPared.nd rfl (.inr rfl)) (pss_cons (ps_setLc (i := 5) (own := [("one", 6)]) (g := gName 6) rfl scBPared.nd rfl rfl (sw_true rfl rfl rfl (by decide +kernel)) (pi_list (pv 3)) (blkOk_by (N := nBPared) (sc := defScope m_pared) (by decide +kernel)) (fun _ _ _ _ _ => (pg_name (i := 6) scBPared.nd rfl (.inl rfl))) (fun _ _ _ _ _ => pts_one (pt_cmpR op_ne (pv 6) (pv 4) (nomark _))) (fun _ _ _ _ _ => (pv 6))) (pss_one (ps_if (pt_val (pe_m cMB BC.cl hr (by decide) pa0 (pv 0) (pa_cons (pv 5) pa_nil))) (pss_one (ps_set (i := 3) scBPared.nd rfl (.inl rfl) (pv 5))) (pss_nil))))) (pss_one (ps_ret (pv 3))))), ?_⟩
    refine ⟨_, rfl, b, d, tb, n, rfl, B, _, rfl, b, d, tb, n, v, rfl, B, T, hN, ?_⟩
    rcases h with ⟨xs, hk, hm, q⟩ | ⟨xs, hk, hm, q⟩ | ⟨hb, q⟩ | ⟨hb, q⟩
    rotate_left
    · exact .inr (.inl ⟨xs, hk, hm, q⟩)
    · exact .inr (.inr (.inl ⟨hb, q⟩))
    · exact .inr (.inr (.inr ⟨hb, q⟩))
    obtain ⟨_, _, _, nmx, fewx⟩ := id hk
    refine .inl ⟨xs, hk, hm, fun a H1 g1 na ea => ?_⟩
    have al : (once xs).length ≤ 1000 := Nat.le_trans once_len fewx
    refine ⟨_, rfl, ?_⟩
    refine ⟨_, rfl, a, _, rfl, .inl (.inl ea), for_rev (K := K) (xs := (once xs).map V.str) (fun i σ H2 => Gr H1 H2 ∧ ∃ (k : Addr) (v4 v5 : Option V), H k = none ∧ H2 k = some (.lst (((once xs).reverse.take i).foldl (pareStep (rws tb)) (once xs) |>.map V.str)) ∧ σ = [some (.ref b), some v, some (.ref a), some (.ref k), v4, v5, none]) ⟨Gr.refl H1, a, none, none, na, ea, rfl⟩ (fun i σ H2 _ h => .inl (.inl (h.1.lst ea))) (fun i x σ H2 hx h => ?_) (fun σ H2 h => ?_)⟩
    · obtain ⟨g2, k, v4, v5, nk, ek, rfl⟩ := h
      rw [← List.map_reverse] at hx
      obtain ⟨x0, hx0, rfl⟩ := get_map hx
      generalize hleft : ((once xs).reverse.take i).foldl (pareStep (rws tb)) (once xs) = left at ek
      have ll : left.length ≤ 1000 := by rw [← hleft]; exact Nat.le_trans (pare_len _ _ _) al
      have estep : ((once xs).reverse.take (i + 1)).foldl (pareStep (rws tb)) (once xs) = pareStep (rws tb) left x0 := by
        rw [List.take_add_one, hx0, List.foldl_append, hleft]
        rfl
      refine ⟨_, rfl, k, rfl, ⟨_, .inl (.inl ek)⟩, fun D nD => lc_filtT (K := K) (fun y => decide (y ≠ x0)) (.inl (.inl ek)) (small1000 ll) nD (fun _ => rfl) (fun _ => rfl) (fun y hy H5 Qb g5 hb => ?_) (fun H3 g3 e3 => ?_)⟩
      · refine ⟨_, rfl, _, rfl, rfl, _, rfl, ?_⟩
        rw [ne_strB]
        exact hb H5 (Gr.refl H5)
      · have g03 := (g1.trans g2).trans g3
        refine ⟨_, rfl, b, d, tb, n, rfl, B.gr g03, _, rfl, b, d, tb, n, D, _, rfl, B.gr g03, T, hN.gr g03, e3, fun H4 g4 => ⟨_, rfl, ?_⟩⟩
        cases em : mtAll (left.filter fun y => decide (y ≠ x0)) (rws tb) with
        | true =>
          refine iteT ⟨_, rfl, g2.trans (g3.trans g4), D, _, _, (g1.trans g2).free nD, ?_, rfl⟩
          rw [estep, pareStep, if_pos em]
          exact g4.lst e3
        | false =>
          refine iteF ⟨g2.trans (g3.trans g4), k, _, _, nk, ?_, rfl⟩
          rw [estep, pareStep, if_neg (by rw [em]; exact Bool.false_ne_true)]
          exact (g3.trans g4).lst ek
    · obtain ⟨g2, k, v4, v5, nk, ek, rfl⟩ := h
      rw [List.length_map, List.take_of_length_le (by rw [List.length_reverse]; exact Nat.le_refl _)] at ek
      exact ⟨_, rfl, q k H2 (g1.trans g2) nk ek⟩
abbrev nFirst : List Str := ["self", "name", "asked", "number", "row", "one"]
theorem scFirst : FnScope nFirst ["self", "name", "asked"] (defScope m_first_own) := ⟨rfl, rfl, rfl, by decide +kernel, rfl, by decide +kernel, by decide +kernel⟩
theorem ok_first_own (F : FnM K "_first_own" "Book._first_own" m_first_own f fd) (BC : BkC K mg C) : FnOk P w K mg base CX0 1 f fd ["self", "name", "asked"] (spFirstOwn K C) := by
  refine F.ok scFirst (fun vs H Q E h => ?_) (fun cdv A outer s H vs Q E hr h => ?_)
  · obtain ⟨b, d, tb, n, x, a, asked, rfl, _⟩ := h
    rfl
  · obtain ⟨b, d, tb, n, x, a, asked, rfl, B, T, ha, nma, nx, al, q⟩ := h
    refine ⟨_, PSs.nox (pss_cons (ps_lock (ps_for PassesOwn.never rfl (pi_items (pe_fld (pv 0) rfl)) (pg_tup rfl (pgs_cons (pg_name (i := 3) scFirst.nd rfl (.inl rfl)) (pgs_cons (pg_name (i := 4) scFirst.nd rfl (.inr rfl)) pgs_nil))) (pss_one (ps_if (pt_cmpR (op_eqD (hu64 hr)) (pe_lc (own := [("one", 5)]) (g := gName 5) rfl scFirst.nd (pi_list (pv 2)) (blkOk_by (N := nFirst) (sc := defScope m_first_own) (by decide +kernel)) (fun _ _ _ _ _ => (pg_name (i := 5) scFirst.nd rfl (.inl rfl))) (fun _ _ _ _ _ => pts_one (pt_cmpR (r := rIn K false) op_in_seq (pv 5) (pv 4) rfl)) (fun _ _ _ _ _ => (pv 5))) (pe_lst (pa_cons (pv 1) pa_nil)) (nomark _)) (pss_one (ps_ret (pv 3))) (pss_nil))))) (pss_one (ps_ret pe_non))), ?_⟩
    obtain ⟨dx, eb⟩ := B.ob
    have nbd := B.ne
    have nad : a ≠ d := ne_of ha B.dc (by intro z; cases z)
    refine ⟨d, _, B.dc, trivial, fun od => ?_⟩
    have eL : (upd H d (.frz od (.dK (kvB tb)))) d = some (.frz od (.dK (kvB tb))) := upd_same
    have oL : ∀ e ∈ tb, (upd H d (.frz od (.dK (kvB tb)))) e.2.1 = some (.lst (e.2.2.map V.str)) := fun e he => by rw [upd_ne (B.neb he).2]; exact B.own e he
    have aL : (upd H d (.frz od (.dK (kvB tb)))) a = some (.lst (asked.map V.str)) := by rw [upd_ne nad]; exact ha
    refine ⟨_, rfl, b, C, dx, _, _, rfl, (by rw [upd_ne nbd]; exact eb), BC.cl, BC.nR, bfl_rows d n, d, od, kvB tb, rfl, eL, ?_⟩
    have hback : ∀ H', Gr (upd H d (.frz od (.dK (kvB tb)))) H' → Gr H (upd H' d (.dK (kvB tb))) := fun H' g => gr_lock B.dc (fun ps z => nomatch z) g
    generalize upd H d (.frz od (.dK (kvB tb))) = HL at eL oL aL hback
    refine for_it (walk_items (d := d) (o := od) (kvs := kvB tb)) (fun i σ H2 => Gr HL H2 ∧ (tb.take i).find? (fun e => decide (asked.filter e.2.2.contains = [x])) = none ∧ ∃ v3 v4, σ = [some (.ref b), some (.str x), some (.ref a), v3, v4, none]) ⟨Gr.refl HL, rfl, none, none, rfl⟩ (fun i σ H2 _ h => h.1.at_ _ _ eL notbl_frz) (fun i xx σ H2 H3 hi h y => ?_) (fun σ H2 h => ?_)
    · obtain ⟨g2, hn, v3, v4, rfl⟩ := h
      obtain ⟨TT, ky, vv, rfl, nT, rfl, hk, hv⟩ := y
      rw [kvB_len] at hi
      have hx : tb[i]? = some tb[i] := List.getElem?_eq_getElem hi
      generalize tb[i] = e0 at hx
      have m0 := List.mem_of_getElem? hx
      have hkv : (kvB tb)[i]? = some ((Sum.inl e0.1 : Key), V.ref e0.2.1) := by
        unfold kvB
        rw [List.getElem?_map, hx]
        rfl
      have hk : Option.map (fun kv : Key × V => kV kv.1) (kvB tb)[i]? = some ky := hk
      have hv : Option.map Prod.snd (kvB tb)[i]? = some vv := hv
      rw [hkv] at hk hv
      obtain rfl : V.int e0.1 = ky := Option.some.inj hk
      obtain rfl : V.ref e0.2.1 = vv := Option.some.inj hv
      have g3 : Gr HL (upd H2 TT (.tup [.int e0.1, .ref e0.2.1])) := g2.trans (Gr.new nT)
      refine ⟨TT, _, rfl, .inl (.inl upd_same), rfl, _, _, rfl, _, _, rfl, rfl, ?_⟩
      generalize upd H2 TT (.tup [.int e0.1, .ref e0.2.1]) = H3 at g3
      refine ⟨_, rfl, a, rfl, ⟨_, .inl (.inl (g3.lst aL))⟩, fun D nD => lc_filtT (K := K) e0.2.2.contains (.inl (.inl (g3.lst aL))) (small1000 al) nD (fun _ => rfl) (fun _ => rfl) (fun y hy H5 Qb g5 hb => ?_) (fun H4 g4 e4 => ?_)⟩
      · refine ⟨_, rfl, _, rfl, e0.2.1, _, rfl, .inl (.inl (.inl ((g3.trans g5).lst (oL e0 m0)))), rfl, flat_str e0.2.2, _, rfl, ?_⟩
        rw [inV_str]
        exact hb H5 (Gr.refl H5)
      · refine ⟨_, rfl, (by show 1 ≤ sizeLine; rw [sizeLine_eq]; omega), fun D2 nD2 => ?_⟩
        have g5 : Gr H4 (upd H4 D2 (.lst [V.str x])) := Gr.new nD2
        have e5 : (upd H4 D2 (.lst [V.str x])) D2 = some (.lst ([x].map V.str)) := upd_same
        generalize upd H4 D2 (.lst [V.str x]) = H5 at g5 e5
        have nmf : Nms (asked.filter e0.2.2.contains) := fun y hy => nma y (List.mem_filter.mp hy).1
        refine ⟨_, _, dp_dS (.inl (.inl (g5.lst e4))), dp_dS (.inl (.inl e5)), shaped_dS nmf, shaped_dS (fun y hy => by rw [List.mem_singleton.mp hy]; exact nx), _, rfl, ?_⟩
        rw [eqv_dS]
        have g05 := (g3.trans g4).trans g5
        by_cases hh : asked.filter e0.2.2.contains = [x]
        · rw [decide_eq_true hh]
          have hf := find_done hx hn (decide_eq_true hh)
          have z := q _ (hback H5 g05)
          unfold firstOwn at z
          rw [hf] at z
          exact iteT ⟨_, rfl, g05.at_ _ _ eL notbl_frz, z⟩
        · rw [decide_eq_false hh]
          refine iteF ⟨g05, ?_, _, _, rfl⟩
          rw [find_snoc hx hn, if_neg]
          rw [decide_eq_false hh]
          exact Bool.false_ne_true
    · obtain ⟨g2, hn, v3, v4, rfl⟩ := h
      rw [kvB_len, List.take_length] at hn
      have z := q _ (hback H2 g2)
      unfold firstOwn at z
      rw [hn] at z
      exact ⟨g2.at_ _ _ eL notbl_frz, z⟩
end
end K1
namespace K1
open PySem PySem.Spec PyProof.Rows L2 Gr GxR Srx Skx Dcx
section
variable {P : Program} {w : World} {K : PySem.W.Frag} {mg : Str → Option Value} {base : Heap} {f C : Addr} {fd : FuncData} {p : He.Defn} {N : TabN} {R : ErN}
abbrev nOwn : List Str := ["self", "names", "asked", "told", "name", "_", "number"]
theorem scOwn : FnScope nOwn ["self", "names"] (defScope m_own) := ⟨rfl, rfl, rfl, by decide +kernel, rfl, by decide +kernel, by decide +kernel⟩
theorem ok_own (F : FnM K "own" "Book.own" m_own (He.fAd K p) fd) (TB : Tb K base mg p) (eT : (He.cT K p).2 = N.o) (BC : BkC K mg C) (cMg : MCalls P w K mg base (L2.CX P w) 5 C "_meeting" (spBMeeting K C N R)) (cFO : MCalls P w K mg base CX0 1 C "_first_own" (spFirstOwn K C)) (eMeet : ErrC K mg "NoMeet" R.meet) (g_any : mg "any" = none) :
    FnOk P w K mg base (L2.CX P w) 6 (He.fAd K p) fd ["self", "names"] (spBOwn K C N R) := by
  refine okC F scOwn (fun vs H Q E h => ?_) (fun A outer s H vs Q E hr h => ?_)
  · obtain ⟨b, d, tb, n, v, rfl, _⟩ := h
    rfl
  · obtain ⟨b, d, tb, n, v, rfl, B, T, hN, h⟩ := h
    have hT : TabG H (He.cT K p).2 := eT ▸ hN.o
    refine ⟨_, pss_cons (ps_set (i := 2) scOwn.nd rfl (.inr rfl) (pe_m cMg BC.cl hr (by decide) (paE (takes_of rfl rfl rfl rfl)) (pv 0) (pa_cons (pv 1) pa_nil))) (pss_cons (ps_setLc (i := 3) (own := [("name", 4)]) (g := gName 4) (tt := tYes) rfl scOwn.nd rfl rfl (sw_true rfl rfl rfl (by decide +kernel)) (pi_list (pv 2)) (blkOk_by (N := nOwn) (sc := defScope m_own) (by decide +kernel)) (fun _ _ _ _ _ => (pg_name (i := 4) scOwn.nd rfl (.inl rfl))) (fun _ _ _ _ _ => pts_nil) (fun _ _ _ _ _ => (pe_tup (pa_cons (pv 4) (pa_cons (pe_m cFO BC.cl hr (by decide) pa0 (pv 0) (pa_cons (pv 4) (pa_cons (pv 2) pa_nil))) pa_nil))))) (pss_cons (ps_if (pt_val (Gx.pe_any (own := [("_", 5), ("number", 6)]) (gt := gTup K 2 (gCons (gName 5) (gCons (gName 6) gNil))) (tt := tYes) hr rfl scOwn.nd (by rfl) g_any TB rfl (blkOk_by (N := nOwn) (sc := defScope m_own) (by decide +kernel)) (Gx.gxs_by (by decide +kernel)) (pi_list (pv 3)) (fun _ _ _ _ _ _ => (pg_tup rfl (pgs_cons (pg_name (i := 5) scOwn.nd rfl (.inl rfl)) (pgs_cons (pg_name (i := 6) scOwn.nd rfl (.inl rfl)) pgs_nil)))) (fun _ _ _ _ _ _ => pts_nil) (fun _ _ _ _ _ _ => (pe_cmpR op_isN (pv 6) pe_non (nomark _))))) (pss_one (ps_raise rfl (takes_of rfl rfl rfl rfl) (SkE.pmk_own1 PySem.F.excBase_ValueError eMeet.xC eMeet.gC eMeet.kC (raises_own eMeet.bC eMeet.tC) (by rfl) pe_str))) (pss_nil)) (pss_one (ps_ret (pv 3))))), ?_⟩
    refine ⟨_, rfl, b, d, tb, n, rfl, B, _, rfl, b, d, tb, n, v, rfl, B, T, hN, ?_⟩
    have h : (∃ xs, HOk H v xs ∧ mtAll xs (rws tb) = true ∧ (((∀ x ∈ once xs, (firstOwn tb (once xs) x).isSome = true) ∧
        ∀ p H' (ts : List (Addr × Str × Int)), Gr H H' → H p = none → H' p = some (.lst (ts.map fun t => V.ref t.1)) → (∀ t ∈ ts, H t.1 = none ∧ t.1 ≠ p ∧ H' t.1 = some (.tup [.str t.2.1, .int t.2.2])) → ts.map (·.2) = (once xs).map (fun x => (x, (firstOwn tb (once xs) x).getD 0)) → Q (.ref p) H') ∨
        ((∃ x ∈ once xs, firstOwn tb (once xs) x = none) ∧ ∀ H', Gr H H' → E (.ref R.meet) none H'))) ∨ (∃ xs, HOk H v xs ∧ mtAll xs (rws tb) = false ∧ ∀ H', Gr H H' → E (.ref R.meet) none H') ∨
        (HBadN K H v ∧ ∀ H', Gr H H' → E (.ref R.name) none H') ∨ (HBadR K H v ∧ ∀ H', Gr H H' → E (.ref R.row) none H') := by
      rcases h with ⟨xs, hk, hm, a1, q⟩ | ⟨xs, hk, hm, q⟩ | h | h
      · exact .inl ⟨xs, hk, hm, .inl ⟨a1, q⟩⟩
      · cases em : mtAll xs (rws tb) with
        | true =>
          rcases hm with hm | hm
          · rw [em] at hm; cases hm
          · exact .inl ⟨xs, hk, em, .inr ⟨hm, q⟩⟩
        | false => exact .inr (.inl ⟨xs, hk, em, q⟩)
      · exact .inr (.inr (.inl h))
      · exact .inr (.inr (.inr h))
    rcases h with ⟨xs, hk, hm, h⟩ | ⟨xs, hk, hm, q⟩ | ⟨hb, q⟩ | ⟨hb, q⟩
    rotate_left
    · exact .inr (.inl ⟨xs, hk, hm, q⟩)
    · exact .inr (.inr (.inl ⟨hb, q⟩))
    · exact .inr (.inr (.inr ⟨hb, q⟩))
    obtain ⟨_, _, _, nmx, fewx⟩ := id hk
    refine .inl ⟨xs, hk, hm, fun a H1 g1 na ea => ?_⟩
    have al : (once xs).length ≤ 1000 := Nat.le_trans once_len fewx
    have nmo := once_nms nmx
    generalize once xs = ask at h ea al nmo
    refine ⟨_, rfl, a, rfl, ⟨_, .inl (.inl ea)⟩, fun D nD => lc_list (K := K) (xs := ask.map V.str) (fun i H2 => Gr H1 H2 ∧ ∃ ts : List (Addr × Str × V), H2 D = some (.lst (ts.map fun t => V.ref t.1)) ∧ (∀ t ∈ ts, H1 t.1 = none ∧ t.1 ≠ D ∧ H2 t.1 = some (.tup [.str t.2.1, t.2.2])) ∧ ts.map (·.2) = (ask.take i).map (fun x => (x, ownV (firstOwn tb ask x)))) ⟨Gr.new nD, [], upd_same, fun _ z => absurd z List.not_mem_nil, rfl⟩ (fun i H2 _ h => .inl (.inl (h.1.lst ea))) (fun i x H2 hx h2 => ?_) (fun H2 h2 => ?_)⟩
    · obtain ⟨g2, ts, eD, own, et⟩ := h2
      obtain ⟨x0, hx0, rfl⟩ := get_map hx
      have m0 := List.mem_of_getElem? hx0
      have hi : i < ask.length := (List.getElem?_eq_some_iff.mp hx0).1
      refine ⟨rfl, yesIf ?_⟩
      refine ⟨_, rfl, _, rfl, b, d, tb, n, rfl, B.gr (g1.trans g2), _, rfl, _, rfl, b, d, tb, n, x0, a, ask, rfl, B.gr (g1.trans g2), T, g2.lst ea, nmo, nmo x0 m0, al, fun H3 g3 => ⟨(by show 2 ≤ sizeLine; decide), fun t nt => ?_⟩⟩
      have tD : t ≠ D := (ne_of_none (g3.lst eD) nt).symm
      have g4 : Gr H3 (upd H3 t (.tup [.str x0, ownV (firstOwn tb ask x0)])) := Gr.new nt
      have et4 : (upd H3 t (.tup [.str x0, ownV (firstOwn tb ask x0)])) t = some (.tup [.str x0, ownV (firstOwn tb ask x0)]) := upd_same
      generalize upd H3 t (.tup [.str x0, ownV (firstOwn tb ask x0)]) = H4 at g4 et4
      refine ⟨_, (g3.trans g4).lst eD, ?_, (g2.trans (g3.trans g4)).mut nD, ts ++ [(t, x0, ownV (firstOwn tb ask x0))], ?_, fun u hu => ?_, ?_⟩
      · rw [List.length_map]
        have h1 := congrArg List.length et
        rw [List.length_map, List.length_map, List.length_take] at h1
        exact small1000 (by omega)
      · rw [upd_same, List.map_append]
        rfl
      · rcases List.mem_append.mp hu with hu | hu
        · obtain ⟨h1, h2, h3⟩ := own u hu
          exact ⟨h1, h2, by rw [upd_ne h2]; exact (g3.trans g4).tup h3⟩
        · rw [List.mem_singleton.mp hu]
          exact ⟨(g2.trans g3).free nt, tD, by rw [upd_ne tD]; exact et4⟩
      · rw [List.map_append, et, take_map hx0]
        rfl
    · obtain ⟨g2, ts, eD, own, et⟩ := h2
      rw [List.length_map, List.take_length] at et
      have g02 := g1.trans g2
      have tsl : ts.length = ask.length := by
        have h1 := congrArg List.length et
        rw [List.length_map, List.length_map] at h1
        exact h1
      refine ⟨_, rfl, D, rfl, ⟨_, .inl (.inl eD)⟩, Gx.gx_list (xs := ts.map fun t : Addr × Str × V => V.ref t.1) (g02.tabG hT) (fun i H3 => Gr H2 H3 ∧ ∀ t ∈ ts.take i, t.2.2 ≠ .non) (fun H3 t3 => ⟨Gr.tabbed (g02.tabG hT) t3, fun _ z => absurd z List.not_mem_nil⟩) (fun i H3 _ h3 => .inl (.inl (h3.1.lst eD))) (fun i x H3 Nx nx hx h3 => ?_) (fun H3 h3 => ?_)⟩
      · obtain ⟨g3, hn⟩ := h3
        obtain ⟨t0, ht0, rfl⟩ := get_map hx
        have mt0 := List.mem_of_getElem? ht0
        obtain ⟨_, _, et0⟩ := own t0 mt0
        refine ⟨t0.1, _, rfl, .inl (.inl (g3.tup et0)), rfl, _, _, rfl, _, _, rfl, rfl, rfl, yesIf ?_⟩
        refine ⟨_, rfl, rfl, _, rfl, fun e => ?_, fun e => nx _ ⟨g3, fun t ht => ?_⟩⟩
        · have e : t0.2.2 = V.non := of_decide_eq_true e
          rcases h with ⟨all, _⟩ | ⟨_, qE⟩
          · exfalso
            have m1 : t0.2 ∈ ask.map (fun x => (x, ownV (firstOwn tb ask x))) := by rw [← et]; exact List.mem_map.mpr ⟨t0, mt0, rfl⟩
            obtain ⟨x1, hx1, e1⟩ := List.mem_map.mp m1
            have := all x1 hx1
            rw [← e1] at e
            cases ef : firstOwn tb ask x1 with
            | none => rw [ef] at this; cases this
            | some k =>
              have e : ownV (firstOwn tb ask x1) = V.non := e
              rw [ef] at e; cases e
          · exact ⟨_, rfl, iteT (qE _ (g02.trans g3))⟩
        · rw [List.take_add_one, ht0] at ht
          rcases List.mem_append.mp ht with ht | ht
          · exact hn t ht
          · rw [List.mem_singleton.mp ht]
            exact fun z => e (decide_eq_true z)
      · obtain ⟨g3, hn⟩ := h3
        rw [List.length_map, List.take_length] at hn
        refine ⟨_, rfl, iteF ?_⟩
        have some_ : ∀ x ∈ ask, (firstOwn tb ask x).isSome = true := by
          intro x hx
          have m1 : (x, ownV (firstOwn tb ask x)) ∈ ts.map (·.2) := by rw [et]; exact List.mem_map.mpr ⟨x, hx, rfl⟩
          obtain ⟨t, ht, e1⟩ := List.mem_map.mp m1
          have := hn t ht
          rw [e1] at this
          cases ef : firstOwn tb ask x with
          | none => rw [ef] at this; exact absurd rfl this
          | some k => rfl
        rcases h with ⟨_, q⟩ | ⟨⟨x, hx, e⟩, _⟩
        · refine ⟨_, rfl, q D H3 (ts.map fun t => (t.1, t.2.1, match t.2.2 with | .int k => k | _ => 0)) (g02.trans g3) (g1.free nD) (by rw [List.map_map]; exact g3.lst eD) (fun t ht => ?_) ?_⟩
          · obtain ⟨u, hu, rfl⟩ := List.mem_map.mp ht
            obtain ⟨h1, h2, h3⟩ := own u hu
            refine ⟨g1.free h1, h2, ?_⟩
            have m1 : u.2 ∈ ask.map (fun x => (x, ownV (firstOwn tb ask x))) := by rw [← et]; exact List.mem_map.mpr ⟨u, hu, rfl⟩
            obtain ⟨x1, hx1, e1⟩ := List.mem_map.mp m1
            have s1 := some_ x1 hx1
            cases ef : firstOwn tb ask x1 with
            | none => rw [ef] at s1; cases s1
            | some k =>
              have e2 : u.2.2 = .int k := by rw [← e1, ef]; rfl
              have := g3.tup h3
              rw [e2] at this
              rw [e2]
              exact this
          · rw [List.map_map]
            have e5 : ts.map (fun t => (t.2.1, match t.2.2 with | .int k => k | _ => (0 : Int))) = (ts.map (·.2)).map (fun z => (z.1, match z.2 with | .int k => k | _ => (0 : Int))) := by
              rw [List.map_map]
              rfl
            refine Eq.trans (show _ = ts.map (fun t => (t.2.1, match t.2.2 with | .int k => k | _ => (0 : Int))) from rfl) ?_
            rw [e5, et, List.map_map]
            refine List.map_congr_left fun x hx => ?_
            have s1 := some_ x hx
            cases ef : firstOwn tb ask x with
            | none => rw [ef] at s1; cases s1
            | some k =>
              show (x, _) = _
              simp only [Function.comp, ef]
              rfl
        · have := some_ x hx
          rw [e] at this
          cases this
abbrev nNeeded : List Str := ["self", "row"]
end
end K1
namespace K1
open PySem PySem.Spec PyProof.Rows L2 Gr GxR Srx Skx Dcx
section
variable {P : Program} {w : World} {K : PySem.W.Frag} {mg : Str → Option Value} {base : Heap} {f C : Addr} {fd : FuncData} {p : He.Defn} {N : TabN} {R : ErN}
def idleB (rows : List (List Str)) : List Str := (allN rows).filter fun y => decide (y ∉ (least rows).flatten)
def spBIdle (C : Addr) (N : TabN) : Sp := fun vs H Q _ => ∃ b d tb n, vs = [.ref b] ∧ Bk C H b d tb n ∧ Tok tb n ∧ N.G H ∧ (allN (rws tb)).length ≤ 7 ∧ ∀ p H', Gr H H' → H p = none → H' p = some (.lst ((idleB (rws tb)).map V.str)) → Q (.ref p) H'
abbrev nIdle : List Str := ["self", "row", "name"]
end
end K1
end
section
set_option maxHeartbeats 8000000
/-! calls within an except suite; text * 0 or 1; count of a text -/
namespace K1
open PySem PySem.Spec PyProof.Rows L2 Gr GxR Srx Skx Dcx
/-- a def that may be called where an exception is handled, whatever its context; what it promises may speak of that exception's object -/
structure FnQ (P : Program) (w : World) (K : PySem.W.Frag) (mg : Str → Option Value) (base : Heap) (k : Nat) (f : Addr) (fd : FuncData) (ps : List Str) (sp : Addr → Value → Option Addr → Sp) : Prop where
  len : ∀ a cls d vs H Q E, sp a cls d vs H Q E → vs.length = ps.length
  run : ∀ (A : Around) (outer : List Env) (s : Shared) (H : Hp) (args : Args) (us : List Value) (vs : List V) (Q : VK) (E : XK) (o : Addr × Obj) (cls : Value) (d : Option Addr), L2H.RoomH k A → L2H.PinOk outer H s o → Zc cls d o.2 → (∃ vs, o.2.data = .fields vs) → Env0 P w K mg base A outer s H → BindsTo s fd args (ps.zip us) → Vals vs us → sp o.1 cls d vs H Q E →
    codeAny (model P w) A (.call (.ref f) args) (CR CX0 outer P w H s Q E) s
theorem okQ {P : Program} {w : World} {K : PySem.W.Frag} {mg : Str → Option Value} {base : Heap} {x qual : Str} {params : Arguments} {body : List Stmt} {scope : Scope} {dvs : List V} {kws : List (Str × V)} {f : Addr} {fd : FuncData} {N ps : List Str} {k : Nat} {sp : Addr → Value → Option Addr → Sp}
    (F : FunD K x qual params body scope dvs kws f fd) (S : FnScope N ps scope) (len : ∀ a cls d vs H Q E, sp a cls d vs H Q E → vs.length = ps.length)
    (hb : ∀ (cdv : Value) (A : Around) (outer : List Env) (s : Shared) (H : Hp) (vs : List V) (Q : VK) (E : XK) (o : Addr × Obj) (cls : Value) (d : Option Addr), L2H.RoomH k (A.deeper (envOfC qual scope s.heap.objs.size f cdv)) → Zc cls d o.2 → (∃ vs, o.2.data = .fields vs) → sp o.1 cls d vs H Q E →
      ∃ t, PSs (L2H.cxH CX0 P w K mg base N qual scope f cdv A outer s H E o) body t ∧ t { nx := fun _ H' => Q .non H', rt := Q } (start N vs) H) : FnQ P w K mg base (k + 1) f fd ps sp := by
  obtain ⟨oc, od, dV, kV, doc, pm, an, cdv, ct, osl, rfl, lk, hcd, _, _⟩ := F.ex
  refine ⟨len, fun A outer s H args us vs Q E o cls d hr hpin hz hf e0 b r h => ?_⟩
  have hl := len _ _ _ _ _ _ _ h
  have stays : base.StaysIn s.heap := fun b o e => (e0.bs b o e).1
  have lim : s.heap.NoLimit := e0.mod.nolimit.keeps stays
  have KX : K.In s.heap := e0.mod.kin.keeps stays
  have kinds : ∀ y ∈ ps.zip us, scope.names.lookup y.1 = some .local ∨ (scope.names.lookup y.1 = some .cell ∧ ((cellsFrom (s.heap.objs.size + 1) scope.names []).lookup y.1).isSome = true) := by
    intro y hy
    obtain ⟨n, v⟩ := y
    exact (S.par n (List.of_mem_zip hy).1).imp id fun q => ⟨q, PySem.W.cellsFrom_some _ _ _ (.inl q)⟩
  refine codeAny_call_function hr.depth (KX _ _ lk) rfl S.co S.gen rfl (PySem.W.codeRec_of KX hcd) (b _ _ _ _ ?_)
  refine wpAny_newFunctionEnv_cells S.kind kinds fun env he s1 z => ?_
  subst he
  obtain ⟨t, ht, hq⟩ := hb cdv A outer s H vs Q E o cls d (hr.deeper _) hz hf h
  refine ⟨lim.keeps z.toInCall.keep, codeAny_func ?_⟩
  refine wpAny_mono (ht.run [] s1 (start N vs) H _ (L2H.inv_startH S hpin e0 hl r z) hq) (fun fl s' hs => ?_) fun e s' hs => hs
  cases fl with
  | next =>
    obtain ⟨σ', H', J, q⟩ := hs
    exact ⟨.non, H', J.os, J.bare, J.base, J.hok, rfl, q⟩
  | ret u =>
    obtain ⟨v, σ', H', J, rv, q⟩ := hs
    exact ⟨v, H', J.os, J.bare, J.base, J.hok, rv, q⟩
  | brk => exact hs.elim fun _ h => h.elim fun _ h => h.2.elim
  | cont => exact hs.elim fun _ h => h.elim fun _ h => h.2.elim
/-- such a def, by its name -/
structure HCalls (P : Program) (w : World) (K : PySem.W.Frag) (mg : Str → Option Value) (base : Heap) (k : Nat) (x : Str) (sp : Addr → Value → Option Addr → Sp) : Prop where
  ex : ∃ (f : Addr) (fd : FuncData) (ps : List Str), FnQ P w K mg base k f fd ps sp ∧ mg x = some (.ref f) ∧ PySem.W.keepIn K (.ref f) = true ∧ Binds K fd ps []
section
variable {X : Cx} {k j : Nat} {x : Str} {sp : Addr → Value → Option Addr → Sp} {cls : Value} {d : Option Addr} {p pos : Pos} {e : Expr} {es : List Expr} {t : TA} {a : Addr} {oe : Obj}
theorem pe_q (c : HCalls X.prog X.w X.K X.mg X.base k x sp) (hr : L2H.RoomH j X.A) (hk : k ≤ j) (ho : (a, oe) ∈ X.pn) (hz : Zc cls d oe) (hf : ∃ vs, oe.data = .fields vs) (hg : Gl X x) (ha : PA X (e :: es) t)
    (hdb : (x == ("__debug__" : Str)) = false := by decide) (he : starEach (e :: es) X.env = (false, eval e X.env) :: starEach es X.env := by rfl) (hpl : (backTo pos (starEach es X.env)).any (·.1) = false := by rfl) :
    PE X (.Call (.Name x p) (e :: es) [] pos) (fun σ H Q => t σ H fun vs H1 => sp a cls d vs H1 Q E0) := by
  obtain ⟨f, fd, ps, F, hm, kp, b⟩ := c.ex
  refine ⟨fun pins s σ H Q I h => ?_⟩
  refine wpAny_Call_Name_kw (ld_glob I hg hm ?_ hdb)
  refine PySem.W.callWith_K (h₀ := X.base) I.ok.mod.kin kp (thn (ha.run pos pins s σ H _ I h) fun us s1 hv => ?_) he hpl
  obtain ⟨vs, H1, I1, r, q⟩ := hv
  have hl : us.length = ps.length := by rw [← r.length]; exact F.len _ _ _ _ _ _ _ q
  have b1 := b s1 us I1.kIn (by rw [List.append_nil]; exact hl)
  rw [List.append_nil] at b1
  obtain ⟨p1, p2, p3, p4, p5⟩ := I1.pin (a, oe) (List.mem_append_left _ ho)
  refine ⟨I1.kIn, wpAny_call (codeAny_mono (F.run X.A X.stack s1 H1 ⟨us, []⟩ us vs Q E0 (a, oe) cls d (hr.mono hk) ⟨p1, p2, fun hm => (List.mem_cons.mp (I1.stkSub a hm)).elim p3 p4, p5⟩ hz hf I1.env0 b1 r q) fun r s' hq => ?_)⟩
  cases r with
  | error e => exact hq.elim
  | ok fl =>
    cases fl with
    | ret u => exact I1.after hq
    | next => exact hq.elim
    | brk => exact hq.elim
    | cont => exact hq.elim
end
/-- isinstance(e, C) for an exception that is pinned -/
def rIsP (K : PySem.W.Frag) (D a : Addr) : List V → Hp → VK → Prop := fun xs H Q => ∃ (c : V) (cv : Value) (b : Bool), xs = [.ref a, c] ∧ ClsV c cv ∧ PySem.W.kitOne K (.ref D) cv = some b ∧ Q (.bl b) H
def rIsPT (K : PySem.W.Frag) (D a : Addr) : List V → Hp → VK → Prop := fun xs H Q => ∃ (tp : Addr) (cs : List V) (us : List Value) (b : Bool), xs = [.ref a, .ref tp] ∧ H tp = some (.tup cs) ∧ Paired ClsV cs us ∧ PySem.W.kitAny K (.ref D) us = some b ∧ Q (.bl b) H
section
variable {X : Cx} {a D : Addr} {oe : Obj}
theorem inst_pin {pins : List (Addr × Obj)} {σ : L2.St} {H : Hp} {s : Shared} (hp : (a, oe) ∈ X.pn) (hz : Zc (.ref D) none oe) (hf : ∃ vs, oe.data = .fields vs) (I : Inv X pins σ H s) : PySem.W.InstAt s.heap a oe D none := by
  have h0 := (I.pin (a, oe) (List.mem_append_left _ hp)).1
  obtain ⟨vs, hv⟩ := hf
  obtain ⟨oc, od, oda, osl⟩ := oe
  obtain ⟨h1, h2⟩ := hz
  dsimp only at h1 h2 hv
  subst h1 h2 hv
  exact ⟨h0, rfl, rfl, trivial⟩
theorem call_isP (hp : (a, oe) ∈ X.pn) (C : ExcC X.K D) (hz : Zc (.ref D) none oe) (hf : ∃ vs, oe.data = .fields vs) : CallR X (.builtin "isinstance") (rIsP X.K D a) := by
  intro pins s σ H xs us Q I r h
  obtain ⟨c, cv, b, rfl, k, e, q⟩ := h
  obtain ⟨u1, u2, rfl, r1, r2⟩ := vals2 r
  cases (show u1 = Value.ref a from r1)
  cases k.eq r2
  exact PySem.W.kia_one (PySem.W.handS_kitx_exc C.hg C.hk C.hs C.hd C.ha C.hn C.ht C.hm) I.kIn (inst_pin hp hz hf I) e (fun z => nomatch z) fun tk => ⟨.bl b, H, I.kept (t' := tk) fun _ _ z => z, rfl, q⟩
theorem call_isPT (hp : (a, oe) ∈ X.pn) (C : ExcC X.K D) (hz : Zc (.ref D) none oe) (hf : ∃ vs, oe.data = .fields vs) : CallR X (.builtin "isinstance") (rIsPT X.K D a) := by
  intro pins s σ H xs us Q I r h
  obtain ⟨tp, cs, ws, b, rfl, hT, k, e, q⟩ := h
  obtain ⟨u1, u2, rfl, r1, r2⟩ := vals2 r
  cases (show u1 = Value.ref a from r1)
  cases (show u2 = Value.ref tp from r2)
  obtain ⟨_, its, rv, ob, h1, h2, n, h3⟩ := (show ObjOk _ _ H s.heap tp (.tup cs) from I.hok tp _ hT)
  have e3 := ClsV.all k rv
  subst e3
  obtain ⟨oc, od, dt, sl⟩ := ob
  simp only at h2 h3
  subst h2 h3
  exact PySem.W.kia_tup (PySem.W.handS_kitx_exc C.hg C.hk C.hs C.hd C.ha C.hn C.ht C.hm) I.kIn (inst_pin hp hz hf I) h1 e (fun z => nomatch z) fun tk => ⟨.bl b, H, I.kept (t' := tk) fun _ _ z => z, rfl, q⟩
/-- a text, or none of it -/
def tx01 (x : Str) (b : Bool) : Str := if b = true then x else ⟨#[]⟩
theorem op_rep_str : OpR X (binaryOp .Mult) (fun x y H Q => ∃ (z : Str) (b : Bool), x = .str z ∧ y = .int (if b then 1 else 0) ∧ Q (.str (tx01 z b)) H) := by
  intro pins s σ H x y v u Q I rx ry h
  obtain ⟨z, b, rfl, rfl, q⟩ := h
  obtain ⟨t, rfl⟩ := rx
  obtain ⟨t', rfl⟩ := ry
  cases b with
  | true =>
    refine PySem.SB.mul (n := 1) ⟨by decide, fun _ y => absurd y (by simp), fun _ y => absurd y (by simp)⟩ fun t' k => ?_
    exact ⟨.str z, H, I.tok _, ⟨_, rfl⟩, q⟩
  | false =>
    refine PySem.SB.mul (n := 0) ⟨by decide, fun h => absurd (by decide) h, fun h => absurd (by decide) h⟩ fun t' k => ?_
    exact ⟨.str ⟨#[]⟩, H, I.tok _, ⟨_, rfl⟩, q⟩
def rCntT (K : PySem.W.Frag) : V → List V → Hp → VK → Prop := fun x xs H Q => ∃ (p : Addr) (ns : List Str) (k : Str), x = .ref p ∧ xs = [.str k] ∧ SqL K H p (ns.map V.str) ∧ Q (.int (ns.count k : Nat)) H
theorem countP_strs (k : Str) : ∀ {vs : List Value} {ys : List Str}, StrsAre vs ys → vs.countP (isStrOf k) = ys.count k
  | _, _, .nil => rfl
  | _, _, .cons n u h => by
    rw [List.countP_cons, List.count_cons, countP_strs k h]
    rfl
theorem mt_lcountT : MtR X "list.count" (rCntT X.K) := by
  intro pins s σ H x xs v us Q I rx rxs h
  obtain ⟨p, ns, k, rfl, rfl, hs, q⟩ := h
  cases rx
  obtain ⟨u, rfl, ru⟩ := rxs.one
  obtain ⟨t, rfl⟩ := ru
  obtain ⟨its, rv, ⟨⟨cls, dd, data, sl⟩, n, ho, hc, hdn, hd⟩, hlen⟩ := I.list hs
  simp only at hc hd
  subst hc hd
  have hi := Vals.strs rv
  refine call_meets PySem.F.slot_list_count ⟨_, ho, rfl⟩ PySem.F.entry_list_count (PySem.F.args_list_count_2 _ _)
    (PySem.SeqAt.list_countAt p its.toArray n dd sl (.str k t) (isStrOf k)) ⟨ho, fun y hy => (eq_isStrOf k t hi y (by simpa using hy)).at _ _, ?_⟩
  refine ⟨.int (ns.count k : Nat), H, I.tok _, ⟨s.toks, ?_⟩, q⟩
  show Value.int ((its.toArray.toList.countP (isStrOf k) : Nat) : Int) s.toks = Value.int ((ns.count k : Nat) : Int) s.toks
  rw [show its.toArray.toList.countP (isStrOf k) = ns.count k from countP_strs k hi]
theorem pe_lcountT {K : PySem.W.Frag} {o e : Expr} {es : List Expr} {apos cpos : Pos} {to : TE} {t : TA} (hK : X.K = K) (ho : PE X o to) (ha : PA X (e :: es) t)
    (hbase : attributeBase o ("count" : Str) X.env (eval o X.env) = eval o X.env := by rfl)
    (hfew : ((backTo cpos (starEach (e :: es) X.env)).all (fun x => !x.1) && (backToKw cpos (keywordEach [] X.env)).all (fun x => x.1.isSome)
      && decide ((e :: es).length + ([] : List Keyword).length + (if ([] : List Keyword).isEmpty then 0 else 1) < 30)) = true := by rfl)
    (hline : (apos.endLine == cpos.line) = true := by rfl) (hs : starEach (e :: es) X.env = (false, eval e X.env) :: starEach es X.env := by rfl) (hplain : (backTo cpos (starEach es X.env)).any (·.1) = false := by rfl) :
    PE X (.Call (.Attribute o ("count" : Str) apos) (e :: es) [] cpos) (tBM K "list" (rCntT K) to t) := by
  subst hK
  exact pe_bm PySem.F.plainAttrs_list PySem.F.slot_list_count PySem.F.type_list_count mt_lcountT ho ha hbase hfew hline hs hplain
theorem pe_appK {K : PySem.W.Frag} {o e : Expr} {es : List Expr} {apos cpos : Pos} {to : TE} {t : TA} (hK : X.K = K) (ho : PE X o to) (ha : PA X (e :: es) t)
    (hbase : attributeBase o ("append" : Str) X.env (eval o X.env) = eval o X.env := by rfl)
    (hfew : ((backTo cpos (starEach (e :: es) X.env)).all (fun x => !x.1) && (backToKw cpos (keywordEach [] X.env)).all (fun x => x.1.isSome)
      && decide ((e :: es).length + ([] : List Keyword).length + (if ([] : List Keyword).isEmpty then 0 else 1) < 30)) = true := by rfl)
    (hline : (apos.endLine == cpos.line) = true := by rfl) (hs : starEach (e :: es) X.env = (false, eval e X.env) :: starEach es X.env := by rfl) (hplain : (backTo cpos (starEach es X.env)).any (·.1) = false := by rfl) :
    PE X (.Call (.Attribute o ("append" : Str) apos) (e :: es) [] cpos) (tBM K "list" rAppend to t) := by
  subst hK
  exact pe_bm PySem.F.plainAttrs_list PySem.F.slot_list_append PySem.F.type_list_append mt_append ho ha hbase hfew hline hs hplain
theorem isl_of {pins : List (Addr × Obj)} {σ : L2.St} {H : Hp} {s : Shared} {a : Addr} {xs : List V} (I : Inv X pins σ H s) (ea : H a = some (.lst xs)) : ∃ its : List Value, its.length = xs.length ∧ s.heap.IsList a its.toArray := by
  obtain ⟨its, rv, ⟨o, n, ho, hc, hdn, hd⟩, hlen⟩ := I.list (.inl (.inl ea))
  exact ⟨its, (Paired.length rv).symm, o, ho, hc, n, hd⟩
/-- xs == [], whatever stands in xs -/
theorem op_eqNil (hu : X.A.units + 64 < cLine) : OpR X (compareOp .Eq) (fun x y H Q => ∃ a b xs, x = .ref a ∧ y = .ref b ∧ H a = some (.lst xs) ∧ H b = some (.lst []) ∧ Q (.bl xs.isEmpty) H) := by
  intro pins s σ H x y v u Q I rx ry h
  obtain ⟨a, b, xs, rfl, rfl, ea, eb, q⟩ := h
  cases xs with
  | nil => exact op_eqD hu pins s σ H _ _ v u Q I rx ry ⟨.list [], .list [], .lst (.inl (.inl ea)) .nil, .lst (.inl (.inl eb)) .nil, rfl, rfl, q⟩
  | cons x xs =>
    obtain rfl : v = Value.ref a := rx
    obtain rfl : u = Value.ref b := ry
    obtain ⟨its, l1, i1⟩ := isl_of I ea
    obtain ⟨jts, l2, i2⟩ := isl_of I eb
    refine PySem.SeqAt.RcAt.lists_lengths i1 i2 ?_ (by omega) _ _ _ _ ⟨.bl false, H, I, rfl, q⟩
    rw [List.size_toArray, List.size_toArray, l1, l2]
    rfl
theorem op_neNil (hu : X.A.units + 64 < cLine) : OpR X (compareOp .NotEq) (fun x y H Q => ∃ a b xs, x = .ref a ∧ y = .ref b ∧ H a = some (.lst xs) ∧ H b = some (.lst []) ∧ Q (.bl (!xs.isEmpty)) H) := by
  intro pins s σ H x y v u Q I rx ry h
  obtain ⟨a, b, xs, rfl, rfl, ea, eb, q⟩ := h
  cases xs with
  | nil => exact op_neD hu pins s σ H _ _ v u Q I rx ry ⟨.list [], .list [], .lst (.inl (.inl ea)) .nil, .lst (.inl (.inl eb)) .nil, rfl, rfl, q⟩
  | cons x xs =>
    obtain rfl : v = Value.ref a := rx
    obtain rfl : u = Value.ref b := ry
    obtain ⟨its, l1, i1⟩ := isl_of I ea
    obtain ⟨jts, l2, i2⟩ := isl_of I eb
    refine PySem.SeqAt.RcNeAt.lists_lengths i1 i2 ?_ (by omega) _ _ _ _ ⟨.bl true, H, I, rfl, q⟩
    rw [List.size_toArray, List.size_toArray, l1, l2]
    rfl
/-- [c for c in text if ..]: each a text of one sign -/
theorem lc_filtC {D : Addr} {j : Nat} {σ : L2.St} {vs : List Nat} {tt : TT} {H1 : Hp} {Qd : Hp → Prop} {x : Str} (p : Nat → Bool)
    (few : x.length < sizeLine) (hD : H1 D = none) (hw : ∀ v, wipe ((wipe σ vs).set j (some v)) vs = wipe σ vs) (hj : ∀ v : V, ((wipe σ vs).set j (some v))[j]? = some (some v))
    (ht : ∀ c ∈ x.cps.toList, ∀ (H4 : Hp) (Qb : Bool → Hp → Prop), Gr H1 H4 → (∀ H5, Gr H4 H5 → Qb (p c) H5) → tt ((wipe σ vs).set j (some (.str ⟨#[c]⟩))) H4 Qb)
    (q : ∀ H2, Gr H1 H2 → H2 D = some (.lst ((x.cps.toList.filter p).map fun c => V.str ⟨#[c]⟩)) → Qd H2) :
    ∃ W : Nat → Nat → Hp → Prop, (∃ m, W 0 m (upd H1 D (.lst []))) ∧ ∀ i m H, W i m H →
      ((Its x).stop i H ∧ Qd H) ∨ ((Its x).go i H ∧ ∃ Nx : Hp → Prop, (∀ H', Nx H' → ∃ m', m' < m ∧ W (i + 1) m' H') ∧ ∀ z H', (Its x).yld i H z H' → gName j z (wipe σ vs) H' fun σ2 H2 => wipe σ2 vs = wipe σ vs ∧ tt σ2 H2 fun b H3 =>
        if b = true then tVar j σ2 H3 fun y H4 => ∃ acc, H4 D = some (.lst acc) ∧ acc.length < sizeLine ∧ Nx (upd H4 D (.lst (acc ++ [y]))) else Nx H3) := by
  have hl : x.cps.toList.length = x.length := Array.length_toList
  refine ⟨fun i m H2 => m = x.length - i ∧ i ≤ x.length ∧ Gr H1 H2 ∧ H2 D = some (.lst (((x.cps.toList.take i).filter p).map fun c => V.str ⟨#[c]⟩)), ⟨x.length, by simp, Nat.zero_le _, Gr.new hD, upd_same⟩, ?_⟩
  rintro i m H2 ⟨rfl, hi, g2, e⟩
  by_cases lt : i < x.length
  · refine .inr ⟨lt, fun H6 => Gr H1 H6 ∧ H6 D = some (.lst (((x.cps.toList.take (i + 1)).filter p).map fun c => V.str ⟨#[c]⟩)), fun H6 h6 => ⟨x.length - (i + 1), by omega, rfl, lt, h6.1, h6.2⟩, fun z H6 y => ?_⟩
    obtain ⟨e1, c, hc, rfl⟩ := y
    subst e1
    have hx0 : x.cps.toList[i]? = some c := by rw [Array.getElem?_toList]; exact hc
    have etk : (x.cps.toList.take (i + 1)).filter p = (x.cps.toList.take i).filter p ++ [c].filter p := by
      rw [List.take_add_one, hx0, List.filter_append]
      rfl
    refine ⟨hw _, ht c (List.mem_of_getElem? hx0) _ _ g2 fun H3 g3 => ?_⟩
    cases hp : p c with
    | true =>
      refine iteT ⟨_, hj _, _, g3.lst e, ?_, (g2.trans g3).mut hD, ?_⟩
      · rw [List.length_map]
        have h1 := List.length_filter_le p (x.cps.toList.take i)
        rw [List.length_take] at h1
        omega
      · rw [upd_same, etk, List.map_append]
        simp [hp]
    | false =>
      refine iteF ⟨g2.trans g3, ?_⟩
      rw [etk, List.map_append]
      simp only [hp, List.filter_cons, Bool.false_eq_true, if_false, List.filter_nil, List.map_nil, List.append_nil]
      exact g3.lst e
  · have e1 : i = x.length := by omega
    subst e1
    refine .inl ⟨Nat.le_refl _, q _ g2 ?_⟩
    rw [← hl, List.take_length] at e
    exact e
end
/-- try .. except .. as n, its meaning under a name of its own (so that loops find it) -/
def tTry (K : PySem.W.Frag) (c : Value) (i : Nat) (ts : Addr → Value → Option Addr → TS) (Wout : WX) (tb : WX → TS) : TS := fun D σ H => tb (wAs K c i ts Wout D) D σ H
theorem ps_try_asT {X : Cx} {x n : Str} {c : Value} {i : Nat} {body suite : List Stmt} {b₀ : Stmt} {np pos pos' : Pos} {tb : WX → TS} {ts : Addr → Value → Option Addr → TS} {Wout : WX}
    (hs : X.stack = X.env :: X.outer) (hf : X.env.frame = some X.env.locals) (hN : X.N.Nodup) (hi : X.N[i]? = some n) (hln : X.env.kindOf n = some .local) (hc : Names X x c) (tk : Takes X Wout)
    (hb : ∀ (W : WX) (pn : List (Addr × Obj)) (xe : Value → Shared → Prop), Takes (X.tr pn xe) W → PassesOwn (model X.prog X.w) X.A X.env xe → PSs (X.tr pn xe) body (tb W))
    (hsu : ∀ (a : Addr) (oe : Obj) (cls : Value) (d : Option Addr) (pn : List (Addr × Obj)), Zc cls d oe → (∃ vs, oe.data = .fields vs) → PSs (X.suite a ((a, oe) :: pn)) (b₀ :: suite) (ts a cls d)) :
    PS X (.Try body [.ExceptHandler (some (.Name x np)) (some n) (b₀ :: suite) pos'] [] [] pos) (tTry X.K c i ts Wout tb) := ps_try_as hs hf hN hi hln hc tk hb hsu
/-- list(text): a text for each sign -/
theorem call_listTx {X : Cx} (hc : X.calm = true) : CallR X (.type "list") (fun xs H Q => ∃ z : Str, xs = [.str z] ∧ z.length ≤ sizeLine ∧ ∀ p, H p = none → Q (.ref p) (upd H p (.lst (z.cps.toList.map fun c => V.str ⟨#[c]⟩)))) := by
  intro pins s σ H xs us Q I r h
  obtain ⟨z, e, hz, q⟩ := h
  subst e
  obtain ⟨u, eu, rx⟩ := vals1 r
  subst eu
  obtain ⟨t, rfl⟩ := rx
  refine PySem.call_list_str (hn := hz) (I.ok.hd hc) z t fun h' tk acc' c' hkeep hS hacc => ?_
  refine ⟨.ref s.heap.objs.size, upd H s.heap.objs.size (.lst (z.cps.toList.map fun c => V.str ⟨#[c]⟩)), I.laid hkeep (Nat.le_refl _) (show ObjOk X.prog X.w _ _ _ (.lst (z.cps.toList.map fun c => V.str ⟨#[c]⟩)) from ⟨?_, acc'.toList, c', ?_, ?_⟩), rfl, q _ (I.hok.fresh (Nat.le_refl _))⟩
  · rw [List.length_map]; exact hz
  · refine vals_of_idx _ _ (by rw [List.length_map, Array.length_toList, Array.length_toList, hacc.1]) fun j u hj => ?_
    obtain ⟨c, u2, hc2, rfl⟩ := hacc.2 j u (by rw [← Array.getElem?_toList]; exact hj)
    exact ⟨.str ⟨#[c]⟩, by rw [List.getElem?_map, Array.getElem?_toList, hc2]; rfl, u2, rfl⟩
  · rw [Array.toArray_toList]; exact hS
theorem pi_listK {X : Cx} {tg l : Expr} {tl : TE} {K : PySem.W.Frag} (hK : X.K = K) (hl : PE X l tl) : PI X tg l (iList K tl) := by
  subst hK
  exact pi_list hl
end K1
end
section
set_option maxHeartbeats 8000000
namespace K1
open PySem PySem.Spec PyProof.Rows L2 Gr GxR Srx Skx Dcx
/-- the text of one small letter -/
def lettr (j : Nat) : Str := ⟨#[97 + j]⟩
theorem lettr_inj {i j : Nat} (h : lettr i = lettr j) : i = j := by
  unfold lettr at h
  have h := congrArg (fun z : Str => z.cps.toList) h
  have h : [97 + i] = [97 + j] := h
  injection h with h
  omega
theorem lettr_nm {j : Nat} (h : j < 26) : isNm (lettr j) = true := by
  unfold isNm lettr
  rw [decide_eq_true (show 1 ≤ (⟨#[97 + j]⟩ : Str).length from Nat.le_refl 1), decide_eq_true (show (⟨#[97 + j]⟩ : Str).length ≤ 8 by show 1 ≤ 8; decide), Bool.true_and, Bool.true_and]
  show ([97 + j]).all small = true
  rw [List.all_cons, List.all_nil, Bool.and_true]
  unfold small
  rw [decide_eq_true (by omega), decide_eq_true (by omega)]
  rfl
theorem ris_one1 (x : Str) : Ris [x] := List.pairwise_singleton _ _
theorem once_one1 (x : Str) : once [x] = [x] := once_ris (ris_one1 x)
/-- rows of a letter each, out of twelve -/
theorem wide12 (o : Nat) {rows : List (List Str)} (h : ∀ r ∈ rows, ∃ j, j < 12 ∧ r = [lettr (o + j)]) : (allN rows).length ≤ 12 := by
  have key : ∀ L : List Str, L.length ≤ 12 → (∀ y ∈ allN rows, y ∈ L) → (allN rows).length ≤ 12 := fun L hl hm =>
    Nat.le_trans (sublist_of (ris_once L) (ris_allN rows) fun y hy => once_mem.mpr (hm y hy)).length_le (Nat.le_trans once_len hl)
  refine key ((List.range 12).map fun j => lettr (o + j)) (Nat.le_of_eq (by rw [List.length_map, List.length_range])) fun y hy => ?_
  obtain ⟨r, hr, hy⟩ := allN_iff.mp hy
  obtain ⟨j, hj, rfl⟩ := h r hr
  rw [List.mem_singleton.mp hy]
  exact List.mem_map.mpr ⟨j, List.mem_range.mpr hj, rfl⟩
/-- a dict of True by numbers -/
def kvI (l : List Int) : List (Key × V) := l.map fun x => (Sum.inl x, V.bl true)
theorem put_keyI (l : List Int) (x : Int) : putK (kvI l) (Sum.inl x) (V.bl true) = kvI (once1 l x) := by
  unfold putK kvI once1
  by_cases h : x ∈ l
  · rw [if_pos h, if_pos]
    · rw [List.map_map]
      refine List.map_congr_left fun y hy => ?_
      show (if _ then _ else _) = _
      split <;> rfl
    · rw [List.any_eq_true]
      exact ⟨_, List.mem_map.mpr ⟨x, h, rfl⟩, decide_eq_true rfl⟩
  · rw [if_neg h, if_neg]
    · rw [List.map_append]
      rfl
    · intro z
      rw [List.any_eq_true] at z
      obtain ⟨q, hq, e⟩ := z
      obtain ⟨y, hy, rfl⟩ := List.mem_map.mp hq
      have e := of_decide_eq_true e
      injection e with e
      exact h (e ▸ hy)
/-- as many numbers as names -/
theorem keys_names {js : List Nat} {ks : List Int} {rows : List (List Str)} (hk : ks = js.map fun j => ((j : Nat) : Int)) (hr : rows = js.map fun j => [lettr j]) : (ddG ks).length = (allN rows).length := by
  subst hk hr
  have e : (allN (js.map fun j => [lettr j])).Perm ((ddG js).map lettr) := by
    refine (List.perm_ext_iff_of_nodup (ris_allN _).nodup ?_).mpr fun y => ?_
    · exact List.Pairwise.map lettr (fun i j (h : i ≠ j) z => h (lettr_inj z)) (ddG_nodup js)
    · rw [allN_iff, List.mem_map]
      constructor
      · rintro ⟨r, hr, hy⟩
        obtain ⟨j, hj, rfl⟩ := List.mem_map.mp hr
        exact ⟨j, ddG_mem.mpr hj, (List.mem_singleton.mp hy).symm⟩
      · rintro ⟨j, hj, rfl⟩
        exact ⟨_, List.mem_map.mpr ⟨j, ddG_mem.mp hj, rfl⟩, List.mem_singleton.mpr rfl⟩
  have e2 : (ddG (js.map fun j => ((j : Nat) : Int))).Perm ((ddG js).map fun j => ((j : Nat) : Int)) := by
    refine (List.perm_ext_iff_of_nodup (ddG_nodup _) ?_).mpr fun y => ?_
    · exact List.Pairwise.map (fun j : Nat => ((j : Nat) : Int)) (fun i j (h : i ≠ j) z => h (by have z : (i : Int) = (j : Int) := z; omega)) (ddG_nodup js)
    · rw [ddG_mem, List.mem_map, List.mem_map]
      exact exists_congr fun j => and_congr_left fun _ => ddG_mem.symm
  have h1 := e.length_eq
  have h2 := e2.length_eq
  rw [List.length_map] at h1 h2
  omega
/-- a book of rows numbered from 0 on -/
structure BkN (C : Addr) (H : Hp) (b d : Addr) (rows : List (List Str)) : Prop where
  ex : ∃ tb, Bk C H b d tb (rows.length : Nat) ∧ Tok tb (rows.length : Nat) ∧ nr tb = numd rows
/-- two books, a dict -/
structure Two (C b1 d1 b2 d2 m : Addr) (H0 H : Hp) (r1 r2 : List (List Str)) (ks : List Int) : Prop where
  g : Gr H0 H
  one : BkN C H b1 d1 r1
  two : BkN C H b2 d2 r2
  at_ : H m = some (.dK (kvI (ddG ks)))
  nb : b2 ≠ b1
  nd : d2 ≠ d1
  nm1 : m ≠ d1
  nm2 : m ≠ d2
  z1 : H0 b1 = none
  z2 : H0 d1 = none
  z3 : H0 b2 = none
  z4 : H0 d2 = none
  z5 : H0 m = none
section
variable {C b1 d1 b2 d2 m : Addr} {H0 H H' : Hp} {r1 r2 : List (List Str)} {ks : List Int}
theorem BkN.gr {b d : Addr} {rows : List (List Str)} (B : BkN C H b d rows) (g : Gr H H') : BkN C H' b d rows := let ⟨tb, h1, h2, h3⟩ := B.ex; ⟨tb, h1.gr g, h2, h3⟩
theorem Two.gr (W : Two C b1 d1 b2 d2 m H0 H r1 r2 ks) (g : Gr H H') : Two C b1 d1 b2 d2 m H0 H' r1 r2 ks :=
  { W with g := W.g.trans g, one := W.one.gr g, two := W.two.gr g, at_ := g.at_ _ _ W.at_ fun _ z => nomatch z }
theorem Two.swap (W : Two C b1 d1 b2 d2 m H0 H r1 r2 ks) : Two C b2 d2 b1 d1 m H0 H r2 r1 ks :=
  ⟨W.g, W.two, W.one, W.at_, W.nb.symm, W.nd.symm, W.nm2, W.nm1, W.z3, W.z4, W.z1, W.z2, W.z5⟩
/-- one of the books changes -/
theorem Two.upd1 {r1' : List (List Str)} (W : Two C b1 d1 b2 d2 m H0 H r1 r2 ks) (g : GrX (fun a => a = b1 ∨ a = d1) H H') (B' : BkN C H' b1 d1 r1') : Two C b1 d1 b2 d2 m H0 H' r1' r2 ks := by
  obtain ⟨tb, B, T, e⟩ := W.one.ex
  obtain ⟨tb2, B2, T2, e2⟩ := W.two.ex
  obtain ⟨dx, eb⟩ := B.ob
  refine { W with g := GrX.young W.g g fun b hb => hb.elim (fun z => z ▸ W.z1) (fun z => z ▸ W.z2), one := B', two := ⟨tb2, B.off2 g (fun _ z => z) B2 W.nb W.nd, T2, e2⟩, at_ := g.at_ _ _ (fun z => ?_) W.at_ fun _ z => nomatch z }
  rcases z with z | z
  · have := W.at_
    rw [z, eb] at this
    cases this
  · exact W.nm1 z
/-- the dict gets one more -/
theorem Two.key (W : Two C b1 d1 b2 d2 m H0 H r1 r2 ks) (k : Int) : Two C b1 d1 b2 d2 m H0 (upd H m (.dK (kvI (ddG (ks ++ [k]))))) r1 r2 (ks ++ [k]) := by
  have off : ∀ {b d : Addr} {rows : List (List Str)}, BkN C H b d rows → m ≠ d → BkN C (upd H m (.dK (kvI (ddG (ks ++ [k]))))) b d rows := fun {b d rows} B nd => by
    obtain ⟨tb, B, T, e⟩ := B.ex
    obtain ⟨dx, eb⟩ := B.ob
    have mb : b ≠ m := fun z => by
      have := W.at_
      rw [← z, eb] at this
      cases this
    refine ⟨tb, ⟨⟨dx, by rw [upd_ne mb]; exact eb⟩, by rw [upd_ne nd.symm]; exact B.dc, fun e he => ?_⟩, T, e⟩
    have h1 := B.own e he
    have me : e.2.1 ≠ m := fun z => by
      have := W.at_
      rw [← z, h1] at this
      cases this
    rw [upd_ne me]
    exact h1
  exact { W with g := W.g.mut W.z5, one := off W.one W.nm1, two := off W.two W.nm2, at_ := upd_same }
end
theorem BkN.put {C : Addr} {H' : Hp} {b d p : Addr} {tb : Tb1} {rows : List (List Str)} {x : Str} (T : Tok tb (rows.length : Nat)) (e : nr tb = numd rows) (nm : isNm x = true) (few : tb.length < 30) (wide : (allN (rws tb ++ [[x]])).length ≤ 12)
    (B : Bk C H' b d (tb ++ [(((rows.length : Nat) : Int), p, once [x])]) ((rows.length : Nat) + 1)) : BkN C H' b d (rows ++ [[x]]) := by
  have el : ((rows ++ [[x]]).length : Int) = (rows.length : Int) + 1 := by rw [List.length_append]; rfl
  refine ⟨_, by rw [el]; exact B, by rw [el]; exact T.put (fun y hy => by rw [List.mem_singleton.mp hy]; exact nm) few wide p, ?_⟩
  rw [nr_snoc, e, numd_snoc, once_one1]
theorem nr_len_rows {tb : Tb1} {rows : List (List Str)} (e : nr tb = numd rows) : tb.length = rows.length := by
  have h1 := congrArg List.length e
  unfold nr numd at h1
  rw [List.length_map, List.length_mapIdx] at h1
  exact h1
theorem row_one {r : List Str} {j : Nat} (hj : j < 26) (e : r = [lettr j]) : Nms r ∧ r.Nodup ∧ r.length ≤ 100 := by
  subst e
  exact ⟨fun y hy => by rw [List.mem_singleton.mp hy]; exact lettr_nm hj, (ris_one1 _).nodup, (by show 1 ≤ 100; decide)⟩
theorem joinOk {J : List (List Str)} (h : ∀ r ∈ J, ∃ j, j < 26 ∧ r = [lettr j]) : RowsOk J ↔ J.length ≤ 30 ∧ (allN J).length ≤ 12 :=
  ⟨fun z => ⟨z.few, z.wide⟩, fun z => ⟨fun r hr => let ⟨j, hj, e⟩ := h r hr; row_one hj e, z.1, z.2⟩⟩
theorem allN_unions {A B : List (List Str)} (a0 : A ≠ []) (b0 : B ≠ []) : allN (unions A B) = allN (A ++ B) := by
  have sub : ∀ y, y ∈ allN (unions A B) ↔ y ∈ allN (A ++ B) := fun y => by
    rw [allN_iff, allN_iff]
    constructor
    · rintro ⟨r, hr, hy⟩
      obtain ⟨a, ha, b, hb, rfl⟩ := unions_mem.mp hr
      rcases List.mem_append.mp (once_mem.mp hy) with hy | hy
      · exact ⟨a, List.mem_append_left _ ha, hy⟩
      · exact ⟨b, List.mem_append_right _ hb, hy⟩
    · rintro ⟨r, hr, hy⟩
      rcases List.mem_append.mp hr with hr | hr
      · obtain ⟨b, hb⟩ := List.exists_mem_of_ne_nil B b0
        exact ⟨_, unions_mem.mpr ⟨r, hr, b, hb, rfl⟩, once_mem.mpr (List.mem_append_left _ hy)⟩
      · obtain ⟨a, ha⟩ := List.exists_mem_of_ne_nil A a0
        exact ⟨_, unions_mem.mpr ⟨a, ha, r, hr, rfl⟩, once_mem.mpr (List.mem_append_right _ hy)⟩
  exact (sublist_of (ris_allN _) (ris_allN _) fun y hy => (sub y).mp hy).eq_of_length_le (sublist_of (ris_allN _) (ris_allN _) fun y hy => (sub y).mpr hy).length_le
theorem crossOk {A B : List (List Str)} (hA : ∀ r ∈ A, ∃ j, j < 26 ∧ r = [lettr j]) (hB : ∀ r ∈ B, ∃ j, j < 26 ∧ r = [lettr j]) : RowsOk (unions A B) ↔ A.length * B.length ≤ 30 ∧ (0 < A.length → 0 < B.length → (allN (A ++ B)).length ≤ 12) := by
  constructor
  · intro z
    refine ⟨by have := z.few; rwa [unions_len] at this, fun a0 b0 => ?_⟩
    rw [← allN_unions (fun e => by rw [e] at a0; exact absurd a0 (Nat.lt_irrefl _)) (fun e => by rw [e] at b0; exact absurd b0 (Nat.lt_irrefl _))]
    exact z.wide
  · intro z
    refine ⟨fun r hr => ?_, by rw [unions_len]; exact z.1, ?_⟩
    · obtain ⟨a, ha, b, hb, rfl⟩ := unions_mem.mp hr
      obtain ⟨i, hi, rfl⟩ := hA a ha
      obtain ⟨j, hj, rfl⟩ := hB b hb
      refine ⟨fun y hy => ?_, (ris_once _).nodup, ?_⟩
      · rcases List.mem_append.mp (once_mem.mp hy) with hy | hy
        · rw [List.mem_singleton.mp hy]; exact lettr_nm hi
        · rw [List.mem_singleton.mp hy]; exact lettr_nm hj
      · have : (once ([lettr i] ++ [lettr j])).length ≤ ([lettr i] ++ [lettr j]).length := once_len
        have e : ([lettr i] ++ [lettr j]).length = 2 := rfl
        omega
    · cases A with
      | nil => exact (by decide +kernel : (allN []).length ≤ 12)
      | cons a A =>
        cases B with
        | nil =>
          have e : unions (a :: A) [] = [] := by
            unfold unions
            rw [List.flatMap_eq_nil_iff]
            exact fun _ _ => rfl
          rw [e]
          exact (by decide +kernel : (allN []).length ≤ 12)
        | cons b B =>
          rw [allN_unions (List.cons_ne_nil _ _) (List.cons_ne_nil _ _)]
          exact z.2 (Nat.succ_pos _) (Nat.succ_pos _)
/-- rows of a letter each, going round -/
def roun (o k i : Nat) : List Nat := (List.range i).map fun t => o + t % k
def rlet (js : List Nat) : List (List Str) := js.map fun j => [lettr j]
def rkey (js : List Nat) : List Int := js.map fun j => ((j : Nat) : Int)
theorem roun_succ (o k i : Nat) : roun o k (i + 1) = roun o k i ++ [o + i % k] := by
  unfold roun
  rw [List.range_succ, List.map_append]
  rfl
theorem roun_len (o k i : Nat) : (roun o k i).length = i := by
  unfold roun
  rw [List.length_map, List.length_range]
theorem rlet_len (js : List Nat) : (rlet js).length = js.length := List.length_map _
theorem roun_lt {o k i j : Nat} (hk : 1 ≤ k) (h12 : k ≤ 12) (h : j ∈ roun o k i) : ∃ t, t < 12 ∧ j = o + t := by
  obtain ⟨t, _, rfl⟩ := List.mem_map.mp h
  exact ⟨t % k, by have := Nat.mod_lt t (show 0 < k by omega); omega, rfl⟩
theorem rlet_app (a b : List Nat) : rlet (a ++ b) = rlet a ++ rlet b := List.map_append
theorem rkey_app (a b : List Nat) : rkey (a ++ b) = rkey a ++ rkey b := List.map_append
theorem rlet_mem {js : List Nat} {r : List Str} (h : r ∈ rlet js) : ∃ j ∈ js, r = [lettr j] := by
  obtain ⟨j, hj, rfl⟩ := List.mem_map.mp h
  exact ⟨j, hj, rfl⟩
theorem num_in {tb : Tb1} {rows : List (List Str)} (e : nr tb = numd rows) {i : Nat} (h : i < rows.length) : ∃ x ∈ tb, x.1 = (i : Int) := by
  have h1 : ((i : Int), rows[i]) ∈ nr tb := by
    rw [e]
    unfold numd
    rw [List.mem_mapIdx]
    exact ⟨i, h, rfl⟩
  obtain ⟨x, hx, e2⟩ := List.mem_map.mp h1
  exact ⟨x, hx, congrArg Prod.fst e2⟩
theorem filt_next (tb : Tb1) (i : Nat) : (tb.filter fun e => decide ((i : Int) ≤ e.1)).filter (fun e => decide (e.1 ≠ 0 + (i : Int))) = tb.filter fun e => decide (((i + 1 : Nat) : Int) ≤ e.1) := by
  rw [List.filter_filter]
  refine List.filter_congr fun e _ => ?_
  rw [Bool.eq_iff_iff, Bool.and_eq_true, decide_eq_true_eq, decide_eq_true_eq, decide_eq_true_eq]
  omega
theorem nums_numd {tb : Tb1} {rows : List (List Str)} (e : nr tb = numd rows) : nums tb = (List.range rows.length).map fun i : Nat => ((i : Nat) : Int) := by
  have h1 : nums tb = (nr tb).map (·.1) := by
    unfold nums nr
    rw [List.map_map]
    rfl
  rw [h1, e]
  clear e h1
  induction rows using snoc_ind with
  | h0 => rfl
  | h1 xs x ih =>
    rw [numd_snoc, List.map_append, ih, List.length_append, List.length_singleton, List.range_succ, List.map_append]
    rfl
theorem range_filt (g : Nat) : ∀ n : Nat, ((List.range n).filter fun i => decide (g ≤ i)).length = n - g
  | 0 => by simp
  | n + 1 => by
    rw [List.range_succ, List.filter_append, List.length_append, range_filt g n]
    by_cases h : g ≤ n
    · rw [List.filter_cons, if_pos (decide_eq_true h)]
      show n - g + 1 = _
      omega
    · rw [List.filter_cons, if_neg (by rw [decide_eq_false h]; exact Bool.false_ne_true)]
      show n - g + 0 = _
      omega
theorem num_filt {tb : Tb1} {rows : List (List Str)} (e : nr tb = numd rows) (g : Nat) : (tb.filter fun e => decide ((g : Int) ≤ e.1)).length = rows.length - g := by
  have h1 : (tb.filter fun e => decide ((g : Int) ≤ e.1)).length = ((nums tb).filter fun k => decide ((g : Int) ≤ k)).length := by
    unfold nums
    rw [List.filter_map, List.length_map]
    rfl
  rw [h1, nums_numd e, List.filter_map, List.length_map, ← range_filt g rows.length]
  refine congrArg List.length (List.filter_congr fun i _ => ?_)
  show decide ((g : Int) ≤ (i : Int)) = decide (g ≤ i)
  exact decide_eq_decide.mpr (by omega)
/-- a book of rows of one letter each, out of the first n -/
structure St12 (C : Addr) (H : Hp) (b d : Addr) (tb : Tb1) (n : Int) (nk : Nat) : Prop where
  bk : Bk C H b d tb n
  ok : Tok tb n
  rows : ∀ r ∈ rws tb, ∃ j, j < nk ∧ r = [lettr j]
theorem St12.gr {C : Addr} {H H' : Hp} {b d : Addr} {tb : Tb1} {n : Int} {nk : Nat} (S : St12 C H b d tb n nk) (g : Gr H H') : St12 C H' b d tb n nk := ⟨S.bk.gr g, S.ok, S.rows⟩
theorem rws_filt {tb : Tb1} {p : Int × Addr × List Str → Bool} {r : List Str} (h : r ∈ rws (tb.filter p)) : r ∈ rws tb := by
  obtain ⟨e, he, rfl⟩ := List.mem_map.mp h
  exact List.mem_map.mpr ⟨e, (List.mem_filter.mp he).1, rfl⟩
/-- the names that stand in a book's rows, in some order -/
def Nmd (tb : Tb1) (there : List Str) : Prop := there.Nodup ∧ ∀ y, y ∈ there ↔ y ∈ allN (rws tb)
theorem heads_eq {tb : Tb1} {rs : List Pr1} (er : rs.map (fun r => (r.k, r.r)) = nr tb) : (rs.map fun r => r.r.headD "") = (rws tb).map fun r => r.headD "" := by
  rw [rws_nr, ← er, List.map_map, List.map_map]
  rfl
/-- the names that the law asks for -/
theorem there_ok {C : Addr} {H : Hp} {b d : Addr} {tb : Tb1} {n : Int} {nk : Nat} (S : St12 C H b d tb n nk) :
    Nmd tb (((List.range nk).map lettr).filter fun y => decide (y ∈ (rws tb).map fun r => r.headD "")) := by
  refine ⟨(List.Pairwise.map lettr (fun i j (h : i ≠ j) z => h (lettr_inj z)) List.nodup_range).sublist List.filter_sublist, fun y => ?_⟩
  rw [List.mem_filter, decide_eq_true_eq, allN_iff]
  constructor
  · rintro ⟨_, h2⟩
    obtain ⟨r, hr, rfl⟩ := List.mem_map.mp h2
    obtain ⟨j, hj, rfl⟩ := S.rows r hr
    exact ⟨_, hr, List.mem_singleton.mpr rfl⟩
  · rintro ⟨r, hr, hy⟩
    obtain ⟨j, hj, rfl⟩ := S.rows r hr
    rw [List.mem_singleton.mp hy]
    exact ⟨List.mem_map.mpr ⟨j, List.mem_range.mpr hj, rfl⟩, List.mem_map.mpr ⟨_, hr, rfl⟩⟩
theorem take_len {tb : Tb1} {n k : Int} (T : Tok tb n) (h : k ∈ nums tb) : (tb.filter fun e => decide (e.1 ≠ k)).length = tb.length - 1 := by
  have e1 : (tb.filter fun e => decide (e.1 ≠ k)).length = ((nums tb).filter fun x => decide (x ≠ k)).length := by
    unfold nums
    rw [List.filter_map, List.length_map]
    rfl
  have nd : (nums tb).Nodup := pw_nodup T.num
  have e2 : ((nums tb).filter fun x => decide (x ≠ k)) = (nums tb).erase k := by
    rw [nd.erase_eq_filter]
    refine List.filter_congr fun x _ => ?_
    rw [Bool.eq_iff_iff, decide_eq_true_eq, bne_iff_ne]
  rw [e1, e2, List.length_erase_of_mem h]
  unfold nums
  rw [List.length_map]
end K1
end
section
set_option maxHeartbeats 8000000
namespace K1
open PySem PySem.Spec PyProof.Rows L2 Gr GxR Srx Skx Dcx
section
variable {P : Program} {w : World} {K : PySem.W.Frag} {mg : Str → Option Value} {base : Heap} {f C : Addr} {fd : FuncData} {N : TabN} {R : ErN}
/-- the error classes by their names -/
structure WdG (mg : Str → Option Value) (R : ErN) : Prop where
  gN : mg "BadName" = some (.ref R.name)
  gR : mg "BadRow" = some (.ref R.row)
  gT : mg "TooMany" = some (.ref R.many)
  gM : mg "NoMeet" = some (.ref R.meet)
  gO : mg "NoRow" = some (.ref R.no)
  gU : mg "Unread" = some (.ref R.un)
/-- what isinstance says of the class D -/
structure WdC (K : PySem.W.Frag) (R : ErN) (D : Addr) (b1 b2 b3 b4 : Bool) : Prop where
  ex : ExcC K D
  k1 : PySem.W.kitOne K (.ref D) (.ref R.name) = some b1
  k2 : PySem.W.kitOne K (.ref D) (.ref R.row) = some b2
  k3 : PySem.W.kitOne K (.ref D) (.ref R.many) = some b3
  k4 : PySem.W.kitAny K (.ref D) [.ref R.meet, .ref R.no, .ref R.un] = some b4
  kV : PySem.W.kitOne K (.ref D) (.type "ValueError") = some true
def wordT (b1 b2 b3 b4 : Bool) : Str := tx01 "name" b1 ++ tx01 "row" b2 ++ tx01 "many" b3 ++ tx01 "else" b4 ++ tx01 "odd" (!true)
abbrev nWords : List Str := ["_law_e","_law_found"]
theorem scWords : FnScope nWords ["_law_e"] (defScope s_law_words_x) := ⟨rfl, rfl, rfl, by decide +kernel, rfl, by decide +kernel, by decide +kernel⟩
def spWords (K : PySem.W.Frag) (R : ErN) : Addr → Value → Option Addr → Sp := fun a cls d vs H Q _ => ∃ D b1 b2 b3 b4, vs = [.ref a] ∧ cls = .ref D ∧ d = none ∧ WdC K R D b1 b2 b3 b4 ∧ ∀ H', Gr H H' → Q (.str (wordT b1 b2 b3 b4)) H'
theorem ok_words (F : FnP K "_law_words" s_law_words_x f fd) (GW : WdG mg R) (g_isinstance : mg "isinstance" = none) (g_int : mg "int" = none) (gV : mg "ValueError" = none) : FnQ P w K mg base 1 f fd ["_law_e"] (spWords K R) := by
  have g_ValueError := gV
  refine okQ F scWords (fun a cls d vs H Q E h => ?_) (fun cdv A outer s H vs Q E o cls d hr hz hf h => ?_)
  · obtain ⟨D, b1, b2, b3, b4, rfl, _⟩ := h
    rfl
  · obtain ⟨a, oe⟩ := o
    obtain ⟨D, b1, b2, b3, b4, rfl, rfl, rfl, WC, q⟩ := h
    have hp : (a, oe) ∈ (L2H.cxH CX0 P w K mg base nWords "_law_words" (defScope s_law_words_x) f cdv A outer s H E (a, oe)).pn := List.mem_singleton.mpr rfl
    refine ⟨_,  (pss_cons (ps_set (i := 1) scWords.nd rfl (.inl rfl) (pe_op op_add_str (pe_op op_rep_str pe_str (pe_callTy call_int1 (by rfl) g_int (by decide +kernel) (pa_cons (pe_callB (r := rIsP K D a) (call_isP hp WC.ex hz hf) (by rfl) g_isinstance (by decide +kernel) (pa_cons (pv 0) (pa_cons (pe_glob (v := .ref R.name) (by rfl) GW.gN rfl) pa_nil))) pa_nil))) (pe_op op_rep_str pe_str (pe_callTy call_int1 (by rfl) g_int (by decide +kernel) (pa_cons (pe_callB (r := rIsP K D a) (call_isP hp WC.ex hz hf) (by rfl) g_isinstance (by decide +kernel) (pa_cons (pv 0) (pa_cons (pe_glob (v := .ref R.row) (by rfl) GW.gR rfl) pa_nil))) pa_nil))))) (pss_cons (ps_set (i := 1) scWords.nd rfl (.inl rfl) (pe_op op_add_str (pv 1) (pe_op op_rep_str pe_str (pe_callTy call_int1 (by rfl) g_int (by decide +kernel) (pa_cons (pe_callB (r := rIsP K D a) (call_isP hp WC.ex hz hf) (by rfl) g_isinstance (by decide +kernel) (pa_cons (pv 0) (pa_cons (pe_glob (v := .ref R.many) (by rfl) GW.gT rfl) pa_nil))) pa_nil))))) (pss_cons (ps_set (i := 1) scWords.nd rfl (.inl rfl) (pe_op op_add_str (pv 1) (pe_op op_rep_str pe_str (pe_callTy call_int1 (by rfl) g_int (by decide +kernel) (pa_cons (pe_callB (r := rIsPT K D a) (call_isPT hp WC.ex hz hf) (by rfl) g_isinstance (by decide +kernel) (pa_cons (pv 0) (pa_cons (pe_tup (pa_cons (pe_glob (v := .ref R.meet) (by rfl) GW.gM rfl) (pa_cons (pe_glob (v := .ref R.no) (by rfl) GW.gO rfl) (pa_cons (pe_glob (v := .ref R.un) (by rfl) GW.gU rfl) pa_nil)))) pa_nil))) pa_nil))))) (pss_one (ps_ret (pe_op op_add_str (pv 1) (pe_op op_rep_str pe_str (pe_callTy call_int1 (by rfl) g_int (by decide +kernel) (pa_cons (pe_not (pe_callB (r := rIsP K D a) (call_isP hp WC.ex hz hf) (by rfl) g_isinstance (by decide +kernel) (pa_cons (pv 0) (pa_cons (pe_bltn (v := .ty "ValueError") (by rfl) g_ValueError (by decide +kernel) rfl) pa_nil)))) pa_nil))))))))), ?_⟩
    have len4 : ∀ (x : Str) (b : Bool), x.length ≤ 4 → (tx01 x b).length ≤ 4 := fun x b h => by
      cases b with
      | true => exact h
      | false => exact Nat.zero_le _
    have l1 := len4 "name" b1 (by decide +kernel)
    have l2 := len4 "row" b2 (by decide +kernel)
    have l3 := len4 "many" b3 (by decide +kernel)
    have l4 := len4 "else" b4 (by decide +kernel)
    have l5 := len4 "odd" (!true) (by decide +kernel)
    have hs : 100 ≤ sizeLine := by rw [sizeLine_eq]; omega
    have l12 : (tx01 "name" b1 ++ tx01 "row" b2).length ≤ 8 := by rw [Str.length_append]; omega
    have l123 : (tx01 "name" b1 ++ tx01 "row" b2 ++ tx01 "many" b3).length ≤ 12 := by rw [Str.length_append]; omega
    have l1234 : (tx01 "name" b1 ++ tx01 "row" b2 ++ tx01 "many" b3 ++ tx01 "else" b4).length ≤ 16 := by rw [Str.length_append]; omega
    refine ⟨_, rfl, _, _, b1, rfl, .own _, WC.k1, .inr ⟨_, rfl, _, _, rfl, rfl, ?_⟩⟩
    refine ⟨_, rfl, _, _, b2, rfl, .own _, WC.k2, .inr ⟨_, rfl, _, _, rfl, rfl, ?_⟩⟩
    refine ⟨_, _, rfl, rfl, by omega, ?_⟩
    refine ⟨_, rfl, _, rfl, _, _, b3, rfl, .own _, WC.k3, .inr ⟨_, rfl, _, _, rfl, rfl, ?_⟩⟩
    refine ⟨_, _, rfl, rfl, by omega, ?_⟩
    refine ⟨_, rfl, _, rfl, (by show 3 ≤ sizeLine; decide), fun t nt => ⟨t, _, _, b4, rfl, upd_same, .cons (.own _) (.cons (.own _) (.cons (.own _) .nil)), WC.k4, .inr ⟨_, rfl, _, _, rfl, rfl, ?_⟩⟩⟩
    refine ⟨_, _, rfl, rfl, by omega, ?_⟩
    refine ⟨_, rfl, _, rfl, _, _, true, rfl, .ty _, WC.kV, _, rfl, .inr ⟨_, rfl, _, _, rfl, rfl, ?_⟩⟩
    exact ⟨_, _, rfl, rfl, by omega, q _ (Gr.new nt)⟩
end
end K1
end
section
set_option maxHeartbeats 8000000
namespace K1
open PySem PySem.Spec PyProof.Rows L2 Gr GxR Srx Skx Dcx
section
variable {P : Program} {w : World} {K : PySem.W.Frag} {mg : Str → Option Value} {base : Heap} {f C : Addr} {fd : FuncData} {N : TabN} {R : ErN}
/-! ### _law_odd -/
theorem scOdd2 : FnScope ["_law_cell"] ["_law_cell"] (defScope s_law_odd_x) := ⟨rfl, rfl, rfl, by decide +kernel, rfl, by decide +kernel, by decide +kernel⟩
theorem ok_odd2 (F : FnP K "_law_odd" s_law_odd_x f fd) : FnOk P w K mg base CX0 1 f fd ["_law_cell"] (spOdd K) := by
  refine F.ok scOdd2 (fun vs H Q E h => ?_) (fun cdv A outer s H vs Q E hr h => ?_)
  · obtain ⟨c, rfl, _⟩ := h
    rfl
  · obtain ⟨c, rfl, q⟩ := h
    refine ⟨_, PSs.nox (pss_one (ps_ret (pe_ix ix_list (pe_lst (pa_cons pe_str (pa_cons pe_str (pa_cons pe_str (pa_cons pe_str (pa_cons pe_str (pa_cons pe_non (pa_cons pe_int (pa_cons pe_bl (pa_cons (pe_lst (pa_cons pe_str pa_nil)) (pa_cons (pe_tup (pa_cons pe_str pa_nil)) (pa_cons pe_str pa_nil)))))))))))) (pe_op op_mod (pv 0) pe_int) (fun _ _ => rfl)))), ?_⟩
    have one : 1 ≤ sizeLine := by rw [sizeLine_eq]; omega
    refine ⟨one, fun l1 n1 => ⟨one, fun t1 n2 => ⟨(by show 11 ≤ sizeLine; decide), fun l nl => ?_⟩⟩⟩
    have g1 : Gr H (upd H l1 (.lst [.str "a"])) := Gr.new n1
    have g2 := Gr.new (o := .tup [.str "a"]) n2
    have g3 := Gr.new (o := .lst [.str "", .str "abcdefghi", .str "A", .str "a1", .str "a b", .non, .int 3, .bl true, .ref l1, .ref t1, .str "-"]) nl
    obtain ⟨v, hv, mv⟩ := atI_mod (xs := [V.str "", .str "abcdefghi", .str "A", .str "a1", .str "a b", .non, .int 3, .bl true, .ref l1, .ref t1, .str "-"]) (c := c) (n := 11) rfl (by omega)
    refine ⟨_, rfl, _, _, rfl, rfl, (by show (0 : Int) < 11; decide), l, _, _, v, rfl, rfl, .inl (.inl upd_same), hv, ?_⟩
    have sm : ∀ x : Str, x.length ≤ 9 → x.length ≤ sizeLine := fun x hx => by rw [sizeLine_eq]; omega
    refine q v _ ((g1.trans g2).trans g3) ?_ ?_
    · simp only [List.mem_cons, List.not_mem_nil, or_false] at mv
      rcases mv with rfl | rfl | rfl | rfl | rfl | rfl | rfl | rfl | rfl | rfl | rfl
      · exact thing_str (sm _ (by decide +kernel))
      · exact thing_str (sm _ (by decide +kernel))
      · exact thing_str (sm _ (by decide +kernel))
      · exact thing_str (sm _ (by decide +kernel))
      · exact thing_str (sm _ (by decide +kernel))
      · exact thing_not (t := "NoneType") (.base .non) (by decide +kernel) rfl
      · exact thing_not (t := "int") (.base (.int 3)) (by decide +kernel) rfl
      · exact thing_not (t := "bool") (.base (.bl true)) (by decide +kernel) rfl
      · exact thing_not (t := "list") (.base (.lst (g3.lst (g2.lst upd_same)))) (by decide +kernel) rfl
      · exact thing_not (t := "tuple") (.base (.tup (g3.tup upd_same))) (by decide +kernel) rfl
      · exact thing_str (sm _ (by decide +kernel))
    · simp only [List.mem_cons, List.not_mem_nil, or_false] at mv
      rcases mv with rfl | rfl | rfl | rfl | rfl | rfl | rfl | rfl | rfl | rfl | rfl <;> first | rfl | decide +kernel
/-! ### _law_is_name -/
def lets : Str := "abcdefghijklmnopqrstuvwxyz"
theorem lets_small (c : Nat) : (!decide (c ∈ lets.cps.toList)) = !small c := by
  have e : lets.cps.toList = (List.range 26).map (97 + ·) := by decide +kernel
  rw [e]
  unfold small
  congr 1
  rw [Bool.eq_iff_iff, decide_eq_true_eq, Bool.and_eq_true, decide_eq_true_eq, decide_eq_true_eq, List.mem_map]
  constructor
  · rintro ⟨a, ha, rfl⟩
    rw [List.mem_range] at ha
    omega
  · intro h
    exact ⟨c - 97, List.mem_range.mpr (by omega), by omega⟩
abbrev nLIs : List Str := ["_law_thing","_law_sign"]
theorem scLIs : FnScope nLIs ["_law_thing"] (defScope s_law_is_name_x) := ⟨rfl, rfl, rfl, by decide +kernel, rfl, by decide +kernel, by decide +kernel⟩
def spLIs (K : PySem.W.Frag) : Sp := fun vs H Q _ => ∃ v, vs = [v] ∧ Thing K H v ∧ ∀ H', Gr H H' → Q (.bl (nmV v)) H'
theorem ok_lis (F : FnP K "_law_is_name" s_law_is_name_x f fd) (g_isinstance : mg "isinstance" = none) (g_str : mg "str" = none) (g_len : mg "len" = none) : FnOk P w K mg base CX0 1 f fd ["_law_thing"] (spLIs K) := by
  refine F.ok scLIs (fun vs H Q E h => ?_) (fun cdv A outer s H vs Q E hr h => ?_)
  · obtain ⟨v, rfl, _⟩ := h
    rfl
  · obtain ⟨v, rfl, hv, q⟩ := h
    refine ⟨_, PSs.nox (pss_cons (ps_if (PW.pt (pw_or (pt_not (pt_val (pe_callB call_isi (by rfl) g_isinstance (by decide +kernel) (pa_cons (pv 0) (pa_cons (pe_bltn (v := .ty "str") (by rfl) g_str (by decide +kernel) rfl) pa_nil))))) (pw_or1 (pt_not (pt_chain op_le op_le pe_int (pe_callB call_len_str (by rfl) g_len boot_len (pa_cons (pv 0) pa_nil)) pe_int))))) (pss_one (ps_ret pe_bl)) (pss_nil)) (pss_one (ps_ret (pe_cmpR (op_eqNil (hu64 hr)) (pe_lc (own := [("_law_sign", 1)]) (g := gName 1) rfl scLIs.nd (pi_str (pv 0)) (blkOk_by (N := nLIs) (sc := defScope s_law_is_name_x) (by decide +kernel)) (fun _ _ _ _ _ => (pg_name (i := 1) scLIs.nd rfl (.inl rfl))) (fun _ _ _ _ _ => pts_one (pt_cmpR op_notIn_sign (pv 1) pe_str rfl)) (fun _ _ _ _ _ => (pv 1))) (pe_lst pa_nil) (nomark _))))), ?_⟩
    obtain ⟨t, ty, kt, hl⟩ := hv
    refine ⟨v, rfl, _, _, _, _, _, rfl, .ty _, ty, kit_ty kt, _, rfl, ?_⟩
    cases v with
    | str x =>
      have hx := hl x rfl
      refine iteF ?_
      refine ⟨V.str x, rfl, x, rfl, hx, 1, _, rfl, rfl, _, rfl, ?_⟩
      by_cases h1 : (1 : Int) ≤ x.length
      · rw [decide_eq_true h1]
        refine iteT ⟨_, _, rfl, rfl, ?_⟩
        refine ⟨decide ((x.length : Int) ≤ 8), rfl, ?_⟩
        by_cases h8 : (x.length : Int) ≤ 8
        · rw [decide_eq_true h8]
          refine iteF ?_
          refine ⟨_, rfl, x, rfl, fun D nD => lc_filtC (fun c => !small c) (by rw [sizeLine_eq]; omega) nD (fun _ => rfl) (fun _ => rfl) (fun c hc H4 Qb g4 hq => ?_) (fun H2 g2 e2 => ?_)⟩
          · refine ⟨_, rfl, c, lets, rfl, rfl, ?_⟩
            rw [lets_small]
            exact ⟨_, rfl, hq H4 (Gr.refl _)⟩
          · refine ⟨Nat.zero_le _, fun l nl => ?_⟩
            refine ⟨_, _, _, rfl, rfl, (Gr.new nl).lst e2, upd_same, ?_⟩
            have e : ((x.cps.toList.filter fun c => !small c).map fun c => V.str ⟨#[c]⟩).isEmpty = isNm x := by
              unfold isNm
              rw [decide_eq_true (show 1 ≤ x.length by omega), decide_eq_true (show x.length ≤ 8 by omega), Bool.true_and, Bool.true_and, Bool.eq_iff_iff, List.isEmpty_iff, List.map_eq_nil_iff, List.filter_eq_nil_iff, List.all_eq_true]
              exact forall_congr' fun c => imp_congr_right fun _ => by cases small c <;> simp
            rw [e]
            exact q _ (g2.trans (Gr.new nl))
        · rw [decide_eq_false h8]
          refine iteT ?_
          have e : nmV (.str x) = false := by
            show isNm x = false
            unfold isNm
            rw [decide_eq_false (show ¬ x.length ≤ 8 by omega), Bool.false_and, Bool.and_false]
          rw [← e]
          exact q _ (Gr.refl _)
      · rw [decide_eq_false h1]
        refine iteF ⟨_, rfl, iteT ?_⟩
        have e : nmV (.str x) = false := by
          show isNm x = false
          unfold isNm
          rw [decide_eq_false (show ¬ 1 ≤ x.length by omega), Bool.false_and]
        rw [← e]
        exact q _ (Gr.refl _)
    | _ =>
      refine iteT ?_
      exact q _ (Gr.refl _)
theorem lc_textsG {D : Addr} {j n : Nat} {σ : L2.St} {vs : List Nat} {te : TE} {H1 : Hp} {Qd : Hp → Prop} (G : Nat → Str) (few : n ≤ 1000) (hD : H1 D = none) (hw : ∀ v, wipe ((wipe σ vs).set j (some v)) vs = wipe σ vs)
    (he : ∀ (k : Nat) (H4 : Hp) (Q' : VK), k < n → Gr H1 H4 → Q' (.str (G k)) H4 → te ((wipe σ vs).set j (some (.int ((0 : Int) + (k : Nat))))) H4 Q')
    (q : ∀ H2, Gr H1 H2 → H2 D = some (.lst (((List.range n).map G).map V.str)) → Qd H2) :
    ∃ W : Nat → Nat → Hp → Prop, (∃ m, W 0 m (upd H1 D (.lst []))) ∧ ∀ i m H, W i m H →
      ((Itr 0 n).stop i H ∧ Qd H) ∨ ((Itr 0 n).go i H ∧ ∃ Nx : Hp → Prop, (∀ H', Nx H' → ∃ m', m' < m ∧ W (i + 1) m' H') ∧ ∀ x H', (Itr 0 n).yld i H x H' → gName j x (wipe σ vs) H' fun σ2 H2 => wipe σ2 vs = wipe σ vs ∧ tYes σ2 H2 fun b H3 =>
        if b = true then te σ2 H3 fun y H4 => ∃ acc, H4 D = some (.lst acc) ∧ acc.length < sizeLine ∧ Nx (upd H4 D (.lst (acc ++ [y]))) else Nx H3) := by
  refine lc_range (Qd := Qd) (fun i H2 => Gr H1 H2 ∧ H2 D = some (.lst (((List.range i).map G).map V.str))) ⟨Gr.new hD, upd_same⟩ (fun i H2 hi h => ?_) (fun H2 h => q H2 h.1 h.2)
  obtain ⟨g2, e⟩ := h
  refine ⟨hw _, yesIf (he i H2 _ hi g2 ⟨_, e, ?_, g2.mut hD, ?_⟩)⟩
  · rw [List.length_map, List.length_map, List.length_range]
    exact small1000 (by omega)
  · rw [upd_same, List.range_succ, List.map_append, List.map_append]
    rfl
/-- what is handed in -/
def Hnd (K : PySem.W.Frag) (H : Hp) (v : V) : Prop := (∃ xs, HOk H v xs ∧ xs.length ≤ 12) ∨ HBadN K H v ∨ HBadR K H v
abbrev nLList : List Str := ["_law_cell", "_law_names", "_law_row", "_law_k", "_law_at"]
theorem scLList : FnScope nLList ["_law_cell", "_law_names"] (defScope s_law_list_x) := ⟨rfl, rfl, rfl, by decide +kernel, rfl, by decide +kernel, by decide +kernel⟩
def spLList (K : PySem.W.Frag) : Sp := fun vs H Q _ => ∃ (c : Int) (a : Addr) (ns : List Str), vs = [.int c, .ref a] ∧ SqL K H a (ns.map V.str) ∧ ns ≠ [] ∧ Nms ns ∧ ns.length ≤ 12 ∧ ∀ v H', Gr H H' → Hnd K H' v → Q v H'
theorem ok_llist (F : FnP K "_law_list" s_law_list_x f fd) (cO : Calls P w K mg base CX0 1 "_law_odd" (spOdd K)) (g_len : mg "len" = none) (g_range : mg "range" = none) : FnOk P w K mg base CX0 2 f fd ["_law_cell", "_law_names"] (spLList K) := by
  refine F.ok scLList (fun vs H Q E h => ?_) (fun cdv A outer s H vs Q E hr h => ?_)
  · obtain ⟨c, a, ns, rfl, _⟩ := h
    rfl
  · obtain ⟨c, a, ns, rfl, hA, ne, nms, few, q⟩ := h
    refine ⟨_, PSs.nox (pss_cons (ps_setLc (i := 2) (own := [("_law_k", 3)]) (g := gName 3) (tt := tYes) rfl scLList.nd rfl rfl (sw_true rfl rfl rfl (by decide +kernel)) (pi_range1 (by rfl) g_range (pa_cons (pe_op op_mod (pe_op op_fdiv (pv 0) pe_int) pe_int) pa_nil)) (blkOk_by (N := nLList) (sc := defScope s_law_list_x) (by decide +kernel)) (fun _ _ _ _ _ => (pg_name (i := 3) scLList.nd rfl (.inl rfl))) (fun _ _ _ _ _ => pts_nil) (fun _ _ _ _ _ => (pe_ix (r := rIxL K) ix_list (pv 1) (pe_op op_mod (pe_op op_add (pe_op op_fdiv (pv 0) pe_int) (pv 3)) (pe_callB (r := rLenQ K) call_len_seq (by rfl) g_len boot_len (pa_cons (pv 1) pa_nil))) (fun _ _ => rfl)))) (pss_cons (ps_set (i := 4) scLList.nd rfl (.inl rfl) (pe_op op_mod (pe_op op_fdiv (pv 0) pe_int) (pe_op op_add (pe_callB call_len_seq (by rfl) g_len boot_len (pa_cons (pv 2) pa_nil)) pe_int))) (C8.pss_cut (ps_if (pt_cmpR op_eq (pe_op op_mod (pv 0) pe_int) pe_int (nomark _)) (pss_one (ps_ret (pe_ix ix_list (pe_lst (pa_cons (pe_tup (pa_cons pe_str (pa_cons pe_str pa_nil))) (pa_cons pe_non (pa_cons pe_str (pa_cons pe_int (pa_cons pe_bl (pa_cons (pe_disp (pps_cons pe_str pe_int pps_nil) rfl rfl (by decide) (by decide)) pa_nil))))))) (pe_op op_mod (pe_op op_fdiv (pv 0) pe_int) pe_int) (fun _ _ => rfl)))) (pss_nil)) (C8.pss_cut (ps_if (pt_cmpR op_eq (pe_op op_mod (pv 0) pe_int) pe_int (nomark _)) (pss_one (ps_ret (pe_op op_cat (pe_op op_cat (pe_slice sl_list (pv 2) po_none (po_some (pv 4))) (pe_lst (pa_cons (pe_k cO hr (by decide) (by rfl) (pa_cons (pe_op op_fdiv (pv 0) pe_int) pa_nil)) pa_nil))) (pe_slice sl_list (pv 2) (po_some (pv 4)) po_none)))) (pss_nil)) (pss_cons (ps_if (pt_cmpR op_eq (pe_op op_mod (pv 0) pe_int) pe_int (nomark _)) (pss_one (ps_ret (pe_op op_cat (pv 2) (pe_lst (pa_cons pe_str (pa_cons pe_str pa_nil)))))) (pss_nil)) (pss_cons (ps_if (pt_cmpR op_eq (pe_op op_mod (pv 0) pe_int) pe_int (nomark _)) (pss_one (ps_ret (pe_op op_cat (pe_op op_cat (pe_slice sl_list (pv 2) po_none (po_some (pv 4))) (pe_lst (pa_cons pe_str pa_nil))) (pe_slice sl_list (pv 2) (po_some (pv 4)) po_none)))) (pss_nil)) (pss_one (ps_ret (pv 2))))))))), ?_⟩
    have one : 1 ≤ sizeLine := by rw [sizeLine_eq]; omega
    have npos : 0 < ns.length := List.length_pos_iff.mpr ne
    let G : Nat → Str := fun k => (ns[((c / 7 + ((0 : Int) + (k : Nat))) % (ns.length : Int)).toNat]?).getD ""
    have Gat : ∀ k : Nat, atI (ns.map V.str) ((c / 7 + ((0 : Int) + (k : Nat))) % (ns.length : Int)) = some (V.str (G k)) ∧ G k ∈ ns := fun k => by
      have h0 : 0 ≤ (c / 7 + ((0 : Int) + (k : Nat))) % (ns.length : Int) := Int.emod_nonneg _ (by omega)
      have h1 : (c / 7 + ((0 : Int) + (k : Nat))) % (ns.length : Int) < ns.length := Int.emod_lt_of_pos _ (by omega)
      obtain ⟨j, hj⟩ := Int.eq_ofNat_of_zero_le h0
      have hlt : j < ns.length := by omega
      show atI _ _ = some (V.str ((ns[((c / 7 + ((0 : Int) + (k : Nat))) % (ns.length : Int)).toNat]?).getD "")) ∧ (ns[((c / 7 + ((0 : Int) + (k : Nat))) % (ns.length : Int)).toNat]?).getD "" ∈ ns
      rw [hj]
      show atI (ns.map V.str) (j : Int) = some (V.str ((ns[j]?).getD "")) ∧ (ns[j]?).getD "" ∈ ns
      rw [List.getElem?_eq_getElem hlt]
      refine ⟨atI_nat ?_, List.getElem_mem hlt⟩
      rw [List.getElem?_map, List.getElem?_eq_getElem hlt]
      rfl
    have three : (c / 7 % 4).toNat ≤ 3 := by have := Int.emod_lt_of_pos (c / 7) (show (0 : Int) < 4 by decide); omega
    refine ⟨_, rfl, _, _, rfl, rfl, ⟨by decide, by decide⟩, _, _, rfl, rfl, (by show (0 : Int) < 4; decide), _, rfl, (by omega), (by omega), fun D nD => lc_textsG (n := (c / 7 % 4).toNat) G (by omega) nD (fun _ => rfl) (fun k H4 Q' hk g4 hq => ?_) (fun H2 g2 e2 => ?_)⟩
    · obtain ⟨h1, h2⟩ := Gat k
      refine ⟨_, rfl, _, rfl, _, _, rfl, rfl, ⟨by decide, by decide⟩, _, rfl, _, _, rfl, rfl, _, rfl, a, _, rfl, .inl (g4.seq hA), _, _, rfl, rfl, ?_, a, _, _, _, rfl, rfl, g4.seq hA, ?_, hq⟩
      · rw [List.length_map]; exact (by omega : (0 : Int) < ns.length)
      · rw [List.length_map]; exact h1
    generalize hrow : (List.range (c / 7 % 4).toNat).map G = row at e2
    have rl : row.length ≤ 3 := by rw [← hrow, List.length_map, List.length_range]; exact three
    have rn : ∀ y ∈ row, y ∈ ns := fun y hy => by
      rw [← hrow] at hy
      obtain ⟨k, _, rfl⟩ := List.mem_map.mp hy
      exact (Gat k).2
    have rnm : Nms row := fun y hy => nms y (rn y hy)
    refine ⟨_, rfl, _, _, rfl, rfl, ⟨by decide, by decide⟩, _, rfl, D, _, rfl, .inl (.inl (.inl e2)), _, _, rfl, rfl, _, _, rfl, rfl, (by show (0 : Int) < (List.length _ : Nat) + 1; omega), ?_⟩
    rw [List.length_map]
    refine ⟨fun σ' H' => H' = H2 ∧ σ' = [some (.int c), some (.ref a), some (.ref D), none, some (.int (c / 28 % (((row.length : Nat) : Int) + 1)))], ?_, fun σ' H' hm => ?_⟩
    · refine ⟨_, rfl, _, _, rfl, rfl, (by show (0 : Int) < 7; decide), rfl, _, rfl, ite2 (fun h1 => ?_) (fun h1 => ⟨rfl, rfl⟩)⟩
      refine ⟨(by show 2 ≤ sizeLine; decide), fun t1 n1 => ?_⟩
      have g3 : Gr H2 (upd H2 t1 (.tup [.str "a", .str "b"])) := Gr.new n1
      have e3 : (upd H2 t1 (.tup [.str "a", .str "b"])) t1 = some (.tup [.str "a", .str "b"]) := upd_same
      generalize upd H2 t1 (.tup [.str "a", .str "b"]) = H3 at g3 e3
      intro d1 nd1
      have g4 : Gr H3 (upd (upd H3 d1 (.dK [])) d1 (.dK (mergeK [] [(Sum.inr "a", V.int 1)]))) := (Gr.new nd1).mut nd1
      refine ⟨upd_same, [(Sum.inr "a", V.int 1)], rfl, by decide, ?_⟩
      have e4 : (upd (upd H3 d1 (.dK [])) d1 (.dK (mergeK [] [(Sum.inr "a", V.int 1)]))) d1 = some (.dK (mergeK [] [(Sum.inr "a", V.int 1)])) := upd_same
      generalize upd (upd H3 d1 (.dK [])) d1 (.dK (mergeK [] [(Sum.inr "a", V.int 1)])) = H4 at g4 e4
      refine ⟨(by show 6 ≤ sizeLine; decide), fun l nl => ?_⟩
      have g5 : Gr H4 (upd H4 l (.lst [.ref t1, .non, .str "abc", .int 5, .bl true, .ref d1])) := Gr.new nl
      have e5 : (upd H4 l (.lst [.ref t1, .non, .str "abc", .int 5, .bl true, .ref d1])) l = some (.lst [.ref t1, .non, .str "abc", .int 5, .bl true, .ref d1]) := upd_same
      generalize upd H4 l (.lst [.ref t1, .non, .str "abc", .int 5, .bl true, .ref d1]) = H5 at g5 e5
      obtain ⟨v, hv, mv⟩ := atI_mod (xs := [V.ref t1, .non, .str "abc", .int 5, .bl true, .ref d1]) (c := c / 28) (n := 6) rfl (by omega)
      refine ⟨_, rfl, _, _, rfl, rfl, ⟨by decide, by decide⟩, _, _, rfl, rfl, (by show (0 : Int) < 6; decide), l, _, _, v, rfl, rfl, .inl (.inl e5), hv, ?_⟩
      refine q v _ (((g2.trans g3).trans g4).trans g5) (.inr (.inr ?_))
      simp only [List.mem_cons, List.not_mem_nil, or_false] at mv
      rcases mv with rfl | rfl | rfl | rfl | rfl | rfl
      · exact ⟨"tuple", .base (.tup (g5.tup (g4.tup e3))), by decide +kernel⟩
      · exact ⟨"NoneType", .base .non, by decide +kernel⟩
      · exact ⟨"str", .base (.str _), by decide +kernel⟩
      · exact ⟨"int", .base (.int 5), by decide +kernel⟩
      · exact ⟨"bool", .base (.bl true), by decide +kernel⟩
      · exact ⟨"dict", .base (.dK (g5.at_ _ _ e4 fun _ z => nomatch z)), by decide +kernel⟩
    obtain ⟨rfl, rfl⟩ := hm
    generalize hat : c / 28 % (((row.length : Nat) : Int) + 1) = at_
    refine ⟨fun σ' H'' => H'' = H' ∧ σ' = [some (.int c), some (.ref a), some (.ref D), none, some (.int at_)], ?_, fun σ' H'' hm => ?_⟩
    · refine ⟨_, rfl, _, _, rfl, rfl, (by show (0 : Int) < 7; decide), rfl, _, rfl, ite2 (fun h1 => ?_) (fun h1 => ⟨rfl, rfl⟩)⟩
      refine ⟨_, rfl, _, rfl, _, rfl, D, _, rfl, .inl (.inl e2), fun p1 np1 => ?_⟩
      obtain ⟨z1, ez1, mz1, lz1⟩ := cut_map row none (some at_)
      rw [ez1]
      have g3 : Gr H' (upd H' p1 (.lst (z1.map V.str))) := Gr.new np1
      have e3 : (upd H' p1 (.lst (z1.map V.str))) p1 = some (.lst (z1.map V.str)) := upd_same
      generalize upd H' p1 (.lst (z1.map V.str)) = H3 at g3 e3
      refine ⟨_, rfl, _, _, rfl, rfl, ⟨by decide, by decide⟩, _, rfl, fun v H4 g4 hv nv => ?_⟩
      refine ⟨(by show 1 ≤ sizeLine; decide), fun l nl => ?_⟩
      have g5 : Gr H4 (upd H4 l (.lst [v])) := Gr.new nl
      have e5 : (upd H4 l (.lst [v])) l = some (.lst [v]) := upd_same
      generalize upd H4 l (.lst [v]) = H5 at g5 e5
      refine ⟨p1, l, _, _, rfl, rfl, (g4.trans g5).lst e3, e5, ?_, fun p2 np2 => ?_⟩
      · rw [List.length_map, List.length_singleton]
        exact Nat.le_of_lt (small1000 (by omega))
      have g6 : Gr H5 (upd H5 p2 (.lst (z1.map V.str ++ [v]))) := Gr.new np2
      have e6 : (upd H5 p2 (.lst (z1.map V.str ++ [v]))) p2 = some (.lst (z1.map V.str ++ [v])) := upd_same
      generalize upd H5 p2 (.lst (z1.map V.str ++ [v])) = H6 at g6 e6
      refine ⟨_, rfl, _, rfl, _, rfl, D, _, rfl, .inl (.inl ((((g3.trans g4).trans g5).trans g6).lst e2)), fun p3 np3 => ?_⟩
      obtain ⟨z2, ez2, mz2, lz2⟩ := cut_map row (some at_) none
      rw [ez2]
      have g7 : Gr H6 (upd H6 p3 (.lst (z2.map V.str))) := Gr.new np3
      have e7 : (upd H6 p3 (.lst (z2.map V.str))) p3 = some (.lst (z2.map V.str)) := upd_same
      generalize upd H6 p3 (.lst (z2.map V.str)) = H7 at g7 e7
      refine ⟨p2, p3, _, _, rfl, rfl, g7.lst e6, e7, ?_, fun p4 np4 => ?_⟩
      · rw [List.length_append, List.length_map, List.length_map, List.length_singleton]
        exact Nat.le_of_lt (small1000 (by omega))
      have g8 : Gr H7 (upd H7 p4 (.lst (z1.map V.str ++ [v] ++ z2.map V.str))) := Gr.new np4
      have e8 : (upd H7 p4 (.lst (z1.map V.str ++ [v] ++ z2.map V.str))) p4 = some (.lst (z1.map V.str ++ [v] ++ z2.map V.str)) := upd_same
      generalize upd H7 p4 (.lst (z1.map V.str ++ [v] ++ z2.map V.str)) = H8 at g8 e8
      have g48 := ((g5.trans g6).trans g7).trans g8
      refine q _ _ ((g2.trans g3).trans (g4.trans g48)) (.inr (.inl ⟨p4, _, rfl, e8, fun x hx => ?_, ?_, v, List.mem_append_left _ (List.mem_append_right _ (List.mem_singleton.mpr rfl)), nv⟩))
      · rcases List.mem_append.mp hx with hx | hx
        · rcases List.mem_append.mp hx with hx | hx
          · exact nms_things (fun y hy => rnm y (mz1 y hy)) x hx
          · rw [List.mem_singleton.mp hx]
            exact hv.gr g48
        · exact nms_things (fun y hy => rnm y (mz2 y hy)) x hx
      · rw [List.length_append, List.length_append, List.length_map, List.length_map, List.length_singleton]
        omega
    obtain ⟨rfl, rfl⟩ := hm
    refine ⟨_, rfl, _, _, rfl, rfl, (by show (0 : Int) < 7; decide), rfl, _, rfl, ite2 (fun h1 => ?_) (fun h1 => ?_)⟩
    · refine ⟨_, rfl, (by show 2 ≤ sizeLine; decide), fun l nl => ?_⟩
      have g5 : Gr H'' (upd H'' l (.lst ((["m", "m"] : List Str).map V.str))) := Gr.new nl
      refine ⟨D, l, row.map V.str, (["m", "m"] : List Str).map V.str, rfl, rfl, g5.lst e2, upd_same, ?_, fun p np => ?_⟩
      · rw [List.length_map, List.length_map]
        exact Nat.le_of_lt (small1000 (by show row.length + 2 ≤ 1000; omega))
      · rw [← List.map_append]
        refine q _ _ ((g2.trans g5).trans (Gr.new np)) (.inl ⟨row ++ (["m", "m"] : List Str), ⟨p, rfl, upd_same, fun y hy => ?_, ?_⟩, ?_⟩)
        · rcases List.mem_append.mp hy with hy | hy
          · exact rnm y hy
          · simp only [List.mem_cons, List.not_mem_nil, or_false, or_self] at hy
            subst hy
            decide +kernel
        · rw [List.length_append]; show row.length + 2 ≤ 1000; omega
        · rw [List.length_append]; show row.length + 2 ≤ 12; omega
    refine ⟨_, rfl, _, _, rfl, rfl, (by show (0 : Int) < 7; decide), rfl, _, rfl, ite2 (fun h1 => ?_) (fun h1 => ?_)⟩
    · refine ⟨_, rfl, _, rfl, _, rfl, D, _, rfl, .inl (.inl e2), fun p1 np1 => ?_⟩
      obtain ⟨z1, ez1, mz1, lz1⟩ := cut_map row none (some at_)
      rw [ez1]
      have g3 : Gr H'' (upd H'' p1 (.lst (z1.map V.str))) := Gr.new np1
      have e3 : (upd H'' p1 (.lst (z1.map V.str))) p1 = some (.lst (z1.map V.str)) := upd_same
      generalize upd H'' p1 (.lst (z1.map V.str)) = H3 at g3 e3
      refine ⟨(by show 1 ≤ sizeLine; decide), fun l nl => ?_⟩
      have g5 : Gr H3 (upd H3 l (.lst ((["zz"] : List Str).map V.str))) := Gr.new nl
      refine ⟨p1, l, z1.map V.str, (["zz"] : List Str).map V.str, rfl, rfl, g5.lst e3, upd_same, ?_, fun p2 np2 => ?_⟩
      · rw [List.length_map, List.length_map]
        exact Nat.le_of_lt (small1000 (by show z1.length + 1 ≤ 1000; omega))
      rw [← List.map_append]
      generalize hH5 : upd H3 l (.lst ((["zz"] : List Str).map V.str)) = H5 at g5
      rw [show upd H3 l (.lst [V.str "zz"]) = H5 from hH5] at np2
      have g6 : Gr H5 (upd H5 p2 (.lst ((z1 ++ (["zz"] : List Str)).map V.str))) := Gr.new np2
      have e6 : (upd H5 p2 (.lst ((z1 ++ (["zz"] : List Str)).map V.str))) p2 = some (.lst ((z1 ++ (["zz"] : List Str)).map V.str)) := upd_same
      rw [show upd H3 l (.lst [V.str "zz"]) = H5 from hH5]
      generalize upd H5 p2 (.lst ((z1 ++ (["zz"] : List Str)).map V.str)) = H6 at g6 e6
      refine ⟨_, rfl, _, rfl, _, rfl, D, _, rfl, .inl (.inl (((g3.trans g5).trans g6).lst e2)), fun p3 np3 => ?_⟩
      obtain ⟨z2, ez2, mz2, lz2⟩ := cut_map row (some at_) none
      rw [ez2]
      have g7 : Gr H6 (upd H6 p3 (.lst (z2.map V.str))) := Gr.new np3
      have e7 : (upd H6 p3 (.lst (z2.map V.str))) p3 = some (.lst (z2.map V.str)) := upd_same
      generalize upd H6 p3 (.lst (z2.map V.str)) = H7 at g7 e7
      refine ⟨p2, p3, _, _, rfl, rfl, g7.lst e6, e7, ?_, fun p4 np4 => ?_⟩
      · rw [List.length_map, List.length_map, List.length_append]
        exact Nat.le_of_lt (small1000 (by show z1.length + 1 + z2.length ≤ 1000; omega))
      · rw [← List.map_append]
        refine q _ _ (((((g2.trans g3).trans g5).trans g6).trans g7).trans (Gr.new np4)) (.inl ⟨z1 ++ (["zz"] : List Str) ++ z2, ⟨p4, rfl, upd_same, fun y hy => ?_, ?_⟩, ?_⟩)
        · rcases List.mem_append.mp hy with hy | hy
          · rcases List.mem_append.mp hy with hy | hy
            · exact rnm y (mz1 y hy)
            · rw [List.mem_singleton.mp hy]
              decide +kernel
          · exact rnm y (mz2 y hy)
        · rw [List.length_append, List.length_append]; show z1.length + 1 + z2.length ≤ 1000; omega
        · rw [List.length_append, List.length_append]; show z1.length + 1 + z2.length ≤ 12; omega
    · exact ⟨_, rfl, q _ _ g2 (.inl ⟨row, ⟨D, rfl, e2, rnm, by omega⟩, by omega⟩)⟩
end
end K1
end
section
set_option maxHeartbeats 8000000
namespace K1
open PySem PySem.Spec PyProof.Rows L2 Gr GxR Srx Skx Dcx
section
variable {P : Program} {w : World} {K : PySem.W.Frag} {mg : Str → Option Value} {base : Heap} {f C : Addr} {fd : FuncData} {N : TabN} {R : ErN}
/-- [v for v in vs if ..] -/
theorem lc_filtV {K : PySem.W.Frag} {a D : Addr} {j : Nat} {σ : L2.St} {vs : List Nat} {tt : TT} {H1 : Hp} {Qd : Hp → Prop} {xs : List V} (p : V → Bool)
    (hA : SqL K H1 a xs) (few : xs.length < sizeLine) (hD : H1 D = none) (hw : ∀ v, wipe ((wipe σ vs).set j (some v)) vs = wipe σ vs) (hj : ∀ v : V, ((wipe σ vs).set j (some v))[j]? = some (some v))
    (ht : ∀ x ∈ xs, ∀ (H4 : Hp) (Qb : Bool → Hp → Prop), Gr H1 H4 → (∀ H5, Gr H4 H5 → Qb (p x) H5) → tt ((wipe σ vs).set j (some x)) H4 Qb)
    (q : ∀ H2, Gr H1 H2 → H2 D = some (.lst (xs.filter p)) → Qd H2) :
    ∃ W : Nat → Nat → Hp → Prop, (∃ m, W 0 m (upd H1 D (.lst []))) ∧ ∀ i m H, W i m H →
      ((Itl K a).stop i H ∧ Qd H) ∨ ((Itl K a).go i H ∧ ∃ Nx : Hp → Prop, (∀ H', Nx H' → ∃ m', m' < m ∧ W (i + 1) m' H') ∧ ∀ x H', (Itl K a).yld i H x H' → gName j x (wipe σ vs) H' fun σ2 H2 => wipe σ2 vs = wipe σ vs ∧ tt σ2 H2 fun b H3 =>
        if b = true then tVar j σ2 H3 fun y H4 => ∃ acc, H4 D = some (.lst acc) ∧ acc.length < sizeLine ∧ Nx (upd H4 D (.lst (acc ++ [y]))) else Nx H3) := by
  refine lc_list (xs := xs) (Qd := Qd) (fun i H2 => Gr H1 H2 ∧ H2 D = some (.lst ((xs.take i).filter p))) ⟨Gr.new hD, upd_same⟩ (fun i H2 _ h => h.1.seq hA) (fun i x H2 hx h => ?_) (fun H2 h => ?_)
  · obtain ⟨g2, e⟩ := h
    have etk : (xs.take (i + 1)).filter p = (xs.take i).filter p ++ [x].filter p := by
      rw [List.take_add_one, hx, List.filter_append]
      rfl
    refine ⟨hw _, ht x (List.mem_of_getElem? hx) H2 _ g2 fun H3 g3 => ?_⟩
    cases hp : p x with
    | true =>
      refine iteT ⟨_, hj _, _, g3.lst e, ?_, (g2.trans g3).mut hD, ?_⟩
      · have h1 := List.length_filter_le p (xs.take i)
        rw [List.length_take] at h1
        omega
      · rw [upd_same, etk]
        simp [hp]
    | false =>
      refine iteF ⟨g2.trans g3, ?_⟩
      rw [etk]
      simp only [hp, List.filter_cons, Bool.false_eq_true, if_false, List.filter_nil, List.append_nil]
      exact g3.lst e
  · obtain ⟨g2, e⟩ := h
    rw [List.take_length] at e
    exact q H2 g2 e
/-- what is due for a list of names -/
def dueN (way : Int) (there : List Str) (many : Int) (xs : List Str) : Str :=
  if 2 < way then "" else if ¬ xs.Nodup then "row" else if many = 30 ∨ 12 < there.length + (xs.filter fun x => decide (x ∉ there)).length then "many" else ""
/-- what is due -/
def Due (K : PySem.W.Frag) (H : Hp) (way : Int) (v : V) (there : List Str) (many : Int) (t : Str) : Prop :=
  (5 < way ∧ Thing K H v ∧ t = if nmV v = true then "" else "name") ∨ (way ≤ 5 ∧ ∃ xs, HOk H v xs ∧ xs.length ≤ 12 ∧ t = dueN way there many xs) ∨ (way ≤ 5 ∧ HBadN K H v ∧ t = "name") ∨ (way ≤ 5 ∧ HBadR K H v ∧ t = "row")
abbrev nLDue : List Str := ["_law_way", "_law_thing", "_law_there", "_law_many", "_law_name", "_law_fresh"]
theorem scLDue : FnScope nLDue ["_law_way", "_law_thing", "_law_there", "_law_many"] (defScope s_law_due_x) := ⟨rfl, rfl, rfl, by decide +kernel, rfl, by decide +kernel, by decide +kernel⟩
def spLDue (K : PySem.W.Frag) : Sp := fun vs H Q _ => ∃ (way : Int) (v : V) (l : Addr) (there : List Str) (many : Int) (t : Str), vs = [.int way, v, .ref l, .int many] ∧ H l = some (.lst (there.map V.str)) ∧ there.length ≤ 100 ∧ Due K H way v there many t ∧ ∀ H', Gr H H' → Q (.str t) H'
theorem ok_ldue (F : FnP K "_law_due" s_law_due_x f fd) (cLI : Calls P w K mg base CX0 1 "_law_is_name" (spLIs K)) (g_len : mg "len" = none) (g_isinstance : mg "isinstance" = none) (g_list : mg "list" = none) : FnOk P w K mg base CX0 2 f fd ["_law_way", "_law_thing", "_law_there", "_law_many"] (spLDue K) := by
  refine F.ok scLDue (fun vs H Q E h => ?_) (fun cdv A outer s H vs Q E hr h => ?_)
  · obtain ⟨way, v, l, there, many, t, rfl, _⟩ := h
    rfl
  · obtain ⟨way, v, l, there, many, t, rfl, hl, few, due, q⟩ := h
    refine ⟨_, PSs.nox (pss_cons (ps_if (pt_cmpR op_gt (pv 0) pe_int (nomark _)) (pss_one (ps_ret (pe_ifExp (pt_val (pe_k cLI hr (by decide) (by rfl) (pa_cons (pv 1) pa_nil))) pe_str pe_str))) (pss_nil)) (pss_cons (ps_if (pt_not (pt_val (pe_callB call_isi (by rfl) g_isinstance (by decide +kernel) (pa_cons (pv 1) (pa_cons (pe_bltn (v := .ty "list") (by rfl) g_list (by decide +kernel) rfl) pa_nil))))) (pss_one (ps_ret pe_str)) (pss_nil)) (pss_cons (ps_if (pt_cmpR (op_neNil (hu64 hr)) (pe_lc (own := [("_law_name", 4)]) (g := gName 4) rfl scLDue.nd (pi_list (pv 1)) (blkOk_by (N := nLDue) (sc := defScope s_law_due_x) (by decide +kernel)) (fun _ _ _ _ _ => (pg_name (i := 4) scLDue.nd rfl (.inl rfl))) (fun _ _ _ _ _ => pts_one (pt_not (pt_val (pe_k cLI hr (by decide) (by rfl) (pa_cons (pv 4) pa_nil))))) (fun _ _ _ _ _ => (pv 4))) (pe_lst pa_nil) (nomark _)) (pss_one (ps_ret pe_str)) (pss_nil)) (pss_cons (ps_if (pt_cmpR op_gt (pv 0) pe_int (nomark _)) (pss_one (ps_ret pe_str)) (pss_nil)) (pss_cons (ps_if (pt_cmpR (op_neNil (hu64 hr)) (pe_lc (own := [("_law_name", 4)]) (g := gName 4) rfl scLDue.nd (pi_list (pv 1)) (blkOk_by (N := nLDue) (sc := defScope s_law_due_x) (by decide +kernel)) (fun _ _ _ _ _ => (pg_name (i := 4) scLDue.nd rfl (.inl rfl))) (fun _ _ _ _ _ => pts_one (pt_cmpR op_gt (pe_lcountT (K := K) rfl (pv 1) (pa_cons (pv 4) pa_nil)) pe_int (nomark _))) (fun _ _ _ _ _ => (pv 4))) (pe_lst pa_nil) (nomark _)) (pss_one (ps_ret pe_str)) (pss_nil)) (pss_cons (ps_setLc (i := 5) (own := [("_law_name", 4)]) (g := gName 4) rfl scLDue.nd rfl rfl (sw_true rfl rfl rfl (by decide +kernel)) (pi_list (pv 1)) (blkOk_by (N := nLDue) (sc := defScope s_law_due_x) (by decide +kernel)) (fun _ _ _ _ _ => (pg_name (i := 4) scLDue.nd rfl (.inl rfl))) (fun _ _ _ _ _ => pts_one (pt_cmpR (r := rIn K true) op_notIn_seq (pv 4) (pv 2) rfl)) (fun _ _ _ _ _ => (pv 4))) (pss_one (ps_ret (pe_ifExp (PW.pt (pw_or (pt_cmpR op_eq (pv 3) pe_int (nomark _)) (pw_or1 (pt_cmpR op_gt (pe_op op_add (pe_callB call_len_seq (by rfl) g_len boot_len (pa_cons (pv 2) pa_nil)) (pe_callB call_len_seq (by rfl) g_len boot_len (pa_cons (pv 5) pa_nil))) pe_int (nomark _))))) pe_str pe_str))))))))), ?_⟩
    refine ⟨_, rfl, _, _, rfl, rfl, _, rfl, ite2 (fun h1 => ?_) (fun h1 => ?_)⟩
    · have h1 : 5 < way := of_decide_eq_true h1
      rcases due with ⟨_, hv, rfl⟩ | ⟨h, _⟩ | ⟨h, _⟩ | ⟨h, _⟩
      · refine ⟨_, rfl, ⟨v, rfl, hv, fun H2 g2 => ⟨_, rfl, ?_⟩⟩⟩
        cases e : nmV v with
        | true => rw [e] at q; exact iteT (q _ g2)
        | false => rw [e] at q; exact iteF (q _ g2)
      all_goals omega
    have h1 : way ≤ 5 := Int.not_lt.mp fun z => h1 (decide_eq_true z)
    rcases due with ⟨h, _⟩ | due
    · omega
    have kinds : (HBadR K H v ∧ t = "row") ∨ ∃ a vls, v = .ref a ∧ H a = some (.lst vls) ∧ (∀ x ∈ vls, Thing K H x) ∧ vls.length ≤ 1000 ∧ (((∃ x ∈ vls, nmV x = false) ∧ t = "name") ∨ ∃ xs : List Str, vls = xs.map V.str ∧ Nms xs ∧ t = dueN way there many xs) := by
      rcases due with ⟨_, xs, ⟨a, rfl, ea, nm, len⟩, _, et⟩ | ⟨_, ⟨a, vls, rfl, ea, th, len, bad⟩, et⟩ | ⟨_, hb, et⟩
      · exact .inr ⟨a, _, rfl, ea, nms_things nm, by rw [List.length_map]; exact len, .inr ⟨xs, rfl, nm, et⟩⟩
      · exact .inr ⟨a, vls, rfl, ea, th, len, .inl ⟨bad, et⟩⟩
      · exact .inl ⟨hb, et⟩
    rcases kinds with ⟨⟨ty, k1, k2⟩, rfl⟩ | ⟨a, vls, rfl, ea, th, len, kind⟩
    · refine ⟨v, rfl, _, _, _, _, _, rfl, .ty _, k1, kit_ty k2, _, rfl, ?_⟩
      exact iteT (q _ (Gr.refl _))
    refine ⟨_, rfl, _, _, _, _, _, rfl, .ty _, .base (.lst ea), kit_ty (show kitB "list" "list" = some true by decide +kernel), _, rfl, iteF ?_⟩
    refine ⟨_, rfl, a, rfl, ⟨_, .inl (.inl ea)⟩, fun D nD => lc_filtV (fun x => !nmV x) (.inl (.inl ea)) (small1000 len) nD (fun _ => rfl) (fun _ => rfl) (fun x hx H4 Qb g4 hq => ?_) (fun H2 g2 e2 => ?_)⟩
    · exact ⟨_, rfl, x, rfl, (th x hx).gr g4, fun H5 g5 => ⟨_, rfl, hq _ g5⟩⟩
    refine ⟨Nat.zero_le _, fun l2 nl2 => ?_⟩
    have g3 := g2.trans (Gr.new (o := .lst []) nl2)
    refine ⟨_, _, _, rfl, rfl, (Gr.new nl2).lst e2, upd_same, ?_⟩
    have e3 := (Gr.new (o := .lst []) nl2).lst e2
    generalize upd H2 l2 (.lst []) = H3 at g3 e3
    rcases kind with ⟨⟨x, hx, nx⟩, rfl⟩ | ⟨xs, rfl, nm, et⟩
    · have ne : (vls.filter fun x => !nmV x).isEmpty = false := by
        cases e : vls.filter fun x => !nmV x with
        | nil =>
          have h2 := List.filter_eq_nil_iff.mp e x hx
          rw [nx] at h2
          exact absurd rfl h2
        | cons _ _ => rfl
      rw [ne]
      exact ⟨_, rfl, iteT (q _ g3)⟩
    have em : ((xs.map V.str).filter fun x => !nmV x) = [] := List.filter_eq_nil_iff.mpr fun x hx => by
      obtain ⟨y, hy, rfl⟩ := List.mem_map.mp hx
      rw [show nmV (.str y) = true from nm y hy]
      exact Bool.false_ne_true
    rw [em]
    refine ⟨_, rfl, iteF ?_⟩
    rw [List.length_map] at len
    unfold dueN at et
    refine ⟨_, rfl, _, _, rfl, rfl, _, rfl, ite2 (fun h2 => ?_) (fun h2 => ?_)⟩
    · rw [if_pos (of_decide_eq_true h2)] at et
      subst et
      exact q _ g3
    rw [if_neg fun z => h2 (decide_eq_true z)] at et
    have ea3 := g3.lst ea
    refine ⟨_, rfl, a, rfl, ⟨_, .inl (.inl ea3)⟩, fun D2 nD2 => lc_filtT (fun x => decide (1 < xs.count x)) (.inl (.inl ea3)) (small1000 len) nD2 (fun _ => rfl) (fun _ => rfl) (fun x hx H4 Qb g4 hq => ?_) (fun H5 g5 e5 => ?_)⟩
    · refine ⟨_, rfl, .inl ⟨rfl, _, .inl (.inl (g4.lst ea3))⟩, _, rfl, a, xs, x, rfl, rfl, .inl (.inl (g4.lst ea3)), _, _, rfl, rfl, _, rfl, ?_⟩
      rw [show decide ((1 : Int) < ((xs.count x : Nat) : Int)) = decide (1 < xs.count x) from decide_eq_decide.mpr (by omega)]
      exact hq _ (Gr.refl _)
    refine ⟨Nat.zero_le _, fun l3 nl3 => ?_⟩
    have g6 := (g3.trans g5).trans (Gr.new (o := .lst []) nl3)
    refine ⟨_, _, _, rfl, rfl, (Gr.new nl3).lst e5, upd_same, ?_⟩
    generalize upd H5 l3 (.lst []) = H6 at g6
    have dup : ((xs.filter fun x => decide (1 < xs.count x)).map V.str).isEmpty = decide xs.Nodup := by
      rw [Bool.eq_iff_iff, List.isEmpty_iff, List.map_eq_nil_iff, List.filter_eq_nil_iff, decide_eq_true_eq, List.nodup_iff_count]
      constructor
      · intro h x
        by_cases hx : x ∈ xs
        · have := h x hx
          rw [decide_eq_true_eq] at this
          omega
        · rw [List.count_eq_zero_of_not_mem hx]
          omega
      · intro h x _
        rw [decide_eq_true_eq]
        have := h x
        omega
    rw [dup]
    by_cases nd : xs.Nodup
    case neg =>
      rw [if_pos nd] at et
      subst et
      rw [decide_eq_false nd]
      exact ⟨_, rfl, iteT (q _ g6)⟩
    rw [if_neg (not_not_intro nd)] at et
    rw [decide_eq_true nd]
    refine ⟨_, rfl, iteF ?_⟩
    have ea6 := g6.lst ea
    have hl6 := g6.lst hl
    refine ⟨_, rfl, a, rfl, ⟨_, .inl (.inl ea6)⟩, fun D4 nD4 => lc_filtT (fun x => decide (x ∉ there)) (.inl (.inl ea6)) (small1000 len) nD4 (fun _ => rfl) (fun _ => rfl) (fun x hx H7 Qb g7 hq => ?_) (fun H8 g8 e8 => ?_)⟩
    · refine ⟨_, rfl, _, rfl, l, _, rfl, .inl (.inl (.inl (g7.lst hl6))), rfl, flat_str _, _, rfl, ?_⟩
      rw [inV_str]
      rw [show (if true = true then !there.contains x else there.contains x) = decide (x ∉ there) by
        rw [if_pos rfl, List.contains_eq_mem]
        exact (decide_not).symm]
      exact hq _ (Gr.refl _)
    have g9 := g6.trans g8
    refine ⟨_, rfl, rfl, _, rfl, ?_⟩
    by_cases m30 : many = 30
    · rw [if_pos (.inl m30)] at et
      subst m30 et
      exact iteT (iteT (q _ g9))
    refine ite2 (fun h => absurd (by have h := of_decide_eq_true h; injection h) m30) (fun _ => ?_)
    refine ⟨_, rfl, l, _, rfl, .inl (.inl (.inl (g9.lst hl))), _, rfl, D4, _, rfl, .inl (.inl (.inl e8)), _, _, rfl, rfl, _, _, rfl, rfl, _, rfl, ?_⟩
    rw [List.length_map, List.length_map]
    by_cases w12 : 12 < there.length + (xs.filter fun x => decide (x ∉ there)).length
    · rw [if_pos (.inr w12)] at et
      subst et
      rw [decide_eq_true (by omega)]
      exact iteT (q _ g9)
    · rw [if_neg (fun h => h.elim m30 w12)] at et
      subst et
      rw [decide_eq_false (by omega)]
      exact iteF (q _ g9)
end
end K1
end
section
set_option maxHeartbeats 8000000
namespace K1
open PySem PySem.Spec PyProof.Rows L2 Gr GxR Srx Skx Dcx
section
variable {P : Program} {w : World} {K : PySem.W.Frag} {mg : Str → Option Value} {base : Heap} {f C M : Addr} {fd : FuncData} {N : TabN} {R : ErN}
/-- the four classes that may be raised, and MeetError -/
structure Wds (K : PySem.W.Frag) (R : ErN) (M : Addr) : Prop where
  n : WdC K R R.name true false false false
  r : WdC K R R.row false true false false
  t : WdC K R R.many false false true false
  m : WdC K R R.meet false false false true
  en : PySem.W.exmOne K (.ref R.name) (.ref M) = some true
  er : PySem.W.exmOne K (.ref R.row) (.ref M) = some true
  et : PySem.W.exmOne K (.ref R.many) (.ref M) = some true
  em : PySem.W.exmOne K (.ref R.meet) (.ref M) = some true
theorem w_n : wordT true false false false = "name" := by decide +kernel
theorem w_r : wordT false true false false = "row" := by decide +kernel
theorem w_t : wordT false false true false = "many" := by decide +kernel
structure Env12 (P : Program) (w : World) (K : PySem.W.Frag) (mg : Str → Option Value) (base : Heap) (C M : Addr) (N : TabN) (R : ErN) : Prop where
  bc : BkC K mg C
  put : MCalls P w K mg base (L2.CX P w) 5 C "put" (spPut K C N R)
  meets : MCalls P w K mg base (L2.CX P w) 5 C "meets" (spBMeets K C N R)
  pared : MCalls P w K mg base (L2.CX P w) 6 C "pared" (spBPared K C N R)
  own : MCalls P w K mg base (L2.CX P w) 6 C "own" (spBOwn K C N R)
  struck : MCalls P w K mg base (L2.CX P w) 7 C "struck" (spStruck K C N R strike)
  without : MCalls P w K mg base (L2.CX P w) 7 C "without" (spStruck K C N R away)
  words : HCalls P w K mg base 1 "_law_words" (spWords K R)
  gM : mg "MeetError" = some (.ref M)
  wd : Wds K R M
theorem Nmd.wide {tb : Tb1} {n : Int} (T : Tok tb n) {there xs : List Str} (h : Nmd tb there) (nd : xs.Nodup) : (allN (rws tb ++ [xs])).length = there.length + (xs.filter fun x => decide (x ∉ there)).length := by
  have e : (allN (rws tb ++ [xs])).Perm (there ++ xs.filter fun x => decide (x ∉ there)) := by
    refine (List.perm_ext_iff_of_nodup (ris_allN _).nodup ?_).mpr fun y => ?_
    · refine List.nodup_append.mpr ⟨h.1, nd.sublist List.filter_sublist, fun a ha b hb z => ?_⟩
      subst z
      have := (List.mem_filter.mp hb).2
      rw [decide_eq_true_eq] at this
      exact this ha
    · rw [List.mem_append, List.mem_filter, decide_eq_true_eq, h.2, allN_iff, allN_iff]
      constructor
      · rintro ⟨r, hr, hy⟩
        rcases List.mem_append.mp hr with hr | hr
        · exact .inl ⟨r, hr, hy⟩
        · rw [List.mem_singleton.mp hr] at hy
          by_cases h2 : ∃ r, r ∈ rws tb ∧ y ∈ r
          · exact .inl h2
          · exact .inr ⟨hy, h2⟩
      · rintro (⟨r, hr, hy⟩ | ⟨hy, _⟩)
        · exact ⟨r, List.mem_append_left _ hr, hy⟩
        · exact ⟨xs, List.mem_append_right _ (List.mem_singleton.mpr rfl), hy⟩
  have := e.length_eq
  rw [List.length_append] at this
  exact this
abbrev nLCall : List Str := ["_law_book", "_law_way", "_law_thing", "_law_e"]
theorem scLCall : FnScope nLCall ["_law_book", "_law_way", "_law_thing"] (defScope s_law_call_x) := ⟨rfl, rfl, rfl, by decide +kernel, rfl, by decide +kernel, by decide +kernel⟩
/-- a call of the eight: what is refused changes nothing -/
def spLCall (K : PySem.W.Frag) (C : Addr) (N : TabN) : Sp := fun vs H Q _ => ∃ (b d : Addr) (tb : Tb1) (n way : Int) (v : V) (there : List Str) (t : Str), vs = [.ref b, .int way, v] ∧ Bk C H b d tb n ∧ Tok tb n ∧ N.G H ∧ Nmd tb there ∧ Due K H way v there (tb.length : Nat) t ∧
  (t ≠ "" → ∀ H', Gr H H' → Q (.str t) H') ∧
  (t = "" → (way < 3 → ∀ xs, HOk H v xs → ∀ p H', GrX (fun a => a = b ∨ a = d) H H' → H p = none → Bk C H' b d (tb ++ [(n, p, once xs)]) (n + 1) → tb.length < 30 → (allN (rws tb ++ [xs])).length ≤ 12 → Q (.str "") H') ∧
    (way = 3 ∨ 5 < way → ∀ H', Gr H H' → Q (.str "") H') ∧ (way = 4 ∨ way = 5 → ∀ t' H', Gr H H' → Q (.str t') H'))
theorem ok_lcall (F : FnP K "_law_call" s_law_call_x f fd) (G : Env12 P w K mg base C M N R) : FnOk P w K mg base CX0 8 f fd ["_law_book", "_law_way", "_law_thing"] (spLCall K C N) := by
  refine F.ok scLCall (fun vs H Q E h => ?_) (fun cdv A outer s H vs Q E hr h => ?_)
  · obtain ⟨b, d, tb, n, way, v, there, t, rfl, _⟩ := h
    rfl
  · obtain ⟨b, d, tb, n, way, v, there, t, rfl, B, T, hN, nd, due, q1, q2⟩ := h
    refine ⟨_, PSs.nox (pss_cons (ps_try_as (i := 3) rfl rfl scLCall.nd rfl rfl ⟨rfl, by decide, .inl G.gM⟩ takes0
        (fun W pn xe tk _ => pss_one (ps_if (pt_cmpR op_lt (pv 1) pe_int (nomark _)) (pss_one (ps_expr (pe_m G.put G.bc.cl hr (by decide) (paT tk) (pv 0) (pa_cons (pv 2) pa_nil)))) (pss_one (ps_if (pt_cmpR op_eq (pv 1) pe_int (nomark _)) (pss_one (ps_expr (pe_m G.meets G.bc.cl hr (by decide) (paT tk) (pv 0) (pa_cons (pv 2) pa_nil)))) (pss_one (ps_if (pt_cmpR op_eq (pv 1) pe_int (nomark _)) (pss_one (ps_expr (pe_m G.pared G.bc.cl hr (by decide) (paT tk) (pv 0) (pa_cons (pv 2) pa_nil)))) (pss_one (ps_if (pt_cmpR op_eq (pv 1) pe_int (nomark _)) (pss_one (ps_expr (pe_m G.own G.bc.cl hr (by decide) (paT tk) (pv 0) (pa_cons (pv 2) pa_nil)))) (pss_one (ps_if (pt_cmpR op_eq (pv 1) pe_int (nomark _)) (pss_one (ps_expr (pe_m G.struck G.bc.cl hr (by decide) (paT tk) (pv 0) (pa_cons (pv 2) pa_nil)))) (pss_one (ps_expr (pe_m G.without G.bc.cl hr (by decide) (paT tk) (pv 0) (pa_cons (pv 2) pa_nil))))))))))))))
        (fun a oe cls d pn hz hf => pss_one (ps_ret (pe_q (a := a) (oe := oe) (j := 7) G.words ⟨hr.dp, hr.un⟩ (by decide) List.mem_cons_self hz hf (by rfl) (pa_cons (pv 3) pa_nil)))))
      (pss_one (ps_ret pe_str))), ?_⟩
    have n_n : ("name" : Str) ≠ "" := by decide +kernel
    have n_r : ("row" : Str) ≠ "" := by decide +kernel
    have n_t : ("many" : Str) ≠ "" := by decide +kernel
    refine ⟨_, rfl, _, _, rfl, rfl, _, rfl, ite2 (fun h1 => ?_) (fun h1 => ?_)⟩
    · have h1 : way < 3 := of_decide_eq_true h1
      rcases due with ⟨h, _⟩ | ⟨_, xs, hx, lx, rfl⟩ | ⟨_, hx, rfl⟩ | ⟨_, hx, rfl⟩
      · omega
      · have ed : dueN way there (tb.length : Nat) xs = if ¬ xs.Nodup then ("row" : Str) else if ((tb.length : Nat) : Int) = 30 ∨ 12 < there.length + (xs.filter fun x => decide (x ∉ there)).length then ("many" : Str) else ("" : Str) := by
          unfold dueN
          rw [if_neg (by omega)]
        rw [ed] at q1 q2
        by_cases nx : xs.Nodup
        case neg =>
          rw [if_pos nx] at q1
          have q := q1 n_r
          exact ⟨_, rfl, b, d, tb, n, rfl, B, _, rfl, b, d, tb, n, _, rfl, B, T, hN, .inr (.inr (.inl ⟨xs, hx, nx, fun H2 g2 => ⟨true, G.wd.er, fun _ z nz => ⟨_, rfl, _, _, _, _, _, rfl, rfl, rfl, G.wd.r, fun H3 g3 => by rw [w_r]; exact q H3 (g2.trans g3)⟩, fun z => nomatch z⟩⟩))⟩
        rw [if_neg (not_not_intro nx), ← nd.wide T nx] at q1 q2
        by_cases big : ((tb.length : Nat) : Int) = 30 ∨ 12 < (allN (rws tb ++ [xs])).length
        · rw [if_pos big] at q1
          have q := q1 n_t
          exact ⟨_, rfl, b, d, tb, n, rfl, B, _, rfl, b, d, tb, n, _, rfl, B, T, hN, .inr (.inl ⟨xs, hx, (by omega), nx, big.imp (fun z => by omega) id, fun H2 g2 => ⟨true, G.wd.et, fun _ z nz => ⟨_, rfl, _, _, _, _, _, rfl, rfl, rfl, G.wd.t, fun H3 g3 => by rw [w_t]; exact q H3 (g2.trans g3)⟩, fun z => nomatch z⟩⟩)⟩
        · rw [if_neg big] at q2
          have few := T.few
          have s1 : tb.length < 30 := by
            by_cases z : tb.length < 30
            · exact z
            · exact absurd (.inl (by omega)) big
          have s2 : (allN (rws tb ++ [xs])).length ≤ 12 := Nat.not_lt.mp fun z => big (.inr z)
          exact ⟨_, rfl, b, d, tb, n, rfl, B, _, rfl, b, d, tb, n, _, rfl, B, T, hN, .inl ⟨xs, hx, (by omega), nx, s1, s2, fun p H2 g hp B2 => (q2 rfl).1 h1 xs hx p H2 g hp B2 s1 s2⟩⟩
      · have q := q1 n_n
        exact ⟨_, rfl, b, d, tb, n, rfl, B, _, rfl, b, d, tb, n, _, rfl, B, T, hN, .inr (.inr (.inr (.inl ⟨hx, fun H2 g2 => ⟨true, G.wd.en, fun _ z nz => ⟨_, rfl, _, _, _, _, _, rfl, rfl, rfl, G.wd.n, fun H3 g3 => by rw [w_n]; exact q H3 (g2.trans g3)⟩, fun z => nomatch z⟩⟩)))⟩
      · have q := q1 n_r
        exact ⟨_, rfl, b, d, tb, n, rfl, B, _, rfl, b, d, tb, n, _, rfl, B, T, hN, .inr (.inr (.inr (.inr ⟨hx, fun H2 g2 => ⟨true, G.wd.er, fun _ z nz => ⟨_, rfl, _, _, _, _, _, rfl, rfl, rfl, G.wd.r, fun H3 g3 => by rw [w_r]; exact q H3 (g2.trans g3)⟩, fun z => nomatch z⟩⟩)))⟩
    have h1 : 3 ≤ way := Int.not_lt.mp fun z => h1 (decide_eq_true z)
    have eq_of : ∀ {k : Int}, decide (V.int way = V.int k) = true → way = k := fun h => by
      have h := of_decide_eq_true h
      injection h
    have ne_of' : ∀ {k : Int}, ¬ decide (V.int way = V.int k) = true → way ≠ k := fun h z => h (decide_eq_true (by rw [z]))
    have none3 : ∀ xs, dueN way there (tb.length : Nat) xs = "" := fun xs => by
      unfold dueN
      rw [if_pos (by omega)]
    refine ⟨_, rfl, rfl, _, rfl, ite2 (fun h2 => ?_) (fun h2 => ?_)⟩
    · have h2 := eq_of h2
      rcases due with ⟨h, _⟩ | ⟨_, xs, hx, lx, rfl⟩ | ⟨_, hx, rfl⟩ | ⟨_, hx, rfl⟩
      · omega
      · exact ⟨_, rfl, b, d, tb, n, rfl, B, _, rfl, b, d, tb, n, _, rfl, B, T, hN, .inl ⟨xs, hx, fun H2 g2 => (q2 (none3 xs)).2.1 (.inl h2) H2 g2⟩⟩
      · have q := q1 n_n
        exact ⟨_, rfl, b, d, tb, n, rfl, B, _, rfl, b, d, tb, n, _, rfl, B, T, hN, .inr (.inl ⟨hx, fun H2 g2 => ⟨true, G.wd.en, fun _ z nz => ⟨_, rfl, _, _, _, _, _, rfl, rfl, rfl, G.wd.n, fun H3 g3 => by rw [w_n]; exact q H3 (g2.trans g3)⟩, fun z => nomatch z⟩⟩)⟩
      · have q := q1 n_r
        exact ⟨_, rfl, b, d, tb, n, rfl, B, _, rfl, b, d, tb, n, _, rfl, B, T, hN, .inr (.inr ⟨hx, fun H2 g2 => ⟨true, G.wd.er, fun _ z nz => ⟨_, rfl, _, _, _, _, _, rfl, rfl, rfl, G.wd.r, fun H3 g3 => by rw [w_r]; exact q H3 (g2.trans g3)⟩, fun z => nomatch z⟩⟩)⟩
    have h2 := ne_of' h2
    refine ⟨_, rfl, rfl, _, rfl, ite2 (fun h3 => ?_) (fun h3 => ?_)⟩
    · have h3 := eq_of h3
      rcases due with ⟨h, _⟩ | ⟨_, xs, hx, lx, rfl⟩ | ⟨_, hx, rfl⟩ | ⟨_, hx, rfl⟩
      · omega
      · have q := (q2 (none3 xs)).2.2 (.inl h3)
        cases em : mtAll xs (rws tb) with
        | true => exact ⟨_, rfl, b, d, tb, n, rfl, B, _, rfl, b, d, tb, n, _, rfl, B, T, hN, .inl ⟨xs, hx, em, fun p H2 g2 _ _ => q _ H2 g2⟩⟩
        | false => exact ⟨_, rfl, b, d, tb, n, rfl, B, _, rfl, b, d, tb, n, _, rfl, B, T, hN, .inr (.inl ⟨xs, hx, em, fun H2 g2 => ⟨true, G.wd.em, fun _ z nz => ⟨_, rfl, _, _, _, _, _, rfl, rfl, rfl, G.wd.m, fun H3 g3 => q _ H3 (g2.trans g3)⟩, fun z => nomatch z⟩⟩)⟩
      · have q := q1 n_n
        exact ⟨_, rfl, b, d, tb, n, rfl, B, _, rfl, b, d, tb, n, _, rfl, B, T, hN, .inr (.inr (.inl ⟨hx, fun H2 g2 => ⟨true, G.wd.en, fun _ z nz => ⟨_, rfl, _, _, _, _, _, rfl, rfl, rfl, G.wd.n, fun H3 g3 => by rw [w_n]; exact q H3 (g2.trans g3)⟩, fun z => nomatch z⟩⟩))⟩
      · have q := q1 n_r
        exact ⟨_, rfl, b, d, tb, n, rfl, B, _, rfl, b, d, tb, n, _, rfl, B, T, hN, .inr (.inr (.inr ⟨hx, fun H2 g2 => ⟨true, G.wd.er, fun _ z nz => ⟨_, rfl, _, _, _, _, _, rfl, rfl, rfl, G.wd.r, fun H3 g3 => by rw [w_r]; exact q H3 (g2.trans g3)⟩, fun z => nomatch z⟩⟩))⟩
    have h3 := ne_of' h3
    refine ⟨_, rfl, rfl, _, rfl, ite2 (fun h4 => ?_) (fun h4 => ?_)⟩
    · have h4 := eq_of h4
      rcases due with ⟨h, _⟩ | ⟨_, xs, hx, lx, rfl⟩ | ⟨_, hx, rfl⟩ | ⟨_, hx, rfl⟩
      · omega
      · have q := (q2 (none3 xs)).2.2 (.inr h4)
        have em := Bool.eq_false_or_eq_true (mtAll xs (rws tb))
        by_cases z : mtAll xs (rws tb) = true ∧ ∀ x ∈ once xs, (firstOwn tb (once xs) x).isSome = true
        · exact ⟨_, rfl, b, d, tb, n, rfl, B, _, rfl, b, d, tb, n, _, rfl, B, T, hN, .inl ⟨xs, hx, z.1, z.2, fun p H2 ts g2 _ _ _ _ => q _ H2 g2⟩⟩
        · refine ⟨_, rfl, b, d, tb, n, rfl, B, _, rfl, b, d, tb, n, _, rfl, B, T, hN, .inr (.inl ⟨xs, hx, ?_, fun H2 g2 => ⟨true, G.wd.em, fun _ z nz => ⟨_, rfl, _, _, _, _, _, rfl, rfl, rfl, G.wd.m, fun H3 g3 => q _ H3 (g2.trans g3)⟩, fun z => nomatch z⟩⟩)⟩
          rcases em with em | em
          · refine .inr ?_
            by_cases hh : ∃ x ∈ once xs, firstOwn tb (once xs) x = none
            · exact hh
            · refine absurd ⟨em, fun x hx => ?_⟩ z
              cases e : firstOwn tb (once xs) x with
              | none => exact absurd ⟨x, hx, e⟩ hh
              | some k => rfl
          · exact .inl em
      · have q := q1 n_n
        exact ⟨_, rfl, b, d, tb, n, rfl, B, _, rfl, b, d, tb, n, _, rfl, B, T, hN, .inr (.inr (.inl ⟨hx, fun H2 g2 => ⟨true, G.wd.en, fun _ z nz => ⟨_, rfl, _, _, _, _, _, rfl, rfl, rfl, G.wd.n, fun H3 g3 => by rw [w_n]; exact q H3 (g2.trans g3)⟩, fun z => nomatch z⟩⟩))⟩
      · have q := q1 n_r
        exact ⟨_, rfl, b, d, tb, n, rfl, B, _, rfl, b, d, tb, n, _, rfl, B, T, hN, .inr (.inr (.inr ⟨hx, fun H2 g2 => ⟨true, G.wd.er, fun _ z nz => ⟨_, rfl, _, _, _, _, _, rfl, rfl, rfl, G.wd.r, fun H3 g3 => by rw [w_r]; exact q H3 (g2.trans g3)⟩, fun z => nomatch z⟩⟩))⟩
    have h4 := ne_of' h4
    have h5 : 5 < way := by omega
    have thing : Thing K H v ∧ ((∃ x, v = .str x ∧ isNm x = true ∧ t = "") ∨ nmV v = false ∧ t = "name") := by
      rcases due with ⟨_, hv, et⟩ | ⟨h, _⟩ | ⟨h, _⟩ | ⟨h, _⟩
      · refine ⟨hv, ?_⟩
        cases e : nmV v with
        | true =>
          rw [e, if_pos rfl] at et
          cases v with
          | str x => exact .inl ⟨x, rfl, e, et⟩
          | _ => cases e
        | false =>
          rw [e, if_neg Bool.false_ne_true] at et
          exact .inr ⟨rfl, et⟩
      all_goals omega
    obtain ⟨hv, kind⟩ := thing
    refine ⟨_, rfl, rfl, _, rfl, ite2 (fun h6 => ?_) (fun h6 => ?_)⟩
    all_goals
      rcases kind with ⟨x, rfl, nx, rfl⟩ | ⟨nx, rfl⟩
      · exact ⟨_, rfl, b, d, tb, n, rfl, B, _, rfl, b, d, tb, n, _, rfl, B, T, hN, hv, .inl ⟨x, rfl, nx, fun b' d' H2 tb' g2 _ => (q2 rfl).2.1 (.inr h5) H2 g2⟩⟩
      · have q := q1 n_n
        exact ⟨_, rfl, b, d, tb, n, rfl, B, _, rfl, b, d, tb, n, _, rfl, B, T, hN, hv, .inr ⟨nx, fun H2 g2 => ⟨true, G.wd.en, fun _ z nz => ⟨_, rfl, _, _, _, _, _, rfl, rfl, rfl, G.wd.n, fun H3 g3 => by rw [w_n]; exact q H3 (g2.trans g3)⟩, fun z => nomatch z⟩⟩⟩
end
end K1
end
section
set_option maxHeartbeats 8000000
namespace K1
open PySem PySem.Spec PyProof.Rows L2 Gr GxR Srx Skx Dcx
section
variable {P : Program} {w : World} {K : PySem.W.Frag} {mg : Str → Option Value} {base : Heap} {f C M : Addr} {fd : FuncData} {N : TabN} {R : ErN}
theorem two_texts {x y : Str} (hx : x = "many" ∨ x = "") (hy : y = "many" ∨ y = "") : SeqAt.shaped (dS [x, y]) = true := by
  rcases hx with rfl | rfl <;> rcases hy with rfl | rfl <;> decide +kernel
structure IsB (K : PySem.W.Frag) (C : Addr) : Prop where
  ha : PySem.W.findIn K (.ref C) "__class__" = some (some (.builtin "object.__class__"))
  hn : PySem.W.specialIn K (.builtin "object.__class__") "__get__" = some (some (.builtin "getset_descriptor.__get__"))
  htk : PySem.W.takesIn K (.builtin "object.__class__") = some true
  hm : PySem.W.mroIn K C (.type "object") = some true
  kt : PySem.W.kitOne K (.ref C) (.ref C) = some true
structure EnvB (P : Program) (w : World) (K : PySem.W.Frag) (mg : Str → Option Value) (base : Heap) (C M : Addr) (N : TabN) (R : ErN) : Prop where
  bc : BkC K mg C
  mkr : MkB P w K mg base C
  put : MCalls P w K mg base (L2.CX P w) 5 C "put" (spPut K C N R)
  take : MCalls P w K mg base (L2.CX P w) 1 C "take" (spTake K C R)
  joined : MCalls P w K mg base (L2.CX P w) 7 C "joined" (spJoined K C N R (fun A B => A ++ B))
  crossed : MCalls P w K mg base (L2.CX P w) 7 C "crossed" (spJoined K C N R unions)
  rows : MCalls P w K mg base CX0 1 C "rows" (spBRows C)
  words : HCalls P w K mg base 1 "_law_words" (spWords K R)
  gM : mg "MeetError" = some (.ref M)
  wd : Wds K R M
  isB : IsB K C
abbrev nBoth : List Str := ["_law_size", "_law_kinds", "_law_one", "_law_other", "_law_names", "_law_k", "_law_wide", "_law_due_here", "_law_found", "_law_way", "_law_made", "_law_e"]
theorem scBoth : FnScope nBoth ["_law_size", "_law_kinds"] (defScope s_law_both_x) := ⟨rfl, rfl, rfl, by decide +kernel, rfl, by decide +kernel, by decide +kernel⟩
def spBoth (K : PySem.W.Frag) (N : TabN) : Sp := fun vs H Q _ => ∃ (a c : Addr) (s0 s1 k0 k1 : Nat), vs = [.ref a, .ref c] ∧ H a = some (.lst [.int (s0 : Nat), .int (s1 : Nat)]) ∧ H c = some (.lst [.int (k0 : Nat), .int (k1 : Nat)]) ∧ s0 ≤ 30 ∧ s1 ≤ 30 ∧ 1 ≤ k0 ∧ k0 ≤ 12 ∧ 1 ≤ k1 ∧ k1 ≤ 12 ∧ N.G H ∧ ∀ H', Q (.bl true) H'
theorem ok_both (F : FnP K "_law_both" s_law_both_x f fd) (G : EnvB P w K mg base C M N R) (g_len : mg "len" = none) (g_isinstance : mg "isinstance" = none) (g_range : mg "range" = none) : FnOk P w K mg base CX0 8 f fd ["_law_size", "_law_kinds"] (spBoth K N) := by
  refine F.ok scBoth (fun vs H Q E h => ?_) (fun cdv A outer s H vs Q E hr h => ?_)
  · obtain ⟨a, c, s0, s1, k0, k1, rfl, _⟩ := h
    rfl
  · obtain ⟨a, c, s0, s1, k0, k1, rfl, ha, hc, hs0, hs1, h10, h11, h20, h21, hN, q⟩ := h
    refine ⟨_, PSs.nox (pss_cons (ps_set (i := 2) scBoth.nd rfl (.inl rfl) (pe_new G.mkr G.bc hr (by decide) (by rfl))) (pss_cons (ps_set (i := 3) scBoth.nd rfl (.inl rfl) (pe_new G.mkr G.bc hr (by decide) (by rfl))) (pss_cons (ps_set (i := 4) scBoth.nd rfl (.inl rfl) pe_dnewK) (pss_cons (ps_for PassesOwn.never rfl (pi_range1 (by rfl) g_range (pa_cons (pe_ix ix_list (pv 0) pe_int (fun _ _ => rfl)) pa_nil)) (pg_name (i := 5) scBoth.nd rfl (.inl rfl)) (pss_cons (ps_expr (pe_m G.put G.bc.cl hr (by decide) paL (pv 2) (pa_cons (pe_lst (pa_cons (pe_ix ix_str pe_str (pe_op op_mod (pv 5) (pe_ix ix_list (pv 1) pe_int (fun _ _ => rfl))) (fun _ _ => rfl)) pa_nil)) pa_nil))) (pss_one (ps_dput (hu_of hr) (pv 4) (pe_op op_mod (pv 5) (pe_ix ix_list (pv 1) pe_int (fun _ _ => rfl))) pe_bl rfl)))) (pss_cons (ps_for PassesOwn.never rfl (pi_range1 (by rfl) g_range (pa_cons (pe_ix ix_list (pv 0) pe_int (fun _ _ => rfl)) pa_nil)) (pg_name (i := 5) scBoth.nd rfl (.inl rfl)) (pss_cons (ps_expr (pe_m G.put G.bc.cl hr (by decide) paL (pv 3) (pa_cons (pe_lst (pa_cons (pe_ix ix_str pe_str (pe_op op_mod (pv 5) (pe_ix ix_list (pv 1) pe_int (fun _ _ => rfl))) (fun _ _ => rfl)) pa_nil)) pa_nil))) (pss_one (ps_dput (hu_of hr) (pv 4) (pe_op op_add pe_int (pe_op op_mod (pv 5) (pe_ix ix_list (pv 1) pe_int (fun _ _ => rfl)))) pe_bl rfl)))) (pss_cons (ps_set (i := 6) scBoth.nd rfl (.inl rfl) (pe_cmpR op_gt (pe_callB call_lenD (by rfl) g_len PySem.boot_len (pa_cons (pv 4) pa_nil)) pe_int (nomark _))) (C8.pss_cut (ps_set (i := 7) scBoth.nd rfl (.inl rfl) (pe_lst (pa_cons (pe_ifExp (PW.pt (pw_or (pt_cmpR op_gt (pe_op op_add (pe_ix ix_list (pv 0) pe_int (fun _ _ => rfl)) (pe_ix ix_list (pv 0) pe_int (fun _ _ => rfl))) pe_int (nomark _)) (pw_or1 (pt_val (pv 6))))) pe_str pe_str) (pa_cons pe_str pa_nil)))) (C8.pss_cut (ps_if (PW.pt (pw_or (pt_cmpR op_gt (pe_op op_mul (pe_ix ix_list (pv 0) pe_int (fun _ _ => rfl)) (pe_ix ix_list (pv 0) pe_int (fun _ _ => rfl))) pe_int (nomark _)) (pw_or1 (PW.pt (pw_and (pt_cmpR op_gt (pe_ix ix_list (pv 0) pe_int (fun _ _ => rfl)) pe_int (nomark _)) (pw_and (pt_cmpR op_gt (pe_ix ix_list (pv 0) pe_int (fun _ _ => rfl)) pe_int (nomark _)) (pw_and1 (pt_val (pv 6))))))))) (pss_one (ps_asg pe_str (pg_sub (pv 7) pe_int set_list))) (pss_nil)) (pss_cons (ps_set (i := 8) scBoth.nd rfl (.inl rfl) (pe_lst pa_nil)) (pss_cons (ps_for PassesOwn.never rfl (pi_range1 (by rfl) g_range (pa_cons pe_int pa_nil)) (pg_name (i := 9) scBoth.nd rfl (.inl rfl)) (pss_one (ps_try_asT (i := 11) rfl rfl scBoth.nd rfl rfl ⟨rfl, by decide, .inl G.gM⟩ takes0 (fun W pn xe tk _ => pss_cons (ps_set (i := 10) scBoth.nd rfl (.inl rfl) (pe_ifExp (pt_cmpR op_eq (pv 9) pe_int (nomark _)) (pe_m G.joined G.bc.cl hr (by decide) (paT tk) (pv 2) (pa_cons (pv 3) pa_nil)) (pe_m G.crossed G.bc.cl hr (by decide) (paT tk) (pv 2) (pa_cons (pv 3) pa_nil)))) (pss_one (ps_expr (pe_appK (K := K) rfl (pv 8) (pa_cons (pe_ifExp (pt_val (pe_callB (r := rIsi K) call_isi (by rfl) g_isinstance (by decide +kernel) (pa_cons (pv 10) (pa_cons (pe_glob (v := .ref C) (by rfl) G.bc.mgC rfl) pa_nil)))) pe_str pe_str) pa_nil))))) (fun a oe cls d pn hz hf => pss_one (ps_expr (pe_appK (K := K) rfl (pv 8) (pa_cons (pe_q (a := a) (oe := oe) (j := 7) G.words ⟨hr.dp, hr.un⟩ (by decide) List.mem_cons_self hz hf (by rfl) (pa_cons (pv 11) pa_nil)) pa_nil))))))) (pss_cons (ps_if (PW.pt (pw_or (pt_cmpR (op_neD (hu64 hr)) (pv 8) (pv 7) (nomark _)) (pw_or (pt_cmpR op_ne (pe_callB call_len_seq (by rfl) g_len boot_len (pa_cons (pe_m0 G.rows G.bc.cl hr (by decide) pa0 (pv 2)) pa_nil)) (pe_ix ix_list (pv 0) pe_int (fun _ _ => rfl)) (nomark _)) (pw_or1 (pt_cmpR op_ne (pe_callB call_len_seq (by rfl) g_len boot_len (pa_cons (pe_m0 G.rows G.bc.cl hr (by decide) pa0 (pv 3)) pa_nil)) (pe_ix ix_list (pv 0) pe_int (fun _ _ => rfl)) (nomark _)))))) (pss_one (ps_ret pe_bl)) (pss_nil)) (pss_cons (ps_for PassesOwn.never rfl (pi_range1 (by rfl) g_range (pa_cons (pe_ix ix_list (pv 0) pe_int (fun _ _ => rfl)) pa_nil)) (pg_name (i := 5) scBoth.nd rfl (.inl rfl)) (pss_one (ps_expr (pe_m G.take G.bc.cl hr (by decide) paL (pv 3) (pa_cons (pv 5) pa_nil))))) (pss_one (ps_ret (pe_and (pe_cmpR op_eq (pe_callB call_len_seq (by rfl) g_len boot_len (pa_cons (pe_m0 G.rows G.bc.cl hr (by decide) pa0 (pe_m G.joined G.bc.cl hr (by decide) paL (pv 2) (pa_cons (pv 3) pa_nil))) pa_nil)) (pe_ix ix_list (pv 0) pe_int (fun _ _ => rfl)) (nomark _)) (pe_one (pe_cmpR (op_eqD (hu64 hr)) (pe_m0 G.rows G.bc.cl hr (by decide) pa0 (pe_m G.crossed G.bc.cl hr (by decide) paL (pv 2) (pa_cons (pv 3) pa_nil))) (pe_lst pa_nil) (nomark _)))))))))))))))))), ?_⟩
    have one : 1 ≤ sizeLine := by rw [sizeLine_eq]; omega
    have litA : ∀ t : Nat, t < 12 → atI ("abcdefghijkl" : Str).cps.toList ((t : Nat) : Int) = some (97 + (0 + t)) := by decide +kernel
    have litB : ∀ t : Nat, t < 12 → atI ("ghijklmnopqr" : Str).cps.toList ((t : Nat) : Int) = some (97 + (6 + t)) := by decide +kernel
    intro b1 d1 H1 g1 nb1 nd1 B1
    intro b2 d2 H2 g2 nb2 nd2 B2
    intro m nm
    have g02 := g1.trans g2
    have W0 : Two C b1 d1 b2 d2 m H (upd H2 m (.dK [])) [] [] [] := by
      have B1' := (B1.gr g2).gr (Gr.new (o := .dK []) nm)
      have B2' := B2.gr (Gr.new (o := .dK []) nm)
      obtain ⟨dx1, eb1⟩ := B1.ob
      exact ⟨g02.trans (Gr.new nm), ⟨[], B1', Tok.nil, rfl⟩, ⟨[], B2', Tok.nil, rfl⟩, upd_same, (ne_of_none eb1 nb2).symm, (ne_of_none B1.dc nd2).symm, (ne_of_none (g2.at_ _ _ B1.dc fun _ z => nomatch z) nm).symm, (ne_of_none B2.dc nm).symm, nb1, nd1, g1.free nb2, g1.free nd2, g02.free nm⟩
    generalize upd H2 m (.dK []) = H3 at W0
    let σA : Option V → L2.St := fun v => [some (.ref a), some (.ref c), some (.ref b1), some (.ref b2), some (.ref m), v, none, none, none, none, none, none]
    refine ⟨_, rfl, a, _, _, _, rfl, rfl, .inl (.inl (W0.g.lst ha)), rfl, _, rfl, by omega, by omega, for_range (lo := 0) (fun i σ H4 => (∃ v, σ = σA v) ∧ Two C b1 d1 b2 d2 m H H4 (rlet (roun 0 k0 i)) [] (rkey (roun 0 k0 i))) ⟨⟨none, rfl⟩, W0⟩ (fun i σ H4 hi h => ?_) (fun σ H4 h => ?_)⟩
    · obtain ⟨⟨v5, rfl⟩, W⟩ := h
      obtain ⟨tb, B, T, en⟩ := W.one.ex
      have tl := nr_len_rows en
      rw [rlet_len, roun_len] at tl
      have lt : i % k0 < 12 := by have := Nat.mod_lt i (show 0 < k0 by omega); omega
      have ek : (0 + (i : Int)) % (k0 : Int) = ((i % k0 : Nat) : Int) := by rw [Int.zero_add]; rfl
      refine ⟨_, rfl, b1, d1, tb, _, rfl, B, _, rfl, _, rfl, c, _, _, _, rfl, rfl, .inl (.inl (W.g.lst hc)), rfl, _, _, rfl, rfl, (by show (0 : Int) < (k0 : Nat); omega), _, _, _, rfl, rfl, (by decide +kernel), (by rw [ek]; exact litA _ lt), one, fun l nl => ?_⟩
      have g5 : Gr H4 (upd H4 l (.lst [V.str (lettr (0 + i % k0))])) := Gr.new nl
      have e5 : (upd H4 l (.lst [V.str (lettr (0 + i % k0))])) l = some (.lst (([lettr (0 + i % k0)] : List Str).map V.str)) := upd_same
      rw [show (V.str ⟨#[97 + (0 + i % k0)]⟩) = V.str (lettr (0 + i % k0)) from rfl]
      generalize upd H4 l (.lst [V.str (lettr (0 + i % k0))]) = H5 at g5 e5
      have W5 := W.gr g5
      have nm1 : isNm (lettr (0 + i % k0)) = true := lettr_nm (by omega)
      have wd : (allN (rws tb ++ [[lettr (0 + i % k0)]])).length ≤ 12 := wide12 0 fun r hr => by
        rcases List.mem_append.mp hr with hr | hr
        · rw [rws_numd en] at hr
          obtain ⟨j, hj, rfl⟩ := rlet_mem hr
          obtain ⟨t, ht, rfl⟩ := roun_lt (by omega) (by omega) hj
          exact ⟨t, ht, rfl⟩
        · exact ⟨i % k0, lt, List.mem_singleton.mp hr⟩
      refine ⟨b1, d1, tb, _, _, rfl, B.gr g5, T, hN.gr W5.g, .inl ⟨[lettr (0 + i % k0)], ⟨l, rfl, e5, fun y hy => by rw [List.mem_singleton.mp hy]; exact nm1, (by show 1 ≤ 1000; decide)⟩, (by show 1 ≤ 100; decide), (ris_one1 _).nodup, by omega, wd, fun p H6 g6 np B6 => ?_⟩⟩
      have W6 := W5.upd1 g6 (BkN.put T en nm1 (by omega) wd B6)
      refine ⟨_, rfl, _, rfl, _, rfl, c, _, _, _, rfl, rfl, .inl (.inl (W6.g.lst hc)), rfl, _, _, rfl, rfl, (by show (0 : Int) < (k0 : Nat); omega), m, _, rfl, DPut.k (k := Sum.inl _) W6.at_ ?_, ⟨_, rfl⟩, ?_⟩
      · have h1 := ddG_len (rkey (roun 0 k0 i))
        have h2 : (rkey (roun 0 k0 i)).length ≤ 60 := by
          unfold rkey
          rw [List.length_map]
          first
          | (rw [roun_len]; omega)
          | (rw [List.length_append, roun_len, roun_len]; omega)
        unfold kvI
        rw [List.length_map]
        exact small1000 (by omega)
      · have key := W6.key ((0 + i % k0 : Nat) : Int)
        have e6 : putK (kvI (ddG (rkey (roun 0 k0 i)))) (Sum.inl ((0 + (i : Int)) % (k0 : Int))) (V.bl true) = kvI (ddG (rkey (roun 0 k0 i) ++ [((0 + i % k0 : Nat) : Int)])) := by
          rw [ddG_snoc, ← put_keyI]
          congr 2
          rw [ek, Nat.zero_add]
        rw [show upd H6 m _ = _ from congrArg (fun z => upd H6 m (.dK z)) e6]
        rw [roun_succ]
        simp only [← List.append_assoc, rlet_app, rkey_app] at key ⊢
        exact key
    obtain ⟨⟨v5, rfl⟩, W1⟩ := h
    refine ⟨_, rfl, a, _, _, _, rfl, rfl, .inl (.inl (W1.g.lst ha)), rfl, _, rfl, by omega, by omega, for_range (lo := 0) (fun i σ H4 => (∃ v, σ = σA v) ∧ Two C b1 d1 b2 d2 m H H4 (rlet (roun 0 k0 s0)) (rlet (roun 6 k1 i)) (rkey (roun 0 k0 s0 ++ roun 6 k1 i))) ⟨⟨v5, rfl⟩, by rw [show roun 0 k0 s0 ++ roun 6 k1 0 = roun 0 k0 s0 from List.append_nil _]; exact W1⟩ (fun i σ H4 hi h => ?_) (fun σ H4 h => ?_)⟩
    · obtain ⟨⟨v5, rfl⟩, W⟩ := h
      obtain ⟨tb, B, T, en⟩ := W.swap.one.ex
      have tl := nr_len_rows en
      rw [rlet_len, roun_len] at tl
      have lt : i % k1 < 12 := by have := Nat.mod_lt i (show 0 < k1 by omega); omega
      have ek : (0 + (i : Int)) % (k1 : Int) = ((i % k1 : Nat) : Int) := by rw [Int.zero_add]; rfl
      refine ⟨_, rfl, b2, d2, tb, _, rfl, B, _, rfl, _, rfl, c, _, _, _, rfl, rfl, .inl (.inl (W.g.lst hc)), rfl, _, _, rfl, rfl, (by show (0 : Int) < (k1 : Nat); omega), _, _, _, rfl, rfl, (by decide +kernel), (by rw [ek]; exact litB _ lt), one, fun l nl => ?_⟩
      have g5 : Gr H4 (upd H4 l (.lst [V.str (lettr (6 + i % k1))])) := Gr.new nl
      have e5 : (upd H4 l (.lst [V.str (lettr (6 + i % k1))])) l = some (.lst (([lettr (6 + i % k1)] : List Str).map V.str)) := upd_same
      rw [show (V.str ⟨#[97 + (6 + i % k1)]⟩) = V.str (lettr (6 + i % k1)) from rfl]
      generalize upd H4 l (.lst [V.str (lettr (6 + i % k1))]) = H5 at g5 e5
      have W5 := W.gr g5
      have nm1 : isNm (lettr (6 + i % k1)) = true := lettr_nm (by omega)
      have wd : (allN (rws tb ++ [[lettr (6 + i % k1)]])).length ≤ 12 := wide12 6 fun r hr => by
        rcases List.mem_append.mp hr with hr | hr
        · rw [rws_numd en] at hr
          obtain ⟨j, hj, rfl⟩ := rlet_mem hr
          obtain ⟨t, ht, rfl⟩ := roun_lt (by omega) (by omega) hj
          exact ⟨t, ht, rfl⟩
        · exact ⟨i % k1, lt, List.mem_singleton.mp hr⟩
      refine ⟨b2, d2, tb, _, _, rfl, B.gr g5, T, hN.gr W5.g, .inl ⟨[lettr (6 + i % k1)], ⟨l, rfl, e5, fun y hy => by rw [List.mem_singleton.mp hy]; exact nm1, (by show 1 ≤ 1000; decide)⟩, (by show 1 ≤ 100; decide), (ris_one1 _).nodup, by omega, wd, fun p H6 g6 np B6 => ?_⟩⟩
      have W6 := (W5.swap.upd1 g6 (BkN.put T en nm1 (by omega) wd B6)).swap
      refine ⟨_, rfl, _, rfl, _, rfl, c, _, _, _, rfl, rfl, .inl (.inl (W6.g.lst hc)), rfl, _, _, rfl, rfl, (by show (0 : Int) < (k1 : Nat); omega), _, _, rfl, rfl, m, _, rfl, DPut.k (k := Sum.inl _) W6.at_ ?_, ⟨_, rfl⟩, ?_⟩
      · have h1 := ddG_len (rkey (roun 0 k0 s0 ++ roun 6 k1 i))
        have h2 : (rkey (roun 0 k0 s0 ++ roun 6 k1 i)).length ≤ 60 := by
          unfold rkey
          rw [List.length_map]
          first
          | (rw [roun_len]; omega)
          | (rw [List.length_append, roun_len, roun_len]; omega)
        unfold kvI
        rw [List.length_map]
        exact small1000 (by omega)
      · have key := W6.key ((6 + i % k1 : Nat) : Int)
        have e6 : putK (kvI (ddG (rkey (roun 0 k0 s0 ++ roun 6 k1 i)))) (Sum.inl (6 + (0 + (i : Int)) % (k1 : Int))) (V.bl true) = kvI (ddG (rkey (roun 0 k0 s0 ++ roun 6 k1 i) ++ [((6 + i % k1 : Nat) : Int)])) := by
          rw [ddG_snoc, ← put_keyI]
          congr 2
          rw [ek]; omega
        rw [show upd H6 m _ = _ from congrArg (fun z => upd H6 m (.dK z)) e6]
        rw [roun_succ]
        simp only [← List.append_assoc, rlet_app, rkey_app] at key ⊢
        exact key
    obtain ⟨⟨v5', rfl⟩, W⟩ := h
    have W : Two C b1 d1 b2 d2 m H H4 (rlet (roun 0 k0 s0)) (rlet (roun 6 k1 s1)) (rkey (roun 0 k0 s0 ++ roun 6 k1 s1)) := W
    have l0 : (roun 0 k0 s0).length = s0 := roun_len ..
    have l1 : (roun 6 k1 s1).length = s1 := roun_len ..
    have j0 : ∀ r ∈ rlet (roun 0 k0 s0), ∃ j, j < 26 ∧ r = [lettr j] := fun r hr => by
      obtain ⟨j, hj, rfl⟩ := rlet_mem hr
      obtain ⟨t, ht, rfl⟩ := roun_lt h10 h11 hj
      exact ⟨_, by omega, rfl⟩
    have j1 : ∀ r ∈ rlet (roun 6 k1 s1), ∃ j, j < 26 ∧ r = [lettr j] := fun r hr => by
      obtain ⟨j, hj, rfl⟩ := rlet_mem hr
      obtain ⟨t, ht, rfl⟩ := roun_lt h20 h21 hj
      exact ⟨_, by omega, rfl⟩
    have nl : (ddG (rkey (roun 0 k0 s0 ++ roun 6 k1 s1))).length = (allN (rlet (roun 0 k0 s0) ++ rlet (roun 6 k1 s1))).length := keys_names (js := roun 0 k0 s0 ++ roun 6 k1 s1) rfl (rlet_app _ _).symm
    have L0 : (rlet (roun 0 k0 s0)).length = s0 := by rw [rlet_len, l0]
    have L1 : (rlet (roun 6 k1 s1)).length = s1 := by rw [rlet_len, l1]
    generalize rlet (roun 0 k0 s0) = ra at W j0 nl L0
    generalize rlet (roun 6 k1 s1) = rb at W j1 nl L1
    generalize rkey (roun 0 k0 s0 ++ roun 6 k1 s1) = ks at W nl
    refine ⟨_, rfl, m, _, rfl, W.at_, _, _, rfl, rfl, ?_⟩
    show gName 6 (V.bl (decide ((12 : Int) < (((kvI (ddG ks)).length : Nat) : Int)))) _ _ _
    rw [show (kvI (ddG ks)).length = (allN (ra ++ rb)).length by unfold kvI; rw [List.length_map]; exact nl]
    -- what is due
    let due0 : Str := if 30 < s0 + s1 ∨ 12 < (allN (ra ++ rb)).length then "many" else ""
    let due1 : Str := if 30 < s0 * s1 ∨ (0 < s0 ∧ 0 < s1 ∧ 12 < (allN (ra ++ rb)).length) then "many" else ""
    generalize hwd : decide ((12 : Int) < (((allN (ra ++ rb)).length : Nat) : Int)) = wd
    have hwd' : wd = decide (12 < (allN (ra ++ rb)).length) := by rw [← hwd]; exact decide_eq_decide.mpr (by omega)
    have h13 : (13 : Nat) ≤ sizeLine := by rw [sizeLine_eq]; omega
    refine ⟨fun σ' H' => ∃ Du, Gr H4 H' ∧ H4 Du = none ∧ H' Du = some (.lst [.str due0, .str ""]) ∧ σ' = [some (.ref a), some (.ref c), some (.ref b1), some (.ref b2), some (.ref m), v5', some (.bl wd), some (.ref Du), none, none, none, none], ?_, fun σ' H5 hm => ?_⟩
    · refine ⟨_, rfl, a, _, _, _, rfl, rfl, .inl (.inl (W.g.lst ha)), rfl, _, rfl, a, _, _, _, rfl, rfl, .inl (.inl (W.g.lst ha)), rfl, _, _, rfl, rfl, _, _, rfl, rfl, _, rfl, ?_⟩
      by_cases c1 : 30 < s0 + s1
      · have e0 : due0 = "many" := if_pos (.inl c1)
        rw [decide_eq_true (by omega)]
        exact iteT (iteT ⟨(by show 2 ≤ sizeLine; omega), fun l nl => ⟨l, Gr.new nl, nl, by rw [e0]; exact upd_same, rfl⟩⟩)
      · rw [decide_eq_false (by omega)]
        refine iteF ⟨_, rfl, _, rfl, ?_⟩
        cases wd with
        | true =>
          have e0 : due0 = "many" := if_pos (.inr (of_decide_eq_true hwd'.symm))
          exact iteT ⟨(by show 2 ≤ sizeLine; omega), fun l nl => ⟨l, Gr.new nl, nl, by rw [e0]; exact upd_same, rfl⟩⟩
        | false =>
          have e0 : due0 = "" := if_neg fun z => z.elim c1 (of_decide_eq_false hwd'.symm)
          exact iteF ⟨(by show 2 ≤ sizeLine; omega), fun l nl => ⟨l, Gr.new nl, nl, by rw [e0]; exact upd_same, rfl⟩⟩
    obtain ⟨Du, g5, nDu, eDu, rfl⟩ := hm
    refine ⟨fun σ' H' => Gr H4 H' ∧ H' Du = some (.lst [.str due0, .str due1]) ∧ σ' = [some (.ref a), some (.ref c), some (.ref b1), some (.ref b2), some (.ref m), v5', some (.bl wd), some (.ref Du), none, none, none, none], ?_, fun σ' H6 hm => ?_⟩
    · have ga := (W.g.trans g5).lst ha
      have many : ∀ rt, due1 = "many" → tAsg (tC (.str "many")) (gSub (tVar 7) (tC (.int 1)) rSetL) { nx := fun σ' H' => Gr H4 H' ∧ H' Du = some (.lst [.str due0, .str due1]) ∧ σ' = [some (.ref a), some (.ref c), some (.ref b1), some (.ref b2), some (.ref m), v5', some (.bl wd), some (.ref Du), none, none, none, none], rt := rt } [some (.ref a), some (.ref c), some (.ref b1), some (.ref b2), some (.ref m), v5', some (.bl wd), some (.ref Du), none, none, none, none] H5 := fun _ e1 =>
        ⟨_, rfl, Du, _, _, 1, rfl, rfl, eDu, rfl, g5.mut nDu, by rw [e1]; exact upd_same, rfl⟩
      refine ⟨_, rfl, a, _, _, _, rfl, rfl, .inl (.inl ga), rfl, _, rfl, a, _, _, _, rfl, rfl, .inl (.inl ga), rfl, _, _, rfl, rfl, .inl ⟨by omega, by omega⟩, _, _, rfl, rfl, _, rfl, ?_⟩
      have em : ((s0 : Nat) : Int) * ((s1 : Nat) : Int) = ((s0 * s1 : Nat) : Int) := by push_cast; rfl
      rw [em]
      by_cases c1 : 30 < s0 * s1
      · rw [decide_eq_true (by omega)]
        exact iteT (iteT (many _ (if_pos (.inl c1))))
      rw [decide_eq_false (by omega)]
      refine iteF ⟨_, rfl, a, _, _, _, rfl, rfl, .inl (.inl ga), rfl, _, _, rfl, rfl, _, rfl, ?_⟩
      have none_ : ¬ (0 < s0 ∧ 0 < s1 ∧ 12 < (allN (ra ++ rb)).length) → due1 = "" := fun h => if_neg fun z => z.elim c1 h
      by_cases p0 : 0 < s0
      · rw [decide_eq_true (by omega)]
        refine iteT ⟨_, rfl, a, _, _, _, rfl, rfl, .inl (.inl ga), rfl, _, _, rfl, rfl, _, rfl, ?_⟩
        by_cases p1 : 0 < s1
        · rw [decide_eq_true (by omega)]
          refine iteT ⟨_, rfl, _, rfl, ?_⟩
          cases wd with
          | true => exact iteT (many _ (if_pos (.inr ⟨p0, p1, of_decide_eq_true hwd'.symm⟩)))
          | false => exact iteF ⟨g5, by rw [none_ fun z => of_decide_eq_false hwd'.symm z.2.2]; exact eDu, rfl⟩
        · rw [decide_eq_false (by omega)]
          exact iteF (iteF ⟨g5, by rw [none_ fun z => p1 z.2.1]; exact eDu, rfl⟩)
      · rw [decide_eq_false (by omega)]
        exact iteF (iteF ⟨g5, by rw [none_ fun z => p0 z.1]; exact eDu, rfl⟩)
    obtain ⟨g6, eD6, rfl⟩ := hm
    have W6 := W.gr g6
    refine ⟨Nat.zero_le _, fun Fo nFo => ?_⟩
    have n0 : ¬ (30 < s0 + s1 ∨ 12 < (allN (ra ++ rb)).length) → RowsOk (ra ++ rb) := fun z =>
      (joinOk fun r hr => (List.mem_append.mp hr).elim (j0 r) (j1 r)).mpr ⟨by rw [List.length_append, L0, L1]; exact Nat.not_lt.mp fun h => z (.inl h), Nat.not_lt.mp fun h => z (.inr h)⟩
    have n0' : 30 < s0 + s1 ∨ 12 < (allN (ra ++ rb)).length → ¬ RowsOk (ra ++ rb) := fun z rok => by
      obtain ⟨h1, h2⟩ := (joinOk fun r hr => (List.mem_append.mp hr).elim (j0 r) (j1 r)).mp rok
      rw [List.length_append, L0, L1] at h1
      omega
    have n1_ : ¬ (30 < s0 * s1 ∨ (0 < s0 ∧ 0 < s1 ∧ 12 < (allN (ra ++ rb)).length)) → RowsOk (unions ra rb) := fun z =>
      (crossOk j0 j1).mpr ⟨by rw [L0, L1]; exact Nat.not_lt.mp fun h => z (.inl h), fun h1 h2 => Nat.not_lt.mp fun h => z (.inr ⟨L0 ▸ h1, L1 ▸ h2, h⟩)⟩
    have n1_' : 30 < s0 * s1 ∨ (0 < s0 ∧ 0 < s1 ∧ 12 < (allN (ra ++ rb)).length) → ¬ RowsOk (unions ra rb) := fun z rok => by
      obtain ⟨h1, h2⟩ := (crossOk j0 j1).mp rok
      rw [L0, L1] at h1
      rcases z with z | ⟨z1, z2, z3⟩
      · omega
      · have := h2 (by omega) (by omega)
        omega
    have eFo0 : (upd H6 Fo (.lst [])) Fo = some (.lst ((([due0, due1] : List Str).take 0).map V.str)) := upd_same
    refine ⟨_, rfl, by omega, by omega, for_range (lo := 0) (fun i σ H7 => Gr H6 H7 ∧ H7 Fo = some (.lst ((([due0, due1] : List Str).take i).map V.str)) ∧ ∃ v9 v10, σ = [some (.ref a), some (.ref c), some (.ref b1), some (.ref b2), some (.ref m), v5', some (.bl wd), some (.ref Du), some (.ref Fo), v9, v10, none]) ⟨Gr.new nFo, eFo0, none, none, rfl⟩ (fun i σ H8 hi h => ?_) (fun σ H8 h => ?_)⟩
    · obtain ⟨g8, eF, v9, v10, rfl⟩ := h
      have W8 := W6.gr g8
      obtain ⟨t1, A1, T1, n1⟩ := W8.one.ex
      obtain ⟨t2, A2, T2, n2⟩ := W8.two.ex
      have i01 : i = 0 ∨ i = 1 := by
        have : i < 2 := hi
        omega
      rcases i01 with rfl | rfl
      · refine ⟨_, rfl, rfl, _, rfl, iteT ⟨_, rfl, b1, d1, t1, _, rfl, A1, _, rfl, b1, d1, t1, _, b2, d2, t2, _, rfl, A1, T1, A2, T2, hN.gr W8.g, ?_⟩⟩
        rw [rws_numd n1, rws_numd n2]
        by_cases rok : RowsOk (ra ++ rb)
        · refine .inl ⟨rok, fun b' d' H9 tb' g9 NB => ?_⟩
          obtain ⟨dx, eb⟩ := NB.bk.ob
          have ed : due0 = "" := if_neg fun z => n0' z rok
          have eF9 := g9.lst eF
          refine ⟨_, rfl, .inl ⟨rfl, _, .inl (.inl eF9)⟩, _, rfl, _, _, _, _, true, rfl, .own _, .base (.ins eb G.bc.cl G.isB.ha G.isB.hn G.isB.htk G.isB.hm), G.isB.kt, _, rfl, iteT ?_⟩
          refine ⟨Fo, _, _, rfl, rfl, eF9, small1000 (by rw [List.length_map, List.length_take]; show min _ 2 ≤ 1000; omega), (g8.trans g9).mut nFo, ?_, _, _, rfl⟩
          rw [upd_same, ← ed]
          rfl
        · refine .inr ⟨rok, fun H9 g9 => ⟨true, G.wd.et, fun z nz => ?_, fun z => nomatch z⟩⟩
          have ed : due0 = "many" := if_pos (Decidable.not_not.mp fun z => rok (n0 z))
          have eF9 := g9.lst eF
          refine fun nz => ⟨_, rfl, .inl ⟨rfl, _, .inl (.inl eF9)⟩, _, rfl, _, _, _, _, _, rfl, rfl, rfl, G.wd.t, fun H10 g10 => ?_⟩
          rw [w_t]
          refine ⟨Fo, _, _, rfl, rfl, g10.lst eF9, small1000 (by rw [List.length_map, List.length_take]; show min _ 2 ≤ 1000; omega), ((g8.trans g9).trans g10).mut nFo, ?_, _, _, rfl⟩
          rw [upd_same, ← ed]
          rfl
      · refine ⟨_, rfl, rfl, _, rfl, iteF ⟨_, rfl, b1, d1, t1, _, rfl, A1, _, rfl, b1, d1, t1, _, b2, d2, t2, _, rfl, A1, T1, A2, T2, hN.gr W8.g, ?_⟩⟩
        rw [rws_numd n1, rws_numd n2]
        by_cases rok : RowsOk (unions ra rb)
        · refine .inl ⟨rok, fun b' d' H9 tb' g9 NB => ?_⟩
          obtain ⟨dx, eb⟩ := NB.bk.ob
          have ed : due1 = "" := if_neg fun z => n1_' z rok
          have eF9 := g9.lst eF
          refine ⟨_, rfl, .inl ⟨rfl, _, .inl (.inl eF9)⟩, _, rfl, _, _, _, _, true, rfl, .own _, .base (.ins eb G.bc.cl G.isB.ha G.isB.hn G.isB.htk G.isB.hm), G.isB.kt, _, rfl, iteT ?_⟩
          refine ⟨Fo, _, _, rfl, rfl, eF9, small1000 (by rw [List.length_map, List.length_take]; show min _ 2 ≤ 1000; omega), (g8.trans g9).mut nFo, ?_, _, _, rfl⟩
          rw [upd_same, ← ed]
          rfl
        · refine .inr ⟨rok, fun H9 g9 => ⟨true, G.wd.et, fun z nz => ?_, fun z => nomatch z⟩⟩
          have ed : due1 = "many" := if_pos (Decidable.not_not.mp fun z => rok (n1_ z))
          have eF9 := g9.lst eF
          refine fun nz => ⟨_, rfl, .inl ⟨rfl, _, .inl (.inl eF9)⟩, _, rfl, _, _, _, _, _, rfl, rfl, rfl, G.wd.t, fun H10 g10 => ?_⟩
          rw [w_t]
          refine ⟨Fo, _, _, rfl, rfl, g10.lst eF9, small1000 (by rw [List.length_map, List.length_take]; show min _ 2 ≤ 1000; omega), ((g8.trans g9).trans g10).mut nFo, ?_, _, _, rfl⟩
          rw [upd_same, ← ed]
          rfl
    obtain ⟨g8, eF, v9, v10, rfl⟩ := h
    have eF : H8 Fo = some (.lst (([due0, due1] : List Str).map V.str)) := eF
    have eD8 : H8 Du = some (.lst (([due0, due1] : List Str).map V.str)) := g8.lst eD6
    have W8 := W6.gr g8
    have k0_ : due0 = "many" ∨ due0 = "" := (Decidable.em (30 < s0 + s1 ∨ 12 < (allN (ra ++ rb)).length)).elim (fun z => .inl (if_pos z)) (fun z => .inr (if_neg z))
    have k1_ : due1 = "many" ∨ due1 = "" := (Decidable.em (30 < s0 * s1 ∨ (0 < s0 ∧ 0 < s1 ∧ 12 < (allN (ra ++ rb)).length))).elim (fun z => .inl (if_pos z)) (fun z => .inr (if_neg z))
    refine ⟨_, rfl, _, rfl, _, _, dp_dS (.inl (.inl eF)), dp_dS (.inl (.inl eD8)), two_texts k0_ k1_, two_texts k0_ k1_, _, rfl, ?_⟩
    rw [eqv_dS, decide_eq_true rfl]
    obtain ⟨t1, A1, T1, n1⟩ := W8.one.ex
    obtain ⟨t2, A2, T2, n2⟩ := W8.two.ex
    have tl1 := nr_len_rows n1
    have tl2 := nr_len_rows n2
    refine iteF ⟨_, rfl, b1, d1, t1, _, rfl, A1, b1, d1, t1, _, rfl, A1, T1, fun p H9 rs g9 TP er => ?_⟩
    have rl : rs.length = s0 := by
      have h1 := congrArg List.length er
      unfold nr at h1
      rw [List.length_map, List.length_map] at h1
      omega
    have W9 := W8.gr g9
    refine ⟨p, _, rfl, .inl (.inl (.inl TP.at_)), _, rfl, a, _, _, _, rfl, rfl, .inl (.inl (W9.g.lst ha)), rfl, rfl, _, rfl, ?_⟩
    rw [List.length_map, rl, decide_eq_true rfl]
    refine iteF ⟨_, rfl, b2, d2, t2, _, rfl, A2.gr g9, b2, d2, t2, _, rfl, A2.gr g9, T2, fun p2 H10 rs2 g10 TP2 er2 => ?_⟩
    have rl2 : rs2.length = s1 := by
      have h1 := congrArg List.length er2
      unfold nr at h1
      rw [List.length_map, List.length_map] at h1
      omega
    have W10 := W9.gr g10
    refine ⟨p2, _, rfl, .inl (.inl (.inl TP2.at_)), _, rfl, a, _, _, _, rfl, rfl, .inl (.inl (W10.g.lst ha)), rfl, rfl, _, rfl, ?_⟩
    rw [List.length_map, rl2, decide_eq_true rfl]
    refine iteF ?_
    -- all rows of the other one are taken
    have E1 := (A1.gr g9).gr g10
    have E2 := (A2.gr g9).gr g10
    refine ⟨_, rfl, a, _, _, _, rfl, rfl, .inl (.inl (W10.g.lst ha)), rfl, _, rfl, by omega, by omega, for_range (lo := 0) (fun i σ H7 => Gr H H7 ∧ Bk C H7 b1 d1 t1 (ra.length : Nat) ∧ Bk C H7 b2 d2 (t2.filter fun e => decide ((i : Int) ≤ e.1)) (rb.length : Nat) ∧ Tok (t2.filter fun e => decide ((i : Int) ≤ e.1)) (rb.length : Nat) ∧ ∃ v, σ = [some (.ref a), some (.ref c), some (.ref b1), some (.ref b2), some (.ref m), v, some (.bl wd), some (.ref Du), some (.ref Fo), v9, v10, none])
      (by
        have e : (t2.filter fun e => decide (((0 : Nat) : Int) ≤ e.1)) = t2 := List.filter_eq_self.mpr fun e he => decide_eq_true (T2.bnd e he).1
        rw [e]
        exact ⟨W10.g, E1, E2, T2, v5', rfl⟩) (fun i σ H11 hi h => ?_) (fun σ H11 h => ?_)⟩
    · obtain ⟨gg, C1, C2, TT, v, rfl⟩ := h
      have hi : i < s1 := hi
      obtain ⟨x, hx, ex⟩ := num_in n2 (show i < rb.length by omega)
      refine ⟨_, rfl, b2, d2, _, _, rfl, C2, _, rfl, b2, d2, _, _, _, rfl, C2, TT, .inl ⟨_, rfl, List.mem_map.mpr ⟨x, List.mem_filter.mpr ⟨hx, decide_eq_true (by omega)⟩, by rw [ex, Int.zero_add]⟩, fun H12 g12 B12 => ?_⟩⟩
      have T12 := TT.take (0 + (i : Int))
      rw [filt_next] at B12 T12
      have nd2' : ∀ z, z = d2 → H z = none := fun z hz => by rw [hz]; exact W10.z4
      exact ⟨GrX.young gg g12 nd2', C2.off2 g12 (fun _ z => .inr z) C1 W10.nb.symm W10.nd.symm, B12, T12, _, rfl⟩
    obtain ⟨gg, C1, C2, TT, v, rfl⟩ := h
    have e : (t2.filter fun e => decide ((((s1 : Nat) : Int).toNat : Int) ≤ e.1)) = [] := List.filter_eq_nil_iff.mpr fun e he => by
      have := (T2.bnd e he).2
      rw [decide_eq_true_eq]
      omega
    rw [e] at C2 TT
    have r0 : RowsOk (ra ++ rws []) := (joinOk fun r hr => j0 r (by rw [show ra ++ rws [] = ra from List.append_nil _] at hr; exact hr)).mpr ⟨by rw [show ra ++ rws [] = ra from List.append_nil _, L0]; exact hs0, by rw [show ra ++ rws [] = ra from List.append_nil _, ← rws_numd n1]; exact T1.nms⟩
    have r1 : RowsOk (unions ra (rws [])) := (crossOk j0 (fun r hr => absurd hr List.not_mem_nil)).mpr ⟨Nat.zero_le _, fun _ h => absurd h (Nat.lt_irrefl _)⟩
    rw [← rws_numd n1] at r0 r1
    refine ⟨_, rfl, b1, d1, t1, _, rfl, C1, _, rfl, b1, d1, t1, _, b2, d2, [], _, rfl, C1, T1, C2, TT, hN.gr gg, .inl ⟨r0, fun b' d' H12 tb' g12 NB => ?_⟩⟩
    refine ⟨b', d', tb', _, rfl, NB.bk, b', d', tb', _, rfl, NB.bk, NB.ok, fun p3 H13 rs3 g13 TP3 er3 => ?_⟩
    have rl3 : rs3.length = s0 := by
      have h1 := congrArg List.length (er3.trans NB.rows)
      unfold numd at h1
      rw [List.length_map, List.length_mapIdx, List.length_map, List.length_append, rws_numd n1, L0] at h1
      exact h1
    have gg3 := (gg.trans g12).trans g13
    refine ⟨p3, _, rfl, .inl (.inl (.inl TP3.at_)), _, rfl, a, _, _, _, rfl, rfl, .inl (.inl (gg3.lst ha)), rfl, rfl, ?_⟩
    rw [List.length_map, rl3, decide_eq_true rfl]
    have D1 := (C1.gr g12).gr g13
    have D2 := (C2.gr g12).gr g13
    refine ⟨_, rfl, iteT ⟨_, rfl, b1, d1, t1, _, rfl, D1, _, rfl, b1, d1, t1, _, b2, d2, [], _, rfl, D1, T1, D2, TT, hN.gr gg3, .inl ⟨r1, fun b' d' H14 tb' g14 NB => ?_⟩⟩⟩
    refine ⟨b', d', tb', _, rfl, NB.bk, b', d', tb', _, rfl, NB.bk, NB.ok, fun p4 H15 rs4 g15 TP4 er4 => ?_⟩
    have rl4 : rs4 = [] := by
      have h1 := congrArg List.length (er4.trans NB.rows)
      unfold numd at h1
      rw [List.length_map, List.length_mapIdx, List.length_map, unions_len] at h1
      exact List.length_eq_zero_iff.mp h1
    subst rl4
    refine ⟨Nat.zero_le _, fun l nl => ⟨.list [], .list [], .lst (.inl (.inl ((Gr.new nl).lst TP4.at_))) .nil, .lst (.inl (.inl upd_same)) .nil, rfl, rfl, q _⟩⟩
end
end K1
end
section
set_option maxHeartbeats 8000000
namespace K1
open PySem PySem.Spec PyProof.Rows L2 Gr GxR Srx Skx Dcx
section
variable {P : Program} {w : World} {K : PySem.W.Frag} {mg : Str → Option Value} {base : Heap} {f C M : Addr} {fd : FuncData} {N : TabN} {R : ErN}
/-- [.. for x in xs], what is made is no new object -/
theorem lc_mapV {α : Type} {K : PySem.W.Frag} {a D : Addr} {j : Nat} {σ : L2.St} {vs : List Nat} {te : TE} {H1 : Hp} {Qd : Hp → Prop} {xs : List α} (g F : α → V)
    (hA : SqL K H1 a (xs.map g)) (few : xs.length < sizeLine) (hD : H1 D = none) (hw : ∀ v, wipe ((wipe σ vs).set j (some v)) vs = wipe σ vs)
    (he : ∀ x ∈ xs, ∀ (H4 : Hp) (Q' : VK), Gr H1 H4 → Q' (F x) H4 → te ((wipe σ vs).set j (some (g x))) H4 Q')
    (q : ∀ H2, Gr H1 H2 → H2 D = some (.lst (xs.map F)) → Qd H2) :
    ∃ W : Nat → Nat → Hp → Prop, (∃ m, W 0 m (upd H1 D (.lst []))) ∧ ∀ i m H, W i m H →
      ((Itl K a).stop i H ∧ Qd H) ∨ ((Itl K a).go i H ∧ ∃ Nx : Hp → Prop, (∀ H', Nx H' → ∃ m', m' < m ∧ W (i + 1) m' H') ∧ ∀ x H', (Itl K a).yld i H x H' → gName j x (wipe σ vs) H' fun σ2 H2 => wipe σ2 vs = wipe σ vs ∧ tYes σ2 H2 fun b H3 =>
        if b = true then te σ2 H3 fun y H4 => ∃ acc, H4 D = some (.lst acc) ∧ acc.length < sizeLine ∧ Nx (upd H4 D (.lst (acc ++ [y]))) else Nx H3) := by
  refine lc_list (xs := xs.map g) (Qd := Qd) (fun i H2 => Gr H1 H2 ∧ H2 D = some (.lst ((xs.take i).map F))) ⟨Gr.new hD, upd_same⟩ (fun i H2 _ h => h.1.seq hA) (fun i x H2 hx h => ?_) (fun H2 h => ?_)
  · obtain ⟨g2, e⟩ := h
    obtain ⟨q0, hq0, rfl⟩ := get_map hx
    have hi : i < xs.length := (List.getElem?_eq_some_iff.mp hq0).1
    refine ⟨hw _, yesIf (he q0 (List.mem_of_getElem? hq0) H2 _ g2 ⟨_, e, ?_, g2.mut hD, ?_⟩)⟩
    · rw [List.length_map, List.length_take]
      omega
    · rw [upd_same, take_map hq0]
  · obtain ⟨g2, e⟩ := h
    rw [List.length_map, List.take_length] at e
    exact q H2 g2 e
theorem cut12 : ∀ k : Nat, k < 13 → (Txt.slice ("abcdefghijkl" : Str) none (some (k : Int))).cps.toList = (List.range k).map (97 + ·) := by decide +kernel
theorem Due.gr {K : PySem.W.Frag} {H H' : Hp} {way many : Int} {v : V} {there : List Str} {t : Str} (g : Gr H H') (h : Due K H way v there many t) : Due K H' way v there many t := by
  rcases h with ⟨h, hv, e⟩ | ⟨h, xs, hx, lx, e⟩ | ⟨h, hx, e⟩ | ⟨h, hx, e⟩
  · exact .inl ⟨h, hv.gr g, e⟩
  · exact .inr (.inl ⟨h, xs, hx.gr g, lx, e⟩)
  · exact .inr (.inr (.inl ⟨h, hx.gr g, e⟩))
  · exact .inr (.inr (.inr ⟨h, hx.gr g, e⟩))
structure EnvL (P : Program) (w : World) (K : PySem.W.Frag) (mg : Str → Option Value) (base : Heap) (C M : Addr) (N : TabN) (R : ErN) : Prop where
  b : EnvB P w K mg base C M N R
  draw : Calls P w K mg base CX0 1 "_law_draw" (spDraw K)
  list : Calls P w K mg base CX0 2 "_law_list" (spLList K)
  odd : Calls P w K mg base CX0 1 "_law_odd" (spOdd K)
  due : Calls P w K mg base CX0 2 "_law_due" (spLDue K)
  call : Calls P w K mg base CX0 8 "_law_call" (spLCall K C N)
  both : Calls P w K mg base CX0 8 "_law_both" (spBoth K N)
abbrev nLaw12 : List Str := ["_law_script", "_law_names", "_law_many", "_law_book", "_law_k", "_law_gone", "_law_before", "_law_there", "_law_name", "_law_pair", "_law_way", "_law_thing", "_law_due_here", "_law_found", "_law_kinds"]
theorem scLaw12 : FnScope nLaw12 ["_law_script"] (defScope s_law_x) := ⟨rfl, rfl, rfl, by decide +kernel, rfl, by decide +kernel, by decide +kernel⟩
theorem ok_law12 (F : FnP K "law" s_law_x f fd) (G : EnvL P w K mg base C M N R) (gM1 : ∃ t, mg "MOST_ROWS_books" = some (.int 30 t)) (gM2 : ∃ t, mg "MOST_NAMES_books" = some (.int 12 t)) (g_len : mg "len" = none) (g_list : mg "list" = none) (g_range : mg "range" = none) (g_int : mg "int" = none) : FnOk P w K mg base CX0 9 f fd ["_law_script"] (spLawG K N) := by
  obtain ⟨t30, g30⟩ := gM1
  obtain ⟨t12, g12⟩ := gM2
  refine F.ok scLaw12 (fun vs H Q E h => ?_) (fun cdv A outer s H vs Q E hr h => ?_)
  · obtain ⟨a, ns, rfl, _⟩ := h
    rfl
  · obtain ⟨a, ns, rfl, hA, hN, q⟩ := h
    refine ⟨_, PSs.nox (pss_cons (ps_set (i := 1) scLaw12.nd rfl (.inl rfl) (pe_callTy (call_listTx rfl) (by rfl) g_list boot_list (pa_cons (pe_slice C8.sl_txt pe_str po_none (po_some (pe_op op_add pe_int (pe_op op_mod (pe_k G.draw hr (by decide) (by rfl) (pa_cons (pv 0) (pa_cons pe_int pa_nil))) pe_int)))) pa_nil))) (C8.pss_cut (ps_set (i := 2) scLaw12.nd rfl (.inl rfl) (pe_ix ix_list (pe_lst (pa_cons (pe_op op_mod (pe_k G.draw hr (by decide) (by rfl) (pa_cons (pv 0) (pa_cons pe_int pa_nil))) pe_int) (pa_cons (pe_op op_add pe_int (pe_op op_mod (pe_op op_fdiv (pe_k G.draw hr (by decide) (by rfl) (pa_cons (pv 0) (pa_cons pe_int pa_nil))) pe_int) pe_int)) pa_nil))) (pe_op op_mod (pe_k G.draw hr (by decide) (by rfl) (pa_cons (pv 0) (pa_cons pe_int pa_nil))) pe_int) (fun _ _ => rfl))) (pss_cons (ps_set (i := 3) scLaw12.nd rfl (.inr rfl) (pe_new G.b.mkr G.b.bc hr (by decide) (by rfl))) (pss_cons (ps_for PassesOwn.never rfl (pi_range1 (by rfl) g_range (pa_cons (pv 2) pa_nil)) (pg_name (i := 4) scLaw12.nd rfl (.inl rfl)) (pss_one (ps_expr (pe_m G.b.put G.b.bc.cl hr (by decide) paL (pv 3) (pa_cons (pe_lst (pa_cons (pe_ix ix_list (pv 1) (pe_op op_mod (pv 4) (pe_callB call_len_seq (by rfl) g_len boot_len (pa_cons (pv 1) pa_nil))) (fun _ _ => rfl)) pa_nil)) pa_nil))))) (pss_cons (ps_set (i := 5) scLaw12.nd rfl (.inl rfl) (pe_op op_mul (pe_op op_mod (pe_k G.draw hr (by decide) (by rfl) (pa_cons (pv 0) (pa_cons pe_int pa_nil))) pe_int) (pe_callTy call_int1 (by rfl) g_int (by decide +kernel) (pa_cons (pe_cmpR op_gt (pv 2) pe_int (nomark _)) pa_nil)))) (pss_cons (ps_for PassesOwn.never rfl (pi_range1 (by rfl) g_range (pa_cons (pv 5) pa_nil)) (pg_name (i := 4) scLaw12.nd rfl (.inl rfl)) (pss_one (ps_expr (pe_m G.b.take G.b.bc.cl hr (by decide) paL (pv 3) (pa_cons (pv 4) pa_nil))))) (pss_cons (ps_set (i := 2) scLaw12.nd rfl (.inl rfl) (pe_op op_sub (pv 2) (pv 5))) (pss_cons (ps_set (i := 6) scLaw12.nd rfl (.inr rfl) (pe_m0 G.b.rows G.b.bc.cl hr (by decide) pa0 (pv 3))) (pss_cons (ps_setLc (i := 7) (own := [("_law_name", 8)]) (g := gName 8) rfl scLaw12.nd rfl rfl (sw_true rfl rfl rfl (by decide +kernel)) (pi_list (pv 1)) (blkOk_by (N := nLaw12) (sc := defScope s_law_x) (by decide +kernel)) (fun _ _ _ _ _ => (pg_name (i := 8) scLaw12.nd rfl (.inl rfl))) (fun _ _ _ _ _ => pts_one (pt_cmpR (r := rIn K false) op_in_seq (pv 8) (pe_lc (own := [("_law_pair", 9)]) (g := gName 9) (tt := tYes) (wi := iList K (tVar 6)) rfl scLaw12.nd (pi_list (pv 6)) (blkOk_by (N := nLaw12) (sc := relS _ (defScope s_law_x)) (by decide +kernel)) (fun _ _ _ _ _ => (pg_name (i := 9) scLaw12.nd rfl (.inl rfl))) (fun _ _ _ _ _ => pts_nil) (fun _ _ _ _ _ => (pe_ix (r := rIxL K) ix_list (pe_ix (r := rIxT K) ix_tup (pv 9) pe_int (fun _ _ => rfl)) pe_int (fun _ _ => rfl)))) rfl)) (fun _ _ _ _ _ => (pv 8))) (pss_cons (ps_set (i := 10) scLaw12.nd rfl (.inl rfl) (pe_op op_mod (pe_k G.draw hr (by decide) (by rfl) (pa_cons (pv 0) (pa_cons pe_int pa_nil))) pe_int)) (C8.pss_cut (ps_set (i := 11) scLaw12.nd rfl (.inl rfl) (pe_k G.list hr (by decide) (by rfl) (pa_cons (pe_k G.draw hr (by decide) (by rfl) (pa_cons (pv 0) (pa_cons pe_int pa_nil))) (pa_cons (pv 1) pa_nil)))) (C8.pss_cut (ps_if (pt_cmpR op_gt (pv 10) pe_int (nomark _)) (pss_one (ps_set (i := 11) scLaw12.nd rfl (.inl rfl) (pe_ix ix_list (pe_lst (pa_cons (pe_ix ix_list (pv 1) pe_int (fun _ _ => rfl)) (pa_cons (pe_k G.odd hr (by decide) (by rfl) (pa_cons (pe_k G.draw hr (by decide) (by rfl) (pa_cons (pv 0) (pa_cons pe_int pa_nil))) pa_nil)) (pa_cons pe_str pa_nil)))) (pe_op op_mod (pe_op op_fdiv (pe_k G.draw hr (by decide) (by rfl) (pa_cons (pv 0) (pa_cons pe_int pa_nil))) pe_int) pe_int) (fun _ _ => rfl)))) (pss_nil)) (pss_cons (ps_set (i := 12) scLaw12.nd rfl (.inl rfl) (pe_k G.due hr (by decide) (by rfl) (pa_cons (pv 10) (pa_cons (pv 11) (pa_cons (pv 7) (pa_cons (pv 2) pa_nil)))))) (C8.pss_cut (ps_set (i := 13) scLaw12.nd rfl (.inl rfl) (pe_k G.call hr (by decide) (by rfl) (pa_cons (pv 3) (pa_cons (pv 10) (pa_cons (pv 11) pa_nil))))) (C8.pss_cut (ps_if (PW.pt (pw_and (pt_cmpR op_in_seq (pv 10) (pe_tup (pa_cons pe_int (pa_cons pe_int pa_nil))) rfl) (pw_and1 (pt_cmpR op_eq (pv 12) pe_str (nomark _))))) (pss_cons (ps_set (i := 14) scLaw12.nd rfl (.inl rfl) (pe_lst (pa_cons (pe_op op_add pe_int (pe_op op_mod (pe_op op_fdiv (pe_k G.draw hr (by decide) (by rfl) (pa_cons (pv 0) (pa_cons pe_int pa_nil))) pe_int) pe_int)) (pa_cons (pe_op op_add pe_int (pe_op op_mod (pe_op op_fdiv (pe_k G.draw hr (by decide) (by rfl) (pa_cons (pv 0) (pa_cons pe_int pa_nil))) pe_int) pe_int)) pa_nil)))) (pss_one (ps_ret (pe_k G.both hr (by decide) (by rfl) (pa_cons (pe_lst (pa_cons (pe_op op_mod (pe_k G.draw hr (by decide) (by rfl) (pa_cons (pv 0) (pa_cons pe_int pa_nil))) pe_int) (pa_cons (pe_op op_mod (pe_k G.draw hr (by decide) (by rfl) (pa_cons (pv 0) (pa_cons pe_int pa_nil))) pe_int) pa_nil))) (pa_cons (pv 14) pa_nil)))))) (pss_nil)) (C8.pss_cut (ps_if (PW.pt (pw_or (pt_cmpR op_ne (pv 13) (pv 12) (nomark _)) (pw_or (pt_cmpR op_ne (pe_glob (v := .int 30) (by rfl) g30 ⟨_, rfl⟩) pe_int (nomark _)) (pw_or1 (pt_cmpR op_ne (pe_glob (v := .int 12) (by rfl) g12 ⟨_, rfl⟩) pe_int (nomark _)))))) (pss_one (ps_ret pe_bl)) (pss_nil)) (C8.pss_cut (ps_if (pt_cmpR op_eq (pv 12) pe_str (nomark _)) (pss_one (ps_ret pe_bl)) (pss_nil)) (pss_cons (ps_if (PW.pt (pw_or (pt_cmpR (op_neD (hu64 hr)) (pe_m0 G.b.rows G.b.bc.cl hr (by decide) pa0 (pv 3)) (pv 6) (nomark _)) (pw_or1 (pt_cmpR op_ne (pe_k G.call hr (by decide) (by rfl) (pa_cons (pv 3) (pa_cons (pv 10) (pa_cons (pv 11) pa_nil)))) (pv 12) (nomark _))))) (pss_one (ps_ret pe_bl)) (pss_nil)) (C8.pss_cut (ps_if (pt_cmpR op_eq (pv 12) pe_str (nomark _)) (pss_cons (ps_expr (pe_m G.b.take G.b.bc.cl hr (by decide) paL (pv 3) (pa_cons (pv 5) pa_nil))) (pss_cons (ps_setLc (i := 7) (own := [("_law_name", 8)]) (g := gName 8) rfl scLaw12.nd rfl rfl (sw_true rfl rfl rfl (by decide +kernel)) (pi_list (pv 1)) (blkOk_by (N := nLaw12) (sc := defScope s_law_x) (by decide +kernel)) (fun _ _ _ _ _ => (pg_name (i := 8) scLaw12.nd rfl (.inl rfl))) (fun _ _ _ _ _ => pts_one (pt_cmpR (r := rIn K false) op_in_seq (pv 8) (pe_lc (own := [("_law_pair", 9)]) (g := gName 9) (tt := tYes) rfl scLaw12.nd (pi_listK (K := K) rfl (pe_m0 G.b.rows G.b.bc.cl hr (by decide) pa0 (pv 3))) (blkOk_by (N := nLaw12) (sc := relS _ (defScope s_law_x)) (by decide +kernel)) (fun _ _ _ _ _ => (pg_name (i := 9) scLaw12.nd rfl (.inl rfl))) (fun _ _ _ _ _ => pts_nil) (fun _ _ _ _ _ => (pe_ix (r := rIxL K) ix_list (pe_ix (r := rIxT K) ix_tup (pv 9) pe_int (fun _ _ => rfl)) pe_int (fun _ _ => rfl)))) rfl)) (fun _ _ _ _ _ => (pv 8))) (pss_one (ps_ret (pe_cmpR op_eq (pe_k G.call hr (by decide) (by rfl) (pa_cons (pv 3) (pa_cons (pv 10) (pa_cons (pv 11) pa_nil)))) (pe_k G.due hr (by decide) (by rfl) (pa_cons (pv 10) (pa_cons (pv 11) (pa_cons (pv 7) (pa_cons (pe_op op_sub (pv 2) pe_int) pa_nil))))) (nomark _)))))) (pss_nil)) (pss_one (ps_ret (pe_or (pe_cmpR op_eq (pv 2) pe_int (nomark _)) (pe_one (pe_cmpR op_eq (pe_m G.b.put G.b.bc.cl hr (by decide) paL (pv 3) (pa_cons (pe_lst (pa_cons (pe_ix ix_list (pv 1) pe_int (fun _ _ => rfl)) pa_nil)) pa_nil)) (pe_op op_add (pv 2) (pv 5)) (nomark _))))))))))))))))))))))))), ?_⟩
    have one : 1 ≤ sizeLine := by rw [sizeLine_eq]; omega
    have hb : 100 ≤ sizeLine := by rw [sizeLine_eq]; omega
    obtain ⟨nk, hnk, nk1, nk12⟩ : ∃ nk : Nat, (1 + ns.getD 0 0 % 12 : Int) = (nk : Int) ∧ 1 ≤ nk ∧ nk ≤ 12 := by
      refine ⟨(1 + ns.getD 0 0 % 12).toNat, ?_, ?_, ?_⟩ <;> omega
    refine ⟨_, rfl, a, ns, 0, rfl, hA, _, _, rfl, rfl, (by show (0 : Int) < 12; decide), _, _, rfl, rfl, _, rfl, _, rfl, (by decide +kernel), _, rfl, ?_, fun Nm nNm => ?_⟩
    · show (Txt.slice ("abcdefghijkl" : Str) none (some (1 + ns.getD 0 0 % 12))).length ≤ sizeLine
      rw [hnk]
      have := congrArg List.length (cut12 nk (by omega))
      rw [Array.length_toList, List.length_map, List.length_range] at this
      show (Txt.slice ("abcdefghijkl" : Str) none (some (nk : Int))).cps.size ≤ sizeLine
      omega
    have enm : ((Txt.slice ("abcdefghijkl" : Str) none (some (1 + ns.getD 0 0 % 12))).cps.toList.map fun c => V.str ⟨#[c]⟩) = ((List.range nk).map lettr).map V.str := by
      rw [hnk, cut12 nk (by omega), List.map_map, List.map_map]
      rfl
    have g1 : Gr H (upd H Nm (.lst (((List.range nk).map lettr).map V.str))) := Gr.new nNm
    have eN1 : (upd H Nm (.lst (((List.range nk).map lettr).map V.str))) Nm = some (.lst (((List.range nk).map lettr).map V.str)) := upd_same
    rw [show (upd H Nm (.lst ((Txt.slice ("abcdefghijkl" : Str) none (some (1 + ns.getD 0 0 % 12))).cps.toList.map fun c => V.str ⟨#[c]⟩))) = upd H Nm (.lst (((List.range nk).map lettr).map V.str)) by rw [enm]]
    generalize upd H Nm (.lst (((List.range nk).map lettr).map V.str)) = H1 at g1 eN1
    generalize hnms : (List.range nk).map lettr = nms at eN1
    have nmsL : nms.length = nk := by rw [← hnms, List.length_map, List.length_range]
    have nmsAt : ∀ j : Nat, j < nk → nms[j]? = some (lettr j) := fun j hj => by rw [← hnms, List.getElem?_map, List.getElem?_range hj]; rfl
    have nmsN : Nms nms := fun y hy => by
      rw [← hnms] at hy
      obtain ⟨j, hj, rfl⟩ := List.mem_map.mp hy
      exact lettr_nm (by have := List.mem_range.mp hj; omega)
    -- how many rows
    refine ⟨fun σ' H' => ∃ mn : Nat, mn ≤ 30 ∧ Gr H1 H' ∧ σ' = [some (.ref a), some (.ref Nm), some (.int (mn : Nat)), none, none, none, none, none, none, none, none, none, none, none, none], ?_, fun σ' H2 hm => ?_⟩
    · have hA1 := g1.seq hA
      refine ⟨_, rfl, a, ns, 1, rfl, hA1, _, _, rfl, rfl, (by show (0 : Int) < 4; decide), _, rfl, a, ns, 1, rfl, hA1, _, _, rfl, rfl, ⟨by decide, by decide⟩, _, _, rfl, rfl, (by show (0 : Int) < 4; decide), _, _, rfl, rfl, (by show 2 ≤ sizeLine; omega), fun l nl => ?_⟩
      have gl : Gr H1 (upd H1 l (.lst [.int (ns.getD 1 0 % 4), .int (27 + ns.getD 1 0 / 2 % 4)])) := Gr.new nl
      obtain ⟨v, hv, mv⟩ := atI_mod (xs := [V.int (ns.getD 1 0 % 4), .int (27 + ns.getD 1 0 / 2 % 4)]) (c := ns.getD 1 0) (n := 2) rfl (by omega)
      refine ⟨_, rfl, a, ns, 1, rfl, gl.seq hA1, _, _, rfl, rfl, (by show (0 : Int) < 2; decide), l, _, _, v, rfl, rfl, .inl (.inl upd_same), hv, ?_⟩
      simp only [List.mem_cons, List.not_mem_nil, or_false] at mv
      have fin : ∃ mn : Nat, mn ≤ 30 ∧ v = .int (mn : Nat) := by
        rcases mv with rfl | rfl
        · exact ⟨(ns.getD 1 0 % 4).toNat, by omega, by congr 1; omega⟩
        · exact ⟨(27 + ns.getD 1 0 / 2 % 4).toNat, by omega, by congr 1; omega⟩
      obtain ⟨mn, hmn, rfl⟩ := fin
      exact ⟨mn, hmn, gl, rfl⟩
    obtain ⟨mn, hmn, g2, rfl⟩ := hm
    have g02 := g1.trans g2
    have eN2 := g2.lst eN1
    intro b d H3 g3 nb nd B0
    -- the rows are put
    refine ⟨_, rfl, _, rfl, by omega, by omega, for_range (lo := 0) (fun i σ H4 => Gr H2 H4 ∧ BkN C H4 b d (rlet (roun 0 nk i)) ∧ ∃ v, σ = [some (.ref a), some (.ref Nm), some (.int (mn : Nat)), some (.ref b), v, none, none, none, none, none, none, none, none, none, none]) ⟨g3, ⟨[], B0, Tok.nil, rfl⟩, none, rfl⟩ (fun i σ H4 hi h => ?_) (fun σ H4 h => ?_)⟩
    · obtain ⟨g4, BN, v, rfl⟩ := h
      obtain ⟨tb, B, T, en⟩ := BN.ex
      have tl := nr_len_rows en
      rw [rlet_len, roun_len] at tl
      have hi : i < mn := hi
      have lt : i % nk < nk := Nat.mod_lt i (by omega)
      have ek : (0 + (i : Int)) % (nk : Int) = ((i % nk : Nat) : Int) := by rw [Int.zero_add]; rfl
      refine ⟨_, rfl, b, d, tb, _, rfl, B, _, rfl, _, rfl, _, rfl, Nm, _, rfl, .inl (.inl (.inl (g4.lst eN2))), _, _, rfl, rfl, ?_, Nm, _, _, _, rfl, rfl, .inl (.inl (g4.lst eN2)), (?_ : atI (nms.map V.str) _ = some (V.str (lettr (0 + i % nk)))), one, fun l nl => ?_⟩
      · rw [List.length_map, nmsL]; omega
      · rw [List.length_map, nmsL, ek, Nat.zero_add]
        exact atI_nat (by rw [List.getElem?_map, nmsAt _ lt]; rfl)
      have g5 : Gr H4 (upd H4 l (.lst [V.str (lettr (0 + i % nk))])) := Gr.new nl
      have e5 : (upd H4 l (.lst [V.str (lettr (0 + i % nk))])) l = some (.lst (([lettr (0 + i % nk)] : List Str).map V.str)) := upd_same
      generalize upd H4 l (.lst [V.str (lettr (0 + i % nk))]) = H5 at g5 e5
      have nm1 : isNm (lettr (0 + i % nk)) = true := lettr_nm (by omega)
      have wd : (allN (rws tb ++ [[lettr (0 + i % nk)]])).length ≤ 12 := wide12 0 fun r hr => by
        rcases List.mem_append.mp hr with hr | hr
        · rw [rws_numd en] at hr
          obtain ⟨j, hj, rfl⟩ := rlet_mem hr
          obtain ⟨t, ht, rfl⟩ := roun_lt nk1 nk12 hj
          exact ⟨t, ht, rfl⟩
        · exact ⟨i % nk, by omega, List.mem_singleton.mp hr⟩
      refine ⟨b, d, tb, _, _, rfl, B.gr g5, T, hN.gr ((g02.trans g4).trans g5), .inl ⟨[lettr (0 + i % nk)], ⟨l, rfl, e5, fun y hy => by rw [List.mem_singleton.mp hy]; exact nm1, (by show 1 ≤ 1000; decide)⟩, (by show 1 ≤ 100; decide), (ris_one1 _).nodup, by omega, wd, fun p H6 g6 np B6 => ?_⟩⟩
      refine ⟨GrX.young (g4.trans g5) g6 (fun z hz => hz.elim (fun e => e ▸ nb) fun e => e ▸ nd), ?_, _, rfl⟩
      rw [roun_succ, rlet_app]
      exact BkN.put T en nm1 (by omega) wd B6
    obtain ⟨g4, BN, v, rfl⟩ := h
    have BN : BkN C H4 b d (rlet (roun 0 nk mn)) := BN
    obtain ⟨tb0, B, T, en⟩ := BN.ex
    have rl0 : (rlet (roun 0 nk mn)).length = mn := by rw [rlet_len, roun_len]
    have rows0 : ∀ r ∈ rws tb0, ∃ j, j < nk ∧ r = [lettr j] := fun r hr => by
      rw [rws_numd en] at hr
      obtain ⟨j, hj, rfl⟩ := rlet_mem hr
      obtain ⟨t, _, rfl⟩ := List.mem_map.mp hj
      exact ⟨_, (by show 0 + t % nk < nk; have := Nat.mod_lt t (show 0 < nk by omega); omega), rfl⟩
    have num0 : ∀ i : Nat, i < mn → ∃ x ∈ tb0, x.1 = (i : Int) := fun i hi => num_in en (by rw [rl0]; exact hi)
    have len0 : ∀ g : Nat, (tb0.filter fun e => decide ((g : Int) ≤ e.1)).length = mn - g := fun g => by rw [num_filt en, rl0]
    rw [rl0] at B T
    clear en BN
    have g04 := g02.trans g4
    have eN4 := g4.lst eN2
    -- some are taken
    obtain ⟨gn, hgn, gn3, gnm⟩ : ∃ gn : Nat, ns.getD 6 0 % 4 * (if decide ((3 : Int) < (mn : Nat)) = true then 1 else 0) = (gn : Int) ∧ gn ≤ 3 ∧ gn ≤ mn := by
      by_cases h3 : (3 : Int) < (mn : Nat)
      · rw [if_pos (decide_eq_true h3)]
        exact ⟨(ns.getD 6 0 % 4).toNat, by omega, by omega, by omega⟩
      · rw [if_neg (by rw [decide_eq_false h3]; exact Bool.false_ne_true)]
        exact ⟨0, by omega, by omega, by omega⟩
    refine ⟨_, rfl, a, ns, 6, rfl, g04.seq hA, _, _, rfl, rfl, (by show (0 : Int) < 4; decide), _, rfl, _, _, rfl, rfl, .inr ⟨_, rfl, _, _, rfl, rfl, ?_, ?_⟩⟩
    · refine .inr ?_
      split <;> decide
    show gName 5 (V.int (ns.getD 6 0 % 4 * (if decide ((3 : Int) < (mn : Nat)) = true then 1 else 0))) _ _ _
    rw [hgn]
    refine ⟨_, rfl, _, rfl, by omega, by omega, for_range (lo := 0) (fun i σ H7 => Gr H2 H7 ∧ Bk C H7 b d (tb0.filter fun e => decide ((i : Int) ≤ e.1)) (mn : Nat) ∧ Tok (tb0.filter fun e => decide ((i : Int) ≤ e.1)) (mn : Nat) ∧ ∃ v, σ = [some (.ref a), some (.ref Nm), some (.int (mn : Nat)), some (.ref b), v, some (.int (gn : Nat)), none, none, none, none, none, none, none, none, none])
      (by
        have e : (tb0.filter fun e => decide (((0 : Nat) : Int) ≤ e.1)) = tb0 := List.filter_eq_self.mpr fun e he => decide_eq_true (T.bnd e he).1
        rw [e]
        exact ⟨g4, B, T, v, rfl⟩) (fun i σ H11 hi h => ?_) (fun σ H11 h => ?_)⟩
    · obtain ⟨gg, C2, TT, v, rfl⟩ := h
      have hi : i < gn := hi
      obtain ⟨x, hx, ex⟩ := num0 i (by omega)
      refine ⟨_, rfl, b, d, _, _, rfl, C2, _, rfl, b, d, _, _, _, rfl, C2, TT, .inl ⟨_, rfl, List.mem_map.mpr ⟨x, List.mem_filter.mpr ⟨hx, decide_eq_true (by omega)⟩, by rw [ex, Int.zero_add]⟩, fun H12 g12 B12 => ?_⟩⟩
      have T12 := TT.take (0 + (i : Int))
      rw [filt_next] at B12 T12
      exact ⟨GrX.young gg g12 fun z hz => hz ▸ nd, B12, T12, _, rfl⟩
    obtain ⟨g5, B5, T5, v5, rfl⟩ := h
    have len5 := len0 gn
    have rows5 : ∀ r ∈ rws (tb0.filter fun e => decide ((gn : Int) ≤ e.1)), ∃ j, j < nk ∧ r = [lettr j] := fun r hr => rows0 r (rws_filt hr)
    have first5 : gn < mn → ∃ x ∈ (tb0.filter fun e => decide ((gn : Int) ≤ e.1)), x.1 = (gn : Int) := fun h => by
      obtain ⟨x, hx, ex⟩ := num0 gn h
      exact ⟨x, List.mem_filter.mpr ⟨hx, decide_eq_true (Int.le_of_eq ex.symm)⟩, ex⟩
    have B5 : Bk C H11 b d (tb0.filter fun e => decide ((gn : Int) ≤ e.1)) (mn : Nat) := B5
    have T5 : Tok (tb0.filter fun e => decide ((gn : Int) ≤ e.1)) (mn : Nat) := T5
    generalize (tb0.filter fun e => decide ((gn : Int) ≤ e.1)) = tb at B5 T5 len5 rows5 first5
    have S5 : St12 C H11 b d tb (mn : Nat) nk := ⟨B5, T5, rows5⟩
    clear num0 len0 rows0
    have g05 := g02.trans g5
    have eN5 := g5.lst eN2
    -- rows as they are
    refine ⟨_, rfl, _, rfl, _, _, rfl, rfl, ?_⟩
    show gName 2 (V.int ((mn : Int) - (gn : Int))) _ _ _
    have sub5 : (mn : Int) - (gn : Int) = ((tb.length : Nat) : Int) := by
      clear first5
      omega
    rw [sub5]
    refine ⟨_, rfl, b, d, tb, _, rfl, B5, b, d, tb, _, rfl, B5, T5, fun Be H6 rs g6 TP er => ?_⟩
    have DP := TP.due
    have eN6 := g6.lst eN5
    have S6 := S5.gr g6
    -- the names that are there
    have one_letter : ∀ {tb : Tb1} {rs : List Pr1}, (∀ r ∈ rws tb, ∃ j, j < nk ∧ r = [lettr j]) → rs.map (fun r => (r.k, r.r)) = nr tb → ∀ r ∈ rs, ∃ j, r.r = [lettr j] := fun {tb rs} hr er r hrs => by
      have h1 : (r.k, r.r) ∈ nr tb := by rw [← er]; exact List.mem_map.mpr ⟨r, hrs, rfl⟩
      obtain ⟨e, he, z⟩ := List.mem_map.mp h1
      have z2 : e.2.2 = r.r := congrArg Prod.snd z
      obtain ⟨j, _, ej⟩ := hr e.2.2 (List.mem_map.mpr ⟨e, he, rfl⟩)
      exact ⟨j, z2 ▸ ej⟩
    have rsl : rs.length = tb.length := by
      have h1 := congrArg List.length er
      unfold nr at h1
      rw [List.length_map, List.length_map] at h1
      exact h1
    have few6 := T5.few
    have ol6 := one_letter rows5 er
    refine ⟨_, rfl, Nm, rfl, ⟨_, .inl (.inl eN6)⟩, fun Th nTh => lc_filtT (fun y => decide (y ∈ (rws tb).map fun r => r.headD "")) (.inl (.inl eN6)) (small1000 (by omega)) nTh (fun _ => rfl) (fun _ => rfl) (fun y hy H8 Qb g8 hq => ?_) (fun H7 g7 eT7 => ?_)⟩
    · have DP8 := DP.gr g8
      refine ⟨_, rfl, _, rfl, Be, rfl, ⟨_, .inl (.inl DP8.at_)⟩, fun D2 nD2 => lc_mapV (fun r : Pr1 => V.ref r.t) (fun r => V.str (r.r.headD "")) (.inl (.inl DP8.at_)) (small1000 (by omega)) nD2 (fun _ => rfl) (fun r hr H9 Q' g9 hq2 => ?_) (fun H10 g10 e10 => ?_)⟩
      · obtain ⟨h1, h2⟩ := DP8.own r hr
        obtain ⟨j, ej⟩ := ol6 r hr
        refine ⟨_, rfl, r.t, _, _, _, rfl, rfl, .inl (.inl (g9.tup h1)), rfl, r.l, _, _, _, rfl, rfl, .inl (.inl (g9.lst h2)), ?_, hq2⟩
        rw [ej]
        rfl
      · rw [show (rs.map fun r => V.str (r.r.headD "")) = ((rws tb).map fun r => r.headD "").map V.str by rw [← heads_eq er, List.map_map]; rfl] at e10
        refine ⟨D2, _, rfl, .inl (.inl (.inl e10)), rfl, flat_str _, _, rfl, ?_⟩
        rw [inV_str]
        rw [show (if false = true then !((rws tb).map fun r => r.headD "").contains y else ((rws tb).map fun r => r.headD "").contains y) = decide (y ∈ (rws tb).map fun r => r.headD "") by
          rw [if_neg Bool.false_ne_true, List.contains_eq_mem]]
        exact hq _ g10
    have nd7 := there_ok S6
    rw [hnms] at nd7
    have thl : (nms.filter fun y => decide (y ∈ (rws tb).map fun r => r.headD "")).length ≤ 12 := Nat.le_trans (List.length_filter_le _ _) (by omega)
    generalize (nms.filter fun y => decide (y ∈ (rws tb).map fun r => r.headD "")) = there at eT7 nd7 thl
    have S7 := S6.gr g7
    have DP7 := DP.gr g7
    have eN7 := g7.lst eN6
    have g07 := (g05.trans g6).trans g7
    -- the way
    obtain ⟨way, hway, w0, w7⟩ : ∃ way : Int, ns.getD 2 0 % 8 = way ∧ 0 ≤ way ∧ way ≤ 7 := ⟨_, rfl, by omega, by omega⟩
    refine ⟨_, rfl, a, ns, 2, rfl, g07.seq hA, _, _, rfl, rfl, (by show (0 : Int) < 8; decide), ?_⟩
    show gName 10 (V.int (ns.getD 2 0 % 8)) _ _ _
    rw [hway]
    -- the thing
    refine ⟨fun σ' H' => ∃ v, Gr H7 H' ∧ Hnd K H' v ∧ σ' = [some (.ref a), some (.ref Nm), some (.int (tb.length : Nat)), some (.ref b), v5, some (.int (gn : Nat)), some (.ref Be), some (.ref Th), none, none, some (.int way), some v, none, none, none], ?_, fun σ' H8 hm => ?_⟩
    · exact ⟨_, rfl, a, ns, 3, rfl, g07.seq hA, _, rfl, _, Nm, nms, rfl, .inl (.inl eN7), (fun z => by rw [z] at nmsL; have nmsL : 0 = nk := nmsL; omega), nmsN, by omega, fun v H' g hh => ⟨v, g, hh, rfl⟩⟩
    obtain ⟨v0, g8, hnd, rfl⟩ := hm
    have g08 := g07.trans g8
    refine ⟨fun σ' H' => ∃ v, Gr H8 H' ∧ ((5 < way ∧ Thing K H' v) ∨ (way ≤ 5 ∧ Hnd K H' v)) ∧ σ' = [some (.ref a), some (.ref Nm), some (.int (tb.length : Nat)), some (.ref b), v5, some (.int (gn : Nat)), some (.ref Be), some (.ref Th), none, none, some (.int way), some v, none, none, none], ?_, fun σ' H9 hm => ?_⟩
    · refine ⟨_, rfl, _, _, rfl, rfl, _, rfl, ite2 (fun h1 => ?_) (fun h1 => ⟨v0, Gr.refl _, .inr ⟨Int.not_lt.mp fun z => h1 (decide_eq_true z), hnd⟩, rfl⟩)⟩
      have h1 : 5 < way := of_decide_eq_true h1
      refine ⟨_, rfl, Nm, _, _, _, rfl, rfl, .inl (.inl (g8.lst eN7)), (atI_nat (j := 0) (by rw [List.getElem?_map, nmsAt 0 (by omega)]; rfl) : atI (nms.map V.str) ((0 : Nat) : Int) = some (V.str (lettr 0))), ?_⟩
      refine ⟨_, rfl, a, ns, 3, rfl, g08.seq hA, _, rfl, fun vo Ho go tho nvo => ⟨(by show 3 ≤ sizeLine; omega), fun l nl => ?_⟩⟩
      have gl : Gr Ho (upd Ho l (.lst [.str (lettr 0), vo, .str "zzzzzzzz"])) := Gr.new nl
      have el : (upd Ho l (.lst [.str (lettr 0), vo, .str "zzzzzzzz"])) l = some (.lst [.str (lettr 0), vo, .str "zzzzzzzz"]) := upd_same
      generalize upd Ho l (.lst [.str (lettr 0), vo, .str "zzzzzzzz"]) = Hl at gl el
      obtain ⟨v, hv, mv⟩ := atI_mod (xs := [V.str (lettr 0), vo, .str "zzzzzzzz"]) (c := ns.getD 2 0 / 8) (n := 3) rfl (by decide)
      have gal := go.trans gl
      refine ⟨_, rfl, a, ns, 2, rfl, (g08.trans gal).seq hA, _, _, rfl, rfl, ⟨by decide, by decide⟩, _, _, rfl, rfl, (by show (0 : Int) < 3; decide), l, _, _, v, rfl, rfl, .inl (.inl el), hv, v, gal, .inl ⟨h1, ?_⟩, rfl⟩
      simp only [List.mem_cons, List.not_mem_nil, or_false] at mv
      rcases mv with rfl | rfl | rfl
      · exact thing_str (by show 1 ≤ sizeLine; omega)
      · exact tho.gr gl
      · exact thing_str (by show 8 ≤ sizeLine; omega)
    obtain ⟨v, g9, kind, rfl⟩ := hm
    have g09 := g08.trans g9
    have S9 := (S7.gr g8).gr g9
    have DP9 := (DP7.gr g8).gr g9
    have eN9 := g9.lst (g8.lst eN7)
    have eT9 := g9.lst (g8.lst eT7)
    have hN9 := hN.gr g09
    have thl : there.length ≤ 100 := by omega
    -- what is due
    obtain ⟨t, due⟩ : ∃ t, Due K H9 way v there (tb.length : Nat) t := by
      rcases kind with ⟨h, hv⟩ | ⟨h, ⟨xs, hx, lx⟩ | hx | hx⟩
      · exact ⟨_, .inl ⟨h, hv, rfl⟩⟩
      · exact ⟨_, .inr (.inl ⟨h, xs, hx, lx, rfl⟩)⟩
      · exact ⟨_, .inr (.inr (.inl ⟨h, hx, rfl⟩))⟩
      · exact ⟨_, .inr (.inr (.inr ⟨h, hx, rfl⟩))⟩
    refine ⟨_, rfl, _, rfl, _, rfl, _, rfl, way, v, Th, there, _, t, rfl, eT9, thl, due, fun H10 g10 => ?_⟩
    have due := Due.gr g10 due
    have g010 := g09.trans g10
    have S10 := S9.gr g10
    have hN10 := hN9.gr g10
    have DP10 := DP9.gr g10
    have eN10 := g10.lst eN9
    have eT10 := g10.lst eT9
    -- what comes out
    let σF : Str → L2.St := fun r => [some (.ref a), some (.ref Nm), some (.int (tb.length : Nat)), some (.ref b), v5, some (.int (gn : Nat)), some (.ref Be), some (.ref Th), none, none, some (.int way), some v, some (.str t), some (.str r), none]
    refine ⟨fun σ' H' => ∃ r, ((t ≠ "" ∧ r = t ∧ Gr H10 H') ∨ (t = "" ∧ (way = 4 ∨ way = 5) ∧ Gr H10 H') ∨ (t = "" ∧ ¬ (way = 4 ∨ way = 5) ∧ r = "")) ∧ σ' = σF r, ?_, fun σ' H11 hm => ?_⟩
    · refine ⟨_, rfl, _, rfl, _, rfl, b, d, tb, _, way, v, there, t, rfl, S10.bk, S10.ok, hN10, nd7, due, fun nt H' g => ⟨t, .inl ⟨nt, rfl, g⟩, rfl⟩, fun et => ⟨fun w3 xs _ p H' g _ _ _ _ => ⟨"", .inr (.inr ⟨et, by omega, rfl⟩), rfl⟩, fun wv H' g => ⟨"", .inr (.inr ⟨et, by omega, rfl⟩), rfl⟩, fun wv t' H' g => ⟨t', .inr (.inl ⟨et, wv, g⟩), rfl⟩⟩⟩
    obtain ⟨r, hr, rfl⟩ := hm
    have hin : inV (.int way) [.int 4, .int 5] = decide (way = 4 ∨ way = 5) := by
      show ((4 == way) || ((5 == way) || false)) = _
      rw [Bool.eq_iff_iff]
      simp
      omega
    refine ⟨fun σ' H' => (t ≠ "" → Gr H10 H') ∧ σ' = σF t, ?_, fun σ' H12 hm => ?_⟩
    · have rest : ¬ (t = "" ∧ (way = 4 ∨ way = 5)) → ∀ H', Gr H11 H' → (t ≠ "" → Gr H10 H') ∧ σF r = σF t := fun hn H' g => by
        rcases hr with ⟨nt, rfl, g1⟩ | ⟨et, wv, _⟩ | ⟨et, _, er⟩
        · exact ⟨fun _ => g1.trans g, rfl⟩
        · exact absurd ⟨et, wv⟩ hn
        · exact ⟨fun nt => absurd et nt, by rw [er, et]⟩
      refine ⟨_, rfl, (by show 2 ≤ sizeLine; omega), fun tp ntp => ⟨tp, _, rfl, .inr (.inl (.inl upd_same)), rfl, rfl, _, rfl, ?_⟩⟩
      rw [if_neg Bool.false_ne_true, hin]
      by_cases wv : way = 4 ∨ way = 5
      · rw [decide_eq_true wv]
        refine iteT ⟨_, rfl, rfl, _, rfl, ?_⟩
        by_cases et : t = ""
        · rw [decide_eq_true (by rw [et] : V.str t = V.str "")]
          have gk : Gr H10 (upd H11 tp (.tup [.int 4, .int 5])) := by
            rcases hr with ⟨nt, _, _⟩ | ⟨_, _, g1⟩ | ⟨_, nw, _⟩
            · exact absurd et nt
            · exact g1.trans (Gr.new ntp)
            · exact absurd wv nw
          generalize upd H11 tp (.tup [.int 4, .int 5]) = H12 at gk
          have gk0 := g010.trans gk
          have hAk := gk0.seq hA
          refine iteT ?_
          refine ⟨_, rfl, a, ns, 4, rfl, hAk, _, _, rfl, rfl, ⟨by decide, by decide⟩, _, _, rfl, rfl, (by show (0 : Int) < 12; decide), _, _, rfl, rfl, ?_⟩
          refine ⟨_, rfl, a, ns, 5, rfl, hAk, _, _, rfl, rfl, ⟨by decide, by decide⟩, _, _, rfl, rfl, (by show (0 : Int) < 12; decide), _, _, rfl, rfl, (by show 2 ≤ sizeLine; omega), fun l nl => ?_⟩
          have gl : Gr H12 (upd H12 l (.lst [.int (1 + ns.getD 4 0 / 31 % 12), .int (1 + ns.getD 5 0 / 31 % 12)])) := Gr.new nl
          have el : (upd H12 l (.lst [.int (1 + ns.getD 4 0 / 31 % 12), .int (1 + ns.getD 5 0 / 31 % 12)])) l = some (.lst [.int (1 + ns.getD 4 0 / 31 % 12), .int (1 + ns.getD 5 0 / 31 % 12)]) := upd_same
          generalize upd H12 l (.lst [.int (1 + ns.getD 4 0 / 31 % 12), .int (1 + ns.getD 5 0 / 31 % 12)]) = H13 at gl el
          have hAl := gl.seq hAk
          refine ⟨_, rfl, a, ns, 4, rfl, hAl, _, _, rfl, rfl, (by show (0 : Int) < 31; decide), _, rfl, a, ns, 5, rfl, hAl, _, _, rfl, rfl, (by show (0 : Int) < 31; decide), (by show 2 ≤ sizeLine; omega), fun l2 nl2 => ?_⟩
          have c4 : (ns.getD 4 0 % 31 : Int) = (((ns.getD 4 0 % 31).toNat : Nat) : Int) := by omega
          have c5 : (ns.getD 5 0 % 31 : Int) = (((ns.getD 5 0 % 31).toNat : Nat) : Int) := by omega
          have k4 : (1 + ns.getD 4 0 / 31 % 12 : Int) = (((1 + ns.getD 4 0 / 31 % 12).toNat : Nat) : Int) := by omega
          have k5 : (1 + ns.getD 5 0 / 31 % 12 : Int) = (((1 + ns.getD 5 0 / 31 % 12).toNat : Nat) : Int) := by omega
          refine ⟨_, rfl, l2, l, (ns.getD 4 0 % 31).toNat, (ns.getD 5 0 % 31).toNat, (1 + ns.getD 4 0 / 31 % 12).toNat, (1 + ns.getD 5 0 / 31 % 12).toNat, rfl, ?_, ?_, by omega, by omega, by omega, by omega, by omega, by omega, hN.gr ((gk0.trans gl).trans (Gr.new nl2)), fun H' => q H'⟩
          · rw [← c4, ← c5]
            exact upd_same
          · rw [← k4, ← k5]
            exact (Gr.new nl2).lst el
        · rw [decide_eq_false fun z => et (by injection z)]
          exact iteF (rest (fun z => et z.1) _ (Gr.new ntp))
      · rw [decide_eq_false wv]
        exact iteF (iteF (rest (fun z => wv z.2) _ (Gr.new ntp)))
    obtain ⟨g12_, rfl⟩ := hm
    refine ⟨fun σ' H' => (t ≠ "" → Gr H10 H') ∧ σ' = σF t, ?_, fun σ' H13 hm => ?_⟩
    · refine ⟨_, rfl, _, rfl, rfl, _, rfl, ?_⟩
      rw [decide_eq_true rfl]
      refine iteF ⟨rfl, _, rfl, ?_⟩
      rw [decide_eq_true rfl]
      refine iteF ⟨rfl, _, rfl, ?_⟩
      rw [decide_eq_true rfl]
      exact iteF ⟨g12_, rfl⟩
    obtain ⟨g13_, rfl⟩ := hm
    refine ⟨fun σ' H' => t ≠ "" ∧ Gr H10 H' ∧ σ' = σF t, ?_, fun σ' H14 hm => ?_⟩
    · refine ⟨_, rfl, rfl, _, rfl, ?_⟩
      by_cases et : t = ""
      · rw [decide_eq_true (by rw [et] : V.str t = V.str "")]
        exact iteT (q _)
      · rw [decide_eq_false fun z => et (by injection z)]
        exact iteF ⟨et, g13_ et, rfl⟩
    obtain ⟨nt, g14, rfl⟩ := hm
    have S14 := S10.gr g14
    have g014 := g010.trans g14
    have nmr := T5.nmsRows
    refine ⟨_, rfl, b, d, tb, _, rfl, S14.bk, b, d, tb, _, rfl, S14.bk, S14.ok, fun p2 H15 rs2 g15 TP2 er2 => ⟨_, rfl, _, _, TP2.dp, ((DP10.gr g14).gr g15).dp, ?_, ?_, _, rfl, ?_⟩⟩
    · rw [er2]; exact shaped_pairs nmr
    · rw [er]; exact shaped_pairs nmr
    rw [er2, er, eqv_pairs, decide_eq_true rfl]
    have g1015 := g14.trans g15
    have S15 := S14.gr g15
    refine iteF ⟨_, rfl, _, rfl, _, rfl, b, d, tb, _, way, v, there, t, rfl, S15.bk, S15.ok, hN10.gr g1015, nd7, Due.gr g1015 due, fun _ H16 g16 => ⟨_, rfl, rfl, _, rfl, ?_⟩, fun et => absurd et nt⟩
    rw [decide_eq_true rfl]
    refine iteF ?_
    have g1016 := g1015.trans g16
    have g016 := g010.trans g1016
    have S16 := S15.gr g16
    have due16 := Due.gr g1016 due
    have hN16 := hN.gr g016
    have eN16 := g16.lst (g15.lst (g14.lst eN10))
    refine ⟨fun σ' H' => t ≠ "many" ∧ H16 = H' ∧ σ' = σF t, ?_, fun σ' H17 hm => ?_⟩
    · refine ⟨_, rfl, rfl, _, rfl, ?_⟩
      by_cases em : t = "many"
      case neg =>
        rw [decide_eq_false fun z => em (by injection z)]
        exact iteF ⟨em, rfl, rfl⟩
      rw [decide_eq_true (by rw [em] : V.str t = V.str "many")]
      refine iteT ?_
      -- too many: a row is taken, and it is asked once more
      have many : ∃ xs, way ≤ 2 ∧ HOk H16 v xs ∧ xs.length ≤ 12 ∧ xs.Nodup ∧ (((tb.length : Nat) : Int) = 30 ∨ 12 < there.length + (xs.filter fun x => decide (x ∉ there)).length) := by
        rcases due16 with ⟨_, _, e⟩ | ⟨_, xs, hx, lx, e⟩ | ⟨_, _, e⟩ | ⟨_, _, e⟩
        · rw [em] at e
          cases hv : nmV v with
          | true => rw [hv, if_pos rfl] at e; exact absurd e (by decide +kernel)
          | false => rw [hv, if_neg Bool.false_ne_true] at e; exact absurd e (by decide +kernel)
        · rw [em] at e
          unfold dueN at e
          by_cases w2 : 2 < way
          · rw [if_pos w2] at e; exact absurd e (by decide +kernel)
          · rw [if_neg w2] at e
            by_cases nx : xs.Nodup
            · rw [if_neg (not_not_intro nx)] at e
              by_cases big : ((tb.length : Nat) : Int) = 30 ∨ 12 < there.length + (xs.filter fun x => decide (x ∉ there)).length
              · exact ⟨xs, by omega, hx, lx, nx, big⟩
              · rw [if_neg big] at e; exact absurd e (by decide +kernel)
            · rw [if_pos nx] at e; exact absurd e (by decide +kernel)
        · rw [em] at e; exact absurd e (by decide +kernel)
        · rw [em] at e; exact absurd e (by decide +kernel)
      obtain ⟨xs, w2, hx, lx, nx, big⟩ := many
      have tb0 : 0 < tb.length := by
        rcases big with h | h
        · omega
        · have h2 := List.length_filter_le (fun x => decide (x ∉ there)) xs
          have h3 : 0 < there.length := by omega
          obtain ⟨y, hy⟩ := List.exists_mem_of_length_pos h3
          obtain ⟨r, hr, _⟩ := allN_iff.mp ((nd7.2 y).mp hy)
          obtain ⟨e, he, _⟩ := List.mem_map.mp hr
          exact List.length_pos_of_mem he
      obtain ⟨x0, hx0, ex0⟩ := first5 (by omega)
      have kin : ((gn : Nat) : Int) ∈ nums tb := List.mem_map.mpr ⟨x0, hx0, ex0⟩
      refine ⟨_, rfl, b, d, tb, _, rfl, S16.bk, _, rfl, b, d, tb, _, _, rfl, S16.bk, S16.ok, .inl ⟨_, rfl, kin, fun H17 g17 B17 => ?_⟩⟩
      have T17 := S16.ok.take ((gn : Nat) : Int)
      have len17 := take_len S16.ok kin
      have rows17 : ∀ r ∈ rws (tb.filter fun e => decide (e.1 ≠ ((gn : Nat) : Int))), ∃ j, j < nk ∧ r = [lettr j] := fun r hr => rows5 r (rws_filt hr)
      generalize (tb.filter fun e => decide (e.1 ≠ ((gn : Nat) : Int))) = tc at B17 T17 len17 rows17
      have S17 : St12 C H17 b d tc (mn : Nat) nk := ⟨B17, T17, rows17⟩
      have nld : ∀ {z : Addr} {vs : List V}, H16 z = some (.lst vs) → z ≠ d := fun h1 z => by rw [z, S16.bk.dc] at h1; cases h1
      have eN17 := g17.lst (nld eN16) eN16
      have hN17 := hN16.grx g17
      have hx17 : HOk H17 v xs := by
        obtain ⟨a0, rfl, e0, r0⟩ := hx
        exact ⟨a0, rfl, g17.lst (nld e0) e0, r0⟩
      have few17 := T17.few
      refine ⟨_, rfl, Nm, rfl, ⟨_, .inl (.inl eN17)⟩, fun Tg nTg => lc_filtT (fun y => decide (y ∈ (rws tc).map fun r => r.headD "")) (.inl (.inl eN17)) (small1000 (by omega)) nTg (fun _ => rfl) (fun _ => rfl) (fun y hy H8 Qb g8 hq => ?_) (fun H18 g18 eT18 => ?_)⟩
      · have S8 := S17.gr g8
        refine ⟨_, rfl, _, rfl, b, d, tc, _, rfl, S8.bk, b, d, tc, _, rfl, S8.bk, S8.ok, fun p3 H9 rs3 g9 TP3 er3 => ⟨p3, rfl, ⟨_, .inl (.inl TP3.due.at_)⟩, fun D2 nD2 => ?_⟩⟩
        have ol3 := one_letter rows17 er3
        have rl3 : rs3.length = tc.length := by
          have h1 := congrArg List.length er3
          unfold nr at h1
          rw [List.length_map, List.length_map] at h1
          exact h1
        refine lc_mapV (fun r : Pr1 => V.ref r.t) (fun r => V.str (r.r.headD "")) (.inl (.inl TP3.due.at_)) (small1000 (by omega)) nD2 (fun _ => rfl) (fun r hr H9 Q' g9 hq2 => ?_) (fun H10 g10 e10 => ?_)
        · obtain ⟨h1, h2⟩ := TP3.due.own r hr
          obtain ⟨j, ej⟩ := ol3 r hr
          refine ⟨_, rfl, r.t, _, _, _, rfl, rfl, .inl (.inl (g9.tup h1)), rfl, r.l, _, _, _, rfl, rfl, .inl (.inl (g9.lst h2)), ?_, hq2⟩
          rw [ej]
          rfl
        · rw [show (rs3.map fun r => V.str (r.r.headD "")) = ((rws tc).map fun r => r.headD "").map V.str by rw [← heads_eq er3, List.map_map]; rfl] at e10
          refine ⟨D2, _, rfl, .inl (.inl (.inl e10)), rfl, flat_str _, _, rfl, ?_⟩
          rw [inV_str]
          rw [show (if false = true then !((rws tc).map fun r => r.headD "").contains y else ((rws tc).map fun r => r.headD "").contains y) = decide (y ∈ (rws tc).map fun r => r.headD "") by
            rw [if_neg Bool.false_ne_true, List.contains_eq_mem]]
          exact hq _ (g9.trans g10)
      have nd18 := there_ok S17
      rw [hnms] at nd18
      have thl18 : (nms.filter fun y => decide (y ∈ (rws tc).map fun r => r.headD "")).length ≤ 100 := Nat.le_trans (List.length_filter_le _ _) (by omega)
      generalize (nms.filter fun y => decide (y ∈ (rws tc).map fun r => r.headD "")) = th2 at eT18 nd18 thl18
      have S18 := S17.gr g18
      have hx18 := hx17.gr g18
      have sub18 : ((tb.length : Nat) : Int) - 1 = ((tc.length : Nat) : Int) := by
        clear first5
        omega
      obtain ⟨t', ht'⟩ : ∃ t', t' = dueN way th2 (tc.length : Nat) xs := ⟨_, rfl⟩
      refine ⟨_, rfl, _, rfl, _, rfl, b, d, tc, _, way, v, th2, t', rfl, S18.bk, S18.ok, hN17.gr g18, nd18, .inr (.inl ⟨by omega, xs, hx18, lx, ht'⟩), fun nt' H19 g19 => ?_, fun et' => ⟨fun w3 xs2 hx2 p H19 g19 np B19 _ _ => ?_, fun wv => by omega, fun wv => by omega⟩⟩
      · have due19 : Due K H19 way v th2 (((tb.length : Nat) : Int) - 1) t' := by
          rw [sub18]
          exact .inr (.inl ⟨by omega, xs, hx18.gr g19, lx, ht'⟩)
        refine ⟨_, rfl, _, rfl, _, rfl, _, rfl, _, _, rfl, rfl, way, v, Tg, th2, _, t', rfl, g19.lst eT18, thl18, due19, fun H20 g20 => ⟨rfl, ?_⟩⟩
        rw [decide_eq_true rfl]
        exact q _
      · obtain ⟨dx, eb⟩ := S18.bk.ob
        have off : ∀ {z : Addr} {vs : List V}, H18 z = some (.lst vs) → ¬ (z = b ∨ z = d) := fun h1 z => by
          rcases z with z | z
          · rw [z, eb] at h1; cases h1
          · rw [z, S18.bk.dc] at h1; cases h1
        have hx19 : HOk H19 v xs := by
          obtain ⟨a0, rfl, e0, r0⟩ := hx18
          exact ⟨a0, rfl, g19.lst (off e0) e0, r0⟩
        have due19 : Due K H19 way v th2 (((tb.length : Nat) : Int) - 1) t' := by
          rw [sub18]
          exact .inr (.inl ⟨by omega, xs, hx19, lx, ht'⟩)
        refine ⟨_, rfl, _, rfl, _, rfl, _, rfl, _, _, rfl, rfl, way, v, Tg, th2, _, t', rfl, g19.lst (off eT18) eT18, thl18, due19, fun H20 g20 => ⟨rfl, ?_⟩⟩
        rw [decide_eq_true (by rw [et'] : V.str "" = V.str t')]
        exact q _
    obtain ⟨nm_, rfl, rfl⟩ := hm
    refine ⟨_, rfl, rfl, _, rfl, ?_⟩
    by_cases m30 : tb.length = 30
    · rw [decide_eq_true (by rw [m30]; rfl : V.int ((tb.length : Nat) : Int) = V.int 30)]
      exact iteT (q _)
    rw [decide_eq_false (fun z => m30 (by injection z with z; omega) : ¬ V.int ((tb.length : Nat) : Int) = V.int 30)]
    refine iteF ⟨_, rfl, b, d, tb, _, rfl, S16.bk, _, rfl, Nm, _, _, _, rfl, rfl, .inl (.inl eN16), (atI_nat (j := 0) (by rw [List.getElem?_map, nmsAt 0 (by omega)]; rfl) : atI (nms.map V.str) ((0 : Nat) : Int) = some (V.str (lettr 0))), one, fun l nl => ?_⟩
    have gl : Gr H16 (upd H16 l (.lst [V.str (lettr 0)])) := Gr.new nl
    have el : (upd H16 l (.lst [V.str (lettr 0)])) l = some (.lst (([lettr 0] : List Str).map V.str)) := upd_same
    generalize upd H16 l (.lst [V.str (lettr 0)]) = H17 at gl el
    have wd : (allN (rws tb ++ [[lettr 0]])).length ≤ 12 := wide12 0 fun r hr => by
      rcases List.mem_append.mp hr with hr | hr
      · obtain ⟨j, hj, rfl⟩ := rows5 r hr
        exact ⟨j, by omega, by rw [Nat.zero_add]⟩
      · exact ⟨0, by decide, List.mem_singleton.mp hr⟩
    have few := T5.few
    have nm1 : isNm (lettr 0) = true := lettr_nm (by decide)
    refine ⟨b, d, tb, _, _, rfl, S16.bk.gr gl, S16.ok, hN16.gr gl, .inl ⟨[lettr 0], ⟨l, rfl, el, fun y hy => by rw [List.mem_singleton.mp hy]; exact nm1, (by show 1 ≤ 1000; decide)⟩, (by show 1 ≤ 100; decide), (ris_one1 _).nodup, by omega, wd, fun p H18 g18 np B18 => ?_⟩⟩
    have last : V.int ((mn : Nat) : Int) = V.int (((tb.length : Nat) : Int) + ((gn : Nat) : Int)) := by
      congr 1
      clear first5
      omega
    refine ⟨_, rfl, _, rfl, _, _, rfl, rfl, rfl, ?_⟩
    rw [decide_eq_true last]
    exact q _
end
end K1
end
section
set_option maxHeartbeats 0
namespace K1
open PySem PySem.Spec PyProof.Rows L2 GxR Gr
def fn : List He.DefD := [
  ⟨("is_name", none), "is_name", "is_name", defArgs sIsName, defBody sIsName, defScope sIsName, [], []⟩,
  ⟨("_once_each", none), "_once_each", "_once_each", defArgs sOnce, defBody sOnce, defScope sOnce, [], []⟩,
  ⟨("within", none), "within", "within", defArgs sWithin, defBody sWithin, defScope sWithin, [], []⟩,
  ⟨("meets", none), "meets", "meets", defArgs sMeets, defBody sMeets, defScope sMeets, [], []⟩,
  ⟨("rising", none), "rising", "rising", defArgs sRising, defBody sRising, defScope sRising, [], []⟩,
  ⟨("names_from", none), "names_from", "names_from", defArgs s_names_from, defBody s_names_from, defScope s_names_from, [], []⟩,
  ⟨("row_from", none), "row_from", "row_from", defArgs s_row_from, defBody s_row_from, defScope s_row_from, [], []⟩,
  ⟨("_law_draw", none), "_law_draw", "_law_draw", defArgs sDraw, defBody sDraw, defScope sDraw, [], []⟩,
  ⟨("name_from", none), "name_from", "name_from", defArgs s_name_from, defBody s_name_from, defScope s_name_from, [], []⟩,
  ⟨("Book", some "__init__"), "__init__", "Book.__init__", defArgs m_init, defBody m_init, defScope m_init, [], []⟩,
  ⟨("Book", some "_sets"), "_sets", "Book._sets", defArgs m_sets, defBody m_sets, defScope m_sets, [], []⟩,
  ⟨("Book", some "names"), "names", "Book.names", defArgs m_names, defBody m_names, defScope m_names, [], []⟩,
  ⟨("Book", some "put"), "put", "Book.put", defArgs m_put, defBody m_put, defScope m_put, [], []⟩,
  ⟨("Book", some "take"), "take", "Book.take", defArgs m_take, defBody m_take, defScope m_take, [], []⟩,
  ⟨("Book", some "rows"), "rows", "Book.rows", defArgs m_rows, defBody m_rows, defScope m_rows, [], []⟩,
  ⟨("Book", some "_met_by"), "_met_by", "Book._met_by", defArgs m_met_by, defBody m_met_by, defScope m_met_by, [], []⟩,
  ⟨("Book", some "meets"), "meets", "Book.meets", defArgs m_meets, defBody m_meets, defScope m_meets, [], []⟩,
  ⟨("Book", some "_meeting"), "_meeting", "Book._meeting", defArgs m_meeting, defBody m_meeting, defScope m_meeting, [], []⟩,
  ⟨("_book_of", none), "_book_of", "_book_of", defArgs s_book_of, defBody s_book_of, defScope s_book_of, [], []⟩,
  ⟨("Book", some "struck"), "struck", "Book.struck", defArgs m_struck, defBody m_struck, defScope m_struck, [], []⟩,
  ⟨("Book", some "without"), "without", "Book.without", defArgs m_without, defBody m_without, defScope m_without, [], []⟩,
  ⟨("Book", some "joined"), "joined", "Book.joined", defArgs m_joined, defBody m_joined, defScope m_joined, [], []⟩,
  ⟨("Book", some "crossed"), "crossed", "Book.crossed", defArgs m_crossed, defBody m_crossed, defScope m_crossed, [], []⟩,
  ⟨("Book", some "pared"), "pared", "Book.pared", defArgs m_pared, defBody m_pared, defScope m_pared, [], []⟩,
  ⟨("Book", some "_first_own"), "_first_own", "Book._first_own", defArgs m_first_own, defBody m_first_own, defScope m_first_own, [], []⟩,
  ⟨("Book", some "own"), "own", "Book.own", defArgs m_own, defBody m_own, defScope m_own, [], []⟩,
  ⟨("_law_words", none), "_law_words", "_law_words", defArgs s_law_words_x, defBody s_law_words_x, defScope s_law_words_x, [], []⟩,
  ⟨("_law_call", none), "_law_call", "_law_call", defArgs s_law_call_x, defBody s_law_call_x, defScope s_law_call_x, [], []⟩,
  ⟨("_law_odd", none), "_law_odd", "_law_odd", defArgs s_law_odd_x, defBody s_law_odd_x, defScope s_law_odd_x, [], []⟩,
  ⟨("_law_list", none), "_law_list", "_law_list", defArgs s_law_list_x, defBody s_law_list_x, defScope s_law_list_x, [], []⟩,
  ⟨("_law_is_name", none), "_law_is_name", "_law_is_name", defArgs s_law_is_name_x, defBody s_law_is_name_x, defScope s_law_is_name_x, [], []⟩,
  ⟨("_law_due", none), "_law_due", "_law_due", defArgs s_law_due_x, defBody s_law_due_x, defScope s_law_due_x, [], []⟩,
  ⟨("_law_both", none), "_law_both", "_law_both", defArgs s_law_both_x, defBody s_law_both_x, defScope s_law_both_x, [], []⟩,
  ⟨("law", none), "law", "law", defArgs s_law_x, defBody s_law_x, defScope s_law_x, [], []⟩]
def globs : List Str := [("is_name" : Str), ("_once_each" : Str), ("within" : Str), ("meets" : Str), ("rising" : Str), ("names_from" : Str), ("row_from" : Str), ("_law_draw" : Str), ("name_from" : Str), ("_book_of" : Str), ("_law_words" : Str), ("_law_call" : Str), ("_law_odd" : Str), ("_law_list" : Str), ("_law_is_name" : Str), ("_law_due" : Str), ("_law_both" : Str), ("law" : Str), ("MeetError" : Str), ("BadName" : Str), ("BadRow" : Str), ("NoRow" : Str), ("TooMany" : Str), ("NoMeet" : Str), ("Unread" : Str), ("meets_sets" : Str), ("Book" : Str)]
def frees : List Str := [("len" : Str), ("isinstance" : Str), ("bool" : Str), ("all" : Str), ("any" : Str), ("str" : Str), ("list" : Str), ("tuple" : Str), ("set" : Str), ("sorted" : Str), ("zip" : Str), ("range" : Str), ("enumerate" : Str), ("ValueError" : Str), ("int" : Str), ("min" : Str), ("dict" : Str), ("reversed" : Str)]
def fx : List He.Fa := [.int "MOST_LETTERS" 8, .int "MOST_ROWS_books" 30, .int "MOST_NAMES_books" 12, .exc "BadName", .exc "BadRow", .exc "TooMany", .exc "NoMeet", .exc "NoRow", .exm "BadName" "MeetError" true, .exm "BadRow" "MeetError" true, .exm "TooMany" "MeetError" true, .exm "NoMeet" "MeetError" true, .cls "Book", .noat "Book" "_rows", .noat "Book" "_next_number", .mkr "Book", .meth "Book" "_sets", .meth "Book" "names", .meth "Book" "put", .meth "Book" "take", .meth "Book" "rows", .meth "Book" "_met_by", .meth "Book" "meets", .meth "Book" "_meeting", .meth "Book" "struck", .meth "Book" "without", .meth "Book" "joined", .meth "Book" "crossed", .meth "Book" "pared", .meth "Book" "_first_own", .meth "Book" "own"]
def fa : List He.Fa := globs.map He.Fa.glo ++ (frees.map He.Fa.free ++ fx)
def ts : List He.Tab := []
def tf : List He.Defn := [("is_name", none), ("within", none), ("meets", none), ("least_of", none), ("Book", some "_met_by"), ("Book", some "own")]
def ex (K : PySem.W.Frag) : Bool := decide (He.ga K "meets_sets" = He.ga K "meets") && (He.eqO (PySem.W.findIn K (.ref (He.ga K "BadName")) "__getattribute__") (some (some (.builtin "BaseException.__getattribute__"))) && (He.eqO (PySem.W.findIn K (.ref (He.ga K "BadName")) "__getattr__") (some none) && (PySem.W.hasDictIn K (He.ga K "BadName") && (He.eqO (PySem.W.findIn K (.ref (He.ga K "BadName")) "__class__") ((some (some (.builtin "object.__class__")))) && (decide (PySem.W.mroIn K (He.ga K "BadName") (.type "object") = some true) && (decide (PySem.W.kitOne K (.ref (He.ga K "BadName")) (.ref (He.ga K "BadName")) = some true) && (decide (PySem.W.kitOne K (.ref (He.ga K "BadName")) (.ref (He.ga K "BadRow")) = some false) && (decide (PySem.W.kitOne K (.ref (He.ga K "BadName")) (.ref (He.ga K "TooMany")) = some false) && (decide (PySem.W.kitAny K (.ref (He.ga K "BadName")) [.ref (He.ga K "NoMeet"), .ref (He.ga K "NoRow"), .ref (He.ga K "Unread")] = some false) && (decide (PySem.W.kitOne K (.ref (He.ga K "BadName")) (.type "ValueError") = some true) && (He.eqO (PySem.W.findIn K (.ref (He.ga K "BadRow")) "__getattribute__") (some (some (.builtin "BaseException.__getattribute__"))) && (He.eqO (PySem.W.findIn K (.ref (He.ga K "BadRow")) "__getattr__") (some none) && (PySem.W.hasDictIn K (He.ga K "BadRow") && (He.eqO (PySem.W.findIn K (.ref (He.ga K "BadRow")) "__class__") ((some (some (.builtin "object.__class__")))) && (decide (PySem.W.mroIn K (He.ga K "BadRow") (.type "object") = some true) && (decide (PySem.W.kitOne K (.ref (He.ga K "BadRow")) (.ref (He.ga K "BadName")) = some false) && (decide (PySem.W.kitOne K (.ref (He.ga K "BadRow")) (.ref (He.ga K "BadRow")) = some true) && (decide (PySem.W.kitOne K (.ref (He.ga K "BadRow")) (.ref (He.ga K "TooMany")) = some false) && (decide (PySem.W.kitAny K (.ref (He.ga K "BadRow")) [.ref (He.ga K "NoMeet"), .ref (He.ga K "NoRow"), .ref (He.ga K "Unread")] = some false) && (decide (PySem.W.kitOne K (.ref (He.ga K "BadRow")) (.type "ValueError") = some true) && (He.eqO (PySem.W.findIn K (.ref (He.ga K "TooMany")) "__getattribute__") (some (some (.builtin "BaseException.__getattribute__"))) && (He.eqO (PySem.W.findIn K (.ref (He.ga K "TooMany")) "__getattr__") (some none) && (PySem.W.hasDictIn K (He.ga K "TooMany") && (He.eqO (PySem.W.findIn K (.ref (He.ga K "TooMany")) "__class__") ((some (some (.builtin "object.__class__")))) && (decide (PySem.W.mroIn K (He.ga K "TooMany") (.type "object") = some true) && (decide (PySem.W.kitOne K (.ref (He.ga K "TooMany")) (.ref (He.ga K "BadName")) = some false) && (decide (PySem.W.kitOne K (.ref (He.ga K "TooMany")) (.ref (He.ga K "BadRow")) = some false) && (decide (PySem.W.kitOne K (.ref (He.ga K "TooMany")) (.ref (He.ga K "TooMany")) = some true) && (decide (PySem.W.kitAny K (.ref (He.ga K "TooMany")) [.ref (He.ga K "NoMeet"), .ref (He.ga K "NoRow"), .ref (He.ga K "Unread")] = some false) && (decide (PySem.W.kitOne K (.ref (He.ga K "TooMany")) (.type "ValueError") = some true) && (He.eqO (PySem.W.findIn K (.ref (He.ga K "NoMeet")) "__getattribute__") (some (some (.builtin "BaseException.__getattribute__"))) && (He.eqO (PySem.W.findIn K (.ref (He.ga K "NoMeet")) "__getattr__") (some none) && (PySem.W.hasDictIn K (He.ga K "NoMeet") && (He.eqO (PySem.W.findIn K (.ref (He.ga K "NoMeet")) "__class__") ((some (some (.builtin "object.__class__")))) && (decide (PySem.W.mroIn K (He.ga K "NoMeet") (.type "object") = some true) && (decide (PySem.W.kitOne K (.ref (He.ga K "NoMeet")) (.ref (He.ga K "BadName")) = some false) && (decide (PySem.W.kitOne K (.ref (He.ga K "NoMeet")) (.ref (He.ga K "BadRow")) = some false) && (decide (PySem.W.kitOne K (.ref (He.ga K "NoMeet")) (.ref (He.ga K "TooMany")) = some false) && (decide (PySem.W.kitAny K (.ref (He.ga K "NoMeet")) [.ref (He.ga K "NoMeet"), .ref (He.ga K "NoRow"), .ref (He.ga K "Unread")] = some true) && (decide (PySem.W.kitOne K (.ref (He.ga K "NoMeet")) (.type "ValueError") = some true) && (He.eqO (PySem.W.specialIn K (.builtin "object.__class__") "__get__") (some (some (.builtin "getset_descriptor.__get__"))) && (decide (PySem.W.takesIn K (.builtin "object.__class__") = some true) && (He.eqO (PySem.W.findIn K (.ref (He.ga K "Book")) "__class__") ((some (some (.builtin "object.__class__")))) && (decide (PySem.W.mroIn K (He.ga K "Book") (.type "object") = some true) && (decide (PySem.W.kitOne K (.ref (He.ga K "Book")) (.ref (He.ga K "Book")) = some true))))))))))))))))))))))))))))))))))))))))))))))
abbrev R : PySem.W.OpenRow := PySem.W.OpenLaw.row PySem.Challenge.rw_meetrows_k12_what_is_refused
abbrev hk : PySem.W.Hook := He.hookX 4 fa fn ts tf ex
def ob (s : PySem.W.SharedT) : He.AlX := He.obsX 4 fa fn ts tf ex (HandSHeadRun.getT s)
theorem ob_eq (s : PySem.W.SharedT) : ob s = hk.obs s.abs := He.obsX_eq (HandSHeadRun.getT_eq s)
def loose : List Str := [("_wall" : Str), ("MeetError" : Str), ("BadName" : Str), ("BadRow" : Str), ("NoRow" : Str), ("TooMany" : Str), ("NoMeet" : Str), ("Unread" : Str), ("MOST_LETTERS" : Str), ("is_name" : Str), ("rising" : Str), ("within" : Str), ("meets" : Str), ("meets_sets" : Str), ("ranked" : Str), ("least_of" : Str), ("_once_each" : Str), ("_rank" : Str), ("name_from" : Str), ("names_from" : Str), ("row_from" : Str), ("grown" : Str), ("MOST_ROWS_books" : Str), ("MOST_NAMES_books" : Str), ("Book" : Str), ("_book_of" : Str), ("_law_draw" : Str), ("_law_words" : Str), ("_law_call" : Str), ("_law_odd" : Str), ("_law_list" : Str), ("_law_is_name" : Str), ("_law_due" : Str), ("_law_both" : Str)]
theorem run (w : World) : HandSHeadRun.RunEq R (PySem.W.view R.prog [40]) hk ob 8000 loose w := by
  intro os
  kernel_rfl
theorem facts {w : World} {K : PySem.W.Frag} {h : Heap} {mg : Str → Option Value} {f : Addr} (X : K.In h) (G : h.Ns mainGlobals mg) (hfa : mg ("law" : Str) = some (.ref f)) (c : He.SaysX fa fn ts tf ex w h K) :
    LamX.LawAtS PySem.Challenge.rw_meetrows_k12_what_is_refused w K CX0 9 63 "_law_script" mg f h := by
  have cd := c.t.d
  have gl : ∀ x ∈ globs, mg x = some (.ref (He.ga K x)) := fun x hx => He.glo_ok X G (He.SaysD.facts cd (List.mem_append_left _ (List.mem_map.mpr ⟨x, hx, rfl⟩)))
  have fr : ∀ x ∈ frees, mg x = none := fun x hx => He.free_ok X G (He.SaysD.facts cd (List.mem_append_right _ (List.mem_append_left _ (List.mem_map.mpr ⟨x, hx, rfl⟩))))
  have xf : ∀ x ∈ fx, x.ok K = true := fun x hx => He.SaysD.facts cd (List.mem_append_right _ (List.mem_append_right _ hx))
  have gM : ∃ t, mg "MOST_LETTERS" = some (.int 8 t) := He.int_ok X G (xf (.int "MOST_LETTERS" 8) List.mem_cons_self)
  have gI_MOST_ROWS_books : ∃ t, mg "MOST_ROWS_books" = some (.int 30 t) := He.int_ok X G (xf (.int "MOST_ROWS_books" 30) (List.mem_cons_of_mem _ List.mem_cons_self))
  have gI_MOST_NAMES_books : ∃ t, mg "MOST_NAMES_books" = some (.int 12 t) := He.int_ok X G (xf (.int "MOST_NAMES_books" 12) (List.mem_cons_of_mem _ (List.mem_cons_of_mem _ List.mem_cons_self)))
  have e_BadName := He.exc_ok (xf (.exc "BadName") (List.mem_cons_of_mem _ (List.mem_cons_of_mem _ (List.mem_cons_of_mem _ List.mem_cons_self))))
  have EC_BadName : ErrC K mg "BadName" (He.ga K "BadName") := ⟨gl "BadName" (by decide), e_BadName.1, e_BadName.2.1, e_BadName.2.2.1, e_BadName.2.2.2⟩
  have e_BadRow := He.exc_ok (xf (.exc "BadRow") (List.mem_cons_of_mem _ (List.mem_cons_of_mem _ (List.mem_cons_of_mem _ (List.mem_cons_of_mem _ List.mem_cons_self)))))
  have EC_BadRow : ErrC K mg "BadRow" (He.ga K "BadRow") := ⟨gl "BadRow" (by decide), e_BadRow.1, e_BadRow.2.1, e_BadRow.2.2.1, e_BadRow.2.2.2⟩
  have e_TooMany := He.exc_ok (xf (.exc "TooMany") (List.mem_cons_of_mem _ (List.mem_cons_of_mem _ (List.mem_cons_of_mem _ (List.mem_cons_of_mem _ (List.mem_cons_of_mem _ List.mem_cons_self))))))
  have EC_TooMany : ErrC K mg "TooMany" (He.ga K "TooMany") := ⟨gl "TooMany" (by decide), e_TooMany.1, e_TooMany.2.1, e_TooMany.2.2.1, e_TooMany.2.2.2⟩
  have e_NoMeet := He.exc_ok (xf (.exc "NoMeet") (List.mem_cons_of_mem _ (List.mem_cons_of_mem _ (List.mem_cons_of_mem _ (List.mem_cons_of_mem _ (List.mem_cons_of_mem _ (List.mem_cons_of_mem _ List.mem_cons_self)))))))
  have EC_NoMeet : ErrC K mg "NoMeet" (He.ga K "NoMeet") := ⟨gl "NoMeet" (by decide), e_NoMeet.1, e_NoMeet.2.1, e_NoMeet.2.2.1, e_NoMeet.2.2.2⟩
  have e_NoRow := He.exc_ok (xf (.exc "NoRow") (List.mem_cons_of_mem _ (List.mem_cons_of_mem _ (List.mem_cons_of_mem _ (List.mem_cons_of_mem _ (List.mem_cons_of_mem _ (List.mem_cons_of_mem _ (List.mem_cons_of_mem _ List.mem_cons_self))))))))
  have EC_NoRow : ErrC K mg "NoRow" (He.ga K "NoRow") := ⟨gl "NoRow" (by decide), e_NoRow.1, e_NoRow.2.1, e_NoRow.2.2.1, e_NoRow.2.2.2⟩
  have cl : Cls K (He.ga K "Book") := He.cls_ok (xf (.cls "Book") (List.mem_cons_of_mem _ (List.mem_cons_of_mem _ (List.mem_cons_of_mem _ (List.mem_cons_of_mem _ (List.mem_cons_of_mem _ (List.mem_cons_of_mem _ (List.mem_cons_of_mem _ (List.mem_cons_of_mem _ (List.mem_cons_of_mem _ (List.mem_cons_of_mem _ (List.mem_cons_of_mem _ (List.mem_cons_of_mem _ List.mem_cons_self)))))))))))))
  have nR : NoAttr K (He.ga K "Book") "_rows" := He.noat_ok (xf (.noat "Book" "_rows") (List.mem_cons_of_mem _ (List.mem_cons_of_mem _ (List.mem_cons_of_mem _ (List.mem_cons_of_mem _ (List.mem_cons_of_mem _ (List.mem_cons_of_mem _ (List.mem_cons_of_mem _ (List.mem_cons_of_mem _ (List.mem_cons_of_mem _ (List.mem_cons_of_mem _ (List.mem_cons_of_mem _ (List.mem_cons_of_mem _ (List.mem_cons_of_mem _ List.mem_cons_self))))))))))))))
  have nN : NoAttr K (He.ga K "Book") "_next_number" := He.noat_ok (xf (.noat "Book" "_next_number") (List.mem_cons_of_mem _ (List.mem_cons_of_mem _ (List.mem_cons_of_mem _ (List.mem_cons_of_mem _ (List.mem_cons_of_mem _ (List.mem_cons_of_mem _ (List.mem_cons_of_mem _ (List.mem_cons_of_mem _ (List.mem_cons_of_mem _ (List.mem_cons_of_mem _ (List.mem_cons_of_mem _ (List.mem_cons_of_mem _ (List.mem_cons_of_mem _ (List.mem_cons_of_mem _ List.mem_cons_self)))))))))))))))
  have mk : Mk K (He.ga K "Book") (He.ma K (He.ga K "Book") "__init__") := He.mkr_ok (xf (.mkr "Book") (List.mem_cons_of_mem _ (List.mem_cons_of_mem _ (List.mem_cons_of_mem _ (List.mem_cons_of_mem _ (List.mem_cons_of_mem _ (List.mem_cons_of_mem _ (List.mem_cons_of_mem _ (List.mem_cons_of_mem _ (List.mem_cons_of_mem _ (List.mem_cons_of_mem _ (List.mem_cons_of_mem _ (List.mem_cons_of_mem _ (List.mem_cons_of_mem _ (List.mem_cons_of_mem _ (List.mem_cons_of_mem _ List.mem_cons_self))))))))))))))))
  have BC : BkC K mg (He.ga K "Book") := ⟨cl, nR, nN, gl "Book" (by decide)⟩
  have alq : He.ga K "meets_sets" = He.ga K "meets" := of_decide_eq_true (He.ba c.more).1
  let RR : ErN := ⟨He.ga K "BadName", He.ga K "BadRow", He.ga K "NoRow", He.ga K "TooMany", He.ga K "NoMeet", He.ga K "Unread"⟩
  let NN : TabN := ⟨(He.cT K ("is_name", none)).2, (He.cT K ("within", none)).2, (He.cT K ("meets", none)).2, (He.cT K ("least_of", none)).2, (He.cT K ("Book", some "_met_by")).2, (He.cT K ("Book", some "own")).2⟩
  obtain ⟨fd0, F_is_name⟩ := cd.def_ 0 (d := ⟨("is_name", none), "is_name", "is_name", defArgs sIsName, defBody sIsName, defScope sIsName, [], []⟩) rfl
  obtain ⟨fd1, F__once_each⟩ := cd.def_ 1 (d := ⟨("_once_each", none), "_once_each", "_once_each", defArgs sOnce, defBody sOnce, defScope sOnce, [], []⟩) rfl
  obtain ⟨fd2, F_within⟩ := cd.def_ 2 (d := ⟨("within", none), "within", "within", defArgs sWithin, defBody sWithin, defScope sWithin, [], []⟩) rfl
  obtain ⟨fd3, F_meets⟩ := cd.def_ 3 (d := ⟨("meets", none), "meets", "meets", defArgs sMeets, defBody sMeets, defScope sMeets, [], []⟩) rfl
  obtain ⟨fd4, F_rising⟩ := cd.def_ 4 (d := ⟨("rising", none), "rising", "rising", defArgs sRising, defBody sRising, defScope sRising, [], []⟩) rfl
  obtain ⟨fd5, F_names_from⟩ := cd.def_ 5 (d := ⟨("names_from", none), "names_from", "names_from", defArgs s_names_from, defBody s_names_from, defScope s_names_from, [], []⟩) rfl
  obtain ⟨fd6, F_row_from⟩ := cd.def_ 6 (d := ⟨("row_from", none), "row_from", "row_from", defArgs s_row_from, defBody s_row_from, defScope s_row_from, [], []⟩) rfl
  obtain ⟨fd7, F__law_draw⟩ := cd.def_ 7 (d := ⟨("_law_draw", none), "_law_draw", "_law_draw", defArgs sDraw, defBody sDraw, defScope sDraw, [], []⟩) rfl
  obtain ⟨fd8, F_name_from⟩ := cd.def_ 8 (d := ⟨("name_from", none), "name_from", "name_from", defArgs s_name_from, defBody s_name_from, defScope s_name_from, [], []⟩) rfl
  obtain ⟨fd9, F_Book___init__⟩ := cd.def_ 9 (d := ⟨("Book", some "__init__"), "__init__", "Book.__init__", defArgs m_init, defBody m_init, defScope m_init, [], []⟩) rfl
  obtain ⟨fd10, F_Book__sets⟩ := cd.def_ 10 (d := ⟨("Book", some "_sets"), "_sets", "Book._sets", defArgs m_sets, defBody m_sets, defScope m_sets, [], []⟩) rfl
  obtain ⟨fd11, F_Book_names⟩ := cd.def_ 11 (d := ⟨("Book", some "names"), "names", "Book.names", defArgs m_names, defBody m_names, defScope m_names, [], []⟩) rfl
  obtain ⟨fd12, F_Book_put⟩ := cd.def_ 12 (d := ⟨("Book", some "put"), "put", "Book.put", defArgs m_put, defBody m_put, defScope m_put, [], []⟩) rfl
  obtain ⟨fd13, F_Book_take⟩ := cd.def_ 13 (d := ⟨("Book", some "take"), "take", "Book.take", defArgs m_take, defBody m_take, defScope m_take, [], []⟩) rfl
  obtain ⟨fd14, F_Book_rows⟩ := cd.def_ 14 (d := ⟨("Book", some "rows"), "rows", "Book.rows", defArgs m_rows, defBody m_rows, defScope m_rows, [], []⟩) rfl
  obtain ⟨fd15, F_Book__met_by⟩ := cd.def_ 15 (d := ⟨("Book", some "_met_by"), "_met_by", "Book._met_by", defArgs m_met_by, defBody m_met_by, defScope m_met_by, [], []⟩) rfl
  obtain ⟨fd16, F_Book_meets⟩ := cd.def_ 16 (d := ⟨("Book", some "meets"), "meets", "Book.meets", defArgs m_meets, defBody m_meets, defScope m_meets, [], []⟩) rfl
  obtain ⟨fd17, F_Book__meeting⟩ := cd.def_ 17 (d := ⟨("Book", some "_meeting"), "_meeting", "Book._meeting", defArgs m_meeting, defBody m_meeting, defScope m_meeting, [], []⟩) rfl
  obtain ⟨fd18, F__book_of⟩ := cd.def_ 18 (d := ⟨("_book_of", none), "_book_of", "_book_of", defArgs s_book_of, defBody s_book_of, defScope s_book_of, [], []⟩) rfl
  obtain ⟨fd19, F_Book_struck⟩ := cd.def_ 19 (d := ⟨("Book", some "struck"), "struck", "Book.struck", defArgs m_struck, defBody m_struck, defScope m_struck, [], []⟩) rfl
  obtain ⟨fd20, F_Book_without⟩ := cd.def_ 20 (d := ⟨("Book", some "without"), "without", "Book.without", defArgs m_without, defBody m_without, defScope m_without, [], []⟩) rfl
  obtain ⟨fd21, F_Book_joined⟩ := cd.def_ 21 (d := ⟨("Book", some "joined"), "joined", "Book.joined", defArgs m_joined, defBody m_joined, defScope m_joined, [], []⟩) rfl
  obtain ⟨fd22, F_Book_crossed⟩ := cd.def_ 22 (d := ⟨("Book", some "crossed"), "crossed", "Book.crossed", defArgs m_crossed, defBody m_crossed, defScope m_crossed, [], []⟩) rfl
  obtain ⟨fd23, F_Book_pared⟩ := cd.def_ 23 (d := ⟨("Book", some "pared"), "pared", "Book.pared", defArgs m_pared, defBody m_pared, defScope m_pared, [], []⟩) rfl
  obtain ⟨fd24, F_Book__first_own⟩ := cd.def_ 24 (d := ⟨("Book", some "_first_own"), "_first_own", "Book._first_own", defArgs m_first_own, defBody m_first_own, defScope m_first_own, [], []⟩) rfl
  obtain ⟨fd25, F_Book_own⟩ := cd.def_ 25 (d := ⟨("Book", some "own"), "own", "Book.own", defArgs m_own, defBody m_own, defScope m_own, [], []⟩) rfl
  obtain ⟨fd26, F__law_words⟩ := cd.def_ 26 (d := ⟨("_law_words", none), "_law_words", "_law_words", defArgs s_law_words_x, defBody s_law_words_x, defScope s_law_words_x, [], []⟩) rfl
  obtain ⟨fd27, F__law_call⟩ := cd.def_ 27 (d := ⟨("_law_call", none), "_law_call", "_law_call", defArgs s_law_call_x, defBody s_law_call_x, defScope s_law_call_x, [], []⟩) rfl
  obtain ⟨fd28, F__law_odd⟩ := cd.def_ 28 (d := ⟨("_law_odd", none), "_law_odd", "_law_odd", defArgs s_law_odd_x, defBody s_law_odd_x, defScope s_law_odd_x, [], []⟩) rfl
  obtain ⟨fd29, F__law_list⟩ := cd.def_ 29 (d := ⟨("_law_list", none), "_law_list", "_law_list", defArgs s_law_list_x, defBody s_law_list_x, defScope s_law_list_x, [], []⟩) rfl
  obtain ⟨fd30, F__law_is_name⟩ := cd.def_ 30 (d := ⟨("_law_is_name", none), "_law_is_name", "_law_is_name", defArgs s_law_is_name_x, defBody s_law_is_name_x, defScope s_law_is_name_x, [], []⟩) rfl
  obtain ⟨fd31, F__law_due⟩ := cd.def_ 31 (d := ⟨("_law_due", none), "_law_due", "_law_due", defArgs s_law_due_x, defBody s_law_due_x, defScope s_law_due_x, [], []⟩) rfl
  obtain ⟨fd32, F__law_both⟩ := cd.def_ 32 (d := ⟨("_law_both", none), "_law_both", "_law_both", defArgs s_law_both_x, defBody s_law_both_x, defScope s_law_both_x, [], []⟩) rfl
  obtain ⟨fd33, F_law⟩ := cd.def_ 33 (d := ⟨("law", none), "law", "law", defArgs s_law_x, defBody s_law_x, defScope s_law_x, [], []⟩) rfl
  have e := hfa.symm.trans (gl "law" (by decide))
  have ef : f = He.ga K "law" := by injection e with e; injection e
  subst ef
  have b := FunD.bindsA (ps := ["_law_script"]) F_law fun _ _ _ _ _ _ us hl => match us, hl with | [_], _ => rfl
  obtain ⟨_, mm_⟩ := He.ba c.more
  obtain ⟨y0, m0⟩ := He.ba mm_
  obtain ⟨y1, m1⟩ := He.ba m0
  obtain ⟨y2, m2⟩ := He.ba m1
  obtain ⟨y3, m3⟩ := He.ba m2
  obtain ⟨y4, m4⟩ := He.ba m3
  obtain ⟨y5, m5⟩ := He.ba m4
  obtain ⟨y6, m6⟩ := He.ba m5
  obtain ⟨y7, m7⟩ := He.ba m6
  obtain ⟨y8, m8⟩ := He.ba m7
  obtain ⟨y9, m9⟩ := He.ba m8
  obtain ⟨y10, m10⟩ := He.ba m9
  obtain ⟨y11, m11⟩ := He.ba m10
  obtain ⟨y12, m12⟩ := He.ba m11
  obtain ⟨y13, m13⟩ := He.ba m12
  obtain ⟨y14, m14⟩ := He.ba m13
  obtain ⟨y15, m15⟩ := He.ba m14
  obtain ⟨y16, m16⟩ := He.ba m15
  obtain ⟨y17, m17⟩ := He.ba m16
  obtain ⟨y18, m18⟩ := He.ba m17
  obtain ⟨y19, m19⟩ := He.ba m18
  obtain ⟨y20, m20⟩ := He.ba m19
  obtain ⟨y21, m21⟩ := He.ba m20
  obtain ⟨y22, m22⟩ := He.ba m21
  obtain ⟨y23, m23⟩ := He.ba m22
  obtain ⟨y24, m24⟩ := He.ba m23
  obtain ⟨y25, m25⟩ := He.ba m24
  obtain ⟨y26, m26⟩ := He.ba m25
  obtain ⟨y27, m27⟩ := He.ba m26
  obtain ⟨y28, m28⟩ := He.ba m27
  obtain ⟨y29, m29⟩ := He.ba m28
  obtain ⟨y30, m30⟩ := He.ba m29
  obtain ⟨y31, m31⟩ := He.ba m30
  obtain ⟨y32, m32⟩ := He.ba m31
  obtain ⟨y33, m33⟩ := He.ba m32
  obtain ⟨y34, m34⟩ := He.ba m33
  obtain ⟨y35, m35⟩ := He.ba m34
  obtain ⟨y36, m36⟩ := He.ba m35
  obtain ⟨y37, m37⟩ := He.ba m36
  obtain ⟨y38, m38⟩ := He.ba m37
  obtain ⟨y39, m39⟩ := He.ba m38
  obtain ⟨y40, m40⟩ := He.ba m39
  obtain ⟨y41, m41⟩ := He.ba m40
  obtain ⟨y42, m42⟩ := He.ba m41
  obtain ⟨y43, m43⟩ := He.ba m42
  have XC_BadName : ExcC K (He.ga K "BadName") := ⟨(He.eqO_ok y0), (He.eqO_ok y1), of_decide_eq_true (He.ba (He.ba (He.ba (xf (.exc "BadName") (List.mem_cons_of_mem _ (List.mem_cons_of_mem _ (List.mem_cons_of_mem _ List.mem_cons_self))))).2).2).1, y2, (He.eqO_ok y3), (He.eqO_ok y40), (of_decide_eq_true y41), (of_decide_eq_true y4)⟩
  have WC_BadName : WdC K RR (He.ga K "BadName") true false false false := ⟨XC_BadName, (of_decide_eq_true y5), (of_decide_eq_true y6), (of_decide_eq_true y7), (of_decide_eq_true y8), (of_decide_eq_true y9)⟩
  have XM_BadName := He.exm_ok (xf (.exm "BadName" "MeetError" true) (List.mem_cons_of_mem _ (List.mem_cons_of_mem _ (List.mem_cons_of_mem _ (List.mem_cons_of_mem _ (List.mem_cons_of_mem _ (List.mem_cons_of_mem _ (List.mem_cons_of_mem _ (List.mem_cons_of_mem _ List.mem_cons_self)))))))))
  have XC_BadRow : ExcC K (He.ga K "BadRow") := ⟨(He.eqO_ok y10), (He.eqO_ok y11), of_decide_eq_true (He.ba (He.ba (He.ba (xf (.exc "BadRow") (List.mem_cons_of_mem _ (List.mem_cons_of_mem _ (List.mem_cons_of_mem _ (List.mem_cons_of_mem _ List.mem_cons_self)))))).2).2).1, y12, (He.eqO_ok y13), (He.eqO_ok y40), (of_decide_eq_true y41), (of_decide_eq_true y14)⟩
  have WC_BadRow : WdC K RR (He.ga K "BadRow") false true false false := ⟨XC_BadRow, (of_decide_eq_true y15), (of_decide_eq_true y16), (of_decide_eq_true y17), (of_decide_eq_true y18), (of_decide_eq_true y19)⟩
  have XM_BadRow := He.exm_ok (xf (.exm "BadRow" "MeetError" true) (List.mem_cons_of_mem _ (List.mem_cons_of_mem _ (List.mem_cons_of_mem _ (List.mem_cons_of_mem _ (List.mem_cons_of_mem _ (List.mem_cons_of_mem _ (List.mem_cons_of_mem _ (List.mem_cons_of_mem _ (List.mem_cons_of_mem _ List.mem_cons_self))))))))))
  have XC_TooMany : ExcC K (He.ga K "TooMany") := ⟨(He.eqO_ok y20), (He.eqO_ok y21), of_decide_eq_true (He.ba (He.ba (He.ba (xf (.exc "TooMany") (List.mem_cons_of_mem _ (List.mem_cons_of_mem _ (List.mem_cons_of_mem _ (List.mem_cons_of_mem _ (List.mem_cons_of_mem _ List.mem_cons_self))))))).2).2).1, y22, (He.eqO_ok y23), (He.eqO_ok y40), (of_decide_eq_true y41), (of_decide_eq_true y24)⟩
  have WC_TooMany : WdC K RR (He.ga K "TooMany") false false true false := ⟨XC_TooMany, (of_decide_eq_true y25), (of_decide_eq_true y26), (of_decide_eq_true y27), (of_decide_eq_true y28), (of_decide_eq_true y29)⟩
  have XM_TooMany := He.exm_ok (xf (.exm "TooMany" "MeetError" true) (List.mem_cons_of_mem _ (List.mem_cons_of_mem _ (List.mem_cons_of_mem _ (List.mem_cons_of_mem _ (List.mem_cons_of_mem _ (List.mem_cons_of_mem _ (List.mem_cons_of_mem _ (List.mem_cons_of_mem _ (List.mem_cons_of_mem _ (List.mem_cons_of_mem _ List.mem_cons_self)))))))))))
  have XC_NoMeet : ExcC K (He.ga K "NoMeet") := ⟨(He.eqO_ok y30), (He.eqO_ok y31), of_decide_eq_true (He.ba (He.ba (He.ba (xf (.exc "NoMeet") (List.mem_cons_of_mem _ (List.mem_cons_of_mem _ (List.mem_cons_of_mem _ (List.mem_cons_of_mem _ (List.mem_cons_of_mem _ (List.mem_cons_of_mem _ List.mem_cons_self)))))))).2).2).1, y32, (He.eqO_ok y33), (He.eqO_ok y40), (of_decide_eq_true y41), (of_decide_eq_true y34)⟩
  have WC_NoMeet : WdC K RR (He.ga K "NoMeet") false false false true := ⟨XC_NoMeet, (of_decide_eq_true y35), (of_decide_eq_true y36), (of_decide_eq_true y37), (of_decide_eq_true y38), (of_decide_eq_true y39)⟩
  have XM_NoMeet := He.exm_ok (xf (.exm "NoMeet" "MeetError" true) (List.mem_cons_of_mem _ (List.mem_cons_of_mem _ (List.mem_cons_of_mem _ (List.mem_cons_of_mem _ (List.mem_cons_of_mem _ (List.mem_cons_of_mem _ (List.mem_cons_of_mem _ (List.mem_cons_of_mem _ (List.mem_cons_of_mem _ (List.mem_cons_of_mem _ (List.mem_cons_of_mem _ List.mem_cons_self))))))))))))
  have WD : Wds K RR (He.ga K "MeetError") := ⟨WC_BadName, WC_BadRow, WC_TooMany, WC_NoMeet, XM_BadName, XM_BadRow, XM_TooMany, XM_NoMeet⟩
  have ISB : IsB K (He.ga K "Book") := ⟨(He.eqO_ok y42), (He.eqO_ok y40), (of_decide_eq_true y41), (of_decide_eq_true y43), (of_decide_eq_true m43)⟩
  have GW : WdG mg RR := ⟨gl "BadName" (by decide), gl "BadRow" (by decide), gl "TooMany" (by decide), gl "NoMeet" (by decide), gl "NoRow" (by decide), gl "Unread" (by decide)⟩
  refine ⟨fd33, tf.map (He.cT K), spLawG K NN, fun p hp => ?_, fun p hp => ?_, fun p hp => ?_, fun s v => b s [v] rfl, fun H a ns hl hb ht hS => ?_, fun base hB gB hT => ?_⟩
  · obtain ⟨d, hd, rfl⟩ := List.mem_map.mp hp
    exact c.empty d hd
  · obtain ⟨d, hd, rfl⟩ := List.mem_map.mp hp
    exact c.out d hd
  · obtain ⟨d, hd, rfl⟩ := List.mem_map.mp hp
    exact PySem.W.codeHd_of_K X (c.hd d hd)
  · have tg : ∀ d ∈ tf, TabG H (He.cT K d).2 := fun d hd => ⟨#[], ht _ (List.mem_map.mpr ⟨d, hd, rfl⟩), trivial⟩
    exact ⟨a, ns, rfl, hS, ⟨⟨tg ("is_name", none) (by decide), tg ("within", none) (by decide), tg ("meets", none) (by decide), tg ("least_of", none) (by decide)⟩, tg ("Book", some "_met_by") (by decide), tg ("Book", some "own") (by decide)⟩, fun _ => rfl⟩
  · have tb : ∀ d ∈ tf, Tb K base mg d := fun d hd => have z := hT _ (List.mem_map.mpr ⟨d, hd, rfl⟩); ⟨z.code, z.bm, z.gP⟩
    have G_is_name : FnOk PySem.Challenge.rw_meetrows_k12_what_is_refused.prog w K mg base CX0 1 _ _ ["thing"] (spIsName K (He.cT K ("is_name", none)).2) := ok_isname F_is_name (tb _ (by decide)) (fr "all" (by decide)) (fr "isinstance" (by decide)) (fr "str" (by decide)) (fr "len" (by decide)) gM
    have B_is_name : Binds K _ ["thing"] [] := F_is_name.bindsN fun _ _ _ _ _ _ us hl => match us, hl with | [_], _ => rfl
    have C_is_name : Calls PySem.Challenge.rw_meetrows_k12_what_is_refused.prog w K mg base CX0 1 "is_name" (spIsName K (He.cT K ("is_name", none)).2) := ⟨_, _, _, G_is_name, gl "is_name" (by decide), F_is_name.kp, B_is_name⟩
    have G__once_each : FnOk PySem.Challenge.rw_meetrows_k12_what_is_refused.prog w K mg base CX0 1 _ _ ["names"] (spOnce K) := ok_once F__once_each (fr "sorted" (by decide)) (fr "set" (by decide))
    have B__once_each : Binds K _ ["names"] [] := F__once_each.bindsN fun _ _ _ _ _ _ us hl => match us, hl with | [_], _ => rfl
    have C__once_each : Calls PySem.Challenge.rw_meetrows_k12_what_is_refused.prog w K mg base CX0 1 "_once_each" (spOnce K) := ⟨_, _, _, G__once_each, gl "_once_each" (by decide), F__once_each.kp, B__once_each⟩
    have G_within : FnOk PySem.Challenge.rw_meetrows_k12_what_is_refused.prog w K mg base CX0 1 _ _ ["one", "other"] (spWithin K (He.cT K ("within", none)).2) := ok_within F_within (tb _ (by decide)) (fr "all" (by decide))
    have B_within : Binds K _ ["one", "other"] [] := F_within.bindsN fun _ _ _ _ _ _ us hl => match us, hl with | [_, _], _ => rfl
    have C_within : Calls PySem.Challenge.rw_meetrows_k12_what_is_refused.prog w K mg base CX0 1 "within" (spWithin K (He.cT K ("within", none)).2) := ⟨_, _, _, G_within, gl "within" (by decide), F_within.kp, B_within⟩
    have G_meets : FnOk PySem.Challenge.rw_meetrows_k12_what_is_refused.prog w K mg base CX0 1 _ _ ["one", "other"] (spMeets K (He.cT K ("meets", none)).2) := ok_meets F_meets (tb _ (by decide)) (fr "any" (by decide))
    have B_meets : Binds K _ ["one", "other"] [] := F_meets.bindsN fun _ _ _ _ _ _ us hl => match us, hl with | [_, _], _ => rfl
    have C_meets : Calls PySem.Challenge.rw_meetrows_k12_what_is_refused.prog w K mg base CX0 1 "meets" (spMeets K (He.cT K ("meets", none)).2) := ⟨_, _, _, G_meets, gl "meets" (by decide), F_meets.kp, B_meets⟩
    have C_meets_sets : Calls PySem.Challenge.rw_meetrows_k12_what_is_refused.prog w K mg base CX0 1 "meets_sets" (spMeets K (He.cT K ("meets", none)).2) := ⟨_, _, _, G_meets, (gl "meets_sets" (by decide)).trans (congrArg (fun z => some (Value.ref z)) alq), F_meets.kp, B_meets⟩
    have G_rising : FnOk PySem.Challenge.rw_meetrows_k12_what_is_refused.prog w K mg base (L2.CX PySem.Challenge.rw_meetrows_k12_what_is_refused.prog w) 2 _ _ ["names"] (spRising K (He.cT K ("is_name", none)).2 (He.ga K "BadName")) := ok_rising F_rising G_is_name B_is_name F_is_name.kp (gl "is_name" (by decide)) G__once_each B__once_each F__once_each.kp (gl "_once_each" (by decide)) EC_BadName (fr "enumerate" (by decide)) gM
    have B_rising : Binds K _ ["names"] [] := F_rising.bindsN fun _ _ _ _ _ _ us hl => match us, hl with | [_], _ => rfl
    have C_rising : Calls PySem.Challenge.rw_meetrows_k12_what_is_refused.prog w K mg base (L2.CX PySem.Challenge.rw_meetrows_k12_what_is_refused.prog w) 2 "rising" (spRising K (He.cT K ("is_name", none)).2 (He.ga K "BadName")) := ⟨_, _, _, G_rising, gl "rising" (by decide), F_rising.kp, B_rising⟩
    have G_names_from : FnOk PySem.Challenge.rw_meetrows_k12_what_is_refused.prog w K mg base (L2.CX PySem.Challenge.rw_meetrows_k12_what_is_refused.prog w) 3 _ _ ["thing"] (spNamesFrom K NN.i RR) := ok_names_from F_names_from C_rising EC_BadRow (fr "isinstance" (by decide)) (fr "list" (by decide))
    have B_names_from : Binds K _ ["thing"] [] := F_names_from.bindsN fun _ _ _ _ _ _ us hl => match us, hl with | [_], _ => rfl
    have C_names_from : Calls PySem.Challenge.rw_meetrows_k12_what_is_refused.prog w K mg base (L2.CX PySem.Challenge.rw_meetrows_k12_what_is_refused.prog w) 3 "names_from" (spNamesFrom K NN.i RR) := ⟨_, _, _, G_names_from, gl "names_from" (by decide), F_names_from.kp, B_names_from⟩
    have G_row_from : FnOk PySem.Challenge.rw_meetrows_k12_what_is_refused.prog w K mg base (L2.CX PySem.Challenge.rw_meetrows_k12_what_is_refused.prog w) 4 _ _ ["thing"] (spRowFrom K NN.i RR) := ok_row_from F_row_from C_names_from EC_BadRow (fr "len" (by decide))
    have B_row_from : Binds K _ ["thing"] [] := F_row_from.bindsN fun _ _ _ _ _ _ us hl => match us, hl with | [_], _ => rfl
    have C_row_from : Calls PySem.Challenge.rw_meetrows_k12_what_is_refused.prog w K mg base (L2.CX PySem.Challenge.rw_meetrows_k12_what_is_refused.prog w) 4 "row_from" (spRowFrom K NN.i RR) := ⟨_, _, _, G_row_from, gl "row_from" (by decide), F_row_from.kp, B_row_from⟩
    have G__law_draw : FnOk PySem.Challenge.rw_meetrows_k12_what_is_refused.prog w K mg base CX0 1 _ _ ["_law_script", "_law_k"] (spDraw K) := ok_draw F__law_draw (fr "len" (by decide))
    have B__law_draw : Binds K _ ["_law_script", "_law_k"] [] := F__law_draw.bindsN fun _ _ _ _ _ _ us hl => match us, hl with | [_, _], _ => rfl
    have C__law_draw : Calls PySem.Challenge.rw_meetrows_k12_what_is_refused.prog w K mg base CX0 1 "_law_draw" (spDraw K) := ⟨_, _, _, G__law_draw, gl "_law_draw" (by decide), F__law_draw.kp, B__law_draw⟩
    have G_name_from : FnOk PySem.Challenge.rw_meetrows_k12_what_is_refused.prog w K mg base (L2.CX PySem.Challenge.rw_meetrows_k12_what_is_refused.prog w) 2 _ _ ["thing"] (spNameFrom K NN.i RR) := ok_name_from F_name_from C_is_name EC_BadName gM
    have B_name_from : Binds K _ ["thing"] [] := F_name_from.bindsN fun _ _ _ _ _ _ us hl => match us, hl with | [_], _ => rfl
    have C_name_from : Calls PySem.Challenge.rw_meetrows_k12_what_is_refused.prog w K mg base (L2.CX PySem.Challenge.rw_meetrows_k12_what_is_refused.prog w) 2 "name_from" (spNameFrom K NN.i RR) := ⟨_, _, _, G_name_from, gl "name_from" (by decide), F_name_from.kp, B_name_from⟩
    have G_Book___init__ : FnOk PySem.Challenge.rw_meetrows_k12_what_is_refused.prog w K mg base CX0 1 _ _ ["self"] (spInit (He.ga K "Book")) := ok_init F_Book___init__ BC
    have B_Book___init__ : Binds K _ ["self"] [] := F_Book___init__.bindsN fun _ _ _ _ _ _ us hl => match us, hl with | [_], _ => rfl
    have CMK : MkB PySem.Challenge.rw_meetrows_k12_what_is_refused.prog w K mg base (He.ga K "Book") := ⟨_, _, _, G_Book___init__, mk, B_Book___init__⟩
    have G_Book__sets : FnOk PySem.Challenge.rw_meetrows_k12_what_is_refused.prog w K mg base CX0 1 _ _ ["self"] (spBSets (He.ga K "Book")) := ok_bsets F_Book__sets BC (fr "list" (by decide))
    have B_Book__sets : Binds K _ ["self"] [] := F_Book__sets.bindsN fun _ _ _ _ _ _ us hl => match us, hl with | [_], _ => rfl
    have C_Book__sets : MCalls PySem.Challenge.rw_meetrows_k12_what_is_refused.prog w K mg base CX0 1 (He.ga K "Book") "_sets" (spBSets (He.ga K "Book")) := ⟨_, _, _, G_Book__sets, (He.meth_ok (xf (.meth "Book" "_sets") (List.mem_cons_of_mem _ (List.mem_cons_of_mem _ (List.mem_cons_of_mem _ (List.mem_cons_of_mem _ (List.mem_cons_of_mem _ (List.mem_cons_of_mem _ (List.mem_cons_of_mem _ (List.mem_cons_of_mem _ (List.mem_cons_of_mem _ (List.mem_cons_of_mem _ (List.mem_cons_of_mem _ (List.mem_cons_of_mem _ (List.mem_cons_of_mem _ (List.mem_cons_of_mem _ (List.mem_cons_of_mem _ (List.mem_cons_of_mem _ List.mem_cons_self)))))))))))))))))), B_Book__sets⟩
    have G_Book_names : FnOk PySem.Challenge.rw_meetrows_k12_what_is_refused.prog w K mg base CX0 2 _ _ ["self"] (spBNames (He.ga K "Book")) := ok_bnames F_Book_names BC C_Book__sets (fr "sorted" (by decide))
    have B_Book_names : Binds K _ ["self"] [] := F_Book_names.bindsN fun _ _ _ _ _ _ us hl => match us, hl with | [_], _ => rfl
    have C_Book_names : MCalls PySem.Challenge.rw_meetrows_k12_what_is_refused.prog w K mg base CX0 2 (He.ga K "Book") "names" (spBNames (He.ga K "Book")) := ⟨_, _, _, G_Book_names, (He.meth_ok (xf (.meth "Book" "names") (List.mem_cons_of_mem _ (List.mem_cons_of_mem _ (List.mem_cons_of_mem _ (List.mem_cons_of_mem _ (List.mem_cons_of_mem _ (List.mem_cons_of_mem _ (List.mem_cons_of_mem _ (List.mem_cons_of_mem _ (List.mem_cons_of_mem _ (List.mem_cons_of_mem _ (List.mem_cons_of_mem _ (List.mem_cons_of_mem _ (List.mem_cons_of_mem _ (List.mem_cons_of_mem _ (List.mem_cons_of_mem _ (List.mem_cons_of_mem _ (List.mem_cons_of_mem _ List.mem_cons_self))))))))))))))))))), B_Book_names⟩
    have G_Book_put : FnOk PySem.Challenge.rw_meetrows_k12_what_is_refused.prog w K mg base (L2.CX PySem.Challenge.rw_meetrows_k12_what_is_refused.prog w) 5 _ _ ["self", "row"] (spPut K (He.ga K "Book") NN RR) := ok_put F_Book_put BC C_row_from C_rising C_Book_names EC_TooMany (fr "len" (by decide)) gI_MOST_ROWS_books gI_MOST_NAMES_books
    have B_Book_put : Binds K _ ["self", "row"] [] := F_Book_put.bindsN fun _ _ _ _ _ _ us hl => match us, hl with | [_, _], _ => rfl
    have C_Book_put : MCalls PySem.Challenge.rw_meetrows_k12_what_is_refused.prog w K mg base (L2.CX PySem.Challenge.rw_meetrows_k12_what_is_refused.prog w) 5 (He.ga K "Book") "put" (spPut K (He.ga K "Book") NN RR) := ⟨_, _, _, G_Book_put, (He.meth_ok (xf (.meth "Book" "put") (List.mem_cons_of_mem _ (List.mem_cons_of_mem _ (List.mem_cons_of_mem _ (List.mem_cons_of_mem _ (List.mem_cons_of_mem _ (List.mem_cons_of_mem _ (List.mem_cons_of_mem _ (List.mem_cons_of_mem _ (List.mem_cons_of_mem _ (List.mem_cons_of_mem _ (List.mem_cons_of_mem _ (List.mem_cons_of_mem _ (List.mem_cons_of_mem _ (List.mem_cons_of_mem _ (List.mem_cons_of_mem _ (List.mem_cons_of_mem _ (List.mem_cons_of_mem _ (List.mem_cons_of_mem _ List.mem_cons_self)))))))))))))))))))), B_Book_put⟩
    have G_Book_take : FnOk PySem.Challenge.rw_meetrows_k12_what_is_refused.prog w K mg base (L2.CX PySem.Challenge.rw_meetrows_k12_what_is_refused.prog w) 1 _ _ ["self", "number"] (spTake K (He.ga K "Book") RR) := ok_take F_Book_take BC EC_NoRow (fr "isinstance" (by decide)) (fr "int" (by decide)) (fr "bool" (by decide))
    have B_Book_take : Binds K _ ["self", "number"] [] := F_Book_take.bindsN fun _ _ _ _ _ _ us hl => match us, hl with | [_, _], _ => rfl
    have C_Book_take : MCalls PySem.Challenge.rw_meetrows_k12_what_is_refused.prog w K mg base (L2.CX PySem.Challenge.rw_meetrows_k12_what_is_refused.prog w) 1 (He.ga K "Book") "take" (spTake K (He.ga K "Book") RR) := ⟨_, _, _, G_Book_take, (He.meth_ok (xf (.meth "Book" "take") (List.mem_cons_of_mem _ (List.mem_cons_of_mem _ (List.mem_cons_of_mem _ (List.mem_cons_of_mem _ (List.mem_cons_of_mem _ (List.mem_cons_of_mem _ (List.mem_cons_of_mem _ (List.mem_cons_of_mem _ (List.mem_cons_of_mem _ (List.mem_cons_of_mem _ (List.mem_cons_of_mem _ (List.mem_cons_of_mem _ (List.mem_cons_of_mem _ (List.mem_cons_of_mem _ (List.mem_cons_of_mem _ (List.mem_cons_of_mem _ (List.mem_cons_of_mem _ (List.mem_cons_of_mem _ (List.mem_cons_of_mem _ List.mem_cons_self))))))))))))))))))))), B_Book_take⟩
    have G_Book_rows : FnOk PySem.Challenge.rw_meetrows_k12_what_is_refused.prog w K mg base CX0 1 _ _ ["self"] (spBRows (He.ga K "Book")) := ok_brows F_Book_rows BC (fr "list" (by decide))
    have B_Book_rows : Binds K _ ["self"] [] := F_Book_rows.bindsN fun _ _ _ _ _ _ us hl => match us, hl with | [_], _ => rfl
    have C_Book_rows : MCalls PySem.Challenge.rw_meetrows_k12_what_is_refused.prog w K mg base CX0 1 (He.ga K "Book") "rows" (spBRows (He.ga K "Book")) := ⟨_, _, _, G_Book_rows, (He.meth_ok (xf (.meth "Book" "rows") (List.mem_cons_of_mem _ (List.mem_cons_of_mem _ (List.mem_cons_of_mem _ (List.mem_cons_of_mem _ (List.mem_cons_of_mem _ (List.mem_cons_of_mem _ (List.mem_cons_of_mem _ (List.mem_cons_of_mem _ (List.mem_cons_of_mem _ (List.mem_cons_of_mem _ (List.mem_cons_of_mem _ (List.mem_cons_of_mem _ (List.mem_cons_of_mem _ (List.mem_cons_of_mem _ (List.mem_cons_of_mem _ (List.mem_cons_of_mem _ (List.mem_cons_of_mem _ (List.mem_cons_of_mem _ (List.mem_cons_of_mem _ (List.mem_cons_of_mem _ List.mem_cons_self)))))))))))))))))))))), B_Book_rows⟩
    have G_Book__met_by : FnOk PySem.Challenge.rw_meetrows_k12_what_is_refused.prog w K mg base CX0 4 _ _ ["self", "one"] (spBMetBy K (He.ga K "Book") NN) := ok_metby F_Book__met_by (tb _ (by decide)) rfl BC C_Book__sets C_meets_sets (fr "all" (by decide))
    have B_Book__met_by : Binds K _ ["self", "one"] [] := F_Book__met_by.bindsN fun _ _ _ _ _ _ us hl => match us, hl with | [_, _], _ => rfl
    have C_Book__met_by : MCalls PySem.Challenge.rw_meetrows_k12_what_is_refused.prog w K mg base CX0 4 (He.ga K "Book") "_met_by" (spBMetBy K (He.ga K "Book") NN) := ⟨_, _, _, G_Book__met_by, (He.meth_ok (xf (.meth "Book" "_met_by") (List.mem_cons_of_mem _ (List.mem_cons_of_mem _ (List.mem_cons_of_mem _ (List.mem_cons_of_mem _ (List.mem_cons_of_mem _ (List.mem_cons_of_mem _ (List.mem_cons_of_mem _ (List.mem_cons_of_mem _ (List.mem_cons_of_mem _ (List.mem_cons_of_mem _ (List.mem_cons_of_mem _ (List.mem_cons_of_mem _ (List.mem_cons_of_mem _ (List.mem_cons_of_mem _ (List.mem_cons_of_mem _ (List.mem_cons_of_mem _ (List.mem_cons_of_mem _ (List.mem_cons_of_mem _ (List.mem_cons_of_mem _ (List.mem_cons_of_mem _ (List.mem_cons_of_mem _ List.mem_cons_self))))))))))))))))))))))), B_Book__met_by⟩
    have G_Book_meets : FnOk PySem.Challenge.rw_meetrows_k12_what_is_refused.prog w K mg base (L2.CX PySem.Challenge.rw_meetrows_k12_what_is_refused.prog w) 5 _ _ ["self", "names"] (spBMeets K (He.ga K "Book") NN RR) := ok_bmeets F_Book_meets BC C_names_from C_Book__met_by
    have B_Book_meets : Binds K _ ["self", "names"] [] := F_Book_meets.bindsN fun _ _ _ _ _ _ us hl => match us, hl with | [_, _], _ => rfl
    have C_Book_meets : MCalls PySem.Challenge.rw_meetrows_k12_what_is_refused.prog w K mg base (L2.CX PySem.Challenge.rw_meetrows_k12_what_is_refused.prog w) 5 (He.ga K "Book") "meets" (spBMeets K (He.ga K "Book") NN RR) := ⟨_, _, _, G_Book_meets, (He.meth_ok (xf (.meth "Book" "meets") (List.mem_cons_of_mem _ (List.mem_cons_of_mem _ (List.mem_cons_of_mem _ (List.mem_cons_of_mem _ (List.mem_cons_of_mem _ (List.mem_cons_of_mem _ (List.mem_cons_of_mem _ (List.mem_cons_of_mem _ (List.mem_cons_of_mem _ (List.mem_cons_of_mem _ (List.mem_cons_of_mem _ (List.mem_cons_of_mem _ (List.mem_cons_of_mem _ (List.mem_cons_of_mem _ (List.mem_cons_of_mem _ (List.mem_cons_of_mem _ (List.mem_cons_of_mem _ (List.mem_cons_of_mem _ (List.mem_cons_of_mem _ (List.mem_cons_of_mem _ (List.mem_cons_of_mem _ (List.mem_cons_of_mem _ List.mem_cons_self)))))))))))))))))))))))), B_Book_meets⟩
    have G_Book__meeting : FnOk PySem.Challenge.rw_meetrows_k12_what_is_refused.prog w K mg base (L2.CX PySem.Challenge.rw_meetrows_k12_what_is_refused.prog w) 5 _ _ ["self", "names"] (spBMeeting K (He.ga K "Book") NN RR) := ok_bmeeting F_Book__meeting BC C_names_from C_Book__met_by EC_NoMeet
    have B_Book__meeting : Binds K _ ["self", "names"] [] := F_Book__meeting.bindsN fun _ _ _ _ _ _ us hl => match us, hl with | [_, _], _ => rfl
    have C_Book__meeting : MCalls PySem.Challenge.rw_meetrows_k12_what_is_refused.prog w K mg base (L2.CX PySem.Challenge.rw_meetrows_k12_what_is_refused.prog w) 5 (He.ga K "Book") "_meeting" (spBMeeting K (He.ga K "Book") NN RR) := ⟨_, _, _, G_Book__meeting, (He.meth_ok (xf (.meth "Book" "_meeting") (List.mem_cons_of_mem _ (List.mem_cons_of_mem _ (List.mem_cons_of_mem _ (List.mem_cons_of_mem _ (List.mem_cons_of_mem _ (List.mem_cons_of_mem _ (List.mem_cons_of_mem _ (List.mem_cons_of_mem _ (List.mem_cons_of_mem _ (List.mem_cons_of_mem _ (List.mem_cons_of_mem _ (List.mem_cons_of_mem _ (List.mem_cons_of_mem _ (List.mem_cons_of_mem _ (List.mem_cons_of_mem _ (List.mem_cons_of_mem _ (List.mem_cons_of_mem _ (List.mem_cons_of_mem _ (List.mem_cons_of_mem _ (List.mem_cons_of_mem _ (List.mem_cons_of_mem _ (List.mem_cons_of_mem _ (List.mem_cons_of_mem _ List.mem_cons_self))))))))))))))))))))))))), B_Book__meeting⟩
    have G__book_of : FnOk PySem.Challenge.rw_meetrows_k12_what_is_refused.prog w K mg base (L2.CX PySem.Challenge.rw_meetrows_k12_what_is_refused.prog w) 6 _ _ ["rows"] (spBookOf (He.ga K "Book") NN RR) := ok_book_of F__book_of BC CMK C_Book_put
    have B__book_of : Binds K _ ["rows"] [] := F__book_of.bindsN fun _ _ _ _ _ _ us hl => match us, hl with | [_], _ => rfl
    have C__book_of : Calls PySem.Challenge.rw_meetrows_k12_what_is_refused.prog w K mg base (L2.CX PySem.Challenge.rw_meetrows_k12_what_is_refused.prog w) 6 "_book_of" (spBookOf (He.ga K "Book") NN RR) := ⟨_, _, _, G__book_of, gl "_book_of" (by decide), F__book_of.kp, B__book_of⟩
    have G_Book_struck : FnOk PySem.Challenge.rw_meetrows_k12_what_is_refused.prog w K mg base (L2.CX PySem.Challenge.rw_meetrows_k12_what_is_refused.prog w) 7 _ _ ["self", "name"] (spStruck K (He.ga K "Book") NN RR strike) := ok_struck F_Book_struck BC C_name_from C__book_of C_Book__sets
    have B_Book_struck : Binds K _ ["self", "name"] [] := F_Book_struck.bindsN fun _ _ _ _ _ _ us hl => match us, hl with | [_, _], _ => rfl
    have C_Book_struck : MCalls PySem.Challenge.rw_meetrows_k12_what_is_refused.prog w K mg base (L2.CX PySem.Challenge.rw_meetrows_k12_what_is_refused.prog w) 7 (He.ga K "Book") "struck" (spStruck K (He.ga K "Book") NN RR strike) := ⟨_, _, _, G_Book_struck, (He.meth_ok (xf (.meth "Book" "struck") (List.mem_cons_of_mem _ (List.mem_cons_of_mem _ (List.mem_cons_of_mem _ (List.mem_cons_of_mem _ (List.mem_cons_of_mem _ (List.mem_cons_of_mem _ (List.mem_cons_of_mem _ (List.mem_cons_of_mem _ (List.mem_cons_of_mem _ (List.mem_cons_of_mem _ (List.mem_cons_of_mem _ (List.mem_cons_of_mem _ (List.mem_cons_of_mem _ (List.mem_cons_of_mem _ (List.mem_cons_of_mem _ (List.mem_cons_of_mem _ (List.mem_cons_of_mem _ (List.mem_cons_of_mem _ (List.mem_cons_of_mem _ (List.mem_cons_of_mem _ (List.mem_cons_of_mem _ (List.mem_cons_of_mem _ (List.mem_cons_of_mem _ (List.mem_cons_of_mem _ List.mem_cons_self)))))))))))))))))))))))))), B_Book_struck⟩
    have G_Book_without : FnOk PySem.Challenge.rw_meetrows_k12_what_is_refused.prog w K mg base (L2.CX PySem.Challenge.rw_meetrows_k12_what_is_refused.prog w) 7 _ _ ["self", "name"] (spStruck K (He.ga K "Book") NN RR away) := ok_without F_Book_without BC C_name_from C__book_of C_Book__sets
    have B_Book_without : Binds K _ ["self", "name"] [] := F_Book_without.bindsN fun _ _ _ _ _ _ us hl => match us, hl with | [_, _], _ => rfl
    have C_Book_without : MCalls PySem.Challenge.rw_meetrows_k12_what_is_refused.prog w K mg base (L2.CX PySem.Challenge.rw_meetrows_k12_what_is_refused.prog w) 7 (He.ga K "Book") "without" (spStruck K (He.ga K "Book") NN RR away) := ⟨_, _, _, G_Book_without, (He.meth_ok (xf (.meth "Book" "without") (List.mem_cons_of_mem _ (List.mem_cons_of_mem _ (List.mem_cons_of_mem _ (List.mem_cons_of_mem _ (List.mem_cons_of_mem _ (List.mem_cons_of_mem _ (List.mem_cons_of_mem _ (List.mem_cons_of_mem _ (List.mem_cons_of_mem _ (List.mem_cons_of_mem _ (List.mem_cons_of_mem _ (List.mem_cons_of_mem _ (List.mem_cons_of_mem _ (List.mem_cons_of_mem _ (List.mem_cons_of_mem _ (List.mem_cons_of_mem _ (List.mem_cons_of_mem _ (List.mem_cons_of_mem _ (List.mem_cons_of_mem _ (List.mem_cons_of_mem _ (List.mem_cons_of_mem _ (List.mem_cons_of_mem _ (List.mem_cons_of_mem _ (List.mem_cons_of_mem _ (List.mem_cons_of_mem _ List.mem_cons_self))))))))))))))))))))))))))), B_Book_without⟩
    have G_Book_joined : FnOk PySem.Challenge.rw_meetrows_k12_what_is_refused.prog w K mg base (L2.CX PySem.Challenge.rw_meetrows_k12_what_is_refused.prog w) 7 _ _ ["self", "other"] (spJoined K (He.ga K "Book") NN RR (fun A B => A ++ B)) := ok_joined F_Book_joined BC C__book_of C_Book__sets
    have B_Book_joined : Binds K _ ["self", "other"] [] := F_Book_joined.bindsN fun _ _ _ _ _ _ us hl => match us, hl with | [_, _], _ => rfl
    have C_Book_joined : MCalls PySem.Challenge.rw_meetrows_k12_what_is_refused.prog w K mg base (L2.CX PySem.Challenge.rw_meetrows_k12_what_is_refused.prog w) 7 (He.ga K "Book") "joined" (spJoined K (He.ga K "Book") NN RR (fun A B => A ++ B)) := ⟨_, _, _, G_Book_joined, (He.meth_ok (xf (.meth "Book" "joined") (List.mem_cons_of_mem _ (List.mem_cons_of_mem _ (List.mem_cons_of_mem _ (List.mem_cons_of_mem _ (List.mem_cons_of_mem _ (List.mem_cons_of_mem _ (List.mem_cons_of_mem _ (List.mem_cons_of_mem _ (List.mem_cons_of_mem _ (List.mem_cons_of_mem _ (List.mem_cons_of_mem _ (List.mem_cons_of_mem _ (List.mem_cons_of_mem _ (List.mem_cons_of_mem _ (List.mem_cons_of_mem _ (List.mem_cons_of_mem _ (List.mem_cons_of_mem _ (List.mem_cons_of_mem _ (List.mem_cons_of_mem _ (List.mem_cons_of_mem _ (List.mem_cons_of_mem _ (List.mem_cons_of_mem _ (List.mem_cons_of_mem _ (List.mem_cons_of_mem _ (List.mem_cons_of_mem _ (List.mem_cons_of_mem _ List.mem_cons_self)))))))))))))))))))))))))))), B_Book_joined⟩
    have G_Book_crossed : FnOk PySem.Challenge.rw_meetrows_k12_what_is_refused.prog w K mg base (L2.CX PySem.Challenge.rw_meetrows_k12_what_is_refused.prog w) 7 _ _ ["self", "other"] (spJoined K (He.ga K "Book") NN RR unions) := ok_crossed F_Book_crossed BC C__book_of C_rising C_Book__sets
    have B_Book_crossed : Binds K _ ["self", "other"] [] := F_Book_crossed.bindsN fun _ _ _ _ _ _ us hl => match us, hl with | [_, _], _ => rfl
    have C_Book_crossed : MCalls PySem.Challenge.rw_meetrows_k12_what_is_refused.prog w K mg base (L2.CX PySem.Challenge.rw_meetrows_k12_what_is_refused.prog w) 7 (He.ga K "Book") "crossed" (spJoined K (He.ga K "Book") NN RR unions) := ⟨_, _, _, G_Book_crossed, (He.meth_ok (xf (.meth "Book" "crossed") (List.mem_cons_of_mem _ (List.mem_cons_of_mem _ (List.mem_cons_of_mem _ (List.mem_cons_of_mem _ (List.mem_cons_of_mem _ (List.mem_cons_of_mem _ (List.mem_cons_of_mem _ (List.mem_cons_of_mem _ (List.mem_cons_of_mem _ (List.mem_cons_of_mem _ (List.mem_cons_of_mem _ (List.mem_cons_of_mem _ (List.mem_cons_of_mem _ (List.mem_cons_of_mem _ (List.mem_cons_of_mem _ (List.mem_cons_of_mem _ (List.mem_cons_of_mem _ (List.mem_cons_of_mem _ (List.mem_cons_of_mem _ (List.mem_cons_of_mem _ (List.mem_cons_of_mem _ (List.mem_cons_of_mem _ (List.mem_cons_of_mem _ (List.mem_cons_of_mem _ (List.mem_cons_of_mem _ (List.mem_cons_of_mem _ (List.mem_cons_of_mem _ List.mem_cons_self))))))))))))))))))))))))))))), B_Book_crossed⟩
    have G_Book_pared : FnOk PySem.Challenge.rw_meetrows_k12_what_is_refused.prog w K mg base (L2.CX PySem.Challenge.rw_meetrows_k12_what_is_refused.prog w) 6 _ _ ["self", "names"] (spBPared K (He.ga K "Book") NN RR) := ok_bpared F_Book_pared BC C_Book__meeting C_Book__met_by (fr "reversed" (by decide))
    have B_Book_pared : Binds K _ ["self", "names"] [] := F_Book_pared.bindsN fun _ _ _ _ _ _ us hl => match us, hl with | [_, _], _ => rfl
    have C_Book_pared : MCalls PySem.Challenge.rw_meetrows_k12_what_is_refused.prog w K mg base (L2.CX PySem.Challenge.rw_meetrows_k12_what_is_refused.prog w) 6 (He.ga K "Book") "pared" (spBPared K (He.ga K "Book") NN RR) := ⟨_, _, _, G_Book_pared, (He.meth_ok (xf (.meth "Book" "pared") (List.mem_cons_of_mem _ (List.mem_cons_of_mem _ (List.mem_cons_of_mem _ (List.mem_cons_of_mem _ (List.mem_cons_of_mem _ (List.mem_cons_of_mem _ (List.mem_cons_of_mem _ (List.mem_cons_of_mem _ (List.mem_cons_of_mem _ (List.mem_cons_of_mem _ (List.mem_cons_of_mem _ (List.mem_cons_of_mem _ (List.mem_cons_of_mem _ (List.mem_cons_of_mem _ (List.mem_cons_of_mem _ (List.mem_cons_of_mem _ (List.mem_cons_of_mem _ (List.mem_cons_of_mem _ (List.mem_cons_of_mem _ (List.mem_cons_of_mem _ (List.mem_cons_of_mem _ (List.mem_cons_of_mem _ (List.mem_cons_of_mem _ (List.mem_cons_of_mem _ (List.mem_cons_of_mem _ (List.mem_cons_of_mem _ (List.mem_cons_of_mem _ (List.mem_cons_of_mem _ List.mem_cons_self)))))))))))))))))))))))))))))), B_Book_pared⟩
    have G_Book__first_own : FnOk PySem.Challenge.rw_meetrows_k12_what_is_refused.prog w K mg base CX0 1 _ _ ["self", "name", "asked"] (spFirstOwn K (He.ga K "Book")) := ok_first_own F_Book__first_own BC
    have B_Book__first_own : Binds K _ ["self", "name", "asked"] [] := F_Book__first_own.bindsN fun _ _ _ _ _ _ us hl => match us, hl with | [_, _, _], _ => rfl
    have C_Book__first_own : MCalls PySem.Challenge.rw_meetrows_k12_what_is_refused.prog w K mg base CX0 1 (He.ga K "Book") "_first_own" (spFirstOwn K (He.ga K "Book")) := ⟨_, _, _, G_Book__first_own, (He.meth_ok (xf (.meth "Book" "_first_own") (List.mem_cons_of_mem _ (List.mem_cons_of_mem _ (List.mem_cons_of_mem _ (List.mem_cons_of_mem _ (List.mem_cons_of_mem _ (List.mem_cons_of_mem _ (List.mem_cons_of_mem _ (List.mem_cons_of_mem _ (List.mem_cons_of_mem _ (List.mem_cons_of_mem _ (List.mem_cons_of_mem _ (List.mem_cons_of_mem _ (List.mem_cons_of_mem _ (List.mem_cons_of_mem _ (List.mem_cons_of_mem _ (List.mem_cons_of_mem _ (List.mem_cons_of_mem _ (List.mem_cons_of_mem _ (List.mem_cons_of_mem _ (List.mem_cons_of_mem _ (List.mem_cons_of_mem _ (List.mem_cons_of_mem _ (List.mem_cons_of_mem _ (List.mem_cons_of_mem _ (List.mem_cons_of_mem _ (List.mem_cons_of_mem _ (List.mem_cons_of_mem _ (List.mem_cons_of_mem _ (List.mem_cons_of_mem _ List.mem_cons_self))))))))))))))))))))))))))))))), B_Book__first_own⟩
    have G_Book_own : FnOk PySem.Challenge.rw_meetrows_k12_what_is_refused.prog w K mg base (L2.CX PySem.Challenge.rw_meetrows_k12_what_is_refused.prog w) 6 _ _ ["self", "names"] (spBOwn K (He.ga K "Book") NN RR) := ok_own F_Book_own (tb _ (by decide)) rfl BC C_Book__meeting C_Book__first_own EC_NoMeet (fr "any" (by decide))
    have B_Book_own : Binds K _ ["self", "names"] [] := F_Book_own.bindsN fun _ _ _ _ _ _ us hl => match us, hl with | [_, _], _ => rfl
    have C_Book_own : MCalls PySem.Challenge.rw_meetrows_k12_what_is_refused.prog w K mg base (L2.CX PySem.Challenge.rw_meetrows_k12_what_is_refused.prog w) 6 (He.ga K "Book") "own" (spBOwn K (He.ga K "Book") NN RR) := ⟨_, _, _, G_Book_own, (He.meth_ok (xf (.meth "Book" "own") (List.mem_cons_of_mem _ (List.mem_cons_of_mem _ (List.mem_cons_of_mem _ (List.mem_cons_of_mem _ (List.mem_cons_of_mem _ (List.mem_cons_of_mem _ (List.mem_cons_of_mem _ (List.mem_cons_of_mem _ (List.mem_cons_of_mem _ (List.mem_cons_of_mem _ (List.mem_cons_of_mem _ (List.mem_cons_of_mem _ (List.mem_cons_of_mem _ (List.mem_cons_of_mem _ (List.mem_cons_of_mem _ (List.mem_cons_of_mem _ (List.mem_cons_of_mem _ (List.mem_cons_of_mem _ (List.mem_cons_of_mem _ (List.mem_cons_of_mem _ (List.mem_cons_of_mem _ (List.mem_cons_of_mem _ (List.mem_cons_of_mem _ (List.mem_cons_of_mem _ (List.mem_cons_of_mem _ (List.mem_cons_of_mem _ (List.mem_cons_of_mem _ (List.mem_cons_of_mem _ (List.mem_cons_of_mem _ (List.mem_cons_of_mem _ List.mem_cons_self)))))))))))))))))))))))))))))))), B_Book_own⟩
    have G__law_words : FnQ PySem.Challenge.rw_meetrows_k12_what_is_refused.prog w K mg base 1 _ _ ["_law_e"] (spWords K RR) := ok_words F__law_words GW (fr "isinstance" (by decide)) (fr "int" (by decide)) (fr "ValueError" (by decide))
    have B__law_words : Binds K _ ["_law_e"] [] := F__law_words.bindsN fun _ _ _ _ _ _ us hl => match us, hl with | [_], _ => rfl
    have C__law_words : HCalls PySem.Challenge.rw_meetrows_k12_what_is_refused.prog w K mg base 1 "_law_words" (spWords K RR) := ⟨_, _, _, G__law_words, gl "_law_words" (by decide), F__law_words.kp, B__law_words⟩
    have G__law_call : FnOk PySem.Challenge.rw_meetrows_k12_what_is_refused.prog w K mg base CX0 8 _ _ ["_law_book", "_law_way", "_law_thing"] (spLCall K (He.ga K "Book") NN) := ok_lcall (R := RR) (M := He.ga K "MeetError") F__law_call ⟨BC, C_Book_put, C_Book_meets, C_Book_pared, C_Book_own, C_Book_struck, C_Book_without, C__law_words, gl "MeetError" (by decide), WD⟩
    have B__law_call : Binds K _ ["_law_book", "_law_way", "_law_thing"] [] := F__law_call.bindsN fun _ _ _ _ _ _ us hl => match us, hl with | [_, _, _], _ => rfl
    have C__law_call : Calls PySem.Challenge.rw_meetrows_k12_what_is_refused.prog w K mg base CX0 8 "_law_call" (spLCall K (He.ga K "Book") NN) := ⟨_, _, _, G__law_call, gl "_law_call" (by decide), F__law_call.kp, B__law_call⟩
    have G__law_odd : FnOk PySem.Challenge.rw_meetrows_k12_what_is_refused.prog w K mg base CX0 1 _ _ ["_law_cell"] (spOdd K) := ok_odd2 F__law_odd
    have B__law_odd : Binds K _ ["_law_cell"] [] := F__law_odd.bindsN fun _ _ _ _ _ _ us hl => match us, hl with | [_], _ => rfl
    have C__law_odd : Calls PySem.Challenge.rw_meetrows_k12_what_is_refused.prog w K mg base CX0 1 "_law_odd" (spOdd K) := ⟨_, _, _, G__law_odd, gl "_law_odd" (by decide), F__law_odd.kp, B__law_odd⟩
    have G__law_list : FnOk PySem.Challenge.rw_meetrows_k12_what_is_refused.prog w K mg base CX0 2 _ _ ["_law_cell", "_law_names"] (spLList K) := ok_llist F__law_list C__law_odd (fr "len" (by decide)) (fr "range" (by decide))
    have B__law_list : Binds K _ ["_law_cell", "_law_names"] [] := F__law_list.bindsN fun _ _ _ _ _ _ us hl => match us, hl with | [_, _], _ => rfl
    have C__law_list : Calls PySem.Challenge.rw_meetrows_k12_what_is_refused.prog w K mg base CX0 2 "_law_list" (spLList K) := ⟨_, _, _, G__law_list, gl "_law_list" (by decide), F__law_list.kp, B__law_list⟩
    have G__law_is_name : FnOk PySem.Challenge.rw_meetrows_k12_what_is_refused.prog w K mg base CX0 1 _ _ ["_law_thing"] (spLIs K) := ok_lis F__law_is_name (fr "isinstance" (by decide)) (fr "str" (by decide)) (fr "len" (by decide))
    have B__law_is_name : Binds K _ ["_law_thing"] [] := F__law_is_name.bindsN fun _ _ _ _ _ _ us hl => match us, hl with | [_], _ => rfl
    have C__law_is_name : Calls PySem.Challenge.rw_meetrows_k12_what_is_refused.prog w K mg base CX0 1 "_law_is_name" (spLIs K) := ⟨_, _, _, G__law_is_name, gl "_law_is_name" (by decide), F__law_is_name.kp, B__law_is_name⟩
    have G__law_due : FnOk PySem.Challenge.rw_meetrows_k12_what_is_refused.prog w K mg base CX0 2 _ _ ["_law_way", "_law_thing", "_law_there", "_law_many"] (spLDue K) := ok_ldue F__law_due C__law_is_name (fr "len" (by decide)) (fr "isinstance" (by decide)) (fr "list" (by decide))
    have B__law_due : Binds K _ ["_law_way", "_law_thing", "_law_there", "_law_many"] [] := F__law_due.bindsN fun _ _ _ _ _ _ us hl => match us, hl with | [_, _, _, _], _ => rfl
    have C__law_due : Calls PySem.Challenge.rw_meetrows_k12_what_is_refused.prog w K mg base CX0 2 "_law_due" (spLDue K) := ⟨_, _, _, G__law_due, gl "_law_due" (by decide), F__law_due.kp, B__law_due⟩
    have G__law_both : FnOk PySem.Challenge.rw_meetrows_k12_what_is_refused.prog w K mg base CX0 8 _ _ ["_law_size", "_law_kinds"] (spBoth K NN) := ok_both (R := RR) (M := He.ga K "MeetError") F__law_both ⟨BC, CMK, C_Book_put, C_Book_take, C_Book_joined, C_Book_crossed, C_Book_rows, C__law_words, gl "MeetError" (by decide), WD, ISB⟩ (fr "len" (by decide)) (fr "isinstance" (by decide)) (fr "range" (by decide))
    have B__law_both : Binds K _ ["_law_size", "_law_kinds"] [] := F__law_both.bindsN fun _ _ _ _ _ _ us hl => match us, hl with | [_, _], _ => rfl
    have C__law_both : Calls PySem.Challenge.rw_meetrows_k12_what_is_refused.prog w K mg base CX0 8 "_law_both" (spBoth K NN) := ⟨_, _, _, G__law_both, gl "_law_both" (by decide), F__law_both.kp, B__law_both⟩
    exact ok_law12 (R := RR) (M := He.ga K "MeetError") F_law ⟨⟨BC, CMK, C_Book_put, C_Book_take, C_Book_joined, C_Book_crossed, C_Book_rows, C__law_words, gl "MeetError" (by decide), WD, ISB⟩, C__law_draw, C__law_list, C__law_odd, C__law_due, C__law_call, C__law_both⟩ gI_MOST_ROWS_books gI_MOST_NAMES_books (fr "len" (by decide)) (fr "list" (by decide)) (fr "range" (by decide)) (fr "int" (by decide))
end K1
open PySem PySem.W PySem.Calls PyProof.Rows
theorem PySem.Challenge.cw_meetrows_k12_what_is_refused_holds : PySem.Challenge.rw_meetrows_k12_what_is_refused.Holds := by
  w_on; o_law
  refine HandSHeadRun.head_any (r := OpenLaw.row PySem.Challenge.rw_meetrows_k12_what_is_refused) (q := view (OpenLaw.row PySem.Challenge.rw_meetrows_k12_what_is_refused).prog [40]) (H := K1.hk) (ob := K1.ob) (M := 8000) (loose := K1.loose) (d := HandSHeadRun.topDef (OpenLaw.row PySem.Challenge.rw_meetrows_k12_what_is_refused).prog 40) (kwd := []) K1.ob_eq
    (by kernel_rfl) (fun s => by kernel_rfl) K1.run (by kernel_rfl) (by kernel_rfl) (by kernel_rfl) (by rfl) (by first | assumption | decide +kernel) (by decide +kernel) ⟨rfl, rfl, rfl, rfl, rfl, by decide +kernel⟩ ?hw ?hc
  case hw => w_witness2
  case hc =>
    refine LamX.walk_ofTsE (l := PySem.Challenge.rw_meetrows_k12_what_is_refused) (n := 63) (k := 9) (x := "_law_script") (CX := fun _ => L2.CX0) rfl (by decide) (by kernel_rfl) ⟨rfl, by decide, by decide⟩ ?F (fun _ _ _ _ _ z => z)
    intro w mg fa h Y G hmg0
    obtain ⟨K, KX, c⟩ := Y
    have hmg : mg ("law" : PySem.Str) = some (.ref fa) := by
      have e : (HandSHeadRun.topDef (OpenLaw.row PySem.Challenge.rw_meetrows_k12_what_is_refused).prog 40).name = ("law" : PySem.Str) := by kernel_rfl
      rw [← e]
      exact hmg0
    exact ⟨K, KX, K1.facts KX G hmg c⟩
end
