import PyProof.Rows.All
import Wide.All
import OpenK.AllK
import Wide.FinOn
import PySem.Challenge.RW_meetrows_k11_written_and_read
import PyProof.EqAt
import PyProof.EqKinds
import PyProof.TupleCall
import KE.SortKeyHeap
import HandS.Base
import HandS.Call
import HandS.List
import HandS.Set
import HandS.Strs
import HandS.TupSets
import HandS.Words
import HandS.AnyAll
import KE.KNest
import HandS.Comp
import HandS.GenOver
import HandS.SortKw
import HandS.SlotsOwn
import HandS.Dict
import HandS.More
import HandS.Conv
import HandS.DictComp
import HandS.ForMost
import HandS.ForExc
import HandS.Flow
import HandS.IsInst
import HandS.Iter
import HandS.Text
import HandS.FStr
import HandS.HeadHook4
import HandS.HeadWalk
import KE.DatumOrd
import HandS.RaiseMore
import HandS.TryOnly
import HandS.ExcIs
import KE.KxText
import HandS.Style
import HandS.Zip
import HandS.Codes
import HandS.Deep
import HandS.SetBool
import HandS.ListItems
import HandS.Star
import HandS.Walk
import KE.DataCmp
import PyProof.SetRoads
import HandS.HotCalls
import PyProof.FitsReplace
import HandS.RaiseFrom
import HandS.SuiteRaise
import HandS.ExcValue
import KE.KExcMore
import HandS.Head0
import HandS.Head1
import HandS.Head2
import HandS.HeadEnd
set_option Elab.async false
set_option linter.all false
set_option maxRecDepth 100000
section
set_option maxHeartbeats 4000000
/-! set(xs) of a list of texts, and what is sorted of it. -/
namespace Sx
open PySem PySem.Spec PyProof.Rows L2

/-! ### each once -/
def once (acc : List Str) (x : Str) : List Str := if x ∈ acc then acc else acc ++ [x]
def dd (xs : List Str) : List Str := xs.foldl once []
theorem once_mem {acc : List Str} {x y : Str} : y ∈ once acc x ↔ y ∈ acc ∨ y = x := by
  unfold once
  split
  · rename_i h
    exact ⟨.inl, fun z => z.elim id fun e => e ▸ h⟩
  · simp
theorem once_nodup {acc : List Str} {x : Str} (h : acc.Nodup) : (once acc x).Nodup := by
  unfold once
  split
  · exact h
  · rename_i hx
    refine List.nodup_append.mpr ⟨h, by simp, fun a ha b hb e => ?_⟩
    have hb : b = x := by simpa using hb
    rw [e, hb] at ha
    exact hx ha
theorem fold_mem : ∀ (xs acc : List Str) (y : Str), y ∈ xs.foldl once acc ↔ y ∈ acc ∨ y ∈ xs
  | [], acc, y => by simp
  | x :: xs, acc, y => by
    rw [List.foldl_cons, fold_mem xs, once_mem, List.mem_cons, or_assoc]
theorem fold_nodup : ∀ (xs acc : List Str), acc.Nodup → (xs.foldl once acc).Nodup
  | [], _, h => h
  | _ :: xs, _, h => fold_nodup xs _ (once_nodup h)
theorem once_len (acc : List Str) (x : Str) : (once acc x).length ≤ acc.length + 1 := by
  unfold once
  split <;> simp
theorem fold_len : ∀ (xs acc : List Str), (xs.foldl once acc).length ≤ acc.length + xs.length
  | [], acc => by simp
  | x :: xs, acc => by
    have h1 := fold_len xs (once acc x)
    have h2 := once_len acc x
    rw [List.foldl_cons, List.length_cons]
    omega
theorem dd_mem {xs : List Str} {y : Str} : y ∈ dd xs ↔ y ∈ xs := by
  unfold dd
  rw [fold_mem]
  simp
theorem dd_nodup (xs : List Str) : (dd xs).Nodup := fold_nodup xs [] List.nodup_nil
theorem dd_len (xs : List Str) : (dd xs).length ≤ xs.length := by
  have h := fold_len xs []
  simpa [dd] using h
theorem dd_id {xs : List Str} (h : xs.Nodup) : dd xs = xs := by
  have gen : ∀ (l acc : List Str), (acc ++ l).Nodup → l.foldl once acc = acc ++ l := by
    intro l
    induction l with
    | nil => intro acc _; simp
    | cons x l ih =>
      intro acc hn
      have hx : x ∉ acc := by
        intro z
        exact (List.nodup_append.mp hn).2.2 x z x List.mem_cons_self rfl
      have e : once acc x = acc ++ [x] := if_neg hx
      rw [List.foldl_cons, e, ih (acc ++ [x]) (by rw [List.append_assoc]; exact hn), List.append_assoc]
      rfl
  exact gen xs [] (by simpa using h)

/-! ### a set of texts, as it stands -/
def kS : Value → Str
  | .str x _ => x
  | _ => Str.empty
def Row (w : World) (e : Int × Value) : Prop := ∃ tk, e.2 = Value.str (kS e.2) tk ∧ e.1 = hashStr w (kS e.2)
/-- at a: a set of just the texts ks -/
def SetS (w : World) (h : Heap) (a : Addr) (ks : List Str) : Prop :=
  ∃ o es ep t, h.get? a = some o ∧ o.ExactSet ∧ o.data = .set es ep t ∧ (∀ e ∈ es.toList, Row w e) ∧ (es.toList.map fun e => kS e.2).Perm ks ∧ ks.Nodup ∧
    es.size < scanBound ∧ t.fits es.size = true ∧ Ris t.place.toList ∧ (w.params.followText "set-order" = true ∨ t.led = true)
section
variable {P : Program} {w : World} {h h' : Heap} {a : Addr} {ks : List Str}
theorem SetS.at (R : SetS w h a ks) (k : ∀ o, h.get? a = some o → h'.get? a = some o) : SetS w h' a ks :=
  let ⟨o, es, ep, t, ho, r⟩ := R
  ⟨o, es, ep, t, k o ho, r⟩
theorem Row.str {e : Int × Value} (g : Row w e) : ∃ x tk, e.2 = Value.str x tk ∧ e.1 = hashStr w x ∧ kS e.2 = x := let ⟨tk, h1, h2⟩ := g; ⟨_, tk, h1, h2, rfl⟩
theorem rows_elems {l : List (Int × Value)} (g : ∀ e ∈ l, Row w e) : ElemsOf (PySem.strKind P w) l := by
  intro e he
  obtain ⟨x, tk, h1, h2, _⟩ := (g e he).str
  exact ⟨⟨x, by rw [h1]; exact strKind_is P w x tk, h2⟩, by rw [h1]; rfl⟩
theorem row_is {e : Int × Value} (g : Row w e) (x : Str) : (PySem.strKind P w).is x e.2 = true ↔ kS e.2 = x := by
  obtain ⟨y, tk, h1, _, h3⟩ := g.str
  rw [h1]
  show Value.isStrOf x (.str y tk) = true ↔ y = x
  simp [Value.isStrOf]
theorem SetS.setOf (R : SetS w h a ks) : h.SetOf (PySem.strKind P w) a (fun x => decide (x ∈ ks)) ks.length := by
  obtain ⟨o, es, ep, t, ho, hx, hd, g, pm, nd, hb, hf, _⟩ := R
  refine ⟨o, es, ep, t, ho, hx, hd, rows_elems g, fun x => ?_, hb, hf, ?_⟩
  · rw [decide_eq_true_eq, ← pm.mem_iff, List.mem_map]
    constructor
    · rintro ⟨e, he, q⟩
      exact ⟨e, he, (row_is (g e he) x).2 q⟩
    · rintro ⟨e, he, q⟩
      exact ⟨e, he, (row_is (g e he) x).1 q⟩
  · rw [← pm.length_eq, List.length_map, Array.length_toList]
end

section
variable {P : Program} {w : World} {A : Around} {E : Value → Shared → Prop} {s : Shared} {a : Addr} {ks : List Str}
theorem put_tail {g : Bool → Sem Unit} (hg : ∀ (b : Bool) (s₁ : Shared) (Q' : Unit → Shared → Prop), Q' () s₁ → wpAny (model P w) A (g b) Q' E s₁)
    {o : Obj} {es es1 : Array (Int × Value)} {ep : Nat} {t t2 : SetTable} {zs : List Str} (h1 : s.heap.get? a = some o) (h2 : o.ExactSet) (h3 : o.data = .set es ep t)
    (g1 : ∀ e ∈ es1.toList, Row w e) (pm1 : (es1.toList.map fun e => kS e.2).Perm zs) (nd1 : zs.Nodup) (hb1 : es1.size < scanBound) (hf2 : t2.fits es1.size = true) (hr2 : Ris t2.place.toList) (hl2 : w.params.followText "set-order" = true ∨ t2.led = true) {wd : Bool} {R : Option Bool → Shared → Prop}
    (hR : ∀ h', Heap.SameBut a s.heap h' → SetS w h' a zs → R (some true) { s with heap := h' }) :
    wpAny (model P w) A (do
        storeSet a es1 t2
        if (!wd && t2.tooFull) = true then do
            g (relayAll t2 es1 (SetTable.grown es1.size)).2.2
            storeSet a (relayAll t2 es1 (SetTable.grown es1.size)).1 (relayAll t2 es1 (SetTable.grown es1.size)).2.1
            pure (some true)
          else pure (some true)) R E s := by
  refine wpAny_bind (wpAny_storeSet_of h1 h3 ?_ (fits_of_scanBound hb1))
  have k1 := store_at (es' := es1) (t' := t2) h1 h3
  have k2 := Heap.SameBut.update s.heap a (Obj.putSet es1 t2)
  by_cases full : (!wd && t2.tooFull) = true
  · rw [if_pos full]
    have pm := relayAll_perm t2 es1 (SetTable.grown es1.size)
    have f3 := relayAll_fits t2 es1 (SetTable.grown es1.size)
    have r3 := relayAll_ris t2 es1 (SetTable.grown es1.size)
    have l3 := relayAll_led t2 es1 (SetTable.grown es1.size)
    generalize relayAll t2 es1 (SetTable.grown es1.size) = Z at pm f3 r3 l3 ⊢
    obtain ⟨es2, t3, gv⟩ := Z
    dsimp only at pm f3 r3 l3 ⊢
    have z2 : es2.size = es1.size := by rw [← Array.length_toList, pm.length_eq, Array.length_toList]
    have b2 : es2.size < scanBound := by rw [z2]; exact hb1
    refine wpAny_bind (hg _ _ _ (wpAny_bind (wpAny_storeSet_of k1 rfl ?_ (fits_of_scanBound b2))))
    have k3 := store_at (es' := es2) (t' := t3) k1 rfl
    refine wpAny_pure (hR _ (k2.trans (Heap.SameBut.update _ a _)) ⟨_, es2, _, t3, k3, h2, rfl, fun e he => g1 e (pm.mem_iff.mp he), (pm.map _).trans pm1, nd1, b2, f3, r3, hl2.imp id fun z => ?_⟩)
    rw [l3]; exact z
  · rw [if_neg full]
    exact wpAny_pure (hR _ k2 ⟨_, es1, _, t2, k1, h2, rfl, g1, pm1, nd1, hb1, hf2, hr2, hl2⟩)

theorem put_hashed {x : Str} {tk : Tok} {Q : Bool → Shared → Prop} (R : SetS w s.heap a ks) (room : ks.length + 1 < scanBound)
    (hQ : ∀ h' b, Heap.SameBut a s.heap h' → SetS w h' a (once ks x) → Q b { s with heap := h' }) :
    wpAny (model P w) A (setAddHashed a (.str x tk) ((PySem.strKind P w).hash x)) Q E s := by
  have R0 := R
  obtain ⟨o, es, ep, t, ho, hex, hd, g, pm0, nd, hb, hf, hr, hl⟩ := R
  have key : (PySem.strKind P w).is x (.str x tk) = true := strKind_is P w x tk
  have sc : (Value.str x tk).scannable = true := rfl
  have el : ElemsOf (PySem.strKind P w) es.toList := rows_elems g
  have zn : es.size = ks.length := by rw [← pm0.length_eq, List.length_map, Array.length_toList]
  unfold setAddHashed setAddHashedIn
  refine wpAny_holding (wpAny_bind (wpAny_setState_of ho hd hf ?_))
  dsimp only
  rw [byScan_of sc hb el]
  simp only [↓reduceIte]
  unfold setAddByScan
  refine wpAny_bind (wpAny_bind (wpAny_rule (wpAny_bind (wpAny_setScan_of key ho hd hf el ?_))))
  cases hfi : List.findIdx? (fun e => (PySem.strKind P w).is x e.2) es.toList with
  | some j =>
    dsimp only
    obtain ⟨hj, pj, _⟩ := List.findIdx?_eq_some_iff_getElem.mp hfi
    have hx : x ∈ ks := pm0.mem_iff.mp (List.mem_map.mpr ⟨es.toList[j], List.getElem_mem hj, (row_is (P := P) (g _ (List.getElem_mem hj)) x).1 pj⟩)
    refine wpAny_pure (wpAny_pure ?_)
    have e1 : once ks x = ks := by unfold once; rw [if_pos hx]
    exact hQ s.heap false (Heap.SameBut.refl a s.heap) (by rw [e1]; exact R0)
  | none =>
    dsimp only
    have hx : x ∉ ks := by
      intro z
      obtain ⟨e, he, q⟩ := List.mem_map.mp (pm0.mem_iff.mpr z)
      have c := List.findIdx?_eq_none_iff.mp hfi e he
      rw [(row_is (P := P) (g e he) x).2 q] at c
      cases c
    have e1 : once ks x = ks ++ [x] := by unfold once; rw [if_neg hx]
    have hgw : ∀ (b : Bool) {s₁ : Shared} {Q' : Unit → Shared → Prop}, Q' () s₁ → wpAny (model P w) A (match b with | true => rule "set.scan.the-table-gave-way" | false => pure ()) Q' E s₁ := by
      intro b s₁ Q' q
      cases b <;> first | exact wpAny_pure q | exact wpAny_rule q
    have p1 := layNew_perm t es ((PySem.strKind P w).hash x) (.str x tk)
    have f1 := layNew_fits t es ((PySem.strKind P w).hash x) (.str x tk)
    have r1 := layNew_ris t es ((PySem.strKind P w).hash x) (.str x tk) hr
    have l1 := layNew_led t es ((PySem.strKind P w).hash x) (.str x tk)
    generalize layNew t es ((PySem.strKind P w).hash x) (.str x tk) = Z at p1 f1 r1 l1 ⊢
    obtain ⟨es1, t1, wd, gv⟩ := Z
    dsimp only at p1 f1 r1 l1 ⊢
    rw [Array.toList_push] at p1
    have g1 : ∀ e ∈ es1.toList, Row w e := by
      intro e he
      rcases List.mem_append.mp (p1.mem_iff.mp he) with z | z
      · exact g e z
      · have z : e = ((PySem.strKind P w).hash x, Value.str x tk) := by simpa using z
        rw [z]
        exact ⟨tk, rfl, rfl⟩
    have pm1 : (es1.toList.map fun e => kS e.2).Perm (ks ++ [x]) := by
      have q := p1.map fun e : Int × Value => kS e.2
      rw [List.map_append] at q
      exact q.trans (pm0.append_right _)
    have nd1 : (ks ++ [x]).Nodup := by
      have q := once_nodup (x := x) nd
      rw [e1] at q
      exact q
    have z1 : es1.size = ks.length + 1 := by
      have q := p1.length_eq
      rw [List.length_append, Array.length_toList, Array.length_toList] at q
      simp at q
      omega
    have b1 : es1.size < scanBound := by rw [z1]; exact room
    have led1 : w.params.followText "set-order" = true ∨ t1.led = true := hl.imp id fun z => by rw [l1]; exact z
    have fin : ∀ h', Heap.SameBut a s.heap h' → SetS w h' a (ks ++ [x]) → Q true { s with heap := h' } := fun h' sb r => hQ h' true sb (by rw [e1]; exact r)
    refine wpAny_bind (hgw _ ?_)
    have hgb : ∀ (b : Bool) (s₁ : Shared) (Q' : Unit → Shared → Prop), Q' () s₁ → wpAny (model P w) A (match b with | true => rule "set.scan.the-table-gave-way" | false => pure ()) Q' E s₁ := fun b s₁ Q' q => hgw b q
    split
    · refine wpAny_bind ?_
      rw [hashByValue_scannable 8 sc]
      refine wpAny_pure ?_
      refine put_tail ?_ ho hex hd g1 pm1 nd1 b1 ?_ ?_ ?_ ?_
      · intro b s₁ Q' q; cases b <;> first | exact wpAny_pure q | exact wpAny_rule q
      · first | (split <;> first | exact f1 | exact SetTable.fits_plain_off f1) | exact f1
      · first | (split <;> exact r1) | exact r1
      · first | (split <;> exact led1) | exact led1
      · intro h' sb r; dsimp only; exact wpAny_pure (fin h' sb r)
    · refine wpAny_bind (wpAny_pure ?_)
      simp only [↓reduceIte]
      refine put_tail ?_ ho hex hd g1 pm1 nd1 b1 f1 r1 led1 ?_
      · intro b s₁ Q' q; cases b <;> first | exact wpAny_pure q | exact wpAny_rule q
      · intro h' sb r; dsimp only; exact wpAny_pure (fin h' sb r)
end

section
variable {P : Program} {w : World} {A : Around}
theorem update_strs {I : Addr} {fp wr : List Addr} {G : Array GenState → Array GenState → Prop} {n : Nat} {Pv : Nat → Value → Prop} {St : Nat → Shared → Prop} {R : Result → Shared → Prop}
    (W : WalksS P w A.in1 I fp wr G n Pv St) (S : Addr) (hSf : S ∉ fp) (xs : List Str) (hn : n = xs.length) (few : xs.length + 1 < scanBound) (val : ∀ i v, Pv i v → ∃ x tk, xs[i]? = some x ∧ v = .str x tk) :
    ∀ (k i : Nat) (s : Shared), n - i = k → i ≤ n → St i s → SetS w s.heap S (dd (xs.take i)) →
      (∀ s', Moved (S :: wr) G s s' → SetS w s'.heap S (dd xs) → R (.ok (.ret .none)) s') → codeAny (model P w) A (.builtin "set.update.loop" ⟨[.ref S, .ref I], []⟩) R s := by
  have nw : S ∉ wr := fun z => hSf (W.sub _ z)
  have more : ∀ b ∈ wr, b ∈ S :: wr := fun b hb => List.mem_cons_of_mem _ hb
  intro k
  induction k with
  | zero =>
    intro i s e1 e2 st hS hR
    obtain rfl : i = n := by omega
    refine codeAny_builtin F.entry_set_update_loop ?_
    rw [Around.under_plainId F.plain_set_update_loop _]
    show wpAny _ A.in1 (pyNext (.ref I) >>= _) _ _ s
    refine wpAny_bind (W.done s _ _ st fun s' mv => ?_)
    have hS' := hS.at (h' := s'.heap) fun o e => mv.heap S o nw e
    rw [hn, List.take_length] at hS'
    exact wpAny_pure (hR s' (mv.mono more) hS')
  | succ k ih =>
    intro i s e1 e2 st hS hR
    have lt : i < n := by omega
    refine codeAny_builtin F.entry_set_update_loop ?_
    rw [Around.under_plainId F.plain_set_update_loop _]
    show wpAny _ A.in1 (pyNext (.ref I) >>= _) _ _ s
    refine wpAny_bind (W.item i s _ _ lt st fun v s' hP st' mv => ?_)
    obtain ⟨x, tk, hx, rfl⟩ := val i v hP
    have hS' := hS.at (h' := s'.heap) fun o e => mv.heap S o nw e
    show wpAny _ A.in1 (holding [Value.str x tk] (setAdd S (.str x tk)) >>= _) _ _ s'
    refine wpAny_bind (wpAny_holding ?_)
    unfold setAdd
    refine wpAny_holding (wpAny_bind ((PySem.strKind P w).pyHash (k := x) (strKind_is P w x tk) ?_))
    have room : (dd (xs.take i)).length + 1 < scanBound := by
      have h1 := dd_len (xs.take i)
      rw [List.length_take] at h1
      omega
    refine put_hashed (s := { s' with toks := s'.toks + 1 }) hS' room fun h' b sb hS2 => ?_
    have e3 : dd (xs.take (i + 1)) = once (dd (xs.take i)) x := by
      unfold dd
      rw [List.take_add_one, hx, List.foldl_append]
      rfl
    rw [← e3] at hS2
    refine wpAny_pure ⟨plainId_quiet F.plain_set_update_loop _, ih (i + 1) _ (by omega) lt (W.frame _ s' _ _ st' (Nat.le_succ _) fun c hc o e => ?_) hS2 fun s'' mv2 hS3 => ?_⟩
    · exact (sb.2 c fun z => hSf (z ▸ hc)).trans e
    · refine hR s'' (Moved.trans W.gtrans ((mv.mono more).then_heap (Nat.le_succ _) fun c o hc e => ?_) mv2) hS3
      exact (sb.2 c fun z => hc (z ▸ List.mem_cons_self)).trans e
end

section
variable {P : Program} {w : World} {A : Around} {E : Value → Shared → Prop} {s : Shared}
abbrev setObj0 (w : World) : Obj := { cls := .type "set", dict := none, data := .set #[] 0 (.fresh 0 0 (!w.params.followText "set-order")) }
theorem setS_fresh {h : Heap} {a : Addr} (e : h.get? a = some (setObj0 w)) : SetS w h a [] := by
  refine ⟨_, #[], 0, _, e, ⟨rfl, rfl, rfl⟩, rfl, fun e he => by simp at he, by simp, List.nodup_nil, by decide, by rfl, List.Pairwise.nil, ?_⟩
  show _ ∨ (!w.params.followText "set-order") = true
  cases w.params.followText "set-order"
  · exact .inr rfl
  · exact .inl rfl
set_option maxHeartbeats 3200000 in
/-- set(l), l a list of the texts xs -/
theorem call_set_strs {l : Addr} {items : Array Value} (xs : List Str) {Q : Value → Shared → Prop} (hh : A.handled = none) (hl : s.heap.IsList l items) (hv : ∀ (i : Nat) (v : Value), items[i]? = some v → ∃ x tk, xs[i]? = some x ∧ v = Value.str x tk) (hz : items.size = xs.length) (few : xs.length + 1 < scanBound)
    (h : ∀ (h' : Heap) (tk : Nat), SetS w h' s.heap.objs.size (dd xs) → (∀ b o, s.heap.get? b = some o → h'.get? b = some o) → Q (.ref s.heap.objs.size) { s with heap := h', toks := tk }) :
    wpAny (model P w) A (call (.type "set") [.ref l]) Q E s := by
  obtain ⟨c, tl, hmro⟩ := F.called_set.mro
  have hmade := F.called_set.made
  have hsub := F.called_set.sub
  refine wpAny_call (codeAny_of_tree ?_)
  show wpAny _ _ (callAny (.type "set") _) _ _ _
  refine wpAny_pure ⟨Code.quiet_builtin _ (by decide +kernel), codeAny_builtin F.entry_type_call ?_⟩
  rw [Around.under_plain (weight_type_call_type "set" [.ref l] []) rfl]
  have h1 := F.called_set.notType
  have h2 := F.called_set.canCreate
  have hct := F.typeCall_set_1 (.ref l)
  repeat (any_goals (first | assumption | wp_step))
  refine codeAny_mono (code_set_led1 (.ref l) (E := E) (Q₁ := fun obj s₁ => obj = .ref s.heap.objs.size ∧ s₁ = { s with heap := s.heap.push (setObj0 w) }) ⟨rfl, rfl⟩) fun r s₁ hr => ?_
  cases r with
  | error e => exact hr
  | ok fl =>
    cases fl with
    | ret obj =>
      obtain ⟨rfl, rfl⟩ := hr
      have hS : (s.heap.push (setObj0 w)).get? s.heap.objs.size = some (setObj0 w) := Heap.get?_push_size _ rfl
      have hT : Shared.TypeIs { s with heap := s.heap.push (setObj0 w) } (.ref s.heap.objs.size) "set" := ⟨_, hS, rfl⟩
      have hli := F.called_set.init.lookup
      have hbi := F.called_set.init.bind (.ref s.heap.objs.size)
      repeat (any_goals (first | assumption | wp_step))
      refine codeAny_mono (codeAny_call_builtin (R := wants (fun r s₂ => r = .none ∧ ∃ h' tk, s₂ = { s with heap := h', toks := tk } ∧ SetS w h' s.heap.objs.size (dd xs) ∧
          (∀ b o, s.heap.get? b = some o → h'.get? b = some o)) E) F.called_set.init.plain F.entry_set_init (check_set_init_1 hT ?_)) fun r₂ s₂ hr₂ => ?_
      · obtain ⟨ol, hol, hcl, nl, hdl⟩ := hl
        obtain ⟨ocls, odict, odata, oslots⟩ := ol
        simp only at hcl hdl
        subst hcl; subst hdl
        have hol' : (s.heap.push (setObj0 w)).get? l = some { cls := .type "list", dict := odict, data := .seq items nl, slots := oslots } := Heap.get?_push_of_some _ hol
        have hsls := F.sub_list_set
        have hslf := F.sub_list_frozenset
        have hne : (Value.type "list" == Value.type "dict") = false := by decide
        have hl1 : (s.heap.push (setObj0 w)).IsList l items := ⟨_, hol', rfl, nl, rfl⟩
        unfold Builtin.«set.__init__» noKeywords Builtin.Frozenset.updateFrom
        generalize hPI : pyIter = PI
        wp_walk
        subst hPI
        refine wpAny_pyIter_list hl1 ?_
        refine wpAny_bind (wpAny_runValue ?_)
        have hlS : l < s.heap.objs.size := Heap.lt_size hol
        have hh3 : A.in1.in1.in1.handled = none := by simp [hh]
        have sz1 : (s.heap.push (setObj0 w)).objs.size = s.heap.objs.size + 1 := Heap.size_push ..
        have hneI : l ≠ (s.heap.push (setObj0 w)).objs.size := by
          rw [sz1]; exact Nat.ne_of_lt (Nat.lt_succ_of_lt hlS)
        have hSf : s.heap.objs.size ∉ [(s.heap.push (setObj0 w)).objs.size, l] := by
          rw [sz1]; simp only [List.mem_cons, List.mem_singleton, List.not_mem_nil, or_false, not_or]
          exact ⟨Nat.ne_of_lt (Nat.lt_succ_self _), Nat.ne_of_gt hlS⟩
        refine update_strs ((Walks.list hh3 _ l hneI items).toS) s.heap.objs.size hSf xs hz few hv (items.size - 0) 0 _ (by omega) (Nat.zero_le _)
          ⟨⟨_, Heap.get?_push_size _ rfl, rfl, rfl⟩, (hl1.push _)⟩ ?hS0 ?hR
        case hS0 =>
          rw [List.take_zero]
          exact setS_fresh (Heap.get?_push_of_some _ hS)
        case hR =>
          intro s' hm hS'
          obtain ⟨h', g', d', tk', os'⟩ := s'
          have eg : g' = s.gens := hm.gens
          have ed : d' = s.drawn := hm.drawn
          have eo : os' = s.os := hm.os
          subst eg; subst ed; subst eo
          show wpAny _ _ _ _ _ _
          refine wpAny_pure ?_
          show wpAny _ _ (ret Value.none) _ _ _
          refine wpAny_pure ⟨rfl, h', tk', rfl, hS', fun b o e => ?_⟩
          have lt := Heap.lt_size e
          refine hm.heap b o ?_ (Heap.get?_push_of_some _ (Heap.get?_push_of_some _ e))
          simp only [List.mem_cons, List.mem_singleton, List.not_mem_nil, or_false, not_or]
          exact ⟨Nat.ne_of_lt lt, by rw [sz1]; exact Nat.ne_of_lt (Nat.lt_succ_of_lt lt)⟩
      · cases r₂ with
        | error e => exact hr₂
        | ok fl₂ =>
          cases fl₂ with
          | ret r =>
            obtain ⟨rfl, h', tk, rfl, hS', hk'⟩ := hr₂
            repeat (any_goals (first | assumption | wp_step))
            exact h _ _ hS' hk'
          | _ => exact hr₂.elim
    | _ => exact hr.elim
end
end Sx
end
section
set_option maxHeartbeats 4000000
/-! sorted(..) of lists of data, of sets of texts. -/
namespace Srx
open PySem PySem.Spec PyProof.Rows L2 Sx
open PySem.W (dataLe dataLt alike AllAlike EachIs)

/-! ### texts in order -/
def leS (a b : Str) : Bool := dataLe false (fun x : Str => PyData.str x) a b
theorem leS_iff {a b : Str} : leS a b = true ↔ a.cps.toList ≤ b.cps.toList := by
  unfold leS
  rw [PySem.W.dataLe_str (fun x : Str => x)]
  exact decide_eq_true_iff
theorem leS_total (a b : Str) : leS a b = true ∨ leS b a = true := by
  rw [leS_iff, leS_iff]
  exact List.le_total _ _
theorem leS_trans {a b c : Str} (h1 : leS a b = true) (h2 : leS b c = true) : leS a c = true := by
  rw [leS_iff] at *
  exact List.le_trans h1 h2
theorem leS_anti {a b : Str} (h1 : leS a b = true) (h2 : leS b a = true) : a = b := by
  rw [leS_iff] at *
  exact PySem.W.str_of_cps (List.le_antisymm h1 h2)
def srt (xs : List Str) : List Str := xs.mergeSort leS
theorem srt_perm (xs : List Str) : (srt xs).Perm xs := List.mergeSort_perm _ _
theorem leS_or (a b : Str) : (leS a b || leS b a) = true := by
  rw [Bool.or_eq_true]
  exact leS_total a b
theorem srt_sorted (xs : List Str) : (srt xs).Pairwise (fun a b => leS a b = true) :=
  List.pairwise_mergeSort (le := leS) (fun _ _ _ h1 h2 => leS_trans h1 h2) leS_or xs
theorem sorted_one {xs ys : List Str} (p : xs.Perm ys) (h1 : xs.Pairwise (fun a b => leS a b = true)) (h2 : ys.Pairwise (fun a b => leS a b = true)) : xs = ys :=
  List.Perm.eq_of_pairwise (fun a b _ _ z1 z2 => leS_anti z1 z2) h1 h2 p
theorem srt_eq {xs ys : List Str} (p : xs.Perm ys) : srt xs = srt ys := sorted_one ((srt_perm xs).trans (p.trans (srt_perm ys).symm)) (srt_sorted xs) (srt_sorted ys)
theorem srt_len (xs : List Str) : (srt xs).length = xs.length := (srt_perm xs).length_eq
theorem srt_mem {xs : List Str} {x : Str} : x ∈ srt xs ↔ x ∈ xs := (srt_perm xs).mem_iff
theorem srt_id {xs : List Str} (h : xs.Pairwise (fun a b => leS a b = true)) : srt xs = xs := sorted_one (srt_perm xs) (srt_sorted xs) h

/-! ### sorted(list) -/
/-- data that Python orders -/
structure Ord {γ : Type} (enc : γ → PyData) : Prop where
  alike : ∀ x y, PySem.W.alike (enc x) (enc y) = true
  kind : (∀ x, ∃ d r, enc x = .tuple (d :: r)) ∨ ∀ x, enc x ≠ .none ∧ ∀ ds, enc x ≠ .tuple ds
  depth : ∀ x, (enc x).depth ≤ 60
theorem Ord.strs : Ord (fun x : Str => PyData.str x) := ⟨fun _ _ => by simp [PySem.W.alike], .inr fun _ => ⟨by simp, by simp⟩, fun _ => by simp [PyData.depth]⟩
theorem Ord.comap {γ δ : Type} {enc : γ → PyData} (o : Ord enc) (f : δ → γ) : Ord fun x => enc (f x) := ⟨fun _ _ => o.alike _ _, o.kind.imp (fun h x => h _) fun h x => h _, fun _ => o.depth _⟩
theorem Ord.sortable {γ : Type} {enc : γ → PyData} (o : Ord enc) (bs : List γ) : PySem.W.Sortable (bs.map enc) := by
  rcases o.kind with h | h
  · exact PySem.W.Sortable.tuples h
  · exact PySem.W.Sortable.others h
theorem each_vals {γ : Type} : ∀ {bs : List (V × γ)} {us : List Value}, Vals (bs.map (·.1)) us → EachIs (fun u b => RelV b.1 u) us bs
  | [], _, .nil => .nil
  | b :: bs, _, .cons r t => .cons r (each_vals t)
theorem vals_each {γ : Type} : ∀ {bs : List (V × γ)} {us : List Value}, EachIs (fun u b => RelV b.1 u) us bs → Vals (bs.map (·.1)) us
  | [], _, .nil => .nil
  | b :: bs, _, .cons r t => .cons r (vals_each t)
theorem each_mem {α β : Type} {R S : α → β → Prop} : ∀ {as : List α} {bs : List β}, EachIs R as bs → (∀ a b, b ∈ bs → R a b → S a b) → EachIs S as bs
  | _, _, .nil, _ => .nil
  | _, _, .cons r t, h => .cons (h _ _ List.mem_cons_self r) (each_mem t fun a b hb => h a b (List.mem_cons_of_mem _ hb))
def rSortedD {γ : Type} (K : PySem.W.Frag) (enc : γ → PyData) : List V → Hp → VK → Prop := fun vs H Q => ∃ (a : Addr) (bs : List (V × γ)), vs = [V.ref a] ∧ SqL K H a (bs.map (·.1)) ∧ (∀ b ∈ bs, Dp K H b.1 (enc b.2)) ∧
  ∀ p, H p = none → Q (.ref p) (upd H p (.lst ((bs.mergeSort (dataLe false fun b => enc b.2)).map (·.1))))
section
variable {X : Cx}
theorem cr_sortedD {γ : Type} {enc : γ → PyData} (o : Ord enc) (hu : X.A.units + 64 < cLine) : CallR X (.builtin "sorted") (rSortedD X.K enc) := by
  intro pins s σ H vs us Q I r h
  obtain ⟨a, bs, rfl, hs, hd, q⟩ := h
  obtain ⟨its, rv, hl, hz⟩ := I.list hs
  rw [Vals.ref1 r]
  have e := each_vals rv
  have er : EachIs (fun u b => ∃ as, PySem.Reads s.heap u (enc b.2) as) its bs := each_mem e fun u b hb rb => Dp.reads I _ b.1 u (hd b hb) rb
  have hbz : bs.length ≤ sizeLine := by simpa using hz
  refine PySem.W.sorted_data (R := fun u b => RelV b.1 u) (enc := fun b : V × γ => enc b.2) hl.isList e er (PySem.W.AllAlike.of fun x y => o.alike _ _) ((o.comap Prod.snd).sortable bs) hbz (fun b _ => by have := o.depth b.2; omega) fun out ho hout => ?_
  obtain ⟨ep, he⟩ := PyProof.Rows.sortedAll_at s.heap its out.toArray
  refine ⟨.ref (s.heap.objs.size + 1), upd H (s.heap.objs.size + 1) (.lst ((bs.mergeSort (dataLe false fun b => enc b.2)).map (·.1))), I.laid (t' := s.toks) (fun _ _ => PyProof.Rows.sortedAll_old) (Nat.le_succ _) ⟨?_, out, ep, vals_each hout, he⟩, rfl, q _ (I.hok.fresh (Nat.le_succ _))⟩
  rw [List.length_map, List.length_mergeSort]
  exact hbz
/-- sorted(xs), texts -/
theorem sortedS_texts {K : PySem.W.Frag} {H : Hp} {a : Addr} {xs : List Str} {Q : VK} (hs : SqL K H a (xs.map V.str)) (q : ∀ p, H p = none → Q (.ref p) (upd H p (.lst ((srt xs).map V.str)))) : rSortedD K (fun x : Str => PyData.str x) [V.ref a] H Q := by
  refine ⟨a, xs.map fun x => (V.str x, x), rfl, ?_, ?_, fun p hp => ?_⟩
  · rw [List.map_map]; exact hs
  · intro b hb
    obtain ⟨x, _, rfl⟩ := List.mem_map.mp hb
    exact .str x
  · have e : ((xs.map fun x => (V.str x, x)).mergeSort (dataLe false fun b => PyData.str b.2)).map (·.1) = (srt xs).map V.str := by
      have e2 : (xs.map fun x => (V.str x, x)).mergeSort (dataLe false fun b => PyData.str b.2) = (srt xs).map fun x => (V.str x, x) := by
        unfold srt
        rw [List.map_mergeSort]
        intro a _ b _
        rfl
      rw [e2, List.map_map]
      rfl
    rw [e]
    exact q p hp

/-! ### sets of texts -/
def SetTx (w : World) (a : Addr) (ks : List Str) : HO := .ext fun h => SetS w h a ks
theorem setTx_new {w : World} {P : Program} {H : Hp} {h : Heap} {a : Addr} {ks : List Str} (R : SetS w h a ks) : ObjOk P w H h a (SetTx w a ks) := by
  have ⟨o, es, ep, t, ho, r⟩ := R
  exact ⟨R, ⟨o, ho⟩, fun h1 h2 p k => p.at k⟩
theorem setTx_get {pins : List (Addr × Obj)} {σ : L2.St} {H : Hp} {s : Shared} {a : Addr} {ks : List Str} (I : Inv X pins σ H s) (ha : H a = some (SetTx X.w a ks)) : SetS X.w s.heap a ks := (I.hok a _ ha).1
def rSetTx (K : PySem.W.Frag) (w : World) : List V → Hp → VK → Prop := fun vs H Q => ∃ (l : Addr) (xs : List Str), vs = [V.ref l] ∧ SqL K H l (xs.map V.str) ∧ xs.length ≤ 1000 ∧ ∀ p, H p = none → Q (.ref p) (upd H p (SetTx w p (dd xs)))
theorem cr_setTx (hc : X.calm = true) : CallR X (.type "set") (rSetTx X.K X.w) := by
  intro pins s σ H vs us Q I r h
  obtain ⟨l, xs, rfl, hs, few, q⟩ := h
  rw [Vals.ref1 r]
  obtain ⟨its, rv, pl, hz⟩ := I.list hs
  have hlen : its.toArray.size = xs.length := by rw [List.size_toArray, ← rv.length, List.length_map]
  have hv : ∀ (i : Nat) (v : Value), its.toArray[i]? = some v → ∃ x tk, xs[i]? = some x ∧ v = Value.str x tk := by
    intro i v e
    have e : its[i]? = some v := by simpa using e
    have lt : i < xs.length := by
      have := (List.getElem?_eq_some_iff.mp e).1
      have h2 := rv.length
      rw [List.length_map] at h2
      omega
    have g : (xs.map V.str)[i]? = some (.str xs[i]) := by rw [List.getElem?_map, List.getElem?_eq_getElem lt]; rfl
    obtain ⟨u, e2, tk, e3⟩ := rv.get g
    rw [e] at e2
    cases e2
    exact ⟨xs[i], tk, List.getElem?_eq_getElem lt, e3⟩
  refine call_set_strs (P := X.prog) (w := X.w) xs (I.ok.hd hc) pl.isList hv hlen (by unfold scanBound; omega) fun h' tk R k => ?_
  exact ⟨.ref s.heap.objs.size, upd H s.heap.objs.size (SetTx X.w s.heap.objs.size (dd xs)), I.laid (t' := tk) k (Nat.le_refl _) (setTx_new R), rfl, q _ (I.hok.fresh (Nat.le_refl _))⟩
def rSortedTx (w : World) : List V → Hp → VK → Prop := fun vs H Q => ∃ (a : Addr) (ks : List Str), vs = [V.ref a] ∧ H a = some (SetTx w a ks) ∧ ∀ p, H p = none → Q (.ref p) (upd H p (.lst ((srt ks).map V.str)))
theorem strs_out : ∀ {us : List Value} {xs : List Str}, EachIs (fun u x => ∃ tk, u = Value.str x tk) us xs → Vals (xs.map V.str) us
  | _, _, .nil => .nil
  | _, _, .cons r t => .cons r (strs_out t)
theorem cr_sortedTx (hc : X.calm = true) (hu : X.A.units + 64 < cLine) : CallR X (.builtin "sorted") (rSortedTx X.w) := by
  intro pins s σ H vs us Q I r h
  obtain ⟨a, ks, rfl, ha, q⟩ := h
  rw [Vals.ref1 r]
  obtain ⟨o, es, ep, t, ho, hex, hd, g, pm0, nd, hb, hf, hr, hl⟩ := setTx_get I ha
  refine Calls.call_function_entry kind_sorted plain_sorted entry_sorted (args_sorted1 _) ?_
  unfold Builtin.«sorted»
  refine wpAny_bind (m := checkCount "sorted" 1 1 _) (wpAny_pure ?_)
  refine wpAny_bind (collect_set (A := X.A.in1) (I.ok.hd hc) ⟨o, ho, hex.1, hd⟩ hf hb hr hl fun s1 zs k1 hz g1 o1 pm => ?_)
  have hS : ∀ z ∈ zs, ∃ x tk, z = Value.str x tk := by
    intro z hz
    obtain ⟨e, he, q⟩ := List.mem_map.mp (pm.mem_iff.mp hz)
    obtain ⟨x, tk, h1, _⟩ := (g e he).str
    exact ⟨x, tk, by rw [← q]; exact h1⟩
  have gen : ∀ l : List Value, (∀ z ∈ l, ∃ x tk, z = Value.str x tk) → EachIs (fun u x => ∃ tk, u = Value.str x tk) l (l.map kS) := by
    intro l
    induction l with
    | nil => intro _; exact .nil
    | cons z l ih =>
      intro h
      obtain ⟨x, tk, rfl⟩ := h z List.mem_cons_self
      exact .cons ⟨tk, rfl⟩ (ih fun y hy => h y (List.mem_cons_of_mem _ hy))
  have e := gen zs hS
  have hzl : zs.length < 5000 := by
    rw [pm.length_eq, List.length_map, Array.length_toList]
    unfold scanBound at hb
    omega
  have hzs : zs.length ≤ sizeLine := by rw [sizeLine_eq]; omega
  refine wpAny_bind (wpAny_newList ?_ hzs)
  have hoL : (s1.heap.push (seqObj "list" zs.toArray 0)).get? s1.heap.objs.size = some (seqObj "list" zs.toArray 0) := Heap.get?_push_size _ rfl
  have er : EachIs (fun u x => ∃ as, PySem.Reads (s1.heap.push (seqObj "list" zs.toArray 0)) u (PyData.str x) as ∧ s1.heap.objs.size ∉ as) zs (zs.map kS) := e.mono fun u x ⟨tk, h⟩ => ⟨[], by rw [h]; exact .str x tk, by simp⟩
  refine wpAny_bind (wpAny_holding (PySem.W.list_sort_data (s := { s1 with heap := s1.heap.push (seqObj "list" zs.toArray 0) }) (R := fun u x => ∃ tk, u = Value.str x tk) (enc := fun x : Str => PyData.str x) hoL e er (PySem.W.AllAlike.of fun x y => Ord.strs.alike _ _) (Ord.strs.sortable _) (by rw [List.length_map]; exact hzs) (fun x _ => by have := Ord.strs.depth x; show X.A.units + 1 + 1 + _ < _; omega) fun out hlen hout => ?_))
  obtain ⟨c2, hc2⟩ := sortedHeap_at (vs := zs) (out := out.toArray) hoL
  have hE : (zs.map kS).mergeSort (dataLe false fun x : Str => PyData.str x) = srt ks := by
    show srt (zs.map kS) = srt ks
    refine srt_eq ?_
    have p2 := pm.map kS
    rw [List.map_map] at p2
    exact p2.trans pm0
  rw [hE] at hout
  have hn : H s1.heap.objs.size = none := I.hok.fresh hz
  have hlen2 : ((srt ks).map V.str).length ≤ sizeLine := by
    have h1 := hout.length
    rw [List.length_map] at hlen ⊢
    omega
  have keep : ∀ b u, s.heap.get? b = some u → (sortedHeap (s1.heap.push (seqObj "list" zs.toArray 0)) s1.heap.objs.size zs out.toArray).get? b = some u := by
    intro b u e
    have q1 := k1 b u e
    have lt := Heap.lt_size q1
    rw [sortedHeap_old (Nat.ne_of_lt lt) (by rw [size_push']; exact Nat.lt_succ_of_lt lt)]
    exact Heap.get?_push_of_some _ q1
  refine wpAny_pure ⟨.ref s1.heap.objs.size, rfl, ?_⟩
  refine ⟨.ref s1.heap.objs.size, upd H s1.heap.objs.size (.lst ((srt ks).map V.str)), ?_, rfl, q _ hn⟩
  have J := I.call (g' := s1.gens) (t' := s1.toks) (d' := s1.drawn) (ch := []) (Un.laid (o := .lst ((srt ks).map V.str)) keep hz hn) (I.hok.laid keep hz ⟨hlen2, out, c2, strs_out hout, hc2⟩) (by rw [g1]; exact I.bare) (fun _ z => nomatch z)
  rw [← o1] at J
  exact J
end
end Srx
end
section
set_option maxHeartbeats 4000000
/-! heaps that grow: all stands, but that the defs' tables of code may have grown -/
namespace Gr
open PySem PySem.Spec PyProof.Rows L2 GxR
def NoTbl (o : HO) : Prop := ∀ ps, o ≠ .tbl ps
/-- H' holds what H holds; tables may have grown -/
structure Gr (H H' : Hp) : Prop where
  at_ : ∀ b o, H b = some o → NoTbl o → H' b = some o
  tab : ∀ b ps, H b = some (.tbl ps) → ∃ ps', H' b = some (.tbl ps') ∧ (TriplesOk ps.toList → TriplesOk ps'.toList)
theorem Gr.refl (H : Hp) : Gr H H := ⟨fun _ _ e _ => e, fun _ ps e => ⟨ps, e, fun h => h⟩⟩
theorem Gr.trans {H H1 H2 : Hp} (a : Gr H H1) (b : Gr H1 H2) : Gr H H2 :=
  ⟨fun c o e n => b.at_ c o (a.at_ c o e n) n, fun c ps e => by
    obtain ⟨p1, e1, k1⟩ := a.tab c ps e
    obtain ⟨p2, e2, k2⟩ := b.tab c p1 e1
    exact ⟨p2, e2, fun h => k2 (k1 h)⟩⟩
theorem notbl_lst {xs : List V} : NoTbl (.lst xs) := fun _ e => nomatch e
theorem notbl_tup {xs : List V} : NoTbl (.tup xs) := fun _ e => nomatch e
theorem notbl_frz {o : Obj} {u : HO} : NoTbl (.frz o u) := fun _ e => nomatch e
theorem Gr.lst {H H' : Hp} (g : Gr H H') {a : Addr} {xs : List V} (e : H a = some (.lst xs)) : H' a = some (.lst xs) := g.at_ a _ e notbl_lst
theorem Gr.tup {H H' : Hp} (g : Gr H H') {a : Addr} {xs : List V} (e : H a = some (.tup xs)) : H' a = some (.tup xs) := g.at_ a _ e notbl_tup
theorem Gr.seq {K : PySem.W.Frag} {H H' : Hp} {a : Addr} {xs : List V} (g : Gr H H') (h : SqL K H a xs) : SqL K H' a xs := by
  rcases h with (h | ⟨o, h⟩) | h
  · exact .inl (.inl (g.lst h))
  · exact .inl (.inr ⟨o, g.at_ _ _ h notbl_frz⟩)
  · exact .inr h
theorem Gr.seqT {K : PySem.W.Frag} {H H' : Hp} {a : Addr} {xs : List V} (g : Gr H H') (h : SqT K H a xs) : SqT K H' a xs := by
  rcases h with (h | ⟨o, h⟩) | h
  · exact .inl (.inl (g.tup h))
  · exact .inl (.inr ⟨o, g.at_ _ _ h notbl_frz⟩)
  · exact .inr h
theorem Gr.some {H H' : Hp} (g : Gr H H') {b : Addr} {o : HO} (e : H b = some o) : ∃ o', H' b = some o' := by
  by_cases h : ∃ ps, o = .tbl ps
  · obtain ⟨ps, rfl⟩ := h
    obtain ⟨p1, e1, _⟩ := g.tab b ps e
    exact ⟨_, e1⟩
  · exact ⟨o, g.at_ b o e fun ps z => h ⟨ps, z⟩⟩
theorem Gr.free {H H' : Hp} (g : Gr H H') {b : Addr} (e : H' b = none) : H b = none := by
  cases q : H b with
  | none => rfl
  | some o =>
    obtain ⟨o', z⟩ := g.some q
    rw [e] at z
    cases z
theorem Gr.new {H : Hp} {p : Addr} {o : HO} (h : H p = none) : Gr H (upd H p o) :=
  ⟨fun b u e _ => by rw [upd_ne (ne_of_none e h)]; exact e, fun b ps e => ⟨ps, by rw [upd_ne (ne_of_none e h)]; exact e, fun h => h⟩⟩
/-- what is younger may change -/
theorem Gr.mut {H H' : Hp} {p : Addr} {o : HO} (g : Gr H H') (h : H p = none) : Gr H (upd H' p o) :=
  ⟨fun b u e n => by rw [upd_ne (ne_of_none e h)]; exact g.at_ b u e n, fun b ps e => by
    obtain ⟨p1, e1, k1⟩ := g.tab b ps e
    exact ⟨p1, by rw [upd_ne (ne_of_none e h)]; exact e1, k1⟩⟩
theorem Gr.same {H H' : Hp} (s : Same H H') : Gr H H' := ⟨fun b o e _ => s b o e, fun b ps e => ⟨ps, s _ _ e, fun h => h⟩⟩
theorem Gr.tabbed {H H' : Hp} {P : Addr} (hP : TabG H P) (t : Tabbed P H H') : Gr H H' := by
  obtain ⟨ps, e0, _⟩ := hP
  obtain ⟨⟨ps', e1, k1⟩, rest⟩ := t
  refine ⟨fun b o e n => ?_, fun b qs e => ?_⟩
  · have hb : b ≠ P := by
      intro z
      rw [z, e0] at e
      exact n ps (Option.some.inj e).symm
    rw [rest b hb]; exact e
  · by_cases hb : b = P
    · subst hb
      exact ⟨ps', e1, fun _ => k1⟩
    · exact ⟨qs, by rw [rest b hb]; exact e, fun h => h⟩
theorem Gr.tabG {H H' : Hp} (g : Gr H H') {P : Addr} (h : TabG H P) : TabG H' P := by
  obtain ⟨ps, e, k⟩ := h
  obtain ⟨p1, e1, k1⟩ := g.tab P ps e
  exact ⟨p1, e1, k1 k⟩
mutual
theorem dp_gr {K : PySem.W.Frag} {H H' : Hp} (g : Gr H H') : ∀ (d : PyData) (v : V), Dp K H v d → Dp K H' v d
  | .none, v, h => by cases h; exact .non
  | .bool b, v, h => by cases h; exact .bl b
  | .int i, v, h => by cases h; exact .int i
  | .str x, v, h => by cases h; exact .str x
  | .list ds, v, h => by
    cases h with
    | lst hs ha => exact .lst (g.seq hs) (dpAll_gr g ds _ ha)
  | .tuple ds, v, h => by
    cases h with
    | tup hs ha => exact .tup (g.seqT hs) (dpAll_gr g ds _ ha)
  | .dict _, v, h => by cases h
theorem dpAll_gr {K : PySem.W.Frag} {H H' : Hp} (g : Gr H H') : ∀ (ds : List PyData) (vs : List V), DpAll K H vs ds → DpAll K H' vs ds
  | [], vs, h => by cases h; exact .nil
  | d :: ds, vs, h => by
    cases h with
    | cons h1 h2 => exact .cons (dp_gr g d _ h1) (dpAll_gr g ds _ h2)
end
theorem Gr.dp {K : PySem.W.Frag} {H H' : Hp} (g : Gr H H') {d : PyData} {v : V} (h : Dp K H v d) : Dp K H' v d := dp_gr g d v h
end Gr
end
section
set_option maxHeartbeats 4000000
/-! any(..), all(..) of a generator expression over whatever PI walks; its element is read in a frame of its own and may call defs. -/
namespace Gx
open PySem PySem.Spec PyProof.Rows L2 GxR

section
variable {prog : Program} {w : World} {A : Around} {R : Result → Shared → Prop} {I : Addr}
/-- the turn of a quantifier's loop; stp: the truth that ends it -/
def Turned (R : Result → Shared → Prop) (stp : Bool) (W : Nat → Shared → Prop) (n : Nat) (r : Option Value) (s' : Shared) : Prop :=
  match r with
  | none => R (.ok (.ret (.bool (!stp)))) s'
  | some v => ∃ b, v = .bool b ∧ (b = stp → R (.ok (.ret (.bool stp))) s') ∧ (b ≠ stp → ∃ m, m < n ∧ W m s')
theorem loop_any (W : Nat → Shared → Prop) (step : ∀ n s, W n s → wpAny (model prog w) A.in1 (pyNext (.ref I)) (Turned R true W n) (fun _ _ => False) s) :
    ∀ n s, W n s → codeAny (model prog w) A (.builtin "any.loop" ⟨[.ref I], []⟩) R s := by
  intro n
  induction n using Nat.strongRecOn with
  | ind n ih =>
    intro s hW
    refine codeAny_builtin F.entry_any_loop ?_
    rw [Around.under_plainId F.plain_any_loop _]
    show wpAny _ A.in1 (pyNext (.ref I) >>= _) _ _ s
    refine wpAny_bind (wpAny_mono (step n s hW) (fun r s' hr => ?_) fun _ _ z => z.elim)
    cases r with
    | none => exact wpAny_bind (wpAny_rule (wpAny_pure hr))
    | some v =>
      obtain ⟨b, rfl, h1, h2⟩ := hr
      refine wpAny_bind (wpAny_holding (wpAny_truthy_bool ?_))
      refine wpAny_bind (wpAny_letGo ?_)
      cases b with
      | true => exact wpAny_bind (wpAny_rule (wpAny_pure (h1 rfl)))
      | false =>
        obtain ⟨m, hm, q⟩ := h2 Bool.false_ne_true
        exact wpAny_pure ⟨plainId_quiet F.plain_any_loop _, ih m hm _ q⟩
theorem loop_all (W : Nat → Shared → Prop) (step : ∀ n s, W n s → wpAny (model prog w) A.in1 (pyNext (.ref I)) (Turned R false W n) (fun _ _ => False) s) :
    ∀ n s, W n s → codeAny (model prog w) A (.builtin "all.loop" ⟨[.ref I], []⟩) R s := by
  intro n
  induction n using Nat.strongRecOn with
  | ind n ih =>
    intro s hW
    refine codeAny_builtin F.entry_all_loop ?_
    rw [Around.under_plainId F.plain_all_loop _]
    show wpAny _ A.in1 (pyNext (.ref I) >>= _) _ _ s
    refine wpAny_bind (wpAny_mono (step n s hW) (fun r s' hr => ?_) fun _ _ z => z.elim)
    cases r with
    | none => exact wpAny_bind (wpAny_rule (wpAny_pure hr))
    | some v =>
      obtain ⟨b, rfl, h1, h2⟩ := hr
      refine wpAny_bind (wpAny_holding (wpAny_truthy_bool ?_))
      refine wpAny_bind (wpAny_letGo ?_)
      cases b with
      | false => exact wpAny_bind (wpAny_rule (wpAny_pure (h1 rfl)))
      | true =>
        obtain ⟨m, hm, q⟩ := h2 (fun z => Bool.false_ne_true z.symm)
        exact wpAny_pure ⟨plainId_quiet F.plain_all_loop _, ih m hm _ q⟩
end

/-! ### the frame of the generator expression -/
abbrev gx (X : Cx) (Ag : Around) (s : Shared) (H : Hp) (cenv : Env) (fp : List Addr) (pn : List (Addr × Obj)) : Cx :=
  { X with A := Ag.deeper cenv, s_0 := s, H_0 := H, env := cenv, outer := X.stack, stack := cenv :: X.stack, ex := fp, fn := fun _ => false, pn := pn, xe := fun _ _ => False }
abbrev gEnv (scope : Scope) (X : Cx) (C : Addr) (code : Value) : Env := genEnv scope (cloFrom X.env.cells scope.names []) C code builtinsNs X.env
section
variable {X : Cx} {pins : List (Addr × Obj)} {σ : L2.St} {H : Hp} {s : Shared}
theorem gx_start {scope : Scope} {own : List (Str × Nat)} {fp : List Addr} {Ag : Around} {code : Value} {a : Addr} {go : Obj} {m0 : Str → Option Value} {h5 : Heap} {g5 : Array GenState} {t5 : Nat}
    (I : Inv X pins σ H s) (ok : BlkOk X.N X.env.scope scope own) (nocell : ∀ y ∈ scope.names, y.2 ≠ NameKind.cell) (hN : X.N.Nodup) (hAf : Ag.frames = X.A.frames) (hAh : Ag.handled = X.A.handled)
    (hfp : ∀ b ∈ fp, FpOk X pins H b ∧ b < s.heap.objs.size) (kp : ∀ b o, s.heap.get? b = some o → h5.get? b = some o) (hns : h5.Ns s.heap.objs.size m0) (hg : AllBare g5)
    (ha : h5.get? a = some go) (haz : s.heap.objs.size < a) (hgo : ∀ v, go.data ≠ .cell v) :
    Inv (gx X Ag s H (gEnv scope X s.heap.objs.size code) fp [(a, go)]) [] (wipe σ (own.map (·.2))) H { s with heap := h5, gens := g5, toks := t5 } := by
  have hfree : ∀ y ∈ scope.names, y.2 = .free → ∃ c, X.env.cells.lookup y.1 = some c := by
    intro y hy e
    rcases ok.free y hy e with k | k
    · exact I.ok.has _ (.inl k)
    · exact I.ok.has _ (.inr k)
  generalize hcenv : gEnv scope X s.heap.objs.size code = cenv
  have hL : cenv.locals = s.heap.objs.size := by subst hcenv; rfl
  have hcl : cenv.cells = cloFrom X.env.cells scope.names [] := by subst hcenv; rfl
  have hsc : cenv.scope = scope := by subst hcenv; rfl
  have mem : ∀ {y c}, cenv.cells.lookup y = some c → X.env.cells.lookup y = some c ∧ c < s.heap.objs.size := by
    intro y c e
    rw [hcl] at e
    rcases cloFrom_mem (PySem.mem_of_lookup e) with hm | ⟨h1, h2⟩
    · cases hm
    · subst h2
      obtain ⟨c', hc⟩ := hfree _ h1 rfl
      rw [hc]
      obtain ⟨v, z⟩ := I.cell _ _ hc
      exact ⟨rfl, z.lt⟩
  have look : ∀ {y}, scope.names.lookup y = some NameKind.free → ∃ c, cenv.cells.lookup y = some c ∧ X.env.cells.lookup y = some c := by
    intro y hl
    obtain ⟨c', e'⟩ := mem_lookup (cloFrom_has (cells := X.env.cells) (acc := []) (PySem.mem_of_lookup hl))
    rw [← hcl] at e'
    exact ⟨c', e', (mem e').1⟩
  have nokc : ∀ {y}, scope.names.lookup y ≠ some NameKind.cell := fun {y} e => nocell _ (PySem.mem_of_lookup e) rfl
  have okG : (gx X Ag s H cenv fp [(a, go)]).Ok := by
    refine ⟨I.ok.mod, ?_, ?_, ?_, ?_, ?_, ?_, fun _ _ z => (Bool.false_ne_true z).elim, ?_, ?_, .inr ⟨rfl, ?_⟩, ?_, I.bs, Nat.le_trans I.ok.bsz I.sz, ?_, ?_, I.stack, I.stkFree⟩
    · show cenv.scope.kind = _
      rw [hsc]; exact ok.kind
    · show cenv.globals = _
      subst hcenv; exact I.ok.glob
    · show cenv.builtins = _
      subst hcenv; rfl
    · show s.heap.objs.size ≤ cenv.locals
      rw [hL]; exact Nat.le_refl _
    · exact fun y z c e1 e2 => I.ok.inj y z c (mem e1).1 (mem e2).1
    · intro y hy
      have k : cenv.kindOf y = some .free := by
        rcases hy with k | k
        · have k2 : cenv.scope.names.lookup y = some .cell := k
          rw [hsc] at k2
          exact (nokc k2).elim
        · exact k
      have k2 : cenv.scope.names.lookup y = some .free := k
      rw [hsc] at k2
      obtain ⟨c, h1, _⟩ := look k2
      exact ⟨c, h1⟩
    · intro hc
      show Ag.handled = none
      rw [hAh]; exact I.ok.hd hc
    · show Ag.frames.map (cenv :: ·) = some (cenv :: X.stack)
      rw [hAf, I.ok.frames]; rfl
    · show cenv.frame = some cenv.locals
      subst hcenv; rfl
    · intro b hb
      refine ⟨?_, fun y c e z => (hfp b hb).1.2.2.2.2.1 y c (mem e).1 z⟩
      show b ≠ cenv.locals
      rw [hL]; exact Nat.ne_of_lt (hfp b hb).2
    · intro b o e hb
      rcases (hfp b hb).1.2.2.2.1 with z | z
      · exact I.ok.noex b o e z
      · exact absurd (Nat.lt_of_lt_of_le (Heap.lt_size e) (Nat.le_trans I.ok.bsz z)) (Nat.lt_irrefl _)
    · intro b hb z
      rcases List.mem_cons.mp (I.stkSub b z) with z | z
      · exact (hfp b hb).1.2.1 z
      · exact (hfp b hb).1.2.2.1 z
  refine ⟨okG, rfl, hg, Un.kept kp, ⟨m0, ?_, ?_⟩, ?_, ?_, fun y c e => I.freeC y c (mem e).1, ?_, I.hok.kept kp, by rw [wipe_length]; exact I.len⟩
  · show h5.Ns cenv.locals m0
    rw [hL]; exact hns
  · intro i y av e1 e2 e3
    obtain ⟨e2, hne⟩ := wipe_some e2
    have e3 : Vis cenv.scope y := e3
    rw [hsc] at e3
    have hfr : scope.names.lookup y = some .free := by
      have no : ∀ k', scope.names.lookup y = some k' → ¬ (k' = .local ∨ k' = .cell) := by
        intro k' e hh
        rcases ok.own _ (PySem.mem_of_lookup e) hh with e' | e'
        · obtain ⟨p, hp, hpy⟩ := List.mem_map.mp e'
          have e4 := ok.ix p hp
          have hpy : p.1 = y := hpy
          rw [hpy] at e4
          exact hne (List.mem_map.mpr ⟨p, hp, nodup_ix hN e4 e1⟩)
        · exact e' (List.mem_of_getElem? e1)
      rcases e3 with e3 | e3 | e3
      · exact (no _ e3 (.inl rfl)).elim
      · exact (no _ e3 (.inr rfl)).elim
      · exact e3
    have hkf : cenv.kindOf y = some .free := by
      show cenv.scope.names.lookup y = _
      rw [hsc]; exact hfr
    obtain ⟨m, hn, hl⟩ := I.loc
    have hvis : Vis X.env.scope y := (ok.free _ (PySem.mem_of_lookup hfr) rfl).elim (fun k => .inr (.inl k)) fun k => .inr (.inr k)
    obtain ⟨u, r, q⟩ := hl i y av e1 e2 hvis
    refine ⟨u, r, .inr ⟨.inr hkf, ?_⟩⟩
    obtain ⟨c, h1, h2⟩ := look hfr
    rcases q with ⟨k, _⟩ | ⟨_, c', e', z⟩
    · have k : X.env.scope.names.lookup y = some .local := k
      rcases ok.free _ (PySem.mem_of_lookup hfr) rfl with k' | k'
      · exact absurd (k.symm.trans k') (by simp)
      · exact absurd (k.symm.trans k') (by simp)
    · rw [h2] at e'; cases e'
      exact ⟨c, h1, z.keeps kp⟩
  · intro y c e
    obtain ⟨v, z⟩ := I.cell y c (mem e).1
    exact ⟨v, z.keeps kp⟩
  · show H cenv.locals = none
    rw [hL]; exact I.hok.fresh (Nat.le_refl _)
  · intro p hp
    have e : p = (a, go) := by simpa using hp
    subst e
    have hn : H a = none := I.hok.fresh (Nat.le_of_lt haz)
    refine ⟨ha, hn, ?_, ?_, hgo⟩
    · show a ≠ cenv.locals
      rw [hL]; exact Nat.ne_of_gt haz
    · intro hb
      have hb : a ∈ frs X.stack := hb
      rcases List.mem_cons.mp (I.stkSub a hb) with z | z
      · have h1 := I.lt
        rw [← z] at h1
        exact absurd (Nat.lt_trans haz h1) (Nat.lt_irrefl _)
      · exact I.nofs (Nat.le_of_lt haz) z
end
/-! ### the reading -/
/-- any (stp = true), all (stp = false) of elt for tg in iter if ..: W by the turn and a measure; behind it the def's table may have grown -/
def tGx (P : Addr) (stp : Bool) (wi : TI) (g : TG) (tt : TT) (te : TE) (vs : List Nat) : TE := fun σ H Q => wi σ H fun J H1 => TabG H1 P ∧ ∀ H2, Tabbed P H1 H2 → ∃ W : Nat → Nat → Hp → Prop, (∃ m, W 0 m H2) ∧ ∀ i m H, W i m H →
  (J.stop i H ∧ Q (.bl (!stp)) H) ∨ (J.go i H ∧ ∀ x H', J.yld i H x H' → g x (wipe σ vs) H' fun σ2 H3 => wipe σ2 vs = wipe σ vs ∧ tt σ2 H3 fun c H4 =>
    if c = true then te σ2 H4 fun y H5 => ∃ b, y = .bl b ∧ (b = stp → Q (.bl stp) H5) ∧ (b ≠ stp → ∃ m', m' < m ∧ W (i + 1) m' H5) else ∃ m', m' < m ∧ W (i + 1) m' H4)
/-- sleeping states that the consumer may wake: nothing but the generators' table and the tokens differ -/
structure Like (s s' : Shared) : Prop where
  heap : s'.heap = s.heap
  os : s'.os = s.os
  drawn : s'.drawn = s.drawn
  bare : AllBare s'.gens
  gsz : s.gens.size ≤ s'.gens.size
section
variable {X : Cx}
theorem like_inv {pins : List (Addr × Obj)} {σ : L2.St} {H : Hp} {s s' : Shared} (I : Inv X pins σ H s) (z : Like s s') : Inv X pins σ H s' := by
  obtain ⟨h', g', d', t', o'⟩ := s'
  obtain ⟨z1, z2, z3, z4, _⟩ := z
  have z1 : h' = s.heap := z1
  have z2 : o' = s.os := z2
  have z3 : d' = s.drawn := z3
  subst z1 z2 z3
  exact ⟨I.ok, I.os, z4, I.base, I.loc, I.cell, I.free, I.freeC, I.pin, I.hok, I.len⟩
/-- what is handed out; kap: how it goes on -/
def GxY (X : Cx) (fp : List Addr) (tn : Nat → Heap → Prop) (σw : L2.St) (g : Nat) (stp : Bool) (Q : VK) (W : Nat → Nat → Hp → Prop) : Protocol := fun _ _ v s kap =>
  ∃ b H', v = .bool b ∧ Inv X [] σw H' s ∧ g < s.gens.size ∧ (b = stp → Q (.bl stp) H') ∧ (b ≠ stp → ∀ s', Like s s' → kap (.send .none) s')
def GxP (X : Cx) (σw : L2.St) (g : Nat) (stp : Bool) (Q : VK) (s : Shared) : Prop := ∃ H', Inv X [] σw H' s ∧ g < s.gens.size ∧ Q (.bl (!stp)) H'
abbrev GxR' (X : Cx) (σw : L2.St) (g : Nat) (stp : Bool) (Q : VK) : GenEnd := fun _ _ r s => r = .ok .next ∧ GxP X σw g stp Q s

theorem seg_bindw {M : Model} {A : Around} {R : GenEnd} {Y : Protocol} {n : Nat} {s₀ : Shared} {c : Code} {fs : List Frame} {s : Shared} {α β : Type} {m : Sem α} {K : α → Sem β} {K' : β → Sem PySem.Fin} {H' : Value → Sem PySem.Fin} {gd lv} {N : Nat} (hN : N ≤ s.gens.size)
    (h : wpAny M (A.over c fs) m (fun a s' => N ≤ s'.gens.size → Seg M A R Y n s₀ c ((K a).wrap K' H' gd lv) fs s') (fun _ _ => False) s) :
    Seg M A R Y n s₀ c ((m >>= K).wrap K' H' gd lv) fs s := by
  refine seg_bind_wrap ?_
  refine GenW.wpAny_gsz hN ?_
  exact wpAny_mono h (fun _ _ q => q) fun _ _ z => z.elim

variable {Ag : Around} {fp : List Addr} {tn : Nat → Heap → Prop} {σw : L2.St} {g : Nat} {stp : Bool} {Q : VK} {W : Nat → Nat → Hp → Prop} {J : It} {it : Addr} {elt tg iter : Expr} {ifs : List Expr} {scope : Scope} {pos : Pos} {gt : TG} {tt : TT} {te : TE} {vs : List Nat}
theorem over_gx {cenv : Env} : Ag.over (.compLoop (.GeneratorExp elt [⟨tg, iter, ifs, 0⟩] scope pos) 0 (.ref it) .none cenv) [] = Ag.deeper cenv := by
  obtain ⟨hd, d, fr, gs, u⟩ := Ag
  rfl
theorem over_gx0 {cenv : Env} : Ag.over (.compStart (.GeneratorExp elt [⟨tg, iter, ifs, 0⟩] scope pos) 0 (.ref it) .none cenv) [] = Ag.deeper cenv := by
  obtain ⟨hd, d, fr, gs, u⟩ := Ag
  rfl
theorem seg_gx (hA : X.A = Ag.deeper X.env) (hc : X.calm = true) (hpn : True) (hco : X.env.scope.isCoroutine = false) (hxe : X.xe = fun _ _ => False) (hex : X.ex = fp)
    (hpnx : ∀ b ∈ fp, ∀ p ∈ X.pn, p.1 ≠ b) (hw : wipe σw vs = σw)
    (T : Turn X.prog X.w X.K tg J fp it tn) (pg : PG X tg gt) (pt : PTs X ifs tt) (pe : PE X elt te)
    (turn : ∀ i m H, W i m H → (J.stop i H ∧ Q (.bl (!stp)) H) ∨ (J.go i H ∧ ∀ x H', J.yld i H x H' → gt x σw H' fun σ2 H3 => wipe σ2 vs = σw ∧ tt σ2 H3 fun c H4 =>
      if c = true then te σ2 H4 fun y H5 => ∃ b, y = .bl b ∧ (b = stp → Q (.bl stp) H5) ∧ (b ≠ stp → ∃ m', m' < m ∧ W (i + 1) m' H5) else ∃ m', m' < m ∧ W (i + 1) m' H4)) :
    ∀ (m n i : Nat) (s₀ s : Shared) (H : Hp), m < n → W i m H → Inv X [] σw H s → tn i s.heap → (∀ b ∈ fp, H b = none) → g < s.gens.size →
      Seg (model X.prog X.w) Ag (GxR' X σw g stp Q) (GxY X fp tn σw g stp Q W) n s₀
        (.compLoop (.GeneratorExp elt [⟨tg, iter, ifs, 0⟩] scope pos) 0 (.ref it) .none X.env)
        ((model X.prog X.w).den (.compLoop (.GeneratorExp elt [⟨tg, iter, ifs, 0⟩] scope pos) 0 (.ref it) .none X.env)) [] s := by
  intro m
  induction m using Nat.strongRecOn with
  | ind m ih =>
    intro n i s₀ s H hmn hW I st nfp hg
    have eA := over_gx (Ag := Ag) (elt := elt) (tg := tg) (iter := iter) (ifs := ifs) (scope := scope) (pos := pos) (it := it) (cenv := X.env)
    rw [← hA] at eA
    have stat : ∀ {pins : List (Addr × Obj)} {σ' : L2.St} {H' : Hp} {s' : Shared}, Inv X pins σ' H' s' → pins = [] → (∀ b ∈ fp, H' b = none) → ∀ b ∈ fp, FpOk X pins H' b := by
      intro pins σ' H' s' I' hp hn b hb
      have hb' : b ∈ X.ex := by rw [hex]; exact hb
      refine ⟨hn b hb, (I'.ok.exf b hb').1, I'.ok.exfs b hb', .inl hb', fun x c e => (I'.ok.exf b hb').2 x c e, fun p hp2 => ?_⟩
      rw [hp, List.append_nil] at hp2
      exact hpnx b hb p hp2
    show Seg _ Ag _ _ _ s₀ _ ((compTurn (.GeneratorExp elt [⟨tg, iter, ifs, 0⟩] scope pos) 0 (.ref it) .none X.env).onRaise (leaving X.env)) [] s
    rw [compTurn_gen, Sem.onRaise_eq_wrap]
    refine seg_bindw hg (wpAny_standAt fun _ => ?_)
    rcases turn i m H hW with ⟨stop, qq⟩ | ⟨go, step⟩
    · refine seg_bindw hg ?_
      rw [eA]
      refine wpAny_mono (T.done X rfl rfl rfl hc i [] s σw H (fun _ _ => False) I (stat I rfl nfp) st stop) (fun r s6 ⟨hr, I6⟩ => ?_) fun _ _ z => z
      subst hr
      intro hg6
      exact seg_end (.ok .next) ⟨rfl, H, I6, hg6, qq⟩
    · refine seg_bindw hg ?_
      rw [eA]
      refine wpAny_mono (T.item X rfl rfl rfl hc i [] s σw H (fun _ _ => False) I (stat I rfl nfp) st go) (fun r s6 ⟨u, hr, h6⟩ => ?_) fun _ _ z => z
      subst hr
      intro hg6
      refine seg_bindw hg6 ?_
      rw [eA]
      refine wpAny_mono h6 (fun _ s7 ⟨x, H7, I7, r7, y7, st7, n7⟩ => ?_) fun _ _ z => z
      intro hg7
      have I7' := I7.pinned (stat I7 rfl n7) (T.obj _ _ st7)
      refine seg_bindw hg7 ?_
      rw [eA]
      refine wpAny_mono (pg.run _ s7 σw H7 x u _ I7' r7 (step x H7 y7)) (fun _ s8 ⟨σ8, H8, I8, hw8, q8⟩ => ?_) fun _ _ z => by rw [hxe] at z; exact z
      intro hg8
      refine seg_bindw hg8 ?_
      rw [eA]
      refine wpAny_mono (pt.run _ s8 σ8 H8 _ I8 q8) (fun c s9 ⟨H9, I9, q9⟩ => ?_) fun _ _ z => by rw [hxe] at z; exact z
      intro hg9
      -- behind the turn
      have fin : ∀ {s' : Shared} {H' : Hp}, Inv X ([] ++ pinsAt fp s7.heap) σ8 H' s' → Inv X [] σw H' s' ∧ tn (i + 1) s'.heap ∧ ∀ b ∈ fp, H' b = none := by
        intro s' H' I'
        have pin' : ∀ b ∈ fp, ∀ o, s7.heap.get? b = some o → s'.heap.get? b = some o ∧ H' b = none := by
          intro b hb o e
          have z := I'.pin (b, o) (List.mem_append_right _ (List.mem_append_right _ (mem_pinsAt hb e)))
          exact ⟨z.1, z.2.1⟩
        have hl : σw.length = σ8.length := by rw [← hw8, wipe_length]
        refine ⟨(I'.unpinned (pins := [])).weak hl fun j v e => ?_, T.keep _ _ _ st7 fun b hb o e => (pin' b hb o e).1, fun b hb => ?_⟩
        · rw [← hw8] at e
          exact (wipe_some e).1
        · obtain ⟨o, e, _⟩ := T.obj _ _ st7 b hb
          exact (pin' b hb o e).2
      cases c with
      | false =>
        simp only [Bool.false_eq_true, if_false] at q9 ⊢
        obtain ⟨m', hm', w'⟩ := q9
        obtain ⟨J1, J2, J3⟩ := fin I9
        exact seg_again rfl (ih m' hm' n (i + 1) s₀ s9 H9 (by omega) w' J1 J2 J3 hg9)
      | true =>
        simp only [if_true] at q9 ⊢
        have hy : ∀ v, yieldOut X.env v = yieldValue v := fun v => by simp only [yieldOut, hco, Bool.false_eq_true, if_false]
        simp only [hy]
        rw [Sem.bind_eq_wrap', Sem.bind_eq_wrap', Sem.wrap_wrap, Sem.wrap_wrap]
        refine seg_wrap (GenW.wpAny_gsz hg9 ?_)
        rw [eA]
        refine wpAny_mono (pe.run _ s9 σ8 H9 _ I9 q9) (fun y s10 ⟨yv, H10, I10, r10, b, hb, q1, q2⟩ => ?_) fun _ _ z => by rw [hxe] at z; exact z.elim
        intro hg10
        subst hb
        have r10 : y = Value.bool b := r10
        subst r10
        obtain ⟨J1, J2, J3⟩ := fin I10
        obtain ⟨n', rfl⟩ : ∃ n', n = n' + 1 := ⟨n - 1, by omega⟩
        refine seg_at (seg_yield rfl rfl rfl ⟨b, H10, rfl, J1, hg10, q1, fun hb s' hl => ?_⟩)
        obtain ⟨m', hm', w'⟩ := q2 hb
        refine seg_again rfl (ih m' hm' n' (i + 1) s' s' H10 (by omega) w' (like_inv J1 hl) ?_ J3 (Nat.lt_of_lt_of_le hg10 hl.gsz))
        rw [hl.heap]; exact J2

theorem seg_gx0 (hA : X.A = Ag.deeper X.env) {s₀ s : Shared} {n : Nat} (T : Turn X.prog X.w X.K tg J fp it tn) (st : tn 0 s.heap)
    (loop : Seg (model X.prog X.w) Ag (GxR' X σw g stp Q) (GxY X fp tn σw g stp Q W) n s₀ (.compLoop (.GeneratorExp elt [⟨tg, iter, ifs, 0⟩] scope pos) 0 (.ref it) .none X.env)
        ((model X.prog X.w).den (.compLoop (.GeneratorExp elt [⟨tg, iter, ifs, 0⟩] scope pos) 0 (.ref it) .none X.env)) [] s) :
    Seg (model X.prog X.w) Ag (GxR' X σw g stp Q) (GxY X fp tn σw g stp Q W) n s₀ (.compStart (.GeneratorExp elt [⟨tg, iter, ifs, 0⟩] scope pos) 0 (.ref it) .none X.env)
        ((model X.prog X.w).den (.compStart (.GeneratorExp elt [⟨tg, iter, ifs, 0⟩] scope pos) 0 (.ref it) .none X.env)) [] s := by
  show Seg _ Ag _ _ _ s₀ _ ((compStart (.GeneratorExp elt [⟨tg, iter, ifs, 0⟩] scope pos) 0 (.ref it) .none X.env).onRaise (leaving X.env)) [] s
  unfold compStart
  rw [Sem.onRaise_eq_wrap]
  show Seg _ Ag _ _ _ s₀ _ ((ask >>= _).wrap _ _ _ _) [] s
  refine seg_bind_wrap (wpAny_askSetting ?_)
  split
  · exact seg_again rfl loop
  · first
      | exact seg_bind_wrap (wpAny_rule (seg_bind_wrap (wpAny_standAt (seg_bind_wrap (T.self _ 0 s _ _ st (seg_again rfl loop))))))
      | (refine seg_bind_wrap (wpAny_rule ?_); show Seg _ Ag _ _ _ s₀ _ ((standAt iter.pos >>= _).wrap _ _ _ _) [] s; exact seg_bind_wrap (wpAny_standAt (seg_bind_wrap (T.self _ 0 s _ _ st (seg_again rfl loop)))))

/-! ### what the consumer holds -/
theorem bare_setGen {s : Shared} {g : Nat} {x : GenState} (h : AllBare s.gens) (hx : x.bare = true) : AllBare (s.setGen g x).gens := by
  intro y hy
  have hy : y ∈ s.gens.setIfInBounds g x := hy
  obtain ⟨i, hi, e⟩ := Array.mem_iff_getElem.mp hy
  rw [Array.getElem_setIfInBounds] at e
  by_cases c : g = i
  · rw [if_pos c] at e; rw [← e]; exact hx
  · rw [if_neg c] at e; rw [← e]; exact h _ (Array.getElem_mem _)
  · simpa using hi
theorem like_setGen {s : Shared} {g : Nat} {x : GenState} (h : AllBare s.gens) (hx : x.bare = true) : Like s (s.setGen g x) := ⟨rfl, rfl, rfl, bare_setGen h hx, Nat.le_of_eq (GenW.setGen_size s g x).symm⟩
theorem Like.trans {s s' s'' : Shared} (a : Like s s') (b : Like s' s'') : Like s s'' := ⟨b.heap.trans a.heap, b.os.trans a.os, b.drawn.trans a.drawn, b.bare, Nat.le_trans a.gsz b.gsz⟩
theorem like_refl {s : Shared} (h : AllBare s.gens) : Like s s := ⟨rfl, rfl, rfl, h, Nat.le_refl _⟩
def GenO (go : Obj) (g : Nat) : Prop := ∃ nm qn, go.cls = .type "generator" ∧ go.data = .fields #[.int g 0, nm, qn] ∧ go.slots = #[]
/-- X: the generator's own context -/
def Held (X : Cx) (Ag : Around) (fp : List Addr) (tn : Nat → Heap → Prop) (σw : L2.St) (g : Nat) (stp : Bool) (Q : VK) (W : Nat → Nat → Hp → Prop) (n : Nat) (s : Shared) : Prop :=
  (∃ H', Inv X [] σw H' s) ∧ ∃ gs, s.gens[g]? = some gs ∧ AllBare s.gens ∧ ∀ s'', Like s s'' → gs.Goes (model X.prog X.w) Ag (GxR' X σw g stp Q) (GxY X fp tn σw g stp Q W) n (.send .none) s''
theorem get_setGen {s : Shared} {g : Nat} {x : GenState} (h : g < s.gens.size) : (s.setGen g x).gens[g]? = some x := by
  simp [Shared.setGen, h]
theorem held_turn {A : Around} {R : Result → Shared → Prop} {a : Addr} {go : Obj} (hAg : Ag = A.in1.in1) (hh : A.handled = none) (hroom : A.depth < recursionLimit) (hpn : X.pn = [(a, go)]) (hgo : GenO go g)
    (hR : ∀ (b : Bool) H' s', Inv X [] σw H' s' → Q (.bl b) H' → ∀ h', (∀ x o, s'.heap.get? x = some o → h'.get? x = some o) → R (.ok (.ret (.bool b))) { s' with heap := h' })
    (n : Nat) (s : Shared) (h : Held X Ag fp tn σw g stp Q W n s) :
    wpAny (model X.prog X.w) A.in1 (pyNext (.ref a)) (Turned R stp (Held X Ag fp tn σw g stp Q W) n) (fun _ _ => False) s := by
  obtain ⟨⟨H0, I0⟩, gs, hgs, hbare, hgoes⟩ := h
  subst hAg
  have pinned : ∀ {H' : Hp} {s' : Shared}, Inv X [] σw H' s' → s'.heap.IsGen a g := by
    intro H' s' I'
    obtain ⟨nm, qn, h1, h2, h3⟩ := hgo
    exact ⟨go, nm, qn, (I'.pin (a, go) (List.mem_append_left _ (by rw [hpn]; exact List.mem_cons_self))).1, h1, h2, h3⟩
  refine wpAny_pyNext_genexpQ (P := fun _ _ s => GxP X σw g stp Q s) (Y := GxY X fp tn σw g stp Q W) (n := n) hh I0.nolimit hroom (pinned I0) hgs (hgoes _ (like_setGen hbare rfl)) (fun v s₁ gs' hb hv => ?_) (fun s₁ hp h' hk => ?_)
  · obtain ⟨b, H', rfl, I1, hg1, q1, q2⟩ := hv
    have L1 : Like s₁ (s₁.setGen g gs') := like_setGen I1.bare hb
    have I2 := like_inv I1 L1
    refine ⟨b, rfl, fun e => ?_, fun e => ?_⟩
    · have z := hR stp H' (s₁.setGen g gs') I2 (q1 e) (s₁.setGen g gs').heap fun _ _ e => e
      exact z
    · cases n with
      | zero => exact (q2 e s₁ (like_refl I1.bare)).elim
      | succ m =>
        refine ⟨m, Nat.lt_succ_self m, ⟨H', I2⟩, gs', get_setGen hg1, I2.bare, fun s'' hl => ?_⟩
        exact q2 e s'' (L1.trans hl)
  · obtain ⟨H', I1, hg1, q⟩ := hp
    exact hR (!stp) H' (s₁.setGen g .finished) (like_inv I1 (like_setGen I1.bare rfl)) q h' hk
end

/-! ### the rules -/
theorem wipe_of {τ : L2.St} : ∀ vs : List Nat, (∀ i ∈ vs, ∀ x, τ[i]? = some x → x = none) → wipe τ vs = τ
  | [], _ => rfl
  | v :: r, h => by
    show (wipe τ r).set v none = τ
    rw [wipe_of r fun i hi x hx => h i (List.mem_cons_of_mem _ hi) x hx]
    apply List.ext_getElem?
    intro j
    by_cases hj : v = j
    · subst hj
      rw [List.getElem?_set]
      cases hx : τ[v]? with
      | none =>
        have := List.getElem?_eq_none_iff.mp hx
        rw [if_pos rfl, if_neg (by omega)]
      | some x =>
        have := (List.getElem?_eq_some_iff.mp hx).1
        rw [if_pos rfl, if_pos this, h v List.mem_cons_self x hx]
    · rw [List.getElem?_set_ne hj]
theorem wipe_wipe (σ : L2.St) (vs : List Nat) : wipe (wipe σ vs) vs = wipe σ vs := wipe_of vs fun i hi x hx => by
  cases x with
  | none => rfl
  | some v => exact absurd hi (wipe_some hx).2
/-- the scope of the generator expression -/
structure GxS (scope : Scope) : Prop where
  co : scope.isCoroutine = false
  cell : ∀ y ∈ scope.names, y.2 ≠ NameKind.cell
  dot : scope.names.lookup (".0" : Str) = some NameKind.local
def gxsB (scope : Scope) : Bool := !scope.isCoroutine && (scope.names.all fun y => y.2 != NameKind.cell) && scope.names.lookup (".0" : Str) == some NameKind.local
theorem gxs_by {scope : Scope} (h : gxsB scope = true) : GxS scope := by
  unfold gxsB at h
  simp only [Bool.and_eq_true, List.all_eq_true, beq_iff_eq, Bool.not_eq_true', bne_iff_ne] at h
  exact ⟨h.1.1, h.1.2, h.2⟩
theorem room_gx {k : Nat} {A : Around} (r : Room (k + 1) A) (env : Env) : Room k (A.in1.in1.deeper env) :=
  ⟨r.hd, by have := r.dp; show A.depth + 1 + 3 * k + 5 < _; omega, by have := r.un; show A.units + 1 + 1 + 3 + 16 * k + 200 < _; omega⟩
section
variable {X : Cx} {c P : Addr} {elt tg iter : Expr} {ifs : List Expr} {scope : Scope} {own : List (Str × Nat)} {gpos : Pos} {stp : Bool} {wi : TI} {gt : TG} {tt : TT} {te : TE} {k : Nat}
theorem gx_eval {pins : List (Addr × Obj)} {σ : L2.St} {H : Hp} {s : Shared} {Q : VK} {Q' : Value → Shared → Prop} (hr : Room k X.A) (hc : X.calm = true) (hN : X.N.Nodup) (TB : TabB X.base X.mg c P) (hcode : X.env.code = .ref c) (ok : BlkOk X.N X.env.scope scope own) (S : GxS scope) (hi : PI X tg iter wi)
    (hg : ∀ (s : Shared) (H : Hp) (C : Addr) (cd : Value) (fp : List Addr) (pn : List (Addr × Obj)), PG (gx X X.A.in1.in1 s H (gEnv scope X C cd) fp pn) tg gt)
    (ht : ∀ (s : Shared) (H : Hp) (C : Addr) (cd : Value) (fp : List Addr) (pn : List (Addr × Obj)), PTs (gx X X.A.in1.in1 s H (gEnv scope X C cd) fp pn) ifs tt)
    (he : ∀ (s : Shared) (H : Hp) (C : Addr) (cd : Value) (fp : List Addr) (pn : List (Addr × Obj)), PE (gx X X.A.in1.in1 s H (gEnv scope X C cd) fp pn) elt te)
    (hs : ∀ v, genFold iter X.env v = pure v) (I : Inv X pins σ H s) (h : tGx P stp wi gt tt te (own.map (·.2)) σ H Q)
    (hQ : ∀ (XG : Cx) (a : Addr) (g : Nat) (go : Obj) (fp : List Addr) (tn : Nat → Heap → Prop) (σw : L2.St) (W : Nat → Nat → Hp → Prop) (n : Nat) (s5 : Shared), XG.prog = X.prog → XG.w = X.w → XG.pn = [(a, go)] → GenO go g → (∀ H' s', Inv XG [] σw H' s' → Inv X pins σ H' s') →
      Held XG X.A.in1.in1 fp tn σw g stp Q W n s5 → Q' (.ref a) s5) :
    wpAny (model X.prog X.w) X.A (eval (.GeneratorExp elt [⟨tg, iter, ifs, 0⟩] scope gpos) X.env) Q' X.xe s := by
  have hfree : ∀ y ∈ scope.names, y.2 = .free → ∃ c, X.env.cells.lookup y.1 = some c := by
    intro y hy e
    rcases ok.free y hy e with z | z
    · exact I.ok.has _ (.inl z)
    · exact I.ok.has _ (.inr z)
  refine wpAny_GeneratorExp_make S.co (closure_ok hfree) S.cell S.dot ok.kind (by have := hr.dp; omega) ?_ hs
  refine thn (hi.run pins s σ H _ I h) fun xv s1 hx => thn hx fun itv s2 h2 => ?_
  obtain ⟨it, fp, tn, J, H1, e, I2, T, st2, f2, ⟨ps, hP, htr⟩, q⟩ := h2
  subst e
  have hPs : s2.heap.get? P = some { cls := .none, data := .fields ps } := I2.hok P _ hP
  have cd0 : PySem.W.CodeHd s2.heap c P := TB.code.keeps I2.bk
  refine ⟨I2.nolimit, ?_⟩
  have nP : ∀ b ∈ fp, b ≠ P := by
    intro b hb e
    have z := (f2 b hb).1
    rw [e, hP] at z
    cases z
  have cont : ∀ (code : Value) (H2 : Hp) (s3 : Shared), Tabbed P H1 H2 → Inv X pins σ H2 s3 → (∀ b o, b ≠ P → s2.heap.get? b = some o → s3.heap.get? b = some o) →
      wpAny (model X.prog X.w) X.A (builtinsFor X.env.globals X.env.builtins) (fun bi s₄ =>
        ∀ h', h'.Ns s₄.heap.objs.size (fun y => if y = ".0" then some (.ref it) else none) → Heap.SameBut s₄.heap.objs.size (s₄.heap.push { cls := .type "frame", data := .dict #[] }) h' →
          Q' (.ref h'.objs.size) { s₄ with
            gens := s₄.gens.push (.fresh (.compStart (.GeneratorExp elt [⟨tg, iter, ifs, 0⟩] scope gpos) 0 (.ref it) .none (genEnv scope (cloFrom X.env.cells scope.names []) s₄.heap.objs.size code bi X.env))),
            toks := s₄.toks + 1 + 1 + 1,
            heap := h'.push { cls := .type "generator", data := .fields #[.int s₄.gens.size 0, .str "<genexpr>" (s₄.toks + 1), .str (X.env.qual ++ "<genexpr>") (s₄.toks + 1 + 1)] } }) X.xe s3 := by
    intro code H2 s3 hT I3 k3
    obtain ⟨bm, ob, e1, e2, e3, e4, e5, e6, e7, e8⟩ := TB.bm
    refine wpAny_builtinsFor (m := X.mg) (by rw [I3.ok.glob]; exact I3.mod.glob.keeps I3.bk) e1 e2 (I3.bk _ _ e5) e6 e7 e8 ?_
    intro h' hns hsb
    obtain ⟨W, ⟨m0, w0⟩, turn⟩ := q H2 hT
    have sz : h'.objs.size = s3.heap.objs.size + 1 := by rw [hsb.1, Heap.size_push]
    generalize hgo : ({ cls := .type "generator", data := .fields #[.int s3.gens.size 0, .str "<genexpr>" (s3.toks + 1), .str (X.env.qual ++ "<genexpr>") (s3.toks + 1 + 1)] } : Obj) = go
    have hgoO : GenO go s3.gens.size := by
      subst hgo
      exact ⟨_, _, rfl, rfl, rfl⟩
    have hcl : ∀ v, go.data ≠ .cell v := by
      subst hgo
      intro v z
      cases z
    have pushed : (h'.push go).get? h'.objs.size = some go := by
      subst hgo
      exact Heap.get?_push_size _ rfl
    have keep3 : ∀ b o, s3.heap.get? b = some o → (h'.push go).get? b = some o := by
      intro b o e
      exact Heap.get?_push_of_some _ (hsb.extBut b o (Nat.ne_of_lt (Heap.lt_size e)) (Heap.get?_push_of_some _ e))
    have st3 : tn 0 s3.heap := T.keep _ _ _ st2 fun b hb o e => k3 b o (nP b hb) e
    have f3 : ∀ b ∈ fp, FpOk X pins H2 b ∧ b < s3.heap.objs.size := by
      intro b hb
      obtain ⟨o, e, _⟩ := T.obj _ _ st3 b hb
      refine ⟨⟨?_, (f2 b hb).2⟩, Heap.lt_size e⟩
      rw [hT.2 b (nP b hb)]
      exact (f2 b hb).1
    have gz : ∀ (s : Shared) (x : GenState), s.gens.size < (s.gens.push x).size := fun s x => by rw [Array.size_push]; exact Nat.lt_succ_self _
    have IG := gx_start (Ag := X.A.in1.in1) (code := code) (a := h'.objs.size) (go := go) (h5 := h'.push go) (t5 := s3.toks + 1 + 1 + 1)
      (g5 := s3.gens.push (.fresh (.compStart (.GeneratorExp elt [⟨tg, iter, ifs, 0⟩] scope gpos) 0 (.ref it) .none (gEnv scope X s3.heap.objs.size code))))
      I3 ok S.cell hN rfl rfl f3 keep3 (hns.push _) (I3.bare.push rfl) pushed (by omega) hcl
    have pg := hg s3 H2 s3.heap.objs.size code fp [(h'.objs.size, go)]
    have pt := ht s3 H2 s3.heap.objs.size code fp [(h'.objs.size, go)]
    have pe := he s3 H2 s3.heap.objs.size code fp [(h'.objs.size, go)]
    have back : ∀ H' s', Inv (gx X X.A.in1.in1 s3 H2 (gEnv scope X s3.heap.objs.size code) fp [(h'.objs.size, go)]) [] (wipe σ (own.map (·.2))) H' s' → Inv X pins σ H' s' := by
      intro H' s' J'
      exact I3.call' (ch := fp) J'.os J'.base J'.hok J'.bare fun b hb => ⟨(f3 b hb).1.2.2.2.1, (f3 b hb).1.2.1, (f3 b hb).1.2.2.2.2.1, (f3 b hb).1.2.2.2.2.2⟩
    have n5 : ∀ b ∈ fp, H2 b = none := fun b hb => (f3 b hb).1.1
    have st5 : ∀ h'' : Heap, (∀ b o, s3.heap.get? b = some o → h''.get? b = some o) → tn 0 h'' := fun h'' kk => T.keep _ _ _ st3 fun b _ o e => kk b o e
    have wipe2 := wipe_wipe σ (own.map (·.2))
    have pnx : ∀ b ∈ fp, ∀ p ∈ [(h'.objs.size, go)], p.1 ≠ b := by
      intro b hb p hp e
      have hp : p = (h'.objs.size, go) := by simpa using hp
      have hlt := (f3 b hb).2
      rw [← e, hp] at hlt
      have hlt : h'.objs.size < s3.heap.objs.size := hlt
      omega
    refine hQ (gx X X.A.in1.in1 s3 H2 (gEnv scope X s3.heap.objs.size code) fp [(h'.objs.size, go)]) h'.objs.size s3.gens.size go fp tn (wipe σ (own.map (·.2))) W (m0 + 1) _ rfl rfl rfl hgoO back ⟨⟨H2, IG⟩, _, Array.getElem?_push_size .., IG.bare, fun s'' hl => ⟨rfl, ?_⟩⟩
    have hst'' : tn 0 s''.heap := by
      rw [hl.heap]
      exact st5 _ keep3
    have hg'' : s3.gens.size < s''.gens.size := Nat.lt_of_lt_of_le (gz s3 _) hl.gsz
    have loop := seg_gx (X := gx X X.A.in1.in1 s3 H2 (gEnv scope X s3.heap.objs.size code) fp [(h'.objs.size, go)]) (Ag := X.A.in1.in1) (iter := iter) (scope := scope) (pos := gpos) (σw := wipe σ (own.map (·.2))) (g := s3.gens.size) (stp := stp) (Q := Q) (vs := own.map (·.2))
      rfl hc trivial S.co rfl rfl pnx wipe2 T pg pt pe turn m0 (m0 + 1) 0 s'' s'' H2 (Nat.lt_succ_self _) w0 (like_inv IG hl) hst'' n5 hg''
    exact seg_gx0 (X := gx X X.A.in1.in1 s3 H2 (gEnv scope X s3.heap.objs.size code) fp [(h'.objs.size, go)]) (Ag := X.A.in1.in1) rfl T hst'' loop
  cases hf : codeAmong gpos ps.toList with
  | none =>
    refine wpAny_genexprCodeX hcode (cd0.code hPs htr) (cd0.tab hPs) hf fun c' h' tk hx hge hlt hco' _ htab' _ => ?_
    obtain ⟨o1, vs1, f1, tf, fl, tg1, inF, tx, tt1, op, _, _, _, _, _, _, _, _, _, htr', _⟩ := hco'
    have J := inv_tab (more := #[rawInt gpos.line, rawInt gpos.col, .ref c']) (h' := h') (g' := s2.gens) (d' := s2.drawn) (t' := tk) I2 hP (fun b u hb e => hx b u hb e) htab'.2 I2.bare
    exact cont _ _ _ ⟨⟨_, upd_same, htr'⟩, fun b hb => upd_ne hb⟩ J fun b o hb e => hx b o hb e
  | some cv =>
    refine wpAny_genexprCode_hit hcode (cd0.code hPs htr) hf ?_
    exact cont cv H1 s2 ⟨⟨ps, hP, htr⟩, fun _ _ => rfl⟩ I2 fun _ _ _ e => e
variable {p pos : Pos}
theorem pe_any (hr : Room k X.A) (hc : X.calm = true) (hN : X.N.Nodup) (hgl : Gl X "any") (hm : X.mg "any" = none) (TB : TabB X.base X.mg c P) (hcode : X.env.code = .ref c) (ok : BlkOk X.N X.env.scope scope own) (S : GxS scope) (hi : PI X tg iter wi)
    (hg : ∀ (s : Shared) (H : Hp) (C : Addr) (cd : Value) (fp : List Addr) (pn : List (Addr × Obj)), PG (gx X X.A.in1.in1 s H (gEnv scope X C cd) fp pn) tg gt)
    (ht : ∀ (s : Shared) (H : Hp) (C : Addr) (cd : Value) (fp : List Addr) (pn : List (Addr × Obj)), PTs (gx X X.A.in1.in1 s H (gEnv scope X C cd) fp pn) ifs tt)
    (he : ∀ (s : Shared) (H : Hp) (C : Addr) (cd : Value) (fp : List Addr) (pn : List (Addr × Obj)), PE (gx X X.A.in1.in1 s H (gEnv scope X C cd) fp pn) elt te)
    (hs : ∀ v, genFold iter X.env v = pure v := by intro _; rfl)
    (hst : starEach [.GeneratorExp elt [⟨tg, iter, ifs, 0⟩] scope gpos] X.env = (false, eval (.GeneratorExp elt [⟨tg, iter, ifs, 0⟩] scope gpos) X.env) :: starEach [] X.env := by rfl) :
    PE X (.Call (.Name "any" p) [.GeneratorExp elt [⟨tg, iter, ifs, 0⟩] scope gpos] [] pos) (tGx P true wi gt tt te (own.map (·.2))) := by
  refine ⟨fun pins s σ H Q I h => ?_⟩
  refine wpAny_Call_Name_kw (ld_blt I hgl hm boot_any ?_)
  refine PyProof.Rows.callWith_builtin1 ?_ hst (by rfl)
  rw [hst]
  show wpAny _ _ (spliced ((false, eval (.GeneratorExp elt [⟨tg, iter, ifs, 0⟩] scope gpos) X.env) :: backTo pos (starEach [] X.env))) _ _ s
  refine Calls.spliced_cons (gx_eval (Q := Q) (stp := true) hr hc hN TB hcode ok S hi hg ht he hs I h fun XG a g go fp tn σw W n s5 hp hw hpn hgo back hheld => ?_)
  refine Calls.spliced_nil ?_
  have hheld0 := hheld
  obtain ⟨⟨H0, I0⟩, _⟩ := hheld0
  have hig : s5.heap.IsGen a g := by
    obtain ⟨nm, qn, h1, h2, h3⟩ := hgo
    exact ⟨go, nm, qn, (I0.pin (a, go) (List.mem_append_left _ (by rw [hpn]; exact List.mem_cons_self))).1, h1, h2, h3⟩
  refine call_function_tree F.kind_any F.plain_any F.entry_any (F.args_any1 _) ?_
  unfold Builtin.«any»
  refine wpAny_bind (m := oneArg "any" _) (wpAny_pure ?_)
  refine wpAny_bind (wpAny_pyIter_gen hig ?_)
  refine wpAny_pure ⟨plainId_quiet F.plain_any_loop _, ?_⟩
  rw [← hp, ← hw] at *
  refine loop_any (Held XG X.A.in1.in1 fp tn σw g true Q W) (held_turn rfl hr.hd (by have := hr.dp; omega) hpn hgo fun b H' s' J' qq h' hk => ?_) n s5 hheld
  exact ⟨.bl b, H', (back H' s' J').kept (t' := s'.toks) hk, rfl, qq⟩
theorem pe_all (hr : Room k X.A) (hc : X.calm = true) (hN : X.N.Nodup) (hgl : Gl X "all") (hm : X.mg "all" = none) (TB : TabB X.base X.mg c P) (hcode : X.env.code = .ref c) (ok : BlkOk X.N X.env.scope scope own) (S : GxS scope) (hi : PI X tg iter wi)
    (hg : ∀ (s : Shared) (H : Hp) (C : Addr) (cd : Value) (fp : List Addr) (pn : List (Addr × Obj)), PG (gx X X.A.in1.in1 s H (gEnv scope X C cd) fp pn) tg gt)
    (ht : ∀ (s : Shared) (H : Hp) (C : Addr) (cd : Value) (fp : List Addr) (pn : List (Addr × Obj)), PTs (gx X X.A.in1.in1 s H (gEnv scope X C cd) fp pn) ifs tt)
    (he : ∀ (s : Shared) (H : Hp) (C : Addr) (cd : Value) (fp : List Addr) (pn : List (Addr × Obj)), PE (gx X X.A.in1.in1 s H (gEnv scope X C cd) fp pn) elt te)
    (hs : ∀ v, genFold iter X.env v = pure v := by intro _; rfl) (hb : bootBuiltins "all" = some (.builtin "all") := by first | rfl | decide +kernel)
    (hst : starEach [.GeneratorExp elt [⟨tg, iter, ifs, 0⟩] scope gpos] X.env = (false, eval (.GeneratorExp elt [⟨tg, iter, ifs, 0⟩] scope gpos) X.env) :: starEach [] X.env := by rfl) :
    PE X (.Call (.Name "all" p) [.GeneratorExp elt [⟨tg, iter, ifs, 0⟩] scope gpos] [] pos) (tGx P false wi gt tt te (own.map (·.2))) := by
  refine ⟨fun pins s σ H Q I h => ?_⟩
  refine wpAny_Call_Name_kw (ld_blt I hgl hm hb ?_)
  refine PyProof.Rows.callWith_builtin1 ?_ hst (by rfl)
  rw [hst]
  show wpAny _ _ (spliced ((false, eval (.GeneratorExp elt [⟨tg, iter, ifs, 0⟩] scope gpos) X.env) :: backTo pos (starEach [] X.env))) _ _ s
  refine Calls.spliced_cons (gx_eval (Q := Q) (stp := false) hr hc hN TB hcode ok S hi hg ht he hs I h fun XG a g go fp tn σw W n s5 hp hw hpn hgo back hheld => ?_)
  refine Calls.spliced_nil ?_
  have hheld0 := hheld
  obtain ⟨⟨H0, I0⟩, _⟩ := hheld0
  have hig : s5.heap.IsGen a g := by
    obtain ⟨nm, qn, h1, h2, h3⟩ := hgo
    exact ⟨go, nm, qn, (I0.pin (a, go) (List.mem_append_left _ (by rw [hpn]; exact List.mem_cons_self))).1, h1, h2, h3⟩
  refine call_function_tree F.kind_all F.plain_all F.entry_all (F.args_all1 _) ?_
  unfold Builtin.«all»
  refine wpAny_bind (m := oneArg "all" _) (wpAny_pure ?_)
  refine wpAny_bind (wpAny_pyIter_gen hig ?_)
  refine wpAny_pure ⟨plainId_quiet F.plain_all_loop _, ?_⟩
  rw [← hp, ← hw] at *
  refine loop_all (Held XG X.A.in1.in1 fp tn σw g false Q W) (held_turn rfl hr.hd (by have := hr.dp; omega) hpn hgo fun b H' s' J' qq h' hk => ?_) n s5 hheld
  exact ⟨.bl b, H', (back H' s' J').kept (t' := s'.toks) hk, rfl, qq⟩
end
end Gx
end
section
set_option maxHeartbeats 4000000
/-! sorted(list, key=f), f a def of one's own whose answers are data, lists among them. -/
namespace Skx
open PySem PySem.Spec PyProof.Rows L2 Srx Gr
open PySem.W (dataLe alike AllAlike EachIs KeepsBut dataKind SortsAt sortVals KeyedOut)

section
variable {X : Cx} {k : Nat} {f : Addr} {fd : FuncData} {ps : List Str} {sp : Sp} {γ : Type} {enc : γ → PyData}
/-- what the key's call must give, wherever it stands -/
def KeyOf (K : PySem.W.Frag) (sp : Sp) (enc : γ → PyData) (b : V × γ) (H : Hp) : Prop := ∀ H1, Gr H H1 → ∀ Q : VK, (∀ v H2, Gr H1 H2 → Dp K H2 v (enc b.2) → Q v H2) → sp [b.1] H1 Q E0
def rSortedKey (K : PySem.W.Frag) (f : Addr) (sp : Sp) (enc : γ → PyData) : List V → List V → Hp → VK → Prop := fun vs zs H Q => ∃ (a : Addr) (bs : List (V × γ)), vs = [V.ref a] ∧ zs = [V.ref f] ∧ SqL K H a (bs.map (·.1)) ∧ (∀ b ∈ bs, KeyOf K sp enc b H) ∧
  ∀ H1 p, Gr H H1 → H1 p = none → Q (.ref p) (upd H1 p (.lst ((bs.mergeSort (dataLe false fun b => enc b.2)).map (·.1))))
theorem paired_each {K : PySem.W.Frag} {pins : List (Addr × Obj)} {σ : L2.St} {H : Hp} {s : Shared} (I : Inv X pins σ H s) (hK : X.K = K) : ∀ {kvs : List V} {us : List Value} {ds : List PyData}, Vals kvs us → Paired (fun v d => Dp K H v d) kvs ds → EachIs (fun u d => ∃ as, PySem.Reads s.heap u d as) us ds
  | _, _, _, .nil, .nil => .nil
  | _, _, _, .cons r t, .cons h t2 => by
    subst hK
    exact .cons (Dp.reads I _ _ _ h r) (paired_each I rfl t t2)
theorem paired_snoc {α β : Type} {R : α → β → Prop} : ∀ {as : List α} {bs : List β} {a : α} {b : β}, Paired R as bs → R a b → Paired R (as ++ [a]) (bs ++ [b])
  | _, _, _, _, .nil, h => .cons h .nil
  | _, _, _, _, .cons r t, h => .cons r (paired_snoc t h)
theorem paired_imp {α β : Type} {R S : α → β → Prop} (f : ∀ a b, R a b → S a b) : ∀ {as : List α} {bs : List β}, Paired R as bs → Paired S as bs
  | _, _, .nil => .nil
  | _, _, .cons r t => .cons (f _ _ r) (paired_imp f t)

set_option maxHeartbeats 8000000 in
theorem cr_sortedKey (o : Ord enc) (F : FnOk X.prog X.w X.K X.mg X.base CX0 k f fd ps sp) (hb : Binds X.K fd ps []) (hr : Room (k + 2) X.A) : CallRK X (.builtin "sorted") [Str.ofString "key"] (rSortedKey X.K f sp enc) := by
  intro pins s σ H vs zs us ws Q I r rz h
  obtain ⟨l, bs, rfl, rfl, hs, hkey, q⟩ := h
  obtain rfl := Vals.ref1 r
  obtain rfl := Vals.ref1 rz
  obtain ⟨its, rv, hl, hz⟩ := I.list hs
  have hbz : bs.length ≤ sizeLine := by simpa using hz
  have e0 := each_vals rv
  have hil : its.length = bs.length := by rw [← rv.length, List.length_map]
  have hr2 : Room k X.A.in1.in1 := (show Room (k + 1) X.A.in1 from Room.in1 hr).in1
  show wpAny _ _ (call (.builtin "sorted") [.ref l] [(Str.ofString "key", .ref f)]) _ _ _
  refine PySem.W.sorted_of_sort hl.isList (by rw [hil]; exact hbz) (PyProof.Rows.ksk_s1 _ _) (fun _ => PyProof.Rows.ksk_l1 _ _) fun E' => ?_
  rw [PyProof.Rows.ksk_t1]
  -- the copy at L, the tuple, the keys' list at kS
  generalize hL : s.heap.objs.size + 1 = L
  have hLat : (PySem.W.copyHeap s.heap its).get? L = some (seqObj "list" its.toArray 0) := by
    rw [← hL]; exact PySem.W.copyHeap_at s.heap its
  obtain ⟨e1, hL1⟩ : ∃ e1, ((PySem.W.copyHeap s.heap its).update L (Obj.mapSeq fun _ => (#[] : Array Value))).get? L = some (seqObj "list" #[] e1) := ⟨_, get?_update_seq hLat fun _ => #[]⟩
  unfold PyProof.Rows.ksk_tree
  refine wpAny_bind (listItems_at hLat rfl ?_)
  refine wpAny_bind (listUpdate_at hLat rfl ?_ (by rw [List.size_toArray, hil]; exact hbz) (Nat.zero_le _))
  refine wpAny_bind (seqEpoch_at hL1 rfl ?_)
  refine wpAny_bind (wpAny_newTuple ?_ (by show its.length ≤ _; rw [hil]; exact hbz))
  refine wpAny_bind (wpAny_newList ?_ (Nat.zero_le _))
  refine wpAny_holding ?_
  generalize hkS : (((PySem.W.copyHeap s.heap its).update L (Obj.mapSeq fun _ => (#[] : Array Value))).push (seqObj "tuple" its.toArray 0)).objs.size = kS
  generalize hg : ((((PySem.W.copyHeap s.heap its).update L (Obj.mapSeq fun _ => (#[] : Array Value))).push (seqObj "tuple" its.toArray 0)).push (seqObj "list" #[] 0)) = g0
  have keep0 : ∀ b u, s.heap.get? b = some u → g0.get? b = some u := by
    intro b u e
    have lt := Heap.lt_size e
    rw [← hg]
    exact PySem.W.sortingHeap_old (by rw [← hL]; exact Nat.ne_of_lt (Nat.lt_succ_of_lt lt)) (PySem.W.copyHeap_old e)
  have hLlt : L < ((PySem.W.copyHeap s.heap its).update L (Obj.mapSeq fun _ => (#[] : Array Value))).objs.size := Heap.lt_size hL1
  have hkL : kS ≠ L := by
    rw [← hkS, size_push']
    exact Nat.ne_of_gt (Nat.lt_succ_of_lt hLlt)
  have hkz : s.heap.objs.size ≤ kS := by
    rw [← hkS, size_push']
    have : s.heap.objs.size < L := by rw [← hL]; exact Nat.lt_succ_self _
    exact Nat.le_succ_of_le (Nat.le_of_lt (Nat.lt_trans this hLlt))
  have hLz : s.heap.objs.size ≤ L := by rw [← hL]; exact Nat.le_succ _
  have gL : g0.get? L = some (seqObj "list" #[] e1) := by
    rw [← hg]; exact Heap.get?_push_of_some _ (Heap.get?_push_of_some _ hL1)
  have gk : g0.get? kS = some (seqObj "list" #[] 0) := by
    rw [← hg, ← hkS]; exact Heap.get?_push_size _ rfl
  have nk : H kS = none := I.hok.fresh hkz
  have nL : H L = none := I.hok.fresh hLz
  have fk := I.fpOk hkz nk
  have fL := I.fpOk hLz nL
  have I0 : Inv X pins σ H { s with heap := g0 } := I.kept (t' := s.toks) keep0
  have ncell : ∀ (kA : Array Value) (e : Nat) (v : Option Value), (seqObj "list" kA e).data ≠ .cell v := fun kA e v z => nomatch z
  -- the state behind i keys
  have pinned : ∀ {H' : Hp} {s' : Shared} {kA : Array Value} {e : Nat}, Inv X pins σ H' s' → H' kS = none → H' L = none → s'.heap.get? kS = some (seqObj "list" kA e) → s'.heap.get? L = some (seqObj "list" #[] e1) →
      Inv X (pins ++ [(kS, seqObj "list" kA e), (L, seqObj "list" #[] e1)]) σ H' s' := by
    intro H' s' kA e I' n1 n2 g1 g2
    refine I'.pins_of fun p hp => ?_
    rcases List.mem_append.mp hp with hp | hp
    · exact I'.pin p (List.mem_append_right _ hp)
    · rcases List.mem_cons.mp hp with z | hp
      · rw [z]; exact ⟨g1, n1, fk.2.1, fk.2.2.1, ncell _ _⟩
      · have z : p = (L, seqObj "list" #[] e1) := by simpa using hp
        rw [z]; exact ⟨g2, n2, fL.2.1, fL.2.2.1, ncell _ _⟩
  show wpAny _ _ (PyProof.Rows.ksk_rest L (.ref f) false its.toArray e1 (.ref kS)) _ _ { s with heap := g0 }
  unfold PyProof.Rows.ksk_rest
  refine wpAny_bind (wpAny_rule ?_)
  first
    | rw [List.forIn_toArray]
    | (rw [← Array.forIn_toList]; simp only [List.toList_toArray])
    | rw [← Array.forIn_toList]
  refine wpAny_bind (PyProof.Rows.ksk_fold (fun i s' => ∃ (H' : Hp) (kA : Array Value) (e : Nat) (kvs : List V), Inv X pins σ H' s' ∧ Gr H H' ∧ H' kS = none ∧ H' L = none ∧ s'.heap.get? kS = some (seqObj "list" kA e) ∧ s'.heap.get? L = some (seqObj "list" #[] e1) ∧
      Vals kvs kA.toList ∧ Paired (fun v d => Dp X.K H' v d) kvs ((bs.take i).map fun b => enc b.2)) its 0 _
    ⟨H, #[], 0, [], I0, Gr.refl H, nk, nL, gk, gL, .nil, by rw [List.take_zero]; exact .nil⟩ ?step ?done)
  case step =>
    rintro j x s' hx ⟨H', kA, e, kvs, I', gr, n1, n2, g1, g2, vk, pk⟩
    simp only [Nat.zero_add] at pk ⊢
    have hj : j < its.length := (List.getElem?_eq_some_iff.mp hx).1
    have hjb : j < bs.length := by omega
    have hbj : bs[j]? = some bs[j] := List.getElem?_eq_getElem hjb
    obtain ⟨u, hu, ru⟩ := rv.get (i := j) (x := bs[j].1) (by rw [List.getElem?_map, hbj]; rfl)
    rw [hx] at hu
    cases hu
    have J := pinned I' n1 n2 g1 g2
    have hsp : sp [bs[j].1] H' (fun v H2 => Gr H' H2 ∧ Dp X.K H2 v (enc bs[j].2)) E0 := hkey _ (List.getElem_mem hjb) H' gr _ fun v H2 h1 h2 => ⟨h1, h2⟩
    have hlen : (([x] : List Value) ++ []).length = ps.length := F.len _ _ _ _ hsp
    refine wpAny_bind (wpAny_attempt (wpAny_call (codeAny_mono (F.run X.A.in1.in1 X.stack s' H' ⟨[x], []⟩ ([x] ++ []) [bs[j].1] _ E0 hr2 J.env0.in1.in1 (hb s' [x] J.kIn hlen) (.cons ru .nil) hsp) fun rr s'' hq => ?_)))
    cases rr with
    | error er => exact hq.elim
    | ok fl =>
      cases fl with
      | next => exact False.elim hq
      | brk => exact False.elim hq
      | cont => exact False.elim hq
      | ret u =>
        obtain ⟨v, H2, J2, rv2, gr2, dp2⟩ := J.after hq
        have pk1 := J2.pin (kS, seqObj "list" kA e) (List.mem_append_right _ (List.mem_append_right _ List.mem_cons_self))
        have pL1 := J2.pin (L, seqObj "list" #[] e1) (List.mem_append_right _ (List.mem_append_right _ (List.mem_cons_of_mem _ List.mem_cons_self)))
        have I2 : Inv X pins σ H2 s'' := J2.unpinned
        have hkAz : kA.size ≤ bs.length := by
          have h1 : kvs.length = kA.toList.length := Paired.length vk
          have h2 : kvs.length = ((bs.take j).map fun b => enc b.2).length := Paired.length pk
          have h3 : ((bs.take j).map fun b => enc b.2).length ≤ bs.length := by
            rw [List.length_map, List.length_take]
            exact Nat.min_le_right _ _
          have h4 : kA.toList.length = kA.size := Array.length_toList
          rw [← h4, ← h1, h2]
          exact h3
        have sb := Heap.SameBut.update s''.heap kS (Obj.mapSeq (·.push u))
        obtain ⟨c2, hc2⟩ : ∃ c2, (s''.heap.update kS (Obj.mapSeq (·.push u))).get? kS = some (seqObj "list" (kA.push u) c2) := ⟨_, get?_update_seq pk1.1 (·.push u)⟩
        refine wpAny_bind (listUpdate_at pk1.1 rfl ?_ (Nat.le_trans hkAz hbz) (Nat.le_trans (Nat.le_of_eq (Array.size_push ..)) (Nat.succ_le_succ (Nat.le_trans hkAz hbz))))
        have I3 : Inv X pins σ H2 { s'' with heap := s''.heap.update kS (Obj.mapSeq (·.push u)) } := I2.turned (t' := s''.toks) (fun b o hb e => (sb.2 b hb).trans e) pk1.2.1 fk.2.1 fk.2.2.2.1 fk.2.2.2.2.1 fk.2.2.2.2.2
        refine wpAny_pure ⟨rfl, H2, kA.push u, c2, kvs ++ [v], I3, gr.trans gr2, pk1.2.1, pL1.2.1, hc2, (sb.2 L hkL.symm).trans pL1.1, ?_, ?_⟩
        · rw [Array.toList_push]
          exact vk.append (.cons rv2 .nil)
        · rw [List.take_add_one, hbj, Option.toList_some, List.map_append]
          exact paired_snoc (paired_imp (fun v d h => gr2.dp h) pk) dp2
  case done =>
    rintro s' ⟨H', kA, e, kvs, I', gr, n1, n2, g1, g2, vk, pk⟩
    rw [Nat.zero_add, hil, List.take_length] at pk
    have ek : EachIs (fun u d => ∃ as, PySem.Reads s'.heap u d as) kA.toList (bs.map fun b => enc b.2) := paired_each I' rfl vk pk
    have hsz : kA.size = its.length := by
      have h1 := ek.length
      rw [Array.length_toList, List.length_map] at h1
      omega
    have hal : AllAlike (bs.map fun b => enc b.2) := PySem.W.AllAlike.of fun x y => o.alike _ _
    refine wpAny_bind (listItems_at g1 rfl ?_)
    refine PySem.W.keyH_end (κ := dataKind s'.heap (bs.map fun b => enc b.2)) (h₁ := PySem.W.hideAll s'.heap [kS]) (vs := its) (fun b o _ e => PySem.W.of_hideAll [kS] e) (PySem.W.hideAll_none [kS] List.mem_cons_self) g1 g2 hkL
      (SortsAt.data (s := s') ek hal ((o.comap Prod.snd).sortable bs) (fun d hd => by
        obtain ⟨b, _, rfl⟩ := List.mem_map.mp hd
        have h1 := o.depth b.2
        have h2 := hr.un
        show X.A.units + 1 + 1 + _ < _
        omega)) hsz (by rw [hil]; exact hbz) fun h' tk c kp hat => ⟨rfl, ?_⟩
    have ko : KeyedOut false (bs.map fun b => enc b.2) its (sortVals (dataKind s'.heap (bs.map fun b => enc b.2)) false kA.toList its) := ⟨s'.heap, kA.toList, hal, rfl, ek⟩
    have hout := PySem.W.keyedOut_each (fun b : V × γ => enc b.2) ko e0
    have keepB : ∀ b u, b ≠ L → b ≠ kS → s'.heap.get? b = some u → h'.get? b = some u := by
      intro b u h1 h2 e
      exact kp b u h1 (PySem.W.hideAll_get [kS] e (by simpa using h2))
    have nT : ∀ b u, H' b = some u → b ≠ L ∧ b ≠ kS := by
      intro b u e
      exact ⟨fun z => (by rw [z, n2] at e; cases e), fun z => (by rw [z, n1] at e; cases e)⟩
    have there : ∃ u, h'.get? kS = some u ∨ h'.get? kS = none := by
      cases z : h'.get? kS with
      | none => exact ⟨seqObj "list" #[] 0, .inr rfl⟩
      | some u => exact ⟨u, .inl rfl⟩
    have hylen : ((bs.mergeSort (dataLe false fun b => enc b.2)).map (·.1)).length ≤ sizeLine := by
      rw [List.length_map, List.length_mergeSort]; exact hbz
    refine ⟨.ref L, upd H' L (.lst ((bs.mergeSort (dataLe false fun b => enc b.2)).map (·.1))), ?_, rfl, q H' L gr n2⟩
    refine I'.step (g' := s'.gens) (t' := tk) (d' := s'.drawn) (ch := [kS, L]) (fun b hb => ?_) (fun b o h1 h2 hc e n => ?_) (fun b o h1 h2 hc e n => ?_) (fun b o hc e n => ?_) (fun b o hc e => ?_) (fun b xs e => ?_) (fun b o u e => ?_) (fun b qs e => ?_) (fun m hm => ?_) (fun b u e => ?_) I'.bare
    · rcases List.mem_cons.mp hb with z | hb
      · rw [z]; exact ⟨fk.2.2.2.1, fk.2.1, fk.2.2.2.2.1, fk.2.2.2.2.2⟩
      · have z : b = L := by simpa using hb
        rw [z]; exact ⟨fL.2.2.2.1, fL.2.1, fL.2.2.2.2.1, fL.2.2.2.2.2⟩
    · exact keepB b o (fun z => hc (by rw [z]; simp)) (fun z => hc (by rw [z]; simp)) e
    · exact ⟨o.slots, keepB b o (fun z => hc (by rw [z]; simp)) (fun z => hc (by rw [z]; simp)) e⟩
    · rw [upd_ne (fun z => hc (by rw [z]; simp))]; exact n
    · exact ⟨o, keepB b o (fun z => hc (by rw [z]; simp)) (fun z => hc (by rw [z]; simp)) e⟩
    · rw [upd_ne (nT b _ e).1]; exact e
    · rw [upd_ne (nT b _ e).1]; exact e
    · exact ⟨#[], by rw [upd_ne (nT b _ e).1, e]; simp⟩
    · obtain ⟨o', es, ep, ho, rr⟩ := hm
      exact ⟨o', es, ep, keepB _ o' (Ne.symm fL.2.1) (Ne.symm fk.2.1) ho, rr⟩
    · by_cases hbL : b = L
      · subst hbL
        rw [upd_same] at e
        cases e
        exact ⟨hylen, _, c, vals_each hout, hat⟩
      · rw [upd_ne hbL] at e
        refine (I'.hok b u e).stay (fun c' v hc' qq => ?_) (fun c' qq => by rw [upd_ne (nT c' _ qq).1]; exact qq) fun c' xs qq => by rw [upd_ne (nT c' _ qq).1]; exact qq
        rcases hc' with z | z
        · rw [z] at qq ⊢
          exact keepB b v (nT b _ e).1 (nT b _ e).2 qq
        · exact keepB c' v (nT c' _ z).1 (nT c' _ z).2 qq
end
end Skx
end
section
set_option maxHeartbeats 4000000
/-! {k: v for ..} whose keys are tuples of ints and texts. -/
namespace Dcx
open PySem PySem.Spec PyProof.Rows L2
theorem put_tup {X : Cx} {pins : List (Addr × Obj)} {σ : L2.St} {H : Hp} {s : Shared} {E : Value → Shared → Prop} {D b : Addr} {kvs : List (List Key × V)} {k : List Key} {v : V} {r : Value} {Q : Unit → Shared → Prop} (hu : X.A.units + 1 < cLine)
    (I : Inv X pins σ H s) (hD : H D = some (.dT kvs)) (hb : H b = some (.tup (k.map kV))) (hz : kvs.length < sizeLine) (rv : RelV v r) (h : ∀ s', Inv X pins σ (upd H D (.dT (putK kvs k v))) s' → Q () s') :
    wpAny (model X.prog X.w) X.A (dictSet D (.ref b) r) Q E s := by
  obtain ⟨z, hd, xs, rel, dd⟩ := dt_of I.hok hD
  have hxs : xs.length ≤ sizeLine := by
    rw [← Paired.length rel]; exact z
  have hl : (putK kvs k v).length ≤ sizeLine := by
    have := length_putK kvs k v
    omega
  refine wpAny_dictSet_heap (hsz := hxs) (show X.A.units < cLine by omega) (key_of I.hok hb) dd fun h' dd' sb => h _ ?_
  obtain ⟨q, es, ep, e1, e2, e3, e4, _, e5⟩ := dd'
  refine d_write I (by rw [hD]; exact True.intro) sb ⟨q, e1⟩ ⟨hl, hd, _, (rel.put k hb rv).keeps fun c ys ec => ?_, q, es, ep, e1, e2, e3, e4, e5⟩
  rw [upd_ne (ne_of ec hD fun z => nomatch z)]
  exact ec
section
variable {X : Cx}
/-- D: the new dict; a turn's key is a tuple at b -/
def tDt (wi : TI) (g : TG) (tt : TT) (tk tv : TE) (vs : List Nat) : TE := fun σ H Q => wi σ H fun J H1 => ∀ D, H1 D = none → ∃ W : Nat → Nat → Hp → Prop, (∃ m, W 0 m (upd H1 D (.dT []))) ∧ ∀ i m H, W i m H →
  (J.stop i H ∧ Q (.ref D) H) ∨ (J.go i H ∧ ∀ x H', J.yld i H x H' → g x (wipe σ vs) H' fun σ2 H2 => wipe σ2 vs = wipe σ vs ∧ tt σ2 H2 fun c H3 =>
    if c = true then tk σ2 H3 fun y H4 => tv σ2 H4 fun z H5 => ∃ kvs k b, y = .ref b ∧ H5 b = some (.tup (k.map kV)) ∧ H5 D = some (.dT kvs) ∧ kvs.length < sizeLine ∧ ∃ m', m' < m ∧ W (i + 1) m' (upd H5 D (.dT (putK kvs k z)))
    else ∃ m', m' < m ∧ W (i + 1) m' H3)
abbrev blkE (X : Cx) (scope : Scope) (s : Shared) : Env := compEnvC scope (cellsFrom (s.heap.objs.size + 1) scope.names (cloFrom X.env.cells scope.names [])) s.heap.objs.size X.env
theorem dt_core {pins : List (Addr × Obj)} {s : Shared} {σ : L2.St} {H : Hp} {Q : VK} {kx vx tg iter : Expr} {ifs : List Expr} {scope : Scope} {own : List (Str × Nat)} {pos pos' : Pos} {wi : TI} {g : TG} {tt : TT} {tk tv : TE} {use : Option (Value → Sem Unit)} {Qf : Value → Shared → Prop}
    (hu : X.A.units + 1 < cLine) (hc : X.calm = true) (hN : X.N.Nodup) (I : Inv X pins σ H s) (hi : PI X tg iter wi) (ok : BlkOk X.N X.env.scope scope own)
    (hg : ∀ (s : Shared) (H : Hp) (C : Addr) (cl : List (Str × Addr)) (fp : List Addr), PG (X.blk s H scope (compEnvC scope cl C X.env) fp) tg g)
    (ht : ∀ (s : Shared) (H : Hp) (C : Addr) (cl : List (Str × Addr)) (fp : List Addr), PTs (X.blk s H scope (compEnvC scope cl C X.env) fp) ifs tt)
    (hk : ∀ (s : Shared) (H : Hp) (C : Addr) (cl : List (Str × Addr)) (fp : List Addr), PE (X.blk s H scope (compEnvC scope cl C X.env) fp) kx tk)
    (he : ∀ (s : Shared) (H : Hp) (C : Addr) (cl : List (Str × Addr)) (fp : List Addr), PE (X.blk s H scope (compEnvC scope cl C X.env) fp) vx tv) (hs : ∀ x, foldedSetIterable iter X.env x = pure x)
    (h : tDt wi g tt tk tv (own.map (·.2)) σ H Q)
    (hRR : ∀ D C s' m H', Inv X pins σ H' s' → Q (.ref D) H' → s'.heap.Ns C m → FpOk X pins H' C → compPost (model X.prog X.w) X.A X.xe use Qf (.ref D) C (.ok .next) s') :
    wpAny (model X.prog X.w) X.A (comprehension (.DictComp kx vx [⟨tg, iter, ifs, 0⟩] scope pos) scope X.env pos' newDict false (eval iter X.env) use) Qf X.xe s := by
  have hfree : ∀ y ∈ scope.names, y.2 = .free → ∃ c, X.env.cells.lookup y.1 = some c := by
    intro y hy e
    rcases ok.free y hy e with z | z
    · exact I.ok.has _ (.inl z)
    · exact I.ok.has _ (.inr z)
  refine wpAny_comprehension_free (use := use) rfl hs (closure_ok hfree) ok.kind (fun y hy e => by rw [ok.uniq y hy, e]) (thn (hi.run pins s σ H _ I h) fun _ _ hx => thn hx fun itv s2 h2 => ?_)
  obtain ⟨it, fp, tn, J, H2, e, I2, T, st2, f2, q⟩ := h2
  subst e
  refine wpAny_newObj_type (newEnv_comp ?_)
  generalize hD : s2.heap.objs.size = D
  have nD : H2 D = none := I2.hok.fresh (Nat.le_of_eq hD)
  obtain ⟨W, ⟨m0, w0⟩, turn⟩ := q D nD
  generalize hs3 : ({ s2 with heap := s2.heap.push { cls := .type "dict", data := .dict #[] } } : Shared) = s3
  have h3 : s3.heap = s2.heap.push { cls := .type "dict", data := .dict #[] } := by subst hs3; rfl
  have I3 : Inv X pins σ (upd H2 D (.dT [])) s3 := by
    subst hs3 hD
    exact I2.laid (t' := s2.toks) (fun _ _ e => Heap.get?_push_of_some _ e) (Nat.le_refl _) (dt_empty s2.heap I2.big)
  have f3 : ∀ b ∈ fp, FpOk X pins (upd H2 D (.dT [])) b ∧ b < s3.heap.objs.size := by
    intro b hb
    obtain ⟨o, e, _⟩ := T.obj _ _ st2 b hb
    have lt := Heap.lt_size e
    refine ⟨⟨?_, (f2 b hb).2⟩, ?_⟩
    · rw [upd_ne (by subst hD; exact Nat.ne_of_lt lt)]
      exact (f2 b hb).1
    · rw [h3, Heap.size_push]
      exact Nat.lt_succ_of_lt lt
  have st3 : tn 0 s3.heap := T.keep _ _ _ st2 fun b _ o e => by
    rw [h3]; exact Heap.get?_push_of_some _ e
  have I4 := block_start I3 ok hN f3
  show codeAny _ _ (.compStart (.DictComp kx vx [⟨tg, iter, ifs, 0⟩] scope pos) 0 (.ref it) (.ref D) (blkE X scope s3)) (compPost (model X.prog X.w) X.A X.xe use Qf (.ref D) s3.heap.objs.size) { s3 with heap := pushCells (s3.heap.push { cls := .type "dict", data := .dict #[] }) scope.names }
  generalize hce : blkE X scope s3 = ce
  rw [show compEnvC scope (cellsFrom (s3.heap.objs.size + 1) scope.names (cloFrom X.env.cells scope.names [])) s3.heap.objs.size X.env = ce from hce] at I4
  have pg := hg s3 (upd H2 D (.dT [])) s3.heap.objs.size (cellsFrom (s3.heap.objs.size + 1) scope.names (cloFrom X.env.cells scope.names [])) fp
  have pt := ht s3 (upd H2 D (.dT [])) s3.heap.objs.size (cellsFrom (s3.heap.objs.size + 1) scope.names (cloFrom X.env.cells scope.names [])) fp
  have pk := hk s3 (upd H2 D (.dT [])) s3.heap.objs.size (cellsFrom (s3.heap.objs.size + 1) scope.names (cloFrom X.env.cells scope.names [])) fp
  have pe := he s3 (upd H2 D (.dT [])) s3.heap.objs.size (cellsFrom (s3.heap.objs.size + 1) scope.names (cloFrom X.env.cells scope.names [])) fp
  rw [show compEnvC scope (cellsFrom (s3.heap.objs.size + 1) scope.names (cloFrom X.env.cells scope.names [])) s3.heap.objs.size X.env = ce from hce] at pg pt pk pe
  have cL : ce.locals = s3.heap.objs.size := by subst hce; rfl
  have n3 : ∀ b ∈ fp, (upd H2 D (.dT [])) b = none := fun b hb => (f3 b hb).1.1
  generalize hH3 : upd H2 D (.dT []) = H3 at I3 I4 pg pt pk pe w0 n3 f3
  generalize hs4 : ({ s3 with heap := pushCells (s3.heap.push { cls := .type "dict", data := .dict #[] }) scope.names } : Shared) = s4 at I4 ⊢
  have st4 : tn 0 s4.heap := T.keep _ _ _ st3 fun b _ o e => by
    subst hs4
    exact pushCells_keeps _ _ _ _ (Heap.get?_push_of_some _ e)
  have stat : ∀ {σ' : L2.St} {H' : Hp} {s' : Shared}, Inv (X.blk s3 H3 scope ce fp) [] σ' H' s' → (∀ b ∈ fp, H' b = none) → ∀ b ∈ fp, FpOk (X.blk s3 H3 scope ce fp) [] H' b := by
    intro σ' H' s' I' hn b hb
    refine ⟨hn b hb, (I'.ok.exf b hb).1, I'.ok.exfs b hb, .inl hb, fun x c e => (I'.ok.exf b hb).2 x c e, fun p hp => ?_⟩
    have hp : p ∈ ([] : List (Addr × Obj)) ++ [] := hp
    simp at hp
  have loop : codeAny (model X.prog X.w) X.A (.compLoop (.DictComp kx vx [⟨tg, iter, ifs, 0⟩] scope pos) 0 (.ref it) (.ref D) ce) (compPost (model X.prog X.w) X.A X.xe use Qf (.ref D) s3.heap.objs.size) s4 := ?loop
  exact codeAny_compStart_dict loop (T.self X.A 0 _ _ _ st4 loop)
  refine compLoop_anyD (fun n s' => ∃ i H', Inv (X.blk s3 H3 scope ce fp) [] (wipe σ (own.map (·.2))) H' s' ∧ tn i s'.heap ∧ (∀ b ∈ fp, H' b = none) ∧ W i n H') ?_ m0 ⟨0, H3, I4, st4, n3, w0⟩
  rintro n s5 ⟨i, H5, I5, st5, n5, w5⟩
  rcases turn i n H5 w5 with ⟨stop, qq⟩ | ⟨go, step⟩
  · refine thnF (T.done (X.blk s3 H3 scope ce fp) rfl rfl rfl hc i [] s5 _ H5 (fun _ _ => False) I5 (stat I5 n5) st5 stop) fun r s6 ⟨hr, I6⟩ => ?_
    subst hr
    have I7 : Inv X pins σ H5 s6 := I3.call' (ch := fp) I6.os I6.base I6.hok I6.bare fun b hb => by
      obtain ⟨z0, z1, z2, z3, z4, z5⟩ := (f3 b hb).1
      exact ⟨z3, z1, z4, z5⟩
    have nC : H5 s3.heap.objs.size = none := by
      have z : H5 ce.locals = none := I6.free
      rw [cL] at z; exact z
    obtain ⟨m, hn, _⟩ := I6.loc
    have hn : s6.heap.Ns ce.locals m := hn
    rw [cL] at hn
    exact hRR D s3.heap.objs.size s6 m H5 I7 qq hn (I3.fpOk (Nat.le_refl _) nC)
  · refine thnF (T.item (X.blk s3 H3 scope ce fp) rfl rfl rfl hc i [] s5 _ H5 (fun _ _ => False) I5 (stat I5 n5) st5 go) fun r s6 ⟨u, hr, h6⟩ => ?_
    subst hr
    refine thnF h6 fun _ s7 ⟨x, H7, I7, r7, y7, st7, n7⟩ => ?_
    have I7' := I7.pinned (stat I7 n7) (T.obj _ _ st7)
    refine thnF (pg.run _ s7 _ H7 x u _ I7' r7 (step x H7 y7)) fun _ s8 ⟨σ8, H8, I8, hw8, q8⟩ => ?_
    refine thnF (pt.run _ s8 σ8 H8 _ I8 q8) fun c s9 ⟨H9, I9, q9⟩ => ?_
    have fin : ∀ {s' : Shared} {H' : Hp}, Inv (X.blk s3 H3 scope ce fp) ([] ++ pinsAt fp s7.heap) σ8 H' s' → (∃ m', m' < n ∧ W (i + 1) m' H') →
        ∃ m, m < n ∧ ∃ i H', Inv (X.blk s3 H3 scope ce fp) [] (wipe σ (own.map (·.2))) H' s' ∧ tn i s'.heap ∧ (∀ b ∈ fp, H' b = none) ∧ W i m H' := by
      intro s' H' I' ⟨m', hm, w'⟩
      have pin' : ∀ b ∈ fp, ∀ o, s7.heap.get? b = some o → s'.heap.get? b = some o ∧ H' b = none := by
        intro b hb o e
        have z := I'.pin (b, o) (List.mem_append_right _ (List.mem_append_right _ (mem_pinsAt hb e)))
        exact ⟨z.1, z.2.1⟩
      have hl : (wipe σ (own.map (·.2))).length = σ8.length := by rw [← hw8, wipe_length]
      refine ⟨m', hm, i + 1, H', (I'.unpinned (pins := [])).weak hl (fun j v e => ?_), T.keep _ _ _ st7 fun b hb o e => (pin' b hb o e).1, fun b hb => ?_, w'⟩
      · rw [← hw8] at e
        exact (wipe_some e).1
      · obtain ⟨o, e, _⟩ := T.obj _ _ st7 b hb
        exact (pin' b hb o e).2
    cases c with
    | false =>
      simp only [Bool.false_eq_true, if_false] at q9 ⊢
      exact fin I9 q9
    | true =>
      simp only [if_true] at q9 ⊢
      refine thnF (pk.run _ s9 σ8 H9 _ I9 q9) fun z s10 ⟨yk, H10, I10, r10, q10⟩ => ?_
      refine thnF (pe.run _ s10 σ8 H10 _ I10 q10) fun z2 s11 ⟨yv, H11, I11, r11, kvs, k, b, ek, hb11, hD11, hz11, nx⟩ => ?_
      subst ek
      cases (show z = Value.ref b from r10)
      exact put_tup (X := X.blk s3 H3 scope ce fp) hu I11 hD11 hb11 hz11 r11 fun s12 I12 => fin I12 nx
variable {kx vx tg iter : Expr} {ifs : List Expr} {scope : Scope} {own : List (Str × Nat)} {pos spos : Pos} {wi : TI} {g : TG} {tt : TT} {tk tv : TE}
/-- name = {..}, the name a local, on one line -/
theorem ps_setDt {i : Nat} {y : Str} {py : Pos} (hu : X.A.units + 1 < cLine) (hc : X.calm = true) (hN : X.N.Nodup) (hy : X.N[i]? = some y) (hyl : X.env.scope.names.lookup y = some .local)
    (hsw : swapsWith (.DictComp kx vx [⟨tg, iter, ifs, 0⟩] scope pos) (some (.Name y py)) spos.line X.env = pure true) (hi : PI X tg iter wi) (ok : BlkOk X.N X.env.scope scope own)
    (hg : ∀ (s : Shared) (H : Hp) (C : Addr) (cl : List (Str × Addr)) (fp : List Addr), PG (X.blk s H scope (compEnvC scope cl C X.env) fp) tg g)
    (ht : ∀ (s : Shared) (H : Hp) (C : Addr) (cl : List (Str × Addr)) (fp : List Addr), PTs (X.blk s H scope (compEnvC scope cl C X.env) fp) ifs tt)
    (hk : ∀ (s : Shared) (H : Hp) (C : Addr) (cl : List (Str × Addr)) (fp : List Addr), PE (X.blk s H scope (compEnvC scope cl C X.env) fp) kx tk)
    (he : ∀ (s : Shared) (H : Hp) (C : Addr) (cl : List (Str × Addr)) (fp : List Addr), PE (X.blk s H scope (compEnvC scope cl C X.env) fp) vx tv) (hs : ∀ x, foldedSetIterable iter X.env x = pure x := by intro _; rfl) :
    PS X (.Assign [.Name y py] (.DictComp kx vx [⟨tg, iter, ifs, 0⟩] scope pos) spos) (tAsg (tDt wi g tt tk tv (own.map (·.2))) (gName i)) := by
  refine ⟨fun pins s σ H D I h => ?_⟩
  rw [exec_Assign_Name_used _ _ _ _ hsw]
  refine wpAny_bind (wpAny_standAt (wpAny_bind ?_))
  show wpAny _ X.A (do let _ ← comprehension (.DictComp kx vx [⟨tg, iter, ifs, 0⟩] scope pos) scope X.env (firstIterPos [⟨tg, iter, ifs, 0⟩] pos) newDict false (eval iter X.env) (some (assign (.Name y py) X.env))) _ _ s
  have h : tDt wi g tt tk tv (own.map (·.2)) σ H (fun x H1 => gName i x σ H1 D.nx) := h
  refine wpAny_bind (thn (dt_core (Qf := fun _ s' => SP X pins D .next s') hu hc hN I hi ok hg ht hk he hs h fun L C s' m H' I' q hn f => ?_) fun _ s' hq => wpAny_pure (wpAny_pure hq))
  show wpAny _ _ (assign (.Name y py) X.env (.ref L)) _ _ _
  refine wpAny_assign_Name (store_ok2 (v := V.ref L) I' hN hy (.inl hyl) rfl (fun s2 I2 ⟨a, sb, ha⟩ => ?_) (.inr hyl))
  obtain ⟨f0, f1, f2, f3, f4, f5⟩ := f
  have haC : C ≠ a := by
    rcases ha with z | z
    · rw [z]; exact f1
    · exact fun e => f4 y a z e.symm
  refine ⟨m, hn.sameBut sb haC, fun h3 sb3 => ?_⟩
  exact ⟨_, H', I2.turned (t' := s2.toks) (fun b o hb e => (sb3.2 b hb).trans e) f0 f1 f3 f4 f5, q⟩
theorem swd_true {l : Nat} {y : Str} {py : Pos} {env : Env} (hk : env.scope.kind = .function) (hy : env.scope.names.lookup y = some .local) (hl : (py.line == pos.line) = true)
    (ha : (scope.names.any fun (n, k) => n == y && (k == .local || k == .cell)) = false) {gs : List Comprehension} : swapsWith (.DictComp kx vx gs scope pos) (some (.Name y py)) l env = pure true := by
  have ky : env.kindOf y = some .local := hy
  have hb : env.blockKind = .function := by
    unfold Env.blockKind
    rw [hk]; rfl
  unfold swapsWith
  simp only [hb, ky, ha, Expr.pos, hl]
  rfl
end
end Dcx
end
section
set_option maxHeartbeats 8000000
namespace K1
open PySem PySem.Spec PyProof.Rows L2 Gr GxR
abbrev FnP (K : PySem.W.Frag) (x : Str) (st : Stmt) (f : Addr) (fd : FuncData) : Prop := FunD K x x (defArgs st) (defBody st) (defScope st) [] [] f fd
/-- the def's code object is known: it is the one its table hangs on -/
theorem okC {P : Program} {w : World} {K : PySem.W.Frag} {mg : Str → Option Value} {base : Heap} {x qual : Str} {params : Arguments} {body : List Stmt} {scope : Scope} {dvs : List V} {kws : List (Str × V)} {fd : FuncData} {p : He.Defn} {CX : CXT} {N ps : List Str} {k : Nat} {sp : Sp}
    (F : FunD K x qual params body scope dvs kws (He.fAd K p) fd) (S : FnScope N ps scope) (len : ∀ vs H Q E, sp vs H Q E → vs.length = ps.length)
    (hbody : ∀ (A : Around) (outer : List Env) (s : Shared) (H : Hp) (vs : List V) (Q : VK) (E : XK), Room k (A.deeper (envOfC qual scope s.heap.objs.size (He.fAd K p) (.ref (He.cT K p).1))) → sp vs H Q E →
      ∃ t, PSs (cxOf CX P w K mg base N qual scope (He.fAd K p) (.ref (He.cT K p).1) A outer s H E) body t ∧ t { nx := fun _ H' => Q .non H', rt := Q } (start N vs) H) : FnOk P w K mg base CX (k + 1) (He.fAd K p) fd ps sp := by
  obtain ⟨oc, od, dV, kV, doc, pm, an, cdv, ct, osl, rfl, lk, hcd, _, _⟩ := F.ex
  obtain ⟨c, rfl⟩ := He.codeIn_ref hcd
  have e : (He.cT K p).1 = c := He.codeOf_eq lk rfl
  rw [e] at hbody
  exact fn_of lk hcd S len fun A outer s H vs Q E hr hsp => hbody A outer s H vs Q E hr hsp
theorem inV_str (x : Str) (xs : List Str) : inV (.str x) (xs.map V.str) = xs.contains x := by
  unfold inV
  induction xs with
  | nil => rfl
  | cons y r ih =>
    rw [List.map_cons, List.any_cons, List.contains_cons, ih]
    show ((y == x) || _) = _
    rw [BEq.comm]
theorem flat_str (xs : List Str) : (xs.map V.str).all flatV = true := by
  rw [List.all_eq_true]
  intro v hv
  obtain ⟨x, _, rfl⟩ := List.mem_map.mp hv
  rfl
theorem get_map {α β : Type} {f : α → β} {xs : List α} {i : Nat} {v : β} (h : (xs.map f)[i]? = some v) : ∃ x, xs[i]? = some x ∧ v = f x := by
  rw [List.getElem?_map] at h
  cases e : xs[i]? with
  | none => rw [e] at h; cases h
  | some x =>
    rw [e] at h
    exact ⟨x, rfl, (Option.some.inj h).symm⟩
end K1
namespace K1
open PySem PySem.Spec PyProof.Rows L2 Gr GxR
section
variable {P : Program} {w : World} {K : PySem.W.Frag} {mg : Str → Option Value} {base : Heap} {f : Addr} {fd : FuncData}
def spDraw (K : PySem.W.Frag) : Sp := fun vs H Q _ => ∃ (a : Addr) (ns : List Int) (k : Nat), vs = [.ref a, .int (k : Int)] ∧ SqL K H a (ns.map V.int) ∧ Q (.int (ns.getD k 0)) H
def spLMeets (K : PySem.W.Frag) : Sp := fun vs H Q _ => ∃ (a b : Addr) (xs ys : List Str), vs = [.ref a, .ref b] ∧ SqL K H a (xs.map V.str) ∧ SqL K H b (ys.map V.str) ∧ Q (.bl (xs.any ys.contains)) H
theorem any_at {p : Str → Bool} {xs : List Str} {i : Nat} {x : Str} (h : xs[i]? = some x) : (xs.take (i + 1)).any p = ((xs.take i).any p || p x) := by
  rw [List.take_add_one, h, List.any_append]
  simp
theorem all_at {p : Str → Bool} {xs : List Str} {i : Nat} {x : Str} (h : xs[i]? = some x) : (xs.take (i + 1)).all p = ((xs.take i).all p && p x) := by
  rw [List.take_add_one, h, List.all_append]
  simp
def spLWithin (K : PySem.W.Frag) : Sp := fun vs H Q _ => ∃ (a b : Addr) (xs ys : List Str), vs = [.ref a, .ref b] ∧ SqL K H a (xs.map V.str) ∧ SqL K H b (ys.map V.str) ∧ Q (.bl (xs.all ys.contains)) H
def spTruth : Sp := fun vs H Q _ => ∃ (a b : Bool), vs = [.bl a, .bl b] ∧ Q (.bl (a == b)) H
def rk (xs : List Str) : PyData := .tuple [.int xs.length, .list (xs.map PyData.str)]
def spRank (K : PySem.W.Frag) : Sp := fun vs H Q _ => ∃ (a : Addr) (xs : List Str), vs = [.ref a] ∧ SqL K H a (xs.map V.str) ∧ ∀ v H', Gr H H' → Dp K H' v (rk xs) → Q v H'
theorem dp_strs {K : PySem.W.Frag} {H : Hp} (xs : List Str) : DpAll K H (xs.map V.str) (xs.map PyData.str) := by
  induction xs with
  | nil => exact .nil
  | cons x r ih => exact .cons (.str x) ih
end
end K1
namespace Gx
open PySem PySem.Spec PyProof.Rows L2 GxR
theorem gx_list {K : PySem.W.Frag} {a : Addr} {xs : List V} {P : Addr} {stp : Bool} {g : TG} {tt : TT} {te : TE} {vs : List Nat} {σ : L2.St} {H1 : Hp} {Qs Qn : Hp → Prop} (hT : TabG H1 P) (Pv : Nat → Hp → Prop) (h0 : ∀ H2, Tabbed P H1 H2 → Pv 0 H2) (hl : ∀ i H, i ≤ xs.length → Pv i H → SqL K H a xs)
    (hs : ∀ i x H (Nx : Hp → Prop), (∀ H', Pv (i + 1) H' → Nx H') → xs[i]? = some x → Pv i H → g x (wipe σ vs) H fun σ2 H3 => wipe σ2 vs = wipe σ vs ∧ tt σ2 H3 fun c H4 =>
      if c = true then te σ2 H4 fun y H5 => ∃ b, y = .bl b ∧ (b = stp → Qs H5) ∧ (b ≠ stp → Nx H5) else Nx H4) (hd : ∀ H, Pv xs.length H → Qn H) :
    TabG H1 P ∧ ∀ H2, Tabbed P H1 H2 → ∃ W : Nat → Nat → Hp → Prop, (∃ m, W 0 m H2) ∧ ∀ i m H, W i m H →
      ((Itl K a).stop i H ∧ Qn H) ∨ ((Itl K a).go i H ∧ ∀ x H', (Itl K a).yld i H x H' → g x (wipe σ vs) H' fun σ2 H3 => wipe σ2 vs = wipe σ vs ∧ tt σ2 H3 fun c H4 =>
        if c = true then te σ2 H4 fun y H5 => ∃ b, y = .bl b ∧ (b = stp → Qs H5) ∧ (b ≠ stp → ∃ m', m' < m ∧ W (i + 1) m' H5) else ∃ m', m' < m ∧ W (i + 1) m' H4) := by
  refine ⟨hT, fun H2 t2 => ⟨fun i m H => m = xs.length - i ∧ i ≤ xs.length ∧ Pv i H, ⟨xs.length, by simp, Nat.zero_le _, h0 H2 t2⟩, ?_⟩⟩
  rintro i m H ⟨rfl, hi, p⟩
  have q := hl i H hi p
  by_cases hlt : i < xs.length
  · refine .inr ⟨⟨xs, xs[i], q, by simp [hlt]⟩, fun x H' y => ?_⟩
    obtain ⟨e, y⟩ := y
    subst e
    exact hs i x _ _ (fun H6 p6 => ⟨xs.length - (i + 1), by omega, rfl, hlt, p6⟩) (y xs q) p
  · have e : i = xs.length := by omega
    subst e
    exact .inl ⟨⟨xs, q, Nat.le_refl _⟩, hd H p⟩
end Gx
namespace K1
open PySem PySem.Spec PyProof.Rows L2 Gr GxR Srx
theorem yesIf {A B : Hp → Prop} {σ : L2.St} {H : Hp} (h : A H) : tYes σ H fun c H4 => if c = true then A H4 else B H4 := h
theorem hu64 {k : Nat} {A : Around} (hr : Room k A) : A.units + 64 < cLine := by
  have := hr.un
  omega
section
variable {P : Program} {w : World} {K : PySem.W.Frag} {mg : Str → Option Value} {base : Heap} {f : Addr} {fd : FuncData} {p : He.Defn}
abbrev Tb (K : PySem.W.Frag) (base : Heap) (mg : Str → Option Value) (p : He.Defn) : Prop := TabB base mg (He.cT K p).1 (He.cT K p).2
def spWithin (K : PySem.W.Frag) (T : Addr) : Sp := fun vs H Q _ => ∃ (a b : Addr) (xs ys : List Str), vs = [.ref a, .ref b] ∧ SqL K H a (xs.map V.str) ∧ SqL K H b (ys.map V.str) ∧ TabG H T ∧ ∀ H', Gr H H' → Q (.bl (xs.all ys.contains)) H'
def gexp : Stmt → Scope
  | .FunctionDef (body := [.Return (some (.Call _ [.GeneratorExp _ _ s _] _ _)) _]) .. => s
  | _ => ⟨.function, [], false, false, []⟩
def spMeets (K : PySem.W.Frag) (T : Addr) : Sp := fun vs H Q _ => ∃ (a b : Addr) (xs ys : List Str), vs = [.ref a, .ref b] ∧ SqL K H a (xs.map V.str) ∧ SqL K H b (ys.map V.str) ∧ TabG H T ∧ ∀ H', Gr H H' → Q (.bl (xs.any ys.contains)) H'
/-- a list's names in order, each once -/
def once (xs : List Str) : List Str := srt (Sx.dd xs)
def spOnce (K : PySem.W.Frag) : Sp := fun vs H Q _ => ∃ (a : Addr) (xs : List Str), vs = [.ref a] ∧ SqL K H a (xs.map V.str) ∧ xs.length ≤ 1000 ∧ ∀ p H', Gr H H' → H p = none → H' p = some (.lst ((once xs).map V.str)) → Q (.ref p) H'
end
end K1
namespace Gx
open PySem PySem.Spec PyProof.Rows L2 GxR
theorem gx_text {x : Str} {P : Addr} {stp : Bool} {g : TG} {tt : TT} {te : TE} {vs : List Nat} {σ : L2.St} {H1 : Hp} {Qs Qn : Hp → Prop} (hT : TabG H1 P) (Pv : Nat → Hp → Prop) (h0 : ∀ H2, Tabbed P H1 H2 → Pv 0 H2)
    (hs : ∀ i c H (Nx : Hp → Prop), (∀ H', Pv (i + 1) H' → Nx H') → x.cps.toList[i]? = some c → Pv i H → g (.str ⟨#[c]⟩) (wipe σ vs) H fun σ2 H3 => wipe σ2 vs = wipe σ vs ∧ tt σ2 H3 fun c H4 =>
      if c = true then te σ2 H4 fun y H5 => ∃ b, y = .bl b ∧ (b = stp → Qs H5) ∧ (b ≠ stp → Nx H5) else Nx H4) (hd : ∀ H, Pv x.cps.toList.length H → Qn H) :
    TabG H1 P ∧ ∀ H2, Tabbed P H1 H2 → ∃ W : Nat → Nat → Hp → Prop, (∃ m, W 0 m H2) ∧ ∀ i m H, W i m H →
      ((Its x).stop i H ∧ Qn H) ∨ ((Its x).go i H ∧ ∀ v H', (Its x).yld i H v H' → g v (wipe σ vs) H' fun σ2 H3 => wipe σ2 vs = wipe σ vs ∧ tt σ2 H3 fun c H4 =>
        if c = true then te σ2 H4 fun y H5 => ∃ b, y = .bl b ∧ (b = stp → Qs H5) ∧ (b ≠ stp → ∃ m', m' < m ∧ W (i + 1) m' H5) else ∃ m', m' < m ∧ W (i + 1) m' H4) := by
  refine ⟨hT, fun H2 t2 => ⟨fun i m H => m = x.cps.size - i ∧ i ≤ x.cps.size ∧ Pv i H, ⟨x.cps.size, by simp, Nat.zero_le _, h0 H2 t2⟩, ?_⟩⟩
  rintro i m H ⟨rfl, hi, p⟩
  by_cases hlt : i < x.cps.size
  · refine .inr ⟨hlt, fun v H' y => ?_⟩
    obtain ⟨e, c, hc, rfl⟩ := y
    subst e
    exact hs i c _ _ (fun H6 p6 => ⟨x.cps.size - (i + 1), by omega, rfl, hlt, p6⟩) (by rw [Array.getElem?_toList]; exact hc) p
  · have e : i = x.cps.size := by omega
    subst e
    exact .inl ⟨Nat.le_refl _, hd H (by rw [Array.length_toList]; exact p)⟩
end Gx
namespace K1
open PySem PySem.Spec PyProof.Rows L2 Gr GxR Srx
def small (c : Nat) : Bool := decide (97 ≤ c) && decide (c ≤ 122)
/-- a text of 1 to 8 small letters -/
def isNm (x : Str) : Bool := decide (1 ≤ x.length) && (decide (x.length ≤ 8) && x.cps.toList.all small)
def nmV : V → Bool
  | .str x => isNm x
  | _ => false
def strV : V → Bool
  | .str _ => true
  | _ => false
/-- a thing whose kind is_name can ask -/
def Thing (K : PySem.W.Frag) (H : Hp) (v : V) : Prop := ∃ t : String, TyX K H v (.type t) ∧ kitB t "str" = some (strV v) ∧ (∀ x, v = .str x → x.length ≤ sizeLine)
theorem lt_one (c d : Nat) : (([c] : List Nat) < [d]) ↔ c < d := by
  rw [List.cons_lt_cons_iff]
  constructor
  · rintro (h | ⟨_, h⟩)
    · exact h
    · exact absurd h (List.not_lt_nil _)
  · exact .inl
section
variable {P : Program} {w : World} {K : PySem.W.Frag} {mg : Str → Option Value} {base : Heap} {f : Addr} {fd : FuncData} {p : He.Defn}
def spIsName (K : PySem.W.Frag) (T : Addr) : Sp := fun vs H Q _ => ∃ v, vs = [v] ∧ Thing K H v ∧ TabG H T ∧ ∀ H', Gr H H' → Q (.bl (nmV v)) H'
def gexp2 : Stmt → Scope
  | .FunctionDef (body := [_, .Return (some (.Call _ [.GeneratorExp _ _ s _] _ _)) _]) .. => s
  | _ => ⟨.function, [], false, false, []⟩
end
end K1
namespace K1
open PySem PySem.Spec PyProof.Rows L2 Gr GxR Srx
open PySem.W (dataLe dataLt DatumOrd Datum)
def leR (a b : List Str) : Bool := dataLe false rk a b
theorem leR_eq (a b : List Str) : leR a b = !dataLt (rk b) (rk a) := rfl
theorem toD_eq (xs : List Str) : (Datum.toD ((xs.length : Int), xs) : PyData) = rk xs := rfl
theorem str_anti {a b : Str} (h1 : decide (a.cps.toList < b.cps.toList) = false) (h2 : decide (b.cps.toList < a.cps.toList) = false) : a = b := by
  have h1 := of_decide_eq_false h1
  have h2 := of_decide_eq_false h2
  exact PySem.W.str_of_cps (List.le_antisymm h2 h1)
theorem listLt_anti : ∀ (xs ys : List Str), PySem.W.listLt xs ys = false → PySem.W.listLt ys xs = false → xs = ys
  | [], [], _, _ => rfl
  | [], y :: ys, h, _ => by cases (show true = false from h)
  | x :: xs, [], _, h => by cases (show true = false from h)
  | x :: xs, y :: ys, h1, h2 => by
    unfold PySem.W.listLt at h1 h2
    by_cases e : x = y
    · rw [if_pos e] at h1
      rw [if_pos e.symm] at h2
      rw [e, listLt_anti xs ys h1 h2]
    · rw [if_neg e] at h1
      rw [if_neg (fun z => e z.symm)] at h2
      exact absurd (str_anti h1 h2) e
theorem leR_anti {a b : List Str} (h1 : leR a b = true) (h2 : leR b a = true) : a = b := by
  rw [leR_eq, Bool.not_eq_true'] at h1 h2
  rw [← toD_eq, ← toD_eq, DatumOrd.lt_eq] at h1 h2
  have h1 : (if (b.length : Int) = a.length then PySem.W.listLt b a else decide ((b.length : Int) < a.length)) = false := h1
  have h2 : (if (a.length : Int) = b.length then PySem.W.listLt a b else decide ((a.length : Int) < b.length)) = false := h2
  by_cases e : (a.length : Int) = b.length
  · rw [if_pos e.symm] at h1
    rw [if_pos e] at h2
    exact listLt_anti a b h2 h1
  · rw [if_neg (fun z => e z.symm)] at h1
    rw [if_neg e] at h2
    have := of_decide_eq_false h1
    have := of_decide_eq_false h2
    omega
theorem leR_trans {a b c : List Str} (h1 : leR a b = true) (h2 : leR b c = true) : leR a c = true := by
  rw [leR_eq, Bool.not_eq_true'] at *
  by_cases z : dataLt (rk c) (rk a) = true
  · rcases PyProof.Rows.lex_negTrans _ (PySem.W.keyToks (rk b)) _ z with y | y
    · rw [show dataLt (rk c) (rk b) = true from y] at h2
      cases h2
    · rw [show dataLt (rk b) (rk a) = true from y] at h1
      cases h1
  · simpa using z
theorem leR_total (a b : List Str) : (leR a b || leR b a) = true := by
  rw [leR_eq, leR_eq]
  cases h : dataLt (rk b) (rk a) with
  | false => rfl
  | true =>
    cases h2 : dataLt (rk a) (rk b) with
    | false => rfl
    | true =>
      have := PyProof.Rows.lex_trans _ _ _ (show PyProof.Rows.lexLt _ _ _ = true from h) (show PyProof.Rows.lexLt _ _ _ = true from h2)
      have e := PySem.W.dataLt_self (rk b)
      rw [show dataLt (rk b) (rk b) = true from this] at e
      cases e
def rkd (xss : List (List Str)) : List (List Str) := xss.mergeSort leR
theorem rkd_perm (xss : List (List Str)) : (rkd xss).Perm xss := List.mergeSort_perm _ _
theorem rkd_sorted (xss : List (List Str)) : (rkd xss).Pairwise (fun a b => leR a b = true) := List.pairwise_mergeSort (le := leR) (fun _ _ _ h1 h2 => leR_trans h1 h2) leR_total xss
theorem rkd_one {xs ys : List (List Str)} (p : xs.Perm ys) (h1 : xs.Pairwise (fun a b => leR a b = true)) (h2 : ys.Pairwise (fun a b => leR a b = true)) : xs = ys :=
  List.Perm.eq_of_pairwise (fun a b _ _ z1 z2 => leR_anti z1 z2) h1 h2 p
section
variable {α : Type} [DecidableEq α]
def once1 (acc : List α) (x : α) : List α := if x ∈ acc then acc else acc ++ [x]
def ddG (xs : List α) : List α := xs.foldl once1 []
theorem ddG_snoc (xs : List α) (x : α) : ddG (xs ++ [x]) = once1 (ddG xs) x := by
  unfold ddG
  rw [List.foldl_append]
  rfl
theorem once1_mem {acc : List α} {x y : α} : y ∈ once1 acc x ↔ y ∈ acc ∨ y = x := by
  unfold once1
  split
  · rename_i h
    exact ⟨.inl, fun z => z.elim id fun e => e ▸ h⟩
  · simp
theorem once1_nodup {acc : List α} {x : α} (h : acc.Nodup) : (once1 acc x).Nodup := by
  unfold once1
  split
  · exact h
  · rename_i hx
    refine List.nodup_append.mpr ⟨h, by simp, fun a ha b hb e => ?_⟩
    have hb : b = x := by simpa using hb
    rw [e, hb] at ha
    exact hx ha
theorem fold1_mem : ∀ (xs acc : List α) (y : α), y ∈ xs.foldl once1 acc ↔ y ∈ acc ∨ y ∈ xs
  | [], acc, y => by simp
  | x :: xs, acc, y => by
    rw [List.foldl_cons, fold1_mem xs, once1_mem, List.mem_cons, or_assoc]
theorem fold1_nodup : ∀ (xs acc : List α), acc.Nodup → (xs.foldl once1 acc).Nodup
  | [], _, h => h
  | _ :: xs, _, h => fold1_nodup xs _ (once1_nodup h)
theorem fold1_sub : ∀ (xs acc : List α), List.Sublist (xs.foldl once1 acc) (acc ++ xs)
  | [], acc => by rw [List.append_nil]; exact List.Sublist.refl _
  | x :: xs, acc => by
    rw [List.foldl_cons]
    refine (fold1_sub xs _).trans ?_
    unfold once1
    split
    · exact List.Sublist.append (List.Sublist.refl _) (List.sublist_cons_self _ _)
    · rw [List.append_assoc]
      exact List.Sublist.refl _
theorem ddG_mem {xs : List α} {y : α} : y ∈ ddG xs ↔ y ∈ xs := by
  unfold ddG
  rw [fold1_mem]
  simp
theorem ddG_nodup (xs : List α) : (ddG xs).Nodup := fold1_nodup xs [] List.nodup_nil
theorem ddG_sub (xs : List α) : List.Sublist (ddG xs) xs := fold1_sub xs []
theorem ddG_len (xs : List α) : (ddG xs).length ≤ xs.length := (ddG_sub xs).length_le
end
theorem rkd_dd (xss : List (List Str)) : rkd (ddG xss) = ddG (rkd xss) := by
  refine rkd_one ((rkd_perm _).trans ?_) (rkd_sorted _) ((rkd_sorted xss).sublist (ddG_sub _))
  refine (List.perm_ext_iff_of_nodup (ddG_nodup _) (ddG_nodup _)).mpr fun q => ?_
  rw [ddG_mem, ddG_mem, (rkd_perm xss).mem_iff]
def wi (a b : List Str) : Bool := a.all b.contains
def keep (acc : List (List Str)) (x : List Str) : List (List Str) := if acc.any (fun l => wi l x) = true then acc else acc ++ [x]
theorem wi_self (x : List Str) : wi x x = true := List.all_eq_true.mpr fun y hy => List.contains_iff_mem.mpr hy
theorem keep_any {acc : List (List Str)} {x y : List Str} (h : acc.any (fun l => wi l y) = true) : (keep acc x).any (fun l => wi l y) = true := by
  unfold keep
  split
  · exact h
  · rw [List.any_append, h]
    rfl
theorem keep_self (acc : List (List Str)) (x : List Str) : (keep acc x).any (fun l => wi l x) = true := by
  unfold keep
  split
  · assumption
  · rw [List.any_append]
    simp [wi_self]
theorem fold_any : ∀ (l acc : List (List Str)) (y : List Str), (acc.any (fun l => wi l y) = true ∨ y ∈ l) → (l.foldl keep acc).any (fun l => wi l y) = true
  | [], acc, y, h => h.elim id fun z => nomatch z
  | x :: l, acc, y, h => by
    refine fold_any l _ y ?_
    rcases h with h | h
    · exact .inl (keep_any h)
    · rcases List.mem_cons.mp h with e | h
      · rw [e]
        exact .inl (keep_self acc x)
      · exact .inr h
theorem snoc_ind {α : Type} {p : List α → Prop} (h0 : p []) (h1 : ∀ xs x, p xs → p (xs ++ [x])) : ∀ xs, p xs := by
  intro xs
  rw [← List.reverse_reverse xs]
  induction xs.reverse with
  | nil => exact h0
  | cons x r ih =>
    rw [List.reverse_cons]
    exact h1 _ _ ih
theorem keep_dd (l : List (List Str)) : (ddG l).foldl keep [] = l.foldl keep [] := by
  refine snoc_ind (p := fun l => (ddG l).foldl keep [] = l.foldl keep []) rfl (fun xs x ih => ?_) l
  rw [ddG_snoc, List.foldl_append]
  show _ = keep (xs.foldl keep []) x
  unfold once1
  split
  · rename_i h
    rw [ih]
    have z := fold_any xs [] x (.inr (ddG_mem.mp h))
    exact (if_pos z).symm
  · rw [List.foldl_append, ih]
    rfl
/-- least_of's sets, told -/
def least (xss : List (List Str)) : List (List Str) := (rkd (ddG xss)).foldl keep []
theorem least_eq (xss : List (List Str)) : least xss = (rkd xss).foldl keep [] := by
  unfold least
  rw [rkd_dd, keep_dd]
end K1
namespace K1
open PySem PySem.Spec PyProof.Rows L2 Gr GxR Srx Skx
open PySem.W (dataLe dataLt DatumOrd Datum)
/-- p: a new list of new lists: ps tells where they stand and what they are -/
structure Told (H H' : Hp) (p : Addr) (ps : List (Addr × List Str)) : Prop where
  new : H p = none
  at_ : H' p = some (.lst (ps.map fun q => V.ref q.1))
  own : ∀ q ∈ ps, H q.1 = none ∧ q.1 ≠ p ∧ H' q.1 = some (.lst (q.2.map V.str))
  nd : (ps.map (·.1)).Nodup
theorem Told.nil {H H1 : Hp} {p : Addr} (h : H p = none) : Told H (upd H1 p (.lst [])) p [] :=
  { new := h, at_ := upd_same, own := (fun q z => absurd z List.not_mem_nil), nd := List.nodup_nil }
theorem Told.snoc {H H2 : Hp} {D l : Addr} {ps : List (Addr × List Str)} {x : List Str} (T : Told H H2 D ps) (g : Gr H H2) (hl : H2 l = none) : Told H (upd (upd H2 l (.lst (x.map V.str))) D (.lst ((ps.map fun q => V.ref q.1) ++ [V.ref l]))) D (ps ++ [(l, x)]) := by
  have nD : D ≠ l := ne_of_none T.at_ hl
  refine ⟨T.new, ?_, fun q hq => ?_, ?_⟩
  · rw [upd_same, List.map_append]
    rfl
  · rcases List.mem_append.mp hq with hq | hq
    · obtain ⟨h1, h2, h3⟩ := T.own q hq
      refine ⟨h1, h2, ?_⟩
      rw [upd_ne h2, upd_ne (ne_of_none h3 hl)]
      exact h3
    · have e : q = (l, x) := by simpa using hq
      subst e
      refine ⟨g.free hl, nD.symm, ?_⟩
      rw [upd_ne nD.symm, upd_same]
  · rw [List.map_append]
    refine List.nodup_append.mpr ⟨T.nd, by simp, fun a ha b hb e => ?_⟩
    have hb : b = l := by simpa using hb
    obtain ⟨q, hq, rfl⟩ := List.mem_map.mp ha
    have h3 := (T.own q hq).2.2
    rw [e, hb, hl] at h3
    cases h3
theorem Told.gr {H H' H2 : Hp} {p : Addr} {ps : List (Addr × List Str)} (T : Told H H' p ps) (g : Gr H' H2) : Told H H2 p ps :=
  ⟨T.new, g.lst T.at_, fun q hq => ⟨(T.own q hq).1, (T.own q hq).2.1, g.lst (T.own q hq).2.2⟩, T.nd⟩
theorem Told.from {H0 H H' : Hp} {p : Addr} {ps : List (Addr × List Str)} (T : Told H H' p ps) (g : Gr H0 H) : Told H0 H' p ps :=
  ⟨g.free T.new, T.at_, fun q hq => ⟨g.free (T.own q hq).1, (T.own q hq).2⟩, T.nd⟩
theorem take_map {α β : Type} {f : α → β} {xs : List α} {i : Nat} {x : α} (h : xs[i]? = some x) : (xs.take (i + 1)).map f = (xs.take i).map f ++ [f x] := by
  rw [List.take_add_one, h, List.map_append]
  rfl
theorem lc_fresh {K : PySem.W.Frag} {a D : Addr} {j : Nat} {σ : L2.St} {vs : List Nat} {te : TE} {H H1 : Hp} {Qd : Hp → Prop} {ps0 : List (Addr × List Str)} (F : List Str → List Str)
    (hA : SqL K H a (ps0.map fun q => V.ref q.1)) (few : ps0.length < sizeLine) (gr : Gr H H1) (hD : H1 D = none) (hw : ∀ v, wipe ((wipe σ vs).set j (some v)) vs = wipe σ vs)
    (he : ∀ q ∈ ps0, ∀ (H4 : Hp) (Q' : VK), Gr H H4 → (∀ l, H4 l = none → Q' (.ref l) (upd H4 l (.lst ((F q.2).map V.str)))) → te ((wipe σ vs).set j (some (.ref q.1))) H4 Q')
    (q : ∀ H2 ps, Gr H H2 → Told H H2 D ps → ps.map (·.2) = ps0.map (fun q => F q.2) → Qd H2) :
    ∃ W : Nat → Nat → Hp → Prop, (∃ m, W 0 m (upd H1 D (.lst []))) ∧ ∀ i m H, W i m H →
      ((Itl K a).stop i H ∧ Qd H) ∨ ((Itl K a).go i H ∧ ∃ Nx : Hp → Prop, (∀ H', Nx H' → ∃ m', m' < m ∧ W (i + 1) m' H') ∧ ∀ x H', (Itl K a).yld i H x H' → gName j x (wipe σ vs) H' fun σ2 H2 => wipe σ2 vs = wipe σ vs ∧ tYes σ2 H2 fun b H3 =>
        if b = true then te σ2 H3 fun y H4 => ∃ acc, H4 D = some (.lst acc) ∧ acc.length < sizeLine ∧ Nx (upd H4 D (.lst (acc ++ [y]))) else Nx H3) := by
  have hD0 : H D = none := gr.free hD
  refine lc_list (xs := ps0.map fun q => V.ref q.1) (Qd := Qd) (fun i H2 => Gr H H2 ∧ ∃ ps, Told H H2 D ps ∧ ps.map (·.2) = (ps0.take i).map (fun q => F q.2)) ⟨gr.mut hD0, [], Told.nil hD0, rfl⟩ (fun i H2 _ h => h.1.seq hA) (fun i x H2 hx h => ?_) (fun H2 h => ?_)
  · obtain ⟨g2, ps, T, e⟩ := h
    obtain ⟨q0, hq0, rfl⟩ := get_map hx
    refine ⟨hw _, yesIf (he q0 (List.mem_of_getElem? hq0) H2 _ g2 fun l hl => ⟨_, ?_, ?_, g2.trans (Gr.new hl) |>.mut hD0, ps ++ [(l, F q0.2)], T.snoc g2 hl, ?_⟩)⟩
    · rw [upd_ne (ne_of_none T.at_ hl)]
      exact T.at_
    · rw [List.length_map]
      have h1 : ps.length = ((ps0.take i).map (fun q => F q.2)).length := by rw [← e, List.length_map]
      rw [h1, List.length_map, List.length_take]
      omega
    · rw [List.map_append, e, take_map hq0]
      rfl
  · obtain ⟨g2, ps, T, e⟩ := h
    rw [List.length_map, List.take_length] at e
    exact q H2 ps g2 T e
section
variable {P : Program} {w : World} {K : PySem.W.Frag} {mg : Str → Option Value} {base : Heap} {f fR : Addr} {fd fdR : FuncData} {p : He.Defn}
theorem ordRk : Ord rk := ⟨fun x y => by rw [← toD_eq, ← toD_eq]; exact DatumOrd.alike _ _, .inl fun x => ⟨_, _, rfl⟩, fun x => by
  rw [← toD_eq]
  exact Nat.le_trans (Datum.depth_le _) (by decide)⟩
/-- a list or tuple of texts -/
def Sq (K : PySem.W.Frag) (H : Hp) (a : Addr) (xs : List Str) : Prop := SqL K H a (xs.map V.str) ∨ SqT K H a (xs.map V.str)
theorem Sq.gr {H H' : Hp} {a : Addr} {xs : List Str} (h : Sq K H a xs) (g : Gr H H') : Sq K H' a xs := h.imp (fun z => g.seq z) fun z => g.seqT z
def rListOf (K : PySem.W.Frag) : List V → Hp → VK → Prop := fun xs H Q => ∃ p ys, xs = [V.ref p] ∧ (SqL K H p ys ∨ SqT K H p ys) ∧ ∀ l, H l = none → Q (.ref l) (upd H l (.lst ys))
def spRanked (K : PySem.W.Frag) : Sp := fun vs H Q _ => ∃ (a : Addr) (ps0 : List (Addr × List Str)), vs = [.ref a] ∧ SqL K H a (ps0.map fun q => V.ref q.1) ∧ (∀ q ∈ ps0, Sq K H q.1 q.2) ∧ ps0.length < sizeLine ∧
  ∀ p H' ps, Gr H H' → Told H H' p ps → ps.map (·.2) = rkd (ps0.map (·.2)) → Q (.ref p) H'
end
end K1
namespace Dcx
open PySem PySem.Spec PyProof.Rows L2
theorem dt_list {K : PySem.W.Frag} {a : Addr} {xs : List V} {g : TG} {tt : TT} {tk tv : TE} {vs : List Nat} {σ : L2.St} {H1 : Hp} {D : Addr} {Qd : Hp → Prop} (Pv : Nat → Hp → Prop) (h0 : Pv 0 (upd H1 D (.dT []))) (hl : ∀ i H, i ≤ xs.length → Pv i H → SqL K H a xs)
    (hs : ∀ i x H (Nx : Hp → Prop), (∀ H', Pv (i + 1) H' → Nx H') → xs[i]? = some x → Pv i H → g x (wipe σ vs) H fun σ2 H2 => wipe σ2 vs = wipe σ vs ∧ tt σ2 H2 fun c H3 =>
      if c = true then tk σ2 H3 fun y H4 => tv σ2 H4 fun z H5 => ∃ kvs k b, y = .ref b ∧ H5 b = some (.tup (k.map kV)) ∧ H5 D = some (.dT kvs) ∧ kvs.length < sizeLine ∧ Nx (upd H5 D (.dT (putK kvs k z))) else Nx H3) (hd : ∀ H, Pv xs.length H → Qd H) :
    ∃ W : Nat → Nat → Hp → Prop, (∃ m, W 0 m (upd H1 D (.dT []))) ∧ ∀ i m H, W i m H →
      ((Itl K a).stop i H ∧ Qd H) ∨ ((Itl K a).go i H ∧ ∀ x H', (Itl K a).yld i H x H' → g x (wipe σ vs) H' fun σ2 H2 => wipe σ2 vs = wipe σ vs ∧ tt σ2 H2 fun c H3 =>
        if c = true then tk σ2 H3 fun y H4 => tv σ2 H4 fun z H5 => ∃ kvs k b, y = .ref b ∧ H5 b = some (.tup (k.map kV)) ∧ H5 D = some (.dT kvs) ∧ kvs.length < sizeLine ∧ ∃ m', m' < m ∧ W (i + 1) m' (upd H5 D (.dT (putK kvs k z))) else ∃ m', m' < m ∧ W (i + 1) m' H3) := by
  refine ⟨fun i m H => m = xs.length - i ∧ i ≤ xs.length ∧ Pv i H, ⟨xs.length, by simp, Nat.zero_le _, h0⟩, ?_⟩
  rintro i m H ⟨rfl, hi, p⟩
  have q := hl i H hi p
  by_cases hlt : i < xs.length
  · refine .inr ⟨⟨xs, xs[i], q, by simp [hlt]⟩, fun x H' y => ?_⟩
    obtain ⟨e, y⟩ := y
    subst e
    exact hs i x _ (fun H6 => ∃ m', m' < xs.length - i ∧ m' = xs.length - (i + 1) ∧ i + 1 ≤ xs.length ∧ Pv (i + 1) H6) (fun H6 p6 => ⟨xs.length - (i + 1), by omega, rfl, hlt, p6⟩) (y xs q) p
  · have e : i = xs.length := by omega
    subst e
    exact .inl ⟨⟨xs, q, Nat.le_refl _⟩, hd H p⟩
end Dcx
namespace K1
open PySem PySem.Spec PyProof.Rows L2 Gr GxR Srx Skx Dcx
def kvT (l : List (List Str)) : List (List Key × V) := l.map fun x => (x.map Sum.inr, V.bl true)
theorem inr_inj : ∀ {x y : List Str}, x.map (Sum.inr : Str → Key) = y.map Sum.inr → x = y
  | [], [], _ => rfl
  | [], _ :: _, h => by cases h
  | _ :: _, [], h => by cases h
  | a :: x, b :: y, h => by
    rw [List.map_cons, List.map_cons] at h
    injection h with h1 h2
    injection h1 with h1
    rw [h1, inr_inj h2]
theorem put_once (l : List (List Str)) (x : List Str) : putK (kvT l) (x.map Sum.inr) (V.bl true) = kvT (once1 l x) := by
  unfold putK kvT once1
  by_cases h : x ∈ l
  · rw [if_pos h, if_pos]
    · rw [List.map_map]
      refine List.map_congr_left fun y hy => ?_
      show (if _ then _ else _) = _
      split <;> rfl
    · rw [List.any_eq_true]
      exact ⟨_, List.mem_map.mpr ⟨x, h, rfl⟩, decide_eq_true rfl⟩
  · rw [if_neg h, if_neg]
    · rw [List.map_append]
      rfl
    · intro z
      rw [List.any_eq_true] at z
      obtain ⟨q, hq, e⟩ := z
      obtain ⟨y, hy, rfl⟩ := List.mem_map.mp hq
      have e := inr_inj (of_decide_eq_true e)
      rw [e] at hy
      exact h hy
theorem kV_inr (x : List Str) : (x.map (Sum.inr : Str → Key)).map kV = x.map V.str := by
  rw [List.map_map]
  rfl
theorem keys_ps {H : Hp} : ∀ {l : List (List Str)} {bs : List Addr}, IsKeys H (kvT l) bs → ∃ ps : List (Addr × List Str), bs.map V.ref = ps.map (fun q => V.ref q.1) ∧ ps.map (·.2) = l ∧ ∀ q ∈ ps, H q.1 = some (.tup (q.2.map V.str))
  | [], bs, h => by
    have h : Paired _ ([] : List (List Key × V)) bs := h
    cases h
    exact ⟨[], rfl, rfl, fun _ z => absurd z List.not_mem_nil⟩
  | x :: l, bs, h => by
    have h : Paired _ ((x.map Sum.inr, V.bl true) :: kvT l) bs := h
    cases h with
    | cons h1 h2 =>
      rename_i b bs
      obtain ⟨ps, e1, e2, e3⟩ := keys_ps h2
      refine ⟨(b, x) :: ps, by rw [List.map_cons, List.map_cons, e1], by rw [List.map_cons, e2], fun q hq => ?_⟩
      rcases List.mem_cons.mp hq with e | hq
      · rw [e]
        have h1 : H b = some (.tup ((x.map Sum.inr).map kV)) := h1
        rw [kV_inr] at h1
        exact h1
      · exact e3 q hq
theorem small60 {n : Nat} (h : n ≤ 60000) : n < sizeLine := Nat.lt_of_le_of_lt h (by decide)
def rTupOf (K : PySem.W.Frag) : List V → Hp → VK → Prop := fun xs H Q => ∃ p ys, xs = [V.ref p] ∧ ((SqL K H p ys ∧ ∀ l, H l = none → Q (.ref l) (upd H l (.tup ys))) ∨ (SqT K H p ys ∧ Q (.ref p) H))
section
variable {P : Program} {w : World} {K : PySem.W.Frag} {mg : Str → Option Value} {base : Heap} {f fR fO : Addr} {fd fdR fdO fdW : FuncData} {p pW : He.Defn}
def spLeast (K : PySem.W.Frag) (T T2 : Addr) : Sp := fun vs H Q _ => ∃ (a : Addr) (ps0 : List (Addr × List Str)), vs = [.ref a] ∧ SqL K H a (ps0.map fun q => V.ref q.1) ∧ (∀ q ∈ ps0, SqL K H q.1 (q.2.map V.str) ∧ q.2.length ≤ 1000) ∧ ps0.length ≤ 60000 ∧ TabG H T ∧ TabG H T2 ∧
  ∀ p H' ps, Gr H H' → Told H H' p ps → ps.map (·.2) = least ((ps0.map (·.2)).map once) → Q (.ref p) H'
end
end K1
namespace K1
open PySem PySem.Spec PyProof.Rows L2 Gr GxR Srx Skx Dcx
theorem for_enum {K : PySem.W.Frag} {a : Addr} {xs : List V} {g : TG} {tb : TS} {D : Ends} {σ : L2.St} {H : Hp} (Pv : Nat → L2.St → Hp → Prop) (h0 : Pv 0 σ H) (hl : ∀ i σ H, i ≤ xs.length → Pv i σ H → SqL K H a xs)
    (hs : ∀ i x T σ H, xs[i]? = some x → Pv i σ H → H T = none → g (.ref T) σ (upd H T (.tup [.int (i : Nat), x])) fun σ2 H2 => tb { D with nx := Pv (i + 1), ct := Pv (i + 1), bk := D.nx } σ2 H2) (hd : ∀ σ H, Pv xs.length σ H → D.nx σ H) :
    ∃ W : Nat → Nat → L2.St → Hp → Prop, (∃ m, W 0 m σ H) ∧ ∀ i m σ H, W i m σ H →
      ((Ite K a).stop i H ∧ D.nx σ H) ∨ ((Ite K a).go i H ∧ ∃ N : L2.St → Hp → Prop, (∀ σ' H', N σ' H' → ∃ m', m' < m ∧ W (i + 1) m' σ' H') ∧ ∀ x H', (Ite K a).yld i H x H' → g x σ H' fun σ2 H2 => tb { D with nx := N, ct := N, bk := D.nx } σ2 H2) := by
  refine ⟨fun i m σ H => m = xs.length - i ∧ i ≤ xs.length ∧ Pv i σ H, ⟨xs.length, by simp, Nat.zero_le _, h0⟩, ?_⟩
  rintro i m σ H ⟨rfl, hi, p⟩
  have q := hl i σ H hi p
  by_cases hlt : i < xs.length
  · refine .inr ⟨⟨xs, xs[i], q, by simp [hlt]⟩, Pv (i + 1), fun σ' H' p' => ⟨xs.length - (i + 1), by omega, rfl, hlt, p'⟩, fun x H' y => ?_⟩
    obtain ⟨T, z, rfl, hT, rfl, y⟩ := y
    exact hs i z T σ H (y xs q) p hT
  · have e : i = xs.length := by omega
    subst e
    exact .inl ⟨⟨xs, q, Nat.le_refl _⟩, hd σ H p⟩
theorem tyx_gr {K : PySem.W.Frag} {H H' : Hp} (g : Gr H H') {v : V} {t : Value} (h : TyX K H v t) : TyX K H' v t := by
  cases h with
  | base h =>
    refine .base ?_
    cases h with
    | non => exact .non
    | bl x => exact .bl x
    | int i => exact .int i
    | str x => exact .str x
    | flt x => exact .flt x
    | lst e => exact .lst (g.lst e)
    | frz e => exact .frz (g.at_ _ _ e notbl_frz)
    | tup e => exact .tup (g.tup e)
    | dK e => exact .dK (g.at_ _ _ e fun _ z => nomatch z)
    | dT e => exact .dT (g.at_ _ _ e fun _ z => nomatch z)
    | ins e a b c d f => exact .ins (g.at_ _ _ e fun _ z => nomatch z) a b c d f
  | byt b => exact .byt b
  | set e => exact .set (g.at_ _ _ e fun _ z => nomatch z)
  | kList e c => exact .kList e c
  | kTuple e c => exact .kTuple e c
  | kDict e c => exact .kDict e c
  | fTuple e => exact .fTuple (g.at_ _ _ e notbl_frz)
  | fDict e => exact .fDict (g.at_ _ _ e notbl_frz)
theorem Thing.gr {K : PySem.W.Frag} {H H' : Hp} (g : Gr H H') {v : V} (h : Thing K H v) : Thing K H' v := by
  obtain ⟨t, ty, k, l⟩ := h
  exact ⟨t, tyx_gr g ty, k, l⟩
/-- an own error class, as it stands: made by its name, raised -/
structure ErrC (K : PySem.W.Frag) (mg : Str → Option Value) (x : Str) (C : Addr) : Prop where
  gC : mg x = some (.ref C)
  xC : PySem.W.excIn K C [.type "ValueError", .type "Exception", .type "BaseException", .type "object"] "ValueError.__new__" = true
  kC : PySem.W.keepIn K (.ref C) = true
  bC : PySem.W.subIn K (.ref C) (.type "BaseException") = some true
  tC : PySem.W.typeIn K (.ref C) = some (.type "type")
section
variable {P : Program} {w : World} {K : PySem.W.Frag} {mg : Str → Option Value} {base : Heap} {f fO C : Addr} {fd fdO fdI : FuncData} {p pI : He.Defn}
def spRising (K : PySem.W.Frag) (T C : Addr) : Sp := fun vs H Q E => ∃ (a : Addr) (vls : List V), vs = [.ref a] ∧ SqL K H a vls ∧ (∀ v ∈ vls, Thing K H v) ∧ vls.length ≤ 1000 ∧ TabG H T ∧
  ((∃ xs : List Str, vls = xs.map V.str ∧ xs.all isNm = true ∧ ∀ p H', Gr H H' → H p = none → H' p = some (.lst ((once xs).map V.str)) → Q (.ref p) H') ∨ ((∃ v ∈ vls, nmV v = false) ∧ ∀ H', Gr H H' → E (.ref C) none H'))
theorem strlen_le (x : Str) (n : Nat) (h : x.length = n) (hn : n ≤ 100) : x.length ≤ 100 := by omega
end
end K1
namespace K1
open PySem PySem.Spec PyProof.Rows L2 Gr GxR Srx Skx Dcx
def rIsC (K : PySem.W.Frag) (cls : Value) (d : Option Addr) (D a : Addr) : List V → Hp → VK → Prop := fun xs H Q => cls = .ref D ∧ d = none ∧ ∃ (c : V) (cv : Value) (b : Bool), xs = [.ref a, c] ∧ ClsV c cv ∧ PySem.W.kitOne K (.ref D) cv = some b ∧ Q (.bl b) H
theorem call_isC {X : Cx} {a D : Addr} {oe : Obj} {pn : List (Addr × Obj)} {cls : Value} {d : Option Addr} (C : ExcC X.K D) (hz : Zc cls d oe) (hf : ∃ vs, oe.data = .fields vs) : CallR (X.suite a ((a, oe) :: pn)) (.builtin "isinstance") (rIsC X.K cls d D a) := by
  intro pins s σ H xs us Q I r h
  obtain ⟨rfl, rfl, c, cv, b, e1, k, e, q⟩ := h
  exact call_isE C hz hf pins s σ H xs us Q I r ⟨c, cv, b, e1, fun u ru => k.eq ru, e, q⟩
def rIsCT (K : PySem.W.Frag) (cls : Value) (d : Option Addr) (D a : Addr) : List V → Hp → VK → Prop := fun xs H Q => cls = .ref D ∧ d = none ∧ ∃ (tp : Addr) (cs : List V) (us : List Value) (b : Bool), xs = [.ref a, .ref tp] ∧ H tp = some (.tup cs) ∧ Paired ClsV cs us ∧ PySem.W.kitAny K (.ref D) us = some b ∧ Q (.bl b) H
theorem call_isCT {X : Cx} {a D : Addr} {oe : Obj} {pn : List (Addr × Obj)} {cls : Value} {d : Option Addr} (C : ExcC X.K D) (hz : Zc cls d oe) (hf : ∃ vs, oe.data = .fields vs) : CallR (X.suite a ((a, oe) :: pn)) (.builtin "isinstance") (rIsCT X.K cls d D a) := by
  intro pins s σ H xs us Q I r h
  obtain ⟨rfl, rfl, tp, cs, ws, b, rfl, hT, k, e, q⟩ := h
  obtain ⟨u1, u2, rfl, r1, r2⟩ := vals2 r
  cases (show u1 = Value.ref a from r1)
  cases (show u2 = Value.ref tp from r2)
  obtain ⟨hget, _⟩ := I.pin (a, oe) (List.mem_append.mpr (.inl List.mem_cons_self))
  obtain ⟨vs, hv⟩ := hf
  have J : PySem.W.InstAt s.heap a oe D none := by
    obtain ⟨oc, od, oda, osl⟩ := oe
    obtain ⟨h1, h2⟩ := hz
    dsimp only at h1 h2 hv
    subst h1 h2 hv
    exact ⟨hget, rfl, rfl, trivial⟩
  obtain ⟨_, its, rv, o, h1, h2, n, h3⟩ := (show ObjOk _ _ H s.heap tp (.tup cs) from I.hok tp _ hT)
  have e3 := ClsV.all k rv
  subst e3
  obtain ⟨oc, od, dt, sl⟩ := o
  simp only at h2 h3
  subst h2 h3
  exact PySem.W.kia_tup (PySem.W.handS_kitx_exc C.hg C.hk C.hs C.hd C.ha C.hn C.ht C.hm) I.kIn J h1 e (fun z => nomatch z) fun tk => ⟨.bl b, H, I.kept (t' := tk) fun _ _ z => z, rfl, q⟩
/-- what the law's look at a refusal takes of the error classes -/
structure RefC (K : PySem.W.Frag) (mg : Str → Option Value) (C M c1 c2 c3 c4 c5 : Addr) : Prop where
  gM : mg "MeetError" = some (.ref M)
  gC : mg "BadName" = some (.ref C)
  g1 : mg "BadRow" = some (.ref c1)
  g2 : mg "NoRow" = some (.ref c2)
  g3 : mg "TooMany" = some (.ref c3)
  g4 : mg "NoMeet" = some (.ref c4)
  g5 : mg "Unread" = some (.ref c5)
  e : PySem.W.exmOne K (.ref C) (.ref M) = some true
  k5 : PySem.W.kitAny K (.ref C) [.ref c1, .ref c2, .ref c3, .ref c4, .ref c5] = some false
  kC : PySem.W.kitOne K (.ref C) (.ref C) = some true
  kV : PySem.W.kitOne K (.ref C) (.type "ValueError") = some true
  ex : ExcC K C
section
variable {P : Program} {w : World} {K : PySem.W.Frag} {mg : Str → Option Value} {base : Heap} {f fS C M c1 c2 c3 c4 c5 : Addr} {fd fdS : FuncData} {p : He.Defn} {T : Addr}
def spRefused (K : PySem.W.Frag) (T : Addr) : Sp := fun vs H Q _ => ∃ (a : Addr) (vls : List V), vs = [.ref a] ∧ SqL K H a vls ∧ (∀ v ∈ vls, Thing K H v) ∧ vls.length ≤ 1000 ∧ TabG H T ∧ (∃ v ∈ vls, nmV v = false) ∧ ∀ H', Gr H H' → Q (.bl true) H'
end
end K1
namespace K1
open PySem PySem.Spec PyProof.Rows L2 Gr GxR Srx
open PySem.W (dataLe dataLt DatumOrd Datum)
def dS (xs : List Str) : PyData := .list (xs.map PyData.str)
def dSS (xss : List (List Str)) : PyData := .list (xss.map dS)
/-- names, all of them -/
def Nms (xs : List Str) : Prop := ∀ x ∈ xs, isNm x = true
theorem nm_ok {x : Str} (h : isNm x = true) : PyData.strOk x = true := by
  unfold isNm at h
  rw [Bool.and_eq_true, Bool.and_eq_true] at h
  show (x.cps.all (· < 0x110000)) = true
  rw [← Array.all_toList, List.all_eq_true]
  intro c hc
  have z := List.all_eq_true.mp h.2.2 c hc
  unfold small at z
  rw [Bool.and_eq_true, decide_eq_true_iff, decide_eq_true_iff] at z
  exact decide_eq_true (by omega)
theorem nm_len {x : Str} (h : isNm x = true) : x.length ≤ 8 := by
  unfold isNm at h
  rw [Bool.and_eq_true, Bool.and_eq_true] at h
  exact of_decide_eq_true h.2.1
theorem canL_strs : ∀ xs : List Str, Nms xs → PyData.canLayAll0 (xs.map PyData.str) = true
  | [], _ => by simp [PyData.canLayAll0]
  | n :: r, h => by
    have h1 := nm_ok (h n List.mem_cons_self)
    simp [PyData.canLayAll0, PyData.canLay0, h1, canL_strs r fun x hx => h x (List.mem_cons_of_mem _ hx)]
theorem deep_strs : ∀ xs : List Str, PyData.depthAll (xs.map PyData.str) ≤ 1
  | [] => by simp [PyData.depthAll]
  | n :: r => by
    have := deep_strs r
    simp only [List.map_cons, PyData.depthAll, PyData.depth]
    omega
theorem shaped_dS {xs : List Str} (nm : Nms xs) : SeqAt.shaped (dS xs) = true := by
  have h1 := deep_strs xs
  have h2 : PyData.depth (dS xs) ≤ 64 := by simp only [dS, PyData.depth]; omega
  show (PyData.canLay0 (dS xs) && decide (PyData.depth (dS xs) ≤ 64)) = true
  rw [Bool.and_eq_true]
  exact ⟨by simp only [dS, PyData.canLay0]; exact canL_strs xs nm, decide_eq_true h2⟩
theorem canL_sets : ∀ xss : List (List Str), (∀ xs ∈ xss, Nms xs) → PyData.canLayAll0 (xss.map dS) = true
  | [], _ => by simp [PyData.canLayAll0]
  | n :: r, h => by
    have h1 := canL_strs n (h n List.mem_cons_self)
    have h2 := canL_sets r fun x hx => h x (List.mem_cons_of_mem _ hx)
    simp only [List.map_cons, PyData.canLayAll0, h2, Bool.and_true]
    simp only [dS, PyData.canLay0]
    exact h1
theorem deep_sets : ∀ xss : List (List Str), PyData.depthAll (xss.map dS) ≤ 3
  | [] => by simp [PyData.depthAll]
  | n :: r => by
    have h1 := deep_sets r
    have h2 := deep_strs n
    simp only [List.map_cons, PyData.depthAll, PyData.depth, dS] at h1 ⊢
    omega
theorem shaped_dSS {xss : List (List Str)} (nm : ∀ xs ∈ xss, Nms xs) : SeqAt.shaped (dSS xss) = true := by
  have h1 := deep_sets xss
  have h2 : PyData.depth (dSS xss) ≤ 64 := by simp only [dSS, PyData.depth]; omega
  show (PyData.canLay0 (dSS xss) && decide (PyData.depth (dSS xss) ≤ 64)) = true
  rw [Bool.and_eq_true]
  exact ⟨by simp only [dSS, PyData.canLay0]; exact canL_sets xss nm, decide_eq_true h2⟩
theorem eqv_dS (xs ys : List Str) : PyData.eqv (dS xs) (dS ys) = decide (xs = ys) := Datum.eqv xs ys
theorem eqv_dSS (xs ys : List (List Str)) : PyData.eqv (dSS xs) (dSS ys) = decide (xs = ys) := Datum.eqv xs ys
theorem dp_dS {K : PySem.W.Frag} {H : Hp} {a : Addr} {xs : List Str} (h : SqL K H a (xs.map V.str)) : Dp K H (.ref a) (dS xs) := .lst h (dp_strs xs)
theorem dp_sets {K : PySem.W.Frag} {H : Hp} : ∀ {ps : List (Addr × List Str)}, (∀ q ∈ ps, SqL K H q.1 (q.2.map V.str)) → DpAll K H (ps.map fun q => V.ref q.1) (ps.map fun q => dS q.2)
  | [], _ => .nil
  | q :: r, h => .cons (dp_dS (h q List.mem_cons_self)) (dp_sets fun z hz => h z (List.mem_cons_of_mem _ hz))
theorem dp_dSS {K : PySem.W.Frag} {H : Hp} {a : Addr} {ps : List (Addr × List Str)} (hA : SqL K H a (ps.map fun q => V.ref q.1)) (h : ∀ q ∈ ps, SqL K H q.1 (q.2.map V.str)) : Dp K H (.ref a) (dSS (ps.map (·.2))) := by
  refine .lst hA ?_
  rw [List.map_map]
  exact dp_sets h
end K1
namespace K1
open PySem PySem.Spec PyProof.Rows L2 Gr GxR Srx Skx Dcx
section
variable {P : Program} {w : World} {K : PySem.W.Frag} {mg : Str → Option Value} {base : Heap} {f : Addr} {fd : FuncData} {p : He.Defn} {T : Addr}
def spOdd (K : PySem.W.Frag) : Sp := fun vs H Q _ => ∃ c : Int, vs = [.int c] ∧ ∀ v H', Gr H H' → Thing K H' v → nmV v = false → Q v H'
theorem thing_str {K : PySem.W.Frag} {H : Hp} {x : Str} (h : x.length ≤ sizeLine) : Thing K H (.str x) := ⟨"str", .base (.str x), (by show kitB "str" "str" = some true; decide +kernel), fun y e => by cases e; exact h⟩
theorem thing_not {K : PySem.W.Frag} {H : Hp} {t : String} {z : V} (ty : TyX K H z (.type t)) (kt : kitB t "str" = some false) (e : strV z = false) : Thing K H z := ⟨t, ty, by rw [e]; exact kt, fun y e2 => by rw [e2] at e; cases e⟩
theorem atI_mod {α : Type} {xs : List α} {c : Int} {n : Nat} (hn : xs.length = n) (h0 : 0 < n) : ∃ v, atI xs (c % (n : Int)) = some v ∧ v ∈ xs := by
  have h1 : 0 ≤ c % (n : Int) := Int.emod_nonneg _ (by omega)
  have h2 : c % (n : Int) < n := Int.emod_lt_of_pos _ (by omega)
  obtain ⟨j, hj⟩ := Int.eq_ofNat_of_zero_le h1
  have hlt : j < xs.length := by omega
  rw [hj]
  exact ⟨xs[j], atI_nat (List.getElem?_eq_getElem hlt), List.getElem_mem hlt⟩
def spRow (K : PySem.W.Frag) : Sp := fun vs H Q _ => ∃ (a : Addr) (c : Int) (ns : List Str), vs = [.ref a, .int c] ∧ SqL K H a (ns.map V.str) ∧ ns ≠ [] ∧ ns.Nodup ∧ Nms ns ∧ ns.length ≤ 1000 ∧
  ∀ (p : Addr) (H' : Hp) (ys : List Str), Gr H H' → H p = none → H' p = some (.lst (ys.map V.str)) → ys.Nodup → (∀ y ∈ ys, y ∈ ns) → ys.length ≤ ns.length → Q (.ref p) H'
end
end K1
namespace K1
open PySem PySem.Spec PyProof.Rows L2 Gr GxR Srx Skx Dcx
/-- at a: a list of the lists ps -/
structure LL (H : Hp) (a : Addr) (ps : List (Addr × List Str)) : Prop where
  at_ : H a = some (.lst (ps.map fun q => V.ref q.1))
  own : ∀ q ∈ ps, H q.1 = some (.lst (q.2.map V.str))
theorem LL.gr {H H' : Hp} {a : Addr} {ps : List (Addr × List Str)} (h : LL H a ps) (g : Gr H H') : LL H' a ps := ⟨g.lst h.at_, fun q hq => g.lst (h.own q hq)⟩
theorem Told.ll {H H' : Hp} {p : Addr} {ps : List (Addr × List Str)} (T : Told H H' p ps) : LL H' p ps := ⟨T.at_, fun q hq => (T.own q hq).2.2⟩
/-- sets of names, not too many -/
def Fit (xss : List (List Str)) : Prop := xss.length ≤ 1000 ∧ ∀ xs ∈ xss, Nms xs ∧ xs.length ≤ 1000
section
variable {P : Program} {w : World} {K : PySem.W.Frag} {mg : Str → Option Value} {base : Heap} {f : Addr} {fd : FuncData} {p : He.Defn} {T : Addr}
def spSets : Sp := fun vs H Q _ => ∃ (a b : Addr) (ps qs : List (Addr × List Str)), vs = [.ref a, .ref b] ∧ LL H a ps ∧ LL H b qs ∧ ps.map (·.2) = qs.map (·.2) ∧ Fit (ps.map (·.2)) ∧ ∀ H', Gr H H' → Q (.bl true) H'
end
end K1
namespace K1
open PySem PySem.Spec PyProof.Rows L2 Gr GxR Srx Skx Dcx
/-- for x in C: x.append(m), the lists of C younger than H -/
theorem for_more {K : PySem.W.Frag} {C : Addr} {A : List Addr} {H H5 : Hp} {σ : L2.St} {D : Ends} {j : Nat} {m : Str} (hC : H5 C = some (.lst (A.map V.ref))) (gr : Gr H H5) (nC : C ∉ A) (new : ∀ x ∈ A, H x = none) (has : ∀ x ∈ A, ∃ zs, H5 x = some (.lst zs) ∧ zs.length ≤ 1000) (few : A.length ≤ 5000) (hj : j < σ.length)
    (hd : ∀ (v : Option V) (H6 : Hp), Gr H H6 → (∀ b o, b ∉ A → H5 b = some o → H6 b = some o) → D.nx (σ.set j v) H6) :
    ∃ W : Nat → Nat → L2.St → Hp → Prop, (∃ m, W 0 m σ H5) ∧ ∀ i m' σ H, W i m' σ H →
      ((Itl K C).stop i H ∧ D.nx σ H) ∨ ((Itl K C).go i H ∧ ∃ N : L2.St → Hp → Prop, (∀ σ' H', N σ' H' → ∃ m2, m2 < m' ∧ W (i + 1) m2 σ' H') ∧ ∀ x H', (Itl K C).yld i H x H' → gName j x σ H' fun σ2 H2 => tDrop (tBM K "list" rAppend (tVar j) (tCons (tC (.str m)) tNil)) { D with nx := N, ct := N, bk := D.nx } σ2 H2) := by
  refine for_list (K := K) (xs := A.map V.ref) (fun i σ' H6 => Gr H H6 ∧ (∀ b o, b ∉ A → H5 b = some o → H6 b = some o) ∧ (∀ x ∈ A, ∃ zs, H6 x = some (.lst zs) ∧ zs.length ≤ 1000 + i) ∧ ∃ v, σ' = σ.set j v) ⟨gr, fun _ _ _ e => e, has, σ[j], (List.set_getElem_self ..).symm⟩ (fun i σ' H6 _ h => .inl (.inl (h.2.1 _ _ nC hC))) (fun i x σ' H6 hx h => ?_) (fun σ' H6 h => ?_)
  · obtain ⟨g, fr, lens, v, rfl⟩ := h
    obtain ⟨a, ha, rfl⟩ := get_map hx
    have ma := List.mem_of_getElem? ha
    have hi : i < A.length := (List.getElem?_eq_some_iff.mp ha).1
    obtain ⟨zs, ez, hz⟩ := lens a ma
    show tDrop _ _ ((σ.set j v).set j (some (.ref a))) H6
    rw [List.set_set]
    refine ⟨.ref a, ?_, .inl ⟨rfl, _, .inl (.inl ez)⟩, a, _, _, rfl, rfl, ez, ?_, ?_⟩
    · rw [List.getElem?_set_self hj]
    · rw [sizeLine_eq]
      omega
    · refine ⟨g.mut (new a ma), fun b o hb e => ?_, fun x hx => ?_, _, rfl⟩
      · rw [upd_ne (fun z => hb (by rw [z]; exact ma))]
        exact fr b o hb e
      · by_cases hxa : x = a
        · subst hxa
          exact ⟨_, upd_same, by rw [List.length_append, List.length_singleton]; omega⟩
        · obtain ⟨ys, ey, hy⟩ := lens x hx
          exact ⟨ys, by rw [upd_ne hxa]; exact ey, by omega⟩
  · obtain ⟨g, fr, _, v, rfl⟩ := h
    exact hd v H6 g fr
theorem keep_sub : ∀ (l acc : List (List Str)), List.Sublist (l.foldl keep acc) (acc ++ l)
  | [], acc => by rw [List.append_nil]; exact List.Sublist.refl _
  | x :: l, acc => by
    rw [List.foldl_cons]
    refine (keep_sub l _).trans ?_
    unfold keep
    split
    · exact List.Sublist.append (List.Sublist.refl _) (List.sublist_cons_self _ _)
    · rw [List.append_assoc]
      exact List.Sublist.refl _
theorem fit_rkd {xss : List (List Str)} (h : Fit xss) : Fit (rkd xss) := ⟨by rw [(rkd_perm _).length_eq]; exact h.1, fun xs hx => h.2 xs ((rkd_perm _).mem_iff.mp hx)⟩
theorem fit_sub {xss yss : List (List Str)} (h : Fit xss) (s : List.Sublist yss xss) : Fit yss := ⟨Nat.le_trans s.length_le h.1, fun xs hx => h.2 xs (s.subset hx)⟩
theorem once_nms {xs : List Str} (h : Nms xs) : Nms (once xs) := fun x hx => h x (Sx.dd_mem.mp (srt_mem.mp hx))
theorem once_len {xs : List Str} : (once xs).length ≤ xs.length := by
  unfold once
  rw [srt_len]
  exact Sx.dd_len xs
theorem fit_least {xss : List (List Str)} (h : Fit xss) : Fit (least (xss.map once)) := by
  have h1 : Fit (xss.map once) := ⟨by rw [List.length_map]; exact h.1, fun xs hx => by
    obtain ⟨ys, hy, rfl⟩ := List.mem_map.mp hx
    obtain ⟨a, b⟩ := h.2 ys hy
    exact ⟨once_nms a, Nat.le_trans once_len b⟩⟩
  unfold least
  exact fit_sub (fit_rkd (fit_sub h1 (ddG_sub _))) (keep_sub _ [])
theorem lens_of {ps : List (Addr × List Str)} (h : Fit (ps.map (·.2))) : ps.length ≤ 1000 ∧ ∀ q ∈ ps, Nms q.2 ∧ q.2.length ≤ 1000 := ⟨by have := h.1; rw [List.length_map] at this; exact this, fun q hq => h.2 q.2 (List.mem_map.mpr ⟨q, hq, rfl⟩)⟩
theorem LL.dp {K : PySem.W.Frag} {H : Hp} {a : Addr} {ps : List (Addr × List Str)} (h : LL H a ps) : Dp K H (.ref a) (dSS (ps.map (·.2))) := dp_dSS (.inl (.inl h.at_)) fun q hq => .inl (.inl (h.own q hq))
theorem LL.fr {H H' : Hp} {a : Addr} {A : List Addr} {ps : List (Addr × List Str)} (h : LL H a ps) (fr : ∀ b o, b ∉ A → H b = some o → H' b = some o) (na : a ∉ A) (nq : ∀ q ∈ ps, q.1 ∉ A) : LL H' a ps := ⟨fr _ _ na h.at_, fun q hq => fr _ _ (nq q hq) (h.own q hq)⟩
/-- told lists are none of what stood -/
theorem Told.off {H H' : Hp} {p x : Addr} {o : HO} {ps : List (Addr × List Str)} (T : Told H H' p ps) (e : H x = some o) : x ≠ p ∧ ∀ q ∈ ps, x ≠ q.1 := ⟨ne_of_none e T.new, fun q hq => ne_of_none e (T.own q hq).1⟩
section
variable {P : Program} {w : World} {K : PySem.W.Frag} {mg : Str → Option Value} {base : Heap} {f fR fL fS : Addr} {fd fdR fdL fdS : FuncData} {p : He.Defn} {T T2 : Addr}
def spTold (T T2 : Addr) : Sp := fun vs H Q _ => ∃ (s h d b : Addr) (ps hs ds bs : List (Addr × List Str)), vs = [.ref s, .ref h, .ref d, .ref b] ∧ LL H s ps ∧ LL H h hs ∧ LL H d ds ∧ LL H b bs ∧ Fit (ps.map (·.2)) ∧ Fit (hs.map (·.2)) ∧
  ds.map (·.2) = rkd (hs.map (·.2)) ∧ bs.map (·.2) = least ((ps.map (·.2)).map once) ∧ TabG H T ∧ TabG H T2 ∧ ∀ H', Gr H H' → Q (.bl true) H'
end
end K1
namespace K1
open PySem PySem.Spec PyProof.Rows L2
def L0 : List Nat := List.range' 97 26
theorem letters_eq : Str.ofString "abcdefghijklmnopqrstuvwxyz" = SX.S L0 := by decide +kernel
def let_ (x : Int) : Nat := L0.getD (x % 26).toNat 0
def nm1 (d k : Nat) : Str := SX.S ((L0.drop d).take (k + 1))
def turned (d : Nat) : List Nat := (L0.drop d).take 8
def nm2 (d k : Nat) : Str := SX.S ((turned d).drop k ++ (turned d).take k)
def nm3 (base : List Nat) (at_ : Nat) (x : Int) (k : Nat) : Str := SX.S (base.take at_ ++ [let_ (x + 3 * (k : Int))] ++ base.drop at_)
def baseOf (c : Int) (size : Nat) : List Nat := (List.range size).map fun j : Nat => let_ (c / 224 + 5 * (j : Int))
def many (c : Int) : Nat := (1 + c % 7).toNat
def names (c : Int) : List Str :=
  if c / 7 % 4 = 1 then (List.range (many c)).map (nm1 (c / 28 % 18).toNat)
  else if c / 7 % 4 = 2 then (List.range (many c)).map (nm2 (c / 28 % 18).toNat)
  else (List.range (many c)).map (nm3 (baseOf c (c / 28 % 8).toNat) (c / 7 % ((c / 28 % 8) + 1)).toNat (c / 1000))
theorem many_lt (c : Int) : 1 ≤ many c ∧ many c ≤ 7 := by
  unfold many
  omega
theorem L0_at {j : Nat} (h : j < 26) : L0[j]? = some (97 + j) := by
  unfold L0
  rw [List.getElem?_range' (by omega)]
  simp
theorem L0_len : L0.length = 26 := by decide
theorem L0_small : ∀ x ∈ L0, small x = true := by decide +kernel
theorem let_eq (x : Int) : let_ x = 97 + (x % 26).toNat := by
  unfold let_
  rw [List.getD_eq_getElem?_getD, L0_at (by omega)]
  rfl
theorem let_mem (x : Int) : let_ x ∈ L0 := by
  rw [let_eq]
  exact List.mem_of_getElem? (L0_at (j := (x % 26).toNat) (by omega))
theorem nm_S {l : List Nat} (h1 : 1 ≤ l.length) (h8 : l.length ≤ 8) (hs : ∀ x ∈ l, x ∈ L0) : isNm (SX.S l) = true := by
  unfold isNm
  rw [SX.S_len, decide_eq_true h1, decide_eq_true h8, Bool.true_and, Bool.true_and, List.all_eq_true]
  intro x hx
  exact L0_small x (hs x hx)
theorem nodup_range_map {α : Type} {f : Nat → α} {n : Nat} (h : ∀ i j, i < n → j < n → f i = f j → i = j) : ((List.range n).map f).Nodup := by
  unfold List.Nodup
  rw [List.pairwise_map]
  refine List.Pairwise.imp_of_mem ?_ (List.nodup_range (n := n))
  intro a b ha hb ne e
  exact ne (h a b (List.mem_range.mp ha) (List.mem_range.mp hb) e)
theorem names_ok (c : Int) : Nms (names c) ∧ (names c).Nodup ∧ names c ≠ [] ∧ (names c).length ≤ 7 := by
  obtain ⟨m1, m7⟩ := many_lt c
  have ne : ∀ f : Nat → Str, (List.range (many c)).map f ≠ [] := by
    intro f z
    have := congrArg List.length z
    rw [List.length_map, List.length_range] at this
    simp at this
    omega
  have ln : ∀ f : Nat → Str, ((List.range (many c)).map f).length ≤ 7 := by
    intro f
    rw [List.length_map, List.length_range]
    exact m7
  have nms : ∀ f : Nat → Str, (∀ k, k < many c → isNm (f k) = true) → Nms ((List.range (many c)).map f) := by
    intro f h x hx
    obtain ⟨k, hk, rfl⟩ := List.mem_map.mp hx
    exact h k (List.mem_range.mp hk)
  unfold names
  have hd : (c / 28 % 18).toNat ≤ 17 := by omega
  generalize (c / 28 % 18).toNat = d at hd
  split
  · refine ⟨nms _ fun k hk => ?_, nodup_range_map fun i j hi hj e => ?_, ne _, ln _⟩
    · refine nm_S ?_ ?_ fun x hx => List.mem_of_mem_drop (List.mem_of_mem_take hx)
      · rw [List.length_take, List.length_drop, L0_len]; omega
      · rw [List.length_take, List.length_drop, L0_len]; omega
    · have e := congrArg List.length (SX.S_inj e)
      rw [List.length_take, List.length_take, List.length_drop, L0_len] at e
      omega
  · split
    · have tl : (turned d).length = 8 := by
        unfold turned
        rw [List.length_take, List.length_drop, L0_len]; omega
      have tm : ∀ x ∈ turned d, x ∈ L0 := fun x hx => List.mem_of_mem_drop (List.mem_of_mem_take hx)
      have ta : ∀ k, k < 8 → (turned d)[k]? = some (97 + (d + k)) := by
        intro k hk
        unfold turned
        rw [List.getElem?_take_of_lt hk, List.getElem?_drop, L0_at (by omega)]
      refine ⟨nms _ fun k hk => ?_, nodup_range_map fun i j hi hj e => ?_, ne _, ln _⟩
      · refine nm_S ?_ ?_ fun x hx => ?_
        · rw [List.length_append, List.length_drop, List.length_take, tl]; omega
        · rw [List.length_append, List.length_drop, List.length_take, tl]; omega
        · rcases List.mem_append.mp hx with h | h
          · exact tm x (List.mem_of_mem_drop h)
          · exact tm x (List.mem_of_mem_take h)
      · have e := congrArg (fun l : List Nat => l[0]?) (SX.S_inj e)
        have hh : ∀ k, k < many c → ((turned d).drop k ++ (turned d).take k)[0]? = some (97 + (d + k)) := by
          intro k hk
          rw [List.getElem?_append_left (by rw [List.length_drop, tl]; omega), List.getElem?_drop]
          exact ta k (by omega)
        have e : ((turned d).drop i ++ (turned d).take i)[0]? = ((turned d).drop j ++ (turned d).take j)[0]? := e
        rw [hh i hi, hh j hj] at e
        have e := Option.some.inj e
        omega
    · have hsz : (c / 28 % 8).toNat ≤ 7 := by omega
      have hat : (c / 7 % ((c / 28 % 8) + 1)).toNat ≤ (c / 28 % 8).toNat := by
        have h1 : 0 ≤ c / 28 % 8 := Int.emod_nonneg _ (by omega)
        have h2 := Int.emod_lt_of_pos (c / 7) (show (0 : Int) < c / 28 % 8 + 1 by omega)
        have h3 := Int.emod_nonneg (c / 7) (show (c / 28 % 8 + 1 : Int) ≠ 0 by omega)
        omega
      generalize (c / 28 % 8).toNat = size at hsz hat
      generalize (c / 7 % ((c / 28 % 8) + 1)).toNat = at_ at hat
      have bl : (baseOf c size).length = size := by
        unfold baseOf
        rw [List.length_map, List.length_range]
      have bm : ∀ x ∈ baseOf c size, x ∈ L0 := by
        intro x hx
        obtain ⟨j, _, rfl⟩ := List.mem_map.mp hx
        exact let_mem _
      refine ⟨nms _ fun k hk => ?_, nodup_range_map fun i j hi hj e => ?_, ne _, ln _⟩
      · refine nm_S ?_ ?_ fun x hx => ?_
        · rw [List.length_append, List.length_append, List.length_take, List.length_drop, bl]; simp; omega
        · rw [List.length_append, List.length_append, List.length_take, List.length_drop, bl, List.length_singleton]; omega
        · rcases List.mem_append.mp hx with h | h
          · rcases List.mem_append.mp h with h | h
            · exact bm x (List.mem_of_mem_take h)
            · have h : x = let_ (c / 1000 + 3 * (k : Int)) := by simpa using h
              rw [h]
              exact let_mem _
          · exact bm x (List.mem_of_mem_drop h)
      · have hh : ∀ k : Nat, ((baseOf c size).take at_ ++ [let_ (c / 1000 + 3 * (k : Int))] ++ (baseOf c size).drop at_)[at_]? = some (let_ (c / 1000 + 3 * (k : Int))) := by
          intro k
          have tk : ((baseOf c size).take at_).length = at_ := by rw [List.length_take, bl]; omega
          rw [List.append_assoc, List.getElem?_append_right (by omega), tk, Nat.sub_self]
          rfl
        have e : ((baseOf c size).take at_ ++ [let_ (c / 1000 + 3 * (i : Int))] ++ (baseOf c size).drop at_)[at_]? = ((baseOf c size).take at_ ++ [let_ (c / 1000 + 3 * (j : Int))] ++ (baseOf c size).drop at_)[at_]? := congrArg (fun l : List Nat => l[at_]?) (SX.S_inj e)
        rw [hh i, hh j] at e
        have e := Option.some.inj e
        rw [let_eq, let_eq] at e
        omega
end K1
namespace K1
open PySem PySem.Spec PyProof.Rows L2 Gr GxR Srx Skx Dcx
theorem lc_texts {D : Addr} {j n : Nat} {σ : L2.St} {vs : List Nat} {te : TE} {H H1 : Hp} {Qd : Hp → Prop} (F : Nat → Str) (few : n ≤ 1000) (gr : Gr H H1) (hD : H1 D = none) (hw : ∀ v, wipe ((wipe σ vs).set j (some v)) vs = wipe σ vs)
    (he : ∀ (k : Nat) (H4 : Hp) (Q' : VK), k < n → Q' (.str (F k)) H4 → te ((wipe σ vs).set j (some (.int ((0 : Int) + (k : Nat))))) H4 Q')
    (q : ∀ H2, Gr H H2 → H2 D = some (.lst (((List.range n).map F).map V.str)) → Qd H2) :
    ∃ W : Nat → Nat → Hp → Prop, (∃ m, W 0 m (upd H1 D (.lst []))) ∧ ∀ i m H, W i m H →
      ((Itr 0 n).stop i H ∧ Qd H) ∨ ((Itr 0 n).go i H ∧ ∃ Nx : Hp → Prop, (∀ H', Nx H' → ∃ m', m' < m ∧ W (i + 1) m' H') ∧ ∀ x H', (Itr 0 n).yld i H x H' → gName j x (wipe σ vs) H' fun σ2 H2 => wipe σ2 vs = wipe σ vs ∧ tYes σ2 H2 fun b H3 =>
        if b = true then te σ2 H3 fun y H4 => ∃ acc, H4 D = some (.lst acc) ∧ acc.length < sizeLine ∧ Nx (upd H4 D (.lst (acc ++ [y]))) else Nx H3) := by
  have hD0 : H D = none := gr.free hD
  refine lc_range (Qd := Qd) (fun i H2 => Gr H H2 ∧ H2 D = some (.lst (((List.range i).map F).map V.str))) ⟨gr.mut hD0, upd_same⟩ (fun i H2 hi h => ?_) (fun H2 h => q H2 h.1 h.2)
  obtain ⟨g2, e⟩ := h
  refine ⟨hw _, yesIf (he i H2 _ hi ⟨_, e, ?_, g2.mut hD0, ?_⟩)⟩
  · rw [List.length_map, List.length_map, List.length_range]
    exact small1000 (by omega)
  · rw [upd_same, List.range_succ, List.map_append, List.map_append]
    rfl
theorem let_at (x : Int) : atI (Str.ofString "abcdefghijklmnopqrstuvwxyz").cps.toList (x % 26) = some (let_ x) := by
  rw [letters_eq]
  show atI L0 (x % 26) = _
  have h0 : 0 ≤ x % 26 := Int.emod_nonneg _ (by omega)
  obtain ⟨j, hj⟩ := Int.eq_ofNat_of_zero_le h0
  rw [let_eq, hj]
  exact atI_nat (L0_at (by omega))
theorem joinL_ones : ∀ l : List Nat, TL.joinL [] (l.map fun x => [x]) = l
  | [] => rfl
  | [x] => rfl
  | x :: y :: r => by
    show [x] ++ ([] ++ _) = _
    rw [List.nil_append]
    exact congrArg (fun z => x :: z) (joinL_ones (y :: r))
section
variable {P : Program} {w : World} {K : PySem.W.Frag} {mg : Str → Option Value} {base : Heap} {f fD : Addr} {fd fdD : FuncData} {p : He.Defn} {T T2 : Addr}
def spNames (K : PySem.W.Frag) : Sp := fun vs H Q _ => ∃ (a : Addr) (ns : List Int), vs = [.ref a] ∧ SqL K H a (ns.map V.int) ∧ ∀ p H', Gr H H' → H p = none → H' p = some (.lst ((names (ns.getD 0 0)).map V.str)) → Q (.ref p) H'
end
end K1
namespace K1
open PySem PySem.Spec PyProof.Rows L2 Gr GxR Srx Skx Dcx
theorem cut_map (xs : List Str) (lo hi : Option Int) : ∃ zs : List Str, cutV (xs.map V.str) lo hi = zs.map V.str ∧ (∀ z ∈ zs, z ∈ xs) ∧ zs.length ≤ xs.length := by
  refine ⟨(xs.drop (HT.sIx (xs.map V.str).length 0 lo)).take (HT.sIx (xs.map V.str).length (xs.map V.str).length hi - HT.sIx (xs.map V.str).length 0 lo), ?_, fun z hz => List.mem_of_mem_drop (List.mem_of_mem_take hz), ?_⟩
  · unfold cutV
    rw [List.map_take, List.map_drop]
  · rw [List.length_take, List.length_drop]
    omega
theorem once_same {xs zs : List Str} (nd : xs.Nodup) (h : ∀ y, y ∈ zs ↔ y ∈ xs) : once zs = srt xs := by
  unfold once
  refine srt_eq ((List.perm_ext_iff_of_nodup (Sx.dd_nodup zs) nd).mpr fun q => ?_)
  rw [Sx.dd_mem]
  exact h q
def rLenQ (K : PySem.W.Frag) : List V → Hp → VK → Prop := fun xs H Q => ∃ p ys, xs = [V.ref p] ∧ (SqL K H p ys ∨ SqT K H p ys) ∧ Q (.int ys.length) H
structure Calls (P : Program) (w : World) (K : PySem.W.Frag) (mg : Str → Option Value) (base : Heap) (CX : CXT) (k : Nat) (x : Str) (sp : Sp) : Prop where
  ex : ∃ (f : Addr) (fd : FuncData) (ps : List Str), FnOk P w K mg base CX k f fd ps sp ∧ mg x = some (.ref f) ∧ PySem.W.keepIn K (.ref f) = true ∧ Binds K fd ps []
section
variable {X : Cx} {k j : Nat} {x : Str} {ps : List Str} {sp : Sp} {p pos : Pos} {e : Expr} {es : List Expr} {t : TA}
theorem pe_k (c : Calls X.prog X.w X.K X.mg X.base CX0 k x sp) (hr : Room j X.A) (hk : k ≤ j) (hg : Gl X x) (ha : PA X (e :: es) t)
    (hdb : (x == ("__debug__" : Str)) = false := by decide) (he : starEach (e :: es) X.env = (false, eval e X.env) :: starEach es X.env := by rfl) (hpl : (backTo pos (starEach es X.env)).any (·.1) = false := by rfl) :
    PE X (.Call (.Name x p) (e :: es) [] pos) (tCall sp [] E0 t) := by
  obtain ⟨f, fd, ps, F, hm, kp, b⟩ := c.ex
  exact pe_call F (hr.mono hk) hg hm kp b .nil pass0 ha hdb he hpl
theorem pe_kX (c : Calls X.prog X.w X.K X.mg X.base (L2.CX X.prog X.w) k x sp) (hr : Room j X.A) (hk : k ≤ j) (hg : Gl X x) (ha : PA X (e :: es) t)
    (hdb : (x == ("__debug__" : Str)) = false := by decide) (he : starEach (e :: es) X.env = (false, eval e X.env) :: starEach es X.env := by rfl) (hpl : (backTo pos (starEach es X.env)).any (·.1) = false := by rfl) :
    PE X (.Call (.Name x p) (e :: es) [] pos) (tCall sp [] E0 t) := by
  obtain ⟨f, fd, ps, F, hm, kp, b⟩ := c.ex
  exact pe_call F (hr.mono hk) hg hm kp b .nil passL ha hdb he hpl
end
section
variable {P : Program} {w : World} {K : PySem.W.Frag} {mg : Str → Option Value} {base : Heap} {f : Addr} {fd : FuncData} {p : He.Defn} {T TI TW TM TL C : Addr}
/-- what the law calls -/
structure Env1 (P : Program) (w : World) (K : PySem.W.Frag) (mg : Str → Option Value) (base : Heap) (TI TW TM TL C : Addr) : Prop where
  draw : Calls P w K mg base CX0 1 "_law_draw" (spDraw K)
  names : Calls P w K mg base CX0 2 "_law_names" (spNames K)
  row : Calls P w K mg base CX0 1 "_law_row" (spRow K)
  odd : Calls P w K mg base CX0 1 "_law_odd" (spOdd K)
  truth : Calls P w K mg base CX0 1 "_law_truth" spTruth
  lmeets : Calls P w K mg base CX0 1 "_law_meets" (spLMeets K)
  lwithin : Calls P w K mg base CX0 1 "_law_within" (spLWithin K)
  refused : Calls P w K mg base CX0 3 "_law_refused" (spRefused K TI)
  told : Calls P w K mg base CX0 6 "_law_told_right" (spTold TL TW)
  isname : Calls P w K mg base CX0 1 "is_name" (spIsName K TI)
  rising : Calls P w K mg base (L2.CX P w) 2 "rising" (spRising K TI C)
  within : Calls P w K mg base CX0 1 "within" (spWithin K TW)
  meets : Calls P w K mg base CX0 1 "meets" (spMeets K TM)
  gR : mg "range" = none
  gA : mg "all" = none
  gLi : mg "list" = none
  gL : mg "len" = none
  gS : mg "sorted" = none
def spLaw (K : PySem.W.Frag) (TI TW TM TL : Addr) : Sp := fun vs H Q _ => ∃ (a : Addr) (ns : List Int), vs = [.ref a] ∧ SqL K H a (ns.map V.int) ∧ TabG H TI ∧ TabG H TW ∧ TabG H TM ∧ TabG H TL ∧ ∀ H', Q (.bl true) H'
end
end K1
namespace K1
open PySem PySem.Spec PyProof.Rows L2 Srx
open PySem.W (dataLe dataLt DatumOrd Datum)
def ltS (a b : Str) : Prop := leS a b = true ∧ a ≠ b
def Ris (xs : List Str) : Prop := xs.Pairwise ltS
theorem ris_nil : Ris [] := List.Pairwise.nil
theorem Ris.nodup {xs : List Str} (h : Ris xs) : xs.Nodup := List.Pairwise.imp (fun z => z.2) h
theorem Ris.sorted {xs : List Str} (h : Ris xs) : xs.Pairwise (fun a b => leS a b = true) := List.Pairwise.imp (fun z => z.1) h
theorem ris_of {xs : List Str} (h : xs.Pairwise (fun a b => leS a b = true)) (n : xs.Nodup) : Ris xs := List.Pairwise.imp₂ (fun _ _ a b => ⟨a, b⟩) h n
theorem ris_sub {xs ys : List Str} (s : List.Sublist xs ys) (h : Ris ys) : Ris xs := List.Pairwise.sublist s h
theorem sublist_of : ∀ {N x : List Str}, Ris N → Ris x → (∀ y ∈ x, y ∈ N) → List.Sublist x N
  | [], [], _, _, _ => List.Sublist.refl _
  | [], a :: x, _, _, h => absurd (h a List.mem_cons_self) List.not_mem_nil
  | n :: N, [], _, _, _ => List.nil_sublist _
  | n :: N, a :: x, hN, hx, h => by
    obtain ⟨hn, hN'⟩ := List.pairwise_cons.mp hN
    obtain ⟨ha, hx'⟩ := List.pairwise_cons.mp hx
    by_cases e : a = n
    · subst e
      refine List.Sublist.cons₂ a (sublist_of hN' hx' fun y hy => ?_)
      rcases List.mem_cons.mp (h y (List.mem_cons_of_mem _ hy)) with z | z
      · exact absurd z.symm (ha y hy).2
      · exact z
    · have aN : a ∈ N := (List.mem_cons.mp (h a List.mem_cons_self)).resolve_left e
      refine List.Sublist.cons n (sublist_of hN' hx fun y hy => ?_)
      rcases List.mem_cons.mp (h y hy) with z | z
      · subst z
        rcases List.mem_cons.mp hy with w | w
        · exact absurd w.symm e
        · exact absurd (leS_anti (ha y w).1 (hn a aN).1) e
      · exact z
theorem ris_once (xs : List Str) : Ris (once xs) := ris_of (srt_sorted _) ((srt_perm _).nodup_iff.mpr (Sx.dd_nodup xs))
theorem once_mem {xs : List Str} {y : Str} : y ∈ once xs ↔ y ∈ xs := by
  unfold once
  rw [srt_mem, Sx.dd_mem]
theorem once_ris {xs : List Str} (h : Ris xs) : once xs = xs := by
  unfold once
  rw [Sx.dd_id h.nodup, srt_id h.sorted]
theorem wi_iff {a b : List Str} : wi a b = true ↔ ∀ y ∈ a, y ∈ b := by
  unfold wi
  rw [List.all_eq_true]
  exact ⟨fun h y hy => List.contains_iff_mem.mp (h y hy), fun h y hy => List.contains_iff_mem.mpr (h y hy)⟩
theorem wi_trans {a b c : List Str} (h1 : wi a b = true) (h2 : wi b c = true) : wi a c = true := wi_iff.mpr fun y hy => wi_iff.mp h2 y (wi_iff.mp h1 y hy)
theorem wi_anti {a b : List Str} (ha : Ris a) (hb : Ris b) (h1 : wi a b = true) (h2 : wi b a = true) : a = b := by
  have s1 := sublist_of hb ha (wi_iff.mp h1)
  have s2 := sublist_of ha hb (wi_iff.mp h2)
  exact s1.eq_of_length_le s2.length_le
theorem wi_len {a b : List Str} (ha : Ris a) (hb : Ris b) (h : wi a b = true) : a.length ≤ b.length := (sublist_of hb ha (wi_iff.mp h)).length_le
theorem wi_eq {a b : List Str} (ha : Ris a) (hb : Ris b) (h : wi a b = true) (l : b.length ≤ a.length) : a = b := (sublist_of hb ha (wi_iff.mp h)).eq_of_length_le l
theorem leR_len {a b : List Str} (h : leR a b = true) : a.length ≤ b.length := by
  rw [leR_eq, Bool.not_eq_true'] at h
  rw [← toD_eq, ← toD_eq, DatumOrd.lt_eq] at h
  have h : (if (b.length : Int) = a.length then PySem.W.listLt b a else decide ((b.length : Int) < a.length)) = false := h
  by_cases e : (b.length : Int) = a.length
  · omega
  · rw [if_neg e] at h
    have := of_decide_eq_false h
    omega
theorem keep_mem : ∀ L : List (List Str), L.Pairwise (fun a b => leR a b = true) → (∀ x ∈ L, Ris x) → ∀ z, z ∈ L.foldl keep [] ↔ z ∈ L ∧ ∀ y ∈ L, wi y z = true → y = z := by
  intro L
  refine snoc_ind (p := fun L => L.Pairwise (fun a b => leR a b = true) → (∀ x ∈ L, Ris x) → ∀ z, z ∈ L.foldl keep [] ↔ z ∈ L ∧ ∀ y ∈ L, wi y z = true → y = z) ?_ (fun L x ih => ?_) L
  · intro _ _ z
    simp
  · intro hs hr z
    obtain ⟨hs1, _, hs2⟩ := List.pairwise_append.mp hs
    have hr1 : ∀ y ∈ L, Ris y := fun y hy => hr y (List.mem_append_left _ hy)
    have hrx : Ris x := hr x (List.mem_append_right _ List.mem_cons_self)
    have ih := ih hs1 hr1
    have hlen : ∀ y ∈ L, y.length ≤ x.length := fun y hy => leR_len (hs2 y hy x List.mem_cons_self)
    rw [List.foldl_append]
    show z ∈ keep (L.foldl keep []) x ↔ _
    have up : ∀ z, z ∈ L.foldl keep [] → z ∈ L ++ [x] ∧ ∀ y ∈ L ++ [x], wi y z = true → y = z := by
      intro z hz
      obtain ⟨h1, h2⟩ := (ih z).mp hz
      refine ⟨List.mem_append_left _ h1, fun y hy w => ?_⟩
      rcases List.mem_append.mp hy with hy | hy
      · exact h2 y hy w
      · have hy : y = x := by simpa using hy
        subst hy
        exact wi_eq hrx (hr1 z h1) w (hlen z h1)
    unfold keep
    split
    · rename_i hany
      refine ⟨up z, fun ⟨h1, h2⟩ => ?_⟩
      have zL : z ∈ L := by
        rcases List.mem_append.mp h1 with h1 | h1
        · exact h1
        · have h1 : z = x := by simpa using h1
          subst h1
          obtain ⟨a, ha, wa⟩ := List.any_eq_true.mp hany
          have aL := ((ih a).mp ha).1
          rw [← h2 a (List.mem_append_left _ aL) wa]
          exact aL
      exact (ih z).mpr ⟨zL, fun y hy => h2 y (List.mem_append_left _ hy)⟩
    · rename_i hany
      constructor
      · intro hz
        rcases List.mem_append.mp hz with hz | hz
        · exact up z hz
        · have hz : z = x := by simpa using hz
          subst hz
          refine ⟨List.mem_append_right _ List.mem_cons_self, fun y hy w => ?_⟩
          rcases List.mem_append.mp hy with hy | hy
          · obtain ⟨a, ha, wa⟩ := List.any_eq_true.mp (fold_any L [] y (.inr hy))
            exact (hany (List.any_eq_true.mpr ⟨a, ha, wi_trans wa w⟩)).elim
          · simpa using hy
      · intro ⟨h1, h2⟩
        rcases List.mem_append.mp h1 with h1 | h1
        · exact List.mem_append_left _ ((ih z).mpr ⟨h1, fun y hy => h2 y (List.mem_append_left _ hy)⟩)
        · exact List.mem_append_right _ h1
theorem keep_nodup : ∀ L : List (List Str), (L.foldl keep []).Nodup := by
  intro L
  refine snoc_ind (p := fun L => (L.foldl keep []).Nodup) List.nodup_nil (fun L x ih => ?_) L
  rw [List.foldl_append]
  show (keep (L.foldl keep []) x).Nodup
  unfold keep
  split
  · exact ih
  · rename_i hany
    refine List.nodup_append.mpr ⟨ih, by simp, fun a ha b hb e => ?_⟩
    have hb : b = x := by simpa using hb
    subst hb
    subst e
    exact hany (List.any_eq_true.mpr ⟨a, ha, wi_self a⟩)
theorem keep_sorted {L : List (List Str)} (h : L.Pairwise (fun a b => leR a b = true)) : (L.foldl keep []).Pairwise (fun a b => leR a b = true) := by
  have s : ∀ (l acc : List (List Str)), List.Sublist (l.foldl keep acc) (acc ++ l) := by
    intro l
    induction l with
    | nil => intro acc; rw [List.append_nil]; exact List.Sublist.refl _
    | cons x l ih =>
      intro acc
      rw [List.foldl_cons]
      refine (ih _).trans ?_
      unfold keep
      split
      · exact List.Sublist.append (List.Sublist.refl _) (List.sublist_cons_self _ _)
      · rw [List.append_assoc]
        exact List.Sublist.refl _
  exact h.sublist (s L [])
def RisAll (l : List (List Str)) : Prop := ∀ x ∈ l, Ris x
theorem least_mem {l : List (List Str)} (h : RisAll l) {z : List Str} : z ∈ least l ↔ z ∈ l ∧ ∀ y ∈ l, wi y z = true → y = z := by
  rw [least_eq, keep_mem _ (rkd_sorted l) (fun x hx => h x ((rkd_perm l).mem_iff.mp hx))]
  constructor
  · intro ⟨h1, h2⟩
    exact ⟨(rkd_perm l).mem_iff.mp h1, fun y hy => h2 y ((rkd_perm l).mem_iff.mpr hy)⟩
  · intro ⟨h1, h2⟩
    exact ⟨(rkd_perm l).mem_iff.mpr h1, fun y hy => h2 y ((rkd_perm l).mem_iff.mp hy)⟩
theorem least_nodup (l : List (List Str)) : (least l).Nodup := by
  rw [least_eq]
  exact keep_nodup _
theorem least_sorted (l : List (List Str)) : (least l).Pairwise (fun a b => leR a b = true) := by
  rw [least_eq]
  exact keep_sorted (rkd_sorted l)
theorem least_one {xs ys : List (List Str)} (n1 : xs.Nodup) (n2 : ys.Nodup) (h1 : xs.Pairwise (fun a b => leR a b = true)) (h2 : ys.Pairwise (fun a b => leR a b = true)) (h : ∀ z, z ∈ xs ↔ z ∈ ys) : xs = ys :=
  rkd_one ((List.perm_ext_iff_of_nodup n1 n2).mpr h) h1 h2
/-- below each one lies a least one -/
theorem least_below {l : List (List Str)} {y : List Str} (hy : y ∈ l) : ∃ m ∈ least l, wi m y = true := by
  rw [least_eq]
  exact List.any_eq_true.mp (fold_any (rkd l) [] y (.inr ((rkd_perm l).mem_iff.mpr hy)))
theorem least_sub {l : List (List Str)} (h : RisAll l) {z : List Str} (hz : z ∈ least l) : z ∈ l := ((least_mem h).mp hz).1
theorem least_ris {l : List (List Str)} (h : RisAll l) : RisAll (least l) := fun z hz => h z (least_sub h hz)
/-- two lists, each with one below each of the other: the same least ones -/
theorem least_ext {A B : List (List Str)} (hA : RisAll A) (hB : RisAll B) (ab : ∀ a ∈ A, ∃ b ∈ B, wi b a = true) (ba : ∀ b ∈ B, ∃ a ∈ A, wi a b = true) : least A = least B := by
  have half : ∀ {A B : List (List Str)}, RisAll A → RisAll B → (∀ a ∈ A, ∃ b ∈ B, wi b a = true) → (∀ b ∈ B, ∃ a ∈ A, wi a b = true) → ∀ z, z ∈ least A → z ∈ least B := by
    intro A B hA hB ab ba z hz
    obtain ⟨zA, zmin⟩ := (least_mem hA).mp hz
    have key : ∀ b ∈ B, wi b z = true → b = z := by
      intro b hb w
      obtain ⟨a, ha, wa⟩ := ba b hb
      have e := zmin a ha (wi_trans wa w)
      subst e
      exact wi_anti (hB b hb) (hA a ha) w wa
    obtain ⟨b, hb, w⟩ := ab z zA
    have e := key b hb w
    subst e
    exact (least_mem hB).mpr ⟨hb, key⟩
  exact least_one (least_nodup A) (least_nodup B) (least_sorted A) (least_sorted B) fun z => ⟨half hA hB ab ba z, half hB hA ba ab z⟩
theorem least_idem {l : List (List Str)} (h : RisAll l) : least (least l) = least l :=
  least_ext (least_ris h) h (fun a ha => ⟨a, least_sub h ha, wi_self a⟩) fun b hb => least_below hb
def box (N : List Str) : List (List Str) := N.foldl (fun acc n => acc ++ acc.map (· ++ [n])) [[]]
theorem box_snoc (N : List Str) (n : Str) : box (N ++ [n]) = box N ++ (box N).map (· ++ [n]) := by
  unfold box
  rw [List.foldl_append]
  rfl
theorem sub_snoc {x N : List Str} {n : Str} : List.Sublist x (N ++ [n]) ↔ List.Sublist x N ∨ ∃ y, x = y ++ [n] ∧ List.Sublist y N := by
  rw [List.sublist_append_iff]
  constructor
  · rintro ⟨a, b, rfl, ha, hb⟩
    cases hb with
    | cons _ hb =>
      cases hb
      rw [List.append_nil]
      exact .inl ha
    | cons_cons _ hb =>
      cases hb
      exact .inr ⟨a, rfl, ha⟩
  · rintro (h | ⟨y, rfl, hy⟩)
    · exact ⟨x, [], by rw [List.append_nil], h, List.nil_sublist _⟩
    · exact ⟨y, [n], rfl, hy, List.Sublist.refl _⟩
theorem box_sub {N : List Str} : ∀ x, x ∈ box N ↔ List.Sublist x N := by
  refine snoc_ind (p := fun N => ∀ x, x ∈ box N ↔ List.Sublist x N) ?_ (fun N n ih => ?_) N
  · intro x
    show x ∈ [[]] ↔ _
    rw [List.mem_singleton, List.sublist_nil]
  · intro x
    rw [box_snoc, List.mem_append, ih, sub_snoc]
    refine or_congr_right ?_
    rw [List.mem_map]
    constructor
    · rintro ⟨y, hy, rfl⟩
      exact ⟨y, rfl, (ih y).mp hy⟩
    · rintro ⟨y, rfl, hy⟩
      exact ⟨y, (ih y).mpr hy, rfl⟩
theorem box_mem {N x : List Str} (h : Ris N) : x ∈ box N ↔ Ris x ∧ ∀ y ∈ x, y ∈ N := by
  rw [box_sub]
  exact ⟨fun s => ⟨ris_sub s h, fun y hy => s.subset hy⟩, fun ⟨h1, h2⟩ => sublist_of h h1 h2⟩
/-- meets a row -/
def mt (s r : List Str) : Bool := s.any r.contains
theorem mt_iff {s r : List Str} : mt s r = true ↔ ∃ y ∈ s, y ∈ r := by
  unfold mt
  rw [List.any_eq_true]
  exact ⟨fun ⟨y, h1, h2⟩ => ⟨y, h1, List.contains_iff_mem.mp h2⟩, fun ⟨y, h1, h2⟩ => ⟨y, h1, List.contains_iff_mem.mpr h2⟩⟩
theorem mt_mono {s t r : List Str} (w : wi s t = true) (h : mt s r = true) : mt t r = true := by
  obtain ⟨y, h1, h2⟩ := mt_iff.mp h
  exact mt_iff.mpr ⟨y, wi_iff.mp w y h1, h2⟩
/-- meets each row -/
def mtAll (s : List Str) (rows : List (List Str)) : Bool := rows.all (mt s)
theorem mtAll_mono {s t : List Str} {rows : List (List Str)} (w : wi s t = true) (h : mtAll s rows = true) : mtAll t rows = true := by
  unfold mtAll at *
  rw [List.all_eq_true] at *
  exact fun r hr => mt_mono w (h r hr)
/-- the sets of N's names that meet all rows -/
def tr (N : List Str) (rows : List (List Str)) : List (List Str) := (box N).filter fun s => mtAll s rows
theorem tr_mem {N x : List Str} {rows : List (List Str)} (h : Ris N) : x ∈ tr N rows ↔ (Ris x ∧ ∀ y ∈ x, y ∈ N) ∧ mtAll x rows = true := by
  unfold tr
  rw [List.mem_filter, box_mem h]
theorem tr_ris {N : List Str} {rows : List (List Str)} (h : Ris N) : RisAll (tr N rows) := fun x hx => ((tr_mem h).mp hx).1.1
def cand (S : List (List Str)) (r : List Str) : List (List Str) := S.flatMap fun s => if mt s r = true then [s] else r.map fun x => once (s ++ [x])
theorem cand_mem {S : List (List Str)} {r z : List Str} : z ∈ cand S r ↔ ∃ s ∈ S, (mt s r = true ∧ z = s) ∨ (mt s r = false ∧ ∃ x ∈ r, z = once (s ++ [x])) := by
  unfold cand
  rw [List.mem_flatMap]
  refine exists_congr fun s => and_congr_right fun _ => ?_
  cases e : mt s r with
  | true => simp
  | false => simp [eq_comm]
theorem cand_ris {S : List (List Str)} {r : List Str} (h : RisAll S) : RisAll (cand S r) := by
  intro z hz
  obtain ⟨s, hs, h1⟩ := cand_mem.mp hz
  rcases h1 with ⟨_, rfl⟩ | ⟨_, x, _, rfl⟩
  · exact h _ hs
  · exact ris_once _
theorem wi_once {s : List Str} {x : Str} : wi s (once (s ++ [x])) = true := wi_iff.mpr fun y hy => once_mem.mpr (List.mem_append_left _ hy)
/-- ONE ROW MORE: the least sets behind it are the least ones of the candidates -/
theorem berge {N : List Str} {rows : List (List Str)} {r : List Str} (hN : Ris N) (hr : ∀ y ∈ r, y ∈ N) : least (tr N (rows ++ [r])) = least (cand (least (tr N rows)) r) := by
  have rT := tr_ris (rows := rows) hN
  refine least_ext (tr_ris hN) (cand_ris (least_ris rT)) (fun t ht => ?_) fun b hb => ?_
  · obtain ⟨⟨t1, t2⟩, t3⟩ := (tr_mem hN).mp ht
    unfold mtAll at t3
    rw [List.all_append, Bool.and_eq_true] at t3
    obtain ⟨s, hs, w⟩ := least_below ((tr_mem hN).mpr ⟨⟨t1, t2⟩, t3.1⟩)
    cases e : mt s r with
    | true => exact ⟨s, cand_mem.mpr ⟨s, hs, .inl ⟨e, rfl⟩⟩, w⟩
    | false =>
      have m : mt t r = true := by simpa using t3.2
      obtain ⟨x, hx, xr⟩ := mt_iff.mp m
      refine ⟨once (s ++ [x]), cand_mem.mpr ⟨s, hs, .inr ⟨e, x, xr, rfl⟩⟩, wi_iff.mpr fun y hy => ?_⟩
      rcases List.mem_append.mp (once_mem.mp hy) with z | z
      · exact wi_iff.mp w y z
      · have z : y = x := by simpa using z
        rw [z]; exact hx
  · obtain ⟨s, hs, h1⟩ := cand_mem.mp hb
    obtain ⟨⟨s1, s2⟩, s3⟩ := (tr_mem hN).mp (least_sub rT hs)
    rcases h1 with ⟨m, rfl⟩ | ⟨_, x, xr, rfl⟩
    · refine ⟨b, (tr_mem hN).mpr ⟨⟨s1, s2⟩, ?_⟩, wi_self b⟩
      unfold mtAll at *
      rw [List.all_append, s3]
      simpa using m
    · refine ⟨_, (tr_mem hN).mpr ⟨⟨ris_once _, fun y hy => ?_⟩, ?_⟩, wi_self _⟩
      · rcases List.mem_append.mp (once_mem.mp hy) with z | z
        · exact s2 y z
        · have z : y = x := by simpa using z
          rw [z]; exact hr x xr
      · have m := mtAll_mono (wi_once (x := x)) s3
        unfold mtAll at *
        rw [List.all_append, m]
        have : mt (once (s ++ [x])) r = true := mt_iff.mpr ⟨x, once_mem.mpr (List.mem_append_right _ List.mem_cons_self), xr⟩
        simpa using this
theorem least_start {N : List Str} (hN : Ris N) : least (tr N []) = [[]] := by
  have e : least (tr N []) = least [[]] := least_ext (tr_ris hN) (fun x hx => by rw [List.mem_singleton.mp hx]; exact ris_nil) (fun a _ => ⟨[], List.mem_singleton.mpr rfl, rfl⟩) fun b hb => ⟨[], (tr_mem hN).mpr ⟨⟨ris_nil, fun _ z => absurd z List.not_mem_nil⟩, rfl⟩, rfl⟩
  rw [e]
  unfold least rkd
  rw [show ddG ([[]] : List (List Str)) = [[]] from rfl, List.mergeSort_singleton]
  rfl
/-- row by row, from the empty set on -/
def grown (rows : List (List Str)) : List (List Str) := rows.foldl (fun S r => least (cand S r)) [[]]
theorem grown_eq {N : List Str} (hN : Ris N) : ∀ rows : List (List Str), (∀ r ∈ rows, ∀ y ∈ r, y ∈ N) → grown rows = least (tr N rows) := by
  intro rows
  refine snoc_ind (p := fun rows => (∀ r ∈ rows, ∀ y ∈ r, y ∈ N) → grown rows = least (tr N rows)) (fun _ => (least_start hN).symm) (fun rows r ih => ?_) rows
  intro h
  have ih := ih fun r' hr' => h r' (List.mem_append_left _ hr')
  unfold grown at *
  rw [List.foldl_append]
  show least (cand (rows.foldl _ [[]]) r) = _
  rw [ih, berge hN (h r (List.mem_append_right _ List.mem_cons_self))]
end K1
namespace K1
open PySem PySem.Spec PyProof.Rows L2 Srx
/-- x is a least set of the rows -/
def Lst (rows : List (List Str)) (x : List Str) : Prop := Ris x ∧ mtAll x rows = true ∧ ∀ y, Ris y → mtAll y rows = true → wi y x = true → y = x
theorem mtAll_iff {x : List Str} {rows : List (List Str)} : mtAll x rows = true ↔ ∀ r ∈ rows, ∃ y ∈ x, y ∈ r := by
  unfold mtAll
  rw [List.all_eq_true]
  exact forall_congr' fun r => imp_congr_right fun _ => mt_iff
def allN (rows : List (List Str)) : List Str := once rows.flatten
theorem allN_mem {rows : List (List Str)} {r : List Str} {y : Str} (hr : r ∈ rows) (hy : y ∈ r) : y ∈ allN rows := once_mem.mpr (List.mem_flatten.mpr ⟨r, hr, hy⟩)
theorem ris_filter {x : List Str} (p : Str → Bool) (h : Ris x) : Ris (x.filter p) := ris_sub List.filter_sublist h
theorem wi_filter {x : List Str} (p : Str → Bool) : wi (x.filter p) x = true := wi_iff.mpr fun y hy => (List.mem_filter.mp hy).1
theorem grown_mem {rows : List (List Str)} {x : List Str} : x ∈ grown rows ↔ Lst rows x := by
  have hN : Ris (allN rows) := ris_once _
  rw [grown_eq hN rows fun r hr y hy => allN_mem hr hy, least_mem (tr_ris hN), tr_mem hN]
  constructor
  · rintro ⟨⟨⟨h1, h2⟩, h3⟩, h4⟩
    exact ⟨h1, h3, fun y y1 y2 w => h4 y ((tr_mem hN).mpr ⟨⟨y1, fun z hz => h2 z (wi_iff.mp w z hz)⟩, y2⟩) w⟩
  · rintro ⟨h1, h3, h4⟩
    refine ⟨⟨⟨h1, ?_⟩, h3⟩, fun y hy w => ?_⟩
    · have e := h4 (x.filter fun y => decide (y ∈ allN rows)) (ris_filter _ h1) (mtAll_iff.mpr fun r hr => by
        obtain ⟨y, y1, y2⟩ := mtAll_iff.mp h3 r hr
        exact ⟨y, List.mem_filter.mpr ⟨y1, decide_eq_true (allN_mem hr y2)⟩, y2⟩) (wi_filter _)
      intro y hy
      rw [← e] at hy
      exact of_decide_eq_true (List.mem_filter.mp hy).2
    · obtain ⟨⟨y1, y2⟩, y3⟩ := (tr_mem hN).mp hy
      exact h4 y y1 y3 w
theorem grown_nodup (rows : List (List Str)) : (grown rows).Nodup := by
  rw [grown_eq (ris_once _) rows fun r hr y hy => allN_mem hr hy]
  exact least_nodup _
theorem grown_sorted (rows : List (List Str)) : (grown rows).Pairwise (fun a b => leR a b = true) := by
  rw [grown_eq (ris_once _) rows fun r hr y hy => allN_mem hr hy]
  exact least_sorted _
theorem grown_ris (rows : List (List Str)) : RisAll (grown rows) := fun x hx => (grown_mem.mp hx).1
/-- told lists of sets are one where they hold the same -/
theorem grown_one {xs : List (List Str)} {rows : List (List Str)} (n : xs.Nodup) (s : xs.Pairwise (fun a b => leR a b = true)) (h : ∀ z, z ∈ xs ↔ Lst rows z) : xs = grown rows :=
  least_one n (grown_nodup rows) s (grown_sorted rows) fun z => (h z).trans grown_mem.symm
theorem lst_congr {rows rows' : List (List Str)} (h : ∀ x, mtAll x rows = mtAll x rows') {x : List Str} : Lst rows x ↔ Lst rows' x := by
  unfold Lst
  simp only [h]
theorem grown_congr {rows rows' : List (List Str)} (h : ∀ x, mtAll x rows = mtAll x rows') : grown rows = grown rows' :=
  least_one (grown_nodup _) (grown_nodup _) (grown_sorted _) (grown_sorted _) fun z => grown_mem.trans ((lst_congr h).trans grown_mem.symm)
theorem lst_below {rows : List (List Str)} {x : List Str} (hx : Ris x) (h : mtAll x rows = true) : ∃ m, Lst rows m ∧ wi m x = true := by
  have hN : Ris (once (x ++ rows.flatten)) := ris_once _
  have hr : ∀ r ∈ rows, ∀ y ∈ r, y ∈ once (x ++ rows.flatten) := fun r hr y hy => once_mem.mpr (List.mem_append_right _ (List.mem_flatten.mpr ⟨r, hr, hy⟩))
  obtain ⟨m, hm, w⟩ := least_below ((tr_mem (rows := rows) hN).mpr ⟨⟨hx, fun y hy => once_mem.mpr (List.mem_append_left _ hy)⟩, h⟩)
  rw [← grown_eq hN rows hr] at hm
  exact ⟨m, grown_mem.mp hm, w⟩
theorem lst_own {rows : List (List Str)} {x : List Str} : Lst rows x ↔ Ris x ∧ mtAll x rows = true ∧ ∀ y ∈ x, ∃ r ∈ rows, y ∈ r ∧ ∀ z ∈ x, z ∈ r → z = y := by
  constructor
  · rintro ⟨h1, h2, h3⟩
    refine ⟨h1, h2, fun y hy => Classical.byContradiction fun no => ?_⟩
    have e := h3 (x.filter fun z => decide (z ≠ y)) (ris_filter _ h1) (mtAll_iff.mpr fun r hr => ?_) (wi_filter _)
    · rw [← e] at hy
      exact of_decide_eq_true (List.mem_filter.mp hy).2 rfl
    · obtain ⟨z, z1, z2⟩ := mtAll_iff.mp h2 r hr
      by_cases ez : z = y
      · subst ez
        exact Classical.byContradiction fun no2 => no ⟨r, hr, z2, fun u u1 u2 => Classical.byContradiction fun ne => no2 ⟨u, List.mem_filter.mpr ⟨u1, decide_eq_true ne⟩, u2⟩⟩
      · exact ⟨z, List.mem_filter.mpr ⟨z1, decide_eq_true ez⟩, z2⟩
  · rintro ⟨h1, h2, h3⟩
    refine ⟨h1, h2, fun y y1 y2 w => wi_anti y1 h1 w (wi_iff.mpr fun u hu => ?_)⟩
    obtain ⟨r, hr, ur, own⟩ := h3 u hu
    obtain ⟨z, z1, z2⟩ := mtAll_iff.mp y2 r hr
    rw [← own z (wi_iff.mp w z z1) z2]
    exact z1
theorem risAll_once (rows : List (List Str)) : RisAll (rows.map once) := fun x hx => by
  obtain ⟨r, _, rfl⟩ := List.mem_map.mp hx
  exact ris_once r
theorem mtAll_once (x : List Str) (rows : List (List Str)) : mtAll x (rows.map once) = mtAll x rows := by
  rw [Bool.eq_iff_iff, mtAll_iff, mtAll_iff]
  constructor
  · intro h r hr
    obtain ⟨y, y1, y2⟩ := h (once r) (List.mem_map.mpr ⟨r, hr, rfl⟩)
    exact ⟨y, y1, once_mem.mp y2⟩
  · intro h r' hr'
    obtain ⟨r, hr, rfl⟩ := List.mem_map.mp hr'
    obtain ⟨y, y1, y2⟩ := h r hr
    exact ⟨y, y1, once_mem.mpr y2⟩
theorem mtAll_least (x : List Str) (rows : List (List Str)) : mtAll x (least (rows.map once)) = mtAll x rows := by
  rw [← mtAll_once x rows, Bool.eq_iff_iff, mtAll_iff, mtAll_iff]
  constructor
  · intro h r hr
    obtain ⟨m, hm, w⟩ := least_below hr
    obtain ⟨y, y1, y2⟩ := h m hm
    exact ⟨y, y1, wi_iff.mp w y y2⟩
  · exact fun h r hr => h r (least_sub (risAll_once rows) hr)
theorem grown_least_rows (rows : List (List Str)) : grown (least (rows.map once)) = grown rows := grown_congr fun x => mtAll_least x rows
/-- THERE AND BACK: the least sets of the book of the least sets are the least rows -/
theorem grown_grown (rows : List (List Str)) : grown (grown rows) = least (rows.map once) := by
  refine (grown_one (rows := grown rows) (least_nodup _) (least_sorted _) fun z => ?_).symm
  have rB := risAll_once rows
  have row_meets : ∀ r ∈ rows, mtAll (once r) (grown rows) = true := fun r hr => mtAll_iff.mpr fun s hs => by
    obtain ⟨y, y1, y2⟩ := mtAll_iff.mp (grown_mem.mp hs).2.1 r hr
    exact ⟨y, once_mem.mpr y2, y1⟩
  have below : ∀ t, Ris t → mtAll t (grown rows) = true → ∃ r ∈ rows, wi (once r) t = true := by
    intro t ht hm
    refine Classical.byContradiction fun no => ?_
    have hc : mtAll ((allN rows).filter fun y => !decide (y ∈ t)) rows = true := mtAll_iff.mpr fun r hr => Classical.byContradiction fun no2 => no ⟨r, hr, wi_iff.mpr fun y hy => Classical.byContradiction fun ny => no2 ⟨y, List.mem_filter.mpr ⟨allN_mem hr (once_mem.mp hy), by simp [ny]⟩, once_mem.mp hy⟩⟩
    obtain ⟨m, hm2, w⟩ := lst_below (ris_filter _ (ris_once _)) hc
    obtain ⟨y, y1, y2⟩ := mtAll_iff.mp hm m (grown_mem.mpr hm2)
    have := (List.mem_filter.mp (wi_iff.mp w y y2)).2
    simp [y1] at this
  rw [least_mem rB]
  constructor
  · rintro ⟨h1, h2⟩
    obtain ⟨r, hr, rfl⟩ := List.mem_map.mp h1
    refine ⟨ris_once r, row_meets r hr, fun y y1 y2 w => ?_⟩
    obtain ⟨r2, hr2, w2⟩ := below y y1 y2
    have e := h2 (once r2) (List.mem_map.mpr ⟨r2, hr2, rfl⟩) (wi_trans w2 w)
    rw [e] at w2
    exact wi_anti y1 (ris_once r) w w2
  · rintro ⟨h1, h2, h3⟩
    obtain ⟨r, hr, w⟩ := below z h1 h2
    have e := h3 (once r) (ris_once r) (row_meets r hr) w
    refine ⟨List.mem_map.mpr ⟨r, hr, e⟩, fun y hy w2 => ?_⟩
    obtain ⟨r2, hr2, rfl⟩ := List.mem_map.mp hy
    exact h3 (once r2) (ris_once r2) (row_meets r2 hr2) w2
def strike (n : Str) (rows : List (List Str)) : List (List Str) := rows.map fun r => r.filter fun y => decide (y ≠ n)
def away (n : Str) (rows : List (List Str)) : List (List Str) := rows.filter fun r => !r.contains n
theorem away_mem {n : Str} {rows : List (List Str)} {r : List Str} : r ∈ away n rows ↔ r ∈ rows ∧ n ∉ r := by
  unfold away
  rw [List.mem_filter]
  refine and_congr_right fun _ => ?_
  rw [Bool.not_eq_true', ← Bool.not_eq_true, List.contains_iff_mem]
theorem mtAll_strike {n : Str} {rows : List (List Str)} {x : List Str} (hn : n ∉ x) : mtAll x (strike n rows) = mtAll x rows := by
  unfold strike
  rw [Bool.eq_iff_iff, mtAll_iff, mtAll_iff]
  constructor
  · intro h r hr
    obtain ⟨y, y1, y2⟩ := h _ (List.mem_map.mpr ⟨r, hr, rfl⟩)
    exact ⟨y, y1, (List.mem_filter.mp y2).1⟩
  · intro h r' hr'
    obtain ⟨r, hr, rfl⟩ := List.mem_map.mp hr'
    obtain ⟨y, y1, y2⟩ := h r hr
    exact ⟨y, y1, List.mem_filter.mpr ⟨y2, decide_eq_true fun e => hn (e ▸ y1)⟩⟩
theorem lst_strike {n : Str} {rows : List (List Str)} {x : List Str} : Lst (strike n rows) x ↔ Lst rows x ∧ n ∉ x := by
  constructor
  · intro h
    have hn : n ∉ x := fun hx => by
      obtain ⟨r', hr', h1, _⟩ := (lst_own.mp h).2.2 n hx
      obtain ⟨r, hr, rfl⟩ := List.mem_map.mp hr'
      exact of_decide_eq_true (List.mem_filter.mp h1).2 rfl
    obtain ⟨h1, h2, h3⟩ := h
    refine ⟨⟨h1, (mtAll_strike hn).symm.trans h2, fun y y1 y2 w => h3 y y1 ?_ w⟩, hn⟩
    rw [mtAll_strike fun hy => hn (wi_iff.mp w n hy)]
    exact y2
  · rintro ⟨⟨h1, h2, h3⟩, hn⟩
    refine ⟨h1, (mtAll_strike hn).trans h2, fun y y1 y2 w => h3 y y1 ?_ w⟩
    rw [← mtAll_strike fun hy => hn (wi_iff.mp w n hy)]
    exact y2
theorem lst_with {n : Str} {rows : List (List Str)} {x : List Str} : Lst rows x ∧ n ∈ x ↔ ∃ s, Lst (away n rows) s ∧ mtAll s rows = false ∧ x = once (s ++ [n]) := by
  constructor
  · rintro ⟨h, hn⟩
    obtain ⟨h1, h2, h3⟩ := lst_own.mp h
    have ms : ∀ z, z ∈ x.filter (fun z => decide (z ≠ n)) ↔ z ∈ x ∧ z ≠ n := fun z => by
      rw [List.mem_filter, decide_eq_true_iff]
    refine ⟨x.filter fun z => decide (z ≠ n), lst_own.mpr ⟨ris_filter _ h1, mtAll_iff.mpr fun r hr => ?_, fun y hy => ?_⟩, ?_, ?_⟩
    · obtain ⟨r1, r2⟩ := away_mem.mp hr
      obtain ⟨z, z1, z2⟩ := mtAll_iff.mp h2 r r1
      exact ⟨z, (ms z).mpr ⟨z1, fun e => r2 (e ▸ z2)⟩, z2⟩
    · obtain ⟨y1, y2⟩ := (ms y).mp hy
      obtain ⟨r, r1, r2, own⟩ := h3 y y1
      exact ⟨r, away_mem.mpr ⟨r1, fun z => y2 (own n hn z).symm⟩, r2, fun z hz => own z ((ms z).mp hz).1⟩
    · obtain ⟨r, r1, r2, own⟩ := h3 n hn
      refine Bool.eq_false_iff.mpr fun z => ?_
      obtain ⟨u, u1, u2⟩ := mtAll_iff.mp z r r1
      exact ((ms u).mp u1).2 (own u ((ms u).mp u1).1 u2)
    · refine wi_anti h1 (ris_once _) (wi_iff.mpr fun y hy => once_mem.mpr ?_) (wi_iff.mpr fun y hy => ?_)
      · by_cases e : y = n
        · exact List.mem_append_right _ (by rw [e]; exact List.mem_cons_self)
        · exact List.mem_append_left _ ((ms y).mpr ⟨hy, e⟩)
      · rcases List.mem_append.mp (once_mem.mp hy) with z | z
        · exact ((ms y).mp z).1
        · rw [List.mem_singleton.mp z]; exact hn
  · rintro ⟨s, h, bad, rfl⟩
    obtain ⟨h1, h2, h3⟩ := lst_own.mp h
    have mo : ∀ z, z ∈ once (s ++ [n]) ↔ z ∈ s ∨ z = n := fun z => by
      rw [once_mem, List.mem_append, List.mem_singleton]
    refine ⟨lst_own.mpr ⟨ris_once _, mtAll_iff.mpr fun r hr => ?_, fun y hy => ?_⟩, (mo n).mpr (.inr rfl)⟩
    · by_cases hn : n ∈ r
      · exact ⟨n, (mo n).mpr (.inr rfl), hn⟩
      · obtain ⟨y, y1, y2⟩ := mtAll_iff.mp h2 r (away_mem.mpr ⟨hr, hn⟩)
        exact ⟨y, (mo y).mpr (.inl y1), y2⟩
    · rcases (mo y).mp hy with hs | rfl
      · obtain ⟨r, r1, r2, own⟩ := h3 y hs
        obtain ⟨r3, r4⟩ := away_mem.mp r1
        refine ⟨r, r3, r2, fun z hz zr => ?_⟩
        rcases (mo z).mp hz with k | k
        · exact own z k zr
        · exact absurd (k ▸ zr) r4
      · have ex : ∃ r ∈ rows, ¬ ∃ z ∈ s, z ∈ r := Classical.byContradiction fun no => by
          have : mtAll s rows = true := mtAll_iff.mpr fun r hr => Classical.byContradiction fun k => no ⟨r, hr, k⟩
          rw [this] at bad
          cases bad
        obtain ⟨r, hr, none_⟩ := ex
        refine ⟨r, hr, Classical.byContradiction fun ny => none_ ?_, fun z hz zr => ?_⟩
        · obtain ⟨z, z1, z2⟩ := mtAll_iff.mp h2 r (away_mem.mpr ⟨hr, ny⟩)
          exact ⟨z, z1, z2⟩
        · rcases (mo z).mp hz with k | k
          · exact absurd ⟨z, k, zr⟩ none_
          · exact k
end K1
namespace K1
open PySem PySem.Spec PyProof.Rows L2 Srx
/-- sets that meet all, one of them below each that does: their least ones are the least sets -/
theorem least_grown {B rows : List (List Str)} (hB : RisAll B) (all : ∀ b ∈ B, mtAll b rows = true) (below : ∀ x, Ris x → mtAll x rows = true → ∃ b ∈ B, wi b x = true) : least B = grown rows := by
  refine grown_one (least_nodup _) (least_sorted _) fun z => ?_
  rw [least_mem hB]
  constructor
  · rintro ⟨h1, h2⟩
    refine ⟨hB z h1, all z h1, fun y y1 y2 w => ?_⟩
    obtain ⟨b, hb, wb⟩ := below y y1 y2
    have e := h2 b hb (wi_trans wb w)
    rw [e] at wb
    exact wi_anti y1 (hB z h1) w wb
  · rintro ⟨h1, h2, h3⟩
    obtain ⟨b, hb, wb⟩ := below z h1 h2
    have e := h3 b (hB b hb) (all b hb) wb
    subst e
    exact ⟨hb, fun y hy w => h3 y (hB y hy) (all y hy) w⟩
def unions (A B : List (List Str)) : List (List Str) := A.flatMap fun a => B.map fun b => once (a ++ b)
theorem unions_mem {A B : List (List Str)} {z : List Str} : z ∈ unions A B ↔ ∃ a ∈ A, ∃ b ∈ B, z = once (a ++ b) := by
  unfold unions
  rw [List.mem_flatMap]
  refine exists_congr fun a => and_congr_right fun _ => ?_
  rw [List.mem_map]
  exact exists_congr fun b => and_congr_right fun _ => eq_comm
theorem mtAll_append (x : List Str) (A B : List (List Str)) : mtAll x (A ++ B) = (mtAll x A && mtAll x B) := by
  unfold mtAll
  rw [List.all_append]
theorem joined_eq (A B : List (List Str)) : least (unions (grown A) (grown B)) = grown (A ++ B) := by
  refine least_grown (fun z hz => ?_) (fun z hz => ?_) fun x x1 x2 => ?_
  · obtain ⟨a, _, b, _, rfl⟩ := unions_mem.mp hz
    exact ris_once _
  · obtain ⟨a, ha, b, hb, rfl⟩ := unions_mem.mp hz
    rw [mtAll_append, Bool.and_eq_true]
    exact ⟨mtAll_mono (wi_iff.mpr fun y hy => once_mem.mpr (List.mem_append_left _ hy)) (grown_mem.mp ha).2.1, mtAll_mono (wi_iff.mpr fun y hy => once_mem.mpr (List.mem_append_right _ hy)) (grown_mem.mp hb).2.1⟩
  · rw [mtAll_append, Bool.and_eq_true] at x2
    obtain ⟨a, ha, wa⟩ := lst_below x1 x2.1
    obtain ⟨b, hb, wb⟩ := lst_below x1 x2.2
    refine ⟨_, unions_mem.mpr ⟨a, grown_mem.mpr ha, b, grown_mem.mpr hb, rfl⟩, wi_iff.mpr fun y hy => ?_⟩
    rcases List.mem_append.mp (once_mem.mp hy) with z | z
    · exact wi_iff.mp wa y z
    · exact wi_iff.mp wb y z
theorem crossed_eq (A B : List (List Str)) : least (grown A ++ grown B) = grown (unions A B) := by
  refine least_grown (fun z hz => (List.mem_append.mp hz).elim (grown_ris A z) (grown_ris B z)) (fun z hz => mtAll_iff.mpr fun r hr => ?_) fun x x1 x2 => ?_
  · obtain ⟨a, ha, b, hb, rfl⟩ := unions_mem.mp hr
    rcases List.mem_append.mp hz with h | h
    · obtain ⟨y, y1, y2⟩ := mtAll_iff.mp (grown_mem.mp h).2.1 a ha
      exact ⟨y, y1, once_mem.mpr (List.mem_append_left _ y2)⟩
    · obtain ⟨y, y1, y2⟩ := mtAll_iff.mp (grown_mem.mp h).2.1 b hb
      exact ⟨y, y1, once_mem.mpr (List.mem_append_right _ y2)⟩
  · by_cases hA : mtAll x A = true
    · obtain ⟨a, ha, wa⟩ := lst_below x1 hA
      exact ⟨a, List.mem_append_left _ (grown_mem.mpr ha), wa⟩
    · by_cases hB : mtAll x B = true
      · obtain ⟨b, hb, wb⟩ := lst_below x1 hB
        exact ⟨b, List.mem_append_right _ (grown_mem.mpr hb), wb⟩
      · refine absurd (mtAll_iff.mpr fun a ha => Classical.byContradiction fun na => hB (mtAll_iff.mpr fun b hb => ?_)) hA
        obtain ⟨y, y1, y2⟩ := mtAll_iff.mp x2 _ (unions_mem.mpr ⟨a, ha, b, hb, rfl⟩)
        rcases List.mem_append.mp (once_mem.mp y2) with z | z
        · exact absurd ⟨y, y1, z⟩ na
        · exact ⟨y, y1, z⟩
theorem lst_ex {rows : List (List Str)} : (∃ x, Lst rows x) ↔ [] ∉ rows := by
  constructor
  · rintro ⟨x, _, h, _⟩ he
    obtain ⟨y, _, y2⟩ := mtAll_iff.mp h [] he
    exact absurd y2 List.not_mem_nil
  · intro h
    obtain ⟨m, hm, _⟩ := lst_below (rows := rows) (ris_once rows.flatten) (mtAll_iff.mpr fun r hr => by
      cases r with
      | nil => exact absurd hr h
      | cons y r => exact ⟨y, allN_mem hr List.mem_cons_self, List.mem_cons_self⟩)
    exact ⟨m, hm⟩
theorem needed_iff {rows : List (List Str)} {y : Str} : ((∃ x, Lst rows x) ∧ ∀ x, Lst rows x → y ∈ x) ↔ [] ∉ rows ∧ ∃ r ∈ rows, ∀ z ∈ r, z = y := by
  constructor
  · rintro ⟨h1, h2⟩
    have h0 := lst_ex.mp h1
    refine ⟨h0, Classical.byContradiction fun no => ?_⟩
    have hc : mtAll ((allN rows).filter fun z => decide (z ≠ y)) rows = true := mtAll_iff.mpr fun r hr => Classical.byContradiction fun k => no ⟨r, hr, fun z hz => Classical.byContradiction fun ne => k ⟨z, List.mem_filter.mpr ⟨allN_mem hr hz, decide_eq_true ne⟩, hz⟩⟩
    obtain ⟨m, hm, w⟩ := lst_below (ris_filter _ (ris_once _)) hc
    exact of_decide_eq_true (List.mem_filter.mp (wi_iff.mp w y (h2 m hm))).2 rfl
  · rintro ⟨h0, r, hr, hy⟩
    refine ⟨lst_ex.mpr h0, fun x h => ?_⟩
    obtain ⟨z, z1, z2⟩ := mtAll_iff.mp h.2.1 r hr
    rw [← hy z z2]
    exact z1
/-- a name stands in a least set just where it stands in a least row -/
theorem used_iff {rows : List (List Str)} {y : Str} : (∃ x, Lst rows x ∧ y ∈ x) ↔ ∃ r ∈ least (rows.map once), y ∈ r := by
  constructor
  · rintro ⟨x, h, hy⟩
    obtain ⟨r, hr, yr, own⟩ := (lst_own.mp h).2.2 y hy
    obtain ⟨m, hm, w⟩ := least_below (List.mem_map.mpr ⟨r, hr, rfl⟩ : once r ∈ rows.map once)
    obtain ⟨z, z1, z2⟩ := mtAll_iff.mp ((mtAll_least x rows).trans h.2.1) m hm
    have e := own z z1 (once_mem.mp (wi_iff.mp w z z2))
    exact ⟨m, hm, e ▸ z2⟩
  · rintro ⟨r, hr, hy⟩
    rw [← grown_grown] at hr
    obtain ⟨s, hs, ys, _⟩ := (lst_own.mp (grown_mem.mp hr)).2.2 y hy
    exact ⟨s, grown_mem.mp hs, ys⟩
theorem find_first {α : Type} {p : α → Bool} {le : α → α → Prop} : ∀ {l : List α}, l.Pairwise le → ∀ {f : α}, l.find? p = some f → f ∈ l ∧ p f = true ∧ ∀ y ∈ l, p y = true → y = f ∨ le f y
  | [], _, f, h => by cases h
  | a :: l, hp, f, h => by
    obtain ⟨h1, h2⟩ := List.pairwise_cons.mp hp
    rw [List.find?_cons] at h
    cases e : p a with
    | true =>
      rw [e] at h
      cases h
      exact ⟨List.mem_cons_self, e, fun y hy _ => (List.mem_cons.mp hy).imp id (h1 y)⟩
    | false =>
      rw [e] at h
      obtain ⟨k1, k2, k3⟩ := find_first h2 h
      refine ⟨List.mem_cons_of_mem _ k1, k2, fun y hy py => ?_⟩
      rcases List.mem_cons.mp hy with z | z
      · rw [z, e] at py
        cases py
      · exact k3 y z py
theorem leR_refl (a : List Str) : leR a a = true := by
  have := leR_total a a
  simpa using this
/-- the first, by rank, of all sets of N's names that meet all rows: the first least set -/
theorem first_eq {N : List Str} {rows : List (List Str)} (hN : Ris N) (hr : ∀ r ∈ rows, ∀ y ∈ r, y ∈ N) : (rkd (box N)).find? (fun s => mtAll s rows) = (grown rows).head? := by
  rw [grown_eq hN rows hr]
  have mem : ∀ x, x ∈ rkd (box N) ↔ Ris x ∧ ∀ y ∈ x, y ∈ N := fun x => by rw [(rkd_perm _).mem_iff, box_mem hN]
  cases e : (rkd (box N)).find? (fun s => mtAll s rows) with
  | none =>
    have no := List.find?_eq_none.mp e
    cases e2 : least (tr N rows) with
    | nil => rfl
    | cons x l =>
      have hx : x ∈ least (tr N rows) := by rw [e2]; exact List.mem_cons_self
      obtain ⟨k1, k2⟩ := (tr_mem hN).mp (least_sub (tr_ris hN) hx)
      exact absurd k2 (no x ((mem x).mpr k1))
  | some f =>
    obtain ⟨h1, h2, h3⟩ := find_first (rkd_sorted _) e
    obtain ⟨f1, f2⟩ := (mem f).mp h1
    have fT : f ∈ tr N rows := (tr_mem hN).mpr ⟨⟨f1, f2⟩, h2⟩
    have first : ∀ y ∈ tr N rows, leR f y = true := fun y hy => by
      obtain ⟨k1, k2⟩ := (tr_mem hN).mp hy
      rcases h3 y ((mem y).mpr k1) k2 with z | z
      · rw [z]; exact leR_refl f
      · exact z
    have fL : f ∈ least (tr N rows) := (least_mem (tr_ris hN)).mpr ⟨fT, fun y hy w => wi_eq (tr_ris hN y hy) f1 w (leR_len (first y hy))⟩
    cases e2 : least (tr N rows) with
    | nil => rw [e2] at fL; exact absurd fL List.not_mem_nil
    | cons x l =>
      have hx : x ∈ least (tr N rows) := by rw [e2]; exact List.mem_cons_self
      have s := least_sorted (tr N rows)
      rw [e2] at s fL
      have a1 : leR f x = true := first x (least_sub (tr_ris hN) hx)
      have a2 : leR x f = true := by
        rcases List.mem_cons.mp fL with z | z
        · rw [z]; exact leR_refl x
        · exact (List.pairwise_cons.mp s).1 f z
      rw [leR_anti a1 a2]
      rfl
def pareStep (rows : List (List Str)) (left : List Str) (n : Str) : List Str := if mtAll (left.filter fun y => decide (y ≠ n)) rows = true then left.filter fun y => decide (y ≠ n) else left
def pared (rows : List (List Str)) (x : List Str) : List Str := x.reverse.foldl (pareStep rows) x
theorem pare_inv {rows : List (List Str)} : ∀ (ns left done : List Str), Ris left → mtAll left rows = true → (∀ p ∈ done, p ∈ left → mtAll (left.filter fun y => decide (y ≠ p)) rows = false) →
    Ris (ns.foldl (pareStep rows) left) ∧ mtAll (ns.foldl (pareStep rows) left) rows = true ∧ (∀ y ∈ ns.foldl (pareStep rows) left, y ∈ left) ∧ ∀ p, (p ∈ done ∨ p ∈ ns) → p ∈ ns.foldl (pareStep rows) left → mtAll ((ns.foldl (pareStep rows) left).filter fun y => decide (y ≠ p)) rows = false
  | [], left, done, h1, h2, h3 => ⟨h1, h2, fun y hy => hy, fun p hp => h3 p (hp.resolve_right List.not_mem_nil)⟩
  | n :: ns, left, done, h1, h2, h3 => by
    rw [List.foldl_cons]
    have key : ∀ left', left' = pareStep rows left n → Ris left' ∧ mtAll left' rows = true ∧ (∀ y ∈ left', y ∈ left) ∧ ∀ p ∈ n :: done, p ∈ left' → mtAll (left'.filter fun y => decide (y ≠ p)) rows = false := by
      intro left' e
      unfold pareStep at e
      by_cases c : mtAll (left.filter fun y => decide (y ≠ n)) rows = true
      · rw [if_pos c] at e
        subst e
        refine ⟨ris_filter _ h1, c, fun y hy => (List.mem_filter.mp hy).1, fun p hp hpl => ?_⟩
        obtain ⟨p1, p2⟩ := List.mem_filter.mp hpl
        have pn : p ≠ n := of_decide_eq_true p2
        have pd : p ∈ done := (List.mem_cons.mp hp).resolve_left pn
        refine Bool.eq_false_iff.mpr fun z => ?_
        have z2 : mtAll (left.filter fun y => decide (y ≠ p)) rows = true := mtAll_mono (wi_iff.mpr fun y hy => by
          obtain ⟨y1, y2⟩ := List.mem_filter.mp hy
          exact List.mem_filter.mpr ⟨(List.mem_filter.mp y1).1, y2⟩) z
        rw [h3 p pd p1] at z2
        cases z2
      · rw [if_neg c] at e
        subst e
        refine ⟨h1, h2, fun y hy => hy, fun p hp hpl => ?_⟩
        rcases List.mem_cons.mp hp with z | z
        · rw [z]; exact Bool.eq_false_iff.mpr c
        · exact h3 p z hpl
    obtain ⟨k1, k2, k3, k4⟩ := key _ rfl
    obtain ⟨j1, j2, j3, j4⟩ := pare_inv ns (pareStep rows left n) (n :: done) k1 k2 k4
    refine ⟨j1, j2, fun y hy => k3 y (j3 y hy), fun p hp => j4 p ?_⟩
    rcases hp with hp | hp
    · exact .inl (List.mem_cons_of_mem _ hp)
    · rcases List.mem_cons.mp hp with z | z
      · exact .inl (by rw [z]; exact List.mem_cons_self)
      · exact .inr z
theorem pared_lst {rows : List (List Str)} {x : List Str} (h1 : Ris x) (h2 : mtAll x rows = true) : Lst rows (pared rows x) ∧ ∀ y ∈ pared rows x, y ∈ x := by
  obtain ⟨k1, k2, k3, k4⟩ := pare_inv (rows := rows) x.reverse x [] h1 h2 fun p hp => absurd hp List.not_mem_nil
  refine ⟨⟨k1, k2, fun y y1 y2 w => ?_⟩, k3⟩
  refine wi_anti y1 k1 w (wi_iff.mpr fun u hu => Classical.byContradiction fun nu => ?_)
  have z := k4 u (.inr (List.mem_reverse.mpr (k3 u hu))) hu
  have z2 : mtAll ((x.reverse.foldl (pareStep rows) x).filter fun y => decide (y ≠ u)) rows = true := mtAll_mono (wi_iff.mpr fun v hv => List.mem_filter.mpr ⟨wi_iff.mp w v hv, decide_eq_true fun e => nu (e ▸ hv)⟩) y2
  rw [z] at z2
  cases z2
theorem pared_id {rows : List (List Str)} {x : List Str} (h : Lst rows x) : pared rows x = x := by
  obtain ⟨p1, p2⟩ := pared_lst h.1 h.2.1
  exact h.2.2 _ p1.1 p1.2.1 (wi_iff.mpr p2)
theorem pared_iff {rows : List (List Str)} {x : List Str} (h1 : Ris x) (h2 : mtAll x rows = true) : pared rows x = x ↔ Lst rows x := ⟨fun e => e ▸ (pared_lst h1 h2).1, pared_id⟩
end K1
namespace K1
open PySem PySem.Spec PyProof.Rows L2 Gr GxR Srx Skx Dcx
/-- for one in G: if [other for other in found if within(other, one)] == []: found.append(one) -/
theorem keep_loop {K : PySem.W.Frag} {G B : Addr} {gs : List (Addr × List Str)} {H3 H4 : Hp} {σ : L2.St} {D : Ends} {j jo jf : Nat}
    (hG : H4 G = some (.lst (gs.map fun q => V.ref q.1))) (nGB : G ≠ B) (gown : ∀ q ∈ gs, H3 q.1 = some (.lst (q.2.map V.str)) ∧ Nms q.2) (gl : gs.length ≤ 5000) (nB : H3 B = none) (gB0 : Gr H3 H4) (eB0 : H4 B = some (.lst []))
    (hj : j < σ.length) (hjo : jo < σ.length) (hf : σ[jf]? = some (some (.ref B))) (n1 : jf ≠ j) (n2 : jo ≠ j) (n3 : jo ≠ jf)
    (hd : ∀ (v : Option V) (H5 : Hp) (kps : List (Addr × List Str)), Gr H3 H5 → H5 B = some (.lst (kps.map fun q => V.ref q.1)) → List.Sublist kps gs → kps.map (·.2) = (gs.map (·.2)).foldl keep [] → D.nx (σ.set j v) H5) :
    ∃ W : Nat → Nat → L2.St → Hp → Prop, (∃ m, W 0 m σ H4) ∧ ∀ i m' σ H, W i m' σ H →
      ((Itl K G).stop i H ∧ D.nx σ H) ∨ ((Itl K G).go i H ∧ ∃ N : L2.St → Hp → Prop, (∀ σ' H', N σ' H' → ∃ m2, m2 < m' ∧ W (i + 1) m2 σ' H') ∧ ∀ x H', (Itl K G).yld i H x H' → gName j x σ H' fun σ2 H2 =>
        tIfS (tTest (tOp (rEqD K) (tLc (iList K (tVar jf)) (gName jo) (tB (tCall (spLWithin K) [] E0 (tCons (tVar jo) (tCons (tVar j) tNil)))) (tVar jo) [jo]) (tLst tNil))) (tDrop (tBM K "list" rAppend (tVar jf) (tCons (tVar j) tNil))) tNext { D with nx := N, ct := N, bk := D.nx } σ2 H2) := by
  have big : ∀ n : Nat, n ≤ 5000 → n < sizeLine := fun n hn => by rw [sizeLine_eq]; omega
  refine for_list (K := K) (xs := gs.map fun q : Addr × List Str => V.ref q.1) (fun i σ' H5 => Gr H3 H5 ∧ H5 G = some (.lst (gs.map fun q => V.ref q.1)) ∧ ∃ (kps : List (Addr × List Str)), H5 B = some (.lst (kps.map fun q => V.ref q.1)) ∧ List.Sublist kps (gs.take i) ∧ kps.map (·.2) = ((gs.take i).map (·.2)).foldl keep [] ∧ ∃ v, σ' = σ.set j v) ⟨gB0, hG, [], eB0, List.Sublist.refl _, rfl, σ[j], (List.set_getElem_self ..).symm⟩ (fun i σ' H5 _ h => .inl (.inl h.2.1)) (fun i x σ' H5 hx h => ?_) (fun σ' H5 h => ?_)
  · obtain ⟨g5, eG, kps, eB, sub, km, v, rfl⟩ := h
    obtain ⟨q0, hq0, rfl⟩ := get_map hx
    have m0 := List.mem_of_getElem? hq0
    have hi : i < gs.length := (List.getElem?_eq_some_iff.mp hq0).1
    have kl : kps.length ≤ 5000 := by
      have h1 := sub.length_le
      rw [List.length_take] at h1
      omega
    have ksub : ∀ q ∈ kps, q ∈ gs := fun q hq => List.mem_of_mem_take (sub.subset hq)
    show tIfS _ _ _ _ ((σ.set j v).set j (some (.ref q0.1))) H5
    rw [List.set_set]
    have sf : (σ.set j (some (V.ref q0.1)))[jf]? = some (some (.ref B)) := by rw [List.getElem?_set_ne (Ne.symm n1)]; exact hf
    have sj : (σ.set j (some (V.ref q0.1)))[j]? = some (some (.ref q0.1)) := by rw [List.getElem?_set_self hj]
    have sl : jo < (σ.set j (some (V.ref q0.1))).length := by rw [List.length_set]; exact hjo
    generalize hτ : σ.set j (some (V.ref q0.1)) = τ at sf sj sl
    have lo : ∀ z : Option V, ((τ.set jo none).set jo z)[jo]? = some z := fun z => by rw [List.getElem?_set_self (by rw [List.length_set]; exact sl)]
    have lj : ∀ z : Option V, ((τ.set jo none).set jo z)[j]? = some (some (.ref q0.1)) := fun z => by rw [List.getElem?_set_ne n2, List.getElem?_set_ne n2]; exact sj
    refine ⟨.ref B, sf, B, rfl, ⟨_, .inl (.inl eB)⟩, fun D5 nD5 => lc_list (K := K) (xs := kps.map fun q : Addr × List Str => V.ref q.1) (fun k H6 => Gr H5 H6 ∧ H6 D5 = some (.lst (((kps.take k).filter fun q => wi q.2 q0.2).map fun q => V.ref q.1))) ⟨Gr.new nD5, upd_same⟩ (fun k H6 _ h => .inl (.inl (h.1.lst eB))) (fun k x H6 hx h => ?_) (fun H6 h => ?_)⟩
    · obtain ⟨g6, eD5⟩ := h
      obtain ⟨k0, hk0, rfl⟩ := get_map hx
      have hk : k < kps.length := (List.getElem?_eq_some_iff.mp hk0).1
      have g36 := g5.trans g6
      refine ⟨?_, ?_⟩
      · show ((τ.set jo none).set jo _).set jo none = τ.set jo none
        rw [List.set_set, List.set_set]
      refine ⟨.ref k0.1, lo _, .ref q0.1, lj _, k0.1, q0.1, k0.2, q0.2, rfl, .inl (.inl (g36.lst (gown k0 (ksub k0 (List.mem_of_getElem? hk0))).1)), .inl (.inl (g36.lst (gown q0 m0).1)), _, rfl, ?_⟩
      have tk : (kps.take (k + 1)).filter (fun q => wi q.2 q0.2) = (kps.take k).filter (fun q => wi q.2 q0.2) ++ (if wi k0.2 q0.2 = true then [k0] else []) := by
        rw [List.take_add_one, hk0, List.filter_append]
        congr 1
        show List.filter _ [k0] = _
        rw [List.filter_cons]
        rfl
      cases e : wi k0.2 q0.2 with
      | true =>
        rw [show k0.2.all q0.2.contains = true from e]
        refine iteT ⟨.ref k0.1, lo _, _, eD5, ?_, g6.mut nD5, ?_⟩
        · rw [List.length_map]
          refine Nat.lt_of_le_of_lt (List.length_filter_le _ _) ?_
          rw [List.length_take]
          exact big _ (by omega)
        · rw [upd_same, tk, e, List.map_append]
          rfl
      | false =>
        rw [show k0.2.all q0.2.contains = false from e]
        refine iteF ⟨g6, ?_⟩
        rw [tk, e]
        simp only [Bool.false_eq_true, if_false, List.append_nil]
        exact eD5
    · obtain ⟨g6, eD5⟩ := h
      rw [List.length_map, List.take_length] at eD5
      refine ⟨Nat.zero_le _, fun E6 nE6 => ?_⟩
      have g7 : Gr H6 (upd H6 E6 (.lst [])) := Gr.new nE6
      have eE6 : (upd H6 E6 (.lst [])) E6 = some (.lst []) := upd_same
      generalize upd H6 E6 (.lst []) = H7 at g7 eE6
      have g37 := (g5.trans g6).trans g7
      have g57 := g6.trans g7
      have fsub : ∀ q ∈ kps.filter (fun q => wi q.2 q0.2), q ∈ gs := fun q hq => ksub q (List.mem_filter.mp hq).1
      refine ⟨dSS ((kps.filter fun q => wi q.2 q0.2).map (·.2)), dSS (([] : List (Addr × List Str)).map (·.2)), dp_dSS (.inl (.inl (g7.lst eD5))) (fun q hq => .inl (.inl (g37.lst (gown q (fsub q hq)).1))), dp_dSS (.inl (.inl eE6)) (fun q hq => absurd hq List.not_mem_nil), shaped_dSS (fun xs hx => ?_), shaped_dSS (fun xs hx => absurd hx List.not_mem_nil), _, rfl, ?_⟩
      · obtain ⟨q, hq, rfl⟩ := List.mem_map.mp hx
        exact (gown q (fsub q hq)).2
      · rw [eqv_dSS]
        have anyeq : (kps.map (·.2)).any (fun l => wi l q0.2) = kps.any (fun q => wi q.2 q0.2) := by
          rw [List.any_map]
          rfl
        by_cases hany : kps.any (fun q => wi q.2 q0.2) = true
        · have ne1 : ¬ ((kps.filter fun q => wi q.2 q0.2).map (·.2) = ([] : List (Addr × List Str)).map (·.2)) := by
            intro z
            obtain ⟨k0, mk, wk⟩ := List.any_eq_true.mp hany
            have z : (kps.filter fun q => wi q.2 q0.2) = [] := List.map_eq_nil_iff.mp z
            have mf : k0 ∈ kps.filter (fun q => wi q.2 q0.2) := List.mem_filter.mpr ⟨mk, wk⟩
            rw [z] at mf
            exact absurd mf List.not_mem_nil
          rw [decide_eq_false ne1]
          refine iteF ⟨g37, g57.lst eG, kps, g57.lst eB, sub.trans (List.take_sublist_take_left (Nat.le_succ _)), ?_, _, hτ.symm⟩
          rw [take_map hq0, List.foldl_append, ← km]
          exact (if_pos (anyeq.trans hany)).symm
        · have e1 : ((kps.filter fun q => wi q.2 q0.2).map (·.2) = ([] : List (Addr × List Str)).map (·.2)) := by
            have fe : kps.filter (fun q => wi q.2 q0.2) = [] := List.filter_eq_nil_iff.mpr fun q hq z => hany (List.any_eq_true.mpr ⟨q, hq, z⟩)
            rw [fe]
          rw [decide_eq_true e1]
          have eB7 := g57.lst eB
          refine iteT ⟨.ref B, sf, .inl ⟨rfl, _, .inl (.inl eB7)⟩, .ref q0.1, sj, B, _, _, rfl, rfl, eB7, ?_, ?_⟩
          · rw [List.length_map]
            exact big _ (by omega)
          · refine ⟨g37.mut nB, by rw [upd_ne nGB]; exact g57.lst eG, kps ++ [q0], ?_, ?_, ?_, _, hτ.symm⟩
            · rw [upd_same, List.map_append]
              rfl
            · rw [List.take_add_one, hq0]
              exact sub.append (List.Sublist.refl _)
            · rw [take_map hq0, List.foldl_append, List.map_append, ← km]
              exact (if_neg (fun z => hany (anyeq.symm.trans z))).symm
  · obtain ⟨g5, eG, kps, eB, sub, km, v, rfl⟩ := h
    rw [List.length_map, List.take_length] at sub km
    exact hd v H5 kps g5 eB sub km
end K1
namespace K1
open PySem PySem.Spec PyProof.Rows L2 Gr GxR Srx Skx Dcx
theorem dpAll_snoc {K : PySem.W.Frag} {H : Hp} : ∀ {vs : List V} {ds : List PyData} {v : V} {d : PyData}, DpAll K H vs ds → Dp K H v d → DpAll K H (vs ++ [v]) (ds ++ [d])
  | _, _, _, _, .nil, h => .cons h .nil
  | _, _, _, _, .cons r t, h => .cons r (dpAll_snoc t h)
theorem dpAll_len {K : PySem.W.Frag} {H : Hp} : ∀ {vs : List V} {ds : List PyData}, DpAll K H vs ds → vs.length = ds.length
  | _, _, .nil => rfl
  | _, _, .cons _ t => congrArg Nat.succ (dpAll_len t)
/-- a heap but for one object -/
def mask (D : Addr) (H : Hp) : Hp := fun b => if b = D then none else H b
theorem mask_at {D b : Addr} {H : Hp} (h : b ≠ D) : mask D H b = H b := if_neg h
theorem mask_self (D : Addr) (H : Hp) : mask D H D = none := if_pos rfl
theorem mask_upd (D : Addr) (H : Hp) (o : HO) : mask D (upd H D o) = mask D H := by
  funext b
  by_cases h : b = D
  · rw [h, mask_self, mask_self]
  · rw [mask_at h, mask_at h, upd_ne h]
theorem mask_some {D b : Addr} {H : Hp} {o : HO} (h : mask D H b = some o) : b ≠ D ∧ H b = some o := by
  by_cases e : b = D
  · rw [e, mask_self] at h
    cases h
  · exact ⟨e, (mask_at e).symm.trans h⟩
theorem gr_mask {D : Addr} {H H' : Hp} (g : Gr H H') : Gr (mask D H) (mask D H') :=
  ⟨fun b o e n => by
    obtain ⟨h1, h2⟩ := mask_some e
    rw [mask_at h1]
    exact g.at_ b o h2 n, fun b ps e => by
    obtain ⟨h1, h2⟩ := mask_some e
    obtain ⟨p1, e1, k1⟩ := g.tab b ps h2
    exact ⟨p1, by rw [mask_at h1]; exact e1, k1⟩⟩
theorem gr_unmask (D : Addr) (H : Hp) : Gr (mask D H) H :=
  ⟨fun b o e _ => (mask_some e).2, fun b ps e => ⟨ps, (mask_some e).2, fun h => h⟩⟩
/-- what stood where D did not -/
theorem gr_masked {D : Addr} {H H' : Hp} (hD : H D = none) (g : Gr H H') : Gr H (mask D H') :=
  ⟨fun b o e n => by rw [mask_at (ne_of_none e hD)]; exact g.at_ b o e n, fun b ps e => by
    obtain ⟨p1, e1, k1⟩ := g.tab b ps e
    exact ⟨p1, by rw [mask_at (ne_of_none e hD)]; exact e1, k1⟩⟩
/-- [e for k in range(n)]: what is made is read as data -/
theorem lc_data {K : PySem.W.Frag} {D : Addr} {j n : Nat} {σ : L2.St} {vs : List Nat} {te : TE} {H H1 : Hp} {Qd : Hp → Prop} (enc : Nat → PyData) (few : n ≤ 1000) (gr : Gr H H1) (hD : H1 D = none) (hw : ∀ v, wipe ((wipe σ vs).set j (some v)) vs = wipe σ vs)
    (he : ∀ (k : Nat) (H4 : Hp) (Q' : VK), k < n → Gr H H4 → (∃ xs, H4 D = some (.lst xs)) → (∀ v H5, Gr H4 H5 → Dp K (mask D H5) v (enc k) → Q' v H5) → te ((wipe σ vs).set j (some (.int ((0 : Int) + (k : Nat))))) H4 Q')
    (q : ∀ H2, Gr H H2 → Dp K H2 (.ref D) (.list ((List.range n).map enc)) → Qd H2) :
    ∃ W : Nat → Nat → Hp → Prop, (∃ m, W 0 m (upd H1 D (.lst []))) ∧ ∀ i m H, W i m H →
      ((Itr 0 n).stop i H ∧ Qd H) ∨ ((Itr 0 n).go i H ∧ ∃ Nx : Hp → Prop, (∀ H', Nx H' → ∃ m', m' < m ∧ W (i + 1) m' H') ∧ ∀ x H', (Itr 0 n).yld i H x H' → gName j x (wipe σ vs) H' fun σ2 H2 => wipe σ2 vs = wipe σ vs ∧ tYes σ2 H2 fun b H3 =>
        if b = true then te σ2 H3 fun y H4 => ∃ acc, H4 D = some (.lst acc) ∧ acc.length < sizeLine ∧ Nx (upd H4 D (.lst (acc ++ [y]))) else Nx H3) := by
  have hD0 : H D = none := gr.free hD
  refine lc_range (Qd := Qd) (fun i H2 => Gr H H2 ∧ ∃ vs : List V, H2 D = some (.lst vs) ∧ DpAll K (mask D H2) vs ((List.range i).map enc)) ⟨gr.mut hD0, [], upd_same, .nil⟩ (fun i H2 hi h => ?_) (fun H2 h => ?_)
  · obtain ⟨g2, vs, e, a⟩ := h
    refine ⟨hw _, yesIf (he i H2 _ hi g2 ⟨_, e⟩ fun v H5 g5 d => ⟨vs, g5.lst e, ?_, (g2.trans g5).mut hD0, vs ++ [v], upd_same, ?_⟩)⟩
    · rw [dpAll_len a, List.length_map, List.length_range]
      exact small1000 (by omega)
    · rw [mask_upd, List.range_succ, List.map_append]
      exact dpAll_snoc (dpAll_gr (gr_mask g5) _ _ a) d
  · obtain ⟨g2, vs, e, a⟩ := h
    exact q H2 g2 (.lst (.inl (.inl e)) (dpAll_gr (gr_unmask D H2) _ _ a))
end K1
namespace Gr
open PySem PySem.Spec PyProof.Rows L2 GxR
structure GrX (X : Addr → Prop) (H H' : Hp) : Prop where
  at_ : ∀ b o, ¬ X b → H b = some o → NoTbl o → H' b = some o
  tab : ∀ b ps, H b = some (.tbl ps) → ∃ ps', H' b = some (.tbl ps') ∧ (TriplesOk ps.toList → TriplesOk ps'.toList)
  stay : ∀ b o, X b → H b = some o → ∃ o', H' b = some o'
theorem Gr.x {H H' : Hp} (g : Gr H H') (X : Addr → Prop) : GrX X H H' := ⟨fun b o _ e n => g.at_ b o e n, g.tab, fun _ _ _ e => g.some e⟩
theorem GrX.gr {H H' : Hp} (g : GrX (fun _ => False) H H') : Gr H H' := ⟨fun b o e n => g.at_ b o id e n, g.tab⟩
theorem GrX.refl (X : Addr → Prop) (H : Hp) : GrX X H H := (Gr.refl H).x X
theorem GrX.mono {X Y : Addr → Prop} {H H' : Hp} (g : GrX X H H') (h : ∀ b, X b → Y b) (s : ∀ b o, Y b → ¬ X b → H b = some o → NoTbl o) : GrX Y H H' :=
  ⟨fun b o n e k => g.at_ b o (fun z => n (h b z)) e k, g.tab, fun b o hy e => by
    by_cases hx : X b
    · exact g.stay b o hx e
    · exact ⟨o, g.at_ b o hx e (s b o hy hx e)⟩⟩
theorem GrX.has {X : Addr → Prop} {H H' : Hp} (g : GrX X H H') {b : Addr} {o : HO} (e : H b = some o) : ∃ o', H' b = some o' := by
  by_cases h : ∃ ps, o = .tbl ps
  · obtain ⟨ps, rfl⟩ := h
    obtain ⟨p1, e1, _⟩ := g.tab b ps e
    exact ⟨_, e1⟩
  · by_cases hx : X b
    · exact g.stay b o hx e
    · exact ⟨o, g.at_ b o hx e fun ps z => h ⟨ps, z⟩⟩
theorem GrX.free {X : Addr → Prop} {H H' : Hp} (g : GrX X H H') {b : Addr} (e : H' b = none) : H b = none := by
  cases q : H b with
  | none => rfl
  | some o =>
    obtain ⟨o', z⟩ := g.has q
    rw [e] at z
    cases z
theorem GrX.trans {X : Addr → Prop} {H H1 H2 : Hp} (a : GrX X H H1) (b : GrX X H1 H2) : GrX X H H2 :=
  ⟨fun c o h e n => b.at_ c o h (a.at_ c o h e n) n, fun c ps e => by
    obtain ⟨p1, e1, k1⟩ := a.tab c ps e
    obtain ⟨p2, e2, k2⟩ := b.tab c p1 e1
    exact ⟨p2, e2, fun h => k2 (k1 h)⟩, fun c o h e => by
    obtain ⟨o1, e1⟩ := a.stay c o h e
    exact b.stay c o1 h e1⟩
theorem GrX.then {X : Addr → Prop} {H H1 H2 : Hp} (a : GrX X H H1) (b : Gr H1 H2) : GrX X H H2 := a.trans (b.x X)
/-- an object of X, or a new one, is written -/
theorem GrX.put {X : Addr → Prop} {H H' : Hp} {p : Addr} {o : HO} (g : GrX X H H') (h : X p ∨ H p = none) (nt : ∀ ps, H p ≠ some (.tbl ps)) : GrX X H (upd H' p o) :=
  ⟨fun b u n e k => by
    have hb : b ≠ p := by
      rintro rfl
      rcases h with h | h
      · exact n h
      · rw [h] at e; cases e
    rw [upd_ne hb]; exact g.at_ b u n e k, fun b ps e => by
    have hb : b ≠ p := by
      rintro rfl
      exact nt ps e
    obtain ⟨p1, e1, k1⟩ := g.tab b ps e
    exact ⟨p1, by rw [upd_ne hb]; exact e1, k1⟩, fun b u hx e => by
    by_cases hb : b = p
    · subst hb; exact ⟨o, upd_same⟩
    · rw [upd_ne hb]; exact g.stay b u hx e⟩
theorem GrX.lst {X : Addr → Prop} {H H' : Hp} (g : GrX X H H') {a : Addr} {xs : List V} (n : ¬ X a) (e : H a = some (.lst xs)) : H' a = some (.lst xs) := g.at_ a _ n e notbl_lst
theorem GrX.tup {X : Addr → Prop} {H H' : Hp} (g : GrX X H H') {a : Addr} {xs : List V} (n : ¬ X a) (e : H a = some (.tup xs)) : H' a = some (.tup xs) := g.at_ a _ n e notbl_tup
theorem GrX.seq {X : Addr → Prop} {K : PySem.W.Frag} {H H' : Hp} {a : Addr} {xs : List V} (g : GrX X H H') (n : ¬ X a) (h : SqL K H a xs) : SqL K H' a xs := by
  rcases h with (h | ⟨o, h⟩) | h
  · exact .inl (.inl (g.lst n h))
  · exact .inl (.inr ⟨o, g.at_ _ _ n h notbl_frz⟩)
  · exact .inr h
theorem GrX.tabG {X : Addr → Prop} {H H' : Hp} (g : GrX X H H') {P : Addr} (h : TabG H P) : TabG H' P := by
  obtain ⟨ps, e, k⟩ := h
  obtain ⟨p1, e1, k1⟩ := g.tab P ps e
  exact ⟨p1, e1, k1 k⟩
/-- seen from a heap in which X's objects do not stand, nothing but growth -/
theorem GrX.young {X : Addr → Prop} {H0 H H' : Hp} (g0 : Gr H0 H) (g : GrX X H H') (h : ∀ b, X b → H0 b = none) : Gr H0 H' :=
  ⟨fun b o e n => g.at_ b o (fun z => by rw [h b z] at e; cases e) (g0.at_ b o e n) n, fun b ps e => by
    obtain ⟨p1, e1, k1⟩ := g0.tab b ps e
    obtain ⟨p2, e2, k2⟩ := g.tab b p1 e1
    exact ⟨p2, e2, fun h => k2 (k1 h)⟩⟩
end Gr
namespace K1
open PySem PySem.Spec PyProof.Rows L2
def tMethT (C : Addr) (m : Str) (sp : Sp) (E : L2.St → XK) (ta : TE) (t : TA) : TE := fun σ H Q => ta σ H fun x H1 => ∃ a dx fs, x = .ref a ∧ H1 a = some (.ins C dx fs) ∧ fs.lookup m = none ∧ t σ H1 fun vs H2 => sp (.ref a :: vs) H2 Q (E σ)
section
variable {X : Cx} {CX : CXT} {k : Nat} {f C : Addr} {fd : FuncData} {ps : List Str} {sp : Sp} {E : L2.St → XK} {m : Str} {pos apos : Pos} {e o : Expr} {es : List Expr} {ta : TE} {t : TA}
theorem pe_methT {pl : Sem Bool} (he : PE X o ta) (c : Cls X.K C) (hm : Meth X.K C m f) (F : FnOk X.prog X.w X.K X.mg X.base CX k f fd ps sp) (hr : Room k X.A) (hb : Binds X.K fd ps []) (hx : ∀ σ, PassesAt CX X σ (E σ)) (ha : PA X (e :: es) t)
    (h1 : starEach (e :: es) X.env = (false, eval e X.env) :: starEach es X.env := by rfl) (h2 : (backTo pos (starEach es X.env)).any (·.1) = false := by rfl)
    (h3 : eval (.Call (.Attribute o m apos) (e :: es) [] pos) X.env = (do
        let ov ← eval o X.env
        standAt apos.atName
        let (f, first) ← holding [ov] (getMethod ov m pl)
        callWith pos f first (backTo pos (starEach (e :: es) X.env)) (backToKw pos (keywordEach [] X.env))) := by rfl) :
    PE X (.Call (.Attribute o m apos) (e :: es) [] pos) (tMethT C m sp E ta t) := by
  refine ⟨fun pins s σ H Q I h => PySem.W.methodCall_KW (pl := pl) (thn (he.run pins s σ H _ I h) fun u s1 hu => ?_) h3⟩
  obtain ⟨x, H1, I1, rx, a, dx, fs, rfl, ea, l, q⟩ := hu
  obtain rfl : u = Value.ref a := rx
  refine getmeth_ok I1 ea c hm l (PySem.W.callWith_K (first := [.ref a]) (h₀ := X.base) I.ok.mod.kin hm.kp (thn (ha.run pos pins s1 σ H1 _ I1 q) fun us s2 hv => ?_) h1 h2)
  obtain ⟨vs, H2, I2, r, q2⟩ := hv
  exact ⟨I2.kIn, run_fnS (us := .ref a :: us) (vs := .ref a :: vs) F hr hb (hx σ) I2 (.cons rfl r) q2⟩
theorem pe_methT0 {pl : Sem Bool} (he : PE X o ta) (c : Cls X.K C) (hm : Meth X.K C m f) (F : FnOk X.prog X.w X.K X.mg X.base CX k f fd ps sp) (hr : Room k X.A) (hb : Binds X.K fd ps []) (hx : ∀ σ, PassesAt CX X σ (E σ))
    (h3 : eval (.Call (.Attribute o m apos) [] [] pos) X.env = (do
        let ov ← eval o X.env
        standAt apos.atName
        let (f, first) ← holding [ov] (getMethod ov m pl)
        callWith pos f first (backTo pos (starEach [] X.env)) (backToKw pos (keywordEach [] X.env))) := by rfl) :
    PE X (.Call (.Attribute o m apos) [] [] pos) (tMethT C m sp E ta tNil) := by
  refine ⟨fun pins s σ H Q I h => PySem.W.methodCall_KW (pl := pl) (thn (he.run pins s σ H _ I h) fun u s1 hu => ?_) h3⟩
  obtain ⟨x, H1, I1, rx, a, dx, fs, rfl, ea, l, q⟩ := hu
  obtain rfl : u = Value.ref a := rx
  exact getmeth_ok I1 ea c hm l (PySem.W.callWith_K0 (first := [.ref a]) I1.kIn hm.kp (run_fnS (us := [.ref a]) (vs := [.ref a]) F hr hb (hx σ) I1 (.cons rfl .nil) q))
end
end K1
namespace K1
open PySem PySem.Spec PyProof.Rows L2 Gr GxR Srx Skx Dcx
section
variable {P : Program} {w : World} {K : PySem.W.Frag} {mg : Str → Option Value} {base : Heap} {f fM fB fR fA fW : Addr} {fd fdM fdB fdR fdA fdW : FuncData}
def spLAll (K : PySem.W.Frag) : Sp := fun vs H Q _ => ∃ (a b : Addr) (xs : List Str) (ps : List (Addr × List Str)), vs = [.ref a, .ref b] ∧ SqL K H a (xs.map V.str) ∧ SqL K H b (ps.map fun q => V.ref q.1) ∧ (∀ q ∈ ps, SqL K H q.1 (q.2.map V.str)) ∧ Q (.bl (mtAll xs (ps.map (·.2)))) H
theorem box_len (N : List Str) : (box N).length = 2 ^ N.length := by
  refine snoc_ind (p := fun N => (box N).length = 2 ^ N.length) rfl (fun N n ih => ?_) N
  rw [box_snoc, List.length_append, List.length_map, ih, List.length_append, List.length_singleton, Nat.pow_succ]
  omega
/-- [.. one ..]: each made anew, of what else is made on the way -/
theorem lc_fresh2 {K : PySem.W.Frag} {a D : Addr} {j : Nat} {σ : L2.St} {vs : List Nat} {te : TE} {H H1 : Hp} {Qd : Hp → Prop} {ps0 : List (Addr × List Str)} (F : List Str → List Str)
    (hA : SqL K H1 a (ps0.map fun q => V.ref q.1)) (few : ps0.length < sizeLine) (gr : Gr H H1) (hD : H1 D = none) (hw : ∀ v, wipe ((wipe σ vs).set j (some v)) vs = wipe σ vs)
    (he : ∀ q ∈ ps0, ∀ (H4 : Hp) (Q' : VK), Gr H1 H4 → (∀ H5 l, Gr H4 H5 → H5 l = none → Q' (.ref l) (upd H5 l (.lst ((F q.2).map V.str)))) → te ((wipe σ vs).set j (some (.ref q.1))) H4 Q')
    (q : ∀ H2 ps, Gr H1 H2 → Told H1 H2 D ps → ps.map (·.2) = ps0.map (fun q => F q.2) → Qd H2) :
    ∃ W : Nat → Nat → Hp → Prop, (∃ m, W 0 m (upd H1 D (.lst []))) ∧ ∀ i m H, W i m H →
      ((Itl K a).stop i H ∧ Qd H) ∨ ((Itl K a).go i H ∧ ∃ Nx : Hp → Prop, (∀ H', Nx H' → ∃ m', m' < m ∧ W (i + 1) m' H') ∧ ∀ x H', (Itl K a).yld i H x H' → gName j x (wipe σ vs) H' fun σ2 H2 => wipe σ2 vs = wipe σ vs ∧ tYes σ2 H2 fun b H3 =>
        if b = true then te σ2 H3 fun y H4 => ∃ acc, H4 D = some (.lst acc) ∧ acc.length < sizeLine ∧ Nx (upd H4 D (.lst (acc ++ [y]))) else Nx H3) := by
  refine lc_list (xs := ps0.map fun q => V.ref q.1) (Qd := Qd) (fun i H2 => Gr H1 H2 ∧ ∃ ps, Told H1 H2 D ps ∧ ps.map (·.2) = (ps0.take i).map (fun q => F q.2)) ⟨Gr.new hD, [], Told.nil hD, rfl⟩ (fun i H2 _ h => h.1.seq hA) (fun i x H2 hx h => ?_) (fun H2 h => ?_)
  · obtain ⟨g2, ps, T, e⟩ := h
    obtain ⟨q0, hq0, rfl⟩ := get_map hx
    refine ⟨hw _, yesIf (he q0 (List.mem_of_getElem? hq0) H2 _ g2 fun H5 l g5 hl => ⟨_, ?_, ?_, (g2.trans g5).trans (Gr.new hl) |>.mut hD, ps ++ [(l, F q0.2)], (T.gr g5).snoc (g2.trans g5) hl, ?_⟩)⟩
    · rw [upd_ne (ne_of_none (g5.lst T.at_) hl)]
      exact g5.lst T.at_
    · rw [List.length_map]
      have h1 : ps.length = ((ps0.take i).map (fun q => F q.2)).length := by rw [← e, List.length_map]
      rw [h1, List.length_map, List.length_take]
      omega
    · rw [List.map_append, e, take_map hq0]
      rfl
  · obtain ⟨g2, ps, T, e⟩ := h
    rw [List.length_map, List.take_length] at e
    exact q H2 ps g2 T e
theorem sortedT {K : PySem.W.Frag} {H : Hp} {a : Addr} {xs : List Str} {σ : L2.St} {Q : VK} (hs : SqL K H a (xs.map V.str)) (q : ∀ p, H p = none → Q (.ref p) (upd H p (.lst ((srt xs).map V.str)))) :
    tNil σ H fun ys H2 => rSortedD K (fun x : Str => PyData.str x) (V.ref a :: ys) H2 Q := sortedS_texts hs q
def spBox (K : PySem.W.Frag) : Sp := fun vs H Q _ => ∃ (a : Addr) (ns : List Str), vs = [.ref a] ∧ SqL K H a (ns.map V.str) ∧ ns.length ≤ 8 ∧ ∀ p H' bs, Gr H H' → Told H H' p bs → bs.map (·.2) = box (srt ns) → Q (.ref p) H'
end
end K1
namespace K1
open PySem PySem.Spec PyProof.Rows L2 Gr GxR Srx Skx Dcx
section
variable {P : Program} {w : World} {K : PySem.W.Frag} {mg : Str → Option Value} {base : Heap} {f fM fB fR fA fW : Addr} {fd fdM fdB fdR fdA fdW : FuncData}
def spLRanked (K : PySem.W.Frag) : Sp := fun vs H Q _ => ∃ (a : Addr) (ps : List (Addr × List Str)), vs = [.ref a] ∧ SqL K H a (ps.map fun q => V.ref q.1) ∧ (∀ q ∈ ps, SqL K H q.1 (q.2.map V.str)) ∧ ps.length ≤ 5000 ∧
  ∀ (p : Addr) (H' : Hp) (ds : List (Addr × List Str)), Gr H H' → H p = none → H' p = some (.lst (ds.map fun q => V.ref q.1)) → ds.Perm ps → ds.map (·.2) = rkd (ps.map (·.2)) → Q (.ref p) H'
theorem filter_pairwise {α : Type} {r : α → α → Prop} {p : α → Bool} {l : List α} (h : l.Pairwise r) : (l.filter p).Pairwise r := h.sublist List.filter_sublist
/-- the law's own least sets -/
theorem lleast_eq {N : List Str} {rows : List (List Str)} : ((rkd (box N)).filter fun s => mtAll s rows).foldl keep [] = least (tr N rows) := by
  rw [least_eq]
  congr 1
  refine rkd_one ?_ (filter_pairwise (rkd_sorted _)) (rkd_sorted _)
  exact ((rkd_perm (box N)).filter _).trans (rkd_perm _).symm
def spLLeast (K : PySem.W.Frag) : Sp := fun vs H Q _ => ∃ (a b : Addr) (ns : List Str) (ps : List (Addr × List Str)), vs = [.ref a, .ref b] ∧ SqL K H a (ns.map V.str) ∧ Nms ns ∧ ns.length ≤ 8 ∧ SqL K H b (ps.map fun q => V.ref q.1) ∧ (∀ q ∈ ps, SqL K H q.1 (q.2.map V.str)) ∧
  ∀ p H' ks, Gr H H' → Told H H' p ks → ks.map (·.2) = least (tr (srt ns) (ps.map (·.2))) → Q (.ref p) H'
end
end K1
namespace K1
open PySem PySem.Spec PyProof.Rows L2 Gr GxR Srx Skx Dcx
section
variable {P : Program} {w : World} {K : PySem.W.Frag} {mg : Str → Option Value} {base : Heap} {f : Addr} {fd : FuncData}
def numD (rows : List (List Str)) : PyData := .list ((List.range rows.length).map fun i : Nat => .tuple [.int i, dS (srt (rows.getD i []))])
def spNumbered (K : PySem.W.Frag) : Sp := fun vs H Q _ => ∃ (a : Addr) (ps : List (Addr × List Str)), vs = [.ref a] ∧ SqL K H a (ps.map fun q => V.ref q.1) ∧ (∀ q ∈ ps, SqL K H q.1 (q.2.map V.str)) ∧ ps.length ≤ 1000 ∧ ∀ v H', Gr H H' → Dp K H' v (numD (ps.map (·.2))) → Q v H'
theorem sqL_mask {K : PySem.W.Frag} {D a : Addr} {H H' : Hp} {xs : List V} (h : SqL K H a xs) (hD : H D = none) (g : Gr H H') : SqL K (mask D H') a xs := (gr_masked hD g).seq h
def spBest (K : PySem.W.Frag) : Sp := fun vs H Q _ => ∃ (a : Addr) (ps : List (Addr × List Str)), vs = [.ref a] ∧ SqL K H a (ps.map fun q => V.ref q.1) ∧ (∀ q ∈ ps, H q.1 = some (.lst (q.2.map V.str)) ∧ Nms q.2) ∧ ps.length ≤ 5000 ∧
  ∀ (p : Addr) (H' : Hp) (ks : List (Addr × List Str)), Gr H H' → H p = none → H' p = some (.lst (ks.map fun q => V.ref q.1)) → (∀ q ∈ ks, q ∈ ps) → ks.map (·.2) = least (ps.map (·.2)) → Q (.ref p) H'
end
end K1
namespace K1
open PySem PySem.Spec PyProof.Rows L2 Gr GxR Srx Skx Dcx
theorem union_eq {a b : List Str} (ha : a.Nodup) (hb : b.Nodup) : srt (a ++ b.filter fun y => !a.contains y) = once (a ++ b) := by
  refine (once_same ?_ fun y => ?_).symm
  · refine List.nodup_append.mpr ⟨ha, hb.sublist List.filter_sublist, fun x hx y hy e => ?_⟩
    have h1 := (List.mem_filter.mp hy).2
    rw [← e, List.contains_iff_mem.mpr hx] at h1
    cases h1
  · rw [List.mem_append, List.mem_append, List.mem_filter]
    constructor
    · rintro (h | h)
      · exact .inl h
      · by_cases hy : y ∈ a
        · exact .inl hy
        · exact .inr ⟨h, by rw [Bool.not_eq_true', ← Bool.not_eq_true, List.contains_iff_mem]; exact hy⟩
    · rintro (h | h)
      · exact .inl h
      · exact .inr h.1
section
variable {P : Program} {w : World} {K : PySem.W.Frag} {mg : Str → Option Value} {base : Heap} {f : Addr} {fd : FuncData}
def spUnions : Sp := fun vs H Q _ => ∃ (a b : Addr) (ps qs : List (Addr × List Str)), vs = [.ref a, .ref b] ∧ LL H a ps ∧ LL H b qs ∧ (∀ q ∈ ps, q.2.Nodup ∧ q.2.length ≤ 100) ∧ (∀ q ∈ qs, q.2.Nodup ∧ q.2.length ≤ 100) ∧ ps.length * qs.length ≤ 5000 ∧
  ∀ p H' us, Gr H H' → Told H H' p us → us.map (·.2) = unions (ps.map (·.2)) (qs.map (·.2)) → Q (.ref p) H'
theorem unions_snoc (A B : List (List Str)) (a : List Str) : unions (A ++ [a]) B = unions A B ++ B.map fun b => once (a ++ b) := by
  unfold unions
  rw [List.flatMap_append]
  simp
end
end K1
namespace K1
open PySem PySem.Spec PyProof.Rows L2 Gr GxR Srx Skx Dcx
theorem cand_snoc (A : List (List Str)) (s r : List Str) : cand (A ++ [s]) r = cand A r ++ (if mt s r = true then [s] else r.map fun x => once (s ++ [x])) := by
  unfold cand
  rw [List.flatMap_append]
  simp
section
variable {P : Program} {w : World} {K : PySem.W.Frag} {mg : Str → Option Value} {base : Heap} {f : Addr} {fd : FuncData}
def spStep (K : PySem.W.Frag) : Sp := fun vs H Q _ => ∃ (a r : Addr) (ps : List (Addr × List Str)) (row : List Str), vs = [.ref a, .ref r] ∧ LL H a ps ∧ SqL K H r (row.map V.str) ∧ Nms row ∧ (∀ q ∈ ps, Ris q.2 ∧ Nms q.2 ∧ q.2.length ≤ 100) ∧ ps.length * (row.length + 1) ≤ 1100 ∧
  ∀ (p : Addr) (H' : Hp) (ks : List (Addr × List Str)), Gr H H' → H p = none → LL H' p ks → (∀ q ∈ ks, q ∈ ps ∨ H q.1 = none) → ks.map (·.2) = least (cand (ps.map (·.2)) row) → Q (.ref p) H'
end
end K1
namespace K1
open PySem PySem.Spec PyProof.Rows L2 Gr GxR Srx Skx Dcx
theorem for_rev {K : PySem.W.Frag} {a : Addr} {xs : List V} {g : TG} {tb : TS} {D : Ends} {σ : L2.St} {H : Hp} (Pv : Nat → L2.St → Hp → Prop) (h0 : Pv 0 σ H) (hl : ∀ i σ H, i ≤ xs.length → Pv i σ H → SqL K H a xs)
    (hs : ∀ i x σ H, xs.reverse[i]? = some x → Pv i σ H → g x σ H fun σ2 H2 => tb { D with nx := Pv (i + 1), ct := Pv (i + 1), bk := D.nx } σ2 H2) (hd : ∀ σ H, Pv xs.length σ H → D.nx σ H) :
    ∃ W : Nat → Nat → L2.St → Hp → Prop, (∃ m, W 0 m σ H) ∧ ∀ i m σ H, W i m σ H →
      ((Itv K a xs.length).stop i H ∧ D.nx σ H) ∨ ((Itv K a xs.length).go i H ∧ ∃ N : L2.St → Hp → Prop, (∀ σ' H', N σ' H' → ∃ m', m' < m ∧ W (i + 1) m' σ' H') ∧ ∀ x H', (Itv K a xs.length).yld i H x H' → g x σ H' fun σ2 H2 => tb { D with nx := N, ct := N, bk := D.nx } σ2 H2) := by
  refine ⟨fun i m σ H => m = xs.length - i ∧ i ≤ xs.length ∧ Pv i σ H, ⟨xs.length, by simp, Nat.zero_le _, h0⟩, ?_⟩
  rintro i m σ H ⟨rfl, hi, p⟩
  have q := hl i σ H hi p
  by_cases hlt : i < xs.length
  · have hx : xs[xs.length - 1 - i]? = some xs[xs.length - 1 - i] := List.getElem?_eq_getElem (by omega)
    refine .inr ⟨⟨hlt, xs, _, q, hx⟩, Pv (i + 1), fun σ' H' p' => ⟨xs.length - (i + 1), by omega, rfl, hlt, p'⟩, fun x H' y => ?_⟩
    obtain ⟨e, y⟩ := y
    subst e
    exact hs i x σ _ (by rw [List.getElem?_reverse hlt]; exact y xs q) p
  · have e : i = xs.length := by omega
    subst e
    exact .inl ⟨Nat.le_refl _, hd σ H p⟩
section
variable {P : Program} {w : World} {K : PySem.W.Frag} {mg : Str → Option Value} {base : Heap} {f : Addr} {fd : FuncData}
def spPared (K : PySem.W.Frag) : Sp := fun vs H Q _ => ∃ (a b : Addr) (xs : List Str) (ps : List (Addr × List Str)), vs = [.ref a, .ref b] ∧ SqL K H a (xs.map V.str) ∧ xs.length ≤ 1000 ∧ SqL K H b (ps.map fun q => V.ref q.1) ∧ (∀ q ∈ ps, SqL K H q.1 (q.2.map V.str)) ∧
  ∀ p H', Gr H H' → H p = none → H' p = some (.lst ((pared (ps.map (·.2)) xs).map V.str)) → Q (.ref p) H'
theorem pare_len (rows : List (List Str)) : ∀ (ns left : List Str), (ns.foldl (pareStep rows) left).length ≤ left.length
  | [], left => Nat.le_refl _
  | n :: ns, left => by
    rw [List.foldl_cons]
    refine Nat.le_trans (pare_len rows ns _) ?_
    unfold pareStep
    split
    · exact List.length_filter_le _ _
    · exact Nat.le_refl _
end
end K1
namespace K1
open PySem PySem.Spec PyProof.Rows L2 Gr GxR Srx Skx Dcx
section
variable {P : Program} {w : World} {K : PySem.W.Frag} {mg : Str → Option Value} {base : Heap} {f : Addr} {fd : FuncData}
def spLRows (K : PySem.W.Frag) : Sp := fun vs H Q _ => ∃ (a : Addr) (ps : List (Addr × List Str)), vs = [.ref a] ∧ SqL K H a (ps.map fun q => V.ref q.1) ∧ (∀ q ∈ ps, SqL K H q.1 (q.2.map V.str) ∧ Nms q.2) ∧ ps.length ≤ 1000 ∧
  ∀ p H' ks, Gr H H' → Told H H' p ks → ks.map (·.2) = least ((ps.map (·.2)).map srt) → Q (.ref p) H'
end
end K1
namespace K1
open PySem PySem.Spec PyProof.Rows L2 Gr GxR Srx Skx Dcx
section
variable {P : Program} {w : World} {K : PySem.W.Frag} {mg : Str → Option Value} {base : Heap} {f : Addr} {fd : FuncData}
def lenV : Option (List Str) → V
  | some s => .int (s.length : Nat)
  | none => .non
def spFewest (K : PySem.W.Frag) : Sp := fun vs H Q _ => ∃ (a b : Addr) (ns : List Str) (ps : List (Addr × List Str)), vs = [.ref a, .ref b] ∧ SqL K H a (ns.map V.str) ∧ ns.length ≤ 8 ∧ SqL K H b (ps.map fun q => V.ref q.1) ∧ (∀ q ∈ ps, SqL K H q.1 (q.2.map V.str)) ∧
  ∀ H', Gr H H' → Q (lenV ((rkd (box (srt ns))).find? fun s => mtAll s (ps.map (·.2)))) H'
theorem find_take {α : Type} {p : α → Bool} {l : List α} {i : Nat} {x : α} (h : l[i]? = some x) (n : ∀ y ∈ l.take i, p y = false) (hx : p x = true) : l.find? p = some x := by
  have e : l = l.take i ++ x :: l.drop (i + 1) := by
    have hi := (List.getElem?_eq_some_iff.mp h)
    obtain ⟨h1, h2⟩ := hi
    rw [← h2, ← List.drop_eq_getElem_cons h1, List.take_append_drop]
  rw [e, List.find?_append, List.find?_eq_none.mpr (fun y hy => by rw [n y hy]; exact Bool.false_ne_true)]
  rw [List.find?_cons, hx]
  rfl
end
end K1
namespace K1
open PySem PySem.Spec PyProof.Rows L2 Gr GxR Srx Skx Dcx
/-- a dict of True by texts -/
def kvK (l : List Str) : List (Key × V) := l.map fun x => (Sum.inr x, V.bl true)
theorem put_key (l : List Str) (x : Str) : putK (kvK l) (Sum.inr x) (V.bl true) = kvK (once1 l x) := by
  unfold putK kvK once1
  by_cases h : x ∈ l
  · rw [if_pos h, if_pos]
    · rw [List.map_map]
      refine List.map_congr_left fun y hy => ?_
      show (if _ then _ else _) = _
      split <;> rfl
    · rw [List.any_eq_true]
      exact ⟨_, List.mem_map.mpr ⟨x, h, rfl⟩, decide_eq_true rfl⟩
  · rw [if_neg h, if_neg]
    · rw [List.map_append]
      rfl
    · intro z
      rw [List.any_eq_true] at z
      obtain ⟨q, hq, e⟩ := z
      obtain ⟨y, hy, rfl⟩ := List.mem_map.mp hq
      have e := of_decide_eq_true e
      injection e with e
      rw [e] at hy
      exact h hy
theorem keys_map (l : List Str) : (kvK l).map (fun kv => kV kv.1) = l.map V.str := by
  unfold kvK
  rw [List.map_map]
  rfl
theorem srt_ddG (l : List Str) : srt (ddG l) = once l := (once_same (ddG_nodup l) fun y => ddG_mem.symm).symm
theorem any_empty (xss : List (List Str)) : (xss.map dS).any (fun z => PyData.eqv z (dS [])) = decide ([] ∈ xss) := by
  induction xss with
  | nil => rfl
  | cons x r ih =>
    rw [List.map_cons, List.any_cons, ih, eqv_dS]
    by_cases h : x = []
    · simp [h]
    · have h2 : ¬ [] = x := fun z => h z.symm
      simp [h, h2]
theorem hu65 {k : Nat} {A : Around} (hr : Room k A) : A.units + 65 < cLine := by
  have := hr.un
  omega
section
variable {P : Program} {w : World} {K : PySem.W.Frag} {mg : Str → Option Value} {base : Heap} {f : Addr} {fd : FuncData}
def one1 (rows : List (List Str)) : List Str := rows.flatMap fun r => if r.length = 1 then r else []
def needed (rows : List (List Str)) : List Str := if [] ∈ rows then [] else once (one1 rows)
def spNeeded (K : PySem.W.Frag) : Sp := fun vs H Q _ => ∃ (a : Addr) (ps : List (Addr × List Str)), vs = [.ref a] ∧ SqL K H a (ps.map fun q => V.ref q.1) ∧ (∀ q ∈ ps, SqL K H q.1 (q.2.map V.str) ∧ Nms q.2) ∧ ps.length ≤ 1000 ∧
  ∀ p H', Gr H H' → H p = none → H' p = some (.lst ((needed (ps.map (·.2))).map V.str)) → Q (.ref p) H'
end
end K1
end
section
set_option maxHeartbeats 4000000
/-! {e for x in xs for y in x}: a set of texts out of two walks. -/
namespace Sc2
open PySem PySem.Spec PyProof.Rows L2 Sx Srx
abbrev two (e t0 i0 : Expr) (f0 : List Expr) (t1 i1 : Expr) (f1 : List Expr) (sc : Scope) (p : Pos) : Expr := .SetComp e [⟨t0, i0, f0, 0⟩, ⟨t1, i1, f1, 0⟩] sc p
theorem turn_a (e t0 i0 t1 i1 : Expr) (f0 f1 : List Expr) (sc : Scope) (p : Pos) (it acc : Value) (env : Env) :
    compTurn (two e t0 i0 f0 t1 i1 f1 sc p) 0 it acc env = (do
      standAt i0.pos
      match ← pyNext it with
      | none => pure (.done .next)
      | some v => do
        letOwnedTupleGo t0 it v
        assign t0 env v
        let mut keeps := true
        for c in f0 do
          if keeps then keeps ← isTrue c env (eval c env)
        if keeps then
          let src ← eval i1 env
          standAt i1.pos
          let src ← foldedSetIterable i1 env src
          let _ ← runOwn (.compStart (two e t0 i0 f0 t1 i1 f1 sc p) 1 (← holding [src] (pyIter src)) acc env) env
        again (.compLoop (two e t0 i0 f0 t1 i1 f1 sc p) 0 it acc env)) := by rfl
theorem turn_b (e t0 i0 t1 i1 : Expr) (f0 f1 : List Expr) (sc : Scope) (p : Pos) (it acc : Value) (env : Env) :
    compTurn (two e t0 i0 f0 t1 i1 f1 sc p) 1 it acc env = (do
      standAt i1.pos
      match ← pyNext it with
      | none => pure (.done .next)
      | some v => do
        letOwnedTupleGo t1 it v
        assign t1 env v
        let mut keeps := true
        for c in f1 do
          if keeps then keeps ← isTrue c env (eval c env)
        if keeps then
          (do let y ← eval e env; standAt e.pos; let _ ← call (.builtin "set.add") [acc, y])
        again (.compLoop (two e t0 i0 f0 t1 i1 f1 sc p) 1 it acc env)) := by rfl
section
variable {P : Program} {w : World} {A : Around} {R : Result → Shared → Prop} {s : Shared} {e t0 i0 t1 i1 : Expr} {f0 f1 : List Expr} {sc : Scope} {p : Pos} {it acc : Value} {env : Env}
abbrev nb (P : Program) (w : World) (A : Around) (env : Env) (R : Result → Shared → Prop) : Value → Shared → Prop := notedBy (model P w) A env fun x s' => R (.error x) s'
abbrev tests (fs : List Expr) (env : Env) : Sem Bool := forIn fs true fun c r => if r = true then do let ok ← isTrue c env (eval c env); pure (ForInStep.yield ok) else pure (ForInStep.yield r)
/-- the outer walk -/
theorem loop_a (hs : ∀ x, foldedSetIterable i1 env x = pure x) (J : Nat → Shared → Prop)
    (go : ∀ n s, J n s → wpAny (model P w) A (pyNext it) (fun r sa => match r with
      | none => R (.ok .next) sa
      | some v => wpAny (model P w) A (letOwnedTupleGo t0 it v) (fun _ sb => wpAny (model P w) A (assign t0 env v) (fun _ sc' => wpAny (model P w) A (tests f0 env) (fun k sd =>
            if k = true then wpAny (model P w) A (eval i1 env) (fun x se => wpAny (model P w) A (pyIter x) (fun it1 sf =>
              codeAny (model P w) A (.compStart (two e t0 i0 f0 t1 i1 f1 sc p) 1 it1 acc env) (fun r s' => match r with
                | .ok _ => ∃ m, m < n ∧ J m s'
                | .error _ => False) sf) (nb P w A env R) se) (nb P w A env R) sd
            else ∃ m, m < n ∧ J m sd) (nb P w A env R) sc') (nb P w A env R) sb) (nb P w A env R) sa) (nb P w A env R) s)
    (n : Nat) (h : J n s) : codeAny (model P w) A (.compLoop (two e t0 i0 f0 t1 i1 f1 sc p) 0 it acc env) R s := by
  refine codeAny_loop rfl J (fun n s hJ => ?_) n h
  show wpAny _ A ((compTurn (two e t0 i0 f0 t1 i1 f1 sc p) 0 it acc env).onRaise (fun x => do noteFrame x env; theTreesLotGoes x)) _ _ s
  refine wpAny_noted ?_
  rw [turn_a]
  refine wpAny_bind (wpAny_standAt (wpAny_bind (wpAny_mono (go n s hJ) (fun r sa ha => ?_) fun _ _ z => z)))
  cases r with
  | none => exact wpAny_pure ha
  | some v =>
    refine wpAny_bind (wpAny_mono ha (fun _ sb hb => wpAny_bind (wpAny_mono hb (fun _ sc' hc => wpAny_bind (wpAny_mono hc (fun k sd hd => ?_) fun _ _ z => z)) fun _ _ z => z)) fun _ _ z => z)
    cases k with
    | false => exact wpAny_pure ⟨rfl, hd⟩
    | true =>
      refine wpAny_bind (wpAny_mono hd (fun x se he => wpAny_bind (wpAny_standAt (wpAny_bind (wpAny_of_eq (hs x) (wpAny_bind (wpAny_holding (wpAny_mono he (fun it1 sf hf => ?_) fun _ _ z => z))))))) fun _ _ z => z)
      refine wpAny_bind (wpAny_runOwn ?_)
      rw [Around.mark_none]
      refine codeAny_mono hf fun r s' hr => ?_
      cases r with
      | error y => exact hr.elim
      | ok y => first | exact wpAny_pure ⟨rfl, hr⟩ | exact wpAny_bind (wpAny_pure (wpAny_pure ⟨rfl, hr⟩))
/-- the inner one -/
theorem loop_b (J : Nat → Shared → Prop)
    (go : ∀ n s, J n s → wpAny (model P w) A (pyNext it) (fun r sa => match r with
      | none => R (.ok .next) sa
      | some v => wpAny (model P w) A (letOwnedTupleGo t1 it v) (fun _ sb => wpAny (model P w) A (assign t1 env v) (fun _ sc' => wpAny (model P w) A (tests f1 env) (fun k sd =>
            if k = true then wpAny (model P w) A (eval e env) (fun x se => wpAny (model P w) A (call (.builtin "set.add") [acc, x]) (fun _ sf => ∃ m, m < n ∧ J m sf) (nb P w A env R) se) (nb P w A env R) sd
            else ∃ m, m < n ∧ J m sd) (nb P w A env R) sc') (nb P w A env R) sb) (nb P w A env R) sa) (nb P w A env R) s)
    (n : Nat) (h : J n s) : codeAny (model P w) A (.compLoop (two e t0 i0 f0 t1 i1 f1 sc p) 1 it acc env) R s := by
  refine codeAny_loop rfl J (fun n s hJ => ?_) n h
  show wpAny _ A ((compTurn (two e t0 i0 f0 t1 i1 f1 sc p) 1 it acc env).onRaise (fun x => do noteFrame x env; theTreesLotGoes x)) _ _ s
  refine wpAny_noted ?_
  rw [turn_b]
  refine wpAny_bind (wpAny_standAt (wpAny_bind (wpAny_mono (go n s hJ) (fun r sa ha => ?_) fun _ _ z => z)))
  cases r with
  | none => exact wpAny_pure ha
  | some v =>
    refine wpAny_bind (wpAny_mono ha (fun _ sb hb => wpAny_bind (wpAny_mono hb (fun _ sc' hc => wpAny_bind (wpAny_mono hc (fun k sd hd => ?_) fun _ _ z => z)) fun _ _ z => z)) fun _ _ z => z)
    cases k with
    | false => exact wpAny_pure ⟨rfl, hd⟩
    | true => exact wpAny_bind (wpAny_bind (wpAny_mono hd (fun x se he => wpAny_bind (wpAny_standAt (wpAny_bind (wpAny_mono he (fun _ sf hf => wpAny_pure (wpAny_pure ⟨rfl, hf⟩)) fun _ _ z => z)))) fun _ _ z => z))
theorem start_b (h0 : codeAny (model P w) A (.compLoop (two e t0 i0 f0 t1 i1 f1 sc p) 1 it acc env) R s)
    (h : wpAny (model P w) A (pyIter it) (fun j s' => codeAny (model P w) A (.compLoop (two e t0 i0 f0 t1 i1 f1 sc p) 1 j acc env) R s') (nb P w A env R) s) :
    codeAny (model P w) A (.compStart (two e t0 i0 f0 t1 i1 f1 sc p) 1 it acc env) R s := by
  refine codeAny_of_tree ?_
  show wpAny _ _ ((compStart (two e t0 i0 f0 t1 i1 f1 sc p) 1 it acc env).onRaise (fun x => do noteFrame x env; standAt theWindowsPlace)) _ _ s
  refine wpAny_notedAt ?_
  unfold compStart
  show wpAny _ _ (ask >>= _) _ _ s
  refine wpAny_bind (wpAny_askSetting (wpAny_ite ?_))
  split
  · first | exact wpAny_pure ⟨rfl, h0⟩ | exact wpAny_bind (wpAny_pure (wpAny_pure ⟨rfl, h0⟩))
  · first
      | exact wpAny_bind (wpAny_rule (wpAny_bind (wpAny_standAt (wpAny_bind (wpAny_mono h (fun j s' z => wpAny_pure ⟨rfl, z⟩) fun _ _ z => z)))))
      | (refine wpAny_bind (wpAny_rule ?_); show wpAny _ _ (standAt i1.pos >>= _) _ _ s; exact wpAny_bind (wpAny_standAt (wpAny_bind (wpAny_mono h (fun j s' z => wpAny_pure ⟨rfl, z⟩) fun _ _ z => z))))
end
section
variable {X : Cx}
/-- set.add of a text -/
theorem add_ok {pins : List (Addr × Obj)} {σ : L2.St} {H : Hp} {s : Shared} {E : Value → Shared → Prop} {D : Addr} {ks : List Str} {y : Str} {u : Value} {Q : Value → Shared → Prop} (I : Inv X pins σ H s) (hD : H D = some (SetTx X.w D ks)) (room : ks.length + 1 < scanBound) (ru : RelV (.str y) u)
    (h : ∀ s', Inv X pins σ (upd H D (SetTx X.w D (Sx.once ks y))) s' → Q .none s') : wpAny (model X.prog X.w) X.A (call (.builtin "set.add") [.ref D, u]) Q E s := by
  obtain ⟨tk, rfl⟩ : ∃ tk, u = Value.str y tk := ru
  have R := setTx_get I hD
  have hS : s.heap.SetOf (PySem.strKind X.prog X.w) D (fun x => decide (x ∈ ks)) ks.length := R.setOf
  refine wpAny_call_entry F.slot_set_add hS.typeIs F.entry_set_add ?_ (F.args_set_add_2 _ _)
  unfold Builtin.«set.add» Builtin.Frozenset.oneOther
  simp only [List.isEmpty_nil, bind_assoc]
  unfold Builtin.Frozenset.addrOf setAdd
  refine wpAny_bind (wpAny_pure ?_)
  try dsimp only
  refine wpAny_bind (wpAny_pure ?_)
  try dsimp only
  refine wpAny_bind (wpAny_holding (wpAny_bind ((PySem.strKind X.prog X.w).pyHash (k := y) (strKind_is X.prog X.w y tk) ?_)))
  refine put_hashed (s := { s with toks := s.toks + 1 }) R room fun h' b sb new => ?_
  show wpAny _ _ (ret Value.none) _ _ _
  have he : ∃ q, h'.get? D = some q := by
    obtain ⟨o, _, _, _, ho, _⟩ := id new
    exact ⟨o, ho⟩
  exact wpAny_pure ⟨_, rfl, h _ (I.write (e := D) (t' := s.toks + 1) (by rw [hD]; trivial) (.inl rfl) (fun b u hb hu => (sb.2 b hb).trans hu) he (setTx_new new))⟩
/-- {y for .. for ..}: D the new set -/
def tSc2 (w : World) (wi : TI) (g : TG) (tt : TT) (wi1 : TI) (g1 : TG) (tt1 : TT) (te : TE) (vs vs1 : List Nat) : TE := fun σ H Q => wi σ H fun J H1 => ∀ D, H1 D = none → ∃ W : Nat → Nat → Hp → Prop, (∃ m, W 0 m (upd H1 D (SetTx w D []))) ∧ ∀ i m H, W i m H →
  (J.stop i H ∧ Q (.ref D) H) ∨ (J.go i H ∧ ∃ Nx : Hp → Prop, (∀ H', Nx H' → ∃ m', m' < m ∧ W (i + 1) m' H') ∧ ∀ x H', J.yld i H x H' → g x (wipe σ vs) H' fun σ2 H2 => wipe σ2 vs = wipe σ vs ∧ tt σ2 H2 fun b H3 =>
    if b = true then wi1 σ2 H3 fun J1 H4 => ∃ W1 : Nat → Nat → Hp → Prop, (∃ m, W1 0 m H4) ∧ ∀ j k H, W1 j k H →
      (J1.stop j H ∧ Nx H) ∨ (J1.go j H ∧ ∃ Nx1 : Hp → Prop, (∀ H', Nx1 H' → ∃ k', k' < k ∧ W1 (j + 1) k' H') ∧ ∀ x H', J1.yld j H x H' → g1 x (wipe σ2 vs1) H' fun σ3 H5 => wipe σ3 vs1 = wipe σ2 vs1 ∧ tt1 σ3 H5 fun b H6 =>
        if b = true then te σ3 H6 fun y H7 => ∃ x ks, y = .str x ∧ H7 D = some (SetTx w D ks) ∧ ks.length + 1 < scanBound ∧ Nx1 (upd H7 D (SetTx w D (Sx.once ks x))) else Nx1 H6)
    else Nx H3)
abbrev benv (X : Cx) (sc : Scope) (s : Shared) : Env := compEnvC sc (cellsFrom (s.heap.objs.size + 1) sc.names (cloFrom X.env.cells sc.names [])) s.heap.objs.size X.env
theorem newset {M : World} {P : Program} {A : Around} {E : Value → Shared → Prop} {s : Shared} {Q : Value → Shared → Prop} (h : Q (.ref s.heap.objs.size) { s with heap := s.heap.push (setObj0 M) }) : wpAny (model P M) A (newSet (.type "set")) Q E s := PpSet.newSet_ok h
theorem core {pins : List (Addr × Obj)} {s : Shared} {σ : L2.St} {H : Hp} {Q : VK} {e t0 i0 t1 i1 : Expr} {f0 f1 : List Expr} {sc : Scope} {own : List (Str × Nat)} {vs1 : List Nat} {p p' : Pos} {wi wi1 : TI} {g g1 : TG} {tt tt1 : TT} {te : TE} {Qf : Value → Shared → Prop}
    (hc : X.calm = true) (hN : X.N.Nodup) (I : Inv X pins σ H s) (hi : PI X t0 i0 wi) (ok : BlkOk X.N X.env.scope sc own) (hv : ∀ i ∈ vs1, i ∈ own.map (·.2))
    (hg : ∀ (s : Shared) (H : Hp) (C : Addr) (cl : List (Str × Addr)) (fp : List Addr), PG (X.blk s H sc (compEnvC sc cl C X.env) fp) t0 g) (ht : ∀ (s : Shared) (H : Hp) (C : Addr) (cl : List (Str × Addr)) (fp : List Addr), PTs (X.blk s H sc (compEnvC sc cl C X.env) fp) f0 tt)
    (he : ∀ (s : Shared) (H : Hp) (C : Addr) (cl : List (Str × Addr)) (fp : List Addr), PE (X.blk s H sc (compEnvC sc cl C X.env) fp) e te) (hs : ∀ x, foldedSetIterable i0 X.env x = pure x)
    (hi1 : ∀ (s : Shared) (H : Hp) (C : Addr) (cl : List (Str × Addr)) (fp : List Addr), PI (X.blk s H sc (compEnvC sc cl C X.env) fp) t1 i1 wi1)
    (hg1 : ∀ (s : Shared) (H : Hp) (C : Addr) (cl : List (Str × Addr)) (fp : List Addr), PG (X.blk s H sc (compEnvC sc cl C X.env) fp) t1 g1)
    (ht1 : ∀ (s : Shared) (H : Hp) (C : Addr) (cl : List (Str × Addr)) (fp : List Addr), PTs (X.blk s H sc (compEnvC sc cl C X.env) fp) f1 tt1) (hs1 : ∀ env x, foldedSetIterable i1 env x = pure x)
    (h : tSc2 X.w wi g tt wi1 g1 tt1 te (own.map (·.2)) vs1 σ H Q)
    (hRR : ∀ D C s' m H', Inv X pins σ H' s' → Q (.ref D) H' → s'.heap.Ns C m → FpOk X pins H' C → compPost (model X.prog X.w) X.A X.xe none Qf (.ref D) C (.ok .next) s') :
    wpAny (model X.prog X.w) X.A (comprehension (two e t0 i0 f0 t1 i1 f1 sc p) sc X.env p' (newSet (.type "set")) false (eval i0 X.env) none) Qf X.xe s := by
  have hfree : ∀ y ∈ sc.names, y.2 = .free → ∃ c, X.env.cells.lookup y.1 = some c := by
    intro y hy z
    exact (ok.free y hy z).elim (fun k => I.ok.has _ (.inl k)) fun k => I.ok.has _ (.inr k)
  refine wpAny_comprehension_free (use := none) rfl hs (closure_ok hfree) ok.kind (fun y hy z => by rw [ok.uniq y hy, z]) (thn (hi.run pins s σ H _ I h) fun _ _ hx => thn hx fun itv s2 h2 => ?_)
  obtain ⟨it, fp, tn, J, H2, rfl, I2, T, st2, f2, q⟩ := h2
  refine newset (newEnv_comp ?_)
  generalize hD : s2.heap.objs.size = D
  have nD : H2 D = none := I2.hok.fresh (Nat.le_of_eq hD)
  obtain ⟨W, ⟨m0, w0⟩, turn⟩ := q D nD
  generalize hs3 : ({ s2 with heap := s2.heap.push (setObj0 X.w) } : Shared) = s3
  have h3 : s3.heap = s2.heap.push (setObj0 X.w) := by subst hs3; rfl
  have I3 : Inv X pins σ (upd H2 D (SetTx X.w D [])) s3 := by
    subst hs3 hD
    exact I2.laid (t' := s2.toks) (fun _ _ z => Heap.get?_push_of_some _ z) (Nat.le_refl _) (setTx_new (setS_fresh (Heap.get?_push_size _ rfl)))
  have f3 : ∀ b ∈ fp, FpOk X pins (upd H2 D (SetTx X.w D [])) b ∧ b < s3.heap.objs.size := by
    intro b hb
    obtain ⟨o, z, _⟩ := T.obj _ _ st2 b hb
    have lt := Heap.lt_size z
    refine ⟨⟨?_, (f2 b hb).2⟩, by rw [h3, Heap.size_push]; exact Nat.lt_succ_of_lt lt⟩
    rw [upd_ne (by subst hD; exact Nat.ne_of_lt lt)]
    exact (f2 b hb).1
  have st3 : tn 0 s3.heap := T.keep _ _ _ st2 fun b _ o z => by
    rw [h3]; exact Heap.get?_push_of_some _ z
  have I4 := block_start I3 ok hN f3
  show codeAny _ _ (.compStart (two e t0 i0 f0 t1 i1 f1 sc p) 0 (.ref it) (.ref D) (benv X sc s3)) (compPost (model X.prog X.w) X.A X.xe none Qf (.ref D) s3.heap.objs.size) { s3 with heap := pushCells (s3.heap.push { cls := .type "dict", data := .dict #[] }) sc.names }
  have pg := hg s3 (upd H2 D (SetTx X.w D [])) s3.heap.objs.size (cellsFrom (s3.heap.objs.size + 1) sc.names (cloFrom X.env.cells sc.names [])) fp
  have pt := ht s3 (upd H2 D (SetTx X.w D [])) s3.heap.objs.size (cellsFrom (s3.heap.objs.size + 1) sc.names (cloFrom X.env.cells sc.names [])) fp
  have pe := he s3 (upd H2 D (SetTx X.w D [])) s3.heap.objs.size (cellsFrom (s3.heap.objs.size + 1) sc.names (cloFrom X.env.cells sc.names [])) fp
  have qi := hi1 s3 (upd H2 D (SetTx X.w D [])) s3.heap.objs.size (cellsFrom (s3.heap.objs.size + 1) sc.names (cloFrom X.env.cells sc.names [])) fp
  have qg := hg1 s3 (upd H2 D (SetTx X.w D [])) s3.heap.objs.size (cellsFrom (s3.heap.objs.size + 1) sc.names (cloFrom X.env.cells sc.names [])) fp
  have qt := ht1 s3 (upd H2 D (SetTx X.w D [])) s3.heap.objs.size (cellsFrom (s3.heap.objs.size + 1) sc.names (cloFrom X.env.cells sc.names [])) fp
  have n3 : ∀ b ∈ fp, (upd H2 D (SetTx X.w D [])) b = none := fun b hb => (f3 b hb).1.1
  generalize hce : benv X sc s3 = ce
  rw [show compEnvC sc (cellsFrom (s3.heap.objs.size + 1) sc.names (cloFrom X.env.cells sc.names [])) s3.heap.objs.size X.env = ce from hce] at I4 pg pt pe qi qg qt
  have cL : ce.locals = s3.heap.objs.size := by subst hce; rfl
  generalize hH3 : upd H2 D (SetTx X.w D []) = H3 at I3 I4 pg pt pe qi qg qt w0 n3 f3
  generalize hs4 : ({ s3 with heap := pushCells (s3.heap.push { cls := .type "dict", data := .dict #[] }) sc.names } : Shared) = s4 at I4 ⊢
  have st4 : tn 0 s4.heap := T.keep _ _ _ st3 fun b _ o z => by
    subst hs4
    exact pushCells_keeps _ _ _ _ (Heap.get?_push_of_some _ z)
  have stat : ∀ {σ' : L2.St} {H' : Hp} {s' : Shared}, Inv (X.blk s3 H3 sc ce fp) [] σ' H' s' → (∀ b ∈ fp, H' b = none) → ∀ b ∈ fp, FpOk (X.blk s3 H3 sc ce fp) [] H' b := by
    intro σ' H' s' I' hn b hb
    exact ⟨hn b hb, (I'.ok.exf b hb).1, I'.ok.exfs b hb, .inl hb, fun x c z => (I'.ok.exf b hb).2 x c z, fun q hq => absurd (show q ∈ ([] : List (Addr × Obj)) ++ [] from hq) (by simp)⟩
  let JJ : Nat → Shared → Prop := fun n s' => ∃ i H', Inv (X.blk s3 H3 sc ce fp) [] (wipe σ (own.map (·.2))) H' s' ∧ tn i s'.heap ∧ (∀ b ∈ fp, H' b = none) ∧ W i n H'
  have loop : codeAny (model X.prog X.w) X.A (.compLoop (two e t0 i0 f0 t1 i1 f1 sc p) 0 (.ref it) (.ref D) ce) (compPost (model X.prog X.w) X.A X.xe none Qf (.ref D) s3.heap.objs.size) s4 := ?loop
  exact PpSet.codeAny_compStart_set loop (T.self X.A 0 _ _ _ st4 loop)
  refine loop_a (hs1 ce) JJ ?_ m0 ⟨0, H3, I4, st4, n3, w0⟩
  rintro n s5 ⟨i, H5, I5, st5, n5, w5⟩
  rcases turn i n H5 w5 with ⟨stop, qq⟩ | ⟨gos, Nx, hNx, step⟩
  · refine thnF (T.done (X.blk s3 H3 sc ce fp) rfl rfl rfl hc i [] s5 _ H5 (fun _ _ => False) I5 (stat I5 n5) st5 stop) fun r s6 ⟨hr, I6⟩ => ?_
    subst hr
    have I7 : Inv X pins σ H5 s6 := I3.call' (ch := fp) I6.os I6.base I6.hok I6.bare fun b hb => by
      obtain ⟨_, z1, _, z3, z4, z5⟩ := (f3 b hb).1
      exact ⟨z3, z1, z4, z5⟩
    have nC : H5 s3.heap.objs.size = none := cL ▸ (show H5 ce.locals = none from I6.free)
    obtain ⟨m, hn, _⟩ := I6.loc
    exact hRR D s3.heap.objs.size s6 m H5 I7 qq (cL ▸ (show s6.heap.Ns ce.locals m from hn)) (I3.fpOk (Nat.le_refl _) nC)
  · refine thnF (T.item (X.blk s3 H3 sc ce fp) rfl rfl rfl hc i [] s5 _ H5 (fun _ _ => False) I5 (stat I5 n5) st5 gos) fun r s6 ⟨u, hr, h6⟩ => ?_
    subst hr
    refine thnF h6 fun _ s7 ⟨x, H7, I7, r7, y7, st7, n7⟩ => ?_
    have I7' := I7.pinned (stat I7 n7) (T.obj _ _ st7)
    refine thnF (pg.run _ s7 _ H7 x u _ I7' r7 (step x H7 y7)) fun _ s8 ⟨σ8, H8, I8, hw8, q8⟩ => ?_
    refine thnF (pt.run _ s8 σ8 H8 _ I8 q8) fun b s9 ⟨H9, I9, q9⟩ => ?_
    have fin : ∀ {σ9 : L2.St} {s' : Shared} {H' : Hp}, Inv (X.blk s3 H3 sc ce fp) ([] ++ pinsAt fp s7.heap) σ9 H' s' → (wipe σ (own.map (·.2))).length = σ9.length → (∀ (j : Nat) v, (wipe σ (own.map (·.2)))[j]? = some (some v) → σ9[j]? = some (some v)) → Nx H' → ∃ m, m < n ∧ JJ m s' := by
      intro σ9 s' H' I' hl hk nx
      obtain ⟨m', hm, w'⟩ := hNx H' nx
      have pin' : ∀ b ∈ fp, ∀ o, s7.heap.get? b = some o → s'.heap.get? b = some o ∧ H' b = none := by
        intro b hb o z
        have y := I'.pin (b, o) (List.mem_append_right _ (List.mem_append_right _ (mem_pinsAt hb z)))
        exact ⟨y.1, y.2.1⟩
      refine ⟨m', hm, i + 1, H', (I'.unpinned (pins := [])).weak hl hk, T.keep _ _ _ st7 fun b hb o z => (pin' b hb o z).1, fun b hb => ?_, w'⟩
      obtain ⟨o, z, _⟩ := T.obj _ _ st7 b hb
      exact (pin' b hb o z).2
    have l8 : (wipe σ (own.map (·.2))).length = σ8.length := by rw [← hw8, wipe_length]
    have k8 : ∀ (j : Nat) v, (wipe σ (own.map (·.2)))[j]? = some (some v) → σ8[j]? = some (some v) := by
      intro j v z
      rw [← hw8] at z
      exact (wipe_some z).1
    have k9 : ∀ (j : Nat) v, (wipe σ (own.map (·.2)))[j]? = some (some v) → (wipe σ8 vs1)[j]? = some (some v) := by
      intro j v z
      rw [← hw8] at z
      obtain ⟨z1, z2⟩ := wipe_some z
      rw [wipe_out fun y => z2 (hv j y)]
      exact z1
    cases b with
    | false =>
      simp only [Bool.false_eq_true, if_false] at q9 ⊢
      exact fin I9 l8 k8 q9
    | true =>
      simp only [if_true] at q9 ⊢
      refine thnF (qi.run _ s9 σ8 H9 _ I9 q9) fun _ _ hx => thnF hx fun itv sB hB => ?_
      obtain ⟨jt, fq, un, J1, HB, rfl, IB, U, stB, fB, W1, ⟨m1, w1⟩, turn1⟩ := hB
      have stat1 : ∀ {H' : Hp}, (∀ b ∈ fq, H' b = none) → ∀ b ∈ fq, FpOk (X.blk s3 H3 sc ce fp) ([] ++ pinsAt fp s7.heap) H' b := fun hn b hb => ⟨hn b hb, (fB b hb).2⟩
      let KK : Nat → Shared → Prop := fun k s' => ∃ j H', Inv (X.blk s3 H3 sc ce fp) ([] ++ pinsAt fp s7.heap) (wipe σ8 vs1) H' s' ∧ un j s'.heap ∧ (∀ b ∈ fq, H' b = none) ∧ W1 j k H'
      have inner : codeAny (model X.prog X.w) X.A (.compLoop (two e t0 i0 f0 t1 i1 f1 sc p) 1 (.ref jt) (.ref D) ce) (fun r s' => match r with
            | .ok _ => ∃ m, m < n ∧ JJ m s'
            | .error _ => False) sB := ?inner
      exact start_b inner (U.self X.A 0 _ _ _ stB inner)
      refine loop_b KK ?_ m1 ⟨0, HB, IB.weak (wipe_length _ _) (fun j v z => (wipe_some z).1), stB, fun b hb => (fB b hb).1, w1⟩
      rintro k sC ⟨j, HC, IC, stC, nC, wC⟩
      rcases turn1 j k HC wC with ⟨stop1, nx1⟩ | ⟨gos1, Nx1, hNx1, step1⟩
      · refine thnF (U.done (X.blk s3 H3 sc ce fp) rfl rfl rfl hc j _ sC (wipe σ8 vs1) HC (fun _ _ => False) IC (stat1 nC) stC stop1) fun r sD ⟨hr, ID⟩ => ?_
        subst hr
        exact fin ID (l8.trans (wipe_length σ8 vs1).symm) k9 nx1
      · refine thnF (U.item (X.blk s3 H3 sc ce fp) rfl rfl rfl hc j _ sC (wipe σ8 vs1) HC (fun _ _ => False) IC (stat1 nC) stC gos1) fun r sD ⟨u1, hr, hD2⟩ => ?_
        subst hr
        refine thnF hD2 fun _ sE ⟨x1, HE, IE, rE, yE, stE, nE⟩ => ?_
        have IE' := IE.pinned (stat1 nE) (U.obj _ _ stE)
        refine thnF (qg.run _ sE (wipe σ8 vs1) HE x1 u1 _ IE' rE (step1 x1 HE yE)) fun _ sF ⟨σF, HF, IF, hwF, qF⟩ => ?_
        refine thnF (qt.run _ sF σF HF _ IF qF) fun b1 sG ⟨HG, IG, qG⟩ => ?_
        have fin1 : ∀ {s' : Shared} {H' : Hp}, Inv (X.blk s3 H3 sc ce fp) (([] ++ pinsAt fp s7.heap) ++ pinsAt fq sE.heap) σF H' s' → Nx1 H' → ∃ m, m < k ∧ KK m s' := by
          intro s' H' I' nx
          obtain ⟨m', hm, w'⟩ := hNx1 H' nx
          have pin' : ∀ b ∈ fq, ∀ o, sE.heap.get? b = some o → s'.heap.get? b = some o ∧ H' b = none := by
            intro b hb o z
            have y := I'.pin (b, o) (List.mem_append_right _ (List.mem_append_right _ (mem_pinsAt hb z)))
            exact ⟨y.1, y.2.1⟩
          refine ⟨m', hm, j + 1, H', I'.unpinned.weak (by rw [← hwF, wipe_length]) (fun j v z => ?_), U.keep _ _ _ stE fun b hb o z => (pin' b hb o z).1, fun b hb => ?_, w'⟩
          · rw [← hwF] at z
            exact (wipe_some z).1
          · obtain ⟨o, z, _⟩ := U.obj _ _ stE b hb
            exact (pin' b hb o z).2
        cases b1 with
        | false =>
          simp only [Bool.false_eq_true, if_false] at qG ⊢
          exact fin1 IG qG
        | true =>
          simp only [if_true] at qG ⊢
          refine thnF (pe.run _ sG σF HG _ IG qG) fun z sH ⟨yv, HH, IH, rH, x, ks, ey, hDH, roomH, nx⟩ => ?_
          subst ey
          exact add_ok (X := X.blk s3 H3 sc ce fp) IH hDH roomH rH fun sI II => fin1 II nx
/-- as a value -/
theorem pe_sc2 {e t0 i0 t1 i1 : Expr} {f0 f1 : List Expr} {sc : Scope} {own : List (Str × Nat)} {vs1 : List Nat} {p : Pos} {wi wi1 : TI} {g g1 : TG} {tt tt1 : TT} {te : TE} (hc : X.calm = true) (hN : X.N.Nodup) (hi : PI X t0 i0 wi) (ok : BlkOk X.N X.env.scope sc own) (hv : ∀ i ∈ vs1, i ∈ own.map (·.2))
    (hg : ∀ (s : Shared) (H : Hp) (C : Addr) (cl : List (Str × Addr)) (fp : List Addr), PG (X.blk s H sc (compEnvC sc cl C X.env) fp) t0 g) (ht : ∀ (s : Shared) (H : Hp) (C : Addr) (cl : List (Str × Addr)) (fp : List Addr), PTs (X.blk s H sc (compEnvC sc cl C X.env) fp) f0 tt)
    (hi1 : ∀ (s : Shared) (H : Hp) (C : Addr) (cl : List (Str × Addr)) (fp : List Addr), PI (X.blk s H sc (compEnvC sc cl C X.env) fp) t1 i1 wi1)
    (hg1 : ∀ (s : Shared) (H : Hp) (C : Addr) (cl : List (Str × Addr)) (fp : List Addr), PG (X.blk s H sc (compEnvC sc cl C X.env) fp) t1 g1)
    (ht1 : ∀ (s : Shared) (H : Hp) (C : Addr) (cl : List (Str × Addr)) (fp : List Addr), PTs (X.blk s H sc (compEnvC sc cl C X.env) fp) f1 tt1)
    (he : ∀ (s : Shared) (H : Hp) (C : Addr) (cl : List (Str × Addr)) (fp : List Addr), PE (X.blk s H sc (compEnvC sc cl C X.env) fp) e te) (hs : ∀ x, foldedSetIterable i0 X.env x = pure x := by intro _; rfl) (hs1 : ∀ env x, foldedSetIterable i1 env x = pure x := by intro _ _; rfl) :
    PE X (.SetComp e [⟨t0, i0, f0, 0⟩, ⟨t1, i1, f1, 0⟩] sc p) (tSc2 X.w wi g tt wi1 g1 tt1 te (own.map (·.2)) vs1) := by
  refine ⟨fun pins s σ H Q I h => ?_⟩
  rw [PpSet.eval_SetComp]
  refine core hc hN I hi ok hv hg ht he hs hi1 hg1 ht1 hs1 h fun D C s' m H' I' q hn f => ⟨m, hn, fun h2 sb => ?_⟩
  obtain ⟨f0, f1, f2, f3, f4, f5⟩ := f
  exact ⟨.ref D, H', I'.turned (t' := s'.toks) (fun b o hb z => (sb.2 b hb).trans z) f0 f1 f3 f4 f5, rfl, q⟩
end
end Sc2
end
section
set_option maxHeartbeats 4000000
/-! list(d.values()) -/
namespace LVals
open PySem PySem.Spec PyProof.Rows L2
def tVals (te : TE) : TE := fun σ H Q => te σ H fun x H1 => ∃ d kvs, x = .ref d ∧ H1 d = some (.dK kvs) ∧ ∀ q, H1 q = none → Q (.ref q) (upd H1 q (.lst (kvs.map (·.2))))
theorem vals_list {kvs : List (Key × V)} {ws : List (Key × Value)} (r : KV kvs ws) {acc : Array Value} (h : ItemsOf (fun i v => ∃ k, ws[i]? = some (k, v)) acc ws.length) : Vals (kvs.map (·.2)) acc.toList := by
  refine vals_of_at (by
    have h0 : acc.toList.length = ws.length := by simpa using h.1
    rw [List.length_map, h0]; exact Paired.length r) fun j x u e1 e2 => ?_
  rw [Array.getElem?_toList] at e2
  obtain ⟨k, hk⟩ := h.2 j u e2
  rw [List.getElem?_map] at e1
  cases e3 : kvs[j]? with
  | none => rw [e3] at e1; cases e1
  | some kv =>
    rw [e3] at e1
    obtain rfl : kv.2 = x := Option.some.inj e1
    obtain ⟨y, hy, h1, h2⟩ := LiI.paired_get r e3
    rw [hk] at hy
    cases hy
    exact h2
section
variable {X : Cx} {e : Expr} {te : TE} {p apos cpos pos : Pos}
theorem pe_listVals (hc : X.calm = true) (he : PE X e te) (hg : Gl X "list") (hm : X.mg "list" = none) (hv : bootBuiltins "list" = some (.type "list")) (hbase : attributeBase e "values" X.env (eval e X.env) = eval e X.env := by rfl) (hline : (apos.endLine == cpos.line) = true := by rfl)
    (hs : starEach [.Call (.Attribute e "values" apos) [] [] cpos] X.env = (false, eval (.Call (.Attribute e "values" apos) [] [] cpos) X.env) :: starEach [] X.env := by rfl) :
    PE X (.Call (.Name "list" p) [.Call (.Attribute e "values" apos) [] [] cpos] [] pos) (tVals te) := by
  refine ⟨fun pins s σ H Q I hq => wpAny_Call_Name_kw (ld_blt I hg hm hv (PyProof.Rows.callWith_type1 ?_ hs rfl))⟩
  rw [hs]
  show wpAny _ _ (spliced ((false, eval (.Call (.Attribute e "values" apos) [] [] cpos) X.env) :: backTo pos (starEach [] X.env))) _ _ s
  refine Calls.spliced_cons (wpAny_Call_method (T := "dict") (id := "dict.values") hbase rfl hline F.plainAttrs_dict F.slot_dict_values F.type_dict_values (thn (he.run pins s σ H _ I hq) fun u s1 ⟨x, H1, I1, rx, d, kvs, ex, hd, q⟩ => ?_))
  subst ex
  obtain rfl : u = Value.ref d := rx
  obtain ⟨hz, lo, ws, kv, hdo⟩ := I1.hok d _ hd
  obtain ⟨ep, hat⟩ := hdo.dictAt
  have lk : kvs.length = ws.length := Paired.length kv
  have I2 : Inv X pins σ H1 { s1 with heap := s1.heap.push { cls := .type "dict_values", data := .fields #[.ref d] } } := I1.kept (t' := s1.toks) fun b ob z => Heap.get?_push_of_some _ z
  refine ⟨hdo.typeIs, hdo.mapOf.noDict, ?_⟩
  show wpAny _ _ (callWith cpos (.builtin "dict.values") [.ref d] [] []) _ X.xe s1
  refine method_meetsIn F.slot_dict_values F.entry_dict_values rfl (PySem.evalArgs_none ⟨rfl, hdo.typeIs, F.args_dict_values_1 _, _, meets_dict_values (mixKind X.prog X.w) d lo, ⟨ws, hdo⟩, Calls.spliced_nil ?_⟩)
  refine PySem.W.kdl_call (PySem.W.kdl_values (knd := mixKind X.prog X.w) (kvs := ws) (ep := ep) (d := d)) (I2.ok.hd hc) ⟨⟨_, Heap.get?_push_size _ rfl, rfl, rfl⟩, hat.push _⟩ (by rw [← lk]; exact hz) fun h' tk acc c kk hS hacc => ?_
  refine ⟨.ref _, upd H1 _ (.lst (kvs.map (·.2))), I2.laid (t' := tk) kk (Nat.le_refl _) ⟨?_, acc.toList, c, vals_list kv hacc, ?_⟩, rfl, q _ (I2.hok.fresh (Nat.le_refl _))⟩
  · rw [List.length_map]; exact hz
  · rw [Array.toArray_toList]; exact hS
end
end LVals
end
section
set_option maxHeartbeats 8000000
/-! a book of rows, as it stands; calls that may raise -/
namespace K1
open PySem PySem.Spec PyProof.Rows L2 Gr GxR Srx
/-- number, where the row stands, the row -/
abbrev Tb1 := List (Int × Addr × List Str)
def rws (tb : Tb1) : List (List Str) := tb.map (·.2.2)
def nums (tb : Tb1) : List Int := tb.map (·.1)
theorem kNR : ¬ (("_rows" : Str) = "_next_number") := by decide +kernel
def bfl (d : Addr) (n : Int) : List (Str × V) := putF "_next_number" (.int n) (putF "_rows" (.ref d) [])
theorem bfl_eq (d : Addr) (n : Int) : bfl d n = ([("_rows", V.ref d), ("_next_number", V.int n)] : List (Str × V)) := by
  show (if ("_rows" : Str) = "_next_number" then [(("_rows" : Str), V.int n)] else (("_rows" : Str), V.ref d) :: putF "_next_number" (V.int n) []) = _
  rw [if_neg kNR]
  rfl
theorem bfl_rows (d : Addr) (n : Int) : (bfl d n).lookup ("_rows" : Str) = some (.ref d) := by
  unfold bfl
  rw [lookup_putF, if_neg kNR, lookup_putF, if_pos rfl]
theorem bfl_next (d : Addr) (n : Int) : (bfl d n).lookup ("_next_number" : Str) = some (.int n) := by
  unfold bfl
  rw [lookup_putF, if_pos rfl]
def mOk (m : Str) : Bool := decide (¬ m = "_rows") && decide (¬ m = "_next_number")
theorem bfl_no {m : Str} (h : mOk m = true) (d : Addr) (n : Int) : (bfl d n).lookup m = none := by
  unfold mOk at h
  rw [Bool.and_eq_true] at h
  have h1 := of_decide_eq_true h.1
  have h2 := of_decide_eq_true h.2
  unfold bfl
  rw [lookup_putF, if_neg h2, lookup_putF, if_neg h1]
  rfl
theorem bfl_put (d : Addr) (n m : Int) : putF "_next_number" (.int m) (bfl d n) = bfl d m := by
  rw [bfl_eq, bfl_eq]
  show (if ("_rows" : Str) = "_next_number" then _ else (("_rows" : Str), V.ref d) :: (if ("_next_number" : Str) = "_next_number" then [(("_next_number" : Str), V.int m)] else _)) = _
  rw [if_neg kNR, if_pos rfl]
/-- the entries of a book's dict -/
def kvB (tb : Tb1) : List (Key × V) := tb.map fun e => ((Sum.inl e.1 : Key), V.ref e.2.1)
/-- at b: a book, its dict at d -/
structure Bk (C : Addr) (H : Hp) (b d : Addr) (tb : Tb1) (n : Int) : Prop where
  ob : ∃ dx, H b = some (.ins C dx (bfl d n))
  dc : H d = some (.dK (kvB tb))
  own : ∀ e ∈ tb, H e.2.1 = some (.lst (e.2.2.map V.str))
theorem Bk.gr {C b d : Addr} {H H' : Hp} {tb : Tb1} {n : Int} (B : Bk C H b d tb n) (g : Gr H H') : Bk C H' b d tb n := by
  obtain ⟨⟨dx, e⟩, e2, e3⟩ := B
  exact ⟨⟨dx, g.at_ _ _ e fun _ z => nomatch z⟩, g.at_ _ _ e2 fun _ z => (nomatch z), fun e he => g.lst (e3 e he)⟩
theorem Bk.grx {X : Addr → Prop} {C b d : Addr} {H H' : Hp} {tb : Tb1} {n : Int} (B : Bk C H b d tb n) (g : GrX X H H') (nb : ¬ X b) (nd : ¬ X d) (no : ∀ e ∈ tb, ¬ X e.2.1) : Bk C H' b d tb n := by
  obtain ⟨⟨dx, e⟩, e2, e3⟩ := B
  exact ⟨⟨dx, g.at_ _ _ nb e fun _ z => nomatch z⟩, g.at_ _ _ nd e2 fun _ z => (nomatch z), fun e he => g.lst (no e he) (e3 e he)⟩
theorem Bk.ne {C b d : Addr} {H : Hp} {tb : Tb1} {n : Int} (B : Bk C H b d tb n) : b ≠ d := let ⟨_, e⟩ := B.ob; ne_of e B.dc (by intro z; cases z)
theorem Bk.neb {C b d : Addr} {H : Hp} {tb : Tb1} {n : Int} (B : Bk C H b d tb n) {e} (he : e ∈ tb) : e.2.1 ≠ b ∧ e.2.1 ≠ d := by
  obtain ⟨dx, z⟩ := B.ob
  exact ⟨ne_of (B.own e he) z (by intro z; cases z), ne_of (B.own e he) B.dc (by intro z; cases z)⟩
/-- what holds of a book's rows and numbers -/
structure Tok (tb : Tb1) (n : Int) : Prop where
  num : (nums tb).Pairwise (· < ·)
  bnd : ∀ e ∈ tb, 0 ≤ e.1 ∧ e.1 < n
  set : ∀ e ∈ tb, Ris e.2.2 ∧ Nms e.2.2
  few : tb.length ≤ 30
  nms : (allN (rws tb)).length ≤ 12
  n0 : 0 ≤ n
theorem Tok.nil : Tok [] 0 := ⟨.nil, fun _ z => absurd z List.not_mem_nil, fun _ z => absurd z List.not_mem_nil, by decide, by decide +kernel, by decide⟩
/-- a function by its name, that may raise; a method -/
structure MCalls (P : Program) (w : World) (K : PySem.W.Frag) (mg : Str → Option Value) (base : Heap) (CX : CXT) (k : Nat) (C : Addr) (m : Str) (sp : Sp) : Prop where
  ex : ∃ (f : Addr) (fd : FuncData) (ps : List Str), FnOk P w K mg base CX k f fd ps sp ∧ Meth K C m f ∧ Binds K fd ps []
/-- what is raised, by the slots -/
abbrev Pa (CX : CXT) (X : Cx) (E : L2.St → XK) : Prop := ∀ σ, PassesAt CX X σ (E σ)
theorem pa0 {X : Cx} : Pa CX0 X (fun _ => E0) := fun _ _ _ _ _ _ _ h => h.elim
theorem paL {X : Cx} : Pa (L2.CX X.prog X.w) X (fun _ => E0) := fun σ pins H s e s' I h => passL pins σ H s e s' I h
theorem paE {X : Cx} {E : XK} (tk : Takes X (fun cls d _ H => E cls d H)) : Pa (L2.CX X.prog X.w) X (fun _ => E) := fun σ pins H s e s' I h => passes_call tk (fun _ _ _ _ z => z) pins σ H s e s' I h
theorem paT {X : Cx} {W : WX} (tk : Takes X W) : Pa (L2.CX X.prog X.w) X (WE W) := fun σ => passAt tk σ
def tM (C : Addr) (sp : Sp) (E : L2.St → XK) (ta : TE) (t : TA) : TE := fun σ H Q => ta σ H fun x H1 => ∃ b d tb n, x = .ref b ∧ Bk C H1 b d tb n ∧ t σ H1 fun vs H2 => sp (.ref b :: vs) H2 Q (E σ)
def tF (sp : Sp) (E : L2.St → XK) (t : TA) : TE := fun σ H Q => t σ H fun vs H1 => sp vs H1 Q (E σ)
section
variable {X : Cx} {CX : CXT} {k j : Nat} {C : Addr} {sp : Sp} {E : L2.St → XK} {m x : Str} {p pos apos : Pos} {o e : Expr} {es : List Expr} {ta : TE} {t : TA}
theorem pe_m {pl : Sem Bool} (c : MCalls X.prog X.w X.K X.mg X.base CX k C m sp) (cl : Cls X.K C) (hr : Room j X.A) (hk : k ≤ j) (hx : Pa CX X E) (ho : PE X o ta) (ha : PA X (e :: es) t) (hm : mOk m = true := by decide +kernel)
    (h1 : starEach (e :: es) X.env = (false, eval e X.env) :: starEach es X.env := by rfl) (h2 : (backTo pos (starEach es X.env)).any (·.1) = false := by rfl)
    (h3 : eval (.Call (.Attribute o m apos) (e :: es) [] pos) X.env = (do
        let ov ← eval o X.env
        standAt apos.atName
        let (f, first) ← holding [ov] (getMethod ov m pl)
        callWith pos f first (backTo pos (starEach (e :: es) X.env)) (backToKw pos (keywordEach [] X.env))) := by rfl) :
    PE X (.Call (.Attribute o m apos) (e :: es) [] pos) (tM C sp E ta t) := by
  obtain ⟨f, fd, ps, F, me, bi⟩ := c.ex
  refine ⟨fun pins s σ H Q I h => PySem.W.methodCall_KW (pl := pl) (thn (ho.run pins s σ H _ I h) fun u s1 hu => ?_) h3⟩
  obtain ⟨x, H1, I1, rx, b, d, tb, n, rfl, B, q⟩ := hu
  obtain rfl : u = Value.ref b := rx
  obtain ⟨dx, eb⟩ := B.ob
  refine getmeth_ok I1 eb cl me (bfl_no hm d n) (PySem.W.callWith_K (first := [.ref b]) (h₀ := X.base) I.ok.mod.kin me.kp (thn (ha.run pos pins s1 σ H1 _ I1 q) fun us s2 hv => ?_) h1 h2)
  obtain ⟨vs, H2, I2, r, q2⟩ := hv
  exact ⟨I2.kIn, run_fnS (us := .ref b :: us) (vs := .ref b :: vs) F (hr.mono hk) bi (hx σ) I2 (.cons rfl r) q2⟩
theorem pe_m0 {pl : Sem Bool} (c : MCalls X.prog X.w X.K X.mg X.base CX k C m sp) (cl : Cls X.K C) (hr : Room j X.A) (hk : k ≤ j) (hx : Pa CX X E) (ho : PE X o ta) (hm : mOk m = true := by decide +kernel)
    (h3 : eval (.Call (.Attribute o m apos) [] [] pos) X.env = (do
        let ov ← eval o X.env
        standAt apos.atName
        let (f, first) ← holding [ov] (getMethod ov m pl)
        callWith pos f first (backTo pos (starEach [] X.env)) (backToKw pos (keywordEach [] X.env))) := by rfl) :
    PE X (.Call (.Attribute o m apos) [] [] pos) (tM C sp E ta tNil) := by
  obtain ⟨f, fd, ps, F, me, bi⟩ := c.ex
  refine ⟨fun pins s σ H Q I h => PySem.W.methodCall_KW (pl := pl) (thn (ho.run pins s σ H _ I h) fun u s1 hu => ?_) h3⟩
  obtain ⟨x, H1, I1, rx, b, d, tb, n, rfl, B, q⟩ := hu
  obtain rfl : u = Value.ref b := rx
  obtain ⟨dx, eb⟩ := B.ob
  exact getmeth_ok I1 eb cl me (bfl_no hm d n) (PySem.W.callWith_K0 (first := [.ref b]) I1.kIn me.kp (run_fnS (us := [.ref b]) (vs := [.ref b]) F (hr.mono hk) bi (hx σ) I1 (.cons rfl .nil) q))
theorem pe_f (c : Calls X.prog X.w X.K X.mg X.base CX k x sp) (hr : Room j X.A) (hk : k ≤ j) (hx : Pa CX X E) (hg : Gl X x) (ha : PA X (e :: es) t)
    (hdb : (x == ("__debug__" : Str)) = false := by decide) (he : starEach (e :: es) X.env = (false, eval e X.env) :: starEach es X.env := by rfl) (hpl : (backTo pos (starEach es X.env)).any (·.1) = false := by rfl) :
    PE X (.Call (.Name x p) (e :: es) [] pos) (tF sp E t) := by
  obtain ⟨f, fd, ps, F, hm, kp, b⟩ := c.ex
  exact pe_callS F (hr.mono hk) hg hm kp b hx ha hdb he hpl
end
end K1
namespace K1
open PySem PySem.Spec PyProof.Rows L2 Gr GxR Srx
/-- the tables of code of is_name, within, meets, least_of, _met_by, own -/
structure TabN where
  i : Addr
  w : Addr
  m : Addr
  l : Addr
  b : Addr
  o : Addr
structure TabN.S (N : TabN) (H : Hp) : Prop where
  i : TabG H N.i
  w : TabG H N.w
  m : TabG H N.m
  l : TabG H N.l
theorem TabN.S.gr {N : TabN} {H H' : Hp} (t : N.S H) (g : Gr H H') : N.S H' := ⟨g.tabG t.i, g.tabG t.w, g.tabG t.m, g.tabG t.l⟩
structure TabN.G (N : TabN) (H : Hp) : Prop where
  s : N.S H
  b : TabG H N.b
  o : TabG H N.o
theorem TabN.G.gr {N : TabN} {H H' : Hp} (t : N.G H) (g : Gr H H') : N.G H' := ⟨t.s.gr g, g.tabG t.b, g.tabG t.o⟩
theorem TabN.G.grx {X : Addr → Prop} {N : TabN} {H H' : Hp} (t : N.G H) (g : GrX X H H') : N.G H' := ⟨⟨g.tabG t.s.i, g.tabG t.s.w, g.tabG t.s.m, g.tabG t.s.l⟩, g.tabG t.b, g.tabG t.o⟩
/-- the errors' classes -/
structure ErN where
  name : Addr
  row : Addr
  no : Addr
  many : Addr
  meet : Addr
  un : Addr
/-- what is handed in as a list of names -/
def HOk (H : Hp) (v : V) (xs : List Str) : Prop := ∃ a, v = .ref a ∧ H a = some (.lst (xs.map V.str)) ∧ Nms xs ∧ xs.length ≤ 1000
def HBadN (K : PySem.W.Frag) (H : Hp) (v : V) : Prop := ∃ a vls, v = .ref a ∧ H a = some (.lst vls) ∧ (∀ v ∈ vls, Thing K H v) ∧ vls.length ≤ 1000 ∧ ∃ v ∈ vls, nmV v = false
def HBadR (K : PySem.W.Frag) (H : Hp) (v : V) : Prop := ∃ t : String, TyX K H v (.type t) ∧ kitB t "list" = some false
theorem HOk.gr {H H' : Hp} {v : V} {xs : List Str} (h : HOk H v xs) (g : Gr H H') : HOk H' v xs := let ⟨a, e, z, r⟩ := h; ⟨a, e, g.lst z, r⟩
theorem HBadN.gr {K : PySem.W.Frag} {H H' : Hp} {v : V} (h : HBadN K H v) (g : Gr H H') : HBadN K H' v := let ⟨a, vls, e, z, t, r⟩ := h; ⟨a, vls, e, g.lst z, fun v hv => (t v hv).gr g, r⟩
theorem HBadR.gr {K : PySem.W.Frag} {H H' : Hp} {v : V} (h : HBadR K H v) (g : Gr H H') : HBadR K H' v := let ⟨t, e, k⟩ := h; ⟨t, tyx_gr g e, k⟩
def spNamesFrom (K : PySem.W.Frag) (T : Addr) (R : ErN) : Sp := fun vs H Q E => ∃ v, vs = [v] ∧ TabG H T ∧
  ((∃ xs, HOk H v xs ∧ ∀ p H', Gr H H' → H p = none → H' p = some (.lst ((once xs).map V.str)) → Q (.ref p) H') ∨ (HBadN K H v ∧ ∀ H', Gr H H' → E (.ref R.name) none H') ∨ (HBadR K H v ∧ ∀ H', Gr H H' → E (.ref R.row) none H'))
def spRowFrom (K : PySem.W.Frag) (T : Addr) (R : ErN) : Sp := fun vs H Q E => ∃ v, vs = [v] ∧ TabG H T ∧
  ((∃ xs, HOk H v xs ∧ xs.Nodup ∧ ∀ p H', Gr H H' → H p = none → H' p = some (.lst ((once xs).map V.str)) → Q (.ref p) H') ∨ (∃ xs, HOk H v xs ∧ ¬ xs.Nodup ∧ ∀ H', Gr H H' → E (.ref R.row) none H') ∨ (HBadN K H v ∧ ∀ H', Gr H H' → E (.ref R.name) none H') ∨ (HBadR K H v ∧ ∀ H', Gr H H' → E (.ref R.row) none H'))
theorem nms_all {xs : List Str} : xs.all isNm = true ↔ Nms xs := by
  rw [List.all_eq_true]
  exact Iff.rfl
theorem nms_things {K : PySem.W.Frag} {H : Hp} {xs : List Str} (h : Nms xs) : ∀ v ∈ xs.map V.str, Thing K H v := by
  intro v hv
  obtain ⟨x, hx, rfl⟩ := List.mem_map.mp hv
  exact thing_str (by have := nm_len (h x hx); rw [sizeLine_eq]; omega)
theorem once_full {xs : List Str} (h : xs.Nodup) : (once xs).length = xs.length := by
  unfold once
  rw [srt_len, Sx.dd_id h]
theorem nodup_of_dd : ∀ {xs : List Str}, (Sx.dd xs).length = xs.length → xs.Nodup := by
  intro xs
  induction xs using snoc_ind with
  | h0 => exact fun _ => List.nodup_nil
  | h1 xs x ih =>
    intro h
    have e : Sx.dd (xs ++ [x]) = Sx.once (Sx.dd xs) x := by
      unfold Sx.dd
      rw [List.foldl_append]
      rfl
    rw [e] at h
    have h1 := Sx.dd_len xs
    by_cases hx : x ∈ Sx.dd xs
    · rw [show Sx.once (Sx.dd xs) x = Sx.dd xs from if_pos hx, List.length_append, List.length_singleton] at h
      omega
    · rw [show Sx.once (Sx.dd xs) x = Sx.dd xs ++ [x] from if_neg hx, List.length_append, List.length_append] at h
      have h2 := ih (by omega)
      refine List.nodup_append.mpr ⟨h2, by simp, fun a ha b hb z => ?_⟩
      have hb : b = x := by simpa using hb
      rw [z, hb] at ha
      exact hx (Sx.dd_mem.mpr ha)
theorem once_twice {xs : List Str} (h : ¬ xs.Nodup) : (once xs).length ≠ xs.length := by
  unfold once
  rw [srt_len]
  exact fun z => h (nodup_of_dd z)
end K1
namespace K1
open PySem PySem.Spec PyProof.Rows L2 Gr GxR Srx Skx Dcx
/-- [.. x ..] for texts x: each made anew -/
theorem lc_newT {K : PySem.W.Frag} {a D : Addr} {j : Nat} {σ : L2.St} {vs : List Nat} {te : TE} {H1 : Hp} {Qd : Hp → Prop} {xs : List Str} (F : Str → List Str)
    (hA : SqL K H1 a (xs.map V.str)) (few : xs.length < sizeLine) (hD : H1 D = none) (hw : ∀ v, wipe ((wipe σ vs).set j (some v)) vs = wipe σ vs)
    (he : ∀ x ∈ xs, ∀ (H4 : Hp) (Q' : VK), Gr H1 H4 → (∀ H5 l, Gr H4 H5 → H5 l = none → Q' (.ref l) (upd H5 l (.lst ((F x).map V.str)))) → te ((wipe σ vs).set j (some (.str x))) H4 Q')
    (q : ∀ H2 ps, Gr H1 H2 → Told H1 H2 D ps → ps.map (·.2) = xs.map F → Qd H2) :
    ∃ W : Nat → Nat → Hp → Prop, (∃ m, W 0 m (upd H1 D (.lst []))) ∧ ∀ i m H, W i m H →
      ((Itl K a).stop i H ∧ Qd H) ∨ ((Itl K a).go i H ∧ ∃ Nx : Hp → Prop, (∀ H', Nx H' → ∃ m', m' < m ∧ W (i + 1) m' H') ∧ ∀ x H', (Itl K a).yld i H x H' → gName j x (wipe σ vs) H' fun σ2 H2 => wipe σ2 vs = wipe σ vs ∧ tYes σ2 H2 fun b H3 =>
        if b = true then te σ2 H3 fun y H4 => ∃ acc, H4 D = some (.lst acc) ∧ acc.length < sizeLine ∧ Nx (upd H4 D (.lst (acc ++ [y]))) else Nx H3) := by
  refine lc_list (xs := xs.map V.str) (Qd := Qd) (fun i H2 => Gr H1 H2 ∧ ∃ ps, Told H1 H2 D ps ∧ ps.map (·.2) = (xs.take i).map F) ⟨Gr.new hD, [], Told.nil hD, rfl⟩ (fun i H2 _ h => h.1.seq hA) (fun i x H2 hx h => ?_) (fun H2 h => ?_)
  · obtain ⟨g2, ps, T, e⟩ := h
    obtain ⟨x0, hx0, rfl⟩ := get_map hx
    refine ⟨hw _, yesIf (he x0 (List.mem_of_getElem? hx0) H2 _ g2 fun H5 l g5 hl => ⟨_, ?_, ?_, (g2.trans g5).trans (Gr.new hl) |>.mut hD, ps ++ [(l, F x0)], (T.gr g5).snoc (g2.trans g5) hl, ?_⟩)⟩
    · rw [upd_ne (ne_of_none (g5.lst T.at_) hl)]
      exact g5.lst T.at_
    · rw [List.length_map]
      have h1 := congrArg List.length e
      rw [List.length_map, List.length_map, List.length_take] at h1
      omega
    · rw [List.map_append, e, take_map hx0]
      rfl
  · obtain ⟨g2, ps, T, e⟩ := h
    rw [List.length_map, List.take_length] at e
    exact q H2 ps g2 T e
/-- what grown finds for each set, unsorted -/
def found (S : List (List Str)) (r : List Str) : List (List Str) := S.flatMap fun s => if mt s r = true then [s] else r.map fun x => s ++ [x]
theorem found_snoc (A : List (List Str)) (s r : List Str) : found (A ++ [s]) r = found A r ++ (if mt s r = true then [s] else r.map fun x => s ++ [x]) := by
  unfold found
  rw [List.flatMap_append]
  simp
theorem found_once {S : List (List Str)} {r : List Str} (h : RisAll S) : (found S r).map once = cand S r := by
  unfold found cand
  rw [List.map_flatMap]
  refine congrArg List.flatten (List.map_congr_left fun s hs => ?_)
  split
  · rw [List.map_cons, List.map_nil, once_ris (h s hs)]
  · rw [List.map_map]
    rfl
theorem mt_once {s r : List Str} : mt s (once r) = mt s r := by
  rw [Bool.eq_iff_iff, mt_iff, mt_iff]
  exact ⟨fun ⟨y, h1, h2⟩ => ⟨y, h1, once_mem.mp h2⟩, fun ⟨y, h1, h2⟩ => ⟨y, h1, once_mem.mpr h2⟩⟩
theorem cand_once {S : List (List Str)} {r : List Str} (h : RisAll S) : least (cand S (once r)) = least (cand S r) := by
  have mem : ∀ z, z ∈ cand S (once r) ↔ z ∈ cand S r := by
    intro z
    rw [cand_mem, cand_mem]
    refine exists_congr fun s => and_congr_right fun _ => ?_
    rw [mt_once]
    refine or_congr_right (and_congr_right fun _ => exists_congr fun x => and_congr_left fun _ => once_mem)
  refine least_ext (cand_ris h) (cand_ris h) (fun a ha => ⟨a, (mem a).mp ha, wi_self a⟩) fun b hb => ⟨b, (mem b).mpr hb, wi_self b⟩
def spGrown (K : PySem.W.Frag) (N : TabN) : Sp := fun vs H Q _ => ∃ (a : Addr) (v : V) (ps : List (Addr × List Str)) (r : List Str), vs = [.ref a, v] ∧ LL H a ps ∧ (∀ q ∈ ps, Ris q.2 ∧ q.2.length ≤ 100) ∧ ps.length ≤ 5000 ∧ HOk H v r ∧ r.Nodup ∧ r.length ≤ 12 ∧ N.S H ∧
  ∀ p H' ks, Gr H H' → Told H H' p ks → ks.map (·.2) = least (cand (ps.map (·.2)) r) → Q (.ref p) H'
end K1
end
section
set_option maxHeartbeats 8000000
namespace K1
open PySem PySem.Spec PyProof.Rows L2 Gr GxR Srx Skx Dcx
theorem Told.snoc2 {H H2 H5 : Hp} {D l : Addr} {ps : List (Addr × List Str)} {x : List Str} (T : Told H H2 D ps) (g : Gr H H2) (g5 : Gr H2 H5) (hl : H2 l = none) (el : H5 l = some (.lst (x.map V.str))) : Told H (upd H5 D (.lst ((ps.map fun q => V.ref q.1) ++ [V.ref l]))) D (ps ++ [(l, x)]) := by
  have nD : l ≠ D := (ne_of_none T.at_ hl).symm
  refine ⟨T.new, by rw [upd_same, List.map_append]; rfl, fun q hq => ?_, ?_⟩
  · rcases List.mem_append.mp hq with hq | hq
    · obtain ⟨h1, h2, h3⟩ := T.own q hq
      exact ⟨h1, h2, by rw [upd_ne h2]; exact g5.lst h3⟩
    · rw [List.mem_singleton.mp hq]
      exact ⟨g.free hl, nD, by rw [upd_ne nD]; exact el⟩
  · rw [List.map_append]
    refine List.nodup_append.mpr ⟨T.nd, by simp, fun a ha b hb e => ?_⟩
    have hb : b = l := by simpa using hb
    obtain ⟨q, hq, rfl⟩ := List.mem_map.mp ha
    have h3 := (T.own q hq).2.2
    rw [e, hb, hl] at h3
    cases h3
/-- rows out of the names -/
theorem lc_rows {D : Addr} {j n : Nat} {σ : L2.St} {vs : List Nat} {te : TE} {H1 : Hp} {Qd : Hp → Prop} {N : List Str} (few : n ≤ 1000) (hD : H1 D = none) (hw : ∀ v, wipe ((wipe σ vs).set j (some v)) vs = wipe σ vs)
    (he : ∀ (k : Nat), k < n → ∀ (H4 : Hp) (Q' : VK), Gr H1 H4 → (∀ (l : Addr) (H5 : Hp) (ys : List Str), Gr H4 H5 → H4 l = none → H5 l = some (.lst (ys.map V.str)) → ys.Nodup → (∀ y ∈ ys, y ∈ N) → ys.length ≤ N.length → Q' (.ref l) H5) → te ((wipe σ vs).set j (some (.int ((0 : Int) + (k : Nat))))) H4 Q')
    (q : ∀ H2 ps, Gr H1 H2 → Told H1 H2 D ps → ps.length = n → (∀ q ∈ ps, q.2.Nodup ∧ (∀ y ∈ q.2, y ∈ N) ∧ q.2.length ≤ N.length) → Qd H2) :
    ∃ W : Nat → Nat → Hp → Prop, (∃ m, W 0 m (upd H1 D (.lst []))) ∧ ∀ i m H, W i m H →
      ((Itr 0 n).stop i H ∧ Qd H) ∨ ((Itr 0 n).go i H ∧ ∃ Nx : Hp → Prop, (∀ H', Nx H' → ∃ m', m' < m ∧ W (i + 1) m' H') ∧ ∀ x H', (Itr 0 n).yld i H x H' → gName j x (wipe σ vs) H' fun σ2 H2 => wipe σ2 vs = wipe σ vs ∧ tYes σ2 H2 fun b H3 =>
        if b = true then te σ2 H3 fun y H4 => ∃ acc, H4 D = some (.lst acc) ∧ acc.length < sizeLine ∧ Nx (upd H4 D (.lst (acc ++ [y]))) else Nx H3) := by
  refine lc_range (lo := 0) (n := n) (Qd := Qd) (fun i H2 => Gr H1 H2 ∧ ∃ ps, Told H1 H2 D ps ∧ ps.length = i ∧ ∀ q ∈ ps, q.2.Nodup ∧ (∀ y ∈ q.2, y ∈ N) ∧ q.2.length ≤ N.length) ⟨Gr.new hD, [], Told.nil hD, rfl, fun _ z => absurd z List.not_mem_nil⟩ (fun i H2 hi h => ?_) (fun H2 h => ?_)
  · obtain ⟨g2, ps, T, e, ok⟩ := h
    refine ⟨hw _, yesIf (he i hi H2 _ g2 fun l H5 ys g5 nl el nd mem ln => ⟨_, g5.lst T.at_, ?_, (g2.trans g5).mut hD, ps ++ [(l, ys)], T.snoc2 g2 g5 nl el, ?_, fun q hq => ?_⟩)⟩
    · rw [List.length_map, e]
      exact small1000 (by omega)
    · rw [List.length_append, e]
      rfl
    · rcases List.mem_append.mp hq with hq | hq
      · exact ok q hq
      · rw [List.mem_singleton.mp hq]
        exact ⟨nd, mem, ln⟩
  · obtain ⟨g2, ps, T, e, ok⟩ := h
    exact q H2 ps g2 T e ok
theorem Told.mask {H H' : Hp} {D p : Addr} {o : HO} {ps : List (Addr × List Str)} (T : Told H H' p ps) (e : H D = some o) : LL (mask D H') p ps :=
  ⟨by rw [mask_at (T.off e).1.symm]; exact T.at_, fun q hq => by rw [mask_at ((T.off e).2 q hq).symm]; exact (T.own q hq).2.2⟩
theorem LL.unmask {H : Hp} {D p : Addr} {ps : List (Addr × List Str)} (l : LL (mask D H) p ps) : LL H p ps := l.gr (gr_unmask D H)
theorem LL.off {H : Hp} {D p : Addr} {ps : List (Addr × List Str)} (l : LL (mask D H) p ps) : p ≠ D ∧ ∀ q ∈ ps, q.1 ≠ D := ⟨(mask_some l.at_).1, fun q hq => (mask_some (l.own q hq)).1⟩
/-- new lists stand in the masked heap, too -/
theorem LL.mask {H' : Hp} {D p : Addr} {ps : List (Addr × List Str)} (l : LL H' p ps) (np : p ≠ D) (nq : ∀ q ∈ ps, q.1 ≠ D) : LL (mask D H') p ps :=
  ⟨by rw [mask_at np]; exact l.at_, fun q hq => by rw [mask_at (nq q hq)]; exact l.own q hq⟩
theorem atI_end {α : Type} {xs : List α} {v : α} (h : xs.getLast? = some v) : atI xs (-1) = some v := by
  obtain ⟨ys, rfl⟩ := List.getLast?_eq_some_iff.mp h
  exact atI_last ys v
theorem LL.out {H : Hp} {p : Addr} {ps : List (Addr × List Str)} (l : LL H p ps) : p ∉ ps.map (·.1) := by
  intro z
  obtain ⟨q, hq, z⟩ := List.mem_map.mp z
  have h1 := l.own q hq
  rw [z, l.at_] at h1
  have h2 : (ps.map fun q => V.ref q.1) = q.2.map V.str := by injection (Option.some.inj h1)
  cases ps with
  | nil => cases hq
  | cons x r =>
    cases h3 : q.2 with
    | nil => rw [h3] at h2; cases h2
    | cons y s =>
      rw [h3] at h2
      injection h2 with h2
      cases h2
theorem least_len (l : List (List Str)) : (least l).length ≤ l.length := by
  rw [least_eq]
  refine Nat.le_trans (keep_sub _ []).length_le ?_
  rw [List.nil_append, (rkd_perm _).length_eq]
  exact Nat.le_refl _
theorem grown_len {N : List Str} (hN : Ris N) {rows : List (List Str)} (h : ∀ r ∈ rows, ∀ y ∈ r, y ∈ N) : (grown rows).length ≤ 2 ^ N.length := by
  rw [grown_eq hN rows h]
  refine Nat.le_trans (least_len _) ?_
  unfold tr
  refine Nat.le_trans (List.length_filter_le _ _) ?_
  rw [box_len]
  exact Nat.le_refl _
theorem ris_srt {xs : List Str} (h : xs.Nodup) : Ris (srt xs) := ris_of (srt_sorted xs) ((srt_perm xs).nodup_iff.mpr h)
theorem grown_in {N : List Str} (hN : Ris N) {rows : List (List Str)} (h : ∀ r ∈ rows, ∀ y ∈ r, y ∈ N) {s : List Str} (hs : s ∈ grown rows) : Ris s ∧ (∀ y ∈ s, y ∈ N) ∧ s.length ≤ N.length := by
  rw [grown_eq hN rows h] at hs
  have m := least_sub (tr_ris hN) hs
  obtain ⟨⟨h1, h2⟩, _⟩ := (tr_mem hN).mp m
  exact ⟨h1, h2, (sublist_of hN h1 h2).length_le⟩
theorem grown_snoc (rows : List (List Str)) (r : List Str) : grown (rows ++ [r]) = least (cand (grown rows) r) := by
  unfold grown
  rw [List.foldl_append]
  rfl
end K1
end
section
set_option maxHeartbeats 8000000
/-! what a book's methods promise -/
namespace K1
open PySem PySem.Spec PyProof.Rows L2 Gr GxR Srx Skx Dcx
structure BkC (K : PySem.W.Frag) (mg : Str → Option Value) (C : Addr) : Prop where
  cl : Cls K C
  nR : NoAttr K C "_rows"
  nN : NoAttr K C "_next_number"
  mgC : mg "Book" = some (.ref C)
/-! ### rows and names -/
theorem flatten_len : ∀ {rows : List (List Str)} {m : Nat}, (∀ r ∈ rows, r.length ≤ m) → rows.flatten.length ≤ rows.length * m
  | [], _, _ => Nat.zero_le _
  | r :: rows, m, h => by
    have h1 := flatten_len (rows := rows) (m := m) fun x hx => h x (List.mem_cons_of_mem _ hx)
    have h2 := h r List.mem_cons_self
    rw [List.flatten_cons, List.length_append, List.length_cons, Nat.succ_mul]
    omega
theorem allN_iff {rows : List (List Str)} {y : Str} : y ∈ allN rows ↔ ∃ r ∈ rows, y ∈ r := by
  unfold allN
  rw [once_mem, List.mem_flatten]
theorem ris_allN (rows : List (List Str)) : Ris (allN rows) := ris_once _
theorem row_in {rows : List (List Str)} {r : List Str} (hr : r ∈ rows) : ∀ y ∈ r, y ∈ allN rows := fun y hy => allN_iff.mpr ⟨r, hr, hy⟩
theorem rws_mem {tb : Tb1} {e : Int × Addr × List Str} (h : e ∈ tb) : e.2.2 ∈ rws tb := List.mem_map.mpr ⟨e, h, rfl⟩
theorem Tok.rlen {tb : Tb1} {n : Int} (T : Tok tb n) {r : List Str} (h : r ∈ rws tb) : Ris r ∧ Nms r ∧ r.length ≤ 12 := by
  obtain ⟨e, he, rfl⟩ := List.mem_map.mp h
  obtain ⟨h1, h2⟩ := T.set e he
  exact ⟨h1, h2, Nat.le_trans (sublist_of (ris_allN _) h1 (row_in h)).length_le T.nms⟩
theorem Tok.flat {tb : Tb1} {n : Int} (T : Tok tb n) : (rws tb).flatten.length ≤ 360 := by
  refine Nat.le_trans (flatten_len fun r h => (T.rlen h).2.2) ?_
  have h1 := T.few
  unfold rws
  rw [List.length_map]
  omega
theorem Tok.nmsN {tb : Tb1} {n : Int} (T : Tok tb n) : Nms (allN (rws tb)) := by
  intro y hy
  obtain ⟨r, hr, hy⟩ := allN_iff.mp hy
  exact (T.rlen hr).2.1 y hy
/-- what least tells of such a book -/
theorem Tok.grown {tb : Tb1} {n : Int} (T : Tok tb n) : (grown (rws tb)).length ≤ 4096 ∧ ∀ s ∈ grown (rws tb), Ris s ∧ Nms s ∧ s.length ≤ 12 := by
  have hN := ris_allN (rws tb)
  have hr : ∀ r ∈ rws tb, ∀ y ∈ r, y ∈ allN (rws tb) := fun r h => row_in h
  refine ⟨Nat.le_trans (grown_len hN hr) (Nat.pow_le_pow_right (by decide) T.nms : 2 ^ _ ≤ 2 ^ 12), fun s hs => ?_⟩
  obtain ⟨h1, h2, h3⟩ := grown_in hN hr hs
  exact ⟨h1, fun y hy => T.nmsN y (h2 y hy), Nat.le_trans h3 T.nms⟩
theorem rws_snoc (tb : Tb1) (e : Int × Addr × List Str) : rws (tb ++ [e]) = rws tb ++ [e.2.2] := by
  unfold rws
  rw [List.map_append]
  rfl
theorem once_congr {xs ys : List Str} (h : ∀ y, y ∈ xs ↔ y ∈ ys) : once xs = once ys := by
  have n1 := (ris_once xs).nodup
  have n2 := (ris_once ys).nodup
  refine sorted_one ((List.perm_ext_iff_of_nodup n1 n2).mpr fun y => ?_) (ris_once xs).sorted (ris_once ys).sorted
  rw [once_mem, once_mem]
  exact h y
theorem allN_once (rows : List (List Str)) (xs : List Str) : allN (rows ++ [once xs]) = allN (rows ++ [xs]) := by
  unfold allN
  refine once_congr fun y => ?_
  rw [List.flatten_append, List.flatten_append, List.mem_append, List.mem_append, List.mem_flatten (L := [once xs]), List.mem_flatten (L := [xs])]
  simp [once_mem]
theorem Tok.put {tb : Tb1} {n : Int} (T : Tok tb n) {xs : List Str} (nm : Nms xs) (few : tb.length < 30) (wide : (allN (rws tb ++ [xs])).length ≤ 12) (p : Addr) : Tok (tb ++ [(n, p, once xs)]) (n + 1) := by
  refine ⟨?_, fun e he => ?_, fun e he => ?_, ?_, ?_, ?_⟩
  · unfold nums
    rw [List.map_append]
    refine List.pairwise_append.mpr ⟨T.num, List.pairwise_singleton _ _, fun a ha b hb => ?_⟩
    obtain ⟨e, he, rfl⟩ := List.mem_map.mp ha
    rw [show b = n by simpa using hb]
    exact (T.bnd e he).2
  · rcases List.mem_append.mp he with he | he
    · have := T.bnd e he
      exact ⟨this.1, by omega⟩
    · rw [List.mem_singleton.mp he]
      exact ⟨T.n0, by show n < n + 1; omega⟩
  · rcases List.mem_append.mp he with he | he
    · exact T.set e he
    · rw [List.mem_singleton.mp he]
      exact ⟨ris_once xs, once_nms nm⟩
  · rw [List.length_append, List.length_singleton]
    omega
  · rw [rws_snoc, allN_once]
    exact wide
  · have := T.n0
    omega
theorem Tok.take {tb : Tb1} {n : Int} (T : Tok tb n) (k : Int) : Tok (tb.filter fun e => decide (e.1 ≠ k)) n := by
  have sub : List.Sublist (tb.filter fun e => decide (e.1 ≠ k)) tb := List.filter_sublist
  refine ⟨T.num.sublist (sub.map _), fun e he => T.bnd e (sub.subset he), fun e he => T.set e (sub.subset he), Nat.le_trans sub.length_le T.few, ?_, T.n0⟩
  refine Nat.le_trans (sublist_of (ris_allN _) (ris_allN _) fun y hy => ?_).length_le T.nms
  obtain ⟨r, hr, hy⟩ := allN_iff.mp hy
  exact allN_iff.mpr ⟨r, (sub.map _).subset hr, hy⟩
/-! ### a new book -/
def spInit (C : Addr) : Sp := fun vs H Q _ => ∃ (b dx : Addr), vs = [.ref b] ∧ H b = some (.ins C dx []) ∧ ∀ d H', H d = none → GrX (fun a => a = b) H H' → Bk C H' b d [] 0 → Q .non H'
def tNew (C : Addr) : TE := fun _ H Q => ∀ b d H', Gr H H' → H b = none → H d = none → Bk C H' b d [] 0 → Q (.ref b) H'
structure MkB (P : Program) (w : World) (K : PySem.W.Frag) (mg : Str → Option Value) (base : Heap) (C : Addr) : Prop where
  ex : ∃ (f : Addr) (fd : FuncData) (ps : List Str), FnOk P w K mg base CX0 1 f fd ps (spInit C) ∧ Mk K C f ∧ Binds K fd ps []
theorem pe_new {X : Cx} {C : Addr} {j : Nat} {p pos : Pos} (c : MkB X.prog X.w X.K X.mg X.base C) (BC : BkC X.K X.mg C) (hr : Room j X.A) (hk : 2 ≤ j) (hg : Gl X "Book") : PE X (.Call (.Name "Book" p) [] [] pos) (tNew C) := by
  obtain ⟨f, fd, ps, F, M, b⟩ := c.ex
  refine ⟨fun pins s σ H Q I h => (pe_make0 M F (hr.mono hk) hg BC.mgC b .nil pass0).run pins s σ H Q I ?_⟩
  intro x dx nx ndx ne
  have hdx : (upd H dx (.own x)) x = none := by rw [upd_ne ne.symm]; exact nx
  have g2 : Gr H (upd (upd H dx (.own x)) x (.ins C dx [])) := (Gr.new ndx).trans (Gr.new hdx)
  refine ⟨x, dx, rfl, upd_same, fun d H' nd g B => ⟨rfl, h x d H' (GrX.young g2 g fun b hb => by rw [hb]; exact nx) nx (g2.free nd) B⟩⟩
/-! ### the promises -/
def spBSets (C : Addr) : Sp := fun vs H Q _ => ∃ b d tb n, vs = [.ref b] ∧ Bk C H b d tb n ∧ ∀ p, H p = none → Q (.ref p) (upd H p (.lst (tb.map fun e => V.ref e.2.1)))
def spBNames (C : Addr) : Sp := fun vs H Q _ => ∃ b d tb n, vs = [.ref b] ∧ Bk C H b d tb n ∧ Tok tb n ∧ ∀ p H', Gr H H' → H p = none → H' p = some (.lst ((allN (rws tb)).map V.str)) → Q (.ref p) H'
def spPut (K : PySem.W.Frag) (C : Addr) (N : TabN) (R : ErN) : Sp := fun vs H Q E => ∃ b d tb n v, vs = [.ref b, v] ∧ Bk C H b d tb n ∧ Tok tb n ∧ N.G H ∧
  ((∃ xs, HOk H v xs ∧ xs.length ≤ 100 ∧ xs.Nodup ∧ tb.length < 30 ∧ (allN (rws tb ++ [xs])).length ≤ 12 ∧ ∀ p H', GrX (fun a => a = b ∨ a = d) H H' → H p = none → Bk C H' b d (tb ++ [(n, p, once xs)]) (n + 1) → Q (.int n) H') ∨
   (∃ xs, HOk H v xs ∧ xs.length ≤ 100 ∧ xs.Nodup ∧ (30 ≤ tb.length ∨ 12 < (allN (rws tb ++ [xs])).length) ∧ ∀ H', Gr H H' → E (.ref R.many) none H') ∨
   (∃ xs, HOk H v xs ∧ ¬ xs.Nodup ∧ ∀ H', Gr H H' → E (.ref R.row) none H') ∨ (HBadN K H v ∧ ∀ H', Gr H H' → E (.ref R.name) none H') ∨ (HBadR K H v ∧ ∀ H', Gr H H' → E (.ref R.row) none H'))
/-- what is no number of a row that is there -/
def BadNo (K : PySem.W.Frag) (H : Hp) (v : V) (tb : Tb1) : Prop := (∃ k : Int, v = .int k ∧ k ∉ nums tb) ∨ (∃ t : String, TyX K H v (.type t) ∧ (kitB t "int" = some false ∨ (kitB t "int" = some true ∧ kitB t "bool" = some true)))
def spTake (K : PySem.W.Frag) (C : Addr) (R : ErN) : Sp := fun vs H Q E => ∃ b d tb n v, vs = [.ref b, v] ∧ Bk C H b d tb n ∧ Tok tb n ∧
  ((∃ k : Int, v = .int k ∧ k ∈ nums tb ∧ ∀ H', GrX (fun a => a = d) H H' → Bk C H' b d (tb.filter fun e => decide (e.1 ≠ k)) n → Q .non H') ∨ (BadNo K H v tb ∧ ∀ H', Gr H H' → E (.ref R.no) none H'))
/-- a told pair: its tuple, its number, its list, the row -/
structure Pr1 where
  t : Addr
  k : Int
  l : Addr
  r : List Str
structure ToldP (H H' : Hp) (p : Addr) (rs : List Pr1) : Prop where
  new : H p = none
  at_ : H' p = some (.lst (rs.map fun r => V.ref r.t))
  own : ∀ r ∈ rs, H r.t = none ∧ H r.l = none ∧ r.t ≠ p ∧ r.l ≠ p ∧ H' r.t = some (.tup [.int r.k, .ref r.l]) ∧ H' r.l = some (.lst (r.r.map V.str))
def nr (tb : Tb1) : List (Int × List Str) := tb.map fun e => (e.1, e.2.2)
def spBRows (C : Addr) : Sp := fun vs H Q _ => ∃ b d tb n, vs = [.ref b] ∧ Bk C H b d tb n ∧ Tok tb n ∧ ∀ p H' rs, Gr H H' → ToldP H H' p rs → rs.map (fun r => (r.k, r.r)) = nr tb → Q (.ref p) H'
def spBLeastRows (C : Addr) (N : TabN) : Sp := fun vs H Q _ => ∃ b d tb n, vs = [.ref b] ∧ Bk C H b d tb n ∧ Tok tb n ∧ N.G H ∧ ∀ p H' ks, Gr H H' → Told H H' p ks → ks.map (·.2) = least (rws tb) → Q (.ref p) H'
def spBLeast (C : Addr) (N : TabN) : Sp := fun vs H Q _ => ∃ b d tb n, vs = [.ref b] ∧ Bk C H b d tb n ∧ Tok tb n ∧ N.G H ∧ ∀ p H' ks, Gr H H' → Told H H' p ks → ks.map (·.2) = grown (rws tb) → Q (.ref p) H'
def fewV (rows : List (List Str)) : V := match grown rows with
  | [] => .non
  | s :: _ => .int (s.length : Nat)
def spBFewest (C : Addr) (N : TabN) : Sp := fun vs H Q _ => ∃ b d tb n, vs = [.ref b] ∧ Bk C H b d tb n ∧ Tok tb n ∧ N.G H ∧ ∀ H', Gr H H' → Q (fewV (rws tb)) H'
def spBMetBy (K : PySem.W.Frag) (C : Addr) (N : TabN) : Sp := fun vs H Q _ => ∃ (b d : Addr) (tb : Tb1) (n : Int) (a : Addr) (xs : List Str), vs = [.ref b, .ref a] ∧ Bk C H b d tb n ∧ Tok tb n ∧ N.G H ∧ H a = some (.lst (xs.map V.str)) ∧ ∀ H', Gr H H' → Q (.bl (mtAll xs (rws tb))) H'
def spBMeets (K : PySem.W.Frag) (C : Addr) (N : TabN) (R : ErN) : Sp := fun vs H Q E => ∃ b d tb n v, vs = [.ref b, v] ∧ Bk C H b d tb n ∧ Tok tb n ∧ N.G H ∧
  ((∃ xs, HOk H v xs ∧ ∀ H', Gr H H' → Q (.bl (mtAll xs (rws tb))) H') ∨ (HBadN K H v ∧ ∀ H', Gr H H' → E (.ref R.name) none H') ∨ (HBadR K H v ∧ ∀ H', Gr H H' → E (.ref R.row) none H'))
def spBMeeting (K : PySem.W.Frag) (C : Addr) (N : TabN) (R : ErN) : Sp := fun vs H Q E => ∃ b d tb n v, vs = [.ref b, v] ∧ Bk C H b d tb n ∧ Tok tb n ∧ N.G H ∧
  ((∃ xs, HOk H v xs ∧ mtAll xs (rws tb) = true ∧ ∀ p H', Gr H H' → H p = none → H' p = some (.lst ((once xs).map V.str)) → Q (.ref p) H') ∨ (∃ xs, HOk H v xs ∧ mtAll xs (rws tb) = false ∧ ∀ H', Gr H H' → E (.ref R.meet) none H') ∨
   (HBadN K H v ∧ ∀ H', Gr H H' → E (.ref R.name) none H') ∨ (HBadR K H v ∧ ∀ H', Gr H H' → E (.ref R.row) none H'))
/-! ### small readings -/
theorem gr_lock {H H' : Hp} {d : Addr} {u : HO} {od : Obj} (e : H d = some u) (nt : NoTbl u) (g : Gr (upd H d (.frz od u)) H') : Gr H (upd H' d u) :=
  ⟨fun b o eb n => by
    by_cases h : b = d
    · subst h
      rw [upd_same, ← eb, e]
    · rw [upd_ne h]
      exact g.at_ b o (by rw [upd_ne h]; exact eb) n, fun b ps eb => by
    by_cases h : b = d
    · subst h
      rw [e] at eb
      exact absurd (Option.some.inj eb) (nt ps)
    · obtain ⟨p1, e1, k1⟩ := g.tab b ps (by rw [upd_ne h]; exact eb)
      exact ⟨p1, by rw [upd_ne h]; exact e1, k1⟩⟩
theorem kvB_in (tb : Tb1) (k : Int) : (valV (kvB tb) (Sum.inl k : Key)).isSome = decide (k ∈ nums tb) := by
  rw [← valV_any, Bool.eq_iff_iff, List.any_eq_true, decide_eq_true_eq]
  unfold kvB nums
  constructor
  · rintro ⟨kv, h, e⟩
    obtain ⟨x, hx, rfl⟩ := List.mem_map.mp h
    have e := of_decide_eq_true e
    injection e with e
    exact List.mem_map.mpr ⟨x, hx, e⟩
  · intro h
    obtain ⟨x, hx, rfl⟩ := List.mem_map.mp h
    exact ⟨_, List.mem_map.mpr ⟨x, hx, rfl⟩, decide_eq_true rfl⟩
theorem kvB_put {tb : Tb1} {k : Int} (h : k ∉ nums tb) (p : Addr) (r : List Str) : putK (kvB tb) (Sum.inl k : Key) (V.ref p) = kvB (tb ++ [(k, p, r)]) := by
  rw [putK_new]
  · unfold kvB
    rw [List.map_append]
    rfl
  · have h1 := kvB_in tb k
    rw [decide_eq_false h] at h1
    cases e : valV (kvB tb) (Sum.inl k : Key) with
    | none => rfl
    | some v => rw [e] at h1; cases h1
theorem kvB_drop (tb : Tb1) (k : Int) : dropK (kvB tb) (Sum.inl k : Key) = kvB (tb.filter fun e => decide (e.1 ≠ k)) := by
  unfold dropK kvB
  rw [List.filter_map]
  refine congrArg _ (List.filter_congr fun e _ => ?_)
  show decide ((Sum.inl e.1 : Key) ≠ Sum.inl k) = decide (e.1 ≠ k)
  rw [decide_eq_decide]
  exact not_congr ⟨fun z => by injection z, fun z => by rw [z]⟩
theorem Tok.fresh {tb : Tb1} {n : Int} (T : Tok tb n) : n ∉ nums tb := by
  intro h
  obtain ⟨e, he, z⟩ := List.mem_map.mp h
  have := (T.bnd e he).2
  omega
theorem kvB_len (tb : Tb1) : (kvB tb).length = tb.length := List.length_map _
end K1
namespace K1
open PySem PySem.Spec PyProof.Rows L2 Gr GxR Srx Skx Dcx
abbrev FnM (K : PySem.W.Frag) (x q : Str) (st : Stmt) (f : Addr) (fd : FuncData) : Prop := FunD K x q (defArgs st) (defBody st) (defScope st) [] [] f fd
/-- {name for row in xs for name in row} -/
theorem sc2_rows {w : World} {K : PySem.W.Frag} {a D : Addr} {ps : List (Addr × List Str)} {σ : L2.St} {H1 : Hp} {Qd : Hp → Prop} {i j : Nat}
    (hA : SqL K H1 a (ps.map fun q => V.ref q.1)) (hq : ∀ q ∈ ps, SqL K H1 q.1 (q.2.map V.str)) (hD : H1 D = none) (few : (ps.map (·.2)).flatten.length ≤ 1000) (qd : Qd (upd H1 D (SetTx w D (Sx.dd (ps.map (·.2)).flatten))))
    (hw1 : ∀ v, wipe ((wipe σ [i, j]).set i (some v)) [i, j] = wipe σ [i, j]) (hw2 : ∀ v u, wipe ((wipe ((wipe σ [i, j]).set i (some v)) [j]).set j (some u)) [j] = wipe ((wipe σ [i, j]).set i (some v)) [j])
    (hg1 : ∀ v : V, ((wipe σ [i, j]).set i (some v))[i]? = some (some v)) (hg2 : ∀ v u : V, ((wipe ((wipe σ [i, j]).set i (some v)) [j]).set j (some u))[j]? = some (some u)) :
    ∃ W : Nat → Nat → Hp → Prop, (∃ m, W 0 m (upd H1 D (SetTx w D []))) ∧ ∀ k m H, W k m H →
      ((Itl K a).stop k H ∧ Qd H) ∨ ((Itl K a).go k H ∧ ∃ Nx : Hp → Prop, (∀ H', Nx H' → ∃ m', m' < m ∧ W (k + 1) m' H') ∧ ∀ x H', (Itl K a).yld k H x H' → gName i x (wipe σ [i, j]) H' fun σ2 H2 => wipe σ2 [i, j] = wipe σ [i, j] ∧ tYes σ2 H2 fun b H3 =>
        if b = true then iList K (tVar i) σ2 H3 fun J1 H4 => ∃ W1 : Nat → Nat → Hp → Prop, (∃ m, W1 0 m H4) ∧ ∀ l k H, W1 l k H →
          (J1.stop l H ∧ Nx H) ∨ (J1.go l H ∧ ∃ Nx1 : Hp → Prop, (∀ H', Nx1 H' → ∃ k', k' < k ∧ W1 (l + 1) k' H') ∧ ∀ x H', J1.yld l H x H' → gName j x (wipe σ2 [j]) H' fun σ3 H5 => wipe σ3 [j] = wipe σ2 [j] ∧ tYes σ3 H5 fun b H6 =>
            if b = true then tVar j σ3 H6 fun y H7 => ∃ x ks, y = .str x ∧ H7 D = some (SetTx w D ks) ∧ ks.length + 1 < scanBound ∧ Nx1 (upd H7 D (SetTx w D (Sx.once ks x))) else Nx1 H6)
        else Nx H3) := by
  have look : ∀ (b : Addr) (xs : List V) (ks : List Str), SqL K H1 b xs → SqL K (upd H1 D (SetTx w D ks)) b xs := fun b xs ks h => (Gr.new hD).seq h
  have room : ∀ zs : List Str, zs.length ≤ 1000 → (Sx.dd zs).length + 1 < scanBound := fun zs h => by
    have := Sx.dd_len zs
    unfold scanBound
    omega
  refine ⟨fun k m H => m = ps.length - k ∧ k ≤ ps.length ∧ H = upd H1 D (SetTx w D (Sx.dd ((ps.take k).map (·.2)).flatten)), ⟨ps.length, by simp, Nat.zero_le _, rfl⟩, ?_⟩
  rintro k m H ⟨rfl, hk, rfl⟩
  have q := look a _ (Sx.dd ((ps.take k).map (·.2)).flatten) hA
  by_cases lt : k < ps.length
  · refine .inr ⟨⟨_, V.ref ps[k].1, q, by simp [lt]⟩, fun H6 => H6 = upd H1 D (SetTx w D (Sx.dd ((ps.take (k + 1)).map (·.2)).flatten)), fun H6 e6 => ⟨ps.length - (k + 1), by omega, rfl, lt, e6⟩, fun x H6 y => ?_⟩
    obtain ⟨e, y⟩ := y
    subst e
    have hx := y _ q
    obtain ⟨q0, hq0, rfl⟩ := get_map hx
    have mq := List.mem_of_getElem? hq0
    refine ⟨hw1 _, yesIf ?_⟩
    have etk : ((ps.take (k + 1)).map (·.2)).flatten = ((ps.take k).map (·.2)).flatten ++ q0.2 := by
      rw [take_map hq0, List.flatten_append]
      simp
    have small : ((ps.take k).map (·.2)).flatten.length + q0.2.length ≤ 1000 := by
      rw [← List.length_append, ← etk]
      have e9 : (ps.map (·.2)).flatten = ((ps.take (k + 1)).map (·.2)).flatten ++ ((ps.drop (k + 1)).map (·.2)).flatten := by
        rw [← List.flatten_append, ← List.map_append, List.take_append_drop]
      rw [e9, List.length_append] at few
      omega
    refine ⟨_, hg1 _, q0.1, rfl, ⟨_, look q0.1 _ _ (hq q0 mq)⟩, fun l k' H => k' = q0.2.length - l ∧ l ≤ q0.2.length ∧ H = upd H1 D (SetTx w D (Sx.dd (((ps.take k).map (·.2)).flatten ++ q0.2.take l))), ⟨q0.2.length, by simp, Nat.zero_le _, by rw [List.take_zero, List.append_nil]⟩, ?_⟩
    rintro l k' H ⟨rfl, hl, rfl⟩
    have q2 := look q0.1 _ (Sx.dd (((ps.take k).map (·.2)).flatten ++ q0.2.take l)) (hq q0 mq)
    by_cases lt2 : l < q0.2.length
    · refine .inr ⟨⟨_, V.str q0.2[l], q2, by simp [lt2]⟩, fun H6 => H6 = upd H1 D (SetTx w D (Sx.dd (((ps.take k).map (·.2)).flatten ++ q0.2.take (l + 1)))), fun H6 e6 => ⟨q0.2.length - (l + 1), by omega, rfl, lt2, e6⟩, fun x H6 y => ?_⟩
      obtain ⟨e, y⟩ := y
      subst e
      have hx := y _ q2
      obtain ⟨x0, hx0, rfl⟩ := get_map hx
      refine ⟨hw2 _ _, yesIf ⟨_, hg2 _ _, x0, _, rfl, upd_same, ?_, ?_⟩⟩
      · refine room _ ?_
        rw [List.length_append, List.length_take]
        omega
      · rw [upd_upd, List.take_add_one, hx0, ← List.append_assoc]
        congr 2
        unfold Sx.dd
        show Sx.once _ x0 = List.foldl Sx.once [] (_ ++ [x0])
        exact (List.foldl_append (f := Sx.once) (b := []) (l := _) (l' := [x0])).symm
    · have e : l = q0.2.length := by omega
      subst e
      refine .inl ⟨⟨_, q2, by rw [List.length_map]; exact Nat.le_refl _⟩, ?_⟩
      rw [List.take_length, etk]
  · have e : k = ps.length := by omega
    subst e
    refine .inl ⟨⟨_, q, by rw [List.length_map]; exact Nat.le_refl _⟩, ?_⟩
    rw [List.take_length]
    exact qd
end K1
namespace K1
open PySem PySem.Spec PyProof.Rows L2 Gr GxR Srx Skx Dcx
theorem once_two (rows : List (List Str)) (xs : List Str) : once (allN rows ++ once xs) = allN (rows ++ [xs]) := by
  unfold allN
  refine once_congr fun y => ?_
  rw [List.mem_append, once_mem, once_mem, List.flatten_append, List.mem_append, List.mem_flatten (L := [xs])]
  simp
end K1
namespace K1
open PySem PySem.Spec PyProof.Rows L2 Gr GxR Srx Skx Dcx
theorem once_all {rows : List (List Str)} (h : ∀ r ∈ rows, Ris r) : rows.map once = rows := by
  conv => rhs; rw [← List.map_id rows]
  exact List.map_congr_left fun r hr => once_ris (h r hr)
theorem Told.one {H : Hp} {e A : Addr} (ne : H e = none) (nA : (upd H e (.lst [])) A = none) : Told H (upd (upd H e (.lst [])) A (.lst [V.ref e])) A [(e, [])] := by
  have eA : e ≠ A := ne_of_none (show (upd H e (.lst [])) e = some _ from upd_same) nA
  refine ⟨(Gr.new ne).free nA, upd_same, fun q hq => ?_, by simp⟩
  rw [List.mem_singleton.mp hq]
  exact ⟨ne, eA, by rw [upd_ne eA, upd_same]; rfl⟩
end K1
namespace K1
open PySem PySem.Spec PyProof.Rows L2 Gr GxR Srx Skx Dcx
theorem mtAll_once_l (xs : List Str) (rows : List (List Str)) : mtAll (once xs) rows = mtAll xs rows := by
  rw [Bool.eq_iff_iff, mtAll_iff, mtAll_iff]
  exact forall_congr' fun r => imp_congr_right fun _ => exists_congr fun y => and_congr_left fun _ => once_mem
end K1
namespace K1
open PySem PySem.Spec PyProof.Rows L2 Gr GxR Srx Skx Dcx
/-- rows numbered from 0 on -/
def numd (rows : List (List Str)) : List (Int × List Str) := rows.mapIdx fun i r => ((i : Int), r)
theorem numd_snoc (rows : List (List Str)) (r : List Str) : numd (rows ++ [r]) = numd rows ++ [((rows.length : Int), r)] := by
  unfold numd
  rw [List.mapIdx_concat]
theorem numd_rows (rows : List (List Str)) : (numd rows).map (·.2) = rows := by
  induction rows using snoc_ind with
  | h0 => rfl
  | h1 xs x ih => rw [numd_snoc, List.map_append, ih]; rfl
theorem rws_nr (tb : Tb1) : rws tb = (nr tb).map (·.2) := by
  unfold rws nr
  rw [List.map_map]
  rfl
theorem nr_snoc (tb : Tb1) (e : Int × Addr × List Str) : nr (tb ++ [e]) = nr tb ++ [(e.1, e.2.2)] := by
  unfold nr
  rw [List.map_append]
  rfl
theorem rws_numd {tb : Tb1} {rows : List (List Str)} (h : nr tb = numd rows) : rws tb = rows := by rw [rws_nr, h, numd_rows]
theorem allN_map_once (rows : List (List Str)) : allN (rows.map once) = allN rows := by
  unfold allN
  refine once_congr fun y => ?_
  rw [List.mem_flatten, List.mem_flatten]
  constructor
  · rintro ⟨r, hr, hy⟩
    obtain ⟨x, hx, rfl⟩ := List.mem_map.mp hr
    exact ⟨x, hx, once_mem.mp hy⟩
  · rintro ⟨r, hr, hy⟩
    exact ⟨once r, List.mem_map.mpr ⟨r, hr, rfl⟩, once_mem.mpr hy⟩
theorem allN_mono {A B : List (List Str)} (h : ∀ r ∈ A, r ∈ B) : (allN A).length ≤ (allN B).length :=
  (sublist_of (ris_allN B) (ris_allN A) fun y hy => by
    obtain ⟨r, hr, hy⟩ := allN_iff.mp hy
    exact allN_iff.mpr ⟨r, h r hr, hy⟩).length_le
/-- a list of lists, read -/
structure LQ (K : PySem.W.Frag) (H : Hp) (a : Addr) (ps : List (Addr × List Str)) : Prop where
  at_ : SqL K H a (ps.map fun q => V.ref q.1)
  own : ∀ q ∈ ps, SqL K H q.1 (q.2.map V.str)
theorem LQ.gr {K : PySem.W.Frag} {H H' : Hp} {a : Addr} {ps : List (Addr × List Str)} (h : LQ K H a ps) (g : Gr H H') : LQ K H' a ps := ⟨g.seq h.at_, fun q hq => g.seq (h.own q hq)⟩
theorem LL.lq {K : PySem.W.Frag} {H : Hp} {a : Addr} {ps : List (Addr × List Str)} (h : LL H a ps) : LQ K H a ps := ⟨.inl (.inl h.at_), fun q hq => .inl (.inl (h.own q hq))⟩
/-- rows that a book may take all together -/
structure RowsOk (rows : List (List Str)) : Prop where
  row : ∀ r ∈ rows, Nms r ∧ r.Nodup ∧ r.length ≤ 100
  few : rows.length ≤ 30
  wide : (allN rows).length ≤ 12
/-- a book of the rows -/
structure NewB (C : Addr) (H H' : Hp) (b d : Addr) (tb : Tb1) (rows : List (List Str)) : Prop where
  nb : H b = none
  ndd : H d = none
  bk : Bk C H' b d tb rows.length
  ok : Tok tb rows.length
  rows : nr tb = numd (rows.map once)
  fresh : ∀ e ∈ tb, H e.2.1 = none
theorem NewB.gr {C b d : Addr} {H H1 H2 : Hp} {tb : Tb1} {rows : List (List Str)} (h : NewB C H H1 b d tb rows) (g : Gr H1 H2) : NewB C H H2 b d tb rows := ⟨h.nb, h.ndd, h.bk.gr g, h.ok, h.rows, h.fresh⟩
theorem NewB.from {C b d : Addr} {H0 H H2 : Hp} {tb : Tb1} {rows : List (List Str)} (h : NewB C H H2 b d tb rows) (g : Gr H0 H) : NewB C H0 H2 b d tb rows := ⟨g.free h.nb, g.free h.ndd, h.bk, h.ok, h.rows, fun e he => g.free (h.fresh e he)⟩
theorem NewB.rws {C b d : Addr} {H H1 : Hp} {tb : Tb1} {rows : List (List Str)} (h : NewB C H H1 b d tb rows) : rws tb = rows.map once := rws_numd h.rows
theorem NewB.least {C b d : Addr} {H H1 : Hp} {tb : Tb1} {rows : List (List Str)} (h : NewB C H H1 b d tb rows) : grown (K1.rws tb) = grown rows := by
  rw [h.rws]
  exact grown_congr fun x => mtAll_once x rows
def spLBook (K : PySem.W.Frag) (C : Addr) (N : TabN) : Sp := fun vs H Q _ => ∃ (a : Addr) (ps : List (Addr × List Str)), vs = [.ref a] ∧ LQ K H a ps ∧ RowsOk (ps.map (·.2)) ∧ N.G H ∧
  ∀ b d H' tb, Gr H H' → NewB C H H' b d tb (ps.map (·.2)) → Q (.ref b) H'
end K1
namespace K1
open PySem PySem.Spec PyProof.Rows L2 Gr GxR Srx Skx Dcx
theorem rows_in (nm : List Str) {rps : List (Addr × List Str)} (rok : ∀ q ∈ rps, q.2.Nodup ∧ (∀ y ∈ q.2, y ∈ nm) ∧ q.2.length ≤ nm.length) : ∀ r ∈ rps.map (·.2), ∀ y ∈ r, y ∈ srt nm := by
  intro r hr y hy
  obtain ⟨q0, hq0, rfl⟩ := List.mem_map.mp hr
  exact srt_mem.mpr ((rok q0 hq0).2.1 y hy)
theorem rowsOk {nm : List Str} {rps : List (Addr × List Str)} (nms : Nms nm) (nd : nm.Nodup) (few : nm.length ≤ 12) (rok : ∀ q ∈ rps, q.2.Nodup ∧ (∀ y ∈ q.2, y ∈ nm) ∧ q.2.length ≤ nm.length) (len : rps.length ≤ 30) : RowsOk (rps.map (·.2)) := by
  refine ⟨fun r hr => ?_, by rw [List.length_map]; exact len, ?_⟩
  · obtain ⟨q0, hq0, rfl⟩ := List.mem_map.mp hr
    obtain ⟨h1, h2, h3⟩ := rok q0 hq0
    exact ⟨fun y hy => nms y (h2 y hy), h1, by omega⟩
  · refine Nat.le_trans (sublist_of (ris_srt nd) (ris_allN _) fun y hy => ?_).length_le (by rw [srt_len]; exact few)
    obtain ⟨r, hr, hy⟩ := allN_iff.mp hy
    exact rows_in nm rok r hr y hy
theorem fit_grown {M : List Str} (hM : Ris M) {rows : List (List Str)} (h : ∀ r ∈ rows, ∀ y ∈ r, y ∈ M) (nm : Nms M) (len : M.length ≤ 7) : Fit (grown rows) := by
  refine ⟨?_, fun xs hx => ?_⟩
  · exact Nat.le_trans (grown_len hM h) (Nat.le_trans (Nat.pow_le_pow_right (by decide) len : 2 ^ M.length ≤ 2 ^ 7) (by decide))
  · obtain ⟨h1, h2, h3⟩ := grown_in hM h hx
    exact ⟨fun y hy => nm y (h2 y hy), by omega⟩
theorem nms_srt {nm : List Str} (h : Nms nm) : Nms (srt nm) := fun y hy => h y (srt_mem.mp hy)
end K1
end
section
set_option maxHeartbeats 8000000
namespace K1
open PySem PySem.Spec PyProof.Rows L2 Gr GxR Srx Skx Dcx
theorem grown_empty {rows : List (List Str)} (h : [] ∈ rows) : grown rows = [] := by
  refine List.eq_nil_iff_forall_not_mem.mpr fun x hx => ?_
  obtain ⟨y, _, hy⟩ := mtAll_iff.mp (grown_mem.mp hx).2.1 [] h
  cases hy
theorem head_nm {nm : List Str} (h : nm ≠ []) : ∃ n0 nrest, nm = n0 :: nrest := by
  cases nm with
  | nil => exact absurd rfl h
  | cons x r => exact ⟨x, r, rfl⟩
theorem at_zero (x : Str) (r : List Str) : atI ((x :: r).map V.str) 0 = some (V.str x) := by
  show atI ((x :: r).map V.str) ((0 : Nat) : Int) = _
  exact atI_nat rfl
theorem fit_nil : Fit [] := ⟨Nat.zero_le _, fun _ z => absurd z List.not_mem_nil⟩
theorem fit_one : Fit [[]] := ⟨by decide, fun x hx => by rw [List.mem_singleton.mp hx]; exact ⟨fun _ z => absurd z List.not_mem_nil, Nat.zero_le _⟩⟩
end K1
namespace K1
open PySem PySem.Spec PyProof.Rows L2 Gr GxR Srx Skx Dcx
/-- [.. x .. y .. for x in xs for y in ys]: each made anew; ys is asked in each turn -/
theorem lc2_new {K : PySem.W.Frag} {a D : Addr} {ps qs : List (Addr × List Str)} {σ : L2.St} {H1 : Hp} {Qd : Hp → Prop} {wi1 : TI} {te : TE} {i j : Nat} (F : List Str → List Str → List Str)
    (hA : SqL K H1 a (ps.map fun q => V.ref q.1)) (few : ps.length * qs.length < sizeLine) (hD : H1 D = none)
    (h1 : ∀ q ∈ ps, ∀ (H3 : Hp) (R : It → Hp → Prop), Gr H1 H3 → (∀ c H4, Gr H3 H4 → H3 c = none → H4 c = some (.lst (qs.map fun q => V.ref q.1)) → R (Itl K c) H4) → wi1 ((wipe σ [i, j]).set i (some (.ref q.1))) H3 R)
    (he : ∀ q ∈ ps, ∀ u ∈ qs, ∀ (H5 : Hp) (Q' : VK), Gr H1 H5 → (∀ l H6, Gr H5 H6 → H5 l = none → H6 l = some (.lst ((F q.2 u.2).map V.str)) → Q' (.ref l) H6) → te ((wipe ((wipe σ [i, j]).set i (some (.ref q.1))) [j]).set j (some (.ref u.1))) H5 Q')
    (qd : ∀ H2 rs, Gr H1 H2 → Told H1 H2 D rs → rs.map (·.2) = ps.flatMap (fun q => qs.map fun u => F q.2 u.2) → Qd H2)
    (hw1 : ∀ v, wipe ((wipe σ [i, j]).set i (some v)) [i, j] = wipe σ [i, j]) (hw2 : ∀ v u, wipe ((wipe ((wipe σ [i, j]).set i (some v)) [j]).set j (some u)) [j] = wipe ((wipe σ [i, j]).set i (some v)) [j]) :
    ∃ W : Nat → Nat → Hp → Prop, (∃ m, W 0 m (upd H1 D (.lst []))) ∧ ∀ k m H, W k m H →
      ((Itl K a).stop k H ∧ Qd H) ∨ ((Itl K a).go k H ∧ ∃ Nx : Hp → Prop, (∀ H', Nx H' → ∃ m', m' < m ∧ W (k + 1) m' H') ∧ ∀ x H', (Itl K a).yld k H x H' → gName i x (wipe σ [i, j]) H' fun σ2 H2 => wipe σ2 [i, j] = wipe σ [i, j] ∧ tYes σ2 H2 fun b H3 =>
        if b = true then wi1 σ2 H3 fun J1 H4 => ∃ W1 : Nat → Nat → Hp → Prop, (∃ m, W1 0 m H4) ∧ ∀ l k H, W1 l k H →
          (J1.stop l H ∧ Nx H) ∨ (J1.go l H ∧ ∃ Nx1 : Hp → Prop, (∀ H', Nx1 H' → ∃ k', k' < k ∧ W1 (l + 1) k' H') ∧ ∀ x H', J1.yld l H x H' → gName j x (wipe σ2 [j]) H' fun σ3 H5 => wipe σ3 [j] = wipe σ2 [j] ∧ tYes σ3 H5 fun b H6 =>
            if b = true then te σ3 H6 fun y H7 => ∃ acc, H7 D = some (.lst acc) ∧ acc.length < sizeLine ∧ Nx1 (upd H7 D (.lst (acc ++ [y]))) else Nx1 H6)
        else Nx H3) := by
  let G : List (Addr × List Str) → List (List Str) := fun zs => zs.flatMap (fun q => qs.map fun u => F q.2 u.2)
  have Gtk : ∀ {k : Nat} {q0 : Addr × List Str}, ps[k]? = some q0 → G (ps.take (k + 1)) = G (ps.take k) ++ qs.map fun u => F q0.2 u.2 := by
    intro k q0 h
    show List.flatMap _ _ = List.flatMap _ _ ++ _
    rw [List.take_add_one, h, List.flatMap_append]
    simp
  have Glen : ∀ zs : List (Addr × List Str), (G zs).length = zs.length * qs.length := by
    intro zs
    induction zs with
    | nil => simp [G]
    | cons z zs ih =>
      show (List.flatMap _ (z :: zs)).length = _
      rw [List.flatMap_cons, List.length_append, List.length_map, List.length_cons, Nat.succ_mul]
      have ih : (List.flatMap (fun q : Addr × List Str => qs.map fun u => F q.2 u.2) zs).length = zs.length * qs.length := ih
      omega
  refine ⟨fun k m H => m = ps.length - k ∧ k ≤ ps.length ∧ Gr H1 H ∧ ∃ rs, Told H1 H D rs ∧ rs.map (·.2) = G (ps.take k), ⟨ps.length, by simp, Nat.zero_le _, Gr.new hD, [], Told.nil hD, rfl⟩, ?_⟩
  rintro k m H ⟨rfl, hk, g, rs, T, e⟩
  have q := g.seq hA
  by_cases lt : k < ps.length
  · refine .inr ⟨⟨_, V.ref ps[k].1, q, by simp [lt]⟩, fun H6 => Gr H1 H6 ∧ ∃ rs, Told H1 H6 D rs ∧ rs.map (·.2) = G (ps.take (k + 1)), fun H6 e6 => ⟨ps.length - (k + 1), by omega, rfl, lt, e6⟩, fun x H6 y => ?_⟩
    obtain ⟨e1, y⟩ := y
    subst e1
    have hx := y _ q
    obtain ⟨q0, hq0, rfl⟩ := get_map hx
    have mq := List.mem_of_getElem? hq0
    refine ⟨hw1 _, yesIf (h1 q0 mq _ _ g fun c H4 g4 nc hc => ?_)⟩
    have cD : c ≠ D := (ne_of_none T.at_ nc).symm
    refine ⟨fun l k' H => k' = qs.length - l ∧ l ≤ qs.length ∧ (Gr H1 H ∧ H c = some (.lst (qs.map fun q => V.ref q.1))) ∧ ∃ rs, Told H1 H D rs ∧ rs.map (·.2) = G (ps.take k) ++ (qs.take l).map fun u => F q0.2 u.2, ⟨qs.length, by simp, Nat.zero_le _, ⟨g.trans g4, hc⟩, rs, T.gr g4, by rw [e]; simp⟩, ?_⟩
    rintro l k' H ⟨rfl, hl, ⟨g1x, hc5⟩, rs5, T5, e5⟩
    have q2 : SqL K H c (qs.map fun q => V.ref q.1) := .inl (.inl hc5)
    by_cases lt2 : l < qs.length
    · refine .inr ⟨⟨_, V.ref qs[l].1, q2, by simp [lt2]⟩, fun H6 => (Gr H1 H6 ∧ H6 c = some (.lst (qs.map fun q => V.ref q.1))) ∧ ∃ rs, Told H1 H6 D rs ∧ rs.map (·.2) = G (ps.take k) ++ (qs.take (l + 1)).map fun u => F q0.2 u.2, fun H6 e6 => ⟨qs.length - (l + 1), by omega, rfl, lt2, e6⟩, fun x H6 y => ?_⟩
      obtain ⟨e1, y⟩ := y
      subst e1
      have hx := y _ q2
      obtain ⟨u0, hu0, rfl⟩ := get_map hx
      have mu := List.mem_of_getElem? hu0
      refine ⟨hw2 _ _, yesIf (he q0 mq u0 mu _ _ g1x fun l2 H6 g6 nl el => ⟨_, g6.lst T5.at_, ?_, ⟨(g1x.trans g6).mut hD, by rw [upd_ne cD]; exact g6.lst hc5⟩, rs5 ++ [(l2, F q0.2 u0.2)], T5.snoc2 g1x g6 nl el, ?_⟩)⟩
      · rw [List.length_map]
        have h2 := congrArg List.length e5
        rw [List.length_map, List.length_append, Glen, List.length_map, List.length_take, List.length_take] at h2
        have h3 : (k + 1) * qs.length ≤ ps.length * qs.length := Nat.mul_le_mul_right _ lt
        rw [Nat.succ_mul] at h3
        rw [show min k ps.length = k by omega] at h2
        omega
      · rw [List.map_append, e5, take_map hu0, List.append_assoc]
        rfl
    · have e1 : l = qs.length := by omega
      subst e1
      refine .inl ⟨⟨_, q2, by rw [List.length_map]; exact Nat.le_refl _⟩, g1x, rs5, T5, ?_⟩
      rw [List.take_length] at e5
      rw [Gtk hq0]
      exact e5
  · have e1 : k = ps.length := by omega
    subst e1
    rw [List.take_length] at e
    exact .inl ⟨⟨_, q, by rw [List.length_map]; exact Nat.le_refl _⟩, qd _ rs g T e⟩
end K1
namespace K1
open PySem PySem.Spec PyProof.Rows L2 Gr GxR Srx Skx Dcx
/-- [x for x in xs if ..], texts -/
theorem lc_filtT {K : PySem.W.Frag} {a D : Addr} {j : Nat} {σ : L2.St} {vs : List Nat} {tt : TT} {H1 : Hp} {Qd : Hp → Prop} {xs : List Str} (p : Str → Bool)
    (hA : SqL K H1 a (xs.map V.str)) (few : xs.length < sizeLine) (hD : H1 D = none) (hw : ∀ v, wipe ((wipe σ vs).set j (some v)) vs = wipe σ vs) (hj : ∀ v : V, ((wipe σ vs).set j (some v))[j]? = some (some v))
    (ht : ∀ x ∈ xs, ∀ (H4 : Hp) (Qb : Bool → Hp → Prop), Gr H1 H4 → (∀ H5, Gr H4 H5 → Qb (p x) H5) → tt ((wipe σ vs).set j (some (.str x))) H4 Qb)
    (q : ∀ H2, Gr H1 H2 → H2 D = some (.lst ((xs.filter p).map V.str)) → Qd H2) :
    ∃ W : Nat → Nat → Hp → Prop, (∃ m, W 0 m (upd H1 D (.lst []))) ∧ ∀ i m H, W i m H →
      ((Itl K a).stop i H ∧ Qd H) ∨ ((Itl K a).go i H ∧ ∃ Nx : Hp → Prop, (∀ H', Nx H' → ∃ m', m' < m ∧ W (i + 1) m' H') ∧ ∀ x H', (Itl K a).yld i H x H' → gName j x (wipe σ vs) H' fun σ2 H2 => wipe σ2 vs = wipe σ vs ∧ tt σ2 H2 fun b H3 =>
        if b = true then tVar j σ2 H3 fun y H4 => ∃ acc, H4 D = some (.lst acc) ∧ acc.length < sizeLine ∧ Nx (upd H4 D (.lst (acc ++ [y]))) else Nx H3) := by
  refine lc_list (xs := xs.map V.str) (Qd := Qd) (fun i H2 => Gr H1 H2 ∧ H2 D = some (.lst (((xs.take i).filter p).map V.str))) ⟨Gr.new hD, upd_same⟩ (fun i H2 _ h => h.1.seq hA) (fun i x H2 hx h => ?_) (fun H2 h => ?_)
  · obtain ⟨g2, e⟩ := h
    obtain ⟨x0, hx0, rfl⟩ := get_map hx
    have etk : (xs.take (i + 1)).filter p = (xs.take i).filter p ++ [x0].filter p := by
      rw [List.take_add_one, hx0, List.filter_append]
      rfl
    refine ⟨hw _, ht x0 (List.mem_of_getElem? hx0) H2 _ g2 fun H3 g3 => ?_⟩
    cases hp : p x0 with
    | true =>
      refine iteT ⟨_, hj _, _, g3.lst e, ?_, (g2.trans g3).mut hD, ?_⟩
      · rw [List.length_map]
        have h1 := List.length_filter_le p (xs.take i)
        rw [List.length_take] at h1
        omega
      · rw [upd_same, etk, List.map_append]
        simp [hp]
    | false =>
      refine iteF ⟨g2.trans g3, ?_⟩
      rw [etk, List.map_append]
      simp only [hp, List.filter_cons, Bool.false_eq_true, if_false, List.filter_nil, List.map_nil, List.append_nil]
      exact g3.lst e
  · obtain ⟨g2, e⟩ := h
    rw [List.length_map, List.take_length] at e
    exact q H2 g2 e
/-- [x for x in xs if ..], lists -/
theorem lc_filtL {K : PySem.W.Frag} {a D : Addr} {j : Nat} {σ : L2.St} {vs : List Nat} {tt : TT} {H1 : Hp} {Qd : Hp → Prop} {ps : List (Addr × List Str)} (p : Addr × List Str → Bool)
    (hA : SqL K H1 a (ps.map fun q => V.ref q.1)) (few : ps.length < sizeLine) (hD : H1 D = none) (hw : ∀ v, wipe ((wipe σ vs).set j (some v)) vs = wipe σ vs) (hj : ∀ v : V, ((wipe σ vs).set j (some v))[j]? = some (some v))
    (ht : ∀ x ∈ ps, ∀ (H4 : Hp) (Qb : Bool → Hp → Prop), Gr H1 H4 → (∀ H5, Gr H4 H5 → Qb (p x) H5) → tt ((wipe σ vs).set j (some (.ref x.1))) H4 Qb)
    (q : ∀ H2, Gr H1 H2 → H2 D = some (.lst ((ps.filter p).map fun q => V.ref q.1)) → Qd H2) :
    ∃ W : Nat → Nat → Hp → Prop, (∃ m, W 0 m (upd H1 D (.lst []))) ∧ ∀ i m H, W i m H →
      ((Itl K a).stop i H ∧ Qd H) ∨ ((Itl K a).go i H ∧ ∃ Nx : Hp → Prop, (∀ H', Nx H' → ∃ m', m' < m ∧ W (i + 1) m' H') ∧ ∀ x H', (Itl K a).yld i H x H' → gName j x (wipe σ vs) H' fun σ2 H2 => wipe σ2 vs = wipe σ vs ∧ tt σ2 H2 fun b H3 =>
        if b = true then tVar j σ2 H3 fun y H4 => ∃ acc, H4 D = some (.lst acc) ∧ acc.length < sizeLine ∧ Nx (upd H4 D (.lst (acc ++ [y]))) else Nx H3) := by
  refine lc_list (xs := ps.map fun q => V.ref q.1) (Qd := Qd) (fun i H2 => Gr H1 H2 ∧ H2 D = some (.lst (((ps.take i).filter p).map fun q => V.ref q.1))) ⟨Gr.new hD, upd_same⟩ (fun i H2 _ h => h.1.seq hA) (fun i x H2 hx h => ?_) (fun H2 h => ?_)
  · obtain ⟨g2, e⟩ := h
    obtain ⟨x0, hx0, rfl⟩ := get_map hx
    have etk : (ps.take (i + 1)).filter p = (ps.take i).filter p ++ [x0].filter p := by
      rw [List.take_add_one, hx0, List.filter_append]
      rfl
    refine ⟨hw _, ht x0 (List.mem_of_getElem? hx0) H2 _ g2 fun H3 g3 => ?_⟩
    cases hp : p x0 with
    | true =>
      refine iteT ⟨_, hj _, _, g3.lst e, ?_, (g2.trans g3).mut hD, ?_⟩
      · rw [List.length_map]
        have h1 := List.length_filter_le p (ps.take i)
        rw [List.length_take] at h1
        omega
      · rw [upd_same, etk, List.map_append]
        simp [hp]
    | false =>
      refine iteF ⟨g2.trans g3, ?_⟩
      rw [etk, List.map_append]
      simp only [hp, List.filter_cons, Bool.false_eq_true, if_false, List.filter_nil, List.map_nil, List.append_nil]
      exact g3.lst e
  · obtain ⟨g2, e⟩ := h
    rw [List.length_map, List.take_length] at e
    exact q H2 g2 e
def spNameFrom (K : PySem.W.Frag) (T : Addr) (R : ErN) : Sp := fun vs H Q E => ∃ v, vs = [v] ∧ Thing K H v ∧ TabG H T ∧ ((nmV v = true ∧ ∀ H', Gr H H' → Q v H') ∨ (nmV v = false ∧ ∀ H', Gr H H' → E (.ref R.name) none H'))
def spBookOf (C : Addr) (N : TabN) (R : ErN) : Sp := fun vs H Q E => ∃ (a : Addr) (ps : List (Addr × List Str)), vs = [.ref a] ∧ LL H a ps ∧ (∀ r ∈ ps.map (·.2), Nms r ∧ r.Nodup ∧ r.length ≤ 100) ∧ ps.length ≤ 1000 ∧ N.G H ∧
  ((RowsOk (ps.map (·.2)) ∧ ∀ b d H' tb, Gr H H' → NewB C H H' b d tb (ps.map (·.2)) → Q (.ref b) H') ∨ (¬ RowsOk (ps.map (·.2)) ∧ ∀ H', Gr H H' → E (.ref R.many) none H'))
def spStruck (K : PySem.W.Frag) (C : Addr) (N : TabN) (R : ErN) (f : Str → List (List Str) → List (List Str)) : Sp := fun vs H Q E => ∃ b d tb n v, vs = [.ref b, v] ∧ Bk C H b d tb n ∧ Tok tb n ∧ N.G H ∧ Thing K H v ∧
  ((∃ x, v = .str x ∧ isNm x = true ∧ ∀ b' d' H' tb', Gr H H' → NewB C H H' b' d' tb' (f x (rws tb)) → Q (.ref b') H') ∨ (nmV v = false ∧ ∀ H', Gr H H' → E (.ref R.name) none H'))
def spJoined (K : PySem.W.Frag) (C : Addr) (N : TabN) (R : ErN) (f : List (List Str) → List (List Str) → List (List Str)) : Sp := fun vs H Q E => ∃ b d tb n b2 d2 tb2 n2, vs = [.ref b, .ref b2] ∧ Bk C H b d tb n ∧ Tok tb n ∧ Bk C H b2 d2 tb2 n2 ∧ Tok tb2 n2 ∧ N.G H ∧
  ((RowsOk (f (rws tb) (rws tb2)) ∧ ∀ b' d' H' tb', Gr H H' → NewB C H H' b' d' tb' (f (rws tb) (rws tb2)) → Q (.ref b') H') ∨ (¬ RowsOk (f (rws tb) (rws tb2)) ∧ ∀ H', Gr H H' → E (.ref R.many) none H'))
def stScope2 : Stmt → Scope
  | .FunctionDef (body := [_, .Return (some (.Call _ [.ListComp _ _ s _] _ _)) _]) .. => s
  | _ => ⟨.function, [], false, false, []⟩
/-- all that a book's rows may be, filtered or not -/
theorem Tok.rowsOk {tb : Tb1} {n : Int} (T : Tok tb n) {rows : List (List Str)} (len : rows.length ≤ 30) (h : ∀ r ∈ rows, r.Nodup ∧ ∀ y ∈ r, y ∈ allN (rws tb)) : RowsOk rows := by
  have sub : (allN rows).length ≤ 12 := Nat.le_trans (sublist_of (ris_allN _) (ris_allN _) fun y hy => by
    obtain ⟨r, hr, hy⟩ := allN_iff.mp hy
    exact (h r hr).2 y hy).length_le T.nms
  refine ⟨fun r hr => ⟨fun y hy => T.nmsN y ((h r hr).2 y hy), (h r hr).1, ?_⟩, len, sub⟩
  have h1 := (sublist_of (ris_allN (rws tb)) (ris_once r) fun y hy => (h r hr).2 y (once_mem.mp hy)).length_le
  rw [once_full (h r hr).1] at h1
  have := T.nms
  omega
end K1
namespace K1
open PySem PySem.Spec PyProof.Rows L2 Gr GxR Srx Skx Dcx
theorem ne_strB (y x : Str) : (!decide (V.str y = V.str x)) = decide (y ≠ x) := by
  rw [← decide_not]
  exact decide_eq_decide.mpr (not_congr ⟨fun z => by injection z, fun z => by rw [z]⟩)
theorem lc_fresh3 {K : PySem.W.Frag} {a D : Addr} {j : Nat} {σ : L2.St} {vs : List Nat} {te : TE} {H1 : Hp} {Qd : Hp → Prop} {ps0 : List (Addr × List Str)} (F : List Str → List Str)
    (hA : SqL K H1 a (ps0.map fun q => V.ref q.1)) (few : ps0.length < sizeLine) (hD : H1 D = none) (hw : ∀ v, wipe ((wipe σ vs).set j (some v)) vs = wipe σ vs)
    (he : ∀ q ∈ ps0, ∀ (H4 : Hp) (Q' : VK), Gr H1 H4 → (∀ l H5, Gr H4 H5 → H4 l = none → H5 l = some (.lst ((F q.2).map V.str)) → Q' (.ref l) H5) → te ((wipe σ vs).set j (some (.ref q.1))) H4 Q')
    (q : ∀ H2 ps, Gr H1 H2 → Told H1 H2 D ps → ps.map (·.2) = ps0.map (fun q => F q.2) → Qd H2) :
    ∃ W : Nat → Nat → Hp → Prop, (∃ m, W 0 m (upd H1 D (.lst []))) ∧ ∀ i m H, W i m H →
      ((Itl K a).stop i H ∧ Qd H) ∨ ((Itl K a).go i H ∧ ∃ Nx : Hp → Prop, (∀ H', Nx H' → ∃ m', m' < m ∧ W (i + 1) m' H') ∧ ∀ x H', (Itl K a).yld i H x H' → gName j x (wipe σ vs) H' fun σ2 H2 => wipe σ2 vs = wipe σ vs ∧ tYes σ2 H2 fun b H3 =>
        if b = true then te σ2 H3 fun y H4 => ∃ acc, H4 D = some (.lst acc) ∧ acc.length < sizeLine ∧ Nx (upd H4 D (.lst (acc ++ [y]))) else Nx H3) := by
  refine lc_list (xs := ps0.map fun q => V.ref q.1) (Qd := Qd) (fun i H2 => Gr H1 H2 ∧ ∃ ps, Told H1 H2 D ps ∧ ps.map (·.2) = (ps0.take i).map (fun q => F q.2)) ⟨Gr.new hD, [], Told.nil hD, rfl⟩ (fun i H2 _ h => h.1.seq hA) (fun i x H2 hx h => ?_) (fun H2 h => ?_)
  · obtain ⟨g2, ps, T, e⟩ := h
    obtain ⟨q0, hq0, rfl⟩ := get_map hx
    refine ⟨hw _, yesIf (he q0 (List.mem_of_getElem? hq0) H2 _ g2 fun l H5 g5 nl el => ⟨_, g5.lst T.at_, ?_, (g2.trans g5).mut hD, ps ++ [(l, F q0.2)], T.snoc2 g2 g5 nl el, ?_⟩)⟩
    · rw [List.length_map]
      have h1 := congrArg List.length e
      rw [List.length_map, List.length_map, List.length_take] at h1
      omega
    · rw [List.map_append, e, take_map hq0]
      rfl
  · obtain ⟨g2, ps, T, e⟩ := h
    rw [List.length_map, List.take_length] at e
    exact q H2 ps g2 T e
theorem tb_map (tb : Tb1) : (tb.map fun e => (e.2.1, e.2.2)).map (·.2) = rws tb := by
  rw [List.map_map]
  rfl
theorem once_all' {rows : List (List Str)} (h : ∀ r ∈ rows, Ris r) : rows.map once = rows := once_all h
theorem rows_facts {tb : Tb1} {n : Int} (T : Tok tb n) {rows : List (List Str)} (len : rows.length ≤ 30) (h : ∀ r ∈ rows, ∃ r0 ∈ rws tb, List.Sublist r r0) : RowsOk rows :=
  T.rowsOk len fun r hr => by
    obtain ⟨r0, h0, sub⟩ := h r hr
    exact ⟨((T.rlen h0).1.nodup).sublist sub, fun y hy => row_in h0 y (sub.subset hy)⟩
theorem rws_len (tb : Tb1) : (rws tb).length = tb.length := List.length_map _
end K1
namespace K1
theorem flat_len {α β γ : Type} (F : α → β → γ) (qs : List β) : ∀ ps : List α, (ps.flatMap fun q => qs.map fun u => F q u).length = ps.length * qs.length
  | [] => by simp
  | p :: ps => by
    rw [List.flatMap_cons, List.length_append, List.length_map, flat_len F qs ps, List.length_cons, Nat.succ_mul]
    omega
end K1
namespace K1
open PySem PySem.Spec PyProof.Rows L2 Gr GxR Srx Skx Dcx
def spBPared (K : PySem.W.Frag) (C : Addr) (N : TabN) (R : ErN) : Sp := fun vs H Q E => ∃ b d tb n v, vs = [.ref b, v] ∧ Bk C H b d tb n ∧ Tok tb n ∧ N.G H ∧
  ((∃ xs, HOk H v xs ∧ mtAll xs (rws tb) = true ∧ ∀ p H', Gr H H' → H p = none → H' p = some (.lst ((pared (rws tb) (once xs)).map V.str)) → Q (.ref p) H') ∨ (∃ xs, HOk H v xs ∧ mtAll xs (rws tb) = false ∧ ∀ H', Gr H H' → E (.ref R.meet) none H') ∨
   (HBadN K H v ∧ ∀ H', Gr H H' → E (.ref R.name) none H') ∨ (HBadR K H v ∧ ∀ H', Gr H H' → E (.ref R.row) none H'))
/-- the first row in which of the set asked that name stands alone -/
def firstOwn (tb : Tb1) (asked : List Str) (x : Str) : Option Int := (tb.find? fun e => decide (asked.filter e.2.2.contains = [x])).map (·.1)
def ownV : Option Int → V
  | some k => .int k
  | none => .non
def spFirstOwn (K : PySem.W.Frag) (C : Addr) : Sp := fun vs H Q _ => ∃ (b d : Addr) (tb : Tb1) (n : Int) (x : Str) (a : Addr) (asked : List Str), vs = [.ref b, .str x, .ref a] ∧ Bk C H b d tb n ∧ Tok tb n ∧ H a = some (.lst (asked.map V.str)) ∧ Nms asked ∧ isNm x = true ∧ asked.length ≤ 1000 ∧
  ∀ H', Gr H H' → Q (ownV (firstOwn tb asked x)) H'
def spBOwn (K : PySem.W.Frag) (C : Addr) (N : TabN) (R : ErN) : Sp := fun vs H Q E => ∃ b d tb n v, vs = [.ref b, v] ∧ Bk C H b d tb n ∧ Tok tb n ∧ N.G H ∧
  ((∃ xs, HOk H v xs ∧ mtAll xs (rws tb) = true ∧ (∀ x ∈ once xs, (firstOwn tb (once xs) x).isSome = true) ∧
      ∀ p H' (ts : List (Addr × Str × Int)), Gr H H' → H p = none → H' p = some (.lst (ts.map fun t => V.ref t.1)) → (∀ t ∈ ts, H t.1 = none ∧ t.1 ≠ p ∧ H' t.1 = some (.tup [.str t.2.1, .int t.2.2])) → ts.map (·.2) = (once xs).map (fun x => (x, (firstOwn tb (once xs) x).getD 0)) → Q (.ref p) H') ∨
   (∃ xs, HOk H v xs ∧ (mtAll xs (rws tb) = false ∨ ∃ x ∈ once xs, firstOwn tb (once xs) x = none) ∧ ∀ H', Gr H H' → E (.ref R.meet) none H') ∨
   (HBadN K H v ∧ ∀ H', Gr H H' → E (.ref R.name) none H') ∨ (HBadR K H v ∧ ∀ H', Gr H H' → E (.ref R.row) none H'))
def needB (rows : List (List Str)) : List Str := (least rows).flatMap fun r => if r.length = 1 then r else []
def spBNeeded (C : Addr) (N : TabN) : Sp := fun vs H Q _ => ∃ b d tb n, vs = [.ref b] ∧ Bk C H b d tb n ∧ Tok tb n ∧ N.G H ∧ ∀ p H', Gr H H' → H p = none → H' p = some (.lst ((needB (rws tb)).map V.str)) → Q (.ref p) H'
theorem find_snoc {α : Type} {p : α → Bool} {l : List α} {i : Nat} {x : α} (h : l[i]? = some x) (n : (l.take i).find? p = none) : (l.take (i + 1)).find? p = if p x = true then some x else none := by
  rw [List.take_add_one, h, List.find?_append, n]
  simp only [Option.none_or, Option.toList]
  rw [List.find?_cons]
  split
  · rename_i e; rw [if_pos e]
  · rename_i e; rw [if_neg (by rw [e]; exact Bool.false_ne_true)]; rfl
theorem find_done {α : Type} {p : α → Bool} {l : List α} {i : Nat} {x : α} (h : l[i]? = some x) (n : (l.take i).find? p = none) (hx : p x = true) : l.find? p = some x := by
  have e := find_snoc h n
  rw [if_pos hx] at e
  rw [← List.take_append_drop (i + 1) l, List.find?_append, e]
  rfl
end K1
end
section
set_option maxHeartbeats 8000000
namespace K1
open PySem PySem.Spec PyProof.Rows L2 Gr GxR Srx Skx Dcx
open PySem.W (dataLe dataLt DatumOrd Datum)
/-- pairs of a number and a set, as data -/
def prD (z : Int × List Str) : PyData := .tuple [.int z.1, dS z.2]
def pairsD (l : List (Int × List Str)) : PyData := .list (l.map prD)
theorem ToldP.dp {K : PySem.W.Frag} {H H' : Hp} {p : Addr} {rs : List Pr1} (T : ToldP H H' p rs) : Dp K H' (.ref p) (pairsD (rs.map fun r => (r.k, r.r))) := by
  have gen : ∀ l : List Pr1, (∀ r ∈ l, r ∈ rs) → DpAll K H' (l.map fun r => V.ref r.t) ((l.map fun r => (r.k, r.r)).map prD) := by
    intro l
    induction l with
    | nil => intro _; exact .nil
    | cons r l ih =>
      intro h
      obtain ⟨_, _, _, _, h5, h6⟩ := T.own r (h r List.mem_cons_self)
      exact .cons (.tup (.inl (.inl h5)) (.cons (.int r.k) (.cons (dp_dS (.inl (.inl h6))) .nil))) (ih fun x hx => h x (List.mem_cons_of_mem _ hx))
  exact .lst (.inl (.inl T.at_)) (gen rs fun _ z => z)
theorem canL_pairs : ∀ l : List (Int × List Str), (∀ z ∈ l, Nms z.2) → PyData.canLayAll0 (l.map prD) = true
  | [], _ => by simp [PyData.canLayAll0]
  | n :: r, h => by
    have h1 := canL_strs n.2 (h n List.mem_cons_self)
    have h2 := canL_pairs r fun x hx => h x (List.mem_cons_of_mem _ hx)
    simp only [List.map_cons, PyData.canLayAll0, h2, Bool.and_true]
    simp only [prD, dS, PyData.canLay0, PyData.canLayAll0, h1, Bool.and_true]
theorem deep_pairs : ∀ l : List (Int × List Str), PyData.depthAll (l.map prD) ≤ 5
  | [] => by simp [PyData.depthAll]
  | n :: r => by
    have h1 := deep_pairs r
    have h2 := deep_strs n.2
    simp only [List.map_cons, PyData.depthAll, PyData.depth, prD, dS] at h1 ⊢
    omega
theorem shaped_pairs {l : List (Int × List Str)} (nm : ∀ z ∈ l, Nms z.2) : SeqAt.shaped (pairsD l) = true := by
  have h1 := deep_pairs l
  have h2 : PyData.depth (pairsD l) ≤ 64 := by simp only [pairsD, PyData.depth]; omega
  show (PyData.canLay0 (pairsD l) && decide (PyData.depth (pairsD l) ≤ 64)) = true
  rw [Bool.and_eq_true]
  exact ⟨by simp only [pairsD, PyData.canLay0]; exact canL_pairs l nm, decide_eq_true h2⟩
theorem eqv_pairs (xs ys : List (Int × List Str)) : PyData.eqv (pairsD xs) (pairsD ys) = decide (xs = ys) := Datum.eqv xs ys
theorem numD_eq (rows : List (List Str)) : numD rows = pairsD (numd (rows.map srt)) := by
  unfold numD pairsD numd
  congr 1
  refine List.ext_getElem? fun i => ?_
  rw [List.getElem?_map, List.getElem?_map, List.getElem?_mapIdx, List.getElem?_map]
  by_cases h : i < rows.length
  · rw [List.getElem?_range h, List.getElem?_eq_getElem h]
    show some (PyData.tuple [.int i, dS (srt (rows.getD i []))]) = some (PyData.tuple [.int i, dS (srt rows[i])])
    rw [List.getD_eq_getElem?_getD, List.getElem?_eq_getElem h]
    rfl
  · rw [List.getElem?_eq_none (by simpa using h), List.getElem?_eq_none (by simpa using h)]
    rfl
theorem once_srt {r : List Str} (h : r.Nodup) : once r = srt r := once_same h fun _ => Iff.rfl
theorem map_once_srt {rows : List (List Str)} (h : ∀ r ∈ rows, r.Nodup) : rows.map once = rows.map srt := List.map_congr_left fun r hr => once_srt (h r hr)
theorem nms_numd {rows : List (List Str)} (h : ∀ r ∈ rows, Nms r) : ∀ z ∈ numd rows, Nms z.2 := by
  intro z hz
  have : z.2 ∈ (numd rows).map (·.2) := List.mem_map.mpr ⟨z, hz, rfl⟩
  rw [numd_rows] at this
  exact h _ this
/-- lists of sets, sorted -/
theorem ordDS : Ord dS := ⟨fun x y => (DatumOrd.alike x y : PySem.W.alike (Datum.toD x) (Datum.toD y) = true), .inr fun x => ⟨by simp [dS], fun ds => by simp [dS]⟩, fun x => by
  have := deep_strs x
  simp only [dS, PyData.depth]
  omega⟩
end K1
namespace K1
open PySem PySem.Spec PyProof.Rows L2 Gr GxR Srx Skx Dcx
open PySem.W (dataLe dataLt DatumOrd Datum)
def leD (a b : List Str) : Bool := dataLe false dS a b
theorem leD_eq (a b : List Str) : leD a b = !dataLt (dS b) (dS a) := rfl
theorem leD_anti {a b : List Str} (h1 : leD a b = true) (h2 : leD b a = true) : a = b := by
  rw [leD_eq, Bool.not_eq_true'] at h1 h2
  have e1 : dataLt (Datum.toD b) (Datum.toD a) = false := h1
  have e2 : dataLt (Datum.toD a) (Datum.toD b) = false := h2
  rw [DatumOrd.lt_eq] at e1 e2
  exact listLt_anti a b e2 e1
theorem leD_trans {a b c : List Str} (h1 : leD a b = true) (h2 : leD b c = true) : leD a c = true := by
  rw [leD_eq, Bool.not_eq_true'] at *
  cases z : dataLt (dS c) (dS a) with
  | false => rfl
  | true =>
    rcases PyProof.Rows.lex_negTrans _ (PySem.W.keyToks (dS b)) _ z with y | y
    · rw [show dataLt (dS c) (dS b) = true from y] at h2
      cases h2
    · rw [show dataLt (dS b) (dS a) = true from y] at h1
      cases h1
theorem leD_total (a b : List Str) : (leD a b || leD b a) = true := by
  rw [leD_eq, leD_eq]
  cases h : dataLt (dS b) (dS a) with
  | false => rfl
  | true =>
    cases h2 : dataLt (dS a) (dS b) with
    | false => rfl
    | true =>
      have t := PyProof.Rows.lex_trans _ _ _ (show PyProof.Rows.lexLt _ _ _ = true from h) (show PyProof.Rows.lexLt _ _ _ = true from h2)
      have e := PySem.W.dataLt_self (dS b)
      rw [show dataLt (dS b) (dS b) = true from t] at e
      cases e
def srtD (xss : List (List Str)) : List (List Str) := xss.mergeSort leD
theorem srtD_eq {xs ys : List (List Str)} (p : xs.Perm ys) : srtD xs = srtD ys := by
  have s : ∀ zs : List (List Str), (srtD zs).Pairwise (fun a b => leD a b = true) := fun zs => List.pairwise_mergeSort (le := leD) (fun _ _ _ h1 h2 => leD_trans h1 h2) leD_total zs
  exact List.Perm.eq_of_pairwise (fun a b _ _ z1 z2 => leD_anti z1 z2) (s xs) (s ys) ((List.mergeSort_perm _ _).trans (p.trans (List.mergeSort_perm _ _).symm))
theorem srtD_perm (xs : List (List Str)) : (srtD xs).Perm xs := List.mergeSort_perm _ _
/-- sorted(..) of a list of lists -/
theorem sortedDS {K : PySem.W.Frag} {H : Hp} {a : Addr} {ps : List (Addr × List Str)} {σ : L2.St} {Q : VK} (hs : SqL K H a (ps.map fun q => V.ref q.1)) (own : ∀ q ∈ ps, SqL K H q.1 (q.2.map V.str))
    (q : ∀ p qs, H p = none → List.Perm qs ps → qs.map (·.2) = srtD (ps.map (·.2)) → Q (.ref p) (upd H p (.lst (qs.map fun q => V.ref q.1)))) :
    tNil σ H fun ys H2 => rSortedD K dS (V.ref a :: ys) H2 Q := by
  have e0 : (ps.map fun q => (V.ref q.1, q.2)).mergeSort (dataLe false fun b => dS b.2) = (ps.mergeSort fun x y => leD x.2 y.2).map fun q => (V.ref q.1, q.2) := by
    rw [List.map_mergeSort]
    intro x _ y _
    rfl
  refine ⟨a, ps.map fun q => (V.ref q.1, q.2), rfl, by rw [List.map_map]; exact hs, fun b hb => ?_, fun p hp => ?_⟩
  · obtain ⟨x, hx, rfl⟩ := List.mem_map.mp hb
    exact dp_dS (own x hx)
  · rw [e0, List.map_map]
    refine q p _ hp (List.mergeSort_perm _ _) ?_
    unfold srtD
    rw [List.map_mergeSort]
    intro x _ y _
    rfl
/-- [.. x .. for x in xs if ..]: each made anew -/
theorem lc_freshF {K : PySem.W.Frag} {a D : Addr} {j : Nat} {σ : L2.St} {vs : List Nat} {tt : TT} {te : TE} {H1 : Hp} {Qd : Hp → Prop} {ps0 : List (Addr × List Str)} (p : List Str → Bool) (F : List Str → List Str)
    (hA : SqL K H1 a (ps0.map fun q => V.ref q.1)) (few : ps0.length < sizeLine) (hD : H1 D = none) (hw : ∀ v, wipe ((wipe σ vs).set j (some v)) vs = wipe σ vs)
    (ht : ∀ q ∈ ps0, ∀ (H4 : Hp) (Qb : Bool → Hp → Prop), Gr H1 H4 → (∀ H5, Gr H4 H5 → Qb (p q.2) H5) → tt ((wipe σ vs).set j (some (.ref q.1))) H4 Qb)
    (he : ∀ q ∈ ps0, p q.2 = true → ∀ (H4 : Hp) (Q' : VK), Gr H1 H4 → (∀ l H5, Gr H4 H5 → H4 l = none → H5 l = some (.lst ((F q.2).map V.str)) → Q' (.ref l) H5) → te ((wipe σ vs).set j (some (.ref q.1))) H4 Q')
    (q : ∀ H2 ps, Gr H1 H2 → Told H1 H2 D ps → ps.map (·.2) = ((ps0.map (·.2)).filter p).map F → Qd H2) :
    ∃ W : Nat → Nat → Hp → Prop, (∃ m, W 0 m (upd H1 D (.lst []))) ∧ ∀ i m H, W i m H →
      ((Itl K a).stop i H ∧ Qd H) ∨ ((Itl K a).go i H ∧ ∃ Nx : Hp → Prop, (∀ H', Nx H' → ∃ m', m' < m ∧ W (i + 1) m' H') ∧ ∀ x H', (Itl K a).yld i H x H' → gName j x (wipe σ vs) H' fun σ2 H2 => wipe σ2 vs = wipe σ vs ∧ tt σ2 H2 fun b H3 =>
        if b = true then te σ2 H3 fun y H4 => ∃ acc, H4 D = some (.lst acc) ∧ acc.length < sizeLine ∧ Nx (upd H4 D (.lst (acc ++ [y]))) else Nx H3) := by
  have etk : ∀ {i : Nat} {q0 : Addr × List Str}, ps0[i]? = some q0 → (((ps0.take (i + 1)).map (·.2)).filter p).map F = (((ps0.take i).map (·.2)).filter p).map F ++ (if p q0.2 = true then [F q0.2] else []) := by
    intro i q0 h
    rw [take_map h, List.filter_append, List.map_append]
    congr 1
    rw [List.filter_cons]
    split <;> simp
  refine lc_list (xs := ps0.map fun q => V.ref q.1) (Qd := Qd) (fun i H2 => Gr H1 H2 ∧ ∃ ps, Told H1 H2 D ps ∧ ps.map (·.2) = (((ps0.take i).map (·.2)).filter p).map F) ⟨Gr.new hD, [], Told.nil hD, rfl⟩ (fun i H2 _ h => h.1.seq hA) (fun i x H2 hx h => ?_) (fun H2 h => ?_)
  · obtain ⟨g2, ps, T, e⟩ := h
    obtain ⟨q0, hq0, rfl⟩ := get_map hx
    have m0 := List.mem_of_getElem? hq0
    refine ⟨hw _, ht q0 m0 H2 _ g2 fun H3 g3 => ?_⟩
    have T3 := T.gr g3
    cases hp : p q0.2 with
    | false =>
      refine iteF ⟨g2.trans g3, ps, T3, ?_⟩
      rw [etk hq0, if_neg (by rw [hp]; exact Bool.false_ne_true), List.append_nil]
      exact e
    | true =>
      refine iteT (he q0 m0 hp H3 _ (g2.trans g3) fun l H5 g5 nl el => ⟨_, g5.lst T3.at_, ?_, ((g2.trans g3).trans g5).mut hD, ps ++ [(l, F q0.2)], T3.snoc2 (g2.trans g3) g5 nl el, ?_⟩)
      · rw [List.length_map]
        have h1 := congrArg List.length e
        rw [List.length_map, List.length_map] at h1
        have h2 := List.length_filter_le p ((ps0.take i).map (·.2))
        rw [List.length_map, List.length_take] at h2
        omega
      · rw [List.map_append, e, etk hq0, if_pos hp]
        rfl
  · obtain ⟨g2, ps, T, e⟩ := h
    rw [List.length_map, List.take_length] at e
    exact q H2 ps g2 T e
end K1
namespace K1
open PySem PySem.Spec PyProof.Rows L2 Gr GxR Srx Skx Dcx
theorem contains_once (r : List Str) (x : Str) : (once r).contains x = r.contains x := by
  rw [Bool.eq_iff_iff, List.contains_iff_mem, List.contains_iff_mem]
  exact once_mem
theorem once_filter (r : List Str) (p : Str → Bool) : (once r).filter p = once (r.filter p) := by
  refine (wi_anti (ris_filter p (ris_once r)) (ris_once _) (wi_iff.mpr fun y hy => ?_) (wi_iff.mpr fun y hy => ?_))
  · obtain ⟨h1, h2⟩ := List.mem_filter.mp hy
    exact once_mem.mpr (List.mem_filter.mpr ⟨once_mem.mp h1, h2⟩)
  · obtain ⟨h1, h2⟩ := List.mem_filter.mp (once_mem.mp hy)
    exact List.mem_filter.mpr ⟨once_mem.mpr h1, h2⟩
theorem once_once (r : List Str) : once (once r) = once r := once_ris (ris_once r)
/-- the struck rows of a book of once-rows -/
theorem strike_once (x : Str) (rows : List (List Str)) : (strike x (rows.map once)).map once = (strike x rows).map once := by
  unfold strike
  rw [List.map_map, List.map_map, List.map_map]
  refine List.map_congr_left fun r _ => ?_
  show once ((once r).filter _) = once (r.filter _)
  rw [once_filter, once_once]
theorem away_map (x : Str) (rows : List (List Str)) : away x (rows.map once) = (away x rows).map once := by
  unfold away
  rw [List.filter_map]
  refine congrArg _ (List.filter_congr fun r _ => ?_)
  show (!(once r).contains x) = !r.contains x
  rw [contains_once]
theorem away_once (x : Str) (rows : List (List Str)) : (away x (rows.map once)).map once = (away x rows).map once := by
  rw [away_map, List.map_map]
  exact List.map_congr_left fun r _ => once_once r
theorem grown_once (rows : List (List Str)) : grown (rows.map once) = grown rows := grown_congr fun x => mtAll_once x rows
end K1
namespace K1
open PySem PySem.Spec PyProof.Rows L2 Gr GxR Srx Skx Dcx
theorem strike_grown (x : Str) (rows : List (List Str)) : grown (strike x (rows.map once)) = (grown rows).filter fun z => !z.contains x := by
  refine (grown_one ((grown_nodup rows).filter _) ((grown_sorted rows).filter _) fun z => ?_).symm
  rw [List.mem_filter, grown_mem, lst_strike, lst_congr (rows := rows.map once) (rows' := rows) fun y => mtAll_once y rows]
  refine and_congr_right fun _ => ?_
  rw [Bool.not_eq_true', Bool.eq_false_iff, Ne, List.contains_iff_mem]
theorem away_no {x : Str} {rows : List (List Str)} {z : List Str} (h : z ∈ grown (away x rows)) : x ∉ z := by
  intro hx
  obtain ⟨r, hr, hy, _⟩ := (lst_own.mp (grown_mem.mp h)).2.2 x hx
  exact (away_mem.mp hr).2 hy
theorem srt_snoc {z : List Str} {x : Str} (hz : Ris z) (hx : x ∉ z) : srt (z ++ [x]) = once (z ++ [x]) :=
  (once_srt (List.nodup_append.mpr ⟨hz.nodup, by simp, fun a ha b hb e => hx (by rw [← List.mem_singleton.mp hb, ← e]; exact ha)⟩)).symm
theorem with_perm {x : Str} {rows : List (List Str)} : List.Perm (((grown (away x rows)).filter fun z => !mtAll z rows).map fun z => srt (z ++ [x])) ((grown rows).filter fun z => z.contains x) := by
  have m1 : ∀ z ∈ (grown (away x rows)).filter (fun z => !mtAll z rows), Ris z ∧ x ∉ z ∧ Lst (away x rows) z ∧ mtAll z rows = false := by
    intro z hz
    obtain ⟨h1, h2⟩ := List.mem_filter.mp hz
    exact ⟨grown_ris _ z h1, away_no h1, grown_mem.mp h1, by simpa using h2⟩
  refine (List.perm_ext_iff_of_nodup ?_ ((grown_nodup rows).filter _)).mpr fun y => ?_
  · refine List.pairwise_map.mpr (((grown_nodup (away x rows)).filter _).imp_of_mem fun {a b} ha hb ne e => ne ?_)
    obtain ⟨a1, a2, _⟩ := m1 a ha
    obtain ⟨b1, b2, _⟩ := m1 b hb
    rw [srt_snoc a1 a2, srt_snoc b1 b2] at e
    have key : ∀ {u v : List Str}, x ∉ u → once (u ++ [x]) = once (v ++ [x]) → wi u v = true := by
      intro u v hu e
      refine wi_iff.mpr fun y hy => ?_
      have : y ∈ once (v ++ [x]) := e ▸ once_mem.mpr (List.mem_append_left _ hy)
      rcases List.mem_append.mp (once_mem.mp this) with h | h
      · exact h
      · rw [List.mem_singleton.mp h] at hy
        exact absurd hy hu
    exact wi_anti a1 b1 (key a2 e) (key b2 e.symm)
  · rw [List.mem_filter, grown_mem, List.contains_iff_mem, lst_with, List.mem_map]
    constructor
    · rintro ⟨z, hz, rfl⟩
      obtain ⟨h1, h2, h3, h4⟩ := m1 z hz
      exact ⟨z, h3, h4, srt_snoc h1 h2⟩
    · rintro ⟨s, h3, h4, rfl⟩
      have hs : s ∈ grown (away x rows) := grown_mem.mpr h3
      exact ⟨s, List.mem_filter.mpr ⟨hs, by rw [h4]; rfl⟩, srt_snoc h3.1 (away_no hs)⟩
end K1
namespace K1
open PySem PySem.Spec PyProof.Rows L2 Gr GxR Srx Skx Dcx
def spLawG (K : PySem.W.Frag) (N : TabN) : Sp := fun vs H Q _ => ∃ (a : Addr) (ns : List Int), vs = [.ref a] ∧ SqL K H a (ns.map V.int) ∧ N.G H ∧ ∀ H', Q (.bl true) H'
end K1
end
section
set_option maxHeartbeats 8000000
namespace K1
open PySem PySem.Spec PyProof.Rows L2 Gr GxR Srx Skx Dcx
/-- what is neither a book's object nor its dict stays -/
structure Sqs (H H' : Hp) : Prop where
  at_ : ∀ a o, H a = some o → (∀ ps, o ≠ .tbl ps) → (∀ C dx f, o ≠ .ins C dx f) → (∀ kv, o ≠ .dK kv) → H' a = some o
theorem Sqs.lst {H H' : Hp} (g : Sqs H H') {a : Addr} {xs : List V} (e : H a = some (.lst xs)) : H' a = some (.lst xs) := g.at_ a _ e (fun _ z => nomatch z) (fun _ _ _ z => nomatch z) (fun _ z => nomatch z)
theorem Sqs.ll {H H' : Hp} (g : Sqs H H') {a : Addr} {ps : List (Addr × List Str)} (h : LL H a ps) : LL H' a ps := ⟨g.lst h.at_, fun q hq => g.lst (h.own q hq)⟩
theorem Sqs.seq {K : PySem.W.Frag} {H H' : Hp} (g : Sqs H H') {a : Addr} {xs : List V} (h : SqL K H a xs) : SqL K H' a xs := by
  rcases h with (h | ⟨o, h⟩) | h
  · exact .inl (.inl (g.lst h))
  · exact .inl (.inr ⟨o, g.at_ _ _ h (fun _ z => nomatch z) (fun _ _ _ z => nomatch z) (fun _ z => nomatch z)⟩)
  · exact .inr h
theorem Sqs.seqT {K : PySem.W.Frag} {H H' : Hp} (g : Sqs H H') {a : Addr} {xs : List V} (h : SqT K H a xs) : SqT K H' a xs := by
  rcases h with (h | ⟨o, h⟩) | h
  · exact .inl (.inl (g.at_ _ _ h (fun _ z => nomatch z) (fun _ _ _ z => nomatch z) (fun _ z => nomatch z)))
  · exact .inl (.inr ⟨o, g.at_ _ _ h (fun _ z => nomatch z) (fun _ _ _ z => nomatch z) (fun _ z => nomatch z)⟩)
  · exact .inr h
mutual
theorem dp_sq {K : PySem.W.Frag} {H H' : Hp} (g : Sqs H H') : ∀ (d : PyData) (v : V), Dp K H v d → Dp K H' v d
  | .none, v, h => by cases h; exact .non
  | .bool b, v, h => by cases h; exact .bl b
  | .int i, v, h => by cases h; exact .int i
  | .str x, v, h => by cases h; exact .str x
  | .list ds, v, h => by
    cases h with
    | lst hs ha => exact .lst (g.seq hs) (dpAll_sq g ds _ ha)
  | .tuple ds, v, h => by
    cases h with
    | tup hs ha => exact .tup (g.seqT hs) (dpAll_sq g ds _ ha)
  | .dict _, v, h => by cases h
theorem dpAll_sq {K : PySem.W.Frag} {H H' : Hp} (g : Sqs H H') : ∀ (ds : List PyData) (vs : List V), DpAll K H vs ds → DpAll K H' vs ds
  | [], vs, h => by cases h; exact .nil
  | d :: ds, vs, h => by
    cases h with
    | cons h1 h2 => exact .cons (dp_sq g d _ h1) (dpAll_sq g ds _ h2)
end
theorem Sqs.dp {K : PySem.W.Frag} {H H' : Hp} (g : Sqs H H') {d : PyData} {v : V} (h : Dp K H v d) : Dp K H' v d := dp_sq g d v h
theorem Sqs.trans {H H1 H2 : Hp} (g : Sqs H H1) (h : Sqs H1 H2) : Sqs H H2 := ⟨fun a o e n1 n2 n3 => h.at_ a o (g.at_ a o e n1 n2 n3) n1 n2 n3⟩
theorem Sqs.gr {H H' : Hp} (g : Gr H H') : Sqs H H' := ⟨fun a o e n1 _ _ => g.at_ a o e n1⟩
theorem Bk.off {X : Addr → Prop} {C b d : Addr} {H H' : Hp} {tb : Tb1} {n : Int} (B : Bk C H b d tb n) (g : GrX X H H') (h : ∀ z, X z → z = b ∨ z = d) : Sqs H H' := by
  obtain ⟨dx, e1⟩ := B.ob
  refine ⟨fun a o e n1 n2 n3 => g.at_ a o (fun hx => ?_) e n1⟩
  rcases h a hx with rfl | rfl
  · rw [e1] at e
    exact n2 _ _ _ (Option.some.inj e).symm
  · rw [B.dc] at e
    exact n3 _ (Option.some.inj e).symm
/-- another book stays -/
theorem Bk.off2 {X : Addr → Prop} {C b d b2 d2 : Addr} {H H' : Hp} {tb tb2 : Tb1} {n n2 : Int} (B : Bk C H b d tb n) (g : GrX X H H') (h : ∀ z, X z → z = b ∨ z = d) (B2 : Bk C H b2 d2 tb2 n2) (n1 : b2 ≠ b) (nd : d2 ≠ d) : Bk C H' b2 d2 tb2 n2 := by
  obtain ⟨dx, e1⟩ := B.ob
  obtain ⟨dx2, e2⟩ := B2.ob
  refine B2.grx g (fun z => ?_) (fun z => ?_) fun e he z => ?_
  · rcases h _ z with z | z
    · exact n1 z
    · rw [z, B.dc] at e2
      cases e2
  · rcases h _ z with z | z
    · have := B2.dc
      rw [z, e1] at this
      cases this
    · exact nd z
  · have := B2.own e he
    rcases h _ z with z | z
    · rw [z, e1] at this
      cases this
    · rw [z, B.dc] at this
      cases this
/-- a book made anew is no older one -/
theorem NewB.apart {C b d b2 d2 : Addr} {H H' : Hp} {tb tb2 : Tb1} {n2 : Int} {rows : List (List Str)} (NB : NewB C H H' b d tb rows) (B2 : Bk C H b2 d2 tb2 n2) : b2 ≠ b ∧ d2 ≠ d := by
  obtain ⟨dx, e1⟩ := B2.ob
  exact ⟨ne_of_none e1 NB.nb, ne_of_none B2.dc NB.ndd⟩
theorem unions_once (A B : List (List Str)) : unions (A.map once) (B.map once) = unions A B := by
  unfold unions
  rw [List.flatMap_map]
  congr 1
  funext a
  rw [List.map_map]
  refine List.map_congr_left fun b _ => once_congr fun y => ?_
  rw [List.mem_append, List.mem_append, once_mem, once_mem]
theorem map_once_once (A : List (List Str)) : (A.map once).map once = A.map once := by
  rw [List.map_map]
  exact List.map_congr_left fun r _ => once_once r
theorem unions_ris (A B : List (List Str)) : ∀ z ∈ unions A B, Ris z := fun z hz => by
  obtain ⟨a, _, b, _, rfl⟩ := unions_mem.mp hz
  exact ris_once _
theorem unions_len (A B : List (List Str)) : (unions A B).length = A.length * B.length := flat_len (fun a b => once (a ++ b)) B A
theorem cut6 (xs : List Str) : cutV (xs.map V.str) none (some 6) = (xs.take 6).map V.str := by
  unfold cutV
  rw [HT.sIx_none, List.drop_zero, show (some (6 : Int)) = some ((6 : Nat) : Int) from rfl, HT.sIx_nat, Nat.sub_zero, List.map_take, List.length_map]
  by_cases h : 6 ≤ xs.length
  · rw [Nat.min_eq_left h]
  · rw [Nat.min_eq_right (by omega), List.take_of_length_le (by rw [List.length_map]; omega), List.take_of_length_le (by rw [List.length_map]; omega)]
theorem TabN.G.young {N : TabN} {H H' : Hp} (h : N.G H) (g : Gr H H') : N.G H' := h.gr g
end K1
end
section
set_option maxHeartbeats 4000000
/-! >= of data that are alike -/
namespace K1
open PySem PySem.Spec PyProof.Rows L2 Gr GxR Srx Skx Dcx
open PySem.W (dataLt alike)
def rGeD (K : PySem.W.Frag) : R2 := fun x y H Q => ∃ d e, Dp K H x d ∧ Dp K H y e ∧ alike d e = true ∧ d ≠ .none ∧ PyData.depth d ≤ 64 ∧ Q (.bl (!dataLt d e)) H
theorem op_geD {X : Cx} (hu : X.A.units + 64 < cLine) : OpR X (compareOp .GtE) (rGeD X.K) := by
  intro pins s σ H x y v u Q I rx ry h
  obtain ⟨d, e, hd, he, al, nn, dl, q⟩ := h
  obtain ⟨as, r1⟩ := Dp.reads I d x v hd rx
  obtain ⟨bs, r2⟩ := Dp.reads I e y u he ry
  exact PySem.W.rcGe_alike d e X.A s v u as bs r1 r2 al nn (by omega) _ _ _ _ ⟨.bl _, H, I, rfl, q⟩
/-- by rank: neither below nor alike -/
theorem ge_rk (a b : List Str) : (!dataLt (rk a) (rk b)) = leR b a := rfl
theorem alike_rk (a b : List Str) : alike (rk a) (rk b) = true := ordRk.1 a b
end K1
namespace K1
open PySem PySem.Spec PyProof.Rows L2 Gr GxR Srx Skx Dcx
/-- len of a set of texts -/
def rLenTx (w : World) : List V → Hp → VK → Prop := fun vs H Q => ∃ (a : Addr) (ks : List Str), vs = [V.ref a] ∧ H a = some (SetTx w a ks) ∧ Q (.int (ks.length : Nat)) H
theorem call_lenTx {X : Cx} : CallR X (.builtin "len") (rLenTx X.w) := by
  intro pins s σ H vs us Q I r h
  obtain ⟨a, ks, rfl, ha, q⟩ := h
  rw [Vals.ref1 r]
  obtain ⟨o, es, ep, t, ho, hex, hd, g, pm0, nd, hb, hf, hr, hl⟩ := setTx_get I ha
  have e : es.size = ks.length := by
    have h1 := pm0.length_eq
    rw [List.length_map, Array.length_toList] at h1
    exact h1
  have sb : (scanBound : Int) ≤ 2 ^ 62 := by decide +kernel
  refine PySem.call_len_set ho hex hd hf (by omega) ⟨.int (es.size : Nat), H, I.kept (t' := s.toks + 1 + 1) (fun _ _ z => z), ⟨_, rfl⟩, ?_⟩
  rw [e]
  exact q
end K1
namespace K1
open PySem PySem.Spec PyProof.Rows L2 Gr GxR Srx Skx Dcx
/-- a number or None is neither True nor False -/
def rIsF : R2 := fun x y H Q => ∃ (b : Bool), ((∃ i : Int, x = .int i) ∨ x = .non) ∧ y = .bl b ∧ Q (.bl false) H
theorem op_isF {X : Cx} : OpR X (compareOp .Is) rIsF := by
  intro pins s σ H x y v u Q I rx ry h
  obtain ⟨b, hx, rfl, q⟩ := h
  cases (show u = Value.bool b from ry)
  rcases hx with ⟨i, rfl⟩ | rfl
  · obtain ⟨t, rfl⟩ := rx
    exact wpAny_is_other rfl (fun z => nomatch z) ⟨.bl false, H, I, rfl, q⟩
  · cases (show v = Value.none from rx)
    exact wpAny_is_other rfl (fun z => nomatch z) ⟨.bl false, H, I, rfl, q⟩
/-- a number is neither True nor False -/
def rIsB : R2 := fun x y H Q => ∃ (i : Int) (b : Bool), x = .int i ∧ y = .bl b ∧ Q (.bl false) H
theorem op_isB {X : Cx} : OpR X (compareOp .Is) rIsB := by
  intro pins s σ H x y v u Q I rx ry h
  obtain ⟨i, b, rfl, rfl, q⟩ := h
  obtain ⟨t, rfl⟩ := rx
  cases (show u = Value.bool b from ry)
  exact wpAny_is_other rfl (fun z => nomatch z) ⟨.bl false, H, I, rfl, q⟩
end K1
end
section
set_option maxHeartbeats 4000000
/-! dicts compared with {}; sorted keys; tables -/
namespace K1
open PySem PySem.Spec PyProof.Rows L2 Gr GxR Srx Skx Dcx
def rEqE : R2 := fun x y H Q => ∃ a b kvs, x = .ref a ∧ y = .ref b ∧ H a = some (.dK kvs) ∧ H b = some (.dK []) ∧ Q (.bl kvs.isEmpty) H
def rNeE : R2 := fun x y H Q => ∃ a b kvs, x = .ref a ∧ y = .ref b ∧ H a = some (.dK kvs) ∧ H b = some (.dK []) ∧ Q (.bl (!kvs.isEmpty)) H
theorem kv_nil {vs : List (Key × Value)} (r : KV ([] : List (Key × V)) vs) : vs = [] := by
  have h := Paired.length r
  cases vs with
  | nil => rfl
  | cons a b => cases h
theorem op_eqE {X : Cx} (hu : X.A.units < cLine) : OpR X (compareOp .Eq) rEqE := by
  intro pins s σ H x y v u Q I rx ry h
  obtain ⟨a, b, ks, rfl, rfl, ea, eb, q⟩ := h
  obtain rfl : v = Value.ref a := rx
  obtain rfl : u = Value.ref b := ry
  obtain ⟨_, ya, va, ra, da⟩ := (show ObjOk X.prog X.w H s.heap a (.dK ks) from I.hok a _ ea)
  obtain ⟨_, yb, vb, rb, db⟩ := (show ObjOk X.prog X.w H s.heap b (.dK []) from I.hok b _ eb)
  have hb := kv_nil rb
  subst hb
  have hl : ks.length = va.length := Paired.length ra
  refine PySem.W.keq_eq (knd := mixKind X.prog X.w) (r := true) ya yb da db hu (fun e => ?_) (fin_bl I q ?_)
  · cases va with
    | nil => exact .nil
    | cons c r => cases e
  · rw [Bool.and_true]
    cases ks with
    | nil => rw [List.length_nil] at hl; rw [← hl]; rfl
    | cons c r => rw [← hl]; rfl
theorem op_neE {X : Cx} (hu : X.A.units < cLine) : OpR X (compareOp .NotEq) rNeE := by
  intro pins s σ H x y v u Q I rx ry h
  obtain ⟨a, b, ks, rfl, rfl, ea, eb, q⟩ := h
  obtain rfl : v = Value.ref a := rx
  obtain rfl : u = Value.ref b := ry
  obtain ⟨_, ya, va, ra, da⟩ := (show ObjOk X.prog X.w H s.heap a (.dK ks) from I.hok a _ ea)
  obtain ⟨_, yb, vb, rb, db⟩ := (show ObjOk X.prog X.w H s.heap b (.dK []) from I.hok b _ eb)
  have hb := kv_nil rb
  subst hb
  have hl : ks.length = va.length := Paired.length ra
  refine PySem.W.keq_ne (knd := mixKind X.prog X.w) (r := true) ya yb da db hu (fun e => ?_) (fin_bl I q ?_)
  · cases va with
    | nil => exact .nil
    | cons c r => cases e
  · rw [Bool.and_true]
    cases ks with
    | nil => rw [List.length_nil] at hl; rw [← hl]; rfl
    | cons c r => rw [← hl]; rfl
theorem hu1 {k : Nat} {A : Around} (hr : Room k A) : A.units < cLine := by
  have := hr.un
  omega
/-! ### sorted texts, once more -/
theorem ltCps_iff : ∀ a b : List Nat, ltCps a b = true ↔ a < b
  | [], [] => ⟨fun z => (nomatch z), fun z => absurd z (List.not_lt_nil _)⟩
  | [], _ :: _ => ⟨fun _ => List.nil_lt_cons _ _, fun _ => rfl⟩
  | _ :: _, [] => ⟨fun z => (nomatch z), fun z => absurd z (List.not_lt_nil _)⟩
  | a :: r, b :: t => by
    rw [List.cons_lt_cons_iff, ← ltCps_iff r t]
    show (decide (a < b) || (a == b && ltCps r t)) = true ↔ _
    rw [Bool.or_eq_true, Bool.and_eq_true, decide_eq_true_eq, beq_iff_eq]
theorem rising_pw : ∀ (p : Str) (l : List Str), risingS p l = true → (p :: l).Pairwise (fun a b => leS a b = true)
  | p, [], _ => List.pairwise_singleton _ _
  | p, x :: r, h => by
    have h : (!ltCps x.cps.toList p.cps.toList && risingS x r) = true := h
    rw [Bool.and_eq_true, Bool.not_eq_true', Bool.eq_false_iff, Ne, ltCps_iff] at h
    have ih := rising_pw x r h.2
    have px : leS p x = true := leS_iff.mpr (List.not_lt.mp h.1)
    refine List.pairwise_cons.mpr ⟨fun y hy => ?_, ih⟩
    rcases List.mem_cons.mp hy with e | hy
    · rw [e]; exact px
    · exact leS_trans px (List.rel_of_pairwise_cons ih hy)
theorem sortedS_pw {l : List Str} (h : sortedS l = true) : l.Pairwise (fun a b => leS a b = true) := by
  cases l with
  | nil => exact .nil
  | cons x r => exact rising_pw x r h
def rSortD : List V → Hp → VK → Prop := fun xs H Q => ∃ (a : Addr) (kvs : List (Key × V)) (ks : List Str), xs = [V.ref a] ∧ Rd H a (.dK kvs) ∧ kvs.map (·.1) = ks.map Sum.inr ∧ ks.length < 64 ∧ ∀ ys p, ys.Perm ks → sortedS ys = true → H p = none → Q (.ref p) (upd H p (.lst (ys.map V.str)))
theorem call_sortedK {X : Cx} (hc : X.calm = true) : CallR X (.builtin "sorted") rSortD := call_sortedD hc
/-- sorted(d), d a dict with names for keys -/
theorem sortedKeys {H : Hp} {a : Addr} {l : List Str} {σ : L2.St} {Q : VK} (h : H a = some (.dK (kvK l))) (nd : l.Nodup) (few : l.length < 64) (q : ∀ p, H p = none → Q (.ref p) (upd H p (.lst ((once l).map V.str)))) :
    tNil σ H fun ys H2 => rSortD (V.ref a :: ys) H2 Q := by
  refine ⟨a, kvK l, l, rfl, .inl h, ?_, few, fun ys p pm so np => ?_⟩
  · unfold kvK
    rw [List.map_map]
    rfl
  · rw [show ys = once l from ?_]
    · exact q p np
    · rw [once_same nd fun _ => Iff.rfl]
      exact sorted_one (pm.trans (srt_perm l).symm) (sortedS_pw so) (srt_sorted l)
/-- sorted(xs), rising numbers -/
theorem sortedI {K : PySem.W.Frag} {H : Hp} {a : Addr} {ns : List Int} {σ : L2.St} {Q : VK} (h : SqL K H a (ns.map V.int)) (so : ns.Pairwise (· < ·)) (few : ns.length < 64) (q : ∀ p, H p = none → Q (.ref p) (upd H p (.lst (ns.map V.int)))) :
    tNil σ H fun ys H2 => rSorted K (V.ref a :: ys) H2 Q := by
  refine ⟨a, ns, rfl, h, few, fun ys p pm s2 np => ?_⟩
  rw [show ys = ns from List.Perm.eq_of_pairwise (fun a b _ _ z1 z2 => Int.le_antisymm z1 z2) s2 (so.imp fun z => Int.le_of_lt z) pm]
  exact q p np
/-! ### what stands apart from some objects -/
noncomputable def hide (X : Addr → Prop) (H : Hp) : Hp := fun b => open Classical in if X b then none else H b
theorem hide_in {X : Addr → Prop} {H : Hp} {b : Addr} (h : ¬ X b) : hide X H b = H b := by
  unfold hide
  rw [if_neg h]
theorem hide_out {X : Addr → Prop} {H : Hp} {b : Addr} {o : HO} (h : hide X H b = some o) : ¬ X b ∧ H b = some o := by
  unfold hide at h
  by_cases x : X b
  · rw [if_pos x] at h; cases h
  · rw [if_neg x] at h; exact ⟨x, h⟩
theorem GrX.hide {X : Addr → Prop} {H H' : Hp} (g : GrX X H H') : Gr (hide X H) (hide X H') :=
  ⟨fun b o e n => by
    obtain ⟨x, e⟩ := hide_out e
    rw [hide_in x]
    exact g.at_ b o x e n, fun b ps e => by
    obtain ⟨x, e⟩ := hide_out e
    obtain ⟨p, e1, k⟩ := g.tab b ps e
    exact ⟨p, by rw [hide_in x]; exact e1, k⟩⟩
theorem gr_unhide (X : Addr → Prop) (H : Hp) : Gr (hide X H) H :=
  ⟨fun b o e _ => (hide_out e).2, fun b ps e => ⟨ps, (hide_out e).2, fun h => h⟩⟩
/-- what has been told anew is none of X's, which stood before -/
theorem new_out {X : Addr → Prop} {H : Hp} {b : Addr} (hX : ∀ z, X z → ∃ o, H z = some o) (h : H b = none) : ¬ X b := fun z => by
  obtain ⟨o, e⟩ := hX b z
  rw [h] at e; cases e
/-! ### a list of told pairs -/
structure DueP (H : Hp) (p : Addr) (rs : List Pr1) : Prop where
  at_ : H p = some (.lst (rs.map fun r => V.ref r.t))
  own : ∀ r ∈ rs, H r.t = some (.tup [.int r.k, .ref r.l]) ∧ H r.l = some (.lst (r.r.map V.str))
theorem ToldP.due {H H' : Hp} {p : Addr} {rs : List Pr1} (T : ToldP H H' p rs) : DueP H' p rs := ⟨T.at_, fun r hr => ⟨(T.own r hr).2.2.2.2.1, (T.own r hr).2.2.2.2.2⟩⟩
theorem DueP.gr {H H' : Hp} {p : Addr} {rs : List Pr1} (T : DueP H p rs) (g : Gr H H') : DueP H' p rs := ⟨g.lst T.at_, fun r hr => ⟨g.tup (T.own r hr).1, g.lst (T.own r hr).2⟩⟩
theorem DueP.dp {K : PySem.W.Frag} {H' : Hp} {p : Addr} {rs : List Pr1} (T : DueP H' p rs) : Dp K H' (.ref p) (pairsD (rs.map fun r => (r.k, r.r))) := by
  have gen : ∀ l : List Pr1, (∀ r ∈ l, r ∈ rs) → DpAll K H' (l.map fun r => V.ref r.t) ((l.map fun r => (r.k, r.r)).map prD) := by
    intro l
    induction l with
    | nil => intro _; exact .nil
    | cons r l ih =>
      intro h
      obtain ⟨h5, h6⟩ := T.own r (h r List.mem_cons_self)
      exact .cons (.tup (.inl (.inl h5)) (.cons (.int r.k) (.cons (dp_dS (.inl (.inl h6))) .nil))) (ih fun x hx => h x (List.mem_cons_of_mem _ hx))
  exact .lst (.inl (.inl T.at_)) (gen rs fun _ z => z)
/-! ### a table of rows by numbers -/
structure Tbl (H : Hp) (t : Addr) (tb : Tb1) : Prop where
  at_ : H t = some (.dK (kvB tb))
  own : ∀ e ∈ tb, H e.2.1 = some (.lst (e.2.2.map V.str))
theorem Tbl.gr {H H' : Hp} {t : Addr} {tb : Tb1} (T : Tbl H t tb) (g : Gr H H') : Tbl H' t tb := ⟨g.at_ _ _ T.at_ (fun _ z => nomatch z), fun e he => g.lst (T.own e he)⟩
theorem Tbl.ne {H : Hp} {t : Addr} {tb : Tb1} (T : Tbl H t tb) {e : Int × Addr × List Str} (he : e ∈ tb) : e.2.1 ≠ t := ne_of (T.own e he) T.at_ (by intro z; cases z)
theorem Tbl.locked {H : Hp} {t : Addr} {tb : Tb1} {od : Obj} (T : Tbl H t tb) : ∀ e ∈ tb, (upd H t (.frz od (.dK (kvB tb)))) e.2.1 = some (.lst (e.2.2.map V.str)) := fun e he => by rw [upd_ne (T.ne he)]; exact T.own e he
theorem kvB_keys (tb : Tb1) : (kvB tb).map (fun kv => kV kv.1) = (nums tb).map V.int := by
  unfold kvB nums
  rw [List.map_map, List.map_map]
  rfl
theorem kvB_empty (tb : Tb1) : (kvB tb).isEmpty = tb.isEmpty := by
  cases tb <;> rfl
theorem pw_nodup {ns : List Int} (h : ns.Pairwise (· < ·)) : ns.Nodup := h.imp fun z e => by rw [e] at z; exact absurd z (Int.lt_irrefl _)
theorem kvB_get {tb : Tb1} (nd : (nums tb).Nodup) {e : Int × Addr × List Str} (he : e ∈ tb) : valV (kvB tb) (Sum.inl e.1 : Key) = some (V.ref e.2.1) := by
  induction tb with
  | nil => cases he
  | cons x r ih =>
    have nd2 : x.1 ∉ nums r ∧ (nums r).Nodup := List.nodup_cons.mp nd
    unfold valV kvB
    rw [List.map_cons, List.find?_cons]
    rcases List.mem_cons.mp he with rfl | he
    · rw [decide_eq_true rfl]
      rfl
    · have ne : (Sum.inl x.1 : Key) ≠ Sum.inl e.1 := fun z => nd2.1 (by injection z with z; rw [z]; exact List.mem_map.mpr ⟨e, he, rfl⟩)
      rw [decide_eq_false ne]
      exact ih nd2.2 he
end K1
namespace K1
open PySem PySem.Spec PyProof.Rows L2 Gr GxR Srx Skx Dcx
/-- [(n, table[n]) for n in ..] -/
theorem lc_due {K : PySem.W.Frag} {a D : Addr} {j : Nat} {σ : L2.St} {vs : List Nat} {te : TE} {H1 : Hp} {Qd : Hp → Prop} {tt : Tb1}
    (hA : SqL K H1 a ((nums tt).map V.int)) (few : tt.length ≤ 1000) (hD : H1 D = none) (own : ∀ e ∈ tt, H1 e.2.1 = some (.lst (e.2.2.map V.str))) (hw : ∀ v, wipe ((wipe σ vs).set j (some v)) vs = wipe σ vs)
    (he : ∀ e ∈ tt, ∀ (H4 : Hp) (Q' : VK), Gr H1 H4 → (∀ T, H4 T = none → Q' (.ref T) (upd H4 T (.tup [.int e.1, .ref e.2.1]))) → te ((wipe σ vs).set j (some (.int e.1))) H4 Q')
    (q : ∀ H2 rs, Gr H1 H2 → DueP H2 D rs → (∀ r ∈ rs, H1 r.t = none ∧ ∃ e ∈ tt, r.l = e.2.1) → rs.map (fun r => (r.k, r.r)) = nr tt → Qd H2) :
    ∃ W : Nat → Nat → Hp → Prop, (∃ m, W 0 m (upd H1 D (.lst []))) ∧ ∀ i m H, W i m H →
      ((Itl K a).stop i H ∧ Qd H) ∨ ((Itl K a).go i H ∧ ∃ Nx : Hp → Prop, (∀ H', Nx H' → ∃ m', m' < m ∧ W (i + 1) m' H') ∧ ∀ x H', (Itl K a).yld i H x H' → gName j x (wipe σ vs) H' fun σ2 H2 => wipe σ2 vs = wipe σ vs ∧ tYes σ2 H2 fun b H3 =>
        if b = true then te σ2 H3 fun y H4 => ∃ acc, H4 D = some (.lst acc) ∧ acc.length < sizeLine ∧ Nx (upd H4 D (.lst (acc ++ [y]))) else Nx H3) := by
  refine lc_list (xs := (nums tt).map V.int) (Qd := Qd) (fun i H2 => Gr H1 H2 ∧ ∃ rs : List Pr1, H2 D = some (.lst (rs.map fun r => V.ref r.t)) ∧ (∀ r ∈ rs, H1 r.t = none ∧ r.t ≠ D ∧ H2 r.t = some (.tup [.int r.k, .ref r.l]) ∧ ∃ e ∈ tt, r.l = e.2.1 ∧ r.r = e.2.2) ∧ rs.map (fun r => (r.k, r.r)) = nr (tt.take i)) ⟨Gr.new hD, [], upd_same, fun _ z => absurd z List.not_mem_nil, rfl⟩ (fun i H2 _ h => h.1.seq hA) (fun i x H2 hx h => ?_) (fun H2 h => ?_)
  · obtain ⟨g2, rs, eD, ow, em⟩ := h
    obtain ⟨k0, hk0, rfl⟩ := get_map hx
    obtain ⟨e0, he0, rfl⟩ := get_map hk0
    have m0 := List.mem_of_getElem? he0
    have hi : i < tt.length := (List.getElem?_eq_some_iff.mp he0).1
    refine ⟨hw _, yesIf (he e0 m0 H2 _ g2 fun T nT => ⟨_, (Gr.new nT).lst eD, ?_, (g2.trans (Gr.new nT)).mut hD, rs ++ [⟨T, e0.1, e0.2.1, e0.2.2⟩], ?_, fun r hr => ?_, ?_⟩)⟩
    · have h1 := congrArg List.length em
      unfold nr at h1
      rw [List.length_map, List.length_map, List.length_take] at h1
      rw [List.length_map]
      exact small1000 (by omega)
    · rw [upd_same, List.map_append]
      rfl
    · have TD : T ≠ D := (ne_of_none eD nT).symm
      rcases List.mem_append.mp hr with hr | hr
      · obtain ⟨h1, h2, h3, h4⟩ := ow r hr
        exact ⟨h1, h2, by rw [upd_ne h2]; exact (Gr.new nT).tup h3, h4⟩
      · rw [List.mem_singleton.mp hr]
        exact ⟨g2.free nT, TD, by rw [upd_ne TD, upd_same], e0, m0, rfl, rfl⟩
    · rw [List.map_append, em]
      unfold nr
      rw [take_map he0]
      rfl
  · obtain ⟨g2, rs, eD, ow, em⟩ := h
    rw [List.length_map, show (nums tt).length = tt.length from List.length_map _, List.take_length] at em
    refine q H2 rs g2 ⟨eD, fun r hr => ?_⟩ (fun r hr => ?_) em
    · obtain ⟨h1, h2, h3, e, he, h4, h5⟩ := ow r hr
      exact ⟨h3, by rw [h4, h5]; exact g2.lst (own e he)⟩
    · obtain ⟨h1, h2, h3, e, he, h4, h5⟩ := ow r hr
      exact ⟨h1, e, he, h4⟩
end K1
namespace K1
open PySem PySem.Spec PyProof.Rows L2 Gr GxR Srx Skx Dcx
theorem upd_comm {H : Hp} {a b : Addr} {x y : HO} (h : a ≠ b) : upd (upd H a x) b y = upd (upd H b y) a x := by
  funext c
  by_cases ca : c = a
  · subst ca
    rw [upd_ne h, upd_same, upd_same]
  · by_cases cb : c = b
    · subst cb
      rw [upd_same, upd_ne ca, upd_same]
    · rw [upd_ne cb, upd_ne ca, upd_ne ca, upd_ne cb]
theorem kvB_vals (tb : Tb1) : (kvB tb).map (·.2) = (tb.map fun e => (e.2.1, e.2.2)).map fun q : Addr × List Str => V.ref q.1 := by
  unfold kvB
  rw [List.map_map, List.map_map]
  rfl
theorem tb_rows (tb : Tb1) : (tb.map fun e => (e.2.1, e.2.2)).map (fun q : Addr × List Str => q.2) = rws tb := by
  unfold rws
  rw [List.map_map]
  rfl
theorem once_ddG (l : List Str) : once (ddG l) = once l := once_congr fun _ => ddG_mem
theorem nr_len {a b : Tb1} (h : nr a = nr b) : a.length = b.length := by
  have h1 := congrArg List.length h
  unfold nr at h1
  rw [List.length_map, List.length_map] at h1
  exact h1
theorem nr_rws {a b : Tb1} (h : nr a = nr b) : rws a = rws b := by rw [rws_nr, rws_nr, h]
theorem nr_nums {a b : Tb1} (h : nr a = nr b) : nums a = nums b := by
  have e : ∀ z : Tb1, nums z = (nr z).map (·.1) := fun z => by unfold nums nr; rw [List.map_map]; rfl
  rw [e, e, h]
theorem Tok.nmsRows {tb : Tb1} {n : Int} (T : Tok tb n) : ∀ z ∈ nr tb, Nms z.2 := fun z hz => by
  unfold nr at hz
  obtain ⟨e, he, rfl⟩ := List.mem_map.mp hz
  exact (T.set e he).2
theorem isEmpty_len {a b : Tb1} (h : a.length = b.length) : a.isEmpty = b.isEmpty := by
  cases a with
  | nil => cases b with
    | nil => rfl
    | cons y s => cases h
  | cons x r => cases b with
    | nil => cases h
    | cons y s => rfl
theorem mtAll_nil (rows : List (List Str)) : mtAll [] rows = rows.isEmpty := by
  cases rows with
  | nil => rfl
  | cons r rows => rfl
theorem rws_isEmpty (tb : Tb1) : (rws tb).isEmpty = tb.isEmpty := by cases tb <;> rfl
theorem mtAll_two (xs ys : List Str) (rows : List (List Str)) (h : ∀ y ∈ ys, y ∈ xs) : mtAll (xs ++ ys) rows = mtAll xs rows := by
  rw [Bool.eq_iff_iff, mtAll_iff, mtAll_iff]
  refine forall_congr' fun r => imp_congr_right fun _ => exists_congr fun y => and_congr_left fun _ => ?_
  rw [List.mem_append]
  exact ⟨fun z => z.elim id (h y), .inl⟩
theorem ne_selfB (v : V) : (!decide (v = v)) = false := by rw [decide_eq_true rfl]; rfl
theorem eq_selfB (v : V) : decide (v = v) = true := decide_eq_true rfl
end K1
end
section
set_option maxHeartbeats 8000000
/-! calls within an except suite; text * 0 or 1; count of a text -/
namespace K1
open PySem PySem.Spec PyProof.Rows L2 Gr GxR Srx Skx Dcx
/-- a def that may be called where an exception is handled, whatever its context; what it promises may speak of that exception's object -/
structure FnQ (P : Program) (w : World) (K : PySem.W.Frag) (mg : Str → Option Value) (base : Heap) (k : Nat) (f : Addr) (fd : FuncData) (ps : List Str) (sp : Addr → Value → Option Addr → Sp) : Prop where
  len : ∀ a cls d vs H Q E, sp a cls d vs H Q E → vs.length = ps.length
  run : ∀ (A : Around) (outer : List Env) (s : Shared) (H : Hp) (args : Args) (us : List Value) (vs : List V) (Q : VK) (E : XK) (o : Addr × Obj) (cls : Value) (d : Option Addr), L2H.RoomH k A → L2H.PinOk outer H s o → Zc cls d o.2 → (∃ vs, o.2.data = .fields vs) → Env0 P w K mg base A outer s H → BindsTo s fd args (ps.zip us) → Vals vs us → sp o.1 cls d vs H Q E →
    codeAny (model P w) A (.call (.ref f) args) (CR CX0 outer P w H s Q E) s
theorem okQ {P : Program} {w : World} {K : PySem.W.Frag} {mg : Str → Option Value} {base : Heap} {x qual : Str} {params : Arguments} {body : List Stmt} {scope : Scope} {dvs : List V} {kws : List (Str × V)} {f : Addr} {fd : FuncData} {N ps : List Str} {k : Nat} {sp : Addr → Value → Option Addr → Sp}
    (F : FunD K x qual params body scope dvs kws f fd) (S : FnScope N ps scope) (len : ∀ a cls d vs H Q E, sp a cls d vs H Q E → vs.length = ps.length)
    (hb : ∀ (cdv : Value) (A : Around) (outer : List Env) (s : Shared) (H : Hp) (vs : List V) (Q : VK) (E : XK) (o : Addr × Obj) (cls : Value) (d : Option Addr), L2H.RoomH k (A.deeper (envOfC qual scope s.heap.objs.size f cdv)) → Zc cls d o.2 → (∃ vs, o.2.data = .fields vs) → sp o.1 cls d vs H Q E →
      ∃ t, PSs (L2H.cxH CX0 P w K mg base N qual scope f cdv A outer s H E o) body t ∧ t { nx := fun _ H' => Q .non H', rt := Q } (start N vs) H) : FnQ P w K mg base (k + 1) f fd ps sp := by
  obtain ⟨oc, od, dV, kV, doc, pm, an, cdv, ct, osl, rfl, lk, hcd, _, _⟩ := F.ex
  refine ⟨len, fun A outer s H args us vs Q E o cls d hr hpin hz hf e0 b r h => ?_⟩
  have hl := len _ _ _ _ _ _ _ h
  have stays : base.StaysIn s.heap := fun b o e => (e0.bs b o e).1
  have lim : s.heap.NoLimit := e0.mod.nolimit.keeps stays
  have KX : K.In s.heap := e0.mod.kin.keeps stays
  have kinds : ∀ y ∈ ps.zip us, scope.names.lookup y.1 = some .local ∨ (scope.names.lookup y.1 = some .cell ∧ ((cellsFrom (s.heap.objs.size + 1) scope.names []).lookup y.1).isSome = true) := by
    intro y hy
    obtain ⟨n, v⟩ := y
    exact (S.par n (List.of_mem_zip hy).1).imp id fun q => ⟨q, PySem.W.cellsFrom_some _ _ _ (.inl q)⟩
  refine codeAny_call_function hr.depth (KX _ _ lk) rfl S.co S.gen rfl (PySem.W.codeRec_of KX hcd) (b _ _ _ _ ?_)
  refine wpAny_newFunctionEnv_cells S.kind kinds fun env he s1 z => ?_
  subst he
  obtain ⟨t, ht, hq⟩ := hb cdv A outer s H vs Q E o cls d (hr.deeper _) hz hf h
  refine ⟨lim.keeps z.toInCall.keep, codeAny_func ?_⟩
  refine wpAny_mono (ht.run [] s1 (start N vs) H _ (L2H.inv_startH S hpin e0 hl r z) hq) (fun fl s' hs => ?_) fun e s' hs => hs
  cases fl with
  | next =>
    obtain ⟨σ', H', J, q⟩ := hs
    exact ⟨.non, H', J.os, J.bare, J.base, J.hok, rfl, q⟩
  | ret u =>
    obtain ⟨v, σ', H', J, rv, q⟩ := hs
    exact ⟨v, H', J.os, J.bare, J.base, J.hok, rv, q⟩
  | brk => exact hs.elim fun _ h => h.elim fun _ h => h.2.elim
  | cont => exact hs.elim fun _ h => h.elim fun _ h => h.2.elim
/-- such a def, by its name -/
structure HCalls (P : Program) (w : World) (K : PySem.W.Frag) (mg : Str → Option Value) (base : Heap) (k : Nat) (x : Str) (sp : Addr → Value → Option Addr → Sp) : Prop where
  ex : ∃ (f : Addr) (fd : FuncData) (ps : List Str), FnQ P w K mg base k f fd ps sp ∧ mg x = some (.ref f) ∧ PySem.W.keepIn K (.ref f) = true ∧ Binds K fd ps []
section
variable {X : Cx} {k j : Nat} {x : Str} {sp : Addr → Value → Option Addr → Sp} {cls : Value} {d : Option Addr} {p pos : Pos} {e : Expr} {es : List Expr} {t : TA} {a : Addr} {oe : Obj}
theorem pe_q (c : HCalls X.prog X.w X.K X.mg X.base k x sp) (hr : L2H.RoomH j X.A) (hk : k ≤ j) (ho : (a, oe) ∈ X.pn) (hz : Zc cls d oe) (hf : ∃ vs, oe.data = .fields vs) (hg : Gl X x) (ha : PA X (e :: es) t)
    (hdb : (x == ("__debug__" : Str)) = false := by decide) (he : starEach (e :: es) X.env = (false, eval e X.env) :: starEach es X.env := by rfl) (hpl : (backTo pos (starEach es X.env)).any (·.1) = false := by rfl) :
    PE X (.Call (.Name x p) (e :: es) [] pos) (fun σ H Q => t σ H fun vs H1 => sp a cls d vs H1 Q E0) := by
  obtain ⟨f, fd, ps, F, hm, kp, b⟩ := c.ex
  refine ⟨fun pins s σ H Q I h => ?_⟩
  refine wpAny_Call_Name_kw (ld_glob I hg hm ?_ hdb)
  refine PySem.W.callWith_K (h₀ := X.base) I.ok.mod.kin kp (thn (ha.run pos pins s σ H _ I h) fun us s1 hv => ?_) he hpl
  obtain ⟨vs, H1, I1, r, q⟩ := hv
  have hl : us.length = ps.length := by rw [← r.length]; exact F.len _ _ _ _ _ _ _ q
  have b1 := b s1 us I1.kIn (by rw [List.append_nil]; exact hl)
  rw [List.append_nil] at b1
  obtain ⟨p1, p2, p3, p4, p5⟩ := I1.pin (a, oe) (List.mem_append_left _ ho)
  refine ⟨I1.kIn, wpAny_call (codeAny_mono (F.run X.A X.stack s1 H1 ⟨us, []⟩ us vs Q E0 (a, oe) cls d (hr.mono hk) ⟨p1, p2, fun hm => (List.mem_cons.mp (I1.stkSub a hm)).elim p3 p4, p5⟩ hz hf I1.env0 b1 r q) fun r s' hq => ?_)⟩
  cases r with
  | error e => exact hq.elim
  | ok fl =>
    cases fl with
    | ret u => exact I1.after hq
    | next => exact hq.elim
    | brk => exact hq.elim
    | cont => exact hq.elim
end
/-- isinstance(e, C) for an exception that is pinned -/
def rIsP (K : PySem.W.Frag) (D a : Addr) : List V → Hp → VK → Prop := fun xs H Q => ∃ (c : V) (cv : Value) (b : Bool), xs = [.ref a, c] ∧ ClsV c cv ∧ PySem.W.kitOne K (.ref D) cv = some b ∧ Q (.bl b) H
def rIsPT (K : PySem.W.Frag) (D a : Addr) : List V → Hp → VK → Prop := fun xs H Q => ∃ (tp : Addr) (cs : List V) (us : List Value) (b : Bool), xs = [.ref a, .ref tp] ∧ H tp = some (.tup cs) ∧ Paired ClsV cs us ∧ PySem.W.kitAny K (.ref D) us = some b ∧ Q (.bl b) H
section
variable {X : Cx} {a D : Addr} {oe : Obj}
theorem inst_pin {pins : List (Addr × Obj)} {σ : L2.St} {H : Hp} {s : Shared} (hp : (a, oe) ∈ X.pn) (hz : Zc (.ref D) none oe) (hf : ∃ vs, oe.data = .fields vs) (I : Inv X pins σ H s) : PySem.W.InstAt s.heap a oe D none := by
  have h0 := (I.pin (a, oe) (List.mem_append_left _ hp)).1
  obtain ⟨vs, hv⟩ := hf
  obtain ⟨oc, od, oda, osl⟩ := oe
  obtain ⟨h1, h2⟩ := hz
  dsimp only at h1 h2 hv
  subst h1 h2 hv
  exact ⟨h0, rfl, rfl, trivial⟩
theorem call_isP (hp : (a, oe) ∈ X.pn) (C : ExcC X.K D) (hz : Zc (.ref D) none oe) (hf : ∃ vs, oe.data = .fields vs) : CallR X (.builtin "isinstance") (rIsP X.K D a) := by
  intro pins s σ H xs us Q I r h
  obtain ⟨c, cv, b, rfl, k, e, q⟩ := h
  obtain ⟨u1, u2, rfl, r1, r2⟩ := vals2 r
  cases (show u1 = Value.ref a from r1)
  cases k.eq r2
  exact PySem.W.kia_one (PySem.W.handS_kitx_exc C.hg C.hk C.hs C.hd C.ha C.hn C.ht C.hm) I.kIn (inst_pin hp hz hf I) e (fun z => nomatch z) fun tk => ⟨.bl b, H, I.kept (t' := tk) fun _ _ z => z, rfl, q⟩
theorem call_isPT (hp : (a, oe) ∈ X.pn) (C : ExcC X.K D) (hz : Zc (.ref D) none oe) (hf : ∃ vs, oe.data = .fields vs) : CallR X (.builtin "isinstance") (rIsPT X.K D a) := by
  intro pins s σ H xs us Q I r h
  obtain ⟨tp, cs, ws, b, rfl, hT, k, e, q⟩ := h
  obtain ⟨u1, u2, rfl, r1, r2⟩ := vals2 r
  cases (show u1 = Value.ref a from r1)
  cases (show u2 = Value.ref tp from r2)
  obtain ⟨_, its, rv, ob, h1, h2, n, h3⟩ := (show ObjOk _ _ H s.heap tp (.tup cs) from I.hok tp _ hT)
  have e3 := ClsV.all k rv
  subst e3
  obtain ⟨oc, od, dt, sl⟩ := ob
  simp only at h2 h3
  subst h2 h3
  exact PySem.W.kia_tup (PySem.W.handS_kitx_exc C.hg C.hk C.hs C.hd C.ha C.hn C.ht C.hm) I.kIn (inst_pin hp hz hf I) h1 e (fun z => nomatch z) fun tk => ⟨.bl b, H, I.kept (t' := tk) fun _ _ z => z, rfl, q⟩
/-- a text, or none of it -/
def tx01 (x : Str) (b : Bool) : Str := if b = true then x else ⟨#[]⟩
theorem op_rep_str : OpR X (binaryOp .Mult) (fun x y H Q => ∃ (z : Str) (b : Bool), x = .str z ∧ y = .int (if b then 1 else 0) ∧ Q (.str (tx01 z b)) H) := by
  intro pins s σ H x y v u Q I rx ry h
  obtain ⟨z, b, rfl, rfl, q⟩ := h
  obtain ⟨t, rfl⟩ := rx
  obtain ⟨t', rfl⟩ := ry
  cases b with
  | true =>
    refine PySem.SB.mul (n := 1) ⟨by decide, fun _ y => absurd y (by simp), fun _ y => absurd y (by simp)⟩ fun t' k => ?_
    exact ⟨.str z, H, I.tok _, ⟨_, rfl⟩, q⟩
  | false =>
    refine PySem.SB.mul (n := 0) ⟨by decide, fun h => absurd (by decide) h, fun h => absurd (by decide) h⟩ fun t' k => ?_
    exact ⟨.str ⟨#[]⟩, H, I.tok _, ⟨_, rfl⟩, q⟩
def rCntT (K : PySem.W.Frag) : V → List V → Hp → VK → Prop := fun x xs H Q => ∃ (p : Addr) (ns : List Str) (k : Str), x = .ref p ∧ xs = [.str k] ∧ SqL K H p (ns.map V.str) ∧ Q (.int (ns.count k : Nat)) H
theorem countP_strs (k : Str) : ∀ {vs : List Value} {ys : List Str}, StrsAre vs ys → vs.countP (isStrOf k) = ys.count k
  | _, _, .nil => rfl
  | _, _, .cons n u h => by
    rw [List.countP_cons, List.count_cons, countP_strs k h]
    rfl
theorem mt_lcountT : MtR X "list.count" (rCntT X.K) := by
  intro pins s σ H x xs v us Q I rx rxs h
  obtain ⟨p, ns, k, rfl, rfl, hs, q⟩ := h
  cases rx
  obtain ⟨u, rfl, ru⟩ := rxs.one
  obtain ⟨t, rfl⟩ := ru
  obtain ⟨its, rv, ⟨⟨cls, dd, data, sl⟩, n, ho, hc, hdn, hd⟩, hlen⟩ := I.list hs
  simp only at hc hd
  subst hc hd
  have hi := Vals.strs rv
  refine call_meets PySem.F.slot_list_count ⟨_, ho, rfl⟩ PySem.F.entry_list_count (PySem.F.args_list_count_2 _ _)
    (PySem.SeqAt.list_countAt p its.toArray n dd sl (.str k t) (isStrOf k)) ⟨ho, fun y hy => (eq_isStrOf k t hi y (by simpa using hy)).at _ _, ?_⟩
  refine ⟨.int (ns.count k : Nat), H, I.tok _, ⟨s.toks, ?_⟩, q⟩
  show Value.int ((its.toArray.toList.countP (isStrOf k) : Nat) : Int) s.toks = Value.int ((ns.count k : Nat) : Int) s.toks
  rw [show its.toArray.toList.countP (isStrOf k) = ns.count k from countP_strs k hi]
theorem pe_lcountT {K : PySem.W.Frag} {o e : Expr} {es : List Expr} {apos cpos : Pos} {to : TE} {t : TA} (hK : X.K = K) (ho : PE X o to) (ha : PA X (e :: es) t)
    (hbase : attributeBase o ("count" : Str) X.env (eval o X.env) = eval o X.env := by rfl)
    (hfew : ((backTo cpos (starEach (e :: es) X.env)).all (fun x => !x.1) && (backToKw cpos (keywordEach [] X.env)).all (fun x => x.1.isSome)
      && decide ((e :: es).length + ([] : List Keyword).length + (if ([] : List Keyword).isEmpty then 0 else 1) < 30)) = true := by rfl)
    (hline : (apos.endLine == cpos.line) = true := by rfl) (hs : starEach (e :: es) X.env = (false, eval e X.env) :: starEach es X.env := by rfl) (hplain : (backTo cpos (starEach es X.env)).any (·.1) = false := by rfl) :
    PE X (.Call (.Attribute o ("count" : Str) apos) (e :: es) [] cpos) (tBM K "list" (rCntT K) to t) := by
  subst hK
  exact pe_bm PySem.F.plainAttrs_list PySem.F.slot_list_count PySem.F.type_list_count mt_lcountT ho ha hbase hfew hline hs hplain
theorem pe_appK {K : PySem.W.Frag} {o e : Expr} {es : List Expr} {apos cpos : Pos} {to : TE} {t : TA} (hK : X.K = K) (ho : PE X o to) (ha : PA X (e :: es) t)
    (hbase : attributeBase o ("append" : Str) X.env (eval o X.env) = eval o X.env := by rfl)
    (hfew : ((backTo cpos (starEach (e :: es) X.env)).all (fun x => !x.1) && (backToKw cpos (keywordEach [] X.env)).all (fun x => x.1.isSome)
      && decide ((e :: es).length + ([] : List Keyword).length + (if ([] : List Keyword).isEmpty then 0 else 1) < 30)) = true := by rfl)
    (hline : (apos.endLine == cpos.line) = true := by rfl) (hs : starEach (e :: es) X.env = (false, eval e X.env) :: starEach es X.env := by rfl) (hplain : (backTo cpos (starEach es X.env)).any (·.1) = false := by rfl) :
    PE X (.Call (.Attribute o ("append" : Str) apos) (e :: es) [] cpos) (tBM K "list" rAppend to t) := by
  subst hK
  exact pe_bm PySem.F.plainAttrs_list PySem.F.slot_list_append PySem.F.type_list_append mt_append ho ha hbase hfew hline hs hplain
theorem isl_of {pins : List (Addr × Obj)} {σ : L2.St} {H : Hp} {s : Shared} {a : Addr} {xs : List V} (I : Inv X pins σ H s) (ea : H a = some (.lst xs)) : ∃ its : List Value, its.length = xs.length ∧ s.heap.IsList a its.toArray := by
  obtain ⟨its, rv, ⟨o, n, ho, hc, hdn, hd⟩, hlen⟩ := I.list (.inl (.inl ea))
  exact ⟨its, (Paired.length rv).symm, o, ho, hc, n, hd⟩
/-- xs == [], whatever stands in xs -/
theorem op_eqNil (hu : X.A.units + 64 < cLine) : OpR X (compareOp .Eq) (fun x y H Q => ∃ a b xs, x = .ref a ∧ y = .ref b ∧ H a = some (.lst xs) ∧ H b = some (.lst []) ∧ Q (.bl xs.isEmpty) H) := by
  intro pins s σ H x y v u Q I rx ry h
  obtain ⟨a, b, xs, rfl, rfl, ea, eb, q⟩ := h
  cases xs with
  | nil => exact op_eqD hu pins s σ H _ _ v u Q I rx ry ⟨.list [], .list [], .lst (.inl (.inl ea)) .nil, .lst (.inl (.inl eb)) .nil, rfl, rfl, q⟩
  | cons x xs =>
    obtain rfl : v = Value.ref a := rx
    obtain rfl : u = Value.ref b := ry
    obtain ⟨its, l1, i1⟩ := isl_of I ea
    obtain ⟨jts, l2, i2⟩ := isl_of I eb
    refine PySem.SeqAt.RcAt.lists_lengths i1 i2 ?_ (by omega) _ _ _ _ ⟨.bl false, H, I, rfl, q⟩
    rw [List.size_toArray, List.size_toArray, l1, l2]
    rfl
theorem op_neNil (hu : X.A.units + 64 < cLine) : OpR X (compareOp .NotEq) (fun x y H Q => ∃ a b xs, x = .ref a ∧ y = .ref b ∧ H a = some (.lst xs) ∧ H b = some (.lst []) ∧ Q (.bl (!xs.isEmpty)) H) := by
  intro pins s σ H x y v u Q I rx ry h
  obtain ⟨a, b, xs, rfl, rfl, ea, eb, q⟩ := h
  cases xs with
  | nil => exact op_neD hu pins s σ H _ _ v u Q I rx ry ⟨.list [], .list [], .lst (.inl (.inl ea)) .nil, .lst (.inl (.inl eb)) .nil, rfl, rfl, q⟩
  | cons x xs =>
    obtain rfl : v = Value.ref a := rx
    obtain rfl : u = Value.ref b := ry
    obtain ⟨its, l1, i1⟩ := isl_of I ea
    obtain ⟨jts, l2, i2⟩ := isl_of I eb
    refine PySem.SeqAt.RcNeAt.lists_lengths i1 i2 ?_ (by omega) _ _ _ _ ⟨.bl true, H, I, rfl, q⟩
    rw [List.size_toArray, List.size_toArray, l1, l2]
    rfl
/-- [c for c in text if ..]: each a text of one sign -/
theorem lc_filtC {D : Addr} {j : Nat} {σ : L2.St} {vs : List Nat} {tt : TT} {H1 : Hp} {Qd : Hp → Prop} {x : Str} (p : Nat → Bool)
    (few : x.length < sizeLine) (hD : H1 D = none) (hw : ∀ v, wipe ((wipe σ vs).set j (some v)) vs = wipe σ vs) (hj : ∀ v : V, ((wipe σ vs).set j (some v))[j]? = some (some v))
    (ht : ∀ c ∈ x.cps.toList, ∀ (H4 : Hp) (Qb : Bool → Hp → Prop), Gr H1 H4 → (∀ H5, Gr H4 H5 → Qb (p c) H5) → tt ((wipe σ vs).set j (some (.str ⟨#[c]⟩))) H4 Qb)
    (q : ∀ H2, Gr H1 H2 → H2 D = some (.lst ((x.cps.toList.filter p).map fun c => V.str ⟨#[c]⟩)) → Qd H2) :
    ∃ W : Nat → Nat → Hp → Prop, (∃ m, W 0 m (upd H1 D (.lst []))) ∧ ∀ i m H, W i m H →
      ((Its x).stop i H ∧ Qd H) ∨ ((Its x).go i H ∧ ∃ Nx : Hp → Prop, (∀ H', Nx H' → ∃ m', m' < m ∧ W (i + 1) m' H') ∧ ∀ z H', (Its x).yld i H z H' → gName j z (wipe σ vs) H' fun σ2 H2 => wipe σ2 vs = wipe σ vs ∧ tt σ2 H2 fun b H3 =>
        if b = true then tVar j σ2 H3 fun y H4 => ∃ acc, H4 D = some (.lst acc) ∧ acc.length < sizeLine ∧ Nx (upd H4 D (.lst (acc ++ [y]))) else Nx H3) := by
  have hl : x.cps.toList.length = x.length := Array.length_toList
  refine ⟨fun i m H2 => m = x.length - i ∧ i ≤ x.length ∧ Gr H1 H2 ∧ H2 D = some (.lst (((x.cps.toList.take i).filter p).map fun c => V.str ⟨#[c]⟩)), ⟨x.length, by simp, Nat.zero_le _, Gr.new hD, upd_same⟩, ?_⟩
  rintro i m H2 ⟨rfl, hi, g2, e⟩
  by_cases lt : i < x.length
  · refine .inr ⟨lt, fun H6 => Gr H1 H6 ∧ H6 D = some (.lst (((x.cps.toList.take (i + 1)).filter p).map fun c => V.str ⟨#[c]⟩)), fun H6 h6 => ⟨x.length - (i + 1), by omega, rfl, lt, h6.1, h6.2⟩, fun z H6 y => ?_⟩
    obtain ⟨e1, c, hc, rfl⟩ := y
    subst e1
    have hx0 : x.cps.toList[i]? = some c := by rw [Array.getElem?_toList]; exact hc
    have etk : (x.cps.toList.take (i + 1)).filter p = (x.cps.toList.take i).filter p ++ [c].filter p := by
      rw [List.take_add_one, hx0, List.filter_append]
      rfl
    refine ⟨hw _, ht c (List.mem_of_getElem? hx0) _ _ g2 fun H3 g3 => ?_⟩
    cases hp : p c with
    | true =>
      refine iteT ⟨_, hj _, _, g3.lst e, ?_, (g2.trans g3).mut hD, ?_⟩
      · rw [List.length_map]
        have h1 := List.length_filter_le p (x.cps.toList.take i)
        rw [List.length_take] at h1
        omega
      · rw [upd_same, etk, List.map_append]
        simp [hp]
    | false =>
      refine iteF ⟨g2.trans g3, ?_⟩
      rw [etk, List.map_append]
      simp only [hp, List.filter_cons, Bool.false_eq_true, if_false, List.filter_nil, List.map_nil, List.append_nil]
      exact g3.lst e
  · have e1 : i = x.length := by omega
    subst e1
    refine .inl ⟨Nat.le_refl _, q _ g2 ?_⟩
    rw [← hl, List.take_length] at e
    exact e
end
/-- try .. except .. as n, its meaning under a name of its own (so that loops find it) -/
def tTry (K : PySem.W.Frag) (c : Value) (i : Nat) (ts : Addr → Value → Option Addr → TS) (Wout : WX) (tb : WX → TS) : TS := fun D σ H => tb (wAs K c i ts Wout D) D σ H
theorem ps_try_asT {X : Cx} {x n : Str} {c : Value} {i : Nat} {body suite : List Stmt} {b₀ : Stmt} {np pos pos' : Pos} {tb : WX → TS} {ts : Addr → Value → Option Addr → TS} {Wout : WX}
    (hs : X.stack = X.env :: X.outer) (hf : X.env.frame = some X.env.locals) (hN : X.N.Nodup) (hi : X.N[i]? = some n) (hln : X.env.kindOf n = some .local) (hc : Names X x c) (tk : Takes X Wout)
    (hb : ∀ (W : WX) (pn : List (Addr × Obj)) (xe : Value → Shared → Prop), Takes (X.tr pn xe) W → PassesOwn (model X.prog X.w) X.A X.env xe → PSs (X.tr pn xe) body (tb W))
    (hsu : ∀ (a : Addr) (oe : Obj) (cls : Value) (d : Option Addr) (pn : List (Addr × Obj)), Zc cls d oe → (∃ vs, oe.data = .fields vs) → PSs (X.suite a ((a, oe) :: pn)) (b₀ :: suite) (ts a cls d)) :
    PS X (.Try body [.ExceptHandler (some (.Name x np)) (some n) (b₀ :: suite) pos'] [] [] pos) (tTry X.K c i ts Wout tb) := ps_try_as hs hf hN hi hln hc tk hb hsu
/-- list(text): a text for each sign -/
theorem call_listTx {X : Cx} (hc : X.calm = true) : CallR X (.type "list") (fun xs H Q => ∃ z : Str, xs = [.str z] ∧ z.length ≤ sizeLine ∧ ∀ p, H p = none → Q (.ref p) (upd H p (.lst (z.cps.toList.map fun c => V.str ⟨#[c]⟩)))) := by
  intro pins s σ H xs us Q I r h
  obtain ⟨z, e, hz, q⟩ := h
  subst e
  obtain ⟨u, eu, rx⟩ := vals1 r
  subst eu
  obtain ⟨t, rfl⟩ := rx
  refine PySem.call_list_str (hn := hz) (I.ok.hd hc) z t fun h' tk acc' c' hkeep hS hacc => ?_
  refine ⟨.ref s.heap.objs.size, upd H s.heap.objs.size (.lst (z.cps.toList.map fun c => V.str ⟨#[c]⟩)), I.laid hkeep (Nat.le_refl _) (show ObjOk X.prog X.w _ _ _ (.lst (z.cps.toList.map fun c => V.str ⟨#[c]⟩)) from ⟨?_, acc'.toList, c', ?_, ?_⟩), rfl, q _ (I.hok.fresh (Nat.le_refl _))⟩
  · rw [List.length_map]; exact hz
  · refine vals_of_idx _ _ (by rw [List.length_map, Array.length_toList, Array.length_toList, hacc.1]) fun j u hj => ?_
    obtain ⟨c, u2, hc2, rfl⟩ := hacc.2 j u (by rw [← Array.getElem?_toList]; exact hj)
    exact ⟨.str ⟨#[c]⟩, by rw [List.getElem?_map, Array.getElem?_toList, hc2]; rfl, u2, rfl⟩
  · rw [Array.toArray_toList]; exact hS
theorem pi_listK {X : Cx} {tg l : Expr} {tl : TE} {K : PySem.W.Frag} (hK : X.K = K) (hl : PE X l tl) : PI X tg l (iList K tl) := by
  subst hK
  exact pi_list hl
end K1
end
section
set_option maxHeartbeats 8000000
/-! texts of rows -/
namespace K1
open PySem PySem.Spec PyProof.Rows L2 Gr GxR Srx Skx Dcx
theorem hu1x {u k : Nat} (h : u + 16 * k + 200 < cLine) : u < cLine := by omega
/-- the line of a row, the text of rows -/
def lineS (r : List Str) : Str := if r = [] then "-" else Txt.join " " r
def textS (rows : List (List Str)) : Str := Txt.join "\n" (rows.map lineS)
theorem sum_le (k : Nat) : ∀ xs : List Str, (∀ x ∈ xs, x.length ≤ k) → (xs.map (·.length)).sum ≤ k * xs.length
  | [], _ => Nat.zero_le _
  | x :: xs, h => by
    have h1 := h x List.mem_cons_self
    have h2 := sum_le k xs fun y hy => h y (List.mem_cons_of_mem _ hy)
    rw [List.map_cons, List.sum_cons, List.length_cons, Nat.mul_succ]
    omega
theorem join_len (y : Str) (parts : List Str) : (Txt.join y parts).length = (parts.map (·.length)).sum + (parts.length - 1) * y.length := PySem.size_glued y parts
theorem lineS_len {r : List Str} (h : Nms r) (l : r.length ≤ 12) : (lineS r).length ≤ 120 := by
  unfold lineS
  by_cases e : r = []
  · rw [if_pos e]
    decide +kernel
  · rw [if_neg e, join_len]
    have h1 := sum_le 8 r fun x hx => nm_len (h x hx)
    have h2 : (" " : Str).length = 1 := by decide +kernel
    rw [h2]
    omega
section
variable {X : Cx} {K : PySem.W.Frag} {o e : Expr} {to te : TE}
def rJoin (K : PySem.W.Frag) : V → List V → Hp → VK → Prop := fun x xs H Q => ∃ a p, ∃ ys : List Str, x = .str a ∧ xs = [.ref p] ∧ (SqL K H p (ys.map V.str) ∨ SqT K H p (ys.map V.str)) ∧
  (ys.map (·.length)).sum + ys.length * a.length ≤ 16777216 ∧ Q (.str (Txt.join a ys)) H
theorem pe_joinK {apos pos : Pos} (hK : X.K = K) (ho : PE X o to) (he : PE X e te) (hs : starEach [e] X.env = [(false, eval e X.env)] := by rfl) (hbase : attributeBase o "join" X.env (eval o X.env) = eval o X.env := by rfl) (hline : (apos.endLine == pos.line) = true := by rfl) :
    PE X (.Call (.Attribute o "join" apos) [e] [] pos) (tM1 (rJoin K) to te) := by
  subst hK
  exact pe_join ho he hs hbase hline
end
/-- [.. for x in xs], what is made is no new object -/
theorem lc_mapW {α : Type} {K : PySem.W.Frag} {a D : Addr} {j : Nat} {σ : L2.St} {vs : List Nat} {te : TE} {H1 : Hp} {Qd : Hp → Prop} {xs : List α} (g F : α → V)
    (hA : SqL K H1 a (xs.map g)) (few : xs.length < sizeLine) (hD : H1 D = none) (hw : ∀ v, wipe ((wipe σ vs).set j (some v)) vs = wipe σ vs)
    (he : ∀ x ∈ xs, ∀ (H4 : Hp) (Q' : VK), Gr H1 H4 → (∀ H5, Gr H4 H5 → Q' (F x) H5) → te ((wipe σ vs).set j (some (g x))) H4 Q')
    (q : ∀ H2, Gr H1 H2 → H2 D = some (.lst (xs.map F)) → Qd H2) :
    ∃ W : Nat → Nat → Hp → Prop, (∃ m, W 0 m (upd H1 D (.lst []))) ∧ ∀ i m H, W i m H →
      ((Itl K a).stop i H ∧ Qd H) ∨ ((Itl K a).go i H ∧ ∃ Nx : Hp → Prop, (∀ H', Nx H' → ∃ m', m' < m ∧ W (i + 1) m' H') ∧ ∀ x H', (Itl K a).yld i H x H' → gName j x (wipe σ vs) H' fun σ2 H2 => wipe σ2 vs = wipe σ vs ∧ tYes σ2 H2 fun b H3 =>
        if b = true then te σ2 H3 fun y H4 => ∃ acc, H4 D = some (.lst acc) ∧ acc.length < sizeLine ∧ Nx (upd H4 D (.lst (acc ++ [y]))) else Nx H3) := by
  refine lc_list (xs := xs.map g) (Qd := Qd) (fun i H2 => Gr H1 H2 ∧ H2 D = some (.lst ((xs.take i).map F))) ⟨Gr.new hD, upd_same⟩ (fun i H2 _ h => h.1.seq hA) (fun i x H2 hx h => ?_) (fun H2 h => ?_)
  · obtain ⟨g2, e⟩ := h
    obtain ⟨q0, hq0, rfl⟩ := get_map hx
    have hi : i < xs.length := (List.getElem?_eq_some_iff.mp hq0).1
    refine ⟨hw _, yesIf (he q0 (List.mem_of_getElem? hq0) H2 _ g2 fun H5 g5 => ⟨_, g5.lst e, ?_, (g2.trans g5).mut hD, ?_⟩)⟩
    · rw [List.length_map, List.length_take]
      omega
    · rw [upd_same, take_map hq0]
  · obtain ⟨g2, e⟩ := h
    rw [List.length_map, List.take_length] at e
    exact q H2 g2 e
/-- [x for x in xs if ..], by what the items come from -/
theorem lc_filtG {α : Type} {K : PySem.W.Frag} {a D : Addr} {j : Nat} {σ : L2.St} {vs : List Nat} {tt : TT} {H1 : Hp} {Qd : Hp → Prop} {xs : List α} (g : α → V) (p : α → Bool)
    (hA : SqL K H1 a (xs.map g)) (few : xs.length < sizeLine) (hD : H1 D = none) (hw : ∀ v, wipe ((wipe σ vs).set j (some v)) vs = wipe σ vs) (hj : ∀ v : V, ((wipe σ vs).set j (some v))[j]? = some (some v))
    (ht : ∀ x ∈ xs, ∀ (H4 : Hp) (Qb : Bool → Hp → Prop), Gr H1 H4 → (∀ H5, Gr H4 H5 → Qb (p x) H5) → tt ((wipe σ vs).set j (some (g x))) H4 Qb)
    (q : ∀ H2, Gr H1 H2 → H2 D = some (.lst ((xs.filter p).map g)) → Qd H2) :
    ∃ W : Nat → Nat → Hp → Prop, (∃ m, W 0 m (upd H1 D (.lst []))) ∧ ∀ i m H, W i m H →
      ((Itl K a).stop i H ∧ Qd H) ∨ ((Itl K a).go i H ∧ ∃ Nx : Hp → Prop, (∀ H', Nx H' → ∃ m', m' < m ∧ W (i + 1) m' H') ∧ ∀ x H', (Itl K a).yld i H x H' → gName j x (wipe σ vs) H' fun σ2 H2 => wipe σ2 vs = wipe σ vs ∧ tt σ2 H2 fun b H3 =>
        if b = true then tVar j σ2 H3 fun y H4 => ∃ acc, H4 D = some (.lst acc) ∧ acc.length < sizeLine ∧ Nx (upd H4 D (.lst (acc ++ [y]))) else Nx H3) := by
  refine lc_list (xs := xs.map g) (Qd := Qd) (fun i H2 => Gr H1 H2 ∧ H2 D = some (.lst (((xs.take i).filter p).map g))) ⟨Gr.new hD, upd_same⟩ (fun i H2 _ h => h.1.seq hA) (fun i x H2 hx h => ?_) (fun H2 h => ?_)
  · obtain ⟨g2, e⟩ := h
    obtain ⟨x0, hx0, rfl⟩ := get_map hx
    have etk : (xs.take (i + 1)).filter p = (xs.take i).filter p ++ [x0].filter p := by
      rw [List.take_add_one, hx0, List.filter_append]
      rfl
    refine ⟨hw _, ht x0 (List.mem_of_getElem? hx0) H2 _ g2 fun H3 g3 => ?_⟩
    cases hp : p x0 with
    | true =>
      refine iteT ⟨_, hj _, _, g3.lst e, ?_, (g2.trans g3).mut hD, ?_⟩
      · rw [List.length_map]
        have h1 := List.length_filter_le p (xs.take i)
        rw [List.length_take] at h1
        omega
      · rw [upd_same, etk, List.map_append]
        simp [hp]
    | false =>
      refine iteF ⟨g2.trans g3, ?_⟩
      rw [etk, List.map_append]
      simp only [hp, List.filter_cons, Bool.false_eq_true, if_false, List.filter_nil, List.map_nil, List.append_nil]
      exact g3.lst e
  · obtain ⟨g2, e⟩ := h
    rw [List.length_map, List.take_length] at e
    exact q H2 g2 e
/-- a book beside the law's own table of it: the table's rows as they were drawn -/
structure Sd13 (C : Addr) (nm : List Str) (H : Hp) (b d t : Addr) (tb tt : Tb1) (n : Int) : Prop where
  bk : Bk C H b d tb n
  ok : Tok tb n
  tbl : Tbl H t tt
  eq : nr tb = (nr tt).map fun z => (z.1, srt z.2)
  row : ∀ r ∈ rws tt, r.Nodup ∧ ∀ y ∈ r, y ∈ nm
/-- the names -/
structure Nm5 (nm : List Str) : Prop where
  nms : Nms nm
  nd : nm.Nodup
  ne : nm ≠ []
  few : nm.length ≤ 5
section
variable {C b d t : Addr} {nm : List Str} {H H' : Hp} {tb tt : Tb1} {n : Int}
theorem Sd13.gr (S : Sd13 C nm H b d t tb tt n) (g : Gr H H') : Sd13 C nm H' b d t tb tt n := ⟨S.bk.gr g, S.ok, S.tbl.gr g, S.eq, S.row⟩
theorem Sd13.rws (S : Sd13 C nm H b d t tb tt n) : rws tb = (K1.rws tt).map srt := by
  rw [rws_nr, S.eq, rws_nr, List.map_map, List.map_map]
  rfl
theorem Sd13.nums (S : Sd13 C nm H b d t tb tt n) : nums tb = K1.nums tt := by
  have h1 : ∀ tb : Tb1, K1.nums tb = (nr tb).map (·.1) := fun tb => by
    unfold K1.nums nr
    rw [List.map_map]
    rfl
  rw [h1, h1, S.eq, List.map_map]
  rfl
theorem Sd13.len (S : Sd13 C nm H b d t tb tt n) : tb.length = tt.length := by
  have h1 := congrArg List.length S.nums
  unfold K1.nums at h1
  rw [List.length_map, List.length_map] at h1
  exact h1
theorem Sd13.pw (S : Sd13 C nm H b d t tb tt n) : (K1.nums tt).Pairwise (· < ·) := S.nums ▸ S.ok.num
theorem mt_srt (x r : List Str) : mt x (srt r) = mt x r := by
  rw [Bool.eq_iff_iff, mt_iff, mt_iff]
  exact exists_congr fun y => and_congr_right fun _ => srt_mem
theorem mtAll_srt (x : List Str) (rows : List (List Str)) : mtAll x (rows.map srt) = mtAll x rows := by
  rw [Bool.eq_iff_iff, mtAll_iff, mtAll_iff]
  constructor
  · intro h r hr
    obtain ⟨y, h1, h2⟩ := h _ (List.mem_map.mpr ⟨r, hr, rfl⟩)
    exact ⟨y, h1, srt_mem.mp h2⟩
  · intro h r hr
    obtain ⟨r0, h0, rfl⟩ := List.mem_map.mp hr
    obtain ⟨y, h1, h2⟩ := h r0 h0
    exact ⟨y, h1, srt_mem.mpr h2⟩
theorem Sd13.mt (S : Sd13 C nm H b d t tb tt n) (x : List Str) : mtAll x (K1.rws tb) = mtAll x (K1.rws tt) := by rw [S.rws, mtAll_srt]
theorem Sd13.grown (S : Sd13 C nm H b d t tb tt n) : K1.grown (K1.rws tb) = K1.grown (K1.rws tt) := grown_congr S.mt
theorem Sd13.nmsR (S : Sd13 C nm H b d t tb tt n) (N : Nm5 nm) : ∀ r ∈ K1.rws tt, Nms r ∧ r.length ≤ 5 := fun r hr => by
  obtain ⟨h1, h2⟩ := S.row r hr
  refine ⟨fun y hy => N.nms y (h2 y hy), ?_⟩
  have h3 := (sublist_of (ris_srt N.nd) (ris_srt h1) fun y hy => srt_mem.mpr (h2 y (srt_mem.mp hy))).length_le
  rw [srt_len, srt_len] at h3
  have := N.few
  omega
theorem Sd13.lq {K : PySem.W.Frag} (S : Sd13 C nm H b d t tb tt n) : ∀ q ∈ (tt.map fun e => (e.2.1, e.2.2)), SqL K H q.1 (q.2.map V.str) := fun q hq => by
  obtain ⟨e, he, rfl⟩ := List.mem_map.mp hq
  exact .inl (.inl (S.tbl.own e he))
end
end K1
end
section
set_option maxHeartbeats 4000000
/-! an exception in the air whose one argument is a known text; except .. as: raise .. from None -/
namespace K1
open PySem PySem.Spec PyProof.Rows L2 Gr GxR
/-- the text that an exception was made with stands at T -/
structure Say (H : Hp) (T : Addr) (m : Str) : Prop where
  at_ : H T = some (.tup [.str m])
  few : m.length ≤ 400
/-- class, dict, no context, and the arguments' place -/
def Zm (T : Addr) (cls : Value) (d : Option Addr) (o : Obj) : Prop := L2N.Zn cls d o ∧ ∀ vs, o.data = .fields vs → vs[0]? = some (.ref T)
theorem Zm.st {T : Addr} {cls : Value} {d : Option Addr} : PXN.Steady1 (Zm T cls d) := by
  rintro ⟨c, dd, dt, sl⟩ v ⟨z1, z2⟩
  refine ⟨L2N.Zn.steady _ v z1, fun ws e => ?_⟩
  cases dt with
  | fields us =>
    have e2 : us.setIfInBounds 1 v = ws := Data.fields.inj e
    have e3 : (us.setIfInBounds 1 v)[0]? = us[0]? := Array.getElem?_setIfInBounds_ne (by decide)
    rw [← e2, e3]
    exact z2 us rfl
  | _ => cases e
/-- in the air of X, its text with it -/
def Air (X : Cx) (W : WX) (u : Value) (s' : Shared) : Prop :=
  ∃ (a T : Addr) (m : Str) (G : Heap) (t : Shared) (ps : List (Addr × Obj)) (σ : L2.St) (H : Hp) (cls : Value) (d : Option Addr),
    u = .ref a ∧ Say H T m ∧ H a = none ∧ W cls d σ H ∧ Inv X ps σ H t ∧ (∀ b o, t.heap.get? b = some o → b ∉ frs X.stack → G.get? b = some o) ∧
    t.heap.UpToSlots s'.heap ∧ Sky G X.stack a (Zm T cls d) X.env.locals s'.heap ∧ s'.os = t.os ∧ AllBare s'.gens
def TakesM (X : Cx) (W : WX) : Prop := ∀ u s', Air X W u s' → X.xe u s'
/-- behind a call -/
def CXm (P : Program) (w : World) (outer : List Env) (H : Hp) (s : Shared) (E : XK) (u : Value) (s' : Shared) : Prop :=
  ∃ (a T : Addr) (m : Str) (G : Heap) (H' : Hp) (cls : Value) (d : Option Addr), u = .ref a ∧ Say H' T m ∧ H' a = none ∧ E cls d H' ∧ HandSPX.FlyingZ G outer a (Zm T cls d) s'.heap ∧
    L2.HOk P w H' G ∧ UB (frs outer) H H' s.heap G s'.heap ∧ s'.os = s.os ∧ AllBare s'.gens
/-- what is known of the text may be forgotten -/
theorem CXm.cx {P : Program} {w : World} {outer : List Env} {H : Hp} {s : Shared} {E : XK} {u : Value} {s' : Shared} (c : CXm P w outer H s E u s') : L2.CX P w outer H s E u s' := by
  obtain ⟨a, T, m, G, H', cls, d, e, _, na, hE, fl, hok, ub, os, ag⟩ := c
  exact ⟨a, G, H', cls, d, e, L2H.flyingZ_imp (fun o z => z.1.zc) fl, hok, ub, na, os, ag, hE⟩
section
variable {X : Cx} {pins : List (Addr × Obj)} {σ : L2.St} {H : Hp} {s s' t : Shared} {W : WX} {E : XK}
theorem air_of (I : Inv X pins σ H s) (hW : ∀ cls d H', E cls d H' → W cls d σ H') {u : Value} (c : CXm X.prog X.w X.stack H s E u s') : Air X W u s' := by
  obtain ⟨a, T, m, B, H', cls, d, rfl, sa, na, hE, fl, hok, ub, os, ag⟩ := c
  obtain ⟨G, yes, no⟩ := restrict s'.heap fun b => (B.get? b).isSome || decide (b ∈ frs X.stack)
  have inB : ∀ b o, B.get? b = some o → G.get? b = some o := fun b o e => (yes b (by simp [e])).trans (fl.1 b o e)
  have inF : ∀ b, b ∈ frs X.stack → G.get? b = s'.heap.get? b := fun b hb => yes b (by simp [hb])
  have out : ∀ b o, G.get? b = some o → s'.heap.get? b = some o ∧ (b ∉ frs X.stack → B.get? b = some o) := fun b o e => by
    by_cases q : ((B.get? b).isSome || decide (b ∈ frs X.stack)) = true
    · rw [yes b q] at e
      refine ⟨e, fun nb => ?_⟩
      have q2 : (B.get? b).isSome = true := by simpa [nb] using q
      obtain ⟨o2, e2⟩ := Option.isSome_iff_exists.mp q2
      have z := fl.1 b o2 e2
      rw [e] at z
      cases z
      exact e2
    · rw [no b (by simpa using q)] at e
      cases e
  refine ⟨a, T, m, B, { s with heap := G, gens := s'.gens, drawn := s'.drawn, toks := s'.toks }, pins, σ, H', cls, d, rfl, sa, na, hW _ _ _ hE, ?_, fun b o e nb => (out b o e).2 nb, Heap.UpToSlots.of_keeps fun b o e => (out b o e).1, .inr (.inl fl), os, ag⟩
  refine I.call (ch := []) ⟨fun b o e n nb _ => inB b o (ub.keep b o e n nb), fun b o e _ hb _ => (ub.slot b o e hb).imp fun sl q => (inF b hb).trans q, fun b o e n _ => ub.free b o e n, fun b o e _ => ?_, ub.tups, ub.frzs, ub.tbls⟩ (hok.kept inB) ag fun _ z => nomatch z
  by_cases hb : b ∈ frs X.stack
  · obtain ⟨sl, q⟩ := ub.slot b o e hb
    exact ⟨_, (inF b hb).trans q⟩
  · exact (ub.there b o e hb).imp fun o2 q => inB b o2 q
theorem air_new {a T : Addr} {m : Str} {oe : Obj} {vs : Array Value} {cls : Value} {d : Option Addr} (I : Inv X pins σ H t) (k : ∀ b o, t.heap.get? b = some o → s'.heap.get? b = some o) (nt : t.heap.get? a = none) (he : s'.heap.get? a = some oe)
    (hz : Zm T cls d oe) (hd : oe.data = .fields vs) (h1 : vs[1]? = some .none) (na : H a = none) (sa : Say H T m) (os : s'.os = t.os) (ag : AllBare s'.gens) (w : W cls d σ H) : Air X W (.ref a) s' := by
  have nG : (PySem.W.hideAll t.heap (frs X.stack)).get? a = none := by
    cases q : (PySem.W.hideAll t.heap (frs X.stack)).get? a with
    | none => rfl
    | some o => exact absurd ((PySem.W.of_hideAll _ q).symm.trans nt) (by simp)
  refine ⟨a, T, m, PySem.W.hideAll t.heap (frs X.stack), t, pins, σ, H, cls, d, rfl, sa, na, w, I, fun b o e nb => PySem.W.hideAll_get _ e nb, Heap.UpToSlots.of_keeps k, .inl ⟨fun b o e => k b o (PySem.W.of_hideAll _ e), nG, ?_, oe, vs, he, hz, hd, h1⟩, os, ag⟩
  exact (funFrames_none I.stack fun b hb => PySem.W.hideAll_none _ hb).of_keeps fun b o e _ => ⟨o, k b o e, rfl⟩
theorem air_leave (hs : X.stack = X.env :: X.outer) (hf : X.env.frame = some X.env.locals) (hex : X.ex = []) {E₁ : Value → Shared → Prop} (hW : ∀ cls d σ H, W cls d σ H → E cls d H) {u : Value} (x : Air X W u s') :
    wpAny (model X.prog X.w) X.A (leaving X.env u) (fun _ s2 => CXm X.prog X.w X.outer X.H_0 X.s_0 E u s2) E₁ s' := by
  obtain ⟨a, T, m, G, t, ps, σ, H, cls, d, rfl, sa, na, w, I, nb, up, sky, os, ag⟩ := x
  have fr : X.A.frames = some (X.env :: X.outer) := I.ok.frames.trans (congrArg some hs)
  have old : ∀ b o, X.s_0.heap.get? b = some o → b ∉ X.fs → b ∉ frs X.stack := fun b o e hb hm => (List.mem_cons.mp (I.stkSub b hm)).elim (fun z => by
    have h1 := Heap.lt_size e
    rw [z] at h1
    exact absurd I.ok.above (Nat.not_le_of_lt h1)) hb
  have noX : ∀ b, b ∉ X.ex := fun b hb => by rw [hex] at hb; exact nomatch hb
  have ground := I.inGround nb
  have fin : ∀ h2, HandSPX.FlyingZ G X.outer a (Zm T cls d) h2 → s'.heap.UpToSlots h2 → CXm X.prog X.w X.outer X.H_0 X.s_0 E (.ref a) { s' with heap := h2 } := fun h2 fl up2 => by
    refine ⟨a, T, m, G, H, cls, d, rfl, sa, na, hW _ _ _ _ w, fl, ground, ⟨fun b o e n hb => nb b o (I.base.keep b o e n hb (noX b)) (old b o e hb), fun b o e hb => ?_, fun b o e n => I.base.free b o e n (noX b), fun b o e hb => ?_, I.base.tups, I.base.frzs, I.base.tbls⟩, os.trans I.os, ag⟩
    · obtain ⟨_, o1, e1, nf⟩ := I.ok.funs.mem hb
      cases e.symm.trans e1
      obtain ⟨l1, q1⟩ := I.base.slot b o e (I.ok.frf b hb) hb (noX b)
      obtain ⟨l2, q2⟩ := up b _ q1 nf
      obtain ⟨l3, q3⟩ := up2 b _ q2 nf
      exact ⟨l3, q3⟩
    · exact (I.base.there b o e (noX b)).imp fun o1 e1 => nb b o1 e1 (old b o e hb)
  rw [hs] at sky
  rcases sky with ⟨gB, gn, gl, oe, vs, he, hz, hd, h1⟩ | fl | held
  · exact PXN.leaving_firstZ Zm.st fr gl hf he gB gn hd h1 hz fin
  · exact PXN.leaves_onZ Zm.st fr hf fl fin
  · exact HandSPX.leaves_heldZ hf held fin
theorem takesM_of (hs : X.stack = X.env :: X.outer) (hf : X.env.frame = some X.env.locals) (hex : X.ex = []) {E₁ : Value → Shared → Prop}
    (hx : X.xe = fun e s' => wpAny (model X.prog X.w) X.A (leaving X.env e) (fun _ s2 => CXm X.prog X.w X.outer X.H_0 X.s_0 E e s2) E₁ s') : TakesM X (fun cls d _ H => E cls d H) := fun u s' x => by
  rw [hx]
  exact air_leave (W := fun cls d _ H => E cls d H) hs hf hex (fun _ _ _ _ h => h) x
end
/-- what a callee lets out is taken -/
theorem paEm {X : Cx} {E : XK} (tk : TakesM X (fun cls d _ H => E cls d H)) : Pa (CXm X.prog X.w) X (fun _ => E) := fun σ pins H s e s' I c => tk e s' (air_of I (fun _ _ _ h => h) c)
theorem paTm {X : Cx} {W : WX} (tk : TakesM X W) : Pa (CXm X.prog X.w) X (WE W) := fun σ pins H s e s' I c => tk e s' (air_of I (fun _ _ _ h => h) c)
theorem paLm {X : Cx} : Pa (CXm X.prog X.w) X (fun _ => E0) := fun σ pins H s e s' I c => by
  obtain ⟨a, T, m, G, H', cls, d, _, _, _, hE, _⟩ := c
  exact hE.elim
theorem FnOk.weak {P : Program} {w : World} {K : PySem.W.Frag} {mg : Str → Option Value} {base : Heap} {k : Nat} {f : Addr} {fd : FuncData} {ps : List Str} {sp : Sp} (F : FnOk P w K mg base (CXm P w) k f fd ps sp) : FnOk P w K mg base (L2.CX P w) k f fd ps sp :=
  ⟨F.len, fun A outer s H args us vs Q E hr he hb hv hs => codeAny_mono (F.run A outer s H args us vs Q E hr he hb hv hs) fun r s' q => by
    cases r with
    | ok fl => cases fl <;> exact q
    | error e => exact CXm.cx q⟩
/-- raise C(text) -/
theorem ps_raiseM {X : Cx} {W : WX} {C : Addr} {bmB : List Value} {B newId initId : String} {x : Str} {e : Expr} {ta : TE} {p pos pos2 : Pos} (hc : X.calm = true) (tk : TakesM X W) (F : ExcBaseFacts B newId initId bmB) (q : PySem.W.excIn X.K C bmB newId = true)
    (gC : X.mg x = some (.ref C)) (kC : PySem.W.keepIn X.K (.ref C) = true) (r : Raises X (.ref C)) (hg : Gl X x) (he : PE X e ta)
    (hs : starEach [e] X.env = (false, eval e X.env) :: starEach [] X.env := by rfl) (hdb : (x == ("__debug__" : Str)) = false := by decide) :
    PS X (.Raise (some (.Call (.Name x p) [e] [] pos)) none pos2) (fun _ σ H => ta σ H fun v H1 => ∃ m, v = .str m ∧ m.length ≤ 400 ∧ ∀ T, H1 T = none → W (.ref C) none σ (upd H1 T (.tup [.str m]))) := by
  refine ⟨fun pins s σ H D I h => ?_⟩
  show wpAny _ _ (do standAt pos2; raiseStmt X.env (some (do let v ← eval (.Call (.Name x p) [e] [] pos) X.env; standAt pos2; pure v)) none) _ _ _
  refine wpAny_bind (wpAny_standAt (raise_made (I.ok.hd hc) (wpAny_bind (wpAny_Call_Name_kw (ld_glob I hg gC ?_ hdb)))))
  refine PySem.W.callWith_K (h₀ := X.base) I.ok.mod.kin kC ?_ hs (by rfl)
  rw [hs]
  show wpAny _ _ (spliced ((false, eval e X.env) :: backTo pos (starEach [] X.env))) _ _ s
  refine Calls.spliced_cons (thn (he.run pins s σ H _ I h) fun u s1 hu => Calls.spliced_nil ?_)
  obtain ⟨v, H1, I1, r1, m, rfl, few, wish⟩ := hu
  refine ⟨I1.kIn, ?_⟩
  show wpAny _ _ (call (.ref C) [u]) _ _ _
  obtain ⟨bm, N, nm, qn, bs, hdct, sn, sub, ab, col, dd, k0, k1, k2, k3, k5, mN, hC, hN, hni, T0⟩ := exc_obj I1.kIn q
  refine wpAny_call_exc_subT F T0 hC hN hni (fun h2 a hm => wpAny_bind (wpAny_standAt (wpAny_pure ?_))) (by show 1 ≤ sizeLine; rw [sizeLine_eq]; omega)
  obtain ⟨T, e1, nT, e2⟩ := hm.there
  have Ta : T ≠ a := fun z => by
    rw [z, e1] at e2
    cases e2
  obtain ⟨G, yes, no⟩ := restrict h2 fun b => decide (b ≠ a)
  have Ga : G.get? a = none := no a (by simp)
  have Gy : ∀ b, b ≠ a → G.get? b = h2.get? b := fun b hb => yes b (by simp [hb])
  have kG : ∀ b o, s1.heap.get? b = some o → G.get? b = some o := fun b o z => (Gy b fun y => by rw [y, hm.new] at z; cases z).trans (hm.keeps b o z)
  have Gk : ∀ b o, G.get? b = some o → h2.get? b = some o := fun b o z => by
    by_cases hb : b = a
    · rw [hb, Ga] at z; cases z
    · exact (Gy b hb).symm.trans z
  have nT1 : H1 T = none := I1.hok.gone nT
  have na1 : H1 a = none := I1.hok.gone hm.new
  have J : Inv X pins σ (upd H1 T (.tup [.str m])) { s1 with heap := G, toks := s1.toks } := I1.laidN kG nT nT1 ⟨by show 1 ≤ sizeLine; rw [sizeLine_eq]; omega, [u], .cons r1 .nil, ⟨_, (Gy T Ta).trans e2, rfl, _, rfl⟩⟩
  obtain ⟨l1, l2⟩ := r (model X.prog X.w) h2 (I1.kIn.keeps hm.keeps)
  refine ⟨a, _, _, .ref C, rfl, e1, rfl, rfl, rfl, l1, l2, tk _ _ ?_⟩
  exact air_new (T := T) (m := m) J Gk Ga e1 ⟨⟨rfl, rfl, fun vs z => by cases z; rfl⟩, fun vs z => by cases z; rfl⟩ rfl rfl (by rw [upd_ne Ta.symm]; exact na1) ⟨upd_same, few⟩ rfl I1.bare (wish T nT1)
end K1
end
section
set_option maxHeartbeats 4000000
/-! try: .. except C as n: a suite that raises out of the try -/
namespace K1
open PySem PySem.Spec PyProof.Rows L2 Gr GxR
section
variable {X : Cx} {pins : List (Addr × Obj)} {σ : L2.St} {H : Hp} {s : Shared}
/-- the name is gone, nothing else -/
theorem inv_gone (I : Inv X pins σ H s) {h2 : Heap} {m : Str → Option Value} {v : Option Value} {i tk : Nat} {n : Str} (hN : X.N.Nodup) (hi : X.N[i]? = some n) (hn : h2.Ns X.env.locals fun x => if x = n then v else m x)
    (hlk : ∀ (j : Nat) (y : Str) (u : V), X.N[j]? = some y → σ[j]? = some (some u) → Vis X.env.scope y → ∃ r, RelV u r ∧ Look X.env s.heap m y r) (sb : ∀ b, b ≠ X.env.locals → h2.get? b = s.heap.get? b) :
    Inv X pins (σ.set i none) H { s with heap := h2, toks := tk } := by
  have old : ∀ b o, X.s_0.heap.get? b = some o → h2.get? b = s.heap.get? b := fun b o e => sb b (Nat.ne_of_lt (Nat.lt_of_lt_of_le (Heap.lt_size e) I.ok.above))
  have cl : ∀ y c u, X.env.cells.lookup y = some c → s.heap.IsCell c u → h2.IsCell c u := fun y c u e ⟨o, q, r⟩ => ⟨o, (sb c (I.cne y c e)).trans q, r⟩
  refine ⟨I.ok, I.os, I.bare, ⟨fun b o e k hb hx => (old b o e).trans (I.base.keep b o e k hb hx), fun b o e k hb hx => (I.base.slot b o e k hb hx).imp fun _ q => (old b o e).trans q, I.base.free, fun b o e hx => (I.base.there b o e hx).imp fun _ q => (old b o e).trans q, I.base.tups, I.base.frzs, I.base.tbls⟩,
    ⟨_, hn, fun j y u e1 e2 e3 => ?_⟩, fun y c e => (I.cell y c e).imp fun u q => cl y c u e q, I.free, I.freeC, fun p hp => ?_, fun b ob e => ?_, (List.length_set ..).trans I.len⟩
  · have ne : j ≠ i := fun z => by
      rw [z, List.getElem?_set] at e2
      simp at e2
    rw [List.getElem?_set_ne (Ne.symm ne)] at e2
    obtain ⟨r, h1, h2⟩ := hlk j y u e1 e2 e3
    exact ⟨r, h1, h2.imp (fun ⟨k, q⟩ => ⟨k, (if_neg fun z : y = n => ne (nodup_ix hN e1 (z ▸ hi))).trans q⟩) fun ⟨k, c, q, z⟩ => ⟨k, c, q, cl y c _ q z⟩⟩
  · obtain ⟨e, k, ne, rest⟩ := I.pin p hp
    exact ⟨(sb p.1 ne).trans e, k, ne, rest⟩
  · refine (I.hok b ob e).stay (fun c w' hc q => (sb c fun z => ?_).trans q) (fun _ q => q) fun _ _ q => q
    rcases hc with hc | hc
    · rw [← hc, z, I.free] at e
      cases e
    · rw [z, I.free] at hc
      cases hc
/-- an exception of the suite goes on, the name is gone -/
theorem suite_out {A' : Around} {W : WX} {i : Nat} {n : Str} {pos' : Pos} {u : Value} {R E1 E2 : Value → Shared → Prop} (hs : X.stack = X.env :: X.outer) (hf : X.env.frame = some X.env.locals) (fr : A'.frames = some (X.env :: X.outer))
    (hN : X.N.Nodup) (hi : X.N[i]? = some n) (hln : X.env.kindOf n = some .local) (tk : L2.Takes X W) (hW : ∀ cls d σ σ' H, W cls d σ H → W cls d σ' H) (hR : ∀ e s, X.xe e s → R e s) (x : L2.XE X W u s) :
    wpAny (model X.prog X.w) A' (noteFrame u X.env) (fun _ s7 => wpAny (model X.prog X.w) A' (do bindName X.env n .none; unbindBehindTheSuite X.env n pos') (fun _ s8 => wpAny (model X.prog X.w) A' (passOn "try.except-as" u X.env : Sem Flow) (fun _ _ => False) R s8) E1 s7) E2 s := by
  obtain ⟨a, B, t, ps, σ, H, cls, d, rfl, I, nb, up, sky, na, os, ag, w⟩ := x
  rw [hs] at sky
  have note : ∀ {Q : Unit → Shared → Prop}, (∀ h', HandSPX.HeldZ B (X.env :: X.outer) a (Zc cls d) X.env.locals h' → s.heap.UpToSlots h' → Q () { s with heap := h' }) → wpAny (model X.prog X.w) A' (noteFrame (.ref a) X.env) Q E2 s := fun {Q} q => by
    rcases sky with ⟨gB, gn, gl, oe, vs, he, hz, hd, h1⟩ | fl | held
    · exact HandSPX.look_newZ Zc.steady fr gl hf he gB gn hd h1 hz q
    · exact HandSPX.looks_onZ Zc.steady fr hf fl q
    · exact HandSPX.againZ hf held.2.2.2 (q s.heap held (Heap.UpToSlots.refl _))
  refine note fun h7 hh up7 => ?_
  have Lm : X.env.locals ∈ frs X.stack := by
    rw [hs]
    exact List.mem_filterMap.mpr ⟨X.env, List.mem_cons_self, hf⟩
  obtain ⟨G7, y7, n7⟩ := restrict h7 fun b => (B.get? b).isSome || decide (b ∈ frs X.stack)
  have B7 : B.StaysIn G7 := fun b o e => (y7 b (by simp [e])).trans (hh.1 b o e)
  have F7 : ∀ b, b ∈ frs X.stack → G7.get? b = h7.get? b := fun b hb => y7 b (by simp [hb])
  have up8 : t.heap.UpToSlots G7 := fun b o e nf => by
    by_cases hb : b ∈ frs X.stack
    · exact (up.trans up7 b o e nf).imp fun _ q => (F7 b hb).trans q
    · exact ⟨o.slots, B7 b o (nb b o e hb)⟩
  have J7 : Inv X ps σ H { s with heap := G7 } := I.landed nb B7 up8 os ag
  obtain ⟨mm, hn, hlk⟩ := id J7.loc
  have hn7 : h7.Ns X.env.locals mm := by
    obtain ⟨o, es, ep, ho, r⟩ := hn
    exact ⟨o, es, ep, (F7 _ Lm).symm.trans ho, r⟩
  refine wpAny_nameGoes_keeps (s := { s with heap := h7 }) hln hn7 (by rw [I.ok.kind]; rfl) fun h8 v hn8 sb => ?_
  obtain ⟨G8, y8, n8⟩ := restrict h8 fun b => (B.get? b).isSome || decide (b ∈ frs X.stack)
  have F8 : ∀ b, b ∈ frs X.stack → G8.get? b = h8.get? b := fun b hb => y8 b (by simp [hb])
  have sbG : ∀ b, b ≠ X.env.locals → G8.get? b = G7.get? b := fun b hb => by
    cases q : ((B.get? b).isSome || decide (b ∈ frs X.stack)) with
    | true => rw [y8 b q, y7 b q]; exact sb.2 b hb
    | false => rw [n8 b q, n7 b q]
  have hn8g : G8.Ns X.env.locals fun x => if x = n then v else mm x := by
    obtain ⟨o, es, ep, ho, r⟩ := hn8
    exact ⟨o, es, ep, (F8 _ Lm).trans ho, r⟩
  have J8 := inv_gone (tk := s.toks) J7 hN hi hn8g hlk sbG
  have nfL : ∀ (L : Addr), L ∈ frs (X.env :: X.outer) → ∃ o, h7.get? L = some o ∧ ∀ vs, o.data ≠ .fields vs := fun L hL => (hh.2.2.1.mem hL).2
  have hB0 : ∀ L ∈ frs (X.env :: X.outer), B.get? L = none := fun L hL => (hh.2.2.1.mem hL).1
  have LmE : X.env.locals ∈ frs (X.env :: X.outer) := hs ▸ Lm
  have ne_rec : ∀ b o vs, h7.get? b = some o → o.data = .fields vs → b ≠ X.env.locals := fun b o vs e dd z => by
    obtain ⟨o1, e1, nf⟩ := nfL _ LmE
    rw [z, e1] at e
    cases e
    exact nf vs dd
  have hh8 : HandSPX.HeldZ B (X.env :: X.outer) a (Zc cls d) X.env.locals h8 := by
    obtain ⟨k1, k2, k3, oe, vs, T, oT, ts, he, hz, hd, h1, hT0, hTe, hT, hdT, h3⟩ := hh
    refine ⟨fun b o e => (sb.2 b fun z => ?_).trans (k1 b o e), k2, ?_, oe, vs, T, oT, ts, (sb.2 a (ne_rec a oe vs he hd)).trans he, hz, hd, h1, hT0, hTe, (sb.2 T (ne_rec T oT ts hT hdT)).trans hT, hdT, h3⟩
    · rw [z, hB0 _ LmE] at e
      cases e
    · have all : ∀ l : List Env, h7.FunFrames B l → h8.FunFrames B l := by
        intro l
        induction l with
        | nil => exact fun _ => trivial
        | cons e l ih =>
          rintro ⟨hk, ⟨L, o, hfL, hBL, ho, hd2⟩, hr⟩
          by_cases hL : L = X.env.locals
          · obtain ⟨o2, es, ep, ho2, hd3, _⟩ := hn8
            exact ⟨hk, ⟨L, o2, hfL, hBL, by rw [hL]; exact ho2, fun vs z => by rw [hd3] at z; cases z⟩, ih hr⟩
          · exact ⟨hk, ⟨L, o, hfL, hBL, (sb.2 L hL).trans ho, hd2⟩, ih hr⟩
      exact all _ k3
  obtain ⟨k1, k2, k3, oe, vs, T, oT, ts, he, hz, hd, h1, rest⟩ := id hh8
  unfold PySem.passOn
  refine wpAny_bind (wpAny_field he hd h1 ?_)
  rw [if_neg (show ¬ ((Value.ref T == Value.none) = true) from by simp)]
  have fin : wpAny (model X.prog X.w) A' (setFlight (.ref a) X.env.frame) (fun _ s4 => wpAny (model X.prog X.w) A' (throw (.ref a) : Sem Flow) (fun _ _ => False) R s4) R { s with heap := h8, toks := s.toks + 1 } := by
    rw [hf]
    refine HandSPX.setFlight_onZ hh8 fun h9 hh9 up9 => wpAny_throw (hR _ _ (tk _ _ ?_))
    refine ⟨a, B, _, ps, σ.set i none, H, cls, d, rfl, J8, fun b o e nf => ?_, fun b o e nf => ?_, .inr (.inr (by rw [hs]; exact hh9)), na, rfl, ag, hW _ _ _ _ _ w⟩
    · cases q : ((B.get? b).isSome || decide (b ∈ frs X.stack)) with
      | false => rw [show (_ : Heap).get? b = none from n8 b q] at e; cases e
      | true =>
        have q2 : (B.get? b).isSome = true := by simpa [nf] using q
        obtain ⟨o2, e2⟩ := Option.isSome_iff_exists.mp q2
        have z := k1 b o2 e2
        rw [show G8.get? b = h8.get? b from y8 b q, z] at e
        cases e
        exact e2
    · refine up9 b o ?_ nf
      cases q : ((B.get? b).isSome || decide (b ∈ frs X.stack)) with
      | false => rw [show (_ : Heap).get? b = none from n8 b q] at e; cases e
      | true => exact (y8 b q).symm.trans e
  first
    | exact wpAny_bind (wpAny_pure (wpAny_bind fin))
    | exact wpAny_bind fin
end
end K1
end
section
set_option maxHeartbeats 4000000
/-! try: .. except C as n: a suite that raises -/
namespace K1
open PySem PySem.Spec PyProof.Rows L2 Gr GxR
def noEnds : Ends := { nx := fun _ _ => False, rt := fun _ _ => False, bk := fun _ _ => False, ct := fun _ _ => False }
/-- what the clause wishes of the body's exceptions: the class is named, the suite raises -/
def wCat (K : PySem.W.Frag) (c : Value) (i : Nat) (ts : Addr → Addr → Value → Option Addr → TS) : WX := fun cls d σ H => PySem.W.exmOne K cls c = some true ∧ ∀ a T m, H a = none → Say H T m → ts a T cls d noEnds (σ.set i (some (.ref a))) H
/-- a suite's context: what it lets out is in the air of W -/
abbrev suiteR (X : Cx) (a : Addr) (pn : List (Addr × Obj)) (W : WX) : Cx := { X with A := X.A.mark (some (.ref a)), calm := false, pn := pn, xe := L2.XE (L2H.suiteX X a pn) W }
section
variable {X : Cx} {x n : Str} {c : Value} {i : Nat} {body suite : List Stmt} {b₀ : Stmt} {np pos pos' : Pos} {tb : WX → TS} {ts : Addr → Addr → Value → Option Addr → TS} {Wout : WX}
theorem suiteR_takes {a : Addr} {pn : List (Addr × Obj)} : L2.Takes (suiteR X a pn Wout) Wout := fun u s' z => by
  obtain ⟨a2, B, t, ps, σ, H, cls, d, e, I, rest⟩ := z
  exact ⟨a2, B, t, ps, σ, H, cls, d, e, Inv.unwish (X := L2H.suiteX X a pn) (E := L2.XE (L2H.suiteX X a pn) Wout) I, rest⟩
theorem ps_try_asR (hs : X.stack = X.env :: X.outer) (hf : X.env.frame = some X.env.locals) (hN : X.N.Nodup) (hi : X.N[i]? = some n) (hln : X.env.kindOf n = some .local) (hc : Names X x c)
    (hpa : ∀ hd : Option Value, PassesOwnAt (model X.prog X.w) (X.A.mark hd) X.A X.env X.xe) (tk : L2.Takes X Wout) (hW : ∀ cls d σ σ' H, Wout cls d σ H → Wout cls d σ' H)
    (hb : ∀ (W : WX) (pn : List (Addr × Obj)) (xe : Value → Shared → Prop), TakesM (X.tr pn xe) W → PassesOwn (model X.prog X.w) X.A X.env xe → PSs (X.tr pn xe) body (tb W))
    (hsu : ∀ (a T : Addr) (oe : Obj) (cls : Value) (d : Option Addr) (pn : List (Addr × Obj)), Zm T cls d oe → (∃ vs, oe.data = .fields vs) → L2H.HotC (suiteR X a ((a, oe) :: pn) Wout) → PSs (suiteR X a ((a, oe) :: pn) Wout) (b₀ :: suite) (ts a T cls d)) :
    PS X (.Try body [.ExceptHandler (some (.Name x np)) (some n) (b₀ :: suite) pos'] [] [] pos) (fun D σ H => tb (wCat X.K c i ts) D σ H) := by
  refine ⟨fun pins s σ H D I h => ?_⟩
  have ok := I.ok
  have fr : X.A.frames = some (X.env :: X.outer) := ok.frames.trans (congrArg some hs)
  refine wpAny_Try_except (wpAny_mono ((hb (wCat X.K c i ts) (X.pn ++ pins) _ (fun u s' air => ?_) (PassesOwn.looking (K := fun e s2 => wpAny (model X.prog X.w) X.A (setFlight e none) (fun _ s3 => wpAny (model X.prog X.w) X.A (handleBy e X.env [.ExceptHandler (some (.Name x np)) (some n) (b₀ :: suite) pos']) (SP X pins D) X.xe s3) X.xe s2) (E₁ := X.xe))).run [] s σ H D (I.toTry _) h) (fun f s1 hsp => ?_) fun e s1 he => he)
  · obtain ⟨a, T, m, B, t, ps, σ', H', cls, d, rfl, sa, na, ⟨hb1, w⟩, I', nb, up, sky, os, ag⟩ := air
    have J : Inv X pins σ' H' t := I'.ofTry ok
    have sky' : Sky B (X.env :: X.outer) a (Zm T cls d) X.env.locals s'.heap := hs ▸ sky
    refine L2N.Sky.land Zm.st fr hf sky' fun h3 f3 up3 => ?_
    have J3 : Inv X pins σ' H' { s' with heap := h3 } := J.landed nb f3.1 (up.trans up3) os ag
    obtain ⟨o3, v3, e3, z3, d3⟩ := f3.there
    have noF : a ∉ frs (X.env :: X.outer) := fun hm => by
      obtain ⟨_, o1, e1, nf⟩ := f3.2.2.1.mem hm
      cases e3.symm.trans e1
      exact nf _ d3
    have nL : a ≠ X.env.locals := fun z => noF (List.mem_filterMap.mpr ⟨X.env, List.mem_cons_self, hf.trans (congrArg some z.symm)⟩)
    have nF : a ∉ X.fs := fun hm => by
      obtain ⟨e, he, q⟩ := List.mem_filterMap.mp hm
      exact noF (List.mem_filterMap.mpr ⟨e, List.mem_cons_of_mem _ he, q⟩)
    have S3 := J3.suite e3 d3 na nL nF
    refine wpAny_handleBy_cons (codeAny_handlers_test ?_) (by intro q; cases q)
    have LT : PySem.W.Looks (model X.prog X.w) h3 (typeOf (.ref a)) cls := fun A Q E s k q => wpAny_typeOf_ref (k _ _ e3) (z3.1.1 ▸ q)
    have LM := PySem.W.exm_one (M := model X.prog X.w) J3.kIn LT hb1
    have name_ : ∀ {Q : Value → Shared → Prop} {E : Value → Shared → Prop}, Q c { s' with heap := h3 } → wpAny (model X.prog X.w) (X.A.mark (some (.ref a))) (eval (.Name x np) X.env) Q E { s' with heap := h3 } := fun {Q E} q => by
      obtain ⟨g1, g2, g3 | ⟨g3, g4, g5⟩⟩ := hc
      · exact ld_glob (X := X.suite a ((a, o3) :: (X.pn ++ pins))) S3 g1 g3 q g2
      · exact ld_blt (X := X.suite a ((a, o3) :: (X.pn ++ pins))) S3 g1 g3 g4 q g5 g2
    refine name_ (LM.here (codeAny_handlers_suite_as (HandSPX.lands_againZ f3 fun h4 f4 up4 => ?_)))
    have J4 : Inv X pins σ' H' { s' with heap := h4 } := J.landed nb f4.1 ((up.trans up3).trans up4) os ag
    obtain ⟨o4, v4, e4, z4, d4⟩ := f4.there
    have S4 := J4.suite e4 d4 na nL nF
    have hot : L2H.HotC (suiteR X a ((a, o4) :: (X.pn ++ pins)) Wout) := ⟨(a, o4), ⟨rfl, v4, d4, z4.1.2.2 v4 d4⟩, List.mem_cons_self⟩
    refine store_ok (X := X.suite a ((a, o4) :: (X.pn ++ pins))) (v := .ref a) S4 hN hi (.inl hln) rfl (fun s5 S5 => ?_) (.inr hln)
    have S6 : Inv (suiteR X a ((a, o4) :: (X.pn ++ pins)) Wout) [] _ H' s5 := (L2H.suiteX_of S5).wish _
    refine wpAny_mono ((hsu a T o4 cls d (X.pn ++ pins) z4 ⟨_, d4⟩ hot).run [] s5 _ H' noEnds S6 (w a T m na sa)) (fun f s6 q6 => ?_) fun e6 s6 z6 => ?_
    · cases f with
      | next =>
        obtain ⟨_, _, _, q⟩ := q6
        exact q.elim
      | brk =>
        obtain ⟨_, _, _, q⟩ := q6
        exact q.elim
      | cont =>
        obtain ⟨_, _, _, q⟩ := q6
        exact q.elim
      | ret u =>
        obtain ⟨_, _, _, _, _, q⟩ := q6
        exact q.elim
    · refine suite_out hs hf fr hN hi hln tk hW (fun e s z => hpa (some (.ref a)) e s z) ?_
      obtain ⟨a2, B2, t2, ps2, σ2, H2, c2, d2, q2, I2, rest⟩ := z6
      exact ⟨a2, B2, t2, pins, σ2, H2, c2, d2, q2, L2H.unsuiteX I2 ok, rest⟩
  · cases f with
    | next =>
      obtain ⟨σ', H', J', q⟩ := hsp
      exact wpAny_execs_nil ⟨σ', H', J'.ofTry ok, q⟩
    | brk =>
      obtain ⟨σ', H', J', q⟩ := hsp
      exact ⟨σ', H', J'.ofTry ok, q⟩
    | cont =>
      obtain ⟨σ', H', J', q⟩ := hsp
      exact ⟨σ', H', J'.ofTry ok, q⟩
    | ret u =>
      obtain ⟨v, σ', H', J', r, q⟩ := hsp
      exact ⟨v, σ', H', J'.ofTry ok, r, q⟩
end
end K1
end
section
set_option maxHeartbeats 4000000
/-! the caught exception's text in an f-string; C(text) from None -/
namespace K1
open PySem PySem.Spec PyProof.Rows L2 Gr GxR
/-- a class whose exceptions are written by their one text -/
structure StrC (K : PySem.W.Frag) (C : Addr) : Prop where
  hs : PySem.W.findIn K (.ref C) "__str__" = some (some (.builtin "BaseException.__str__"))
  hB : PySem.W.subIn K (.ref C) (.type "BaseException") = some true
  hf : PySem.W.findIn K (.ref C) "__format__" = some (some (.builtin "object.__format__"))
  hm : PySem.W.mroIn K C (.type "object") = some true
section
variable {X : Cx}
def tWhy (K : PySem.W.Frag) (T : Addr) (cls : Value) (d : Option Addr) (a : Addr) (te : TE) : TE := fun σ H Q => te σ H fun x H1 => ∃ C m, x = .ref a ∧ cls = .ref C ∧ d = none ∧ StrC K C ∧ H1 T = some (.tup [.str m]) ∧ Q (.str m) H1
theorem pe_why {e : Expr} {te : TE} {pos : Pos} {a T : Addr} {oe : Obj} {cls : Value} {d : Option Addr} (hz : Zm T cls d oe) (hf : ∃ vs, oe.data = .fields vs) (ho : (a, oe) ∈ X.pn) (hu : X.A.in1.units < cLine) (he : PE X e te) :
    PE X (.FormattedValue e (-1) none pos) (tWhy X.K T cls d a te) := by
  refine ⟨fun pins s σ H Q I h => ?_⟩
  refine wpAny_FormattedValue_plain (thn (he.run pins s σ H _ I h) fun v s1 hv => ?_)
  obtain ⟨x, H1, I1, r1, C, m, rfl, rfl, rfl, sc, hT, q⟩ := hv
  obtain rfl : v = Value.ref a := r1
  have J := inst_pin (D := C) ho ⟨hz.1.1, hz.1.2.1⟩ hf I1
  obtain ⟨vs, hd⟩ := hf
  obtain ⟨_, its, rv, ob, g1, g2, n, g3⟩ := (show ObjOk _ _ H1 s1.heap T (.tup [.str m]) from I1.hok T _ hT)
  obtain ⟨u, rfl, tk, rfl⟩ := vals1 rv
  have tp : s1.heap.TupAt T [Value.str m tk] := ⟨ob, n, g1, g2, g3⟩
  have ex : ExcC X.K C a T s1.heap := ⟨I1.kIn, oe, vs, J.at_, hz.1.1, hd, hz.2 vs hd⟩
  exact PySem.W.kfo_field I1.kIn J sc.hf sc.hm (pyStrObj_C_one (s := { s1 with toks := s1.toks + 1 }) hu ex tp sc.hs sc.hB ⟨_, _, rfl, .str m, H1, I1.tok _, ⟨tk, rfl⟩, q⟩)
theorem pe_whyR {W : WX} {e : Expr} {te : TE} {pos : Pos} {a T : Addr} {oe : Obj} {cls : Value} {d : Option Addr} {pn : List (Addr × Obj)} (hz : Zm T cls d oe) (hf : ∃ vs, oe.data = .fields vs) (hu : X.A.units + 1 < cLine) (he : PE (suiteR X a ((a, oe) :: pn) W) e te) :
    PE (suiteR X a ((a, oe) :: pn) W) (.FormattedValue e (-1) none pos) (tWhy X.K T cls d a te) := pe_why (X := suiteR X a ((a, oe) :: pn) W) hz hf List.mem_cons_self hu he
/-- C(text), in an except suite -/
theorem pmk5_own1 {C : Addr} {bmB : List Value} {B newId initId : String} {x : Str} {e : Expr} {ta : TE} {p pos : Pos} (F : ExcBaseFacts B newId initId bmB) (q : PySem.W.excIn X.K C bmB newId = true) (gC : X.mg x = some (.ref C)) (kC : PySem.W.keepIn X.K (.ref C) = true)
    (r : Raises X (.ref C)) (hg : Gl X x) (he : PE X e ta) (hs : starEach [e] X.env = (false, eval e X.env) :: starEach [] X.env := by rfl) (hdb : (x == ("__debug__" : Str)) = false := by decide) :
    L2H.PMk5 X (.Call (.Name x p) [e] [] pos) (fun σ H Q => ta σ H fun _ H1 => Q (.ref C) none H1) := by
  intro pins s σ H Q I h
  refine wpAny_Call_Name_kw (ld_glob I hg gC (PySem.W.callWith_K (h₀ := X.base) I.ok.mod.kin kC ?_ hs (by rfl)) hdb)
  rw [hs]
  refine Calls.spliced_cons (thn (he.run pins s σ H _ I h) fun u s1 hu => Calls.spliced_nil ?_)
  obtain ⟨v, H1, I1, r1, q1⟩ := hu
  refine ⟨I1.kIn, ?_⟩
  show wpAny _ _ (call (.ref C) [u]) _ _ _
  obtain ⟨bm, N, nm, qn, bs, hdct, sn, sub, ab, col, dd, k0, k1, k2, k3, k5, mN, hC, hN, hni, T0⟩ := exc_obj I1.kIn q
  exact wpAny_call_exc_subT F T0 hC hN hni (fun h2 a hm => L2H.mk_of5 I1 hm r q1 (I1.hok.gone hm.new)) (by show 1 ≤ sizeLine; rw [sizeLine_eq]; omega)
end
end K1
end
section
set_option maxHeartbeats 8000000
/-! texts cut at signs, rows read from a text -/
namespace K1
open PySem PySem.Spec PyProof.Rows L2 Gr GxR Srx Skx Dcx
open TL (tl)
/-- cut at the signs that p names -/
def cut (p : Nat → Bool) : List Nat → List (List Nat)
  | [] => [[]]
  | c :: r => if p c = true then [] :: cut p r else match cut p r with
    | [] => [[c]]
    | q :: qs => (c :: q) :: qs
theorem cut_ne (p : Nat → Bool) : ∀ l, ∃ q qs, cut p l = q :: qs
  | [] => ⟨_, _, rfl⟩
  | c :: r => by
    obtain ⟨q, qs, e⟩ := cut_ne p r
    unfold cut
    rw [e]
    by_cases h : p c = true
    · rw [if_pos h]
      exact ⟨_, _, rfl⟩
    · rw [if_neg h]
      exact ⟨_, _, rfl⟩
theorem cut_sep {p : Nat → Bool} {c : Nat} {r : List Nat} (h : p c = true) : cut p (c :: r) = [] :: cut p r := if_pos h
theorem cut_let {p : Nat → Bool} {c : Nat} {r q : List Nat} {qs : List (List Nat)} (h : p c = false) (e : cut p r = q :: qs) : cut p (c :: r) = (c :: q) :: qs := by
  show (if p c = true then _ else _) = _
  rw [h, e]
  rfl
theorem cut_app {p : Nat → Bool} : ∀ {u v : List Nat} {U V : List (List Nat)} {a b : List Nat}, cut p u = U ++ [a] → cut p v = b :: V → cut p (u ++ v) = U ++ (a ++ b) :: V
  | [], v, U, V, a, b, hu, hv => by
    have hu : [[]] = U ++ [a] := hu
    cases U with
    | nil =>
      have e : a = [] := by simpa using hu.symm
      rw [e]
      exact hv
    | cons x U =>
      have := congrArg List.length hu
      simp at this
  | c :: r, v, U, V, a, b, hu, hv => by
    obtain ⟨q, qs, e⟩ := cut_ne p r
    cases h : p c with
    | true =>
      rw [cut_sep h] at hu
      cases U with
      | nil =>
        rw [e] at hu
        simp at hu
      | cons x U =>
        rw [List.cons_append] at hu
        injection hu with h1 h2
        rw [List.cons_append, cut_sep h, cut_app h2 hv, ← h1]
        rfl
    | false =>
      rw [cut_let h e] at hu
      cases U with
      | nil =>
        rw [List.nil_append] at hu
        injection hu with h1 h2
        have z := cut_app (U := []) (a := q) (e.trans (by rw [h2]; rfl)) hv
        rw [List.cons_append, cut_let h z, ← h1]
        rfl
      | cons x U =>
        rw [List.cons_append] at hu
        injection hu with h1 h2
        have z := cut_app (U := q :: U) (a := a) (e.trans (by rw [h2]; rfl)) hv
        rw [List.cons_append, cut_let h z, ← h1]
        rfl
theorem cut_free {p : Nat → Bool} : ∀ {l : List Nat}, (∀ c ∈ l, p c = false) → cut p l = [l]
  | [], _ => rfl
  | c :: r, h => cut_let (h c List.mem_cons_self) (cut_free fun x hx => h x (List.mem_cons_of_mem _ hx))
theorem cut_mem {p : Nat → Bool} : ∀ {l q : List Nat}, q ∈ cut p l → ∀ c ∈ q, p c = false ∧ c ∈ l
  | [], q, h, c, hc => by
    rw [List.mem_singleton.mp h] at hc
    exact absurd hc List.not_mem_nil
  | d :: r, q, h, c, hc => by
    obtain ⟨a, as, e⟩ := cut_ne p r
    cases hd : p d with
    | true =>
      rw [cut_sep hd] at h
      rcases List.mem_cons.mp h with rfl | h
      · exact absurd hc List.not_mem_nil
      · have z := cut_mem h c hc
        exact ⟨z.1, List.mem_cons_of_mem _ z.2⟩
    | false =>
      rw [cut_let hd e] at h
      rcases List.mem_cons.mp h with rfl | h
      · rcases List.mem_cons.mp hc with rfl | hc
        · exact ⟨hd, List.mem_cons_self⟩
        · have z := cut_mem (p := p) (l := r) (q := a) (by rw [e]; exact List.mem_cons_self) c hc
          exact ⟨z.1, List.mem_cons_of_mem _ z.2⟩
      · have z := cut_mem (p := p) (l := r) (q := q) (by rw [e]; exact List.mem_cons_of_mem _ h) c hc
        exact ⟨z.1, List.mem_cons_of_mem _ z.2⟩
theorem cut_size {p : Nat → Bool} : ∀ {l : List Nat}, (cut p l).length ≤ l.length + 1 ∧ ∀ q ∈ cut p l, q.length ≤ l.length
  | [] => ⟨Nat.le_refl _, fun q h => by rw [List.mem_singleton.mp h]; exact Nat.le_refl _⟩
  | d :: r => by
    obtain ⟨h1, h2⟩ := cut_size (p := p) (l := r)
    obtain ⟨a, as, e⟩ := cut_ne p r
    cases hd : p d with
    | true =>
      rw [cut_sep hd]
      refine ⟨by rw [List.length_cons, List.length_cons]; omega, fun q hq => ?_⟩
      rcases List.mem_cons.mp hq with rfl | hq
      · exact Nat.zero_le _
      · exact Nat.le_succ_of_le (h2 q hq)
    | false =>
      rw [cut_let hd e]
      rw [e] at h1 h2
      refine ⟨by rw [List.length_cons] at h1 ⊢; rw [List.length_cons]; omega, fun q hq => ?_⟩
      rcases List.mem_cons.mp hq with rfl | hq
      · exact Nat.succ_le_succ (h2 a List.mem_cons_self)
      · exact Nat.le_succ_of_le (h2 q (List.mem_cons_of_mem _ hq))
/-- the sign s -/
abbrev sg (s : Nat) : Nat → Bool := fun c => decide (c = s)
theorem spl_cut (s : Nat) : ∀ (n : Nat) (l : List Nat), l.length ≤ n → TL.spl [s] 0 [] l = cut (sg s) l := by
  intro n
  induction n with
  | zero =>
    intro l h
    cases l with
    | nil => rfl
    | cons _ _ => exact absurd h (by simp)
  | succ n ih =>
    intro l h
    by_cases hs : s ∈ l
    · obtain ⟨as, bs, rfl, hn⟩ := List.eq_append_cons_of_mem hs
      have e1 : cut (sg s) as = [] ++ [as] := cut_free fun c hc => decide_eq_false fun z => hn (z ▸ hc)
      have e2 : cut (sg s) (s :: bs) = [] :: cut (sg s) bs := cut_sep (decide_eq_true rfl)
      rw [cut_app e1 e2]
      have z := TL.spl_part1 (s := s) (S := []) (acc := []) (rest := bs) hn
      rw [show as ++ s :: bs = as ++ (s :: [] ++ bs) from rfl, z, ih bs (by rw [List.length_append, List.length_cons] at h; omega), List.append_nil]
      rfl
    · rw [cut_free (p := sg s) fun c hc => decide_eq_false fun (z : c = s) => hs (z ▸ hc)]
      exact TL.spl_last1 hs
theorem join_cut (s : Nat) : ∀ l, TL.joinL [s] (cut (sg s) l) = l
  | [] => rfl
  | c :: r => by
    obtain ⟨q, qs, e⟩ := cut_ne (sg s) r
    have ih := join_cut s r
    rw [e] at ih
    by_cases h : c = s
    · subst h
      rw [cut_sep (decide_eq_true rfl), e]
      show [] ++ ([c] ++ TL.joinL [c] (q :: qs)) = _
      rw [ih]
      rfl
    · rw [cut_let (decide_eq_false h) e]
      cases qs with
      | nil =>
        have ih : q = r := ih
        rw [ih]
        rfl
      | cons q2 qs =>
        show (c :: q) ++ ([s] ++ TL.joinL [s] (q2 :: qs)) = _
        have ih : q ++ ([s] ++ TL.joinL [s] (q2 :: qs)) = r := ih
        rw [List.cons_append, ih]
/-! ### the model's texts -/
theorem tlN : tl ("\n" : Str) = [10] := by decide +kernel
theorem tlB : tl (" " : Str) = [32] := by decide +kernel
theorem split_tl {x y : Str} {s : Nat} (ey : tl y = [s]) (hs : s < 256) : (Txt.split x y).map tl = cut (sg s) (tl x) := by
  have hk : y.cps.all (· < 256) = true := by
    rw [← Array.all_toList]
    show (tl y).all _ = true
    rw [ey]
    simp [hs]
  rw [TL.split_spl x y (by rw [ey]; simp) (TL.kind_ok hk), ey]
  exact spl_cut s _ _ (Nat.le_refl _)
theorem split_back {x y : Str} {s : Nat} (ey : tl y = [s]) (hs : s < 256) : Txt.join y (Txt.split x y) = x := by
  refine TL.ext_tl ?_
  rw [TL.join_eq, TL.tl_join, split_tl ey hs, ey]
  exact join_cut s _
theorem split_mem {x y q : Str} {s : Nat} (ey : tl y = [s]) (hs : s < 256) (h : q ∈ Txt.split x y) : tl q ∈ cut (sg s) (tl x) := by
  rw [← split_tl ey hs]
  exact List.mem_map.mpr ⟨q, h, rfl⟩
theorem split_len {x y : Str} {s : Nat} (ey : tl y = [s]) (hs : s < 256) : (Txt.split x y).length ≤ x.length + 1 ∧ ∀ q ∈ Txt.split x y, q.length ≤ x.length := by
  have h := cut_size (p := sg s) (l := tl x)
  rw [← split_tl ey hs, List.length_map] at h
  refine ⟨by rw [TL.len_tl]; exact h.1, fun q hq => ?_⟩
  rw [TL.len_tl, TL.len_tl x]
  exact h.2 _ (List.mem_map.mpr ⟨q, hq, rfl⟩)
theorem split_ne {x y : Str} {s : Nat} (ey : tl y = [s]) (hs : s < 256) : Txt.split x y ≠ [] := by
  intro e
  have h := split_tl (x := x) ey hs
  obtain ⟨q, qs, e2⟩ := cut_ne (sg s) (tl x)
  rw [e, e2] at h
  cases h
/-- signs that a text may hold -/
def Okt (x : Str) : Prop := ∀ c ∈ tl x, c < 0x110000
theorem okt_iff {x : Str} : PyData.strOk x = true ↔ Okt x := by
  show x.cps.all (· < 0x110000) = true ↔ _
  rw [← Array.all_toList, List.all_eq_true]
  exact forall_congr' fun c => forall_congr' fun _ => by rw [decide_eq_true_iff]
theorem okt_split {x y q : Str} {s : Nat} (ey : tl y = [s]) (hs : s < 256) (o : Okt x) (h : q ∈ Txt.split x y) : Okt q := fun c hc => o c (cut_mem (split_mem ey hs h) c hc).2
theorem nm_small {x : Str} (h : isNm x = true) : ∀ c ∈ tl x, 97 ≤ c ∧ c ≤ 122 := by
  intro c hc
  unfold isNm at h
  rw [Bool.and_eq_true, Bool.and_eq_true] at h
  have z := List.all_eq_true.mp h.2.2 c hc
  unfold small at z
  rw [Bool.and_eq_true, decide_eq_true_iff, decide_eq_true_iff] at z
  exact z
theorem nm_pos {x : Str} (h : isNm x = true) : 1 ≤ x.length := by
  unfold isNm at h
  rw [Bool.and_eq_true] at h
  exact of_decide_eq_true h.1
/-! ### rows -/
def rowOf (l : Str) : List Str := if l = "-" then [] else Txt.split l " "
def rowsIn (x : Str) : List (List Str) := if x = "" then [] else (Txt.split x "\n").map rowOf
theorem lineS_rowOf (l : Str) : lineS (rowOf l) = l := by
  unfold lineS rowOf
  by_cases h : l = "-"
  · rw [if_pos h, if_pos rfl, h]
  · rw [if_neg h, if_neg (split_ne tlB (by decide)), split_back tlB (by decide)]
theorem textS_rowsIn (x : Str) : textS (rowsIn x) = x := by
  unfold textS rowsIn
  by_cases h : x = ""
  · rw [if_pos h, h]
    decide +kernel
  · rw [if_neg h, List.map_map, show (Txt.split x "\n").map (lineS ∘ rowOf) = Txt.split x "\n" from (List.map_congr_left fun l _ => lineS_rowOf l).trans (List.map_id _), split_back tlN (by decide)]
theorem tl_lineS {r : List Str} (h : Nms r) : ∀ c ∈ tl (lineS r), c = 45 ∨ c = 32 ∨ (97 ≤ c ∧ c ≤ 122) := by
  unfold lineS
  by_cases e : r = []
  · rw [if_pos e]
    intro c hc
    have hc : c ∈ [45] := (show tl ("-" : Str) = [45] by decide +kernel) ▸ hc
    exact .inl (List.mem_singleton.mp hc)
  · rw [if_neg e, TL.join_eq, TL.tl_join, tlB]
    clear e
    induction r with
    | nil => exact fun c hc => absurd hc List.not_mem_nil
    | cons x r ih =>
      have hx := nm_small (h x List.mem_cons_self)
      have ih := ih fun y hy => h y (List.mem_cons_of_mem _ hy)
      cases r with
      | nil => exact fun c hc => .inr (.inr (hx c hc))
      | cons y r =>
        intro c hc
        rcases List.mem_append.mp (show c ∈ tl x ++ ([32] ++ TL.joinL [32] ((y :: r).map tl)) from hc) with hc | hc
        · exact .inr (.inr (hx c hc))
        · rcases List.mem_append.mp hc with hc | hc
          · exact .inr (.inl (List.mem_singleton.mp hc))
          · exact ih c hc
theorem rowOf_lineS {r : List Str} (h : Nms r) : rowOf (lineS r) = r := by
  unfold lineS
  by_cases e : r = []
  · rw [if_pos e, e]
    decide +kernel
  · rw [if_neg e]
    have hs : Txt.split (Txt.join " " r) " " = r := by
      refine TL.split_join tlB (by decide +kernel) e fun p hp hm => ?_
      have := nm_small (h p hp) 32 hm
      omega
    unfold rowOf
    rw [if_neg fun z => ?_, hs]
    rw [z] at hs
    have h2 : Txt.split "-" " " = [("-" : Str)] := by decide +kernel
    rw [h2] at hs
    have := nm_small (h "-" (by rw [← hs]; exact List.mem_singleton.mpr rfl)) 45 (by decide +kernel)
    omega
theorem lineS_ne {r : List Str} (h : Nms r) : 1 ≤ (lineS r).length := by
  unfold lineS
  by_cases e : r = []
  · rw [if_pos e]
    decide +kernel
  · rw [if_neg e, join_len]
    cases r with
    | nil => exact absurd rfl e
    | cons x r =>
      have := nm_pos (h x List.mem_cons_self)
      rw [List.map_cons, List.sum_cons]
      omega
theorem rowsIn_textS {rows : List (List Str)} (h : ∀ r ∈ rows, Nms r) : rowsIn (textS rows) = rows := by
  cases rows with
  | nil =>
    unfold rowsIn
    rw [if_pos (by decide +kernel)]
  | cons r rows =>
    have hs : Txt.split (textS (r :: rows)) "\n" = (r :: rows).map lineS := by
      refine TL.split_join tlN (by decide +kernel) (by simp) fun p hp hm => ?_
      obtain ⟨q, hq, rfl⟩ := List.mem_map.mp hp
      have := tl_lineS (h q hq) 10 hm
      omega
    unfold rowsIn
    rw [if_neg fun z => ?_, hs, List.map_map]
    · exact (List.map_congr_left fun q hq => rowOf_lineS (h q hq)).trans (List.map_id _)
    · have h1 := congrArg Str.length z
      unfold textS at h1
      rw [join_len, List.map_cons, List.map_cons, List.sum_cons] at h1
      have h2 := lineS_ne (h r List.mem_cons_self)
      have h3 : ("" : Str).length = 0 := by decide +kernel
      omega
end K1
end
section
set_option maxHeartbeats 8000000
/-! a text with one sign or one line more has few names more -/
namespace K1
open PySem PySem.Spec PyProof.Rows L2 Gr GxR Srx Skx Dcx
open TL (tl)
def p2 : Nat → Bool := fun c => decide (c = 10) || decide (c = 32)
theorem cut_two : ∀ l : List Nat, (cut (sg 10) l).flatMap (cut (sg 32)) = cut p2 l
  | [] => rfl
  | c :: r => by
    have ih := cut_two r
    obtain ⟨q, qs, e⟩ := cut_ne (sg 10) r
    rw [e, List.flatMap_cons] at ih
    by_cases h10 : c = 10
    · subst h10
      rw [cut_sep (p := sg 10) (decide_eq_true rfl), cut_sep (p := p2) rfl, e, List.flatMap_cons, List.flatMap_cons, ih]
      rfl
    · rw [cut_let (p := sg 10) (decide_eq_false h10) e, List.flatMap_cons]
      by_cases h32 : c = 32
      · subst h32
        rw [cut_sep (p := sg 32) (decide_eq_true rfl), cut_sep (p := p2) rfl, ← ih]
        rfl
      · obtain ⟨a, as, e2⟩ := cut_ne (sg 32) q
        rw [e2] at ih
        have hp : p2 c = false := by
          unfold p2
          rw [decide_eq_false h10, decide_eq_false h32]
          rfl
        rw [cut_let (p := sg 32) (decide_eq_false h32) e2, cut_let hp ih.symm]
        rfl
theorem cut_last (p : Nat → Bool) (l : List Nat) : ∃ U a, cut p l = U ++ [a] := by
  obtain ⟨q, qs, e⟩ := cut_ne p l
  rcases List.eq_nil_or_concat (cut p l) with h | ⟨U, a, h⟩
  · rw [h] at e
    cases e
  · exact ⟨U, a, by rw [h, List.concat_eq_append]⟩
theorem cut_cat {p : Nat → Bool} {u v : List Nat} {c : Nat} (h : p c = true) : cut p (u ++ c :: v) = cut p u ++ cut p v := by
  obtain ⟨U, a, e⟩ := cut_last p u
  rw [cut_app e (cut_sep h), e, List.append_nil, List.append_assoc]
  rfl
theorem graft {p : Nat → Bool} {u v w : List Nat} (c : Nat) (hw : w = v ∨ (∃ d, w = d :: v) ∨ (w = [] ∧ v = [])) :
    ∃ e1 e2, (∀ q ∈ cut p (u ++ c :: v), q ∈ cut p (u ++ w) ∨ q = e1 ∨ q = e2) ∧ (cut p (u ++ c :: v)).length ≤ (cut p (u ++ w)).length + 1 := by
  obtain ⟨U, a, eu⟩ := cut_last p u
  obtain ⟨b, V, ev⟩ := cut_ne p v
  -- what stands in the old one
  have old : ∃ M : List (List Nat), cut p (u ++ w) = U ++ M ++ V ∧ 1 ≤ M.length := by
    rcases hw with rfl | ⟨d, rfl⟩ | ⟨rfl, rfl⟩
    · exact ⟨[a ++ b], by rw [cut_app eu ev, List.append_assoc]; rfl, Nat.le_refl _⟩
    · cases hd : p d with
      | true => exact ⟨[a, b], by rw [cut_cat hd, eu, ev]; simp, by simp⟩
      | false => exact ⟨[a ++ d :: b], by rw [cut_app eu (cut_let hd ev)]; simp, Nat.le_refl _⟩
    · have : V = [] := by
        have ev : [[]] = b :: V := ev
        injection ev with _ h
        exact h.symm
      subst this
      exact ⟨[a], by rw [List.append_nil, List.append_nil, eu], Nat.le_refl _⟩
  obtain ⟨M, eM, lM⟩ := old
  rw [eM]
  cases hc : p c with
  | true =>
    rw [cut_cat hc, eu, ev]
    refine ⟨a, b, fun q hq => ?_, ?_⟩
    · simp only [List.mem_append, List.mem_cons, List.not_mem_nil, or_false] at hq ⊢
      rcases hq with (h | h) | h | h
      · exact .inl (.inl (.inl h))
      · exact .inr (.inl h)
      · exact .inr (.inr h)
      · exact .inl (.inr h)
    · simp only [List.length_append, List.length_cons, List.length_nil]
      omega
  | false =>
    rw [cut_app eu (cut_let hc ev)]
    refine ⟨a ++ c :: b, a ++ c :: b, fun q hq => ?_, ?_⟩
    · simp only [List.mem_append, List.mem_cons] at hq ⊢
      rcases hq with h | h | h
      · exact .inl (.inl (.inl h))
      · exact .inr (.inl h)
      · exact .inl (.inr h)
    · simp only [List.length_append, List.length_cons]
      omega
/-- the pieces of a text of rows -/
theorem pieces_textS {rows : List (List Str)} (h : ∀ r ∈ rows, Nms r) : ∀ q ∈ cut p2 (tl (textS rows)), q = [] ∨ q = [45] ∨ ∃ r ∈ rows, ∃ n ∈ r, q = tl n := by
  intro q hq
  rw [← cut_two, ← split_tl tlN (by decide)] at hq
  obtain ⟨l, hl, hq2⟩ := List.mem_flatMap.mp hq
  clear hq
  have hq := hq2
  clear hq2
  obtain ⟨ln, hln, rfl⟩ := List.mem_map.mp hl
  cases rows with
  | nil =>
    have e : Txt.split (textS []) "\n" = [("" : Str)] := by decide +kernel
    rw [e] at hln
    rw [List.mem_singleton.mp hln] at hq
    have e2 : cut (sg 32) (tl ("" : Str)) = [[]] := by decide +kernel
    rw [e2] at hq
    exact .inl (List.mem_singleton.mp hq)
  | cons r0 rs =>
    have hs : Txt.split (textS (r0 :: rs)) "\n" = (r0 :: rs).map lineS := by
      refine TL.split_join tlN (by decide +kernel) (by simp) fun p hp hm => ?_
      obtain ⟨q, hq, rfl⟩ := List.mem_map.mp hp
      have := tl_lineS (h q hq) 10 hm
      omega
    rw [hs] at hln
    obtain ⟨r, hr, rfl⟩ := List.mem_map.mp hln
    have nm := h r hr
    by_cases e : r = []
    · subst e
      have e2 : cut (sg 32) (tl (lineS [])) = [[45]] := by decide +kernel
      rw [e2] at hq
      exact .inr (.inl (List.mem_singleton.mp hq))
    · have e3 : lineS r = Txt.join " " r := if_neg e
      have hsp : Txt.split (Txt.join " " r) " " = r := by
        refine TL.split_join tlB (by decide +kernel) e fun p hp hm => ?_
        have := nm_small (nm p hp) 32 hm
        omega
      rw [← split_tl tlB (by decide), e3, hsp] at hq
      obtain ⟨n, hn, rfl⟩ := List.mem_map.mp hq
      exact .inr (.inr ⟨r, hr, n, hn, rfl⟩)
/-- a name that is read is a piece -/
theorem piece_of {y : Str} {r : List Str} {n : Str} (hr : r ∈ rowsIn y) (hn : n ∈ r) : tl n ∈ cut p2 (tl y) := by
  unfold rowsIn at hr
  by_cases h0 : y = ""
  · rw [if_pos h0] at hr
    exact absurd hr List.not_mem_nil
  · rw [if_neg h0] at hr
    obtain ⟨l, hl, rfl⟩ := List.mem_map.mp hr
    unfold rowOf at hn
    by_cases h1 : l = "-"
    · rw [if_pos h1] at hn
      exact absurd hn List.not_mem_nil
    · rw [if_neg h1] at hn
      rw [← cut_two]
      exact List.mem_flatMap.mpr ⟨tl l, split_mem tlN (by decide) hl, split_mem tlB (by decide) hn⟩
theorem rowsIn_len (y : Str) : (rowsIn y).length ≤ (cut (sg 10) (tl y)).length := by
  unfold rowsIn
  by_cases h0 : y = ""
  · rw [if_pos h0]
    exact Nat.zero_le _
  · rw [if_neg h0, List.length_map, ← split_tl tlN (by decide), List.length_map]
    exact Nat.le_refl _
theorem textS_lines {rows : List (List Str)} (h : ∀ r ∈ rows, Nms r) : (cut (sg 10) (tl (textS rows))).length ≤ rows.length + 1 := by
  rw [← split_tl tlN (by decide), List.length_map]
  cases rows with
  | nil => exact (by decide +kernel : (Txt.split (textS []) "\n").length ≤ 0 + 1)
  | cons r0 rs =>
    have hs : Txt.split (textS (r0 :: rs)) "\n" = (r0 :: rs).map lineS := by
      refine TL.split_join tlN (by decide +kernel) (by simp) fun p hp hm => ?_
      obtain ⟨q, hq, rfl⟩ := List.mem_map.mp hp
      have := tl_lineS (h q hq) 10 hm
      omega
    rw [hs, List.length_map]
    omega
/-- few names more than those of the text -/
theorem names_few {x y : Str} {nm : List Str} {rows : List (List Str)} {ex : List (List Nat)} (hx : x = textS rows) (hn : ∀ r ∈ rows, Nms r ∧ ∀ z ∈ r, z ∈ nm) (hg : ∀ r ∈ rowsIn y, Nms r) (he : ∀ q ∈ cut p2 (tl y), q ∈ cut p2 (tl x) ∨ q ∈ ex) :
    (allN (rowsIn y)).length ≤ nm.length + ex.length := by
  have key : ∀ z ∈ allN (rowsIn y), z ∈ once (nm ++ ex.map fun l => (⟨l.toArray⟩ : Str)) := by
    intro z hz
    obtain ⟨r, hr, hz⟩ := allN_iff.mp hz
    have nz := hg r hr z hz
    rw [once_mem, List.mem_append]
    rcases he _ (piece_of hr hz) with h | h
    · rw [hx] at h
      rcases pieces_textS (fun r hr => (hn r hr).1) _ h with e | e | ⟨r2, hr2, n, hn2, e⟩
      · have := nm_pos nz
        rw [TL.len_tl, e] at this
        exact absurd this (by decide)
      · have := nm_small nz 45 (by rw [e]; exact List.mem_singleton.mpr rfl)
        omega
      · rw [TL.ext_tl e]
        exact .inl ((hn r2 hr2).2 n hn2)
    · exact .inr (List.mem_map.mpr ⟨tl z, h, TL.mk_tl z⟩)
  have h1 := (sublist_of (ris_once _) (ris_allN _) key).length_le
  have h2 := once_len (xs := nm ++ ex.map fun l => (⟨l.toArray⟩ : Str))
  rw [List.length_append, List.length_map] at h2
  omega
end K1
end
section
set_option maxHeartbeats 8000000
namespace K1
open PySem PySem.Spec PyProof.Rows L2 Gr GxR
def topS (i : Nat) : Stmt := PySem.Challenge.pw_meetrows_k11_written_and_read.main.body.getD i (.Pass ⟨0, 0, 0, 0⟩)
abbrev s_wall_x : Stmt := topS 0
abbrev sIsName : Stmt := topS 11
abbrev sRising : Stmt := topS 12
abbrev sWithin : Stmt := topS 13
abbrev sMeets : Stmt := topS 14
abbrev sRanked : Stmt := topS 16
abbrev sLeast : Stmt := topS 17
abbrev sOnce : Stmt := topS 18
abbrev sRank : Stmt := topS 19
abbrev s_names_from : Stmt := topS 21
abbrev s_row_from : Stmt := topS 22
abbrev s_grown : Stmt := topS 24
abbrev m_init : Stmt := inClass (topS 28) 2
abbrev m_put : Stmt := inClass (topS 28) 3
abbrev m_take : Stmt := inClass (topS 28) 4
abbrev m_rows : Stmt := inClass (topS 28) 5
abbrev m_names : Stmt := inClass (topS 28) 6
abbrev m_least : Stmt := inClass (topS 28) 7
abbrev m_meets : Stmt := inClass (topS 28) 9
abbrev m_own : Stmt := inClass (topS 28) 11
abbrev m_least_rows : Stmt := inClass (topS 28) 12
abbrev m_sets : Stmt := inClass (topS 28) 19
abbrev m_met_by : Stmt := inClass (topS 28) 20
abbrev m_meeting : Stmt := inClass (topS 28) 21
abbrev m_first_own : Stmt := inClass (topS 28) 22
abbrev s_text_of : Stmt := topS 31
abbrev s_read_x : Stmt := topS 32
abbrev s_line_of : Stmt := topS 33
abbrev s_rows_in_x : Stmt := topS 34
abbrev sDraw : Stmt := topS 36
abbrev sNames : Stmt := topS 37
abbrev sRow : Stmt := topS 38
abbrev s_law_book : Stmt := topS 39
abbrev s_law_text_x : Stmt := topS 40
abbrev s_law_is_name_x : Stmt := topS 41
abbrev s_law_rows_x : Stmt := topS 42
abbrev s_law_refused_x : Stmt := topS 43
abbrev s_law_spoilt_x : Stmt := topS 44
abbrev s_law_right_x : Stmt := topS 45
abbrev s_law_great_x : Stmt := topS 46
abbrev s_law_x : Stmt := topS 47
end K1
namespace K1
open PySem PySem.Spec PyProof.Rows L2 Gr GxR
section
variable {P : Program} {w : World} {K : PySem.W.Frag} {mg : Str → Option Value} {base : Heap} {f : Addr} {fd : FuncData}
theorem scDraw : FnScope ["_law_script", "_law_k"] ["_law_script", "_law_k"] (defScope sDraw) := ⟨rfl, rfl, rfl, by decide +kernel, rfl, by decide +kernel, by decide +kernel⟩
theorem ok_draw (F : FnP K "_law_draw" sDraw f fd) (gL : mg "len" = none) : FnOk P w K mg base CX0 1 f fd ["_law_script", "_law_k"] (spDraw K) := by
  refine F.ok scDraw (fun vs H Q E h => ?_) (fun cdv A outer s H vs Q E hr h => ?_)
  · obtain ⟨a, ns, k, rfl, _⟩ := h
    rfl
  · obtain ⟨a, ns, k, rfl, hS, q⟩ := h
    refine ⟨_, PSs.nox (pss_one (ps_ret (pe_ifExp (pt_cmpR op_gt (pe_callB call_len_seq (by rfl) gL boot_len (pa_cons (pv 0) pa_nil)) (pv 1) (nomark _)) (pe_ix ix_list (pv 0) (pv 1) (fun _ _ => rfl)) pe_int))), ?_⟩
    refine ⟨_, rfl, a, _, rfl, .inl hS, _, rfl, _, _, rfl, rfl, _, rfl, ?_⟩
    rw [List.length_map]
    by_cases hk : k < ns.length
    · rw [decide_eq_true (show (k : Int) < (ns.length : Int) by omega)]
      refine iteT ⟨_, rfl, _, rfl, a, _, _, _, rfl, rfl, hS, atI_nat (v := .int ns[k]) (by rw [List.getElem?_map, List.getElem?_eq_getElem hk]; rfl), ?_⟩
      have e : ns.getD k 0 = ns[k] := by rw [List.getD_eq_getElem?_getD, List.getElem?_eq_getElem hk]; rfl
      rw [e] at q
      exact q
    · rw [decide_eq_false (show ¬ (k : Int) < (ns.length : Int) by omega)]
      refine iteF ?_
      have e : ns.getD k 0 = 0 := by rw [List.getD_eq_getElem?_getD, List.getElem?_eq_none (by omega)]; rfl
      rw [e] at q
      exact q
theorem scRank : FnScope ["one"] ["one"] (defScope sRank) := ⟨rfl, rfl, rfl, by decide +kernel, rfl, by decide +kernel, by decide +kernel⟩
theorem ok_rank (F : FnP K "_rank" sRank f fd) (gL : mg "len" = none) : FnOk P w K mg base CX0 1 f fd ["one"] (spRank K) := by
  refine F.ok scRank (fun vs H Q E h => ?_) (fun cdv A outer s H vs Q E hr h => ?_)
  · obtain ⟨a, xs, rfl, _⟩ := h
    rfl
  · obtain ⟨a, xs, rfl, hS, q⟩ := h
    refine ⟨_, PSs.nox (pss_one (ps_ret (pe_tup (pa_cons (pe_callB call_len_seq (by rfl) gL boot_len (pa_cons (pv 0) pa_nil)) (pa_cons (pv 0) pa_nil))))), ?_⟩
    refine ⟨_, rfl, a, _, rfl, .inl hS, _, rfl, (by show 2 ≤ sizeLine; decide), fun t ht => ?_⟩
    refine q _ _ (Gr.new ht) ?_
    rw [List.length_map]
    exact .tup (.inl (.inl upd_same)) (.cons (.int _) (.cons (.lst ((Gr.new ht).seq hS) (dp_strs xs)) .nil))
end
end K1
namespace K1
open PySem PySem.Spec PyProof.Rows L2 Gr GxR Srx
section
variable {P : Program} {w : World} {K : PySem.W.Frag} {mg : Str → Option Value} {base : Heap} {f : Addr} {fd : FuncData} {p : He.Defn}
theorem scWithin : FnScope ["one", "other", "name"] ["one", "other"] (defScope sWithin) := ⟨rfl, rfl, rfl, by decide +kernel, rfl, by decide +kernel, by decide +kernel⟩
theorem blkWithin : BlkOk ["one", "other", "name"] (defScope sWithin) (gexp sWithin) [("name", 2)] := blkOk_by (by decide +kernel)
theorem gxsWithin : Gx.GxS (gexp sWithin) := Gx.gxs_by (by decide +kernel)
theorem ok_within (F : FunD K "within" "within" (defArgs sWithin) (defBody sWithin) (defScope sWithin) [] [] (He.fAd K p) fd) (T : Tb K base mg p) (gA : mg "all" = none) : FnOk P w K mg base CX0 1 (He.fAd K p) fd ["one", "other"] (spWithin K (He.cT K p).2) := by
  refine okC F scWithin (fun vs H Q E h => ?_) (fun A outer s H vs Q E hr h => ?_)
  · obtain ⟨a, b, xs, ys, rfl, _⟩ := h
    rfl
  · obtain ⟨a, b, xs, ys, rfl, hA, hB, hT, q⟩ := h
    refine ⟨_, PSs.nox (pss_one (ps_ret (Gx.pe_all (own := [("name", 2)]) (gt := gName 2) (tt := tYes) hr rfl scWithin.nd (by rfl) gA T rfl blkWithin gxsWithin (pi_list (pv 0))
      (fun _ _ _ _ _ _ => pg_name (i := 2) scWithin.nd rfl (.inl rfl)) (fun _ _ _ _ _ _ => pts_nil) (fun _ _ _ _ _ _ => pe_cmpR (r := rIn K false) op_in_seq (pv 2) (pv 1) rfl)))), ?_⟩
    refine ⟨_, rfl, a, rfl, ⟨_, hA⟩, Gx.gx_list (xs := xs.map V.str) hT (fun i H' => Gr H H' ∧ (xs.take i).all ys.contains = true) (fun H2 t2 => ⟨Gr.tabbed hT t2, rfl⟩) (fun i H' _ h => h.1.seq hA) (fun i x H' Nx nx hx h => ?_) (fun H' h => ?_)⟩
    · obtain ⟨g, hn⟩ := h
      obtain ⟨y, hy, rfl⟩ := get_map hx
      refine ⟨rfl, yesIf ?_⟩
      refine ⟨_, rfl, _, rfl, b, _, rfl, .inl (g.seq hB), rfl, flat_str ys, _, rfl, fun e => ?_, fun e => nx _ ⟨g, ?_⟩⟩
      · rw [inV_str] at e
        have z := q H' g
        rw [show xs.all ys.contains = false from List.all_eq_false.mpr ⟨y, List.mem_of_getElem? hy, by rw [show ys.contains y = false from e]; exact Bool.false_ne_true⟩] at z
        exact z
      · rw [inV_str] at e
        rw [all_at hy, hn, show ys.contains y = true by simpa using e]
        rfl
    · have z := q H' h.1
      have hn := h.2
      rw [List.length_map, List.take_length] at hn
      rw [hn] at z
      exact z
theorem scMeets : FnScope ["one", "other", "name"] ["one", "other"] (defScope sMeets) := ⟨rfl, rfl, rfl, by decide +kernel, rfl, by decide +kernel, by decide +kernel⟩
theorem blkMeets : BlkOk ["one", "other", "name"] (defScope sMeets) (gexp sMeets) [("name", 2)] := blkOk_by (by decide +kernel)
theorem gxsMeets : Gx.GxS (gexp sMeets) := Gx.gxs_by (by decide +kernel)
theorem ok_meets (F : FunD K "meets" "meets" (defArgs sMeets) (defBody sMeets) (defScope sMeets) [] [] (He.fAd K p) fd) (T : Tb K base mg p) (gA : mg "any" = none) : FnOk P w K mg base CX0 1 (He.fAd K p) fd ["one", "other"] (spMeets K (He.cT K p).2) := by
  refine okC F scMeets (fun vs H Q E h => ?_) (fun A outer s H vs Q E hr h => ?_)
  · obtain ⟨a, b, xs, ys, rfl, _⟩ := h
    rfl
  · obtain ⟨a, b, xs, ys, rfl, hA, hB, hT, q⟩ := h
    refine ⟨_, PSs.nox (pss_one (ps_ret (Gx.pe_any (own := [("name", 2)]) (gt := gName 2) (tt := tYes) hr rfl scMeets.nd (by rfl) gA T rfl blkMeets gxsMeets (pi_list (pv 0))
      (fun _ _ _ _ _ _ => pg_name (i := 2) scMeets.nd rfl (.inl rfl)) (fun _ _ _ _ _ _ => pts_nil) (fun _ _ _ _ _ _ => pe_cmpR (r := rIn K false) op_in_seq (pv 2) (pv 1) rfl)))), ?_⟩
    refine ⟨_, rfl, a, rfl, ⟨_, hA⟩, Gx.gx_list (xs := xs.map V.str) hT (fun i H' => Gr H H' ∧ (xs.take i).any ys.contains = false) (fun H2 t2 => ⟨Gr.tabbed hT t2, rfl⟩) (fun i H' _ h => h.1.seq hA) (fun i x H' Nx nx hx h => ?_) (fun H' h => ?_)⟩
    · obtain ⟨g, hn⟩ := h
      obtain ⟨y, hy, rfl⟩ := get_map hx
      refine ⟨rfl, yesIf ?_⟩
      refine ⟨_, rfl, _, rfl, b, _, rfl, .inl (g.seq hB), rfl, flat_str ys, _, rfl, fun e => ?_, fun e => nx _ ⟨g, ?_⟩⟩
      · rw [inV_str] at e
        have z := q H' g
        rw [show xs.any ys.contains = true from List.any_eq_true.mpr ⟨y, List.mem_of_getElem? hy, e⟩] at z
        exact z
      · rw [inV_str] at e
        rw [any_at hy, hn, show ys.contains y = false by simpa using e]
        rfl
    · have z := q H' h.1
      have hn := h.2
      rw [List.length_map, List.take_length] at hn
      rw [hn] at z
      exact z
theorem scOnce : FnScope ["names"] ["names"] (defScope sOnce) := ⟨rfl, rfl, rfl, by decide +kernel, rfl, by decide +kernel, by decide +kernel⟩
theorem ok_once (F : FnP K "_once_each" sOnce f fd) (gS : mg "sorted" = none) (gT : mg "set" = none) : FnOk P w K mg base CX0 1 f fd ["names"] (spOnce K) := by
  refine F.ok scOnce (fun vs H Q E h => ?_) (fun cdv A outer s H vs Q E hr h => ?_)
  · obtain ⟨a, xs, rfl, _⟩ := h
    rfl
  · obtain ⟨a, xs, rfl, hA, few, q⟩ := h
    refine ⟨_, PSs.nox (pss_one (ps_ret (pe_callB (Srx.cr_sortedTx rfl (hu64 hr)) (by rfl) gS boot_sorted (pa_cons (pe_callTy (Srx.cr_setTx rfl) (by rfl) gT boot_set (pa_cons (pv 0) pa_nil)) pa_nil)))), ?_⟩
    refine ⟨_, rfl, a, xs, rfl, hA, few, fun b nb => ?_⟩
    refine ⟨b, Sx.dd xs, rfl, upd_same, fun p np => ?_⟩
    have g : Gr H (upd (upd H b (Srx.SetTx w b (Sx.dd xs))) p (.lst ((srt (Sx.dd xs)).map V.str))) := (Gr.new nb).trans (Gr.new np)
    exact q p _ g ((Gr.new nb).free np) upd_same
end
end K1
namespace K1
open PySem PySem.Spec PyProof.Rows L2 Gr GxR Srx
section
variable {P : Program} {w : World} {K : PySem.W.Frag} {mg : Str → Option Value} {base : Heap} {f : Addr} {fd : FuncData} {p : He.Defn}
theorem scIsName : FnScope ["thing", "letter"] ["thing"] (defScope sIsName) := ⟨rfl, rfl, rfl, by decide +kernel, rfl, by decide +kernel, by decide +kernel⟩
theorem blkIsName : BlkOk ["thing", "letter"] (defScope sIsName) (gexp2 sIsName) [("letter", 1)] := blkOk_by (by decide +kernel)
theorem gxsIsName : Gx.GxS (gexp2 sIsName) := Gx.gxs_by (by decide +kernel)
theorem ok_isname (F : FunD K "is_name" "is_name" (defArgs sIsName) (defBody sIsName) (defScope sIsName) [] [] (He.fAd K p) fd) (T : Tb K base mg p) (gA : mg "all" = none) (gI : mg "isinstance" = none) (gS : mg "str" = none) (gL : mg "len" = none) (gM : ∃ t, mg "MOST_LETTERS" = some (.int 8 t)) :
    FnOk P w K mg base CX0 1 (He.fAd K p) fd ["thing"] (spIsName K (He.cT K p).2) := by
  obtain ⟨tM, gM⟩ := gM
  refine okC F scIsName (fun vs H Q E h => ?_) (fun A outer s H vs Q E hr h => ?_)
  · obtain ⟨v, rfl, _⟩ := h
    rfl
  · obtain ⟨v, rfl, hv, hT, q⟩ := h
    refine ⟨_, PSs.nox (pss_cons (ps_if (PW.pt (pw_or (pt_not (pt_val (pe_callB call_isi (by rfl) gI (by decide +kernel) (pa_cons (pv 0) (pa_cons (pe_bltn (v := .ty "str") (by rfl) gS (by decide +kernel) rfl) pa_nil)))))
        (pw_or1 (pt_not (pt_chain op_le op_le pe_int (pe_callB call_len_str (by rfl) gL boot_len (pa_cons (pv 0) pa_nil)) (pe_glob (v := .int 8) (by rfl) gM ⟨_, rfl⟩)))))) (pss_one (ps_ret pe_bl)) pss_nil)
      (pss_one (ps_ret (Gx.pe_all (own := [("letter", 1)]) (gt := gName 1) (tt := tYes) hr rfl scIsName.nd (by rfl) gA T rfl blkIsName gxsIsName (pi_str (pv 0))
      (fun _ _ _ _ _ _ => pg_name (i := 1) scIsName.nd rfl (.inl rfl)) (fun _ _ _ _ _ _ => pts_nil) (fun _ _ _ _ _ _ => pe_chain op_le_str op_le_str pe_str (pv 1) pe_str))))), ?_⟩
    obtain ⟨t, ty, kt, hl⟩ := hv
    refine ⟨v, rfl, _, _, _, _, _, rfl, .ty _, ty, kit_ty kt, _, rfl, ?_⟩
    cases v with
    | str x =>
      refine iteF ?_
      refine ⟨V.str x, rfl, x, rfl, hl x rfl, 1, _, rfl, rfl, _, rfl, ?_⟩
      by_cases h1 : (1 : Int) ≤ x.length
      · rw [decide_eq_true h1]
        refine iteT ⟨_, _, rfl, rfl, ?_⟩
        refine ⟨decide ((x.length : Int) ≤ 8), rfl, ?_⟩
        by_cases h8 : (x.length : Int) ≤ 8
        · rw [decide_eq_true h8]
          refine iteF ?_
          refine ⟨_, rfl, x, rfl, Gx.gx_text hT (fun i H' => Gr H H' ∧ (x.cps.toList.take i).all small = true) (fun H2 t2 => ⟨Gr.tabbed hT t2, rfl⟩) (fun i c H' Nx nx hc h => ?_) (fun H' h => ?_)⟩
          · obtain ⟨g, hn⟩ := h
            refine ⟨rfl, yesIf ?_⟩
            have e1 : (!decide ((⟨#[c]⟩ : Str).cps.toList < (Str.ofString "a").cps.toList)) = decide (97 ≤ c) := by
              show (!decide ([c] < [97])) = _
              rw [decide_eq_decide.mpr (lt_one c 97)]
              by_cases z : 97 ≤ c
              · rw [decide_eq_true z, decide_eq_false (by omega)]; rfl
              · rw [decide_eq_false z, decide_eq_true (by omega)]; rfl
            have e2 : (!decide ((Str.ofString "z").cps.toList < (⟨#[c]⟩ : Str).cps.toList)) = decide (c ≤ 122) := by
              show (!decide ([122] < [c])) = _
              rw [decide_eq_decide.mpr (lt_one 122 c)]
              by_cases z : c ≤ 122
              · rw [decide_eq_true z, decide_eq_false (by omega)]; rfl
              · rw [decide_eq_false z, decide_eq_true (by omega)]; rfl
            have bad : small c = false → Q (.bl false) H' := by
              intro z
              have hq := q H' g
              rw [show nmV (V.str x) = false by
                show isNm x = false
                unfold isNm
                rw [show x.cps.toList.all small = false from List.all_eq_false.mpr ⟨c, List.mem_of_getElem? hc, by rw [z]; exact Bool.false_ne_true⟩]
                simp] at hq
              exact hq
            refine ⟨_, rfl, _, _, rfl, rfl, _, rfl, ?_⟩
            rw [e1]
            by_cases z1 : 97 ≤ c
            · rw [decide_eq_true z1]
              refine iteT ⟨_, _, rfl, rfl, _, rfl, fun e => bad ?_, fun e => nx _ ⟨g, ?_⟩⟩
              · rw [e2] at e
                unfold small
                rw [e, Bool.and_false]
              · rw [e2] at e
                have e : decide (c ≤ 122) = true := by simpa using e
                rw [List.take_add_one, hc, List.all_append, hn]
                show (true && ([c].all small)) = true
                rw [List.all_cons, List.all_nil]
                unfold small
                rw [decide_eq_true z1, e]
                rfl
            · rw [decide_eq_false z1]
              refine iteF ⟨_, rfl, fun _ => bad ?_, fun e => absurd rfl e⟩
              unfold small
              rw [decide_eq_false z1, Bool.false_and]
          · have hq := q H' h.1
            have hn := h.2
            rw [List.take_length] at hn
            rw [show nmV (V.str x) = true by
              show isNm x = true
              unfold isNm
              rw [hn, decide_eq_true (show 1 ≤ x.length by omega), decide_eq_true (show x.length ≤ 8 by omega)]
              rfl] at hq
            exact hq
        · rw [decide_eq_false h8]
          refine iteT ?_
          have hq := q H (Gr.refl H)
          rw [show nmV (V.str x) = false by
            show isNm x = false
            unfold isNm
            rw [decide_eq_false (show ¬ x.length ≤ 8 by omega)]
            simp] at hq
          exact hq
      · rw [decide_eq_false h1]
        refine iteF ⟨false, rfl, ?_⟩
        refine iteT ?_
        have hq := q H (Gr.refl H)
        rw [show nmV (V.str x) = false by
          show isNm x = false
          unfold isNm
          rw [decide_eq_false (show ¬ 1 ≤ x.length by omega)]
          simp] at hq
        exact hq
    | _ => exact q H (Gr.refl H)
end
end K1
namespace K1
open PySem PySem.Spec PyProof.Rows L2 Gr GxR Srx Skx
open PySem.W (dataLe dataLt DatumOrd Datum)
section
variable {P : Program} {w : World} {K : PySem.W.Frag} {mg : Str → Option Value} {base : Heap} {f fR : Addr} {fd fdR : FuncData} {p : He.Defn}
theorem scRanked : FnScope ["sets", "one"] ["sets"] (defScope sRanked) := ⟨rfl, rfl, rfl, by decide +kernel, rfl, by decide +kernel, by decide +kernel⟩
theorem ok_ranked (F : FnP K "ranked" sRanked f fd) (FR : FnP K "_rank" sRank fR fdR) (gR : mg "_rank" = some (.ref fR)) (gS : mg "sorted" = none) (gLi : mg "list" = none) (gL : mg "len" = none) : FnOk P w K mg base CX0 4 f fd ["sets"] (spRanked K) := by
  have GR : FnOk P w K mg base CX0 1 fR fdR ["one"] (spRank K) := ok_rank FR gL
  have bR : Binds K fdR ["one"] [] := FR.bindsN fun _ _ _ _ _ _ us hl => match us, hl with | [_], _ => rfl
  refine F.ok scRanked (fun vs H Q E h => ?_) (fun cdv A outer s H vs Q E hr h => ?_)
  · obtain ⟨a, ps0, rfl, _⟩ := h
    rfl
  · obtain ⟨a, ps0, rfl, hA, hin, few, q⟩ := h
    refine ⟨_, PSs.nox (pss_one (ps_ret (pe_callBK (ks := ["key"]) (cr_sortedKey ordRk GR bR hr) (by rfl) gS boot_sorted
      (pa_cons (pe_lc (own := [("one", 1)]) (g := gName 1) (tt := tYes) rfl scRanked.nd (pi_list (pv 0)) (blkOk_by (N := ["sets", "one"]) (sc := defScope sRanked) (by decide +kernel)) (fun _ _ _ _ _ => pg_name (i := 1) scRanked.nd rfl (.inl rfl)) (fun _ _ _ _ _ => pts_nil)
        (fun _ _ _ _ _ => pe_callTy (r := rListOf K) call_list_of (by rfl) gLi boot_list (pa_cons (pv 1) pa_nil))) pa_nil)
      (pk_cons (pe_glob (v := .ref fR) (by rfl) gR rfl) pk_nil)))), ?_⟩
    refine ⟨_, rfl, a, rfl, ⟨_, hA⟩, fun D hD => lc_fresh (fun x => x) hA few (Gr.refl H) hD (fun v => rfl) (fun q0 hq0 H4 Q' g4 h4 => ?_) fun H2 ps g2 T e => ?_⟩
    · refine ⟨_, rfl, q0.1, q0.2.map V.str, rfl, (hin q0 hq0).gr g4, h4⟩
    · refine ⟨D, ps.map fun q => (V.ref q.1, q.2), rfl, rfl, ?_, fun b hb => ?_, fun H3 r g3 hr3 => ?_⟩
      · rw [List.map_map]
        exact .inl (.inl T.at_)
      · obtain ⟨q0, hq0, rfl⟩ := List.mem_map.mp hb
        intro H3 g3 Q' hQ
        exact ⟨q0.1, q0.2, rfl, .inl (.inl (g3.lst (T.own q0 hq0).2.2)), fun v H' g' d => hQ v H' g' d⟩
      · have eq1 : (ps.map fun q => (V.ref q.1, q.2)).mergeSort (dataLe false fun b => rk b.2) = (ps.mergeSort fun a b => leR a.2 b.2).map fun q => (V.ref q.1, q.2) := by
          rw [List.map_mergeSort]
          intro a _ b _
          rfl
        have eq2 : (ps.mergeSort fun a b => leR a.2 b.2).map (·.2) = rkd (ps.map (·.2)) := by
          unfold rkd
          rw [List.map_mergeSort]
          intro a _ b _
          rfl
        rw [eq1, List.map_map]
        have T3 := T.gr g3
        have pm : (ps.mergeSort fun a b => leR a.2 b.2).Perm ps := List.mergeSort_perm _ _
        refine q r _ (ps.mergeSort fun a b => leR a.2 b.2) (g2.trans g3 |>.mut ?_) ⟨?_, upd_same, fun q0 hq0 => ?_, ?_⟩ ?_
        · exact (g2.trans g3).free hr3
        · exact (g2.trans g3).free hr3
        · obtain ⟨h1, h2, h3⟩ := T3.own q0 (pm.mem_iff.mp hq0)
          have nr : q0.1 ≠ r := ne_of_none h3 hr3
          refine ⟨h1, nr, ?_⟩
          rw [upd_ne nr]
          exact h3
        · exact ((pm.map (·.1)).nodup_iff).mpr T.nd
        · rw [eq2, e]
end
end K1
namespace K1
open PySem PySem.Spec PyProof.Rows L2 Gr GxR Srx Skx Dcx
section
variable {P : Program} {w : World} {K : PySem.W.Frag} {mg : Str → Option Value} {base : Heap} {f fR fO : Addr} {fd fdR fdO fdW : FuncData} {p pW : He.Defn}
abbrev nLeast : List Str := ["sets", "once", "kept", "one", "least"]
theorem scLeast : FnScope nLeast ["sets"] (defScope sLeast) := ⟨rfl, rfl, rfl, by decide +kernel, rfl, by decide +kernel, by decide +kernel⟩
theorem ok_least (F : FunD K "least_of" "least_of" (defArgs sLeast) (defBody sLeast) (defScope sLeast) [] [] (He.fAd K p) fd) (T : Tb K base mg p) (GR : FnOk P w K mg base CX0 4 fR fdR ["sets"] (spRanked K)) (bR : Binds K fdR ["sets"] []) (kR : PySem.W.keepIn K (.ref fR) = true) (gR : mg "ranked" = some (.ref fR))
    (GO : FnOk P w K mg base CX0 1 fO fdO ["names"] (spOnce K)) (bO : Binds K fdO ["names"] []) (kO : PySem.W.keepIn K (.ref fO) = true) (gO : mg "_once_each" = some (.ref fO))
    (GW : FnOk P w K mg base CX0 1 (He.fAd K pW) fdW ["one", "other"] (spWithin K (He.cT K pW).2)) (bW : Binds K fdW ["one", "other"] []) (kW : PySem.W.keepIn K (.ref (He.fAd K pW)) = true) (gW : mg "within" = some (.ref (He.fAd K pW)))
    (gA : mg "any" = none) (gT : mg "tuple" = none) (gLi : mg "list" = none) : FnOk P w K mg base CX0 5 (He.fAd K p) fd ["sets"] (spLeast K (He.cT K p).2 (He.cT K pW).2) := by
  refine okC F scLeast (fun vs H Q E h => ?_) (fun A outer s H vs Q E hr h => ?_)
  · obtain ⟨a, ps0, rfl, _⟩ := h
    rfl
  · obtain ⟨a, ps0, rfl, hA, hin, few, hT, hT2, q⟩ := h
    refine ⟨_, PSs.nox (pss_cons (ps_setDt (i := 1) (own := [("one", 3)]) (g := gName 3) (tt := tYes) (hu_of hr) rfl scLeast.nd rfl rfl (swd_true rfl rfl rfl (by decide +kernel)) (pi_list (pv 0)) (blkOk_by (N := nLeast) (sc := defScope sLeast) (by decide +kernel))
        (fun _ _ _ _ _ => pg_name (i := 3) scLeast.nd rfl (.inl rfl)) (fun _ _ _ _ _ => pts_nil)
        (fun _ _ _ _ _ => pe_callTy (r := rTupOf K) call_tuple_of (by rfl) gT boot_tuple (pa_cons (pe_call GO (hr.mono (by decide)) (by rfl) gO kO bO .nil pass0 (pa_cons (pv 3) pa_nil)) pa_nil)) (fun _ _ _ _ _ => pe_bl))
      (pss_cons (ps_set (i := 2) scLeast.nd rfl (.inl rfl) (pe_lst pa_nil))
      (pss_cons (ps_for PassesOwn.never rfl (pi_list (pe_call GR hr (by rfl) gR kR bR .nil pass0 (pa_cons (pe_callTy (call_list_dT rfl) (by rfl) gLi boot_list (pa_cons (pv 1) pa_nil)) pa_nil))) (pg_name (i := 3) scLeast.nd rfl (.inr rfl))
        (pss_one (ps_if (pt_not (pt_val (Gx.pe_any (own := [("least", 4)]) (gt := gName 4) (tt := tYes) hr rfl scLeast.nd (by rfl) gA T rfl (blkOk_by (N := nLeast) (sc := defScope sLeast) (by decide +kernel)) (Gx.gxs_by (by decide +kernel)) (pi_list (pv 2))
            (fun _ _ _ _ _ _ => pg_name (i := 4) scLeast.nd rfl (.inl rfl)) (fun _ _ _ _ _ _ => pts_nil) (fun _ _ _ _ _ _ => pe_call GW ((Gx.room_gx hr _).mono (by decide)) (by rfl) gW kW bW .nil pass0 (pa_cons (pv 4) (pa_cons (pv 3) pa_nil))))))
          (pss_one (ps_expr (pe_bm PySem.F.plainAttrs_list PySem.F.slot_list_append PySem.F.type_list_append mt_append (pv 2) (pa_cons (pv 3) pa_nil)))) pss_nil)))
      (pss_one (ps_ret (pv 2)))))), ?_⟩
    refine ⟨_, rfl, a, rfl, ⟨_, hA⟩, fun D hD => dt_list (K := K) (xs := ps0.map fun q : Addr × List Str => V.ref q.1) (fun i H2 => Gr H H2 ∧ H2 D = some (.dT (kvT (ddG (((ps0.take i).map (·.2)).map once))))) ⟨Gr.new hD, upd_same⟩ (fun i H2 _ h => h.1.seq hA) (fun i x H2 Nx nx hx h => ?_) (fun H2 h => ?_)⟩
    · obtain ⟨g2, eD⟩ := h
      obtain ⟨q0, hq0, rfl⟩ := get_map hx
      obtain ⟨hl, hz⟩ := hin q0 (List.mem_of_getElem? hq0)
      refine ⟨rfl, yesIf ?_⟩
      refine ⟨_, rfl, q0.1, q0.2, rfl, g2.seq hl, hz, fun o H3 g3 no eo => ?_⟩
      refine ⟨o, (once q0.2).map V.str, rfl, .inl ⟨.inl (.inl eo), fun t ht => ?_⟩⟩
      have eD3 : H3 D = some (.dT (kvT (ddG (((ps0.take i).map (·.2)).map once)))) := g3.at_ _ _ eD (fun _ z => nomatch z)
      refine ⟨kvT (ddG (((ps0.take i).map (·.2)).map once)), (once q0.2).map Sum.inr, t, rfl, ?_, ?_, ?_, nx _ ⟨?_, ?_⟩⟩
      · rw [upd_same, kV_inr]
      · rw [upd_ne (ne_of_none eD3 ht)]
        exact eD3
      · unfold kvT
        rw [List.length_map]
        have h1 := ddG_len (((ps0.take i).map (·.2)).map once)
        rw [List.length_map, List.length_map, List.length_take] at h1
        have := small60 (n := 60000) (by omega)
        omega
      · exact ((g2.trans g3).trans (Gr.new ht)).mut hD
      · rw [upd_same, put_once, take_map hq0, List.map_append]
        rw [show (List.map once ((ps0.take i).map (·.2)) ++ List.map once [q0.2]) = (((ps0.take i).map (·.2)).map once) ++ [once q0.2] from rfl, ddG_snoc]
    · obtain ⟨g2, eD⟩ := h
      rw [List.length_map, List.take_length] at eD
      -- kept = []
      refine ⟨Nat.zero_le _, fun Kp nK => ?_⟩
      have nKH : H Kp = none := g2.free nK
      have g3 : Gr H (upd H2 Kp (.lst [])) := g2.mut nKH
      have eK : (upd H2 Kp (.lst [])) Kp = some (.lst []) := upd_same
      have eD3 : (upd H2 Kp (.lst [])) D = some (.dT (kvT (ddG ((ps0.map (·.2)).map once)))) := by
        rw [upd_ne (ne_of_none eD nK)]
        exact eD
      generalize upd H2 Kp (.lst []) = H3 at g3 eK eD3
      refine ⟨_, rfl, D, _, rfl, .inl eD3, fun l bs nl hk => ?_⟩
      obtain ⟨ps1, e1, e2, e3⟩ := keys_ps hk
      have g4 : Gr H3 (upd H3 l (.lst (bs.map V.ref))) := Gr.new nl
      rw [e1] at g4 ⊢
      have hlen1 : ps1.length ≤ 60000 := by
        have h1 := ddG_len ((ps0.map (·.2)).map once)
        rw [← e2, List.length_map, List.length_map, List.length_map] at h1
        omega
      refine ⟨l, ps1, rfl, .inl (.inl upd_same), fun q0 hq0 => .inr (.inl (.inl (g4.tup (e3 q0 hq0)))), small60 hlen1, fun r H5 ps g5 T5 e5 => ?_⟩
      have g35 : Gr H3 H5 := g4.trans g5
      have T5 : Told H3 H5 r ps := T5.from g4
      have hplen : ps.length ≤ 60000 := by
        have h1 : (ps.map (·.2)).length = (rkd (ps1.map (·.2))).length := congrArg List.length e5
        rw [List.length_map, (rkd_perm _).length_eq, List.length_map] at h1
        omega
      refine ⟨r, rfl, ⟨_, .inl (.inl T5.at_)⟩, for_list (xs := ps.map fun q : Addr × List Str => V.ref q.1) (fun i σ H6 => Gr H H6 ∧ H6 r = some (.lst (ps.map fun q => V.ref q.1)) ∧ (∀ q ∈ ps, H6 q.1 = some (.lst (q.2.map V.str))) ∧ (∃ kps, H6 Kp = some (.lst (kps.map fun q => V.ref q.1)) ∧ List.Sublist kps (ps.take i) ∧ kps.map (·.2) = ((ps.take i).map (·.2)).foldl keep []) ∧
        ∃ v1 v2, σ = [some (.ref a), some (.ref D), some (.ref Kp), v1, v2]) ⟨g3.trans g35, T5.at_, fun q hq => (T5.own q hq).2.2, ⟨[], g35.lst eK, List.Sublist.refl _, rfl⟩, _, _, rfl⟩ (fun i σ H6 _ h => .inl (.inl h.2.1)) (fun i x σ H6 hx h => ?_) (fun σ H6 h => ?_)⟩
      · obtain ⟨g6, er, eo, ⟨kps, ek, sub, em⟩, v1, v2, rfl⟩ := h
        obtain ⟨q0, hq0, rfl⟩ := get_map hx
        have m0 := List.mem_of_getElem? hq0
        have nr : Kp ≠ r := ne_of_none eK T5.new
        have nq : ∀ q ∈ ps, Kp ≠ q.1 := fun q hq => ne_of_none eK (T5.own q hq).1
        have subps : ∀ q ∈ kps, q ∈ ps := fun q hq => List.mem_of_mem_take (sub.subset hq)
        have any_at2 : ∀ {j : Nat} {y : Addr × List Str} , kps[j]? = some y → (kps.take (j + 1)).any (fun q => wi q.2 q0.2) = ((kps.take j).any (fun q => wi q.2 q0.2) || wi y.2 q0.2) := by
          intro j y hy
          rw [List.take_add_one, hy, List.any_append]
          simp
        have anyeq : (kps.map (·.2)).any (fun l => wi l q0.2) = kps.any (fun q => wi q.2 q0.2) := by
          rw [List.any_map]
          rfl
        have fin : ∀ (b : Bool) (H7 : Hp), Gr H6 H7 → kps.any (fun q => wi q.2 q0.2) = b → True := fun _ _ _ _ => trivial
        refine ⟨_, rfl, Kp, rfl, ⟨_, .inl (.inl ek)⟩, Gx.gx_list (K := K) (xs := kps.map fun q : Addr × List Str => V.ref q.1) (g6.tabG hT) (fun j H7 => Gr H6 H7 ∧ (kps.take j).any (fun q => wi q.2 q0.2) = false) (fun H7 t7 => ⟨Gr.tabbed (g6.tabG hT) t7, rfl⟩) (fun j H7 _ h => .inl (.inl (h.1.lst ek))) (fun j x H7 Nx nx hx h => ?_) (fun H7 h => ?_)⟩
        · obtain ⟨g7, hn⟩ := h
          obtain ⟨k0, hk0, rfl⟩ := get_map hx
          have mk := subps k0 (List.mem_of_getElem? hk0)
          refine ⟨rfl, yesIf ?_⟩
          refine ⟨_, rfl, _, rfl, k0.1, q0.1, k0.2, q0.2, rfl, .inl (.inl (g7.lst (eo k0 mk))), .inl (.inl (g7.lst (eo q0 m0))), (g6.trans g7).tabG hT2, fun H8 g8 => ⟨_, rfl, fun e => ?_, fun e => nx _ ⟨g7.trans g8, ?_⟩⟩⟩
          · -- left out
            have e : wi k0.2 q0.2 = true := e
            have g68 := g7.trans g8
            refine ⟨true, rfl, ?_⟩
            refine iteF ⟨g6.trans g68, g68.lst er, fun q hq => g68.lst (eo q hq), ⟨kps, g68.lst ek, sub.trans (List.take_sublist_take_left (Nat.le_succ _)), ?_⟩, _, _, rfl⟩
            rw [take_map hq0, List.foldl_append, ← em]
            refine (if_pos ?_).symm
            rw [anyeq]
            exact List.any_eq_true.mpr ⟨k0, List.mem_of_getElem? hk0, e⟩
          · rw [any_at2 hk0, hn]
            show wi k0.2 q0.2 = false
            exact Bool.eq_false_iff.mpr e
        · -- put
          obtain ⟨g7, hn⟩ := h
          rw [List.length_map, List.take_length] at hn
          have ek7 := g7.lst ek
          refine ⟨false, rfl, ?_⟩
          refine iteT ⟨_, rfl, .inl ⟨rfl, _, .inl (.inl ek7)⟩, _, rfl, Kp, _, _, rfl, rfl, ek7, ?_, ?_⟩
          · rw [List.length_map]
            have h1 := sub.length_le
            have h2 := List.length_take_le i ps
            rw [List.length_take] at h1
            exact Nat.lt_of_le_of_lt h1 (small60 (by omega))
          · refine ⟨(g6.trans g7).mut nKH, ?_, fun q hq => ?_, ⟨kps ++ [q0], ?_, ?_, ?_⟩, _, _, rfl⟩
            · rw [upd_ne nr.symm]
              exact g7.lst er
            · rw [upd_ne (nq q hq).symm]
              exact g7.lst (eo q hq)
            · rw [upd_same, List.map_append]
              rfl
            · rw [List.take_add_one, hq0]
              exact sub.append (List.Sublist.refl _)
            · rw [take_map hq0, List.foldl_append, List.map_append, ← em]
              refine (if_neg ?_).symm
              rw [anyeq, hn]
              exact Bool.false_ne_true
      · obtain ⟨g6, er, eo, ⟨kps, ek, sub, em⟩, v1, v2, rfl⟩ := h
        rw [List.length_map, List.take_length] at sub em
        refine ⟨_, rfl, q Kp H6 kps g6 ⟨nKH, ek, fun q0 hq0 => ?_, ?_⟩ ?_⟩
        · have m0 := sub.subset hq0
          exact ⟨g3.free (T5.own q0 m0).1, (ne_of_none eK (T5.own q0 m0).1).symm, eo q0 m0⟩
        · exact T5.nd.sublist (sub.map _)
        · rw [em, e5, e2]
          rfl
end
end K1
namespace K1
open PySem PySem.Spec PyProof.Rows L2 Gr GxR Srx Skx Dcx
section
variable {P : Program} {w : World} {K : PySem.W.Frag} {mg : Str → Option Value} {base : Heap} {f fO C : Addr} {fd fdO fdI : FuncData} {p pI : He.Defn}
theorem scRising : FnScope ["names", "at", "thing"] ["names"] (defScope sRising) := ⟨rfl, rfl, rfl, by decide +kernel, rfl, by decide +kernel, by decide +kernel⟩
theorem ok_rising (F : FnP K "rising" sRising f fd) (GI : FnOk P w K mg base CX0 1 (He.fAd K pI) fdI ["thing"] (spIsName K (He.cT K pI).2)) (bI : Binds K fdI ["thing"] []) (kI : PySem.W.keepIn K (.ref (He.fAd K pI)) = true) (gI : mg "is_name" = some (.ref (He.fAd K pI)))
    (GO : FnOk P w K mg base CX0 1 fO fdO ["names"] (spOnce K)) (bO : Binds K fdO ["names"] []) (kO : PySem.W.keepIn K (.ref fO) = true) (gO : mg "_once_each" = some (.ref fO)) (EC : ErrC K mg "BadName" C) (gE : mg "enumerate" = none) (gM : ∃ t, mg "MOST_LETTERS" = some (.int 8 t)) :
    FnOk P w K mg base (L2.CX P w) 2 f fd ["names"] (spRising K (He.cT K pI).2 C) := by
  obtain ⟨tM, gM⟩ := gM
  refine F.ok scRising (fun vs H Q E h => ?_) (fun cdv A outer s H vs Q E hr h => ?_)
  · obtain ⟨a, vls, rfl, _⟩ := h
    rfl
  · obtain ⟨a, vls, rfl, hA, hth, few, hT, hq⟩ := h
    refine ⟨_, pss_cons (ps_for (passes_of rfl) rfl (pi_enum (by rfl) gE (pa_cons (pv 0) pa_nil)) (pg_tup rfl (pgs_cons (pg_name (i := 1) scRising.nd rfl (.inl rfl)) (pgs_cons (pg_name (i := 2) scRising.nd rfl (.inl rfl)) pgs_nil)))
        (pss_one (ps_if (pt_not (pt_val (pe_call GI (hr.mono (by decide)) (by rfl) gI kI bI .nil pass0 (pa_cons (pv 2) pa_nil))))
          (pss_one (ps_raise rfl (takes_of rfl rfl rfl rfl) (SkE.pmk_own1 PySem.F.excBase_ValueError EC.xC EC.gC EC.kC (raises_own EC.bC EC.tC) (by rfl) (pe_joined (.cons pe_str (.cons (pe_fmt (pv 1)) (.cons pe_str (.cons (pe_fmt (pe_glob (v := .int 8) (by rfl) gM ⟨_, rfl⟩)) (.cons pe_str .nil))))))))) pss_nil)))
      (pss_one (ps_ret (pe_call GO (hr.mono (by decide)) (by rfl) gO kO bO .nil pass0 (pa_cons (pv 0) pa_nil)))), ?_⟩
    refine ⟨_, rfl, a, vls, rfl, hA, for_enum (xs := vls) (fun i σ H2 => Gr H H2 ∧ (∀ v ∈ vls.take i, nmV v = true) ∧ ∃ v1 v2, σ = [some (.ref a), v1, v2]) ⟨Gr.refl H, fun _ z => absurd z List.not_mem_nil, _, _, rfl⟩ (fun i σ H2 _ h => h.1.seq hA) (fun i x T σ H2 hx h nT => ?_) (fun σ H2 h => ?_)⟩
    · obtain ⟨g2, ok, v1, v2, rfl⟩ := h
      have mx := List.mem_of_getElem? hx
      have hi : i < vls.length := (List.getElem?_eq_some_iff.mp hx).1
      have g3 : Gr H (upd H2 T (.tup [.int (i : Nat), x])) := g2.trans (Gr.new nT)
      refine ⟨T, _, rfl, .inl (.inl upd_same), rfl, _, _, rfl, _, _, rfl, rfl, ?_⟩
      refine ⟨x, rfl, x, rfl, (hth x mx).gr g3, g3.tabG hT, fun H4 g4 => ⟨_, rfl, ?_⟩⟩
      cases e : nmV x with
      | true =>
        refine iteF ⟨g3.trans g4, fun v hv => ?_, _, _, rfl⟩
        rw [List.take_add_one, hx] at hv
        rcases List.mem_append.mp hv with hv | hv
        · exact ok v hv
        · have hv : v = x := by simpa using hv
          rw [hv]; exact e
      | false =>
        refine iteT ?_
        rcases hq with ⟨xs, rfl, all, _⟩ | ⟨_, hE⟩
        · obtain ⟨y, hy, rfl⟩ := get_map hx
          have z := List.all_eq_true.mp all y (List.mem_of_getElem? hy)
          rw [show isNm y = false from e] at z
          cases z
        · have hk : ((Str.ofString (toString ((i : Nat) : Int)))).length ≤ 10 := PySem.W.KT.len_num (by omega) (by omega)
          have hb : (Str.ofString (toString (8 : Int))).length ≤ 10 := PySem.W.KT.len_num (by omega) (by omega)
          have l1 : (Str.empty ++ (Str.ofString "item ")).length ≤ 10 := by decide +kernel
          have l2 := PySem.W.KT.len_app l1 hk
          have l3 := PySem.W.KT.len_app l2 (show (Str.ofString " of the list is not a text of 1 to ").length ≤ 50 by decide +kernel)
          have l4 := PySem.W.KT.len_app l3 hb
          have l5 := PySem.W.KT.len_app l4 (show (Str.ofString " small letters").length ≤ 50 by decide +kernel)
          have big : ∀ n : Nat, n ≤ 200 → n ≤ sizeLine := fun n hn => by rw [sizeLine_eq]; omega
          refine ⟨_, rfl, big _ (by omega), _, rfl, .inr ⟨_, rfl, ?_, _, rfl, big _ (by omega), _, rfl, big _ (by omega), .inr ⟨_, rfl, ?_, _, rfl, big _ (by omega), _, rfl, big _ (by omega), hE _ (g3.trans g4)⟩⟩⟩
          · show ((i : Nat) : Int).natAbs.log2 < 1920
            rw [Int.natAbs_natCast]
            exact Nat.lt_of_le_of_lt (Nat.log2_le_self i) (by omega)
          · decide
    · obtain ⟨g2, ok, v1, v2, rfl⟩ := h
      rw [List.take_length] at ok
      rcases hq with ⟨xs, rfl, all, q⟩ | ⟨⟨v, hv, e⟩, _⟩
      · refine ⟨_, rfl, a, xs, rfl, g2.seq hA, by rw [List.length_map] at few; exact few, fun p H4 g4 np ep => q p H4 (g2.trans g4) (g2.free np) ep⟩
      · rw [ok v hv] at e
        cases e
end
end K1
namespace K1
open PySem PySem.Spec PyProof.Rows L2 Gr GxR Srx Skx Dcx
section
variable {P : Program} {w : World} {K : PySem.W.Frag} {mg : Str → Option Value} {base : Heap} {f : Addr} {fd : FuncData} {p : He.Defn} {T : Addr}
abbrev nRow : List Str := ["_law_names_here", "_law_cell", "_law_found", "_law_bits", "_law_name"]
theorem scRow : FnScope nRow ["_law_names_here", "_law_cell"] (defScope sRow) := ⟨rfl, rfl, rfl, by decide +kernel, rfl, by decide +kernel, by decide +kernel⟩
theorem ok_row (F : FnP K "_law_row" sRow f fd) (gL : mg "len" = none) : FnOk P w K mg base CX0 1 f fd ["_law_names_here", "_law_cell"] (spRow K) := by
  refine F.ok scRow (fun vs H Q E h => ?_) (fun cdv A outer s H vs Q E hr h => ?_)
  · obtain ⟨a, c, ns, rfl, _⟩ := h
    rfl
  · obtain ⟨a, c, ns, rfl, hA, ne, nd, nm, few, q⟩ := h
    refine ⟨_, PSs.nox (pss_cons (ps_set (i := 2) scRow.nd rfl (.inl rfl) (pe_lst pa_nil))
      (pss_cons (ps_set (i := 3) scRow.nd rfl (.inl rfl) (pe_op op_fdiv (pv 1) pe_int))
      (pss_cons (ps_for PassesOwn.never rfl (pi_list (pv 0)) (pg_name (i := 4) scRow.nd rfl (.inl rfl))
        (pss_cons (ps_if (pt_cmpR op_eq (pe_op op_mod (pv 3) pe_int) pe_int (nomark _)) (pss_one (ps_expr (pe_bm PySem.F.plainAttrs_list PySem.F.slot_list_append PySem.F.type_list_append mt_append (pv 2) (pa_cons (pv 4) pa_nil)))) pss_nil)
        (pss_one (ps_set (i := 3) scRow.nd rfl (.inl rfl) (pe_op op_fdiv (pv 3) pe_int)))))
      (pss_cons (ps_if (PW.pt (pw_and (pt_cmpR (op_eqD (hu64 hr)) (pv 2) (pe_lst pa_nil) (nomark _)) (pw_and1 (pt_cmpR op_gt (pe_op op_mod (pv 1) pe_int) pe_int (nomark _)))))
        (pss_one (ps_set (i := 2) scRow.nd rfl (.inl rfl) (pe_lst (pa_cons (pe_ix ix_list (pv 0) (pe_op op_mod (pv 1) (pe_callB call_len_seq (by rfl) gL boot_len (pa_cons (pv 0) pa_nil))) (fun _ _ => rfl)) pa_nil)))) pss_nil)
      (pss_one (ps_ret (pe_ifExp (pt_cmpR op_eq (pe_op op_mod (pv 1) pe_int) pe_int (nomark _)) (pe_revL (pv 2)) (pv 2)))))))), ?_⟩
    refine ⟨Nat.zero_le _, fun Fp nF => ?_⟩
    refine ⟨_, rfl, _, _, rfl, rfl, ⟨by decide, by decide⟩, ?_⟩
    have g0 : Gr H (upd H Fp (.lst [])) := Gr.new nF
    refine ⟨_, rfl, a, rfl, ⟨_, g0.seq hA⟩, for_list (K := K) (xs := ns.map V.str) (fun i σ H2 => ∃ (ys : List Str) (b : Int) (v : Option V), Gr H H2 ∧ H2 Fp = some (.lst (ys.map V.str)) ∧ List.Sublist ys (ns.take i) ∧ σ = [some (.ref a), some (.int c), some (.ref Fp), some (.int b), v]) ⟨[], _, _, g0, upd_same, List.Sublist.refl _, rfl⟩ (fun i σ H2 _ h => ?_) (fun i x σ H2 hx h => ?_) (fun σ H2 h => ?_)⟩
    · obtain ⟨ys, b, v, g, _⟩ := h
      exact g.seq hA
    · obtain ⟨ys, b, v, g, e, sub, rfl⟩ := h
      obtain ⟨x, hx2, rfl⟩ := get_map hx
      refine ⟨_, rfl, _, _, rfl, rfl, (by show (0 : Int) < 2; decide), rfl, _, rfl, ite2 (fun _ => ?_) (fun _ => ?_)⟩
      · refine ⟨_, rfl, .inl ⟨rfl, _, .inl (.inl e)⟩, _, rfl, Fp, _, _, rfl, rfl, e, ?_, ?_⟩
        · rw [List.length_map]
          have h1 := sub.length_le
          rw [List.length_take] at h1
          exact Nat.lt_of_le_of_lt h1 (small1000 (by omega))
        · refine ⟨_, rfl, _, _, rfl, rfl, ⟨by decide, by decide⟩, ys ++ [x], _, _, g.mut nF, ?_, ?_, rfl⟩
          · rw [upd_same, List.map_append]
            rfl
          · rw [List.take_add_one, hx2]
            exact sub.append (List.Sublist.refl _)
      · exact ⟨_, rfl, _, _, rfl, rfl, ⟨by decide, by decide⟩, ys, _, _, g, e, sub.trans (List.take_sublist_take_left (Nat.le_succ _)), rfl⟩
    · obtain ⟨ys, b, v, g, e, sub, rfl⟩ := h
      rw [List.length_map, List.take_length] at sub
      have nd1 : ys.Nodup := nd.sublist sub
      have mem1 : ∀ y ∈ ys, y ∈ ns := fun y hy => sub.subset hy
      have ln1 : ys.length ≤ ns.length := sub.length_le
      refine ⟨_, rfl, Nat.zero_le _, fun e1 ne1 => ?_⟩
      have g1 : Gr H (upd H2 e1 (.lst [])) := g.trans (Gr.new ne1)
      have e0 : (upd H2 e1 (.lst [])) Fp = some (.lst (ys.map V.str)) := (Gr.new ne1).lst e
      refine ⟨dS ys, dS [], dp_dS (.inl (.inl e0)), dp_dS (.inl (.inl upd_same)), shaped_dS (fun x hx => nm x (mem1 x hx)), shaped_dS (fun _ z => absurd z List.not_mem_nil), _, rfl, ?_⟩
      · generalize PyData.eqv (dS ys) (dS []) = b1
        generalize upd H2 e1 (.lst []) = H3 at g1 e0
        have e1 := e0
        cases b1 with
        | false =>
          refine iteF ?_
          refine ⟨_, rfl, _, _, rfl, rfl, (by show (0 : Int) < 2; decide), rfl, _, rfl, ite2 (fun _ => ⟨_, rfl, _, _, rfl, .inl (.inl e1), fun r nr => q r _ (ys).reverse (g1.trans (Gr.new nr)) (g1.free nr) (by rw [upd_same, ← List.map_reverse]) ((List.reverse_perm _).nodup_iff.mpr nd1) (fun y hy => mem1 y (List.mem_reverse.mp hy)) (by rw [List.length_reverse]; exact ln1)⟩) (fun _ => ⟨_, rfl, q _ _ (ys) g1 nF e1 nd1 mem1 ln1⟩)⟩
        | true =>
          refine iteT ⟨_, rfl, _, _, rfl, rfl, (by show (0 : Int) < 4; decide), _, _, rfl, rfl, _, rfl, ?_⟩
          refine ite2 (fun _ => ?_) (fun _ => ?_)
          · have hlen : 0 < ns.length := List.length_pos_iff.mpr ne
            obtain ⟨v, hv, mv⟩ := atI_mod (xs := ns.map V.str) (c := c) (n := ns.length) (List.length_map ..) hlen
            obtain ⟨x, mx, rfl⟩ := List.mem_map.mp mv
            refine ⟨_, rfl, _, rfl, _, rfl, a, _, rfl, .inl (g1.seq hA), _, _, rfl, rfl, ?_, a, _, _, V.str x, rfl, rfl, g1.seq hA, ?_, (show 1 ≤ sizeLine by rw [sizeLine_eq]; omega), fun l nl => ?_⟩
            · show (0 : Int) < _
              rw [List.length_map]
              omega
            · rw [List.length_map]
              exact hv
            · have g2 : Gr H (upd H3 l (.lst [V.str x])) := g1.trans (Gr.new nl)
              have nl2 := g1.free nl
              have upd_same2 : (upd H3 l (.lst [V.str x])) l = some (.lst ([x].map V.str)) := upd_same
              have nd2 : [x].Nodup := by simp
              have mem2 : ∀ y ∈ [x], y ∈ ns := fun y hy => by
                have hy : y = x := by simpa using hy
                rw [hy]; exact mx
              have ln2 : [x].length ≤ ns.length := hlen
              refine ⟨_, rfl, _, _, rfl, rfl, (by show (0 : Int) < 2; decide), rfl, _, rfl, ite2 (fun _ => ⟨_, rfl, _, _, rfl, .inl (.inl upd_same2), fun r nr => q r _ ([x]).reverse (g2.trans (Gr.new nr)) (g2.free nr) (by rw [upd_same, ← List.map_reverse]) ((List.reverse_perm _).nodup_iff.mpr nd2) (fun y hy => mem2 y (List.mem_reverse.mp hy)) (by rw [List.length_reverse]; exact ln2)⟩) (fun _ => ⟨_, rfl, q _ _ ([x]) g2 nl2 upd_same2 nd2 mem2 ln2⟩)⟩
          · refine ⟨_, rfl, _, _, rfl, rfl, (by show (0 : Int) < 2; decide), rfl, _, rfl, ite2 (fun _ => ⟨_, rfl, _, _, rfl, .inl (.inl e1), fun r nr => q r _ (ys).reverse (g1.trans (Gr.new nr)) (g1.free nr) (by rw [upd_same, ← List.map_reverse]) ((List.reverse_perm _).nodup_iff.mpr nd1) (fun y hy => mem1 y (List.mem_reverse.mp hy)) (by rw [List.length_reverse]; exact ln1)⟩) (fun _ => ⟨_, rfl, q _ _ (ys) g1 nF e1 nd1 mem1 ln1⟩)⟩
end
end K1
namespace K1
open PySem PySem.Spec PyProof.Rows L2 Gr GxR Srx Skx Dcx
section
variable {P : Program} {w : World} {K : PySem.W.Frag} {mg : Str → Option Value} {base : Heap} {f fD : Addr} {fd fdD : FuncData} {p : He.Defn} {T T2 : Addr}
abbrev nNames : List Str := ["_law_script", "_law_letters", "_law_cell", "_law_many", "_law_turned", "_law_size", "_law_base", "_law_at", "_law_k", "_law_j"]
theorem scNames : FnScope nNames ["_law_script"] (defScope sNames) := ⟨rfl, rfl, rfl, by decide +kernel, rfl, by decide +kernel, by decide +kernel⟩
theorem ok_names (F : FnP K "_law_names" sNames f fd) (GD : FnOk P w K mg base CX0 1 fD fdD ["_law_script", "_law_k"] (spDraw K)) (bD : Binds K fdD ["_law_script", "_law_k"] []) (kD : PySem.W.keepIn K (.ref fD) = true) (gD : mg "_law_draw" = some (.ref fD)) (gR : mg "range" = none) :
    FnOk P w K mg base CX0 2 f fd ["_law_script"] (spNames K) := by
  refine F.ok scNames (fun vs H Q E h => ?_) (fun cdv A outer s H vs Q E hr h => ?_)
  · obtain ⟨a, ns, rfl, _⟩ := h
    rfl
  · obtain ⟨a, ns, rfl, hS, q⟩ := h
    refine ⟨_, PSs.nox (pss_cons (ps_set (i := 1) scNames.nd rfl (.inr rfl) pe_str)
      (pss_cons (ps_set (i := 2) scNames.nd rfl (.inr rfl) (pe_call GD hr (by rfl) gD kD bD .nil pass0 (pa_cons (pv 0) (pa_cons pe_int pa_nil))))
      (pss_cons (ps_set (i := 3) scNames.nd rfl (.inl rfl) (pe_op op_add pe_int (pe_op op_mod (pv 2) pe_int)))
      (pss_cons (ps_if (pt_cmpR op_eq (pe_op op_mod (pe_op op_fdiv (pv 2) pe_int) pe_int) pe_int (nomark _))
        (pss_one (ps_ret (pe_lc (own := [("_law_k", 8)]) (g := gName 8) (tt := tYes) rfl scNames.nd (pi_range1 (by rfl) gR (pa_cons (pv 3) pa_nil)) (blkOk_by (N := nNames) (sc := defScope sNames) (by decide +kernel)) (fun _ _ _ _ _ => pg_name (i := 8) scNames.nd rfl (.inl rfl)) (fun _ _ _ _ _ => pts_nil)
          (fun _ _ _ _ _ => pe_slice C8.sl_txt (pe_slice C8.sl_txt (pv 1) (po_some (pe_op op_mod (pe_op op_fdiv (pv 2) pe_int) pe_int)) po_none) po_none (po_some (pe_op op_add (pv 8) pe_int)))))) pss_nil)
      (pss_cons (ps_if (pt_cmpR op_eq (pe_op op_mod (pe_op op_fdiv (pv 2) pe_int) pe_int) pe_int (nomark _))
        (pss_cons (ps_set (i := 4) scNames.nd rfl (.inr rfl) (pe_slice C8.sl_txt (pe_slice C8.sl_txt (pv 1) (po_some (pe_op op_mod (pe_op op_fdiv (pv 2) pe_int) pe_int)) po_none) po_none (po_some pe_int)))
        (pss_one (ps_ret (pe_lc (own := [("_law_k", 8)]) (g := gName 8) (tt := tYes) rfl scNames.nd (pi_range1 (by rfl) gR (pa_cons (pv 3) pa_nil)) (blkOk_by (N := nNames) (sc := defScope sNames) (by decide +kernel)) (fun _ _ _ _ _ => pg_name (i := 8) scNames.nd rfl (.inl rfl)) (fun _ _ _ _ _ => pts_nil)
          (fun _ _ _ _ _ => pe_op op_add_str (pe_slice C8.sl_txt (pv 4) (po_some (pv 8)) po_none) (pe_slice C8.sl_txt (pv 4) po_none (po_some (pv 8)))))))) pss_nil)
      (pss_cons (ps_set (i := 5) scNames.nd rfl (.inl rfl) (pe_op op_mod (pe_op op_fdiv (pv 2) pe_int) pe_int))
      (pss_cons (ps_set (i := 6) scNames.nd rfl (.inr rfl) (pe_join pe_str (pe_lc (own := [("_law_j", 9)]) (g := gName 9) (tt := tYes) rfl scNames.nd (pi_range1 (by rfl) gR (pa_cons (pv 5) pa_nil)) (blkOk_by (N := nNames) (sc := defScope sNames) (by decide +kernel)) (fun _ _ _ _ _ => pg_name (i := 9) scNames.nd rfl (.inl rfl)) (fun _ _ _ _ _ => pts_nil)
          (fun _ _ _ _ _ => pe_ix ix_str (pv 1) (pe_op op_mod (pe_op op_add (pe_op op_fdiv (pv 2) pe_int) (pe_op op_mul pe_int (pv 9))) pe_int) (fun _ _ => rfl)))))
      (pss_cons (ps_set (i := 7) scNames.nd rfl (.inr rfl) (pe_op op_mod (pe_op op_fdiv (pv 2) pe_int) (pe_op op_add (pv 5) pe_int)))
      (pss_one (ps_ret (pe_lc (own := [("_law_k", 8)]) (g := gName 8) (tt := tYes) rfl scNames.nd (pi_range1 (by rfl) gR (pa_cons (pv 3) pa_nil)) (blkOk_by (N := nNames) (sc := defScope sNames) (by decide +kernel)) (fun _ _ _ _ _ => pg_name (i := 8) scNames.nd rfl (.inl rfl)) (fun _ _ _ _ _ => pts_nil)
          (fun _ _ _ _ _ => pe_op op_add_str (pe_op op_add_str (pe_slice C8.sl_txt (pv 6) po_none (po_some (pv 7))) (pe_ix ix_str (pv 1) (pe_op op_mod (pe_op op_add (pe_op op_fdiv (pv 2) pe_int) (pe_op op_mul pe_int (pv 8))) pe_int) (fun _ _ => rfl))) (pe_slice C8.sl_txt (pv 6) (po_some (pv 7)) po_none))))))))))))), ?_⟩
    refine ⟨_, rfl, a, ns, 0, rfl, hS, ?_⟩
    generalize ns.getD 0 0 = c at q ⊢
    obtain ⟨m1, m7⟩ := many_lt c
    have big : ∀ x : Str, x.length ≤ 100 → x.length ≤ sizeLine := fun x h => by rw [sizeLine_eq]; omega
    have Lbig : (Str.ofString "abcdefghijklmnopqrstuvwxyz").length ≤ sizeLine := big _ (by decide +kernel)
    have d0 : 0 ≤ c / 28 % 18 := Int.emod_nonneg _ (by omega)
    have d1 : c / 28 % 18 < 18 := Int.emod_lt_of_pos _ (by omega)
    refine ⟨_, rfl, _, _, rfl, rfl, (by show (0 : Int) < 7; decide), _, _, rfl, rfl, ?_⟩
    refine ⟨_, rfl, _, _, rfl, rfl, ⟨by decide, by decide⟩, _, _, rfl, rfl, (by show (0 : Int) < 4; decide), rfl, _, rfl, ite2 (fun h1 => ?_) (fun h1 => ?_)⟩
    · have h1 : V.int (c / 7 % 4) = V.int 1 := of_decide_eq_true h1
      injection h1 with h1
      refine ⟨_, rfl, _, rfl, ?_, ?_, fun D hD => lc_texts (H := H) (n := many c) (nm1 (c / 28 % 18).toNat) (by omega) (Gr.refl H) hD (fun v => rfl) (fun k H4 Q' hk hq => ?_) (fun H2 g2 e2 => ?_)⟩
      · show -(2 ^ 62) ≤ 1 + c % 7
        omega
      · show 1 + c % 7 < 2 ^ 62
        omega
      · refine ⟨_, rfl, _, rfl, _, _, rfl, rfl, ⟨by decide, by decide⟩, _, _, rfl, rfl, (by show (0 : Int) < 18; decide), _, rfl, ?_⟩
        refine ⟨_, rfl, Lbig, _, rfl, _, _, rfl, rfl, _, rfl, _, rfl, ?_, ?_⟩
        · rw [letters_eq, SX.slice_from d0]
          exact big _ (by rw [SX.S_len, List.length_drop, L0_len]; omega)
        · rw [letters_eq, SX.slice_from d0, SX.slice_to (show (0 : Int) ≤ 0 + (k : Nat) + 1 by omega)]
          rw [show ((0 : Int) + (k : Nat) + 1).toNat = k + 1 by omega]
          exact hq
      · refine q D H2 g2 hD ?_
        rw [e2]
        unfold names
        rw [if_pos h1]
    · have h1 : ¬ c / 7 % 4 = 1 := fun z => h1 (decide_eq_true (congrArg V.int z))
      refine ⟨_, rfl, _, _, rfl, rfl, ⟨by decide, by decide⟩, _, _, rfl, rfl, (by show (0 : Int) < 4; decide), rfl, _, rfl, ite2 (fun h2 => ?_) (fun h2 => ?_)⟩
      · have h2 : V.int (c / 7 % 4) = V.int 2 := of_decide_eq_true h2
        injection h2 with h2
        have e0 : Txt.slice (Txt.slice (Str.ofString "abcdefghijklmnopqrstuvwxyz") (some (c / 28 % 18)) none) none (some 8) = SX.S (turned (c / 28 % 18).toNat) := by
          rw [letters_eq, SX.slice_from d0, SX.slice_to (by decide)]
          rfl
        have tl : (turned (c / 28 % 18).toNat).length ≤ 8 := by
          unfold turned
          rw [List.length_take]; omega
        refine ⟨_, rfl, _, rfl, _, _, rfl, rfl, ⟨by decide, by decide⟩, _, _, rfl, rfl, (by show (0 : Int) < 18; decide), _, rfl, ?_⟩
        refine ⟨_, rfl, Lbig, _, rfl, _, rfl, ?_, ?_⟩
        · rw [letters_eq, SX.slice_from d0]
          exact big _ (by rw [SX.S_len, List.length_drop, L0_len]; omega)
        rw [e0]
        refine ⟨_, rfl, _, rfl, ?_, ?_, fun D hD => lc_texts (H := H) (n := many c) (nm2 (c / 28 % 18).toNat) (by omega) (Gr.refl H) hD (fun v => rfl) (fun k H4 Q' hk hq => ?_) (fun H2 g2 e2 => ?_)⟩
        · show -(2 ^ 62) ≤ 1 + c % 7
          omega
        · show 1 + c % 7 < 2 ^ 62
          omega
        · have k0 : (0 : Int) ≤ 0 + (k : Nat) := by omega
          have kk : ((0 : Int) + (k : Nat)).toNat = k := by omega
          have tb : (SX.S (turned (c / 28 % 18).toNat)).length ≤ sizeLine := big _ (by rw [SX.S_len]; omega)
          refine ⟨_, rfl, _, rfl, _, rfl, _, rfl, tb, _, rfl, _, rfl, _, rfl, _, rfl, tb, _, _, rfl, rfl, ?_, ?_⟩
          · rw [SX.slice_from k0, SX.slice_to k0, SX.S_len, SX.S_len, List.length_drop, List.length_take, sizeLine_eq]
            omega
          · rw [SX.slice_from k0, SX.slice_to k0, SX.S_cat, kk]
            exact hq
        · refine q D H2 g2 hD ?_
          rw [e2]
          unfold names
          rw [if_neg h1, if_pos h2]
      · have h2 : ¬ c / 7 % 4 = 2 := fun z => h2 (decide_eq_true (congrArg V.int z))
        have s0 : 0 ≤ c / 28 % 8 := Int.emod_nonneg _ (by omega)
        have s1 : c / 28 % 8 < 8 := Int.emod_lt_of_pos _ (by omega)
        have a0 : 0 ≤ c / 7 % (c / 28 % 8 + 1) := Int.emod_nonneg _ (by omega)
        have a1 : c / 7 % (c / 28 % 8 + 1) < c / 28 % 8 + 1 := Int.emod_lt_of_pos _ (by omega)
        -- size
        refine ⟨_, rfl, _, _, rfl, rfl, ⟨by decide, by decide⟩, _, _, rfl, rfl, (by show (0 : Int) < 8; decide), ?_⟩
        -- base
        refine ⟨⟨_, rfl⟩, _, rfl, _, rfl, ?_, ?_, fun D hD => lc_texts (H := H) (n := (c / 28 % 8).toNat) (fun j => SX.S [let_ (c / 224 + 5 * (j : Int))]) (by omega) (Gr.refl H) hD (fun v => rfl) (fun k H4 Q' hk hq => ?_) (fun H2 g2 e2 => ?_)⟩
        · show -(2 ^ 62) ≤ c / 28 % 8
          omega
        · show c / 28 % 8 < 2 ^ 62
          omega
        · refine ⟨_, rfl, _, rfl, _, _, rfl, rfl, ⟨by decide, by decide⟩, _, rfl, _, _, rfl, rfl, .inl ⟨by decide, by decide⟩, _, _, rfl, rfl, _, _, rfl, rfl, (by show (0 : Int) < 26; decide), _, _, _, rfl, rfl, Lbig, let_at _, ?_⟩
          rw [Int.zero_add]
          exact hq
        · have eb : ((List.range (c / 28 % 8).toNat).map fun j : Nat => SX.S [let_ (c / 224 + 5 * (j : Int))]) = ((baseOf c (c / 28 % 8).toNat).map fun x => [x]).map SX.S := by
            unfold baseOf
            rw [List.map_map, List.map_map]
            rfl
          refine ⟨_, D, _, rfl, rfl, .inl (.inl (.inl e2)), ?_, ?_⟩
          · rw [List.length_map, List.length_range, List.map_map]
            have h3 : ∀ l : List Nat, (l.map ((fun x : Str => x.length) ∘ fun j : Nat => SX.S [let_ (c / 224 + 5 * (j : Int))])).sum = l.length := by
              intro l
              induction l with
              | nil => rfl
              | cons x r ih =>
                rw [List.map_cons, List.sum_cons, ih, List.length_cons]
                show 1 + r.length = _
                omega
            rw [h3, List.length_range]
            show _ + _ * 0 ≤ _
            omega
          · rw [eb, show (Str.ofString "") = SX.S [] by decide +kernel, SX.join_S, joinL_ones]
            have bl : (baseOf c (c / 28 % 8).toNat).length = (c / 28 % 8).toNat := by
              unfold baseOf
              rw [List.length_map, List.length_range]
            have bb : (SX.S (baseOf c (c / 28 % 8).toNat)).length ≤ sizeLine := big _ (by rw [SX.S_len, bl]; omega)
            -- at
            refine ⟨_, rfl, _, _, rfl, rfl, ⟨by decide, by decide⟩, _, rfl, _, _, rfl, rfl, _, _, rfl, rfl, (by show (0 : Int) < c / 28 % 8 + 1; omega), ?_⟩
            refine ⟨_, rfl, _, rfl, ?_, ?_, fun D3 hD3 => lc_texts (H := H) (n := many c) (nm3 (baseOf c (c / 28 % 8).toNat) (c / 7 % ((c / 28 % 8) + 1)).toNat (c / 1000)) (by omega) g2 hD3 (fun v => rfl) (fun k H4 Q' hk hq => ?_) (fun H3 g3 e3 => ?_)⟩
            · show -(2 ^ 62) ≤ 1 + c % 7
              omega
            · show 1 + c % 7 < 2 ^ 62
              omega
            · refine ⟨_, rfl, _, rfl, _, rfl, _, rfl, bb, ?_⟩
              refine ⟨_, rfl, _, rfl, _, _, rfl, rfl, ⟨by decide, by decide⟩, _, rfl, _, _, rfl, rfl, .inl ⟨by decide, by decide⟩, _, _, rfl, rfl, _, _, rfl, rfl, (by show (0 : Int) < 26; decide), _, _, _, rfl, rfl, Lbig, let_at _, ?_⟩
              refine ⟨_, _, rfl, rfl, ?_, ?_⟩
              · rw [SX.slice_to a0, SX.S_len, List.length_take, bl]
                show _ + 1 ≤ _
                rw [sizeLine_eq]
                omega
              · refine ⟨_, rfl, _, rfl, _, rfl, _, rfl, bb, _, _, rfl, rfl, ?_, ?_⟩
                · rw [SX.slice_to a0, SX.slice_from a0, Str.length_append, SX.S_len, SX.S_len, SX.S_len, List.length_take, List.length_drop, bl]
                  show _ + 1 + _ ≤ _
                  rw [sizeLine_eq]
                  omega
                · rw [SX.slice_to a0, SX.slice_from a0, Int.zero_add]
                  show Q' (.str (SX.S _ ++ SX.S [_] ++ SX.S _)) H4
                  rw [SX.S_cat, SX.S_cat]
                  exact hq
            · refine q D3 H3 g3 (g2.free hD3) ?_
              rw [e3]
              unfold names
              rw [if_neg h1, if_neg h2]
end
end K1
namespace K1
open PySem PySem.Spec PyProof.Rows L2 Gr GxR Srx Skx Dcx
section
variable {P : Program} {w : World} {K : PySem.W.Frag} {mg : Str → Option Value} {base : Heap} {f : Addr} {fd : FuncData} {p : He.Defn} {T : Addr} {R : ErN}
theorem scNamesFrom : FnScope ["thing"] ["thing"] (defScope s_names_from) := ⟨rfl, rfl, rfl, by decide +kernel, rfl, by decide +kernel, by decide +kernel⟩
theorem ok_names_from (F : FnP K "names_from" s_names_from f fd) (cR : Calls P w K mg base (L2.CX P w) 2 "rising" (spRising K T R.name)) (EC : ErrC K mg "BadRow" R.row) (gI : mg "isinstance" = none) (gL : mg "list" = none) :
    FnOk P w K mg base (L2.CX P w) 3 f fd ["thing"] (spNamesFrom K T R) := by
  refine F.ok scNamesFrom (fun vs H Q E h => ?_) (fun cdv A outer s H vs Q E hr h => ?_)
  · obtain ⟨v, rfl, _⟩ := h
    rfl
  · obtain ⟨v, rfl, hT, h⟩ := h
    refine ⟨_, pss_cons (ps_if (pt_not (pt_val (pe_callB call_isi (by rfl) gI (by decide +kernel) (pa_cons (pv 0) (pa_cons (pe_bltn (v := .ty "list") (by rfl) gL (by decide +kernel) rfl) pa_nil)))))
        (pss_one (ps_raise rfl (takes_of rfl rfl rfl rfl) (SkE.pmk_own1 PySem.F.excBase_ValueError EC.xC EC.gC EC.kC (raises_own EC.bC EC.tC) (by rfl) pe_str))) pss_nil)
      (pss_one (ps_ret (pe_f cR hr (by decide) (paE (takes_of rfl rfl rfl rfl)) (by rfl) (pa_cons (pv 0) pa_nil)))), ?_⟩
    rcases h with ⟨xs, ⟨a, rfl, ha, nm, few⟩, q⟩ | ⟨⟨a, vls, rfl, ha, th, few, bad⟩, q⟩ | ⟨⟨t, ty, kt⟩, q⟩
    · refine ⟨_, rfl, _, _, _, _, true, rfl, .ty _, .base (.lst ha), kit_ty (by decide +kernel), _, rfl, ?_⟩
      refine iteF ⟨_, rfl, a, _, rfl, .inl (.inl ha), nms_things nm, by rw [List.length_map]; exact few, hT, .inl ⟨xs, rfl, nms_all.mpr nm, q⟩⟩
    · refine ⟨_, rfl, _, _, _, _, true, rfl, .ty _, .base (.lst ha), kit_ty (by decide +kernel), _, rfl, ?_⟩
      refine iteF ⟨_, rfl, a, _, rfl, .inl (.inl ha), th, few, hT, .inr ⟨bad, q⟩⟩
    · refine ⟨_, rfl, _, _, _, _, false, rfl, .ty _, ty, kit_ty kt, _, rfl, ?_⟩
      exact iteT (q H (Gr.refl H))
theorem scRowFrom : FnScope ["thing", "names"] ["thing"] (defScope s_row_from) := ⟨rfl, rfl, rfl, by decide +kernel, rfl, by decide +kernel, by decide +kernel⟩
theorem ok_row_from (F : FnP K "row_from" s_row_from f fd) (cN : Calls P w K mg base (L2.CX P w) 3 "names_from" (spNamesFrom K T R)) (EC : ErrC K mg "BadRow" R.row) (gL : mg "len" = none) :
    FnOk P w K mg base (L2.CX P w) 4 f fd ["thing"] (spRowFrom K T R) := by
  refine F.ok scRowFrom (fun vs H Q E h => ?_) (fun cdv A outer s H vs Q E hr h => ?_)
  · obtain ⟨v, rfl, _⟩ := h
    rfl
  · obtain ⟨v, rfl, hT, h⟩ := h
    refine ⟨_, pss_cons (ps_set (i := 1) scRowFrom.nd rfl (.inl rfl) (pe_f cN hr (by decide) (paE (takes_of rfl rfl rfl rfl)) (by rfl) (pa_cons (pv 0) pa_nil)))
      (pss_cons (ps_if (pt_cmpR op_ne (pe_callB call_len_seq (by rfl) gL boot_len (pa_cons (pv 1) pa_nil)) (pe_callB call_len_seq (by rfl) gL boot_len (pa_cons (pv 0) pa_nil)) (nomark _))
        (pss_one (ps_raise rfl (takes_of rfl rfl rfl rfl) (SkE.pmk_own1 PySem.F.excBase_ValueError EC.xC EC.gC EC.kC (raises_own EC.bC EC.tC) (by rfl) pe_str))) pss_nil)
      (pss_one (ps_ret (pv 1)))), ?_⟩
    refine ⟨_, rfl, _, rfl, hT, ?_⟩
    rcases h with ⟨xs, hk, nd, q⟩ | ⟨xs, hk, nd, q⟩ | ⟨hb, q⟩ | ⟨hb, q⟩
    · refine .inl ⟨xs, hk, fun p H2 g np ep => ?_⟩
      obtain ⟨a, rfl, ha, nm, few⟩ := hk.gr g
      refine ⟨_, rfl, p, _, rfl, .inl (.inl (.inl ep)), _, rfl, a, _, rfl, .inl (.inl (.inl ha)), rfl, _, rfl, ?_⟩
      rw [List.length_map, List.length_map, once_full nd]
      refine iteNS (by simp) ⟨_, rfl, q p H2 g np ep⟩
    · refine .inl ⟨xs, hk, fun p H2 g np ep => ?_⟩
      obtain ⟨a, rfl, ha, nm, few⟩ := hk.gr g
      refine ⟨_, rfl, p, _, rfl, .inl (.inl (.inl ep)), _, rfl, a, _, rfl, .inl (.inl (.inl ha)), rfl, _, rfl, ?_⟩
      rw [List.length_map, List.length_map]
      have ne := once_twice nd
      rw [decide_eq_false (show ¬ (V.int ((once xs).length : Nat) = V.int (xs.length : Nat)) from fun z => ne (by injection z with z; omega))]
      exact iteT (q H2 g)
    · exact .inr (.inl ⟨hb, q⟩)
    · exact .inr (.inr ⟨hb, q⟩)
end
end K1
namespace K1
open PySem PySem.Spec PyProof.Rows L2 Gr GxR Srx Skx Dcx
section
variable {P : Program} {w : World} {K : PySem.W.Frag} {mg : Str → Option Value} {base : Heap} {f : Addr} {fd : FuncData} {p : He.Defn} {N : TabN} {R : ErN}
abbrev nGrown : List Str := ["sets", "row", "names", "found", "one", "name"]
theorem scGrown : FnScope nGrown ["sets", "row"] (defScope s_grown) := ⟨rfl, rfl, rfl, by decide +kernel, rfl, by decide +kernel, by decide +kernel⟩
theorem ok_grown (F : FnP K "grown" s_grown f fd) (cR : Calls P w K mg base (L2.CX P w) 4 "row_from" (spRowFrom K N.i R)) (cM : Calls P w K mg base CX0 1 "meets_sets" (spMeets K N.m)) (cL : Calls P w K mg base CX0 5 "least_of" (spLeast K N.l N.w)) :
    FnOk P w K mg base CX0 6 f fd ["sets", "row"] (spGrown K N) := by
  refine F.ok scGrown (fun vs H Q E h => ?_) (fun cdv A outer s H vs Q E hr h => ?_)
  · obtain ⟨a, v, ps, r, rfl, _⟩ := h
    rfl
  · obtain ⟨a, v, ps, r, rfl, lA, hp, few, hR, nd, rl, hN, q⟩ := h
    refine ⟨_, PSs.nox (pss_cons (ps_set (i := 2) scGrown.nd rfl (.inl rfl) (pe_f cR hr (by decide) paL (by rfl) (pa_cons (pv 1) pa_nil)))
      (pss_cons (ps_set (i := 3) scGrown.nd rfl (.inl rfl) (pe_lst pa_nil))
      (pss_cons (ps_for PassesOwn.never rfl (pi_list (pv 0)) (pg_name (i := 4) scGrown.nd rfl (.inr rfl))
        (pss_one (ps_if (pt_val (pe_k cM hr (by decide) (by rfl) (pa_cons (pv 4) (pa_cons (pv 2) pa_nil))))
          (pss_one (ps_expr (pe_bm PySem.F.plainAttrs_list PySem.F.slot_list_append PySem.F.type_list_append mt_append (pv 3) (pa_cons (pv 4) pa_nil))))
          (pss_one (ps_expr (pe_bm PySem.F.plainAttrs_list PySem.F.slot_list_extend PySem.F.type_list_extend mt_extend (pv 3) (pa_cons (pe_lc (own := [("name", 5)]) (g := gName 5) (tt := tYes) (te := tLst (StX.tStar K (tVar 4) (tCons (tVar 5) tNil))) rfl scGrown.nd (pi_list (pv 2)) (blkOk_by (N := nGrown) (sc := defScope s_grown) (by decide +kernel))
              (fun _ _ _ _ _ => pg_name (i := 5) scGrown.nd rfl (.inl rfl)) (fun _ _ _ _ _ => pts_nil) (fun _ _ _ _ _ => pe_lst (StX.pa_star (pv 4) (pa_cons (pv 5) pa_nil)))) pa_nil)))))))
      (pss_one (ps_ret (pe_k cL hr (by decide) (by rfl) (pa_cons (pv 3) pa_nil))))))), ?_⟩
    refine ⟨_, rfl, _, rfl, hN.i, .inl ⟨r, hR, nd, fun nm H1 g1 nnm enm => ?_⟩⟩
    have onl : (once r).length ≤ 12 := Nat.le_trans once_len rl
    refine ⟨Nat.zero_le _, fun S nS => ?_⟩
    have g2 : Gr H (upd H1 S (.lst [])) := g1.trans (Gr.new nS)
    have nSH : H S = none := g1.free nS
    have eS : (upd H1 S (.lst [])) S = some (.lst []) := upd_same
    have em2 : (upd H1 S (.lst [])) nm = some (.lst ((once r).map V.str)) := (Gr.new nS).lst enm
    have nmS : nm ≠ S := ne_of_none enm nS
    generalize upd H1 S (.lst []) = H2 at g2 eS em2
    refine ⟨_, rfl, a, rfl, ⟨_, .inl (.inl (lA.gr g2).at_)⟩, for_list (K := K) (xs := ps.map fun q : Addr × List Str => V.ref q.1) (fun i σ H3 => Gr H H3 ∧ H3 nm = some (.lst ((once r).map V.str)) ∧ ∃ (ss : List (Addr × List Str)) (v4 : Option V), H3 S = some (.lst (ss.map fun q => V.ref q.1)) ∧ (∀ q ∈ ss, q.1 ≠ S ∧ q.2.length ≤ 101 ∧ H3 q.1 = some (.lst (q.2.map V.str))) ∧ ss.map (·.2) = found ((ps.take i).map (·.2)) (once r) ∧ ss.length ≤ i * 12 ∧
        σ = [some (.ref a), some v, some (.ref nm), some (.ref S), v4, none]) ⟨g2, em2, [], none, eS, fun _ z => absurd z List.not_mem_nil, rfl, Nat.zero_le _, rfl⟩ (fun i σ H3 _ h => .inl (.inl (lA.gr h.1).at_)) (fun i x σ H3 hx h => ?_) (fun σ H3 h => ?_)⟩
    · obtain ⟨g3, em3, ss, v4, eS3, own, es, sl, rfl⟩ := h
      obtain ⟨p0, hp0, rfl⟩ := get_map hx
      have mp := List.mem_of_getElem? hp0
      have hi : i < ps.length := (List.getElem?_eq_some_iff.mp hp0).1
      have sz : ss.length ≤ 60000 - 12 := by omega
      have ePp := (lA.gr g3).own p0 mp
      have npS : p0.1 ≠ S := ne_of_none (lA.own p0 mp) nSH
      refine ⟨_, rfl, _, rfl, p0.1, nm, p0.2, once r, rfl, .inl (.inl ePp), .inl (.inl em3), g3.tabG hN.m, fun H4 g4 => ⟨_, rfl, ?_⟩⟩
      show if mt p0.2 (once r) = true then _ else _
      cases em : mt p0.2 (once r) with
      | true =>
        refine iteT ⟨_, rfl, .inl ⟨rfl, _, .inl (.inl (g4.lst eS3))⟩, _, rfl, S, _, _, rfl, rfl, g4.lst eS3, ?_, ?_⟩
        · rw [List.length_map]
          exact small60 (by omega)
        · refine ⟨(g3.trans g4).mut nSH, ?_, ss ++ [p0], _, ?_, fun q hq => ?_, ?_, ?_, rfl⟩
          · rw [upd_ne nmS]
            exact g4.lst em3
          · rw [upd_same, List.map_append]
            rfl
          · rcases List.mem_append.mp hq with hq | hq
            · obtain ⟨h1, h2, h3⟩ := own q hq
              exact ⟨h1, h2, by rw [upd_ne h1]; exact g4.lst h3⟩
            · rw [List.mem_singleton.mp hq]
              exact ⟨npS, Nat.le_succ_of_le (hp p0 mp).2, by rw [upd_ne npS]; exact g4.lst ePp⟩
          · rw [List.map_append, es, take_map hp0, found_snoc, em]
            rfl
          · rw [List.length_append, List.length_singleton]
            omega
      | false =>
        refine iteF ⟨_, rfl, .inl ⟨rfl, _, .inl (.inl (g4.lst eS3))⟩, _, rfl, nm, rfl, ⟨_, .inl (.inl (g4.lst em3))⟩, fun D nD => lc_newT (K := K) (xs := once r) (fun x => p0.2 ++ [x]) (.inl (.inl (g4.lst em3))) (small1000 (by omega)) nD (fun v => rfl) (fun x hx H5 Q' g5 hq => ?_) (fun H5 cs g5 T5 ec => ?_)⟩
        · refine ⟨_, rfl, p0.1, p0.2.map V.str, rfl, .inr (.inl (.inl ((g4.trans g5).lst ePp))), _, rfl, ?_, fun l nl => ?_⟩
          · rw [List.length_append, List.length_map, List.length_singleton]
            have := (hp p0 mp).2
            exact Nat.le_of_lt (small1000 (by omega))
          · have z := hq H5 l (Gr.refl H5) nl
            rw [List.map_append] at z
            exact z
        · have g45 := g4.trans g5
          have cl : cs.length ≤ 12 := by
            have h1 := congrArg List.length ec
            rw [List.length_map, List.length_map] at h1
            omega
          have SD : S ≠ D := ne_of_none (g4.lst eS3) nD
          refine ⟨S, D, _, _, rfl, rfl, g45.lst eS3, T5.at_, ?_, ?_⟩
          · rw [List.length_map, List.length_map]
            exact Nat.le_of_lt (small60 (by omega))
          · refine ⟨(g3.trans g45).mut nSH, ?_, ss ++ cs, _, ?_, fun q hq => ?_, ?_, ?_, rfl⟩
            · rw [upd_ne nmS]
              exact g45.lst em3
            · rw [upd_same, List.map_append]
            · rcases List.mem_append.mp hq with hq | hq
              · obtain ⟨h1, h2, h3⟩ := own q hq
                exact ⟨h1, h2, by rw [upd_ne h1]; exact g45.lst h3⟩
              · obtain ⟨h1, h2, h3⟩ := T5.own q hq
                have h4 : q.1 ≠ S := (ne_of_none (g4.lst eS3) h1).symm
                refine ⟨h4, ?_, by rw [upd_ne h4]; exact h3⟩
                have h5 : q.2 ∈ (once r).map (fun x => p0.2 ++ [x]) := by rw [← ec]; exact List.mem_map.mpr ⟨q, hq, rfl⟩
                obtain ⟨x, _, e3⟩ := List.mem_map.mp h5
                rw [← e3, List.length_append, List.length_singleton]
                exact Nat.succ_le_succ (hp p0 mp).2
            · rw [List.map_append, es, ec, take_map hp0, found_snoc, em]
              rfl
            · rw [List.length_append]
              omega
    · obtain ⟨g3, em3, ss, v4, eS3, own, es, sl, rfl⟩ := h
      rw [List.length_map, List.take_length] at es
      rw [List.length_map] at sl
      refine ⟨_, rfl, S, ss, rfl, .inl (.inl eS3), fun q0 hq0 => ⟨.inl (.inl (own q0 hq0).2.2), Nat.le_trans (own q0 hq0).2.1 (by decide)⟩, by omega, g3.tabG hN.l, g3.tabG hN.w, fun p H4 ks g4 T4 e4 => q p H4 ks (g3.trans g4) (T4.from g3) ?_⟩
      have ra : RisAll (ps.map (·.2)) := by
        intro x hx
        obtain ⟨q0, hq0, rfl⟩ := List.mem_map.mp hx
        exact (hp q0 hq0).1
      rw [e4, es, found_once ra, cand_once ra]
end
end K1
namespace K1
open PySem PySem.Spec PyProof.Rows L2 Gr GxR Srx Skx Dcx
section
variable {P : Program} {w : World} {K : PySem.W.Frag} {mg : Str → Option Value} {base : Heap} {f C : Addr} {fd : FuncData} {p : He.Defn} {N : TabN} {R : ErN}
theorem scInit : FnScope ["self"] ["self"] (defScope m_init) := ⟨rfl, rfl, rfl, by decide +kernel, rfl, by decide +kernel, by decide +kernel⟩
theorem ok_init (F : FnM K "__init__" "Book.__init__" m_init f fd) (BC : BkC K mg C) : FnOk P w K mg base CX0 1 f fd ["self"] (spInit C) := by
  refine F.ok scInit (fun vs H Q E h => ?_) (fun cdv A outer s H vs Q E hr h => ?_)
  · obtain ⟨b, dx, rfl, _⟩ := h
    rfl
  · obtain ⟨b, dx, rfl, hb, k⟩ := h
    refine ⟨_, PSs.nox (pss_cons (ps_fld (pv 0) pe_dnewK rfl) (pss_one (ps_fld (pv 0) pe_int rfl))), ?_⟩
    intro d hd
    have nbd : b ≠ d := ne_of_none hb hd
    refine ⟨_, rfl, b, C, dx, [], rfl, (by rw [upd_ne nbd]; exact hb), BC.cl, BC.nR, (by show 0 < 1000; decide), _, rfl, b, C, dx, _, rfl, upd_same, BC.cl, BC.nN, (by show 1 < 1000; decide), ?_⟩
    refine k d _ hd ⟨fun c o hc e n => ?_, fun c ps e => ⟨ps, ?_, fun h => h⟩, fun c o hc e => ?_⟩ ⟨⟨dx, upd_same⟩, by rw [upd_ne nbd.symm, upd_ne nbd.symm, upd_same]; rfl, fun e he => absurd he List.not_mem_nil⟩
    · rw [upd_ne hc, upd_ne hc, upd_ne (ne_of_none e hd)]
      exact e
    · have hc : c ≠ b := fun z => by rw [z, hb] at e; cases e
      rw [upd_ne hc, upd_ne hc, upd_ne (ne_of_none e hd)]
      exact e
    · exact ⟨_, by rw [hc, upd_same]⟩
theorem scBSets : FnScope ["self"] ["self"] (defScope m_sets) := ⟨rfl, rfl, rfl, by decide +kernel, rfl, by decide +kernel, by decide +kernel⟩
theorem ok_bsets (F : FnM K "_sets" "Book._sets" m_sets f fd) (BC : BkC K mg C) (g_list : mg "list" = none) : FnOk P w K mg base CX0 1 f fd ["self"] (spBSets C) := by
  refine F.ok scBSets (fun vs H Q E h => ?_) (fun cdv A outer s H vs Q E hr h => ?_)
  · obtain ⟨b, d, tb, n, rfl, _⟩ := h
    rfl
  · obtain ⟨b, d, tb, n, rfl, B, q⟩ := h
    refine ⟨_, PSs.nox (pss_one (ps_ret (LVals.pe_listVals rfl (pe_fld (pv 0) rfl) (by rfl) g_list boot_list))), ?_⟩
    obtain ⟨dx, eb⟩ := B.ob
    refine ⟨_, rfl, b, C, dx, _, _, rfl, eb, BC.cl, BC.nR, bfl_rows d n, d, kvB tb, rfl, B.dc, fun p np => ?_⟩
    have z := q p np
    rw [show (kvB tb).map (·.2) = tb.map fun e => V.ref e.2.1 from by unfold kvB; rw [List.map_map]; rfl]
    exact z
abbrev nBNames : List Str := ["self", "row", "name"]
theorem scBNames : FnScope nBNames ["self"] (defScope m_names) := ⟨rfl, rfl, rfl, by decide +kernel, rfl, by decide +kernel, by decide +kernel⟩
theorem ok_bnames (F : FnM K "names" "Book.names" m_names f fd) (BC : BkC K mg C) (cSets : MCalls P w K mg base CX0 1 C "_sets" (spBSets C)) (g_sorted : mg "sorted" = none) : FnOk P w K mg base CX0 2 f fd ["self"] (spBNames C) := by
  refine F.ok scBNames (fun vs H Q E h => ?_) (fun cdv A outer s H vs Q E hr h => ?_)
  · obtain ⟨b, d, tb, n, rfl, _⟩ := h
    rfl
  · obtain ⟨b, d, tb, n, rfl, B, T, q⟩ := h
    refine ⟨_, PSs.nox (pss_one (ps_ret (pe_callB (Srx.cr_sortedTx rfl (hu64 hr)) (by rfl) g_sorted boot_sorted (pa_cons (Sc2.pe_sc2 (own := [("row", 1), ("name", 2)]) (g := gName 1) (tt := tYes) (g1 := gName 2) (tt1 := tYes) (vs1 := [2]) (wi1 := iList K (tVar 1)) (te := tVar 2) rfl scBNames.nd (pi_list (pe_m0 cSets BC.cl hr (by decide) pa0 (pv 0))) (blkOk_by (N := nBNames) (sc := defScope m_names) (by decide +kernel)) (by decide) (fun _ _ _ _ _ => (pg_name (i := 1) scBNames.nd rfl (.inl rfl))) (fun _ _ _ _ _ => pts_nil) (fun _ _ _ _ _ => (pi_list (pv 1))) (fun _ _ _ _ _ => (pg_name (i := 2) scBNames.nd rfl (.inl rfl))) (fun _ _ _ _ _ => pts_nil) (fun _ _ _ _ _ => (pv 2))) pa_nil)))), ?_⟩
    refine ⟨_, rfl, b, d, tb, n, rfl, B, b, d, tb, n, rfl, B, fun L nL => ⟨L, rfl, ⟨_, .inl (.inl upd_same)⟩, fun D nD => ?_⟩⟩
    have g1 : Gr H (upd H L (.lst (tb.map fun e => V.ref e.2.1))) := Gr.new nL
    have B1 := B.gr g1
    have eL : (upd H L (.lst (tb.map fun e => V.ref e.2.1))) L = some (.lst (tb.map fun e => V.ref e.2.1)) := upd_same
    generalize upd H L (.lst (tb.map fun e => V.ref e.2.1)) = H1 at g1 B1 eL nD
    refine sc2_rows (K := K) (ps := tb.map fun e => (e.2.1, e.2.2)) (by rw [List.map_map]; exact .inl (.inl eL)) (fun q hq => ?_) nD ?_ ?_ (fun _ => rfl) (fun _ _ => rfl) (fun _ => rfl) (fun _ _ => rfl)
    · obtain ⟨e, he, rfl⟩ := List.mem_map.mp hq
      exact .inl (.inl (B1.own e he))
    · have h1 := T.flat
      rw [List.map_map]
      exact Nat.le_trans h1 (by decide)
    · refine ⟨D, _, rfl, upd_same, fun p np => ?_⟩
      refine q p _ (g1.trans ((Gr.new nD).trans (Gr.new np))) ((g1.trans (Gr.new nD)).free np) ?_
      rw [upd_same, List.map_map]
      rfl
end
end K1
namespace K1
open PySem PySem.Spec PyProof.Rows L2 Gr GxR Srx Skx Dcx
section
variable {P : Program} {w : World} {K : PySem.W.Frag} {mg : Str → Option Value} {base : Heap} {f C : Addr} {fd : FuncData} {p : He.Defn} {N : TabN} {R : ErN}
abbrev nPut : List Str := ["self", "row", "names", "number"]
theorem scPut : FnScope nPut ["self", "row"] (defScope m_put) := ⟨rfl, rfl, rfl, by decide +kernel, rfl, by decide +kernel, by decide +kernel⟩
theorem ok_put (F : FnM K "put" "Book.put" m_put f fd) (BC : BkC K mg C) (cRow : Calls P w K mg base (L2.CX P w) 4 "row_from" (spRowFrom K N.i R)) (cRis : Calls P w K mg base (L2.CX P w) 2 "rising" (spRising K N.i R.name))
    (cNames : MCalls P w K mg base CX0 2 C "names" (spBNames C)) (eMany : ErrC K mg "TooMany" R.many) (g_len : mg "len" = none) (gMR : ∃ t, mg "MOST_ROWS_books" = some (.int 30 t)) (gMN : ∃ t, mg "MOST_NAMES_books" = some (.int 12 t)) :
    FnOk P w K mg base (L2.CX P w) 5 f fd ["self", "row"] (spPut K C N R) := by
  obtain ⟨tR, gMR⟩ := gMR
  obtain ⟨tN, gMN⟩ := gMN
  refine F.ok scPut (fun vs H Q E h => ?_) (fun cdv A outer s H vs Q E hr h => ?_)
  · obtain ⟨b, d, tb, n, v, rfl, _⟩ := h
    rfl
  · obtain ⟨b, d, tb, n, v, rfl, B, T, hN, h⟩ := h
    refine ⟨_, pss_cons (ps_set (i := 2) scPut.nd rfl (.inl rfl) (pe_f cRow hr (by decide) (paE (takes_of rfl rfl rfl rfl)) (by rfl) (pa_cons (pv 1) pa_nil))) (pss_cons (ps_if (pt_cmpR op_ge (pe_callB call_lenD (by rfl) g_len PySem.boot_len (pa_cons (pe_fld (pv 0) rfl) pa_nil)) (pe_glob (v := .int 30) (by rfl) gMR ⟨_, rfl⟩) (nomark _)) (pss_one (ps_raise rfl (takes_of rfl rfl rfl rfl) (SkE.pmk_own1 PySem.F.excBase_ValueError eMany.xC eMany.gC eMany.kC (raises_own eMany.bC eMany.tC) (by rfl) (pe_joined (.cons pe_str (.cons (pe_fmt (pe_glob (v := .int 30) (by rfl) gMR ⟨_, rfl⟩)) (.cons pe_str .nil))))))) (pss_nil)) (pss_cons (ps_if (pt_cmpR op_gt (pe_callB call_len_seq (by rfl) g_len boot_len (pa_cons (pe_f cRis hr (by decide) (paE (takes_of rfl rfl rfl rfl)) (by rfl) (pa_cons (pe_op op_cat (pe_m0 cNames BC.cl hr (by decide) pa0 (pv 0)) (pv 2)) pa_nil)) pa_nil)) (pe_glob (v := .int 12) (by rfl) gMN ⟨_, rfl⟩) (nomark _)) (pss_one (ps_raise rfl (takes_of rfl rfl rfl rfl) (SkE.pmk_own1 PySem.F.excBase_ValueError eMany.xC eMany.gC eMany.kC (raises_own eMany.bC eMany.tC) (by rfl) (pe_joined (.cons pe_str (.cons (pe_fmt (pe_glob (v := .int 12) (by rfl) gMN ⟨_, rfl⟩)) (.cons pe_str .nil))))))) (pss_nil)) (pss_cons (ps_set (i := 3) scPut.nd rfl (.inl rfl) (pe_fld (pv 0) rfl)) (pss_cons (ps_dput (hu_of hr) (pe_fld (pv 0) rfl) (pv 3) (pv 2) rfl) (pss_cons (ps_fld (pv 0) (pe_op op_add (pv 3) pe_int) rfl) (pss_one (ps_ret (pv 3)))))))), ?_⟩
    refine ⟨_, rfl, _, rfl, hN.s.i, ?_⟩
    have h : (∃ xs, HOk H v xs ∧ xs.length ≤ 100 ∧ xs.Nodup ∧ ((tb.length < 30 ∧ (allN (rws tb ++ [xs])).length ≤ 12 ∧ ∀ p H', GrX (fun a => a = b ∨ a = d) H H' → H p = none → Bk C H' b d (tb ++ [(n, p, once xs)]) (n + 1) → Q (.int n) H') ∨
        ((30 ≤ tb.length ∨ 12 < (allN (rws tb ++ [xs])).length) ∧ ∀ H', Gr H H' → E (.ref R.many) none H'))) ∨
        (∃ xs, HOk H v xs ∧ ¬ xs.Nodup ∧ ∀ H', Gr H H' → E (.ref R.row) none H') ∨ (HBadN K H v ∧ ∀ H', Gr H H' → E (.ref R.name) none H') ∨ (HBadR K H v ∧ ∀ H', Gr H H' → E (.ref R.row) none H') := by
      rcases h with ⟨xs, hk, few, nd, q⟩ | ⟨xs, hk, few, nd, q⟩ | h | h | h
      · exact .inl ⟨xs, hk, few, nd, .inl q⟩
      · exact .inl ⟨xs, hk, few, nd, .inr q⟩
      · exact .inr (.inl h)
      · exact .inr (.inr (.inl h))
      · exact .inr (.inr (.inr h))
    rcases h with ⟨xs, hk, few, nd, h⟩ | ⟨xs, hk, nd, q⟩ | ⟨hb, q⟩ | ⟨hb, q⟩
    rotate_left
    · exact .inr (.inl ⟨xs, hk, nd, q⟩)
    · exact .inr (.inr (.inl ⟨hb, q⟩))
    · exact .inr (.inr (.inr ⟨hb, q⟩))
    · refine .inl ⟨xs, hk, nd, fun nm H1 g1 nnm enm => ?_⟩
      have nm1 : Nms xs := hk.choose_spec.2.2.1
      have B1 := B.gr g1
      obtain ⟨dx, eb1⟩ := B1.ob
      refine ⟨_, rfl, b, C, dx, _, _, rfl, eb1, BC.cl, BC.nR, bfl_rows d n, d, _, rfl, B1.dc, _, _, rfl, rfl, _, rfl, ?_⟩
      rw [kvB_len]
      by_cases h30 : tb.length < 30
      · rw [decide_eq_false (show ¬ (tb.length : Int) ≥ 30 by omega)]
        refine iteF ?_
        refine ⟨_, rfl, b, d, tb, n, rfl, B1, b, d, tb, n, rfl, B1, T, fun L H2 g2 nL eL => ?_⟩
        have an12 := T.nms
        refine ⟨_, rfl, _, _, _, _, rfl, rfl, eL, g2.lst enm, ?_, fun c nc => ?_⟩
        · rw [List.length_map, List.length_map]
          have := once_len (xs := xs)
          exact Nat.le_of_lt (small1000 (by omega))
        have g3 : Gr H2 (upd H2 c (.lst ((allN (rws tb)).map V.str ++ (once xs).map V.str))) := Gr.new nc
        have ec : (upd H2 c (.lst ((allN (rws tb)).map V.str ++ (once xs).map V.str))) c = some (.lst ((allN (rws tb) ++ once xs).map V.str)) := by
          rw [upd_same, List.map_append]
        generalize upd H2 c (.lst ((allN (rws tb)).map V.str ++ (once xs).map V.str)) = H3 at g3 ec
        have nmA : Nms (allN (rws tb) ++ once xs) := fun y hy => (List.mem_append.mp hy).elim (T.nmsN y) (once_nms nm1 y)
        have g03 := (g1.trans g2).trans g3
        refine ⟨c, _, rfl, .inl (.inl ec), nms_things nmA, ?_, g03.tabG hN.s.i, .inl ⟨_, rfl, nms_all.mpr nmA, fun r H4 g4 nr er => ?_⟩⟩
        · rw [List.length_map, List.length_append]
          have := once_len (xs := xs)
          omega
        refine ⟨r, _, rfl, .inl (.inl (.inl er)), _, _, rfl, rfl, _, rfl, ?_⟩
        rw [List.length_map, once_two]
        have g04 := g03.trans g4
        by_cases h12 : (allN (rws tb ++ [xs])).length ≤ 12
        · rw [decide_eq_false (show ¬ ((allN (rws tb ++ [xs])).length : Int) > 12 by omega)]
          refine iteF ?_
          have B4 := B.gr g04
          obtain ⟨dy, eb4⟩ := B4.ob
          have enm4 : H4 nm = some (.lst ((once xs).map V.str)) := ((g2.trans g3).trans g4).lst enm
          have nbd := B.ne
          refine ⟨_, rfl, b, C, dy, _, _, rfl, eb4, BC.cl, BC.nN, bfl_next d n, ?_⟩
          refine ⟨_, rfl, _, rfl, b, C, dy, _, _, rfl, eb4, BC.cl, BC.nR, bfl_rows d n, _, rfl, d, _, rfl, DPut.k (k := Sum.inl n) B4.dc (by rw [kvB_len]; exact small1000 (by omega)), ?_⟩
          refine ⟨_, rfl, _, _, rfl, rfl, _, rfl, b, C, dy, _, rfl, (by rw [upd_ne nbd]; exact eb4), BC.cl, BC.nN, (by rw [bfl_eq]; show 2 < 1000; decide), _, rfl, ?_⟩
          rw [kvB_put T.fresh nm (once xs), bfl_put]
          rcases h with ⟨_, _, q⟩ | ⟨h, _⟩
          · refine q nm _ ?_ nnm ⟨⟨dy, upd_same⟩, by rw [upd_ne nbd.symm, upd_same], fun e he => ?_⟩
            · obtain ⟨dz, eb⟩ := B.ob
              refine ((g04.x _).put (.inl (.inr rfl)) fun ps z => ?_).put (.inl (.inl rfl)) fun ps z => ?_
              · rw [B.dc] at z; cases z
              · rw [eb] at z; cases z
            · rcases List.mem_append.mp he with he | he
              · obtain ⟨h1, h2⟩ := B.neb he
                rw [upd_ne h1, upd_ne h2]
                exact B4.own e he
              · rw [List.mem_singleton.mp he]
                obtain ⟨dz, eb⟩ := B.ob
                show upd (upd H4 d _) b _ nm = _
                rw [upd_ne (ne_of_none eb nnm).symm, upd_ne (ne_of_none B.dc nnm).symm]
                exact enm4
          · omega
        · rw [decide_eq_true (show ((allN (rws tb ++ [xs])).length : Int) > 12 by omega)]
          refine iteT ?_
          rcases h with ⟨_, h, _⟩ | ⟨_, q⟩
          · exact absurd h h12
          · refine ⟨_, rfl, by rw [sizeLine_eq]; decide +kernel, .inr ⟨_, rfl, by decide, _, rfl, by rw [sizeLine_eq]; decide +kernel, _, rfl, by rw [sizeLine_eq]; decide +kernel, q _ g04⟩⟩
      · rw [decide_eq_true (show (tb.length : Int) ≥ 30 by omega)]
        refine iteT ?_
        rcases h with ⟨h, _, _⟩ | ⟨_, q⟩
        · exact absurd h h30
        · refine ⟨_, rfl, by rw [sizeLine_eq]; decide +kernel, .inr ⟨_, rfl, by decide, _, rfl, by rw [sizeLine_eq]; decide +kernel, _, rfl, by rw [sizeLine_eq]; decide +kernel, q _ g1⟩⟩
end
end K1
namespace K1
open PySem PySem.Spec PyProof.Rows L2 Gr GxR Srx Skx Dcx
section
variable {P : Program} {w : World} {K : PySem.W.Frag} {mg : Str → Option Value} {base : Heap} {f C : Addr} {fd : FuncData} {p : He.Defn} {N : TabN} {R : ErN}
theorem scTake : FnScope ["self", "number"] ["self", "number"] (defScope m_take) := ⟨rfl, rfl, rfl, by decide +kernel, rfl, by decide +kernel, by decide +kernel⟩
theorem ok_take (F : FnM K "take" "Book.take" m_take f fd) (BC : BkC K mg C) (eNo : ErrC K mg "NoRow" R.no) (g_isinstance : mg "isinstance" = none) (g_int : mg "int" = none) (g_bool : mg "bool" = none) :
    FnOk P w K mg base (L2.CX P w) 1 f fd ["self", "number"] (spTake K C R) := by
  refine F.ok scTake (fun vs H Q E h => ?_) (fun cdv A outer s H vs Q E hr h => ?_)
  · obtain ⟨b, d, tb, n, v, rfl, _⟩ := h
    rfl
  · obtain ⟨b, d, tb, n, v, rfl, B, T, h⟩ := h
    refine ⟨_, pss_cons (ps_if (PW.pt (pw_or (pt_not (pt_val (pe_callB call_isi (by rfl) g_isinstance (by decide +kernel) (pa_cons (pv 1) (pa_cons (pe_bltn (v := .ty "int") (by rfl) g_int (by decide +kernel) rfl) pa_nil))))) (pw_or (pt_val (pe_callB call_isi (by rfl) g_isinstance (by decide +kernel) (pa_cons (pv 1) (pa_cons (pe_bltn (v := .ty "bool") (by rfl) g_bool (by decide +kernel) rfl) pa_nil)))) (pw_or1 (pt_cmp (pc_dnotin (hu_of hr) (pv 1) (pe_fld (pv 0) rfl))))))) (pss_one (ps_raise rfl (takes_of rfl rfl rfl rfl) (SkE.pmk_own1 PySem.F.excBase_ValueError eNo.xC eNo.gC eNo.kC (raises_own eNo.bC eNo.tC) (by rfl) pe_str))) (pss_nil)) (pss_one (ps_ddel (pe_fld (pv 0) rfl) (pv 1))), ?_⟩
    obtain ⟨dx, eb⟩ := B.ob
    rcases h with ⟨k, rfl, hk, q⟩ | ⟨⟨k, rfl, hk⟩ | ⟨t, ty, kt⟩, q⟩
    · refine ⟨_, rfl, _, _, _, _, true, rfl, .ty _, .base (.int k), kit_ty (by decide +kernel), _, rfl, ?_⟩
      refine iteF ⟨_, rfl, _, _, _, _, false, rfl, .ty _, .base (.int k), kit_ty (by decide +kernel), _, rfl, ?_⟩
      refine iteF ⟨_, rfl, _, rfl, b, C, dx, _, _, rfl, eb, BC.cl, BC.nR, bfl_rows d n, d, _, rfl, DGet.k (k := Sum.inl k) B.dc, _, rfl, ?_⟩
      rw [kvB_in, decide_eq_true hk]
      refine iteF ⟨_, rfl, b, C, dx, _, _, rfl, eb, BC.cl, BC.nR, bfl_rows d n, _, rfl, d, _, Sum.inl k, rfl, B.dc, rfl, (by rw [kvB_in, decide_eq_true hk]), ?_⟩
      rw [kvB_drop]
      have nbd := B.ne
      refine q _ (((Gr.refl H).x _).put (.inl rfl) fun ps z => ?_) ⟨⟨dx, by rw [upd_ne nbd]; exact eb⟩, upd_same, fun e he => ?_⟩
      · rw [B.dc] at z; cases z
      · have he := (List.mem_filter.mp he).1
        rw [upd_ne (B.neb he).2]
        exact B.own e he
    · refine ⟨_, rfl, _, _, _, _, true, rfl, .ty _, .base (.int k), kit_ty (by decide +kernel), _, rfl, ?_⟩
      refine iteF ⟨_, rfl, _, _, _, _, false, rfl, .ty _, .base (.int k), kit_ty (by decide +kernel), _, rfl, ?_⟩
      refine iteF ⟨_, rfl, _, rfl, b, C, dx, _, _, rfl, eb, BC.cl, BC.nR, bfl_rows d n, d, _, rfl, DGet.k (k := Sum.inl k) B.dc, _, rfl, ?_⟩
      rw [kvB_in, decide_eq_false hk]
      exact iteT (q H (Gr.refl H))
    · rcases kt with kt | ⟨kt, kb⟩
      · refine ⟨_, rfl, _, _, _, _, false, rfl, .ty _, ty, kit_ty kt, _, rfl, ?_⟩
        exact iteT (q H (Gr.refl H))
      · refine ⟨_, rfl, _, _, _, _, true, rfl, .ty _, ty, kit_ty kt, _, rfl, ?_⟩
        refine iteF ⟨_, rfl, _, _, _, _, true, rfl, .ty _, ty, kit_ty kb, _, rfl, ?_⟩
        exact iteT (q H (Gr.refl H))
abbrev nBRows : List Str := ["self", "number", "row"]
theorem scBRows : FnScope nBRows ["self"] (defScope m_rows) := ⟨rfl, rfl, rfl, by decide +kernel, rfl, by decide +kernel, by decide +kernel⟩
theorem ok_brows (F : FnM K "rows" "Book.rows" m_rows f fd) (BC : BkC K mg C) (g_list : mg "list" = none) : FnOk P w K mg base CX0 1 f fd ["self"] (spBRows C) := by
  refine F.ok scBRows (fun vs H Q E h => ?_) (fun cdv A outer s H vs Q E hr h => ?_)
  · obtain ⟨b, d, tb, n, rfl, _⟩ := h
    rfl
  · obtain ⟨b, d, tb, n, rfl, B, T, q⟩ := h
    refine ⟨_, PSs.nox (pss_one (ps_ret (pe_lock (pe_lc (own := [("number", 1), ("row", 2)]) (g := gTup K 2 (gCons (gName 1) (gCons (gName 2) gNil))) (tt := tYes) rfl scBRows.nd (pi_items (pe_fld (pv 0) rfl)) (blkOk_by (N := nBRows) (sc := defScope m_rows) (by decide +kernel)) (fun _ _ _ _ _ => (pg_tup rfl (pgs_cons (pg_name (i := 1) scBRows.nd rfl (.inl rfl)) (pgs_cons (pg_name (i := 2) scBRows.nd rfl (.inl rfl)) pgs_nil)))) (fun _ _ _ _ _ => pts_nil) (fun _ _ _ _ _ => (pe_tup (pa_cons (pv 1) (pa_cons (pe_callTy (r := rListOf K) call_list_of (by rfl) g_list boot_list (pa_cons (pv 2) pa_nil)) pa_nil)))))))), ?_⟩
    obtain ⟨dx, eb⟩ := B.ob
    have nbd := B.ne
    refine ⟨d, _, B.dc, trivial, fun od => ?_⟩
    have eL : (upd H d (.frz od (.dK (kvB tb)))) d = some (.frz od (.dK (kvB tb))) := upd_same
    have oL : ∀ e ∈ tb, (upd H d (.frz od (.dK (kvB tb)))) e.2.1 = some (.lst (e.2.2.map V.str)) := fun e he => by rw [upd_ne (B.neb he).2]; exact B.own e he
    have freeL : ∀ x, (upd H d (.frz od (.dK (kvB tb)))) x = none → H x = none := fun x hx => by
      by_cases h : x = d
      · rw [h, upd_same] at hx; cases hx
      · rw [upd_ne h] at hx; exact hx
    refine ⟨_, rfl, b, C, dx, _, _, rfl, (by rw [upd_ne nbd]; exact eb), BC.cl, BC.nR, bfl_rows d n, d, od, kvB tb, rfl, eL, fun D nD => ?_⟩
    have hback : ∀ H', Gr (upd H d (.frz od (.dK (kvB tb)))) H' → Gr H (upd H' d (.dK (kvB tb))) := fun H' g => gr_lock B.dc (fun ps z => nomatch z) g
    generalize upd H d (.frz od (.dK (kvB tb))) = HL at eL oL freeL nD hback
    refine lc_it (walk_items (d := d) (o := od) (kvs := kvB tb)) (Qd := _) (fun i H2 => Gr HL H2 ∧ ∃ rs : List Pr1, rs.map (fun r => (r.k, r.r)) = nr (tb.take i) ∧ H2 D = some (.lst (rs.map fun r => V.ref r.t)) ∧ ∀ r ∈ rs, HL r.t = none ∧ HL r.l = none ∧ r.t ≠ D ∧ r.l ≠ D ∧ H2 r.t = some (.tup [.int r.k, .ref r.l]) ∧ H2 r.l = some (.lst (r.r.map V.str)))
      ⟨Gr.new nD, [], rfl, upd_same, fun _ z => absurd z List.not_mem_nil⟩ (fun i H2 _ h => h.1.at_ _ _ eL notbl_frz) (fun i x H2 H3 hi h y => ?_) (fun H2 h => ?_)
    · obtain ⟨g2, rs, er, eD, own⟩ := h
      obtain ⟨TT, ky, vv, rfl, nT, rfl, hk, hv⟩ := y
      rw [kvB_len] at hi
      have hx : tb[i]? = some tb[i] := List.getElem?_eq_getElem hi
      generalize tb[i] = e0 at hx
      have m0 := List.mem_of_getElem? hx
      have hkv : (kvB tb)[i]? = some ((Sum.inl e0.1 : Key), V.ref e0.2.1) := by
        unfold kvB
        rw [List.getElem?_map, hx]
        rfl
      have hk : Option.map (fun kv : Key × V => kV kv.1) (kvB tb)[i]? = some ky := hk
      have hv : Option.map Prod.snd (kvB tb)[i]? = some vv := hv
      rw [hkv] at hk hv
      obtain rfl : V.int e0.1 = ky := Option.some.inj hk
      obtain rfl : V.ref e0.2.1 = vv := Option.some.inj hv
      have g3 : Gr H2 (upd H2 TT (.tup [.int e0.1, .ref e0.2.1])) := Gr.new nT
      refine ⟨TT, _, rfl, .inl (.inl upd_same), rfl, _, _, rfl, _, _, rfl, rfl, rfl, yesIf ?_⟩
      have eD3 := g3.lst eD
      have own3 : ∀ r ∈ rs, HL r.t = none ∧ HL r.l = none ∧ r.t ≠ D ∧ r.l ≠ D ∧ (upd H2 TT (.tup [.int e0.1, .ref e0.2.1])) r.t = some (.tup [.int r.k, .ref r.l]) ∧ (upd H2 TT (.tup [.int e0.1, .ref e0.2.1])) r.l = some (.lst (r.r.map V.str)) := fun r hr => by
        obtain ⟨h1, h2, h3, h4, h5, h6⟩ := own r hr
        exact ⟨h1, h2, h3, h4, g3.tup h5, g3.lst h6⟩
      have gL3 := g2.trans g3
      generalize upd H2 TT (.tup [.int e0.1, .ref e0.2.1]) = H3 at g3 eD3 own3 gL3
      refine ⟨_, rfl, _, rfl, e0.2.1, e0.2.2.map V.str, rfl, .inl (.inl (.inl (gL3.lst (oL e0 m0)))), fun l nl => ⟨(by show 2 ≤ sizeLine; decide), fun t nt => ?_⟩⟩
      have lt : l ≠ t := ne_of_none (show (upd H3 l (.lst (e0.2.2.map V.str))) l = some _ from upd_same) nt
      have gl : Gr H3 (upd (upd H3 l (.lst (e0.2.2.map V.str))) t (.tup [.int e0.1, .ref l])) := (Gr.new nl).trans (Gr.new nt)
      have nt3 : H3 t = none := (Gr.new nl).free nt
      refine ⟨_, gl.lst eD3, ?_, (gL3.trans gl).mut nD, rs ++ [⟨t, e0.1, l, e0.2.2⟩], ?_, ?_, fun r hr => ?_⟩
      · rw [List.length_map]
        have h1 := congrArg List.length er
        rw [List.length_map] at h1
        unfold nr at h1
        rw [List.length_map, List.length_take] at h1
        have := T.few
        exact small1000 (by omega)
      · rw [List.map_append, er]
        unfold nr
        rw [take_map hx]
        rfl
      · rw [upd_same, List.map_append]
        rfl
      · have lD : l ≠ D := (ne_of_none eD3 nl).symm
        have tD : t ≠ D := (ne_of_none eD3 nt3).symm
        rcases List.mem_append.mp hr with hr | hr
        · obtain ⟨h1, h2, h3, h4, h5, h6⟩ := own3 r hr
          exact ⟨h1, h2, h3, h4, by rw [upd_ne h3]; exact gl.tup h5, by rw [upd_ne h4]; exact gl.lst h6⟩
        · rw [List.mem_singleton.mp hr]
          refine ⟨gL3.free nt3, gL3.free nl, tD, lD, by rw [upd_ne tD, upd_same], by rw [upd_ne lD, upd_ne lt, upd_same]⟩
    · obtain ⟨g2, rs, er, eD, own⟩ := h
      rw [kvB_len, List.take_length] at er
      have nDd : D ≠ d := (ne_of_none eL nD).symm
      refine ⟨g2.at_ _ _ eL notbl_frz, q D _ rs (hback H2 g2) ⟨freeL D nD, by rw [upd_ne nDd]; exact eD, fun r hr => ?_⟩ er⟩
      obtain ⟨h1, h2, h3, h4, h5, h6⟩ := own r hr
      exact ⟨freeL _ h1, freeL _ h2, h3, h4, by rw [upd_ne (ne_of_none eL h1).symm]; exact h5, by rw [upd_ne (ne_of_none eL h2).symm]; exact h6⟩
theorem scBLR : FnScope ["self"] ["self"] (defScope m_least_rows) := ⟨rfl, rfl, rfl, by decide +kernel, rfl, by decide +kernel, by decide +kernel⟩
theorem ok_bleastrows (F : FnM K "least_rows" "Book.least_rows" m_least_rows f fd) (BC : BkC K mg C) (cSets : MCalls P w K mg base CX0 1 C "_sets" (spBSets C)) (cLO : Calls P w K mg base CX0 5 "least_of" (spLeast K N.l N.w)) : FnOk P w K mg base CX0 6 f fd ["self"] (spBLeastRows C N) := by
  refine F.ok scBLR (fun vs H Q E h => ?_) (fun cdv A outer s H vs Q E hr h => ?_)
  · obtain ⟨b, d, tb, n, rfl, _⟩ := h
    rfl
  · obtain ⟨b, d, tb, n, rfl, B, T, hN, q⟩ := h
    refine ⟨_, PSs.nox (pss_one (ps_ret (pe_k cLO hr (by decide) (by rfl) (pa_cons (pe_m0 cSets BC.cl hr (by decide) pa0 (pv 0)) pa_nil)))), ?_⟩
    refine ⟨_, rfl, b, d, tb, n, rfl, B, b, d, tb, n, rfl, B, fun L nL => ?_⟩
    have g1 : Gr H (upd H L (.lst (tb.map fun e => V.ref e.2.1))) := Gr.new nL
    refine ⟨L, tb.map fun e => (e.2.1, e.2.2), rfl, .inl (.inl (by rw [upd_same, List.map_map]; rfl)), fun q0 hq0 => ?_, ?_, g1.tabG hN.s.l, g1.tabG hN.s.w, fun p H2 ks g2 T2 e2 => q p H2 ks (g1.trans g2) (T2.from g1) ?_⟩
    · obtain ⟨e, he, rfl⟩ := List.mem_map.mp hq0
      exact ⟨.inl (.inl ((B.gr g1).own e he)), Nat.le_trans (T.rlen (rws_mem he)).2.2 (by decide)⟩
    · rw [List.length_map]
      have := T.few
      omega
    · rw [e2]
      rw [show (tb.map fun e => (e.2.1, e.2.2)).map (fun x => x.2) = rws tb from by rw [List.map_map]; rfl]
      rw [once_all fun r hr => (T.rlen hr).1]
abbrev nBLe : List Str := ["self", "sets", "row"]
theorem scBLe : FnScope nBLe ["self"] (defScope m_least) := ⟨rfl, rfl, rfl, by decide +kernel, rfl, by decide +kernel, by decide +kernel⟩
theorem ok_bleast (F : FnM K "least" "Book.least" m_least f fd) (BC : BkC K mg C) (cLR : MCalls P w K mg base CX0 6 C "least_rows" (spBLeastRows C N)) (cGr : Calls P w K mg base CX0 6 "grown" (spGrown K N)) : FnOk P w K mg base CX0 7 f fd ["self"] (spBLeast C N) := by
  refine F.ok scBLe (fun vs H Q E h => ?_) (fun cdv A outer s H vs Q E hr h => ?_)
  · obtain ⟨b, d, tb, n, rfl, _⟩ := h
    rfl
  · obtain ⟨b, d, tb, n, rfl, B, T, hN, q⟩ := h
    refine ⟨_, PSs.nox (pss_cons (ps_set (i := 1) scBLe.nd rfl (.inl rfl) (pe_lst (pa_cons (pe_lst pa_nil) pa_nil))) (pss_cons (ps_for PassesOwn.never rfl (pi_list (pe_m0 cLR BC.cl hr (by decide) pa0 (pv 0))) (pg_name (i := 2) scBLe.nd rfl (.inl rfl)) (pss_one (ps_set (i := 1) scBLe.nd rfl (.inl rfl) (pe_k cGr hr (by decide) (by rfl) (pa_cons (pv 1) (pa_cons (pv 2) pa_nil)))))) (pss_one (ps_ret (pv 1))))), ?_⟩
    have one : 1 ≤ sizeLine := by rw [sizeLine_eq]; omega
    refine ⟨Nat.zero_le _, fun e0 ne0 => ⟨one, fun A0 nA0 => ?_⟩⟩
    have T0 := Told.one ne0 nA0
    have g3 : Gr H (upd (upd H e0 (.lst [])) A0 (.lst [V.ref e0])) := (Gr.new ne0).trans (Gr.new nA0)
    generalize upd (upd H e0 (.lst [])) A0 (.lst [V.ref e0]) = H1 at g3 T0
    refine ⟨_, rfl, b, d, tb, n, rfl, B.gr g3, b, d, tb, n, rfl, B.gr g3, T, hN.gr g3, fun L H2 ks g2 T2 e2 => ?_⟩
    have Lin : ∀ r ∈ ks.map (·.2), Ris r ∧ Nms r ∧ r.length ≤ 12 ∧ ∀ y ∈ r, y ∈ allN (rws tb) := by
      intro r hr
      rw [e2] at hr
      have m1 := least_sub (fun x hx => (T.rlen hx).1) hr
      exact ⟨(T.rlen m1).1, (T.rlen m1).2.1, (T.rlen m1).2.2, row_in m1⟩
    refine ⟨L, rfl, ⟨_, .inl (.inl T2.at_)⟩, for_list (K := K) (xs := ks.map fun q : Addr × List Str => V.ref q.1) (fun i σ H3 => Gr H2 H3 ∧ ∃ (A : Addr) (as : List (Addr × List Str)) (v2 : Option V), Told H H3 A as ∧ as.map (·.2) = grown ((ks.map (·.2)).take i) ∧ σ = [some (.ref b), some (.ref A), v2]) ⟨Gr.refl H2, A0, _, none, (T0.gr g2), rfl, rfl⟩ (fun i σ H3 _ h => .inl (.inl (h.1.lst T2.at_))) (fun i x σ H3 hx h => ?_) (fun σ H3 h => ?_)⟩
    · obtain ⟨g23, A, as, v2, TA, ea, rfl⟩ := h
      obtain ⟨k0, hk0, rfl⟩ := get_map hx
      have mk := List.mem_of_getElem? hk0
      obtain ⟨rR, rN, rl, rin⟩ := Lin k0.2 (List.mem_map.mpr ⟨k0, mk, rfl⟩)
      have hin : ∀ r ∈ (ks.map (·.2)).take i, ∀ y ∈ r, y ∈ allN (rws tb) := fun r hr => (Lin r (List.mem_of_mem_take hr)).2.2.2
      have gl := grown_len (ris_allN _) hin
      have as2 : as.length ≤ 4096 := by
        have h1 := congrArg List.length ea
        rw [List.length_map] at h1
        rw [h1]
        exact Nat.le_trans gl (Nat.pow_le_pow_right (by decide) T.nms : 2 ^ _ ≤ 2 ^ 12)
      have g03 := (g3.trans g2).trans g23
      refine ⟨_, rfl, _, rfl, A, .ref k0.1, as, k0.2, rfl, TA.ll, fun q0 hq0 => ?_, by omega, ⟨k0.1, rfl, g23.lst (T2.own k0 mk).2.2, rN, by omega⟩, rR.nodup, rl, (hN.s.gr g03), fun p H4 ps g4 T4 e4 => ⟨g23.trans g4, p, ps, _, T4.from g03, ?_, rfl⟩⟩
      · have m1 : q0.2 ∈ grown ((ks.map (·.2)).take i) := by rw [← ea]; exact List.mem_map.mpr ⟨q0, hq0, rfl⟩
        obtain ⟨h1, h2, h3⟩ := grown_in (ris_allN _) hin m1
        have := T.nms
        exact ⟨h1, by omega⟩
      · rw [e4, ea, ← grown_snoc, ← List.map_take, ← List.map_take, take_map hk0]
    · obtain ⟨g23, A, as, v2, TA, ea, rfl⟩ := h
      rw [List.length_map, List.take_of_length_le (by rw [List.length_map]; exact Nat.le_refl _)] at ea
      refine ⟨_, rfl, q A H3 as ((g3.trans g2).trans g23) TA ?_⟩
      rw [ea, e2]
      have z := grown_least_rows (rws tb)
      rw [once_all fun r hr => (T.rlen hr).1] at z
      exact z
end
end K1
namespace K1
open PySem PySem.Spec PyProof.Rows L2 Gr GxR Srx Skx Dcx
section
variable {P : Program} {w : World} {K : PySem.W.Frag} {mg : Str → Option Value} {base : Heap} {f C : Addr} {fd : FuncData} {p : He.Defn} {N : TabN} {R : ErN}
abbrev nMetBy : List Str := ["self", "one", "row"]
theorem scMetBy : FnScope nMetBy ["self", "one"] (defScope m_met_by) := ⟨rfl, rfl, rfl, by decide +kernel, rfl, by decide +kernel, by decide +kernel⟩
theorem ok_metby (F : FnM K "_met_by" "Book._met_by" m_met_by (He.fAd K p) fd) (TB : Tb K base mg p) (eT : (He.cT K p).2 = N.b) (BC : BkC K mg C) (cSets : MCalls P w K mg base CX0 1 C "_sets" (spBSets C)) (cMe : Calls P w K mg base CX0 1 "meets_sets" (spMeets K N.m)) (g_all : mg "all" = none) :
    FnOk P w K mg base CX0 4 (He.fAd K p) fd ["self", "one"] (spBMetBy K C N) := by
  refine okC F scMetBy (fun vs H Q E h => ?_) (fun A outer s H vs Q E hr h => ?_)
  · obtain ⟨b, d, tb, n, a, xs, rfl, _⟩ := h
    rfl
  · obtain ⟨b, d, tb, n, a, xs, rfl, B, T, hN, ha, q⟩ := h
    have hT : TabG H (He.cT K p).2 := eT ▸ hN.b
    refine ⟨_, PSs.nox (pss_one (ps_ret (Gx.pe_all (own := [("row", 2)]) (gt := gName 2) (tt := tYes) hr rfl scMetBy.nd (by rfl) g_all TB rfl (blkOk_by (N := nMetBy) (sc := defScope m_met_by) (by decide +kernel)) (Gx.gxs_by (by decide +kernel)) (pi_list (pe_m0 cSets BC.cl hr (by decide) pa0 (pv 0))) (fun _ _ _ _ _ _ => (pg_name (i := 2) scMetBy.nd rfl (.inl rfl))) (fun _ _ _ _ _ _ => pts_nil) (fun _ _ _ _ _ _ => (pe_k cMe (Gx.room_gx hr _) (by decide) (by rfl) (pa_cons (pv 1) (pa_cons (pv 2) pa_nil))))))), ?_⟩
    refine ⟨_, rfl, b, d, tb, n, rfl, B, b, d, tb, n, rfl, B, fun L nL => ⟨L, rfl, ⟨_, .inl (.inl upd_same)⟩, ?_⟩⟩
    have g1 : Gr H (upd H L (.lst (tb.map fun e => V.ref e.2.1))) := Gr.new nL
    have eL : (upd H L (.lst (tb.map fun e => V.ref e.2.1))) L = some (.lst (tb.map fun e => V.ref e.2.1)) := upd_same
    generalize upd H L (.lst (tb.map fun e => V.ref e.2.1)) = H1 at g1 eL
    refine Gx.gx_list (xs := tb.map fun e : Int × Addr × List Str => V.ref e.2.1) (g1.tabG hT) (fun i H2 => Gr H1 H2 ∧ mtAll xs ((rws tb).take i) = true) (fun H2 t2 => ⟨Gr.tabbed (g1.tabG hT) t2, rfl⟩) (fun i H2 _ h => .inl (.inl (h.1.lst eL))) (fun i x H2 Nx nx hx h => ?_) (fun H2 h => ?_)
    · obtain ⟨g2, hn⟩ := h
      obtain ⟨e0, he0, rfl⟩ := get_map hx
      have m0 := List.mem_of_getElem? he0
      have g02 := g1.trans g2
      have etk : mtAll xs ((rws tb).take (i + 1)) = (mtAll xs ((rws tb).take i) && mt xs e0.2.2) := by
        unfold mtAll rws
        rw [← List.map_take, take_map he0, List.all_append, ← List.map_take]
        simp
      refine ⟨rfl, yesIf ?_⟩
      refine ⟨_, rfl, _, rfl, a, e0.2.1, xs, e0.2.2, rfl, .inl (.inl (g02.lst ha)), .inl (.inl ((B.gr g02).own e0 m0)), g02.tabG hN.s.m, fun H3 g3 => ⟨_, rfl, fun e => ?_, fun e => nx _ ⟨g2.trans g3, ?_⟩⟩⟩
      · have z := q H3 (g02.trans g3)
        rw [show mtAll xs (rws tb) = false from by
          rw [Bool.eq_false_iff]
          intro hh
          have := List.all_eq_true.mp hh _ (rws_mem m0)
          rw [show mt xs e0.2.2 = false from e] at this
          cases this] at z
        exact z
      · rw [etk, hn, show mt xs e0.2.2 = true from Bool.ne_false_iff.mp e]
        rfl
    · have hn := h.2
      rw [List.length_map, show (rws tb).take tb.length = rws tb from List.take_of_length_le (by unfold rws; rw [List.length_map]; exact Nat.le_refl _)] at hn
      have z := q H2 (g1.trans h.1)
      rw [hn] at z
      exact z
theorem scBMe : FnScope ["self", "names"] ["self", "names"] (defScope m_meets) := ⟨rfl, rfl, rfl, by decide +kernel, rfl, by decide +kernel, by decide +kernel⟩
theorem ok_bmeets (F : FnM K "meets" "Book.meets" m_meets f fd) (BC : BkC K mg C) (cNF : Calls P w K mg base (L2.CX P w) 3 "names_from" (spNamesFrom K N.i R)) (cMB : MCalls P w K mg base CX0 4 C "_met_by" (spBMetBy K C N)) :
    FnOk P w K mg base (L2.CX P w) 5 f fd ["self", "names"] (spBMeets K C N R) := by
  refine F.ok scBMe (fun vs H Q E h => ?_) (fun cdv A outer s H vs Q E hr h => ?_)
  · obtain ⟨b, d, tb, n, v, rfl, _⟩ := h
    rfl
  · obtain ⟨b, d, tb, n, v, rfl, B, T, hN, h⟩ := h
    refine ⟨_, pss_one (ps_ret (pe_m cMB BC.cl hr (by decide) pa0 (pv 0) (pa_cons (pe_f cNF hr (by decide) (paE (takes_of rfl rfl rfl rfl)) (by rfl) (pa_cons (pv 1) pa_nil)) pa_nil))), ?_⟩
    refine ⟨_, rfl, b, d, tb, n, rfl, B, _, rfl, _, rfl, hN.s.i, ?_⟩
    rcases h with ⟨xs, hk, q⟩ | ⟨hb, q⟩ | ⟨hb, q⟩
    · refine .inl ⟨xs, hk, fun p H1 g1 np ep => ⟨b, d, tb, n, p, once xs, rfl, B.gr g1, T, hN.gr g1, ep, fun H2 g2 => ?_⟩⟩
      rw [mtAll_once_l]
      exact q H2 (g1.trans g2)
    · exact .inr (.inl ⟨hb, q⟩)
    · exact .inr (.inr ⟨hb, q⟩)
theorem scBMg : FnScope ["self", "names", "asked"] ["self", "names"] (defScope m_meeting) := ⟨rfl, rfl, rfl, by decide +kernel, rfl, by decide +kernel, by decide +kernel⟩
theorem ok_bmeeting (F : FnM K "_meeting" "Book._meeting" m_meeting f fd) (BC : BkC K mg C) (cNF : Calls P w K mg base (L2.CX P w) 3 "names_from" (spNamesFrom K N.i R)) (cMB : MCalls P w K mg base CX0 4 C "_met_by" (spBMetBy K C N)) (eMeet : ErrC K mg "NoMeet" R.meet) :
    FnOk P w K mg base (L2.CX P w) 5 f fd ["self", "names"] (spBMeeting K C N R) := by
  refine F.ok scBMg (fun vs H Q E h => ?_) (fun cdv A outer s H vs Q E hr h => ?_)
  · obtain ⟨b, d, tb, n, v, rfl, _⟩ := h
    rfl
  · obtain ⟨b, d, tb, n, v, rfl, B, T, hN, h⟩ := h
    refine ⟨_, pss_cons (ps_set (i := 2) scBMg.nd rfl (.inl rfl) (pe_f cNF hr (by decide) (paE (takes_of rfl rfl rfl rfl)) (by rfl) (pa_cons (pv 1) pa_nil))) (pss_cons (ps_if (pt_not (pt_val (pe_m cMB BC.cl hr (by decide) pa0 (pv 0) (pa_cons (pv 2) pa_nil)))) (pss_one (ps_raise rfl (takes_of rfl rfl rfl rfl) (SkE.pmk_own1 PySem.F.excBase_ValueError eMeet.xC eMeet.gC eMeet.kC (raises_own eMeet.bC eMeet.tC) (by rfl) pe_str))) (pss_nil)) (pss_one (ps_ret (pv 2)))), ?_⟩
    refine ⟨_, rfl, _, rfl, hN.s.i, ?_⟩
    rcases h with ⟨xs, hk, hm, q⟩ | ⟨xs, hk, hm, q⟩ | ⟨hb, q⟩ | ⟨hb, q⟩
    · refine .inl ⟨xs, hk, fun p H1 g1 np ep => ⟨_, rfl, b, d, tb, n, rfl, B.gr g1, _, rfl, b, d, tb, n, p, once xs, rfl, B.gr g1, T, hN.gr g1, ep, fun H2 g2 => ⟨_, rfl, ?_⟩⟩⟩
      rw [mtAll_once_l, hm]
      exact iteF ⟨_, rfl, q p H2 (g1.trans g2) np (g2.lst ep)⟩
    · refine .inl ⟨xs, hk, fun p H1 g1 np ep => ⟨_, rfl, b, d, tb, n, rfl, B.gr g1, _, rfl, b, d, tb, n, p, once xs, rfl, B.gr g1, T, hN.gr g1, ep, fun H2 g2 => ⟨_, rfl, ?_⟩⟩⟩
      rw [mtAll_once_l, hm]
      exact iteT (q H2 (g1.trans g2))
    · exact .inr (.inl ⟨hb, q⟩)
    · exact .inr (.inr ⟨hb, q⟩)
end
end K1
namespace K1
open PySem PySem.Spec PyProof.Rows L2 Gr GxR Srx Skx Dcx
section
variable {P : Program} {w : World} {K : PySem.W.Frag} {mg : Str → Option Value} {base : Heap} {f C : Addr} {fd : FuncData} {p : He.Defn} {N : TabN} {R : ErN}
abbrev nBookOf : List Str := ["rows", "book", "row"]
end
end K1
namespace K1
open PySem PySem.Spec PyProof.Rows L2 Gr GxR Srx Skx Dcx
section
variable {P : Program} {w : World} {K : PySem.W.Frag} {mg : Str → Option Value} {base : Heap} {f C : Addr} {fd : FuncData} {p : He.Defn} {N : TabN} {R : ErN}
abbrev nStruck : List Str := ["self", "name", "gone", "row", "one"]
abbrev nWithout : List Str := ["self", "name", "gone", "row"]
abbrev nCrossed : List Str := ["self", "other", "row", "theirs"]
end
end K1
namespace K1
open PySem PySem.Spec PyProof.Rows L2 Gr GxR Srx Skx Dcx
section
variable {P : Program} {w : World} {K : PySem.W.Frag} {mg : Str → Option Value} {base : Heap} {f C : Addr} {fd : FuncData} {p : He.Defn} {N : TabN} {R : ErN}
abbrev nBPared : List Str := ["self", "names", "asked", "kept", "name", "rest", "one"]
abbrev nFirst : List Str := ["self", "name", "asked", "number", "row", "one"]
theorem scFirst : FnScope nFirst ["self", "name", "asked"] (defScope m_first_own) := ⟨rfl, rfl, rfl, by decide +kernel, rfl, by decide +kernel, by decide +kernel⟩
theorem ok_first_own (F : FnM K "_first_own" "Book._first_own" m_first_own f fd) (BC : BkC K mg C) : FnOk P w K mg base CX0 1 f fd ["self", "name", "asked"] (spFirstOwn K C) := by
  refine F.ok scFirst (fun vs H Q E h => ?_) (fun cdv A outer s H vs Q E hr h => ?_)
  · obtain ⟨b, d, tb, n, x, a, asked, rfl, _⟩ := h
    rfl
  · obtain ⟨b, d, tb, n, x, a, asked, rfl, B, T, ha, nma, nx, al, q⟩ := h
    refine ⟨_, PSs.nox (pss_cons (ps_lock (ps_for PassesOwn.never rfl (pi_items (pe_fld (pv 0) rfl)) (pg_tup rfl (pgs_cons (pg_name (i := 3) scFirst.nd rfl (.inl rfl)) (pgs_cons (pg_name (i := 4) scFirst.nd rfl (.inr rfl)) pgs_nil))) (pss_one (ps_if (pt_cmpR (op_eqD (hu64 hr)) (pe_lc (own := [("one", 5)]) (g := gName 5) rfl scFirst.nd (pi_list (pv 2)) (blkOk_by (N := nFirst) (sc := defScope m_first_own) (by decide +kernel)) (fun _ _ _ _ _ => (pg_name (i := 5) scFirst.nd rfl (.inl rfl))) (fun _ _ _ _ _ => pts_one (pt_cmpR (r := rIn K false) op_in_seq (pv 5) (pv 4) rfl)) (fun _ _ _ _ _ => (pv 5))) (pe_lst (pa_cons (pv 1) pa_nil)) (nomark _)) (pss_one (ps_ret (pv 3))) (pss_nil))))) (pss_one (ps_ret pe_non))), ?_⟩
    obtain ⟨dx, eb⟩ := B.ob
    have nbd := B.ne
    have nad : a ≠ d := ne_of ha B.dc (by intro z; cases z)
    refine ⟨d, _, B.dc, trivial, fun od => ?_⟩
    have eL : (upd H d (.frz od (.dK (kvB tb)))) d = some (.frz od (.dK (kvB tb))) := upd_same
    have oL : ∀ e ∈ tb, (upd H d (.frz od (.dK (kvB tb)))) e.2.1 = some (.lst (e.2.2.map V.str)) := fun e he => by rw [upd_ne (B.neb he).2]; exact B.own e he
    have aL : (upd H d (.frz od (.dK (kvB tb)))) a = some (.lst (asked.map V.str)) := by rw [upd_ne nad]; exact ha
    refine ⟨_, rfl, b, C, dx, _, _, rfl, (by rw [upd_ne nbd]; exact eb), BC.cl, BC.nR, bfl_rows d n, d, od, kvB tb, rfl, eL, ?_⟩
    have hback : ∀ H', Gr (upd H d (.frz od (.dK (kvB tb)))) H' → Gr H (upd H' d (.dK (kvB tb))) := fun H' g => gr_lock B.dc (fun ps z => nomatch z) g
    generalize upd H d (.frz od (.dK (kvB tb))) = HL at eL oL aL hback
    refine for_it (walk_items (d := d) (o := od) (kvs := kvB tb)) (fun i σ H2 => Gr HL H2 ∧ (tb.take i).find? (fun e => decide (asked.filter e.2.2.contains = [x])) = none ∧ ∃ v3 v4, σ = [some (.ref b), some (.str x), some (.ref a), v3, v4, none]) ⟨Gr.refl HL, rfl, none, none, rfl⟩ (fun i σ H2 _ h => h.1.at_ _ _ eL notbl_frz) (fun i xx σ H2 H3 hi h y => ?_) (fun σ H2 h => ?_)
    · obtain ⟨g2, hn, v3, v4, rfl⟩ := h
      obtain ⟨TT, ky, vv, rfl, nT, rfl, hk, hv⟩ := y
      rw [kvB_len] at hi
      have hx : tb[i]? = some tb[i] := List.getElem?_eq_getElem hi
      generalize tb[i] = e0 at hx
      have m0 := List.mem_of_getElem? hx
      have hkv : (kvB tb)[i]? = some ((Sum.inl e0.1 : Key), V.ref e0.2.1) := by
        unfold kvB
        rw [List.getElem?_map, hx]
        rfl
      have hk : Option.map (fun kv : Key × V => kV kv.1) (kvB tb)[i]? = some ky := hk
      have hv : Option.map Prod.snd (kvB tb)[i]? = some vv := hv
      rw [hkv] at hk hv
      obtain rfl : V.int e0.1 = ky := Option.some.inj hk
      obtain rfl : V.ref e0.2.1 = vv := Option.some.inj hv
      have g3 : Gr HL (upd H2 TT (.tup [.int e0.1, .ref e0.2.1])) := g2.trans (Gr.new nT)
      refine ⟨TT, _, rfl, .inl (.inl upd_same), rfl, _, _, rfl, _, _, rfl, rfl, ?_⟩
      generalize upd H2 TT (.tup [.int e0.1, .ref e0.2.1]) = H3 at g3
      refine ⟨_, rfl, a, rfl, ⟨_, .inl (.inl (g3.lst aL))⟩, fun D nD => lc_filtT (K := K) e0.2.2.contains (.inl (.inl (g3.lst aL))) (small1000 al) nD (fun _ => rfl) (fun _ => rfl) (fun y hy H5 Qb g5 hb => ?_) (fun H4 g4 e4 => ?_)⟩
      · refine ⟨_, rfl, _, rfl, e0.2.1, _, rfl, .inl (.inl (.inl ((g3.trans g5).lst (oL e0 m0)))), rfl, flat_str e0.2.2, _, rfl, ?_⟩
        rw [inV_str]
        exact hb H5 (Gr.refl H5)
      · refine ⟨_, rfl, (by show 1 ≤ sizeLine; rw [sizeLine_eq]; omega), fun D2 nD2 => ?_⟩
        have g5 : Gr H4 (upd H4 D2 (.lst [V.str x])) := Gr.new nD2
        have e5 : (upd H4 D2 (.lst [V.str x])) D2 = some (.lst ([x].map V.str)) := upd_same
        generalize upd H4 D2 (.lst [V.str x]) = H5 at g5 e5
        have nmf : Nms (asked.filter e0.2.2.contains) := fun y hy => nma y (List.mem_filter.mp hy).1
        refine ⟨_, _, dp_dS (.inl (.inl (g5.lst e4))), dp_dS (.inl (.inl e5)), shaped_dS nmf, shaped_dS (fun y hy => by rw [List.mem_singleton.mp hy]; exact nx), _, rfl, ?_⟩
        rw [eqv_dS]
        have g05 := (g3.trans g4).trans g5
        by_cases hh : asked.filter e0.2.2.contains = [x]
        · rw [decide_eq_true hh]
          have hf := find_done hx hn (decide_eq_true hh)
          have z := q _ (hback H5 g05)
          unfold firstOwn at z
          rw [hf] at z
          exact iteT ⟨_, rfl, g05.at_ _ _ eL notbl_frz, z⟩
        · rw [decide_eq_false hh]
          refine iteF ⟨g05, ?_, _, _, rfl⟩
          rw [find_snoc hx hn, if_neg]
          rw [decide_eq_false hh]
          exact Bool.false_ne_true
    · obtain ⟨g2, hn, v3, v4, rfl⟩ := h
      rw [kvB_len, List.take_length] at hn
      have z := q _ (hback H2 g2)
      unfold firstOwn at z
      rw [hn] at z
      exact ⟨g2.at_ _ _ eL notbl_frz, z⟩
end
end K1
namespace K1
open PySem PySem.Spec PyProof.Rows L2 Gr GxR Srx Skx Dcx
section
variable {P : Program} {w : World} {K : PySem.W.Frag} {mg : Str → Option Value} {base : Heap} {f C : Addr} {fd : FuncData} {p : He.Defn} {N : TabN} {R : ErN}
abbrev nOwn : List Str := ["self", "names", "asked", "told", "name", "_", "number"]
theorem scOwn : FnScope nOwn ["self", "names"] (defScope m_own) := ⟨rfl, rfl, rfl, by decide +kernel, rfl, by decide +kernel, by decide +kernel⟩
theorem ok_own (F : FnM K "own" "Book.own" m_own (He.fAd K p) fd) (TB : Tb K base mg p) (eT : (He.cT K p).2 = N.o) (BC : BkC K mg C) (cMg : MCalls P w K mg base (L2.CX P w) 5 C "_meeting" (spBMeeting K C N R)) (cFO : MCalls P w K mg base CX0 1 C "_first_own" (spFirstOwn K C)) (eMeet : ErrC K mg "NoMeet" R.meet) (g_any : mg "any" = none) :
    FnOk P w K mg base (L2.CX P w) 6 (He.fAd K p) fd ["self", "names"] (spBOwn K C N R) := by
  refine okC F scOwn (fun vs H Q E h => ?_) (fun A outer s H vs Q E hr h => ?_)
  · obtain ⟨b, d, tb, n, v, rfl, _⟩ := h
    rfl
  · obtain ⟨b, d, tb, n, v, rfl, B, T, hN, h⟩ := h
    have hT : TabG H (He.cT K p).2 := eT ▸ hN.o
    refine ⟨_, pss_cons (ps_set (i := 2) scOwn.nd rfl (.inr rfl) (pe_m cMg BC.cl hr (by decide) (paE (takes_of rfl rfl rfl rfl)) (pv 0) (pa_cons (pv 1) pa_nil))) (pss_cons (ps_setLc (i := 3) (own := [("name", 4)]) (g := gName 4) (tt := tYes) rfl scOwn.nd rfl rfl (sw_true rfl rfl rfl (by decide +kernel)) (pi_list (pv 2)) (blkOk_by (N := nOwn) (sc := defScope m_own) (by decide +kernel)) (fun _ _ _ _ _ => (pg_name (i := 4) scOwn.nd rfl (.inl rfl))) (fun _ _ _ _ _ => pts_nil) (fun _ _ _ _ _ => (pe_tup (pa_cons (pv 4) (pa_cons (pe_m cFO BC.cl hr (by decide) pa0 (pv 0) (pa_cons (pv 4) (pa_cons (pv 2) pa_nil))) pa_nil))))) (pss_cons (ps_if (pt_val (Gx.pe_any (own := [("_", 5), ("number", 6)]) (gt := gTup K 2 (gCons (gName 5) (gCons (gName 6) gNil))) (tt := tYes) hr rfl scOwn.nd (by rfl) g_any TB rfl (blkOk_by (N := nOwn) (sc := defScope m_own) (by decide +kernel)) (Gx.gxs_by (by decide +kernel)) (pi_list (pv 3)) (fun _ _ _ _ _ _ => (pg_tup rfl (pgs_cons (pg_name (i := 5) scOwn.nd rfl (.inl rfl)) (pgs_cons (pg_name (i := 6) scOwn.nd rfl (.inl rfl)) pgs_nil)))) (fun _ _ _ _ _ _ => pts_nil) (fun _ _ _ _ _ _ => (pe_cmpR op_isN (pv 6) pe_non (nomark _))))) (pss_one (ps_raise rfl (takes_of rfl rfl rfl rfl) (SkE.pmk_own1 PySem.F.excBase_ValueError eMeet.xC eMeet.gC eMeet.kC (raises_own eMeet.bC eMeet.tC) (by rfl) pe_str))) (pss_nil)) (pss_one (ps_ret (pv 3))))), ?_⟩
    refine ⟨_, rfl, b, d, tb, n, rfl, B, _, rfl, b, d, tb, n, v, rfl, B, T, hN, ?_⟩
    have h : (∃ xs, HOk H v xs ∧ mtAll xs (rws tb) = true ∧ (((∀ x ∈ once xs, (firstOwn tb (once xs) x).isSome = true) ∧
        ∀ p H' (ts : List (Addr × Str × Int)), Gr H H' → H p = none → H' p = some (.lst (ts.map fun t => V.ref t.1)) → (∀ t ∈ ts, H t.1 = none ∧ t.1 ≠ p ∧ H' t.1 = some (.tup [.str t.2.1, .int t.2.2])) → ts.map (·.2) = (once xs).map (fun x => (x, (firstOwn tb (once xs) x).getD 0)) → Q (.ref p) H') ∨
        ((∃ x ∈ once xs, firstOwn tb (once xs) x = none) ∧ ∀ H', Gr H H' → E (.ref R.meet) none H'))) ∨ (∃ xs, HOk H v xs ∧ mtAll xs (rws tb) = false ∧ ∀ H', Gr H H' → E (.ref R.meet) none H') ∨
        (HBadN K H v ∧ ∀ H', Gr H H' → E (.ref R.name) none H') ∨ (HBadR K H v ∧ ∀ H', Gr H H' → E (.ref R.row) none H') := by
      rcases h with ⟨xs, hk, hm, a1, q⟩ | ⟨xs, hk, hm, q⟩ | h | h
      · exact .inl ⟨xs, hk, hm, .inl ⟨a1, q⟩⟩
      · cases em : mtAll xs (rws tb) with
        | true =>
          rcases hm with hm | hm
          · rw [em] at hm; cases hm
          · exact .inl ⟨xs, hk, em, .inr ⟨hm, q⟩⟩
        | false => exact .inr (.inl ⟨xs, hk, em, q⟩)
      · exact .inr (.inr (.inl h))
      · exact .inr (.inr (.inr h))
    rcases h with ⟨xs, hk, hm, h⟩ | ⟨xs, hk, hm, q⟩ | ⟨hb, q⟩ | ⟨hb, q⟩
    rotate_left
    · exact .inr (.inl ⟨xs, hk, hm, q⟩)
    · exact .inr (.inr (.inl ⟨hb, q⟩))
    · exact .inr (.inr (.inr ⟨hb, q⟩))
    obtain ⟨_, _, _, nmx, fewx⟩ := id hk
    refine .inl ⟨xs, hk, hm, fun a H1 g1 na ea => ?_⟩
    have al : (once xs).length ≤ 1000 := Nat.le_trans once_len fewx
    have nmo := once_nms nmx
    generalize once xs = ask at h ea al nmo
    refine ⟨_, rfl, a, rfl, ⟨_, .inl (.inl ea)⟩, fun D nD => lc_list (K := K) (xs := ask.map V.str) (fun i H2 => Gr H1 H2 ∧ ∃ ts : List (Addr × Str × V), H2 D = some (.lst (ts.map fun t => V.ref t.1)) ∧ (∀ t ∈ ts, H1 t.1 = none ∧ t.1 ≠ D ∧ H2 t.1 = some (.tup [.str t.2.1, t.2.2])) ∧ ts.map (·.2) = (ask.take i).map (fun x => (x, ownV (firstOwn tb ask x)))) ⟨Gr.new nD, [], upd_same, fun _ z => absurd z List.not_mem_nil, rfl⟩ (fun i H2 _ h => .inl (.inl (h.1.lst ea))) (fun i x H2 hx h2 => ?_) (fun H2 h2 => ?_)⟩
    · obtain ⟨g2, ts, eD, own, et⟩ := h2
      obtain ⟨x0, hx0, rfl⟩ := get_map hx
      have m0 := List.mem_of_getElem? hx0
      have hi : i < ask.length := (List.getElem?_eq_some_iff.mp hx0).1
      refine ⟨rfl, yesIf ?_⟩
      refine ⟨_, rfl, _, rfl, b, d, tb, n, rfl, B.gr (g1.trans g2), _, rfl, _, rfl, b, d, tb, n, x0, a, ask, rfl, B.gr (g1.trans g2), T, g2.lst ea, nmo, nmo x0 m0, al, fun H3 g3 => ⟨(by show 2 ≤ sizeLine; decide), fun t nt => ?_⟩⟩
      have tD : t ≠ D := (ne_of_none (g3.lst eD) nt).symm
      have g4 : Gr H3 (upd H3 t (.tup [.str x0, ownV (firstOwn tb ask x0)])) := Gr.new nt
      have et4 : (upd H3 t (.tup [.str x0, ownV (firstOwn tb ask x0)])) t = some (.tup [.str x0, ownV (firstOwn tb ask x0)]) := upd_same
      generalize upd H3 t (.tup [.str x0, ownV (firstOwn tb ask x0)]) = H4 at g4 et4
      refine ⟨_, (g3.trans g4).lst eD, ?_, (g2.trans (g3.trans g4)).mut nD, ts ++ [(t, x0, ownV (firstOwn tb ask x0))], ?_, fun u hu => ?_, ?_⟩
      · rw [List.length_map]
        have h1 := congrArg List.length et
        rw [List.length_map, List.length_map, List.length_take] at h1
        exact small1000 (by omega)
      · rw [upd_same, List.map_append]
        rfl
      · rcases List.mem_append.mp hu with hu | hu
        · obtain ⟨h1, h2, h3⟩ := own u hu
          exact ⟨h1, h2, by rw [upd_ne h2]; exact (g3.trans g4).tup h3⟩
        · rw [List.mem_singleton.mp hu]
          exact ⟨(g2.trans g3).free nt, tD, by rw [upd_ne tD]; exact et4⟩
      · rw [List.map_append, et, take_map hx0]
        rfl
    · obtain ⟨g2, ts, eD, own, et⟩ := h2
      rw [List.length_map, List.take_length] at et
      have g02 := g1.trans g2
      have tsl : ts.length = ask.length := by
        have h1 := congrArg List.length et
        rw [List.length_map, List.length_map] at h1
        exact h1
      refine ⟨_, rfl, D, rfl, ⟨_, .inl (.inl eD)⟩, Gx.gx_list (xs := ts.map fun t : Addr × Str × V => V.ref t.1) (g02.tabG hT) (fun i H3 => Gr H2 H3 ∧ ∀ t ∈ ts.take i, t.2.2 ≠ .non) (fun H3 t3 => ⟨Gr.tabbed (g02.tabG hT) t3, fun _ z => absurd z List.not_mem_nil⟩) (fun i H3 _ h3 => .inl (.inl (h3.1.lst eD))) (fun i x H3 Nx nx hx h3 => ?_) (fun H3 h3 => ?_)⟩
      · obtain ⟨g3, hn⟩ := h3
        obtain ⟨t0, ht0, rfl⟩ := get_map hx
        have mt0 := List.mem_of_getElem? ht0
        obtain ⟨_, _, et0⟩ := own t0 mt0
        refine ⟨t0.1, _, rfl, .inl (.inl (g3.tup et0)), rfl, _, _, rfl, _, _, rfl, rfl, rfl, yesIf ?_⟩
        refine ⟨_, rfl, rfl, _, rfl, fun e => ?_, fun e => nx _ ⟨g3, fun t ht => ?_⟩⟩
        · have e : t0.2.2 = V.non := of_decide_eq_true e
          rcases h with ⟨all, _⟩ | ⟨_, qE⟩
          · exfalso
            have m1 : t0.2 ∈ ask.map (fun x => (x, ownV (firstOwn tb ask x))) := by rw [← et]; exact List.mem_map.mpr ⟨t0, mt0, rfl⟩
            obtain ⟨x1, hx1, e1⟩ := List.mem_map.mp m1
            have := all x1 hx1
            rw [← e1] at e
            cases ef : firstOwn tb ask x1 with
            | none => rw [ef] at this; cases this
            | some k =>
              have e : ownV (firstOwn tb ask x1) = V.non := e
              rw [ef] at e; cases e
          · exact ⟨_, rfl, iteT (qE _ (g02.trans g3))⟩
        · rw [List.take_add_one, ht0] at ht
          rcases List.mem_append.mp ht with ht | ht
          · exact hn t ht
          · rw [List.mem_singleton.mp ht]
            exact fun z => e (decide_eq_true z)
      · obtain ⟨g3, hn⟩ := h3
        rw [List.length_map, List.take_length] at hn
        refine ⟨_, rfl, iteF ?_⟩
        have some_ : ∀ x ∈ ask, (firstOwn tb ask x).isSome = true := by
          intro x hx
          have m1 : (x, ownV (firstOwn tb ask x)) ∈ ts.map (·.2) := by rw [et]; exact List.mem_map.mpr ⟨x, hx, rfl⟩
          obtain ⟨t, ht, e1⟩ := List.mem_map.mp m1
          have := hn t ht
          rw [e1] at this
          cases ef : firstOwn tb ask x with
          | none => rw [ef] at this; exact absurd rfl this
          | some k => rfl
        rcases h with ⟨_, q⟩ | ⟨⟨x, hx, e⟩, _⟩
        · refine ⟨_, rfl, q D H3 (ts.map fun t => (t.1, t.2.1, match t.2.2 with | .int k => k | _ => 0)) (g02.trans g3) (g1.free nD) (by rw [List.map_map]; exact g3.lst eD) (fun t ht => ?_) ?_⟩
          · obtain ⟨u, hu, rfl⟩ := List.mem_map.mp ht
            obtain ⟨h1, h2, h3⟩ := own u hu
            refine ⟨g1.free h1, h2, ?_⟩
            have m1 : u.2 ∈ ask.map (fun x => (x, ownV (firstOwn tb ask x))) := by rw [← et]; exact List.mem_map.mpr ⟨u, hu, rfl⟩
            obtain ⟨x1, hx1, e1⟩ := List.mem_map.mp m1
            have s1 := some_ x1 hx1
            cases ef : firstOwn tb ask x1 with
            | none => rw [ef] at s1; cases s1
            | some k =>
              have e2 : u.2.2 = .int k := by rw [← e1, ef]; rfl
              have := g3.tup h3
              rw [e2] at this
              rw [e2]
              exact this
          · rw [List.map_map]
            have e5 : ts.map (fun t => (t.2.1, match t.2.2 with | .int k => k | _ => (0 : Int))) = (ts.map (·.2)).map (fun z => (z.1, match z.2 with | .int k => k | _ => (0 : Int))) := by
              rw [List.map_map]
              rfl
            refine Eq.trans (show _ = ts.map (fun t => (t.2.1, match t.2.2 with | .int k => k | _ => (0 : Int))) from rfl) ?_
            rw [e5, et, List.map_map]
            refine List.map_congr_left fun x hx => ?_
            have s1 := some_ x hx
            cases ef : firstOwn tb ask x with
            | none => rw [ef] at s1; cases s1
            | some k =>
              show (x, _) = _
              simp only [Function.comp, ef]
              rfl
        · have := some_ x hx
          rw [e] at this
          cases this
abbrev nNeeded : List Str := ["self", "row"]
end
end K1
namespace K1
open PySem PySem.Spec PyProof.Rows L2 Gr GxR Srx Skx Dcx
section
variable {P : Program} {w : World} {K : PySem.W.Frag} {mg : Str → Option Value} {base : Heap} {f C : Addr} {fd : FuncData} {p : He.Defn} {N : TabN} {R : ErN}
theorem scLine : FnScope ["row"] ["row"] (defScope s_line_of) := ⟨rfl, rfl, rfl, by decide +kernel, rfl, by decide +kernel, by decide +kernel⟩
abbrev nLine : List Str := ["row"]
def spLine (K : PySem.W.Frag) : Sp := fun vs H Q _ => ∃ (a : Addr) (xs : List Str), vs = [.ref a] ∧ SqL K H a (xs.map V.str) ∧ Nms xs ∧ xs.length ≤ 12 ∧ Q (.str (lineS xs)) H
theorem ok_line (F : FnP K "_line_of" s_line_of f fd) (gE : ∃ t, mg "EMPTY_ROW" = some (.str "-" t)) : FnOk P w K mg base CX0 1 f fd ["row"] (spLine K) := by
  obtain ⟨tE, gE⟩ := gE
  refine F.ok scLine (fun vs H Q E h => ?_) (fun cdv A outer s H vs Q E hr h => ?_)
  · obtain ⟨a, xs, rfl, _⟩ := h
    rfl
  · obtain ⟨a, xs, rfl, hA, nm, len, q⟩ := h
    refine ⟨_, PSs.nox (pss_one (ps_ret (pe_ifExp (pt_truth (pv 0) (by intro _; rfl)) (pe_joinK (K := K) rfl pe_str (pv 0)) (pe_glob (v := .str "-") (by rfl) gE ⟨_, rfl⟩)))), ?_⟩
    have len1 : (" " : Str).length = 1 := by decide +kernel
    have hs := sum_le 8 xs fun x hx => nm_len (nm x hx)
    refine ⟨_, rfl, !xs.isEmpty, ?_, ?_⟩
    · exact .inl ⟨_, hA, by cases xs <;> rfl⟩
    cases xs with
    | nil => exact iteF (by unfold lineS at q; rw [if_pos rfl] at q; exact q)
    | cons y ys =>
      refine iteT ⟨⟨_, rfl⟩, _, rfl, _, a, y :: ys, rfl, rfl, .inl hA, by rw [len1]; omega, ?_⟩
      unfold lineS at q
      rw [if_neg (List.cons_ne_nil _ _)] at q
      exact q
abbrev nTextOf : List Str := ["book", "_", "row"]
theorem scTextOf : FnScope nTextOf ["book"] (defScope s_text_of) := ⟨rfl, rfl, rfl, by decide +kernel, rfl, by decide +kernel, by decide +kernel⟩
def spTextOf (C : Addr) : Sp := fun vs H Q _ => ∃ b d tb n, vs = [.ref b] ∧ Bk C H b d tb n ∧ Tok tb n ∧ ∀ H', Gr H H' → Q (.str (textS (rws tb))) H'
theorem ok_text_of (F : FnP K "text_of" s_text_of f fd) (BC : BkC K mg C) (cR : MCalls P w K mg base CX0 1 C "rows" (spBRows C)) (cL : Calls P w K mg base CX0 1 "_line_of" (spLine K)) : FnOk P w K mg base CX0 2 f fd ["book"] (spTextOf C) := by
  refine F.ok scTextOf (fun vs H Q E h => ?_) (fun cdv A outer s H vs Q E hr h => ?_)
  · obtain ⟨b, d, tb, n, rfl, _⟩ := h
    rfl
  · obtain ⟨b, d, tb, n, rfl, B, T, q⟩ := h
    refine ⟨_, PSs.nox (pss_one (ps_ret (pe_joinK (K := K) rfl pe_str (pe_lc (own := [("_", 1), ("row", 2)]) (g := gTup K 2 (gCons (gName 1) (gCons (gName 2) gNil))) (tt := tYes) rfl scTextOf.nd (pi_list (pe_m0 cR BC.cl hr (by decide) pa0 (pv 0))) (blkOk_by (N := nTextOf) (sc := defScope s_text_of) (by decide +kernel)) (fun _ _ _ _ _ => (pg_tup rfl (pgs_cons (pg_name (i := 1) scTextOf.nd rfl (.inl rfl)) (pgs_cons (pg_name (i := 2) scTextOf.nd rfl (.inl rfl)) pgs_nil)))) (fun _ _ _ _ _ => pts_nil) (fun _ _ _ _ _ => (pe_k cL hr (by decide) (by rfl) (pa_cons (pv 2) pa_nil))))))), ?_⟩
    refine ⟨⟨_, rfl⟩, ?_⟩
    refine ⟨_, rfl, b, d, tb, n, rfl, B, b, d, tb, n, rfl, B, T, fun P1 H1 rs g1 TP er => ⟨P1, rfl, ⟨_, .inl (.inl TP.due.at_)⟩, fun D nD => ?_⟩⟩
    have DP := TP.due
    have rl : rs.length = tb.length := by
      have h1 := congrArg List.length er
      unfold nr at h1
      rw [List.length_map, List.length_map] at h1
      exact h1
    have few := T.few
    have rin : ∀ r ∈ rs, Nms r.r ∧ r.r.length ≤ 12 := fun r hr => by
      have h1 : (r.k, r.r) ∈ nr tb := by rw [← er]; exact List.mem_map.mpr ⟨r, hr, rfl⟩
      obtain ⟨e, he, z⟩ := List.mem_map.mp h1
      have z2 : e.2.2 = r.r := congrArg Prod.snd z
      obtain ⟨h2, h3, h4⟩ := T.rlen (List.mem_map.mpr ⟨e, he, z2⟩)
      exact ⟨h3, h4⟩
    refine lc_list (K := K) (xs := rs.map fun r => V.ref r.t) (fun i H2 => Gr H1 H2 ∧ H2 D = some (.lst (((rs.take i).map fun r => lineS r.r).map V.str))) ⟨Gr.new nD, upd_same⟩ (fun i H2 _ h => .inl (.inl (h.1.lst DP.at_))) (fun i x H2 hx h => ?_) (fun H2 h => ?_)
    · obtain ⟨g2, e2⟩ := h
      obtain ⟨r0, hr0, rfl⟩ := get_map hx
      have mr := List.mem_of_getElem? hr0
      have hi : i < rs.length := (List.getElem?_eq_some_iff.mp hr0).1
      obtain ⟨h1, h2⟩ := DP.own r0 mr
      refine ⟨r0.t, _, rfl, .inl (.inl (g2.tup h1)), rfl, _, _, rfl, _, _, rfl, rfl, rfl, yesIf ?_⟩
      refine ⟨_, rfl, r0.l, r0.r, rfl, .inl (.inl (g2.lst h2)), (rin r0 mr).1, (rin r0 mr).2, _, e2, ?_, g2.mut nD, ?_⟩
      · rw [List.length_map, List.length_map, List.length_take]
        exact small1000 (by omega)
      · rw [upd_same, take_map hr0, List.map_append]
        rfl
    · obtain ⟨g2, e2⟩ := h
      rw [List.length_map, List.take_length] at e2
      refine ⟨_, D, rs.map fun r => lineS r.r, rfl, rfl, .inl (.inl (.inl e2)), ?_, ?_⟩
      · have h1 := sum_le 120 (rs.map fun r => lineS r.r) fun x hx => by
          obtain ⟨r, hr, rfl⟩ := List.mem_map.mp hx
          exact lineS_len (rin r hr).1 (rin r hr).2
        have h2 : ("\n" : Str).length = 1 := by decide +kernel
        rw [List.length_map] at h1
        rw [h2, List.length_map]
        omega
      · have e3 : (rs.map fun r => lineS r.r) = (rws tb).map lineS := by
          rw [rws_nr, ← er, List.map_map, List.map_map]
          rfl
        rw [e3]
        exact q _ (g1.trans g2)
end
end K1
namespace K1
open PySem PySem.Spec PyProof.Rows L2 Gr GxR Srx Skx Dcx
section
variable {P : Program} {w : World} {K : PySem.W.Frag} {mg : Str → Option Value} {base : Heap} {f fO C : Addr} {fd fdO fdI : FuncData} {p pI : He.Defn} {T : Addr} {N : TabN} {R : ErN}
theorem ok_risingM (F : FnP K "rising" sRising f fd) (GI : FnOk P w K mg base CX0 1 (He.fAd K pI) fdI ["thing"] (spIsName K (He.cT K pI).2)) (bI : Binds K fdI ["thing"] []) (kI : PySem.W.keepIn K (.ref (He.fAd K pI)) = true) (gI : mg "is_name" = some (.ref (He.fAd K pI)))
    (GO : FnOk P w K mg base CX0 1 fO fdO ["names"] (spOnce K)) (bO : Binds K fdO ["names"] []) (kO : PySem.W.keepIn K (.ref fO) = true) (gO : mg "_once_each" = some (.ref fO)) (EC : ErrC K mg "BadName" C) (gE : mg "enumerate" = none) (gM : ∃ t, mg "MOST_LETTERS" = some (.int 8 t)) :
    FnOk P w K mg base (CXm P w) 2 f fd ["names"] (spRising K (He.cT K pI).2 C) := by
  obtain ⟨tM, gM⟩ := gM
  refine F.ok scRising (fun vs H Q E h => ?_) (fun cdv A outer s H vs Q E hr h => ?_)
  · obtain ⟨a, vls, rfl, _⟩ := h
    rfl
  · obtain ⟨a, vls, rfl, hA, hth, few, hT, hq⟩ := h
    refine ⟨_, pss_cons (ps_for (passes_of rfl) rfl (pi_enum (by rfl) gE (pa_cons (pv 0) pa_nil)) (pg_tup rfl (pgs_cons (pg_name (i := 1) scRising.nd rfl (.inl rfl)) (pgs_cons (pg_name (i := 2) scRising.nd rfl (.inl rfl)) pgs_nil)))
        (pss_one (ps_if (pt_not (pt_val (pe_call GI (hr.mono (by decide)) (by rfl) gI kI bI .nil pass0 (pa_cons (pv 2) pa_nil))))
          (pss_one (ps_raiseM rfl (takesM_of rfl rfl rfl rfl) PySem.F.excBase_ValueError EC.xC EC.gC EC.kC (raises_own EC.bC EC.tC) (by rfl) (pe_joined (.cons pe_str (.cons (pe_fmt (pv 1)) (.cons pe_str (.cons (pe_fmt (pe_glob (v := .int 8) (by rfl) gM ⟨_, rfl⟩)) (.cons pe_str .nil)))))))) pss_nil)))
      (pss_one (ps_ret (pe_call GO (hr.mono (by decide)) (by rfl) gO kO bO .nil pass0 (pa_cons (pv 0) pa_nil)))), ?_⟩
    refine ⟨_, rfl, a, vls, rfl, hA, for_enum (xs := vls) (fun i σ H2 => Gr H H2 ∧ (∀ v ∈ vls.take i, nmV v = true) ∧ ∃ v1 v2, σ = [some (.ref a), v1, v2]) ⟨Gr.refl H, fun _ z => absurd z List.not_mem_nil, _, _, rfl⟩ (fun i σ H2 _ h => h.1.seq hA) (fun i x T σ H2 hx h nT => ?_) (fun σ H2 h => ?_)⟩
    · obtain ⟨g2, ok, v1, v2, rfl⟩ := h
      have mx := List.mem_of_getElem? hx
      have hi : i < vls.length := (List.getElem?_eq_some_iff.mp hx).1
      have g3 : Gr H (upd H2 T (.tup [.int (i : Nat), x])) := g2.trans (Gr.new nT)
      refine ⟨T, _, rfl, .inl (.inl upd_same), rfl, _, _, rfl, _, _, rfl, rfl, ?_⟩
      refine ⟨x, rfl, x, rfl, (hth x mx).gr g3, g3.tabG hT, fun H4 g4 => ⟨_, rfl, ?_⟩⟩
      cases e : nmV x with
      | true =>
        refine iteF ⟨g3.trans g4, fun v hv => ?_, _, _, rfl⟩
        rw [List.take_add_one, hx] at hv
        rcases List.mem_append.mp hv with hv | hv
        · exact ok v hv
        · have hv : v = x := by simpa using hv
          rw [hv]; exact e
      | false =>
        refine iteT ?_
        rcases hq with ⟨xs, rfl, all, _⟩ | ⟨_, hE⟩
        · obtain ⟨y, hy, rfl⟩ := get_map hx
          have z := List.all_eq_true.mp all y (List.mem_of_getElem? hy)
          rw [show isNm y = false from e] at z
          cases z
        · have hk : ((Str.ofString (toString ((i : Nat) : Int)))).length ≤ 10 := PySem.W.KT.len_num (by omega) (by omega)
          have hb : (Str.ofString (toString (8 : Int))).length ≤ 10 := PySem.W.KT.len_num (by omega) (by omega)
          have l1 : (Str.empty ++ (Str.ofString "item ")).length ≤ 10 := by decide +kernel
          have l2 := PySem.W.KT.len_app l1 hk
          have l3 := PySem.W.KT.len_app l2 (show (Str.ofString " of the list is not a text of 1 to ").length ≤ 50 by decide +kernel)
          have l4 := PySem.W.KT.len_app l3 hb
          have l5 := PySem.W.KT.len_app l4 (show (Str.ofString " small letters").length ≤ 50 by decide +kernel)
          have big : ∀ n : Nat, n ≤ 200 → n ≤ sizeLine := fun n hn => by rw [sizeLine_eq]; omega
          refine ⟨_, rfl, big _ (by omega), _, rfl, .inr ⟨_, rfl, ?_, _, rfl, big _ (by omega), _, rfl, big _ (by omega), .inr ⟨_, rfl, ?_, _, rfl, big _ (by omega), _, rfl, big _ (by omega), _, rfl, by omega, fun T2 nT2 => hE _ ((g3.trans g4).trans (Gr.new nT2))⟩⟩⟩
          · show ((i : Nat) : Int).natAbs.log2 < 1920
            rw [Int.natAbs_natCast]
            exact Nat.lt_of_le_of_lt (Nat.log2_le_self i) (by omega)
          · decide
    · obtain ⟨g2, ok, v1, v2, rfl⟩ := h
      rw [List.take_length] at ok
      rcases hq with ⟨xs, rfl, all, q⟩ | ⟨⟨v, hv, e⟩, _⟩
      · refine ⟨_, rfl, a, xs, rfl, g2.seq hA, by rw [List.length_map] at few; exact few, fun p H4 g4 np ep => q p H4 (g2.trans g4) (g2.free np) ep⟩
      · rw [ok v hv] at e
        cases e
theorem ok_names_fromM (F : FnP K "names_from" s_names_from f fd) (cR : Calls P w K mg base (CXm P w) 2 "rising" (spRising K T R.name)) (EC : ErrC K mg "BadRow" R.row) (gI : mg "isinstance" = none) (gL : mg "list" = none) :
    FnOk P w K mg base (CXm P w) 3 f fd ["thing"] (spNamesFrom K T R) := by
  refine F.ok scNamesFrom (fun vs H Q E h => ?_) (fun cdv A outer s H vs Q E hr h => ?_)
  · obtain ⟨v, rfl, _⟩ := h
    rfl
  · obtain ⟨v, rfl, hT, h⟩ := h
    refine ⟨_, pss_cons (ps_if (pt_not (pt_val (pe_callB call_isi (by rfl) gI (by decide +kernel) (pa_cons (pv 0) (pa_cons (pe_bltn (v := .ty "list") (by rfl) gL (by decide +kernel) rfl) pa_nil)))))
        (pss_one (ps_raiseM rfl (takesM_of rfl rfl rfl rfl) PySem.F.excBase_ValueError EC.xC EC.gC EC.kC (raises_own EC.bC EC.tC) (by rfl) pe_str)) pss_nil)
      (pss_one (ps_ret (pe_f cR hr (by decide) (paEm (takesM_of rfl rfl rfl rfl)) (by rfl) (pa_cons (pv 0) pa_nil)))), ?_⟩
    rcases h with ⟨xs, ⟨a, rfl, ha, nm, few⟩, q⟩ | ⟨⟨a, vls, rfl, ha, th, few, bad⟩, q⟩ | ⟨⟨t, ty, kt⟩, q⟩
    · refine ⟨_, rfl, _, _, _, _, true, rfl, .ty _, .base (.lst ha), kit_ty (by decide +kernel), _, rfl, ?_⟩
      refine iteF ⟨_, rfl, a, _, rfl, .inl (.inl ha), nms_things nm, by rw [List.length_map]; exact few, hT, .inl ⟨xs, rfl, nms_all.mpr nm, q⟩⟩
    · refine ⟨_, rfl, _, _, _, _, true, rfl, .ty _, .base (.lst ha), kit_ty (by decide +kernel), _, rfl, ?_⟩
      refine iteF ⟨_, rfl, a, _, rfl, .inl (.inl ha), th, few, hT, .inr ⟨bad, q⟩⟩
    · refine ⟨_, rfl, _, _, _, _, false, rfl, .ty _, ty, kit_ty kt, _, rfl, ?_⟩
      exact iteT ⟨_, rfl, by decide +kernel, fun T2 nT2 => q _ (Gr.new nT2)⟩
theorem ok_row_fromM (F : FnP K "row_from" s_row_from f fd) (cN : Calls P w K mg base (CXm P w) 3 "names_from" (spNamesFrom K T R)) (EC : ErrC K mg "BadRow" R.row) (gL : mg "len" = none) :
    FnOk P w K mg base (CXm P w) 4 f fd ["thing"] (spRowFrom K T R) := by
  refine F.ok scRowFrom (fun vs H Q E h => ?_) (fun cdv A outer s H vs Q E hr h => ?_)
  · obtain ⟨v, rfl, _⟩ := h
    rfl
  · obtain ⟨v, rfl, hT, h⟩ := h
    refine ⟨_, pss_cons (ps_set (i := 1) scRowFrom.nd rfl (.inl rfl) (pe_f cN hr (by decide) (paEm (takesM_of rfl rfl rfl rfl)) (by rfl) (pa_cons (pv 0) pa_nil)))
      (pss_cons (ps_if (pt_cmpR op_ne (pe_callB call_len_seq (by rfl) gL boot_len (pa_cons (pv 1) pa_nil)) (pe_callB call_len_seq (by rfl) gL boot_len (pa_cons (pv 0) pa_nil)) (nomark _))
        (pss_one (ps_raiseM rfl (takesM_of rfl rfl rfl rfl) PySem.F.excBase_ValueError EC.xC EC.gC EC.kC (raises_own EC.bC EC.tC) (by rfl) pe_str)) pss_nil)
      (pss_one (ps_ret (pv 1)))), ?_⟩
    refine ⟨_, rfl, _, rfl, hT, ?_⟩
    rcases h with ⟨xs, hk, nd, q⟩ | ⟨xs, hk, nd, q⟩ | ⟨hb, q⟩ | ⟨hb, q⟩
    · refine .inl ⟨xs, hk, fun p H2 g np ep => ?_⟩
      obtain ⟨a, rfl, ha, nm, few⟩ := hk.gr g
      refine ⟨_, rfl, p, _, rfl, .inl (.inl (.inl ep)), _, rfl, a, _, rfl, .inl (.inl (.inl ha)), rfl, _, rfl, ?_⟩
      rw [List.length_map, List.length_map, once_full nd]
      refine iteNS (by simp) ⟨_, rfl, q p H2 g np ep⟩
    · refine .inl ⟨xs, hk, fun p H2 g np ep => ?_⟩
      obtain ⟨a, rfl, ha, nm, few⟩ := hk.gr g
      refine ⟨_, rfl, p, _, rfl, .inl (.inl (.inl ep)), _, rfl, a, _, rfl, .inl (.inl (.inl ha)), rfl, _, rfl, ?_⟩
      rw [List.length_map, List.length_map]
      have ne := once_twice nd
      rw [decide_eq_false (show ¬ (V.int ((once xs).length : Nat) = V.int (xs.length : Nat)) from fun z => ne (by injection z with z; omega))]
      exact iteT ⟨_, rfl, by decide +kernel, fun T2 nT2 => q _ (g.trans (Gr.new nT2))⟩
    · exact .inr (.inl ⟨hb, q⟩)
    · exact .inr (.inr ⟨hb, q⟩)
/-- as put promises, of longer lists too -/
def spPutM (K : PySem.W.Frag) (C : Addr) (N : TabN) (R : ErN) : Sp := fun vs H Q E => ∃ b d tb n v, vs = [.ref b, v] ∧ Bk C H b d tb n ∧ Tok tb n ∧ N.G H ∧
  ((∃ xs, HOk H v xs ∧ xs.length ≤ 900 ∧ xs.Nodup ∧ tb.length < 30 ∧ (allN (rws tb ++ [xs])).length ≤ 12 ∧ ∀ p H', GrX (fun a => a = b ∨ a = d) H H' → H p = none → Bk C H' b d (tb ++ [(n, p, once xs)]) (n + 1) → Q (.int n) H') ∨
   (∃ xs, HOk H v xs ∧ xs.length ≤ 900 ∧ xs.Nodup ∧ (30 ≤ tb.length ∨ 12 < (allN (rws tb ++ [xs])).length) ∧ ∀ H', Gr H H' → E (.ref R.many) none H') ∨
   (∃ xs, HOk H v xs ∧ ¬ xs.Nodup ∧ ∀ H', Gr H H' → E (.ref R.row) none H') ∨ (HBadN K H v ∧ ∀ H', Gr H H' → E (.ref R.name) none H') ∨ (HBadR K H v ∧ ∀ H', Gr H H' → E (.ref R.row) none H'))
theorem spPutM.of {N : TabN} {R : ErN} {C : Addr} {K : PySem.W.Frag} {vs : List V} {H : Hp} {Q : VK} {E : XK} (h : spPut K C N R vs H Q E) : spPutM K C N R vs H Q E := by
  obtain ⟨b, d, tb, n, v, e, B, T, hN, h⟩ := h
  refine ⟨b, d, tb, n, v, e, B, T, hN, ?_⟩
  rcases h with ⟨xs, hk, few, r⟩ | ⟨xs, hk, few, r⟩ | h
  · exact .inl ⟨xs, hk, Nat.le_trans few (by decide), r⟩
  · exact .inr (.inl ⟨xs, hk, Nat.le_trans few (by decide), r⟩)
  · exact .inr (.inr h)
theorem ok_putM (F : FnM K "put" "Book.put" m_put f fd) (BC : BkC K mg C) (cRow : Calls P w K mg base (CXm P w) 4 "row_from" (spRowFrom K N.i R)) (cRis : Calls P w K mg base (CXm P w) 2 "rising" (spRising K N.i R.name))
    (cNames : MCalls P w K mg base CX0 2 C "names" (spBNames C)) (eMany : ErrC K mg "TooMany" R.many) (g_len : mg "len" = none) (gMR : ∃ t, mg "MOST_ROWS_books" = some (.int 30 t)) (gMN : ∃ t, mg "MOST_NAMES_books" = some (.int 12 t)) :
    FnOk P w K mg base (CXm P w) 5 f fd ["self", "row"] (spPutM K C N R) := by
  obtain ⟨tR, gMR⟩ := gMR
  obtain ⟨tN, gMN⟩ := gMN
  refine F.ok scPut (fun vs H Q E h => ?_) (fun cdv A outer s H vs Q E hr h => ?_)
  · obtain ⟨b, d, tb, n, v, rfl, _⟩ := h
    rfl
  · obtain ⟨b, d, tb, n, v, rfl, B, T, hN, h⟩ := h
    refine ⟨_, pss_cons (ps_set (i := 2) scPut.nd rfl (.inl rfl) (pe_f cRow hr (by decide) (paEm (takesM_of rfl rfl rfl rfl)) (by rfl) (pa_cons (pv 1) pa_nil))) (pss_cons (ps_if (pt_cmpR op_ge (pe_callB call_lenD (by rfl) g_len PySem.boot_len (pa_cons (pe_fld (pv 0) rfl) pa_nil)) (pe_glob (v := .int 30) (by rfl) gMR ⟨_, rfl⟩) (nomark _)) (pss_one (ps_raiseM rfl (takesM_of rfl rfl rfl rfl) PySem.F.excBase_ValueError eMany.xC eMany.gC eMany.kC (raises_own eMany.bC eMany.tC) (by rfl) (pe_joined (.cons pe_str (.cons (pe_fmt (pe_glob (v := .int 30) (by rfl) gMR ⟨_, rfl⟩)) (.cons pe_str .nil)))))) (pss_nil)) (pss_cons (ps_if (pt_cmpR op_gt (pe_callB call_len_seq (by rfl) g_len boot_len (pa_cons (pe_f cRis hr (by decide) (paEm (takesM_of rfl rfl rfl rfl)) (by rfl) (pa_cons (pe_op op_cat (pe_m0 cNames BC.cl hr (by decide) pa0 (pv 0)) (pv 2)) pa_nil)) pa_nil)) (pe_glob (v := .int 12) (by rfl) gMN ⟨_, rfl⟩) (nomark _)) (pss_one (ps_raiseM rfl (takesM_of rfl rfl rfl rfl) PySem.F.excBase_ValueError eMany.xC eMany.gC eMany.kC (raises_own eMany.bC eMany.tC) (by rfl) (pe_joined (.cons pe_str (.cons (pe_fmt (pe_glob (v := .int 12) (by rfl) gMN ⟨_, rfl⟩)) (.cons pe_str .nil)))))) (pss_nil)) (pss_cons (ps_set (i := 3) scPut.nd rfl (.inl rfl) (pe_fld (pv 0) rfl)) (pss_cons (ps_dput (hu_of hr) (pe_fld (pv 0) rfl) (pv 3) (pv 2) rfl) (pss_cons (ps_fld (pv 0) (pe_op op_add (pv 3) pe_int) rfl) (pss_one (ps_ret (pv 3)))))))), ?_⟩
    refine ⟨_, rfl, _, rfl, hN.s.i, ?_⟩
    have h : (∃ xs, HOk H v xs ∧ xs.length ≤ 900 ∧ xs.Nodup ∧ ((tb.length < 30 ∧ (allN (rws tb ++ [xs])).length ≤ 12 ∧ ∀ p H', GrX (fun a => a = b ∨ a = d) H H' → H p = none → Bk C H' b d (tb ++ [(n, p, once xs)]) (n + 1) → Q (.int n) H') ∨
        ((30 ≤ tb.length ∨ 12 < (allN (rws tb ++ [xs])).length) ∧ ∀ H', Gr H H' → E (.ref R.many) none H'))) ∨
        (∃ xs, HOk H v xs ∧ ¬ xs.Nodup ∧ ∀ H', Gr H H' → E (.ref R.row) none H') ∨ (HBadN K H v ∧ ∀ H', Gr H H' → E (.ref R.name) none H') ∨ (HBadR K H v ∧ ∀ H', Gr H H' → E (.ref R.row) none H') := by
      rcases h with ⟨xs, hk, few, nd, q⟩ | ⟨xs, hk, few, nd, q⟩ | h | h | h
      · exact .inl ⟨xs, hk, few, nd, .inl q⟩
      · exact .inl ⟨xs, hk, few, nd, .inr q⟩
      · exact .inr (.inl h)
      · exact .inr (.inr (.inl h))
      · exact .inr (.inr (.inr h))
    rcases h with ⟨xs, hk, few, nd, h⟩ | ⟨xs, hk, nd, q⟩ | ⟨hb, q⟩ | ⟨hb, q⟩
    rotate_left
    · exact .inr (.inl ⟨xs, hk, nd, q⟩)
    · exact .inr (.inr (.inl ⟨hb, q⟩))
    · exact .inr (.inr (.inr ⟨hb, q⟩))
    · refine .inl ⟨xs, hk, nd, fun nm H1 g1 nnm enm => ?_⟩
      have nm1 : Nms xs := hk.choose_spec.2.2.1
      have B1 := B.gr g1
      obtain ⟨dx, eb1⟩ := B1.ob
      refine ⟨_, rfl, b, C, dx, _, _, rfl, eb1, BC.cl, BC.nR, bfl_rows d n, d, _, rfl, B1.dc, _, _, rfl, rfl, _, rfl, ?_⟩
      rw [kvB_len]
      by_cases h30 : tb.length < 30
      · rw [decide_eq_false (show ¬ (tb.length : Int) ≥ 30 by omega)]
        refine iteF ?_
        refine ⟨_, rfl, b, d, tb, n, rfl, B1, b, d, tb, n, rfl, B1, T, fun L H2 g2 nL eL => ?_⟩
        have an12 := T.nms
        refine ⟨_, rfl, _, _, _, _, rfl, rfl, eL, g2.lst enm, ?_, fun c nc => ?_⟩
        · rw [List.length_map, List.length_map]
          have := once_len (xs := xs)
          exact Nat.le_of_lt (small1000 (by omega))
        have g3 : Gr H2 (upd H2 c (.lst ((allN (rws tb)).map V.str ++ (once xs).map V.str))) := Gr.new nc
        have ec : (upd H2 c (.lst ((allN (rws tb)).map V.str ++ (once xs).map V.str))) c = some (.lst ((allN (rws tb) ++ once xs).map V.str)) := by
          rw [upd_same, List.map_append]
        generalize upd H2 c (.lst ((allN (rws tb)).map V.str ++ (once xs).map V.str)) = H3 at g3 ec
        have nmA : Nms (allN (rws tb) ++ once xs) := fun y hy => (List.mem_append.mp hy).elim (T.nmsN y) (once_nms nm1 y)
        have g03 := (g1.trans g2).trans g3
        refine ⟨c, _, rfl, .inl (.inl ec), nms_things nmA, ?_, g03.tabG hN.s.i, .inl ⟨_, rfl, nms_all.mpr nmA, fun r H4 g4 nr er => ?_⟩⟩
        · rw [List.length_map, List.length_append]
          have := once_len (xs := xs)
          omega
        refine ⟨r, _, rfl, .inl (.inl (.inl er)), _, _, rfl, rfl, _, rfl, ?_⟩
        rw [List.length_map, once_two]
        have g04 := g03.trans g4
        by_cases h12 : (allN (rws tb ++ [xs])).length ≤ 12
        · rw [decide_eq_false (show ¬ ((allN (rws tb ++ [xs])).length : Int) > 12 by omega)]
          refine iteF ?_
          have B4 := B.gr g04
          obtain ⟨dy, eb4⟩ := B4.ob
          have enm4 : H4 nm = some (.lst ((once xs).map V.str)) := ((g2.trans g3).trans g4).lst enm
          have nbd := B.ne
          refine ⟨_, rfl, b, C, dy, _, _, rfl, eb4, BC.cl, BC.nN, bfl_next d n, ?_⟩
          refine ⟨_, rfl, _, rfl, b, C, dy, _, _, rfl, eb4, BC.cl, BC.nR, bfl_rows d n, _, rfl, d, _, rfl, DPut.k (k := Sum.inl n) B4.dc (by rw [kvB_len]; exact small1000 (by omega)), ?_⟩
          refine ⟨_, rfl, _, _, rfl, rfl, _, rfl, b, C, dy, _, rfl, (by rw [upd_ne nbd]; exact eb4), BC.cl, BC.nN, (by rw [bfl_eq]; show 2 < 1000; decide), _, rfl, ?_⟩
          rw [kvB_put T.fresh nm (once xs), bfl_put]
          rcases h with ⟨_, _, q⟩ | ⟨h, _⟩
          · refine q nm _ ?_ nnm ⟨⟨dy, upd_same⟩, by rw [upd_ne nbd.symm, upd_same], fun e he => ?_⟩
            · obtain ⟨dz, eb⟩ := B.ob
              refine ((g04.x _).put (.inl (.inr rfl)) fun ps z => ?_).put (.inl (.inl rfl)) fun ps z => ?_
              · rw [B.dc] at z; cases z
              · rw [eb] at z; cases z
            · rcases List.mem_append.mp he with he | he
              · obtain ⟨h1, h2⟩ := B.neb he
                rw [upd_ne h1, upd_ne h2]
                exact B4.own e he
              · rw [List.mem_singleton.mp he]
                obtain ⟨dz, eb⟩ := B.ob
                show upd (upd H4 d _) b _ nm = _
                rw [upd_ne (ne_of_none eb nnm).symm, upd_ne (ne_of_none B.dc nnm).symm]
                exact enm4
          · omega
        · rw [decide_eq_true (show ((allN (rws tb ++ [xs])).length : Int) > 12 by omega)]
          refine iteT ?_
          rcases h with ⟨_, h, _⟩ | ⟨_, q⟩
          · exact absurd h h12
          · refine ⟨_, rfl, by rw [sizeLine_eq]; decide +kernel, .inr ⟨_, rfl, by decide, _, rfl, by rw [sizeLine_eq]; decide +kernel, _, rfl, by rw [sizeLine_eq]; decide +kernel, _, rfl, by decide +kernel, fun T2 nT2 => q _ (g04.trans (Gr.new nT2))⟩⟩
      · rw [decide_eq_true (show (tb.length : Int) ≥ 30 by omega)]
        refine iteT ?_
        rcases h with ⟨h, _, _⟩ | ⟨_, q⟩
        · exact absurd h h30
        · refine ⟨_, rfl, by rw [sizeLine_eq]; decide +kernel, .inr ⟨_, rfl, by decide, _, rfl, by rw [sizeLine_eq]; decide +kernel, _, rfl, by rw [sizeLine_eq]; decide +kernel, _, rfl, by decide +kernel, fun T2 nT2 => q _ (g1.trans (Gr.new nT2))⟩⟩
end
end K1
end
section
set_option maxHeartbeats 8000000
namespace K1
open PySem PySem.Spec PyProof.Rows L2 Gr GxR Srx Skx Dcx
section
variable {P : Program} {w : World} {K : PySem.W.Frag} {mg : Str → Option Value} {base : Heap} {f C : Addr} {fd : FuncData} {p : He.Defn} {N : TabN} {R : ErN}
abbrev nLBook : List Str := ["_law_rows_here", "_law_book_here", "_law_row_here"]
theorem scLBook : FnScope nLBook ["_law_rows_here"] (defScope s_law_book) := ⟨rfl, rfl, rfl, by decide +kernel, rfl, by decide +kernel, by decide +kernel⟩
theorem ok_lbook (F : FnP K "_law_book" s_law_book f fd) (BC : BkC K mg C) (cMk : MkB P w K mg base C) (cPut : MCalls P w K mg base (L2.CX P w) 5 C "put" (spPut K C N R)) (g_list : mg "list" = none) :
    FnOk P w K mg base CX0 6 f fd ["_law_rows_here"] (spLBook K C N) := by
  refine F.ok scLBook (fun vs H Q E h => ?_) (fun cdv A outer s H vs Q E hr h => ?_)
  · obtain ⟨a, ps, rfl, _⟩ := h
    rfl
  · obtain ⟨a, ps, rfl, lA, RO, hN, q⟩ := h
    refine ⟨_, PSs.nox (pss_cons (ps_set (i := 1) scLBook.nd rfl (.inl rfl) (pe_new cMk BC hr (by decide) (by rfl))) (pss_cons (ps_for PassesOwn.never rfl (pi_list (pv 0)) (pg_name (i := 2) scLBook.nd rfl (.inl rfl)) (pss_one (ps_expr (pe_m cPut BC.cl hr (by decide) paL (pv 1) (pa_cons (pe_callTy call_list_of (by rfl) g_list boot_list (pa_cons (pv 2) pa_nil)) pa_nil))))) (pss_one (ps_ret (pv 1))))), ?_⟩
    intro b d H1 g1 nb ndd B1
    have few := RO.few
    rw [List.length_map] at few
    refine ⟨_, rfl, a, rfl, ⟨_, (lA.gr g1).at_⟩, for_list (K := K) (xs := ps.map fun q : Addr × List Str => V.ref q.1) (fun i σ H2 => Gr H H2 ∧ ∃ (tb : Tb1) (v : Option V), NewB C H H2 b d tb ((ps.take i).map (·.2)) ∧ σ = [some (.ref a), some (.ref b), v]) ⟨g1, [], none, ⟨nb, ndd, B1, Tok.nil, rfl, fun _ z => absurd z List.not_mem_nil⟩, rfl⟩ (fun i σ H2 _ h => (lA.gr h.1).at_) (fun i x σ H2 hx h => ?_) (fun σ H2 h => ?_)⟩
    · obtain ⟨g2, tb, v, NB, rfl⟩ := h
      obtain ⟨q0, hq0, rfl⟩ := get_map hx
      have m0 := List.mem_of_getElem? hq0
      have hi : i < ps.length := (List.getElem?_eq_some_iff.mp hq0).1
      obtain ⟨rn, rd, rl⟩ := RO.row q0.2 (List.mem_map.mpr ⟨q0, m0, rfl⟩)
      refine ⟨_, rfl, b, d, tb, _, rfl, NB.bk, _, rfl, q0.1, q0.2.map V.str, rfl, .inl ((lA.gr g2).own q0 m0), fun l nl => ?_⟩
      have g3 : Gr H2 (upd H2 l (.lst (q0.2.map V.str))) := Gr.new nl
      have el : (upd H2 l (.lst (q0.2.map V.str))) l = some (.lst (q0.2.map V.str)) := upd_same
      generalize upd H2 l (.lst (q0.2.map V.str)) = H3 at g3 el
      have len : ((ps.take i).map (·.2)).length = i := by rw [List.length_map, List.length_take]; omega
      have tlen : tb.length = i := by
        have h1 := congrArg List.length NB.rows
        unfold nr numd at h1
        rw [List.length_map, List.length_mapIdx, List.length_map, len] at h1
        exact h1
      have wide : (allN (rws tb ++ [q0.2])).length ≤ 12 := by
        rw [NB.rws, ← allN_once, ← List.map_singleton (f := once), ← List.map_append, allN_map_once]
        refine Nat.le_trans (allN_mono fun r hr => ?_) RO.wide
        rcases List.mem_append.mp hr with hr | hr
        · exact ((List.take_sublist i ps).map _).subset hr
        · rw [List.mem_singleton.mp hr]
          exact List.mem_map.mpr ⟨q0, m0, rfl⟩
      refine ⟨b, d, tb, _, .ref l, rfl, NB.bk.gr g3, NB.ok, (hN.gr g2).gr g3, .inl ⟨q0.2, ⟨l, rfl, el, rn, by omega⟩, rl, rd, by omega, wide, fun p H4 g4 np B4 => ⟨GrX.young (g2.trans g3) g4 (fun z hz => ?_), tb ++ [((((ps.take i).map (·.2)).length : Int), p, once q0.2)], _, ⟨nb, ndd, ?_, ?_, ?_, fun e he => (List.mem_append.mp he).elim (NB.fresh e) fun he => by rw [List.mem_singleton.mp he]; exact (g2.trans g3).free np⟩, rfl⟩⟩⟩
      · rcases hz with rfl | rfl
        · exact nb
        · exact ndd
      · rw [take_map hq0, List.length_append]
        exact B4
      · rw [take_map hq0, List.length_append]
        exact NB.ok.put rn (by omega) wide p
      · rw [nr_snoc, NB.rows, take_map hq0, List.map_append]
        show _ = numd (_ ++ [once q0.2])
        rw [numd_snoc, List.length_map (f := once)]
    · obtain ⟨g2, tb, v, NB, rfl⟩ := h
      rw [List.length_map, List.take_length] at NB
      exact ⟨_, rfl, q b d H2 tb g2 NB⟩
end
end K1
end
section
set_option maxHeartbeats 8000000
namespace K1
open PySem PySem.Spec PyProof.Rows L2 Gr GxR Srx Skx Dcx
section
variable {P : Program} {w : World} {K : PySem.W.Frag} {mg : Str → Option Value} {base : Heap} {f C : Addr} {fd : FuncData} {p : He.Defn} {N : TabN} {R : ErN}
abbrev nRowsIn : List Str := ["text", "line"]
theorem scRowsIn : FnScope nRowsIn ["text"] (defScope s_rows_in_x) := ⟨rfl, rfl, rfl, by decide +kernel, rfl, by decide +kernel, by decide +kernel⟩
def spRowsIn : Sp := fun vs H Q _ => ∃ x : Str, vs = [.str x] ∧ x.length ≤ 5000 ∧ ∀ p H' ks, Gr H H' → Told H H' p ks → ks.map (·.2) = rowsIn x → Q (.ref p) H'
theorem ok_rows_in (F : FnP K "_rows_in" s_rows_in_x f fd) (gE : ∃ t, mg "EMPTY_ROW" = some (.str "-" t)) : FnOk P w K mg base CX0 1 f fd ["text"] spRowsIn := by
  obtain ⟨tE, gE⟩ := gE
  refine F.ok scRowsIn (fun vs H Q E h => ?_) (fun cdv A outer s H vs Q E hr h => ?_)
  · obtain ⟨x, rfl, _⟩ := h
    rfl
  · obtain ⟨x, rfl, few, q⟩ := h
    refine ⟨_, PSs.nox (pss_cons (ps_if (pt_cmpR op_eq (pv 0) pe_str (nomark _)) (pss_one (ps_ret (pe_lst pa_nil))) (pss_nil)) (pss_one (ps_ret (pe_lc (own := [("line", 1)]) (g := gName 1) (tt := tYes) rfl scRowsIn.nd (pi_list (pe_split (pv 0) pe_str)) (blkOk_by (N := nRowsIn) (sc := defScope s_rows_in_x) (by decide +kernel)) (fun _ _ _ _ _ => (pg_name (i := 1) scRowsIn.nd rfl (.inl rfl))) (fun _ _ _ _ _ => pts_nil) (fun _ _ _ _ _ => (pe_ifExp (pt_cmpR op_eq (pv 1) (pe_glob (v := .str "-") (by rfl) gE ⟨_, rfl⟩) (nomark _)) (pe_lst pa_nil) (pe_split (pv 1) pe_str))))))), ?_⟩
    refine ⟨_, rfl, rfl, _, rfl, ?_⟩
    by_cases h0 : x = ""
    · rw [decide_eq_true (by rw [h0])]
      refine iteT ⟨Nat.zero_le _, fun p np => q p _ [] (Gr.new np) (Told.nil np) ?_⟩
      unfold rowsIn
      rw [if_pos h0]
      rfl
    · rw [decide_eq_false fun z => h0 (V.str.inj z)]
      have sl := split_len (x := x) tlN (by decide)
      refine iteF ⟨_, rfl, ⟨_, rfl⟩, x, "\n", rfl, rfl, by decide +kernel, by rw [sizeLine_eq]; omega, fun L nL => ⟨L, rfl, ⟨_, .inl (.inl upd_same)⟩, fun D nD => ?_⟩⟩
      refine lc_newT (K := K) (xs := Txt.split x "\n") rowOf (.inl (.inl upd_same)) (by rw [sizeLine_eq]; omega) nD (fun v => rfl) (fun l hl H4 Q' g4 hq => ?_) fun H5 cs g5 T5 ec => ?_
      · refine ⟨_, rfl, rfl, _, rfl, ?_⟩
        by_cases hd : l = "-"
        · rw [decide_eq_true (by rw [hd])]
          refine iteT ⟨Nat.zero_le _, fun z nz => ?_⟩
          have e : rowOf l = [] := if_pos hd
          have := hq H4 z (Gr.refl _) nz
          rw [e] at this
          exact this
        · rw [decide_eq_false fun z => hd (V.str.inj z)]
          have e : rowOf l = Txt.split l " " := if_neg hd
          refine iteF ⟨_, rfl, ⟨_, rfl⟩, l, " ", rfl, rfl, by decide +kernel, ?_, fun z nz => ?_⟩
          · have := sl.2 l hl
            rw [sizeLine_eq]
            omega
          · have := hq H4 z (Gr.refl _) nz
            rw [e] at this
            exact this
      · refine q D H5 cs ((Gr.new nL).trans g5) (T5.from (Gr.new nL)) ?_
        rw [ec]
        unfold rowsIn
        rw [if_neg h0]
theorem canL_okt : ∀ xs : List Str, (∀ x ∈ xs, Okt x) → PyData.canLayAll0 (xs.map PyData.str) = true
  | [], _ => by simp [PyData.canLayAll0]
  | n :: r, h => by
    have h1 := okt_iff.mpr (h n List.mem_cons_self)
    simp [PyData.canLayAll0, PyData.canLay0, h1, canL_okt r fun x hx => h x (List.mem_cons_of_mem _ hx)]
theorem shaped_okt {xs : List Str} (nm : ∀ x ∈ xs, Okt x) : SeqAt.shaped (dS xs) = true := by
  have h1 := deep_strs xs
  have h2 : PyData.depth (dS xs) ≤ 64 := by simp only [dS, PyData.depth]; omega
  show (PyData.canLay0 (dS xs) && decide (PyData.depth (dS xs) ≤ 64)) = true
  rw [Bool.and_eq_true]
  exact ⟨by simp only [dS, PyData.canLay0]; exact canL_okt xs nm, decide_eq_true h2⟩
abbrev nRead : List Str := ["text", "book", "at", "names", "why"]
theorem scRead : FnScope nRead ["text"] (defScope s_read_x) := ⟨rfl, rfl, rfl, by decide +kernel, rfl, by decide +kernel, by decide +kernel⟩
/-- rows that a book may have -/
structure GoodB (rows : List (List Str)) : Prop where
  each : ∀ r ∈ rows, Ris r ∧ Nms r
  few : rows.length ≤ 30
  nms : (allN rows).length ≤ 12
def spRead (K : PySem.W.Frag) (C : Addr) (N : TabN) (R : ErN) : Sp := fun vs H Q E => ∃ v, vs = [v] ∧ N.G H ∧
  ((∃ x, v = .str x ∧ x.length ≤ 880 ∧ Okt x ∧ GoodB (rowsIn x) ∧ ∀ b d H' tb, Gr H H' → NewB C H H' b d tb (rowsIn x) → Q (.ref b) H') ∨
   (∃ x, v = .str x ∧ x.length ≤ 880 ∧ Okt x ∧ ¬ GoodB (rowsIn x) ∧ ∀ H', Gr H H' → E (.ref R.un) none H') ∨
   (∃ t : String, TyX K H v (.type t) ∧ kitB t "str" = some false ∧ ∀ H', Gr H H' → E (.ref R.un) none H'))
theorem ok_read (F : FnP K "read" s_read_x f fd) (BC : BkC K mg C) (cMk : MkB P w K mg base C) (cRI : Calls P w K mg base CX0 1 "_rows_in" spRowsIn) (cPut : MCalls P w K mg base (CXm P w) 5 C "put" (spPutM K C N R))
    (eUn : ErrC K mg "Unread" R.un) {Me : Addr} (gMe : mg "MeetError" = some (.ref Me)) (mMany : PySem.W.exmOne K (.ref R.many) (.ref Me) = some true) (mName : PySem.W.exmOne K (.ref R.name) (.ref Me) = some true) (mRow : PySem.W.exmOne K (.ref R.row) (.ref Me) = some true)
    (sMany : StrC K R.many) (sName : StrC K R.name) (sRow : StrC K R.row) (g_isinstance : mg "isinstance" = none) (g_str : mg "str" = none) (g_enumerate : mg "enumerate" = none) (g_sorted : mg "sorted" = none) : FnOk P w K mg base (L2.CX P w) 6 f fd ["text"] (spRead K C N R) := by
  refine F.ok scRead (fun vs H Q E h => ?_) (fun cdv A outer s H vs Q E hr h => ?_)
  · obtain ⟨v, rfl, _⟩ := h
    rfl
  · obtain ⟨v, rfl, hN, h⟩ := h
    have hu : (A.deeper (envOfC "read" (defScope s_read_x) s.heap.objs.size f cdv)).units + 1 < cLine := by
      have h1 := hr.un
      omega
    refine ⟨_, pss_cons (ps_if (pt_not (pt_val (pe_callB call_isi (by rfl) g_isinstance (by decide +kernel) (pa_cons (pv 0) (pa_cons (pe_bltn (v := .ty "str") (by rfl) g_str (by decide +kernel) rfl) pa_nil))))) (pss_one (ps_raise rfl (takes_of rfl rfl rfl rfl) (SkE.pmk_own1 PySem.F.excBase_ValueError eUn.xC eUn.gC eUn.kC (raises_own eUn.bC eUn.tC) (by rfl) pe_str))) (pss_nil)) (pss_cons (ps_set (i := 1) scRead.nd rfl (.inl rfl) (pe_new cMk BC hr (by decide) (by rfl))) (pss_cons (ps_for (passes_of rfl) rfl (pi_enum (by rfl) g_enumerate (pa_cons (pe_k cRI hr (by decide) (by rfl) (pa_cons (pv 0) pa_nil)) pa_nil)) (pg_tup rfl (pgs_cons (pg_name (i := 2) scRead.nd rfl (.inl rfl)) (pgs_cons (pg_name (i := 3) scRead.nd rfl (.inl rfl)) pgs_nil))) (pss_cons (ps_if (pt_cmpR (op_neD (hu64 hr)) (pv 3) (pe_callB (cr_sortedD Ord.strs (hu64 hr)) (by rfl) g_sorted boot_sorted (pa_cons (pv 3) pa_nil)) (nomark _)) (pss_one (ps_raise rfl (takes_of rfl rfl rfl rfl) (SkE.pmk_own1 PySem.F.excBase_ValueError eUn.xC eUn.gC eUn.kC (raises_own eUn.bC eUn.tC) (by rfl) (pe_joined (.cons pe_str (.cons (pe_fmt (pv 2)) (.cons pe_str .nil))))))) (pss_nil)) (pss_one (ps_try_asR (i := 4) rfl rfl scRead.nd rfl rfl ⟨rfl, by decide, .inl gMe⟩ (fun hd => L2H.passesAt_of rfl hd) (takes_of rfl rfl rfl rfl) (fun _ _ _ _ _ h => h) (fun W pn xe tk _ => pss_one (ps_expr (pe_m cPut BC.cl hr (by decide) (paTm tk) (pv 1) (pa_cons (pv 3) pa_nil)))) (fun a T oe cls d pn hz hf hot => pss_one (L2H.ps_raiseHN hot suiteR_takes (pmk5_own1 PySem.F.excBase_ValueError eUn.xC eUn.gC eUn.kC (raises_own eUn.bC eUn.tC) (by rfl) (pe_joined (.cons pe_str (.cons (pe_fmt (pv 2)) (.cons pe_str (.cons (pe_whyR hz hf hu (pv 4)) .nil)))))))))))) (pss_one (ps_ret (pv 1))))), ?_⟩
    have h : (∃ x, v = .str x ∧ x.length ≤ 880 ∧ Okt x ∧ ((GoodB (rowsIn x) ∧ ∀ b d H' tb, Gr H H' → NewB C H H' b d tb (rowsIn x) → Q (.ref b) H') ∨ (¬ GoodB (rowsIn x) ∧ ∀ H', Gr H H' → E (.ref R.un) none H'))) ∨
        (∃ t : String, TyX K H v (.type t) ∧ kitB t "str" = some false ∧ ∀ H', Gr H H' → E (.ref R.un) none H') := by
      rcases h with ⟨x, e, few, ok, g, q⟩ | ⟨x, e, few, ok, g, q⟩ | h
      · exact .inl ⟨x, e, few, ok, .inl ⟨g, q⟩⟩
      · exact .inl ⟨x, e, few, ok, .inr ⟨g, q⟩⟩
      · exact .inr h
    rcases h with ⟨x, rfl, few, ok, h⟩ | ⟨t, ty, kt, q⟩
    rotate_left
    · refine ⟨_, rfl, _, _, _, _, false, rfl, .ty _, ty, kit_ty kt, _, rfl, ?_⟩
      exact iteT (q H (Gr.refl H))
    refine ⟨_, rfl, _, _, _, _, true, rfl, .ty _, .base (.str x), kit_ty (by decide +kernel), _, rfl, ?_⟩
    refine iteF ?_
    intro b d H1 g1 nb ndd B1
    refine ⟨_, rfl, x, rfl, by omega, fun L Hs ks gs Ts es => ⟨L, _, rfl, .inl (.inl Ts.at_), ?_⟩⟩
    have lL : LL Hs L ks := Ts.ll
    have gHs := g1.trans gs
    have kl : ks.length ≤ 882 := by
      have h1 := congrArg List.length es
      rw [List.length_map] at h1
      rw [h1]
      unfold rowsIn
      by_cases h0 : x = ""
      · rw [if_pos h0]
        exact Nat.zero_le _
      · rw [if_neg h0, List.length_map]
        have := (split_len (x := x) tlN (by decide)).1
        omega
    have rowsF : ∀ r ∈ rowsIn x, r.length ≤ 881 ∧ (∀ y ∈ r, Okt y ∧ y.length ≤ 880) := by
      intro r hr
      unfold rowsIn at hr
      by_cases h0 : x = ""
      · rw [if_pos h0] at hr
        exact absurd hr List.not_mem_nil
      · rw [if_neg h0] at hr
        obtain ⟨l, hl, rfl⟩ := List.mem_map.mp hr
        have l1 := (split_len (x := x) tlN (by decide)).2 l hl
        have l2 := okt_split tlN (by decide) ok hl
        unfold rowOf
        by_cases h1 : l = "-"
        · rw [if_pos h1]
          exact ⟨Nat.zero_le _, fun y hy => absurd hy List.not_mem_nil⟩
        · rw [if_neg h1]
          have l3 := split_len (x := l) tlB (by decide)
          exact ⟨by omega, fun y hy => ⟨okt_split tlB (by decide) l2 hy, by have := l3.2 y hy; omega⟩⟩
    refine for_enum (K := K) (xs := ks.map fun q : Addr × List Str => V.ref q.1) (fun i σ H2 => Gr H H2 ∧ Sqs Hs H2 ∧ ∃ (tb : Tb1) (v2 v3 v4 : Option V), NewB C H H2 b d tb ((ks.take i).map (·.2)) ∧ (∀ r ∈ (ks.take i).map (·.2), Ris r ∧ Nms r) ∧ σ = [some (.str x), some (.ref b), v2, v3, v4])
      ⟨gHs, Sqs.gr (Gr.refl _), [], none, none, none, ⟨nb, ndd, B1.gr gs, Tok.nil, rfl, fun _ z => absurd z List.not_mem_nil⟩, fun _ z => absurd z List.not_mem_nil, rfl⟩ (fun i σ H2 _ h2 => .inl (.inl (h2.2.1.lst lL.at_))) (fun i y T0 σ H2 hx h2 nT => ?_) (fun σ H2 h2 => ?_)
    · obtain ⟨g2, sq2, tb, v2, v3, v4, NB, good, rfl⟩ := h2
      obtain ⟨k0, hk0, rfl⟩ := get_map hx
      have m0 := List.mem_of_getElem? hk0
      have hi : i < ks.length := (List.getElem?_eq_some_iff.mp hk0).1
      have mr : k0.2 ∈ rowsIn x := by rw [← es]; exact List.mem_map.mpr ⟨k0, m0, rfl⟩
      obtain ⟨rl, ro⟩ := rowsF k0.2 mr
      have e0 : H2 k0.1 = some (.lst (k0.2.map V.str)) := sq2.lst (lL.own k0 m0)
      have len : ((ks.take i).map (·.2)).length = i := by rw [List.length_map, List.length_take]; omega
      have tlen : tb.length = i := by
        have h1 := congrArg List.length NB.rows
        unfold nr numd at h1
        rw [List.length_map, List.length_mapIdx, List.length_map, len] at h1
        exact h1
      have hnum : ((Str.ofString (toString ((i : Nat) : Int)))).length ≤ 10 := PySem.W.KT.len_num (by omega) (by omega)
      have hlog : ((i : Nat) : Int).natAbs.log2 < 1920 := by
        rw [Int.natAbs_natCast]
        exact Nat.lt_of_le_of_lt (Nat.log2_le_self i) (by omega)
      have big : ∀ n : Nat, n ≤ 1000 → n ≤ sizeLine := fun n hn => by rw [sizeLine_eq]; omega
      generalize hU : upd H2 T0 _ = H3
      have g3 : Gr H2 H3 := hU ▸ Gr.new nT
      refine ⟨T0, _, rfl, .inl (.inl (by rw [← hU]; exact upd_same)), rfl, _, _, rfl, _, _, rfl, rfl, ?_⟩
      have sh : ∀ ys : List Str, (∀ y ∈ ys, Okt y) → SeqAt.shaped (dS ys) = true := fun ys hy => shaped_okt hy
      refine ⟨_, rfl, _, rfl, sortedT (K := K) (.inl (.inl (g3.lst e0))) fun p np => ?_⟩
      have g4 : Gr H3 (upd H3 p (.lst ((srt k0.2).map V.str))) := Gr.new np
      have e4 : (upd H3 p (.lst ((srt k0.2).map V.str))) p = some (.lst ((srt k0.2).map V.str)) := upd_same
      generalize upd H3 p (.lst ((srt k0.2).map V.str)) = H4 at g4 e4
      refine ⟨dS k0.2, dS (srt k0.2), dp_dS (.inl (.inl ((g3.trans g4).lst e0))), dp_dS (.inl (.inl e4)), sh _ fun y hy => (ro y hy).1, sh _ fun y hy => (ro y (srt_mem.mp hy)).1, _, rfl, ?_⟩
      rw [eqv_dS]
      have g24 := g3.trans g4
      have g04 := g2.trans g24
      by_cases hs : k0.2 = srt k0.2
      · rw [decide_eq_true hs]
        refine iteF ⟨_, rfl, b, d, tb, _, rfl, NB.bk.gr g24, _, rfl, ?_⟩
        generalize hE : WE (wCat _ _ _ _) _ = E'
        have bad : ∀ Cx : Addr, PySem.W.exmOne K (.ref Cx) (.ref Me) = some true → StrC K Cx → (¬ GoodB (rowsIn x)) → ∀ H', Gr H4 H' → E' (.ref Cx) none H' := by
          intro Cx hm hc hg H' g'
          have q : ∀ H', Gr H H' → E (.ref R.un) none H' := by
            rcases h with ⟨h, _⟩ | ⟨_, q⟩
            · exact absurd h hg
            · exact q
          rw [← hE]
          refine ⟨hm, fun a T m na sy => ?_⟩
          have l1 : (Str.empty ++ (Str.ofString "line ")).length ≤ 10 := by decide +kernel
          have l2 := PySem.W.KT.len_app l1 hnum
          have l3 := PySem.W.KT.len_app l2 (show (Str.ofString ": ").length ≤ 5 by decide +kernel)
          have l4 := PySem.W.KT.len_app l3 sy.few
          exact ⟨_, rfl, big _ (by omega), _, rfl, .inr ⟨_, rfl, hlog, _, rfl, big _ (by omega), _, rfl, big _ (by omega), _, rfl, Cx, m, rfl, rfl, rfl, hc, sy.at_, _, rfl, big _ (by omega), q _ (g04.trans g')⟩⟩
        have gN := hN.gr g04
        refine ⟨b, d, tb, _, .ref k0.1, rfl, NB.bk.gr g24, NB.ok, gN, ?_⟩
        have e5 := g24.lst e0
        have thg : ∀ v ∈ k0.2.map V.str, Thing K H4 v := by
          intro v hv
          obtain ⟨y, hy, rfl⟩ := List.mem_map.mp hv
          have := (ro y hy).2
          exact thing_str (by rw [sizeLine_eq]; omega)
        by_cases nm : Nms k0.2
        · have hok : HOk H4 (.ref k0.1) k0.2 := ⟨k0.1, rfl, e5, nm, by omega⟩
          by_cases nd : k0.2.Nodup
          · by_cases fit : tb.length < 30 ∧ (allN (rws tb ++ [k0.2])).length ≤ 12
            · refine .inl ⟨k0.2, hok, by omega, nd, fit.1, fit.2, fun p2 H5 g5 np2 B5 => ⟨GrX.young g04 g5 (fun z hz => ?_), sq2.trans ((Sqs.gr g24).trans ((NB.bk.gr g24).off g5 fun z hz => hz)), tb ++ [((((ks.take i).map (·.2)).length : Int), p2, once k0.2)], _, _, _, ⟨nb, ndd, ?_, ?_, ?_, fun e he => (List.mem_append.mp he).elim (NB.fresh e) fun he => by rw [List.mem_singleton.mp he]; exact g04.free np2⟩, fun r hr => ?_, rfl⟩⟩
              · rcases hz with rfl | rfl
                · exact nb
                · exact ndd
              · rw [take_map hk0, List.length_append]
                exact B5
              · rw [take_map hk0, List.length_append]
                exact NB.ok.put nm (by omega) fit.2 p2
              · rw [nr_snoc, NB.rows, take_map hk0, List.map_append]
                show _ = numd (_ ++ [once k0.2])
                rw [numd_snoc, List.length_map (f := once)]
              · rw [take_map hk0] at hr
                rcases List.mem_append.mp hr with hr | hr
                · exact good r hr
                · rw [List.mem_singleton.mp hr]
                  exact ⟨by rw [hs]; exact ris_srt nd, nm⟩
            · refine .inr (.inl ⟨k0.2, hok, by omega, nd, ?_, bad R.many mMany sMany fun hg => fit ⟨?_, ?_⟩⟩)
              · by_cases f1 : tb.length < 30
                · exact .inr (by have := fun z => fit ⟨f1, z⟩; omega)
                · exact .inl (by omega)
              · have h1 := hg.few
                have h2 := congrArg List.length es
                rw [List.length_map] at h2
                omega
              · rw [NB.rws, ← allN_once, ← List.map_singleton (f := once), ← List.map_append, allN_map_once]
                refine Nat.le_trans (allN_mono fun r hr => ?_) hg.nms
                rw [← es]
                rcases List.mem_append.mp hr with hr | hr
                · exact ((List.take_sublist i ks).map _).subset hr
                · rw [List.mem_singleton.mp hr]
                  exact List.mem_map.mpr ⟨k0, m0, rfl⟩
          · exact .inr (.inr (.inl ⟨k0.2, hok, nd, bad R.row mRow sRow fun hg => nd (hg.each _ mr).1.nodup⟩))
        · refine .inr (.inr (.inr (.inl ⟨⟨k0.1, _, rfl, e5, thg, by rw [List.length_map]; omega, ?_⟩, bad R.name mName sName fun hg => nm (hg.each _ mr).2⟩)))
          have : ∃ y ∈ k0.2, isNm y ≠ true := by
            refine Classical.byContradiction fun hc => nm fun y hy => Classical.byContradiction fun hn => hc ⟨y, hy, hn⟩
          obtain ⟨y, hy, hn⟩ := this
          exact ⟨.str y, List.mem_map.mpr ⟨y, hy, rfl⟩, (Bool.not_eq_true _).mp hn⟩
      · rw [decide_eq_false hs]
        have q : ∀ H', Gr H H' → E (.ref R.un) none H' := by
          rcases h with ⟨hg, _⟩ | ⟨_, q⟩
          · exact absurd (srt_id (hg.each _ mr).1.sorted).symm hs
          · exact q
        have l1 : (Str.empty ++ (Str.ofString "the names of line ")).length ≤ 30 := by decide +kernel
        have l2 := PySem.W.KT.len_app l1 hnum
        have l3 := PySem.W.KT.len_app l2 (show (Str.ofString " are not rising").length ≤ 20 by decide +kernel)
        exact iteT ⟨_, rfl, big _ (by omega), _, rfl, .inr ⟨_, rfl, hlog, _, rfl, big _ (by omega), _, rfl, big _ (by omega), q _ g04⟩⟩
    · obtain ⟨g2, sq2, tb, v2, v3, v4, NB, good, rfl⟩ := h2
      rw [List.length_map, List.take_length, es] at NB good
      refine ⟨_, rfl, ?_⟩
      rcases h with ⟨_, q⟩ | ⟨hg, _⟩
      · exact q b d H2 tb g2 NB
      · refine absurd ⟨good, ?_, ?_⟩ hg
        · have h1 := congrArg List.length NB.rows
          unfold nr numd at h1
          rw [List.length_map, List.length_mapIdx, List.length_map] at h1
          rw [← h1]
          exact NB.ok.few
        · have h1 := NB.ok.nms
          rw [NB.rws, allN_map_once] at h1
          exact h1
end
end K1
end
section
set_option maxHeartbeats 8000000
namespace K1
open PySem PySem.Spec PyProof.Rows L2 Gr GxR Srx Skx Dcx
section
variable {P : Program} {w : World} {K : PySem.W.Frag} {mg : Str → Option Value} {base : Heap} {f C : Addr} {fd : FuncData} {p : He.Defn} {N : TabN} {R : ErN}
/-! ### _law_text -/
abbrev nLText : List Str := ["_law_rows_here", "_law_row_here"]
theorem scLText : FnScope nLText ["_law_rows_here"] (defScope s_law_text_x) := ⟨rfl, rfl, rfl, by decide +kernel, rfl, by decide +kernel, by decide +kernel⟩
def spLText (K : PySem.W.Frag) : Sp := fun vs H Q _ => ∃ (a : Addr) (ps : List (Addr × List Str)), vs = [.ref a] ∧ LQ K H a ps ∧ (∀ q ∈ ps, Nms q.2 ∧ q.2.length ≤ 20) ∧ ps.length ≤ 40 ∧ ∀ H', Gr H H' → Q (.str (textS (ps.map fun q => srt q.2))) H'
theorem sum8 {r : List Str} (h : Nms r) : (r.map (·.length)).sum ≤ 8 * r.length := sum_le 8 r fun x hx => nm_len (h x hx)
theorem lineS_len20 {r : List Str} (h : Nms r) (l : r.length ≤ 20) : (lineS r).length ≤ 200 := by
  unfold lineS
  by_cases e : r = []
  · rw [if_pos e]
    decide +kernel
  · rw [if_neg e, join_len]
    have h1 := sum8 h
    have h2 : (" " : Str).length = 1 := by decide +kernel
    rw [h2]
    omega
theorem ok_ltext (F : FnP K "_law_text" s_law_text_x f fd) (g_sorted : mg "sorted" = none) : FnOk P w K mg base CX0 1 f fd ["_law_rows_here"] (spLText K) := by
  refine F.ok scLText (fun vs H Q E h => ?_) (fun cdv A outer s H vs Q E hr h => ?_)
  · obtain ⟨a, ps, rfl, _⟩ := h
    rfl
  · obtain ⟨a, ps, rfl, lA, nm, few, q⟩ := h
    refine ⟨_, PSs.nox (pss_one (ps_ret (pe_joinK (K := K) rfl pe_str (pe_lc (own := [("_law_row_here", 1)]) (g := gName 1) (tt := tYes) rfl scLText.nd (pi_list (pv 0)) (blkOk_by (N := nLText) (sc := defScope s_law_text_x) (by decide +kernel)) (fun _ _ _ _ _ => (pg_name (i := 1) scLText.nd rfl (.inl rfl))) (fun _ _ _ _ _ => pts_nil) (fun _ _ _ _ _ => (pe_ifExp (pt_cmpR (r := rNeD K) (op_neD (hu64 hr)) (pv 1) (pe_lst pa_nil) (nomark _)) (pe_joinK (K := K) rfl pe_str (pe_callB (r := rSortedD K fun x : Str => PyData.str x) (cr_sortedD Ord.strs (hu64 hr)) (by rfl) g_sorted boot_sorted (pa_cons (pv 1) pa_nil))) pe_str)))))), ?_⟩
    have l1 : (" " : Str).length = 1 := by decide +kernel
    have l2 : ("\n" : Str).length = 1 := by decide +kernel
    refine ⟨⟨_, rfl⟩, _, rfl, a, rfl, ⟨_, lA.at_⟩, fun D nD => lc_mapW (K := K) (xs := ps) (fun q : Addr × List Str => V.ref q.1) (fun q => V.str (lineS (srt q.2))) lA.at_ (by rw [sizeLine_eq]; omega) nD (fun v => rfl) (fun q0 hq0 H4 Q' g4 hq => ?_) fun H2 g2 e2 => ?_⟩
    · have s0 := g4.seq (lA.own q0 hq0)
      obtain ⟨nm0, len0⟩ := nm q0 hq0
      refine ⟨_, rfl, Nat.zero_le _, fun z nz => ⟨dS q0.2, dS [], dp_dS ((Gr.new nz).seq s0), dp_dS (.inl (.inl upd_same)), shaped_dS nm0, shaped_dS (fun _ z => absurd z List.not_mem_nil), _, rfl, ?_⟩⟩
      rw [eqv_dS]
      by_cases he : q0.2 = []
      · rw [decide_eq_true he]
        have e : lineS (srt q0.2) = "-" := by
          rw [he]
          decide +kernel
        have q2 := fun H5 g5 => hq H5 g5
        rw [e] at q2
        exact iteF (q2 _ (Gr.new nz))
      · rw [decide_eq_false he]
        refine iteT ⟨⟨_, rfl⟩, _, rfl, sortedT (K := K) ((Gr.new nz).seq s0) fun so nso => ?_⟩
        have e : lineS (srt q0.2) = Txt.join " " (srt q0.2) := if_neg fun z => he (by
          have := congrArg List.length z
          rw [srt_len] at this
          exact List.length_eq_zero_iff.mp this)
        have h8 := sum8 (nms_srt nm0)
        rw [srt_len] at h8
        refine ⟨_, so, srt q0.2, rfl, rfl, .inl (.inl (.inl upd_same)), by rw [l1, srt_len]; omega, ?_⟩
        have q2 := fun H5 g5 => hq H5 g5
        rw [e] at q2
        exact q2 _ ((Gr.new nz).trans (Gr.new nso))
    · have e3 : (ps.map fun q => V.str (lineS (srt q.2))) = (ps.map fun q => lineS (srt q.2)).map V.str := by rw [List.map_map]; rfl
      rw [e3] at e2
      refine ⟨_, D, ps.map fun q => lineS (srt q.2), rfl, rfl, .inl (.inl (.inl e2)), ?_, ?_⟩
      · have h1 := sum_le 200 (ps.map fun q => lineS (srt q.2)) fun x hx => by
          obtain ⟨q0, hq0, rfl⟩ := List.mem_map.mp hx
          exact lineS_len20 (nms_srt (nm q0 hq0).1) (by rw [srt_len]; exact (nm q0 hq0).2)
        rw [List.length_map] at h1
        rw [l2, List.length_map]
        omega
      · have := q H2 g2
        unfold textS at this
        rw [List.map_map] at this
        exact this
/-! ### _law_is_name -/
def lets : Str := "abcdefghijklmnopqrstuvwxyz"
theorem lets_small (c : Nat) : (!decide (c ∈ lets.cps.toList)) = !small c := by
  have e : lets.cps.toList = (List.range 26).map (97 + ·) := by decide +kernel
  rw [e]
  unfold small
  congr 1
  rw [Bool.eq_iff_iff, decide_eq_true_eq, Bool.and_eq_true, decide_eq_true_eq, decide_eq_true_eq, List.mem_map]
  constructor
  · rintro ⟨a, ha, rfl⟩
    rw [List.mem_range] at ha
    omega
  · intro h
    exact ⟨c - 97, List.mem_range.mpr (by omega), by omega⟩
abbrev nLIs : List Str := ["_law_word","_law_sign"]
theorem scLIs : FnScope nLIs ["_law_word"] (defScope s_law_is_name_x) := ⟨rfl, rfl, rfl, by decide +kernel, rfl, by decide +kernel, by decide +kernel⟩
def spLIs : Sp := fun vs H Q _ => ∃ x : Str, vs = [.str x] ∧ x.length ≤ 5000 ∧ ∀ H', Gr H H' → Q (.bl (isNm x)) H'
theorem ok_lis (F : FnP K "_law_is_name" s_law_is_name_x f fd) (g_len : mg "len" = none) : FnOk P w K mg base CX0 1 f fd ["_law_word"] spLIs := by
  refine F.ok scLIs (fun vs H Q E h => ?_) (fun cdv A outer s H vs Q E hr h => ?_)
  · obtain ⟨x, rfl, _⟩ := h
    rfl
  · obtain ⟨x, rfl, hx, q⟩ := h
    refine ⟨_, PSs.nox (pss_cons (ps_if (pt_not (pt_chain op_le op_le pe_int (pe_callB call_len_str (by rfl) g_len boot_len (pa_cons (pv 0) pa_nil)) pe_int)) (pss_one (ps_ret pe_bl)) (pss_nil)) (pss_one (ps_ret (pe_cmpR (op_eqNil (hu64 hr)) (pe_lc (own := [("_law_sign", 1)]) (g := gName 1) rfl scLIs.nd (pi_str (pv 0)) (blkOk_by (N := nLIs) (sc := defScope s_law_is_name_x) (by decide +kernel)) (fun _ _ _ _ _ => (pg_name (i := 1) scLIs.nd rfl (.inl rfl))) (fun _ _ _ _ _ => pts_one (pt_cmpR op_notIn_sign (pv 1) pe_str rfl)) (fun _ _ _ _ _ => (pv 1))) (pe_lst pa_nil) (nomark _))))), ?_⟩
    have hx2 : x.length ≤ sizeLine := by rw [sizeLine_eq]; omega
    refine ⟨V.str x, rfl, x, rfl, hx2, 1, _, rfl, rfl, _, rfl, ?_⟩
    by_cases h1 : (1 : Int) ≤ x.length
    · rw [decide_eq_true h1]
      refine iteT ⟨_, _, rfl, rfl, ?_⟩
      refine ⟨decide ((x.length : Int) ≤ 8), rfl, ?_⟩
      by_cases h8 : (x.length : Int) ≤ 8
      · rw [decide_eq_true h8]
        refine iteF ?_
        refine ⟨_, rfl, x, rfl, fun D nD => lc_filtC (fun c => !small c) (by rw [sizeLine_eq]; omega) nD (fun _ => rfl) (fun _ => rfl) (fun c hc H4 Qb g4 hq => ?_) (fun H2 g2 e2 => ?_)⟩
        · refine ⟨_, rfl, c, lets, rfl, rfl, ?_⟩
          rw [lets_small]
          exact ⟨_, rfl, hq H4 (Gr.refl _)⟩
        · refine ⟨Nat.zero_le _, fun l nl => ?_⟩
          refine ⟨_, _, _, rfl, rfl, (Gr.new nl).lst e2, upd_same, ?_⟩
          have e : ((x.cps.toList.filter fun c => !small c).map fun c => V.str ⟨#[c]⟩).isEmpty = isNm x := by
            unfold isNm
            rw [decide_eq_true (show 1 ≤ x.length by omega), decide_eq_true (show x.length ≤ 8 by omega), Bool.true_and, Bool.true_and, Bool.eq_iff_iff, List.isEmpty_iff, List.map_eq_nil_iff, List.filter_eq_nil_iff, List.all_eq_true]
            exact forall_congr' fun c => imp_congr_right fun _ => by cases small c <;> simp
          rw [e]
          exact q _ (g2.trans (Gr.new nl))
      · rw [decide_eq_false h8]
        refine iteT ?_
        have e : isNm x = false := by
          unfold isNm
          rw [decide_eq_false (show ¬ x.length ≤ 8 by omega), Bool.false_and, Bool.and_false]
        rw [← e]
        exact q _ (Gr.refl _)
    · rw [decide_eq_false h1]
      refine iteF ⟨_, rfl, iteT ?_⟩
      have e : isNm x = false := by
        unfold isNm
        rw [decide_eq_false (show ¬ 1 ≤ x.length by omega), Bool.false_and]
      rw [← e]
      exact q _ (Gr.refl _)
end
end K1
end
section
set_option maxHeartbeats 8000000
namespace K1
open PySem PySem.Spec PyProof.Rows L2 Gr GxR Srx Skx Dcx
/-- [k for k in range(lo, hi) if ..] -/
theorem lc_filtR {D : Addr} {j n : Nat} {lo : Int} {σ : L2.St} {vs : List Nat} {tt : TT} {H1 : Hp} {Qd : Hp → Prop} (p : Nat → Bool)
    (few : n < sizeLine) (hD : H1 D = none) (hw : ∀ v, wipe ((wipe σ vs).set j (some v)) vs = wipe σ vs) (hj : ∀ v : V, ((wipe σ vs).set j (some v))[j]? = some (some v))
    (ht : ∀ i, i < n → ∀ (H4 : Hp) (Qb : Bool → Hp → Prop), Gr H1 H4 → (∀ H5, Gr H4 H5 → Qb (p i) H5) → tt ((wipe σ vs).set j (some (.int (lo + (i : Nat))))) H4 Qb)
    (q : ∀ H2, Gr H1 H2 → H2 D = some (.lst (((List.range n).filter p).map fun i => V.int (lo + (i : Nat)))) → Qd H2) :
    ∃ W : Nat → Nat → Hp → Prop, (∃ m, W 0 m (upd H1 D (.lst []))) ∧ ∀ i m H, W i m H →
      ((Itr lo n).stop i H ∧ Qd H) ∨ ((Itr lo n).go i H ∧ ∃ Nx : Hp → Prop, (∀ H', Nx H' → ∃ m', m' < m ∧ W (i + 1) m' H') ∧ ∀ z H', (Itr lo n).yld i H z H' → gName j z (wipe σ vs) H' fun σ2 H2 => wipe σ2 vs = wipe σ vs ∧ tt σ2 H2 fun b H3 =>
        if b = true then tVar j σ2 H3 fun y H4 => ∃ acc, H4 D = some (.lst acc) ∧ acc.length < sizeLine ∧ Nx (upd H4 D (.lst (acc ++ [y]))) else Nx H3) := by
  have etk : ∀ i, (List.range (i + 1)).filter p = (List.range i).filter p ++ [i].filter p := fun i => by rw [List.range_succ, List.filter_append]
  refine ⟨fun i m H2 => m = n - i ∧ i ≤ n ∧ Gr H1 H2 ∧ H2 D = some (.lst (((List.range i).filter p).map fun i => V.int (lo + (i : Nat)))), ⟨n, by simp, Nat.zero_le _, Gr.new hD, upd_same⟩, ?_⟩
  rintro i m H2 ⟨rfl, hi, g2, e⟩
  by_cases lt : i < n
  · refine .inr ⟨lt, fun H6 => Gr H1 H6 ∧ H6 D = some (.lst (((List.range (i + 1)).filter p).map fun i => V.int (lo + (i : Nat)))), fun H6 h6 => ⟨n - (i + 1), by omega, rfl, lt, h6.1, h6.2⟩, fun z H6 y => ?_⟩
    obtain ⟨e1, rfl⟩ := y
    subst e1
    refine ⟨hw _, ht i lt _ _ g2 fun H3 g3 => ?_⟩
    cases hp : p i with
    | true =>
      refine iteT ⟨_, hj _, _, g3.lst e, ?_, (g2.trans g3).mut hD, ?_⟩
      · rw [List.length_map]
        have h1 := List.length_filter_le p (List.range i)
        rw [List.length_range] at h1
        omega
      · rw [upd_same, etk, List.map_append]
        simp [hp]
    | false =>
      refine iteF ⟨g2.trans g3, ?_⟩
      rw [etk, List.map_append]
      simp only [hp, List.filter_cons, Bool.false_eq_true, if_false, List.filter_nil, List.map_nil, List.append_nil]
      exact g3.lst e
  · have e3 : i = n := by omega
    subst e3
    exact .inl ⟨Nat.le_refl _, q H2 g2 e⟩
/-! ### rising, step by step -/
theorem ltS_trans {a b c : Str} (h1 : ltS a b) (h2 : ltS b c) : ltS a c := by
  refine ⟨leS_trans h1.1 h2.1, fun z => ?_⟩
  subst z
  exact h1.2 (leS_anti h1.1 h2.1)
theorem ltS_iff {a b : Str} : ltS a b ↔ leS b a = false := by
  constructor
  · intro h
    cases e : leS b a with
    | false => rfl
    | true => exact absurd (leS_anti h.1 e) h.2
  · intro h
    rcases leS_total a b with z | z
    · refine ⟨z, fun e => ?_⟩
      rw [e] at h z
      rw [h] at z
      cases z
    · rw [h] at z
      cases z
theorem ris_steps : ∀ {xs : List Str}, (∀ k a b, xs[k]? = some a → xs[k + 1]? = some b → ltS a b) → Ris xs
  | [], _ => List.Pairwise.nil
  | [x], _ => List.pairwise_singleton _ _
  | x :: y :: r, h => by
    have ih := ris_steps (xs := y :: r) fun k a b e1 e2 => h (k + 1) a b e1 e2
    have h0 := h 0 x y rfl rfl
    refine List.Pairwise.cons (fun z hz => ?_) ih
    rcases List.mem_cons.mp hz with rfl | hz
    · exact h0
    · exact ltS_trans h0 ((List.pairwise_cons.mp ih).1 z hz)
/-- the places at which a list doesn't rise -/
def dips (xs : List Str) : List Nat := (List.range (xs.length - 1)).filter fun i => leS (xs.getD (i + 1) "") (xs.getD i "")
theorem dips_nil {xs : List Str} : dips xs = [] ↔ Ris xs := by
  unfold dips
  rw [List.filter_eq_nil_iff]
  constructor
  · intro h
    refine ris_steps fun k a b e1 e2 => ?_
    have l2 := (List.getElem?_eq_some_iff.mp e2).1
    have z := h k (List.mem_range.mpr (by omega))
    rw [List.getD_eq_getElem?_getD, List.getD_eq_getElem?_getD, e1, e2] at z
    exact ltS_iff.mpr ((Bool.not_eq_true _).mp z)
  · intro h i hi
    rw [List.mem_range] at hi
    have e1 : xs[i]? = some xs[i] := List.getElem?_eq_getElem (by omega)
    have e2 : xs[i + 1]? = some xs[i + 1] := List.getElem?_eq_getElem (by omega)
    rw [List.getD_eq_getElem?_getD, List.getD_eq_getElem?_getD, e1, e2]
    show ¬ leS xs[i + 1] xs[i] = true
    rw [ltS_iff.mp (List.pairwise_iff_getElem.mp h i (i + 1) (by omega) (by omega) (by omega))]
    simp
theorem leS_dec (a b : Str) : (!decide (b.cps.toList < a.cps.toList)) = leS a b := by
  rw [Bool.eq_iff_iff, leS_iff]
  simp
theorem iteT' {A B : Prop} {b : Bool} (e : b = true) (h : A) : if b = true then A else B := by rw [if_pos e]; exact h
def GoodL (rows : List (List Str)) : Prop := ∀ r ∈ rows, Ris r ∧ Nms r
section
variable {P : Program} {w : World} {K : PySem.W.Frag} {mg : Str → Option Value} {base : Heap} {f C : Addr} {fd : FuncData} {p : He.Defn} {N : TabN} {R : ErN}
abbrev nLRowsT : List Str := ["_law_text_here","_law_rows_here","_law_line","_law_words","_law_word","_law_k"]
theorem scLRowsT : FnScope nLRowsT ["_law_text_here"] (defScope s_law_rows_x) := ⟨rfl, rfl, rfl, by decide +kernel, rfl, by decide +kernel, by decide +kernel⟩
def spLRowsT : Sp := fun vs H Q _ => ∃ x : Str, vs = [.str x] ∧ x.length ≤ 880 ∧
  ((GoodL (rowsIn x) ∧ ∀ p H' ks, Gr H H' → Told H H' p ks → ks.map (·.2) = rowsIn x → Q (.ref p) H') ∨ (¬ GoodL (rowsIn x) ∧ ∀ H', Gr H H' → Q .non H'))
theorem ok_lrowsT (F : FnP K "_law_rows" s_law_rows_x f fd) (cIs : Calls P w K mg base CX0 1 "_law_is_name" spLIs) (g_len : mg "len" = none) (g_range : mg "range" = none) : FnOk P w K mg base CX0 2 f fd ["_law_text_here"] spLRowsT := by
  refine F.ok scLRowsT (fun vs H Q E h => ?_) (fun cdv A outer s H vs Q E hr h => ?_)
  · obtain ⟨x, rfl, _⟩ := h
    rfl
  · obtain ⟨x, rfl, few, h⟩ := h
    refine ⟨_, PSs.nox (pss_cons (ps_if (pt_cmpR op_eq (pv 0) pe_str (nomark _)) (pss_one (ps_ret (pe_lst pa_nil))) (pss_nil)) (pss_cons (ps_set (i := 1) scLRowsT.nd rfl (.inl rfl) (pe_lst pa_nil)) (pss_cons (ps_for PassesOwn.never rfl (pi_list (pe_split (pv 0) pe_str)) (pg_name (i := 2) scLRowsT.nd rfl (.inl rfl)) (pss_cons (ps_set (i := 3) scLRowsT.nd rfl (.inr rfl) (pe_split (pv 2) pe_str)) (C8.pss_cut (ps_if (pt_cmpR op_eq (pv 2) pe_str (nomark _)) (pss_one (ps_set (i := 3) scLRowsT.nd rfl (.inr rfl) (pe_lst pa_nil))) (pss_nil)) (pss_cons (ps_if (pt_cmpR (op_neNil (hu64 hr)) (pe_lc (own := [("_law_word", 4)]) (g := gName 4) rfl scLRowsT.nd (pi_list (pv 3)) (blkOk_by (N := nLRowsT) (sc := defScope s_law_rows_x) (by decide +kernel)) (fun _ _ _ _ _ => (pg_name (i := 4) scLRowsT.nd rfl (.inl rfl))) (fun _ _ _ _ _ => pts_one (pt_not (pt_val (pe_k cIs hr (by decide) (by rfl) (pa_cons (pv 4) pa_nil))))) (fun _ _ _ _ _ => (pv 4))) (pe_lst pa_nil) (nomark _)) (pss_one (ps_ret pe_non)) (pss_nil)) (pss_cons (ps_if (pt_cmpR (op_neNil (hu64 hr)) (pe_lc (own := [("_law_k", 5)]) (g := gName 5) rfl scLRowsT.nd (pi_range2 (by rfl) g_range (pa_cons pe_int (pa_cons (pe_callB call_len_seq (by rfl) g_len boot_len (pa_cons (pv 3) pa_nil)) pa_nil))) (blkOk_by (N := nLRowsT) (sc := defScope s_law_rows_x) (by decide +kernel)) (fun _ _ _ _ _ => (pg_name (i := 5) scLRowsT.nd rfl (.inl rfl))) (fun _ _ _ _ _ => pts_one (pt_cmpR op_le_str (pe_ix (r := rIxL K) ix_list (pv 3) (pv 5) (fun _ _ => rfl)) (pe_ix (r := rIxL K) ix_list (pv 3) (pe_op op_sub (pv 5) pe_int) (fun _ _ => rfl)) (nomark _))) (fun _ _ _ _ _ => (pv 5))) (pe_lst pa_nil) (nomark _)) (pss_one (ps_ret pe_non)) (pss_nil)) (pss_one (ps_expr (pe_bm PySem.F.plainAttrs_list PySem.F.slot_list_append PySem.F.type_list_append mt_append (pv 1) (pa_cons (pv 3) pa_nil))))))))) (pss_one (ps_ret (pv 1)))))), ?_⟩
    refine ⟨_, rfl, rfl, _, rfl, ?_⟩
    by_cases h0 : x = ""
    · rw [decide_eq_true (by rw [h0])]
      have er : rowsIn x = [] := if_pos h0
      rw [er] at h
      refine iteT ⟨Nat.zero_le _, fun p np => ?_⟩
      rcases h with ⟨_, q⟩ | ⟨hg, _⟩
      · exact q p _ [] (Gr.new np) (Told.nil np) rfl
      · exact absurd (fun _ z => absurd z List.not_mem_nil) hg
    · rw [decide_eq_false fun z => h0 (V.str.inj z)]
      have er : rowsIn x = (Txt.split x "\n").map rowOf := if_neg h0
      have sl := split_len (x := x) tlN (by decide)
      refine iteF ⟨Nat.zero_le _, fun S nS => ?_⟩
      refine ⟨_, rfl, ⟨_, rfl⟩, x, "\n", rfl, rfl, by decide +kernel, by rw [sizeLine_eq]; omega, fun L nL => ?_⟩
      have gS : Gr H (upd H S (.lst [])) := Gr.new nS
      have gL : Gr (upd H S (.lst [])) (upd (upd H S (.lst [])) L (.lst ((Txt.split x "\n").map V.str))) := Gr.new nL
      have eL0 : (upd (upd H S (.lst [])) L (.lst ((Txt.split x "\n").map V.str))) L = some (.lst ((Txt.split x "\n").map V.str)) := upd_same
      have T0 : Told H (upd (upd H S (.lst [])) L (.lst ((Txt.split x "\n").map V.str))) S [] := (Told.nil nS).gr gL
      have LS : L ≠ S := (ne_of_none (show (upd H S (.lst [])) S = some (.lst []) from upd_same) nL).symm
      generalize upd (upd H S (.lst [])) L (.lst ((Txt.split x "\n").map V.str)) = HL at gL eL0 T0
      refine ⟨L, rfl, ⟨_, .inl (.inl eL0)⟩, for_list (K := K) (xs := (Txt.split x "\n").map V.str) (fun i σ H2 => Gr H H2 ∧ ∃ (ss : List (Addr × List Str)) (v2 v3 : Option V), Told H H2 S ss ∧ ss.map (·.2) = ((Txt.split x "\n").take i).map rowOf ∧ (∀ r ∈ ss.map (·.2), Ris r ∧ Nms r) ∧ H2 L = some (.lst ((Txt.split x "\n").map V.str)) ∧ σ = [some (.str x), some (.ref S), v2, v3, none, none])
        ⟨gS.trans gL, [], none, none, T0, rfl, fun _ z => absurd z List.not_mem_nil, eL0, rfl⟩ (fun i σ H2 _ h2 => ?_) (fun i y σ H2 hx h2 => ?_) (fun σ H2 h2 => ?_)⟩
      · obtain ⟨_, ss, v2, v3, _, _, _, eL, _⟩ := h2
        exact .inl (.inl eL)
      · obtain ⟨g2, ss, v2, v3, T2, es, good, eL, rfl⟩ := h2
        obtain ⟨l, hl0, rfl⟩ := get_map hx
        have ml := List.mem_of_getElem? hl0
        have hi : i < (Txt.split x "\n").length := (List.getElem?_eq_some_iff.mp hl0).1
        have ll := sl.2 l ml
        have mr : rowOf l ∈ rowsIn x := by rw [er]; exact List.mem_map.mpr ⟨l, ml, rfl⟩
        have rlen : (rowOf l).length ≤ 881 ∧ ∀ y ∈ rowOf l, y.length ≤ 880 := by
          unfold rowOf
          by_cases h1 : l = "-"
          · rw [if_pos h1]
            exact ⟨Nat.zero_le _, fun y hy => absurd hy List.not_mem_nil⟩
          · rw [if_neg h1]
            have l3 := split_len (x := l) tlB (by decide)
            exact ⟨by omega, fun y hy => by have := l3.2 y hy; omega⟩
        refine ⟨_, rfl, ⟨_, rfl⟩, l, " ", rfl, rfl, by decide +kernel, by rw [sizeLine_eq]; omega, fun W0 nW0 => ?_⟩
        refine ⟨fun σ' H' => ∃ W, H2 W = none ∧ Gr H2 H' ∧ H' W = some (.lst ((rowOf l).map V.str)) ∧ σ' = [some (.str x), some (.ref S), some (.str l), some (.ref W), none, none], ?_, fun σ' H4 hm => ?_⟩
        · refine ⟨_, rfl, rfl, _, rfl, ?_⟩
          by_cases hd : l = "-"
          · rw [decide_eq_true (by rw [hd])]
            refine iteT ⟨Nat.zero_le _, fun z nz => ⟨z, (Gr.new nW0).free nz, (Gr.new nW0).trans (Gr.new nz), ?_, rfl⟩⟩
            rw [upd_same, show rowOf l = [] from if_pos hd]
            rfl
          · rw [decide_eq_false fun z => hd (V.str.inj z)]
            refine iteF ⟨W0, nW0, Gr.new nW0, ?_, rfl⟩
            rw [upd_same, show rowOf l = Txt.split l " " from if_neg hd]
        · obtain ⟨W, nW, g4, eW, rfl⟩ := hm
          have g04 := g2.trans g4
          have bad : (¬ (Ris (rowOf l) ∧ Nms (rowOf l))) → ∀ H', Gr H H' → Q .non H' := fun hb => by
            rcases h with ⟨hg, _⟩ | ⟨_, q⟩
            · exact absurd (hg _ mr) hb
            · exact q
          refine ⟨_, rfl, W, rfl, ⟨_, .inl (.inl eW)⟩, fun D nD => lc_filtG (K := K) (xs := rowOf l) V.str (fun y => !isNm y) (.inl (.inl eW)) (by rw [sizeLine_eq]; omega) nD (fun _ => rfl) (fun _ => rfl) (fun y hy H5 Qb g5 hq => ?_) (fun H5 g5 e5 => ?_)⟩
          · have := rlen.2 y hy
            exact ⟨_, rfl, y, rfl, by omega, fun H6 g6 => ⟨_, rfl, hq H6 g6⟩⟩
          · refine ⟨Nat.zero_le _, fun z nz => ⟨D, z, _, rfl, rfl, (Gr.new nz).lst e5, upd_same, _, rfl, ?_⟩⟩
            by_cases nm : Nms (rowOf l)
            · have e0 : ((rowOf l).filter fun y => !isNm y) = [] := List.filter_eq_nil_iff.mpr fun y hy => by rw [nm y hy]; simp
              rw [e0]
              have g6 := (g4.trans g5).trans (Gr.new (o := .lst []) nz)
              have eW6 : (upd H5 z (.lst [])) W = some (.lst ((rowOf l).map V.str)) := (Gr.new nz).lst (g5.lst eW)
              generalize upd H5 z (.lst []) = H6 at g6 eW6
              refine iteF ?_
              refine ⟨_, rfl, W, _, rfl, .inl (.inl (.inl eW6)), 1, _, rfl, ⟨by decide, by decide, ?_, ?_⟩, fun D2 nD2 => ?_⟩
              · rw [List.length_map]
                omega
              · rw [List.length_map]
                omega
              rw [List.length_map]
              refine lc_filtR (n := (((rowOf l).length : Int) - 1).toNat) (lo := 1) (fun i => leS ((rowOf l).getD (i + 1) "") ((rowOf l).getD i "")) (by rw [sizeLine_eq]; omega) nD2 (fun _ => rfl) (fun _ => rfl) (fun k hk H7 Qb g7 hq => ?_) (fun H7 g7 e7 => ?_)
              · have e1 : (rowOf l)[k + 1]? = some (rowOf l)[k + 1] := List.getElem?_eq_getElem (by omega)
                have e2 : (rowOf l)[k]? = some (rowOf l)[k] := List.getElem?_eq_getElem (by omega)
                have q1 : (1 : Int) + (k : Nat) = ((k + 1 : Nat) : Int) := by omega
                have q2 : ((k + 1 : Nat) : Int) - 1 = ((k : Nat) : Int) := by omega
                have s7 : SqL K H7 W ((rowOf l).map V.str) := .inl (.inl (g7.lst eW6))
                rw [q1]
                refine ⟨_, rfl, _, rfl, W, _, _, V.str (rowOf l)[k + 1], rfl, rfl, s7, atI_nat (by rw [List.getElem?_map, e1]; rfl), _, rfl, _, rfl, _, _, rfl, rfl, W, _, _, V.str (rowOf l)[k], rfl, rfl, s7, ?_, _, _, rfl, rfl, ?_⟩
                · rw [q2]
                  exact atI_nat (by rw [List.getElem?_map, e2]; rfl)
                · have z := hq H7 (Gr.refl _)
                  rw [List.getD_eq_getElem?_getD, List.getD_eq_getElem?_getD, e1, e2] at z
                  refine ⟨_, rfl, ?_⟩
                  rw [leS_dec]
                  exact z
              · have e8 : ((List.range (((rowOf l).length : Int) - 1).toNat).filter fun i => leS ((rowOf l).getD (i + 1) "") ((rowOf l).getD i "")) = dips (rowOf l) := by
                  unfold dips
                  rw [show (((rowOf l).length : Int) - 1).toNat = (rowOf l).length - 1 by omega]
                rw [e8] at e7
                refine ⟨Nat.zero_le _, fun z2 nz2 => ⟨D2, z2, _, rfl, rfl, (Gr.new nz2).lst e7, upd_same, _, rfl, ?_⟩⟩
                have g8 := (g6.trans g7).trans (Gr.new (o := .lst []) nz2)
                have eW8 : (upd H7 z2 (.lst [])) W = some (.lst ((rowOf l).map V.str)) := (Gr.new nz2).lst (g7.lst eW6)
                generalize upd H7 z2 (.lst []) = H8 at g8 eW8
                by_cases ri : Ris (rowOf l)
                · rw [dips_nil.mpr ri]
                  have T8 := T2.gr g8
                  refine iteF ⟨_, rfl, .inl ⟨rfl, _, .inl (.inl T8.at_)⟩, _, rfl, S, _, _, rfl, rfl, T8.at_, ?_, ?_⟩
                  · have h1 := congrArg List.length es
                    rw [List.length_map, List.length_map, List.length_take] at h1
                    rw [List.length_map, sizeLine_eq]
                    omega
                  · have nSH := T2.new
                    refine ⟨(g2.trans g8).mut nSH, ss ++ [(W, rowOf l)], _, _, T2.snoc2 g2 g8 nW eW8, ?_, fun r hr => ?_, ?_, rfl⟩
                    · rw [List.map_append, es, take_map hl0]
                      rfl
                    · rw [List.map_append] at hr
                      rcases List.mem_append.mp hr with hr | hr
                      · exact good r hr
                      · rw [List.mem_singleton.mp hr]
                        exact ⟨ri, nm⟩
                    · rw [upd_ne LS]
                      exact g8.lst eL
                · refine iteT' (b := !((dips (rowOf l)).map fun i => V.int (1 + (i : Nat))).isEmpty) ?_ (bad (fun z => ri z.1) _ (g2.trans g8))
                  cases e : dips (rowOf l) with
                  | nil => exact absurd (dips_nil.mp e) ri
                  | cons a as => rfl
            · refine iteT' (b := !(((rowOf l).filter fun y => !isNm y).map V.str).isEmpty) ?_ (bad (fun z => nm z.2) _ ((g04.trans g5).trans (Gr.new nz)))
              cases e : (rowOf l).filter fun y => !isNm y with
              | nil =>
                refine absurd (fun y hy => ?_) nm
                have z := List.filter_eq_nil_iff.mp e y hy
                simpa using z
              | cons a as => rfl
      · obtain ⟨g2, ss, v2, v3, T2, es, good, eL, rfl⟩ := h2
        rw [List.length_map, List.take_length, ← er] at es
        refine ⟨_, rfl, ?_⟩
        rcases h with ⟨_, q⟩ | ⟨hg, _⟩
        · exact q S H2 ss g2 T2 es
        · rw [es] at good
          exact absurd good hg
end
end K1
end
section
set_option maxHeartbeats 8000000
namespace K1
open PySem PySem.Spec PyProof.Rows L2 Gr GxR Srx Skx Dcx
open TL (tl)
def nineL : List Str := [("" : Str), ("-" : Str), ("--" : Str), ("- a" : Str), ("a a" : Str), ("b a" : Str), ("abcdefghi" : Str), ("abcdefgh" : Str), ("a  b" : Str)]
/-- what _law_spoilt makes of a text -/
def Spoilt (x y : Str) : Prop := (∃ l ∈ nineL, y = l ++ "\n" ++ x ∨ y = x ++ "\n" ++ l) ∨ ∃ (i m c : Nat), i ≤ x.length ∧ m ≤ 1 ∧ c < 128 ∧ tl y = (tl x).take i ++ c :: (tl x).drop (i + m)
section
variable {P : Program} {w : World} {K : PySem.W.Frag} {mg : Str → Option Value} {base : Heap} {f C : Addr} {fd : FuncData} {p : He.Defn} {N : TabN} {R : ErN}
abbrev nSpoilt : List Str := ["_law_text_here","_law_cell","_law_some","_law_line","_law_at","_law_more","_law_sign"]
theorem scSpoilt : FnScope nSpoilt ["_law_text_here","_law_cell"] (defScope s_law_spoilt_x) := ⟨rfl, rfl, rfl, by decide +kernel, rfl, by decide +kernel, by decide +kernel⟩
def spSpoilt : Sp := fun vs H Q _ => ∃ (x : Str) (c : Int), vs = [.str x, .int c] ∧ x.length ≤ 860 ∧ ∀ y H', Spoilt x y → Gr H H' → Q (.str y) H'
theorem ok_spoilt (F : FnP K "_law_spoilt" s_law_spoilt_x f fd) (g_len : mg "len" = none) : FnOk P w K mg base CX0 1 f fd ["_law_text_here","_law_cell"] spSpoilt := by
  refine F.ok scSpoilt (fun vs H Q E h => ?_) (fun cdv A outer s H vs Q E hr h => ?_)
  · obtain ⟨x, c, rfl, _⟩ := h
    rfl
  · obtain ⟨x, c, rfl, few, q⟩ := h
    refine ⟨_, PSs.nox (pss_cons (ps_set (i := 2) scSpoilt.nd rfl (.inl rfl) pe_str) (pss_cons (ps_set (i := 2) scSpoilt.nd rfl (.inl rfl) (pe_op op_add_str (pv 2) pe_str)) (pss_cons (ps_if (pt_cmpR op_eq (pe_op op_mod (pv 1) pe_int) pe_int (nomark _)) (pss_cons (ps_set (i := 3) scSpoilt.nd rfl (.inl rfl) (pe_ix ix_list (pe_lst (pa_cons pe_str (pa_cons pe_str (pa_cons pe_str (pa_cons pe_str (pa_cons pe_str (pa_cons pe_str (pa_cons pe_str (pa_cons pe_str (pa_cons pe_str pa_nil)))))))))) (pe_op op_mod (pe_op op_fdiv (pv 1) pe_int) pe_int) (fun _ _ => rfl))) (pss_cons (ps_if (pt_cmpR op_eq (pe_op op_mod (pe_op op_fdiv (pv 1) pe_int) pe_int) pe_int (nomark _)) (pss_one (ps_ret (pe_op op_add_str (pe_op op_add_str (pv 3) pe_str) (pv 0)))) (pss_nil)) (pss_one (ps_ret (pe_op op_add_str (pe_op op_add_str (pv 0) pe_str) (pv 3)))))) (pss_nil)) (pss_cons (ps_set (i := 4) scSpoilt.nd rfl (.inl rfl) (pe_op op_mod (pe_op op_fdiv (pv 1) pe_int) (pe_op op_add (pe_callB call_len_str (by rfl) g_len boot_len (pa_cons (pv 0) pa_nil)) pe_int))) (pss_cons (ps_set (i := 5) scSpoilt.nd rfl (.inl rfl) (pe_op op_fdiv (pe_op op_fdiv (pv 1) pe_int) (pe_op op_add (pe_callB call_len_str (by rfl) g_len boot_len (pa_cons (pv 0) pa_nil)) pe_int))) (pss_cons (ps_set (i := 6) scSpoilt.nd rfl (.inl rfl) (pe_ix ix_str (pv 2) (pe_op op_mod (pe_op op_fdiv (pv 5) pe_int) (pe_callB call_len_str (by rfl) g_len boot_len (pa_cons (pv 2) pa_nil))) (fun _ _ => rfl))) (pss_one (ps_ret (pe_op op_add_str (pe_op op_add_str (pe_slice C8.sl_txt (pv 0) po_none (po_some (pv 4))) (pv 6)) (pe_slice C8.sl_txt (pv 0) (po_some (pe_op op_add (pv 4) (pe_op op_mod (pv 5) pe_int))) po_none)))))))))), ?_⟩
    have big : ∀ n : Nat, n ≤ 2000 → n ≤ sizeLine := fun n hn => by rw [sizeLine_eq]; omega
    have lN : ("\n" : Str).length = 1 := by decide +kernel
    refine ⟨_, rfl, _, _, rfl, rfl, big _ (by decide +kernel), ?_⟩
    have sl : ((" !\"#$&'()*+,-./0123456789:;<=>?@ABCDEFGHIJKLMNOPQRSTUVWXYZ[\\]^_`" : Str) ++ ("abcdefghijklmnopqrstuvwxyz{|}~\n\t" : Str)).length = 96 := by decide +kernel
    have sc : ∀ c ∈ tl ((" !\"#$&'()*+,-./0123456789:;<=>?@ABCDEFGHIJKLMNOPQRSTUVWXYZ[\\]^_`" : Str) ++ ("abcdefghijklmnopqrstuvwxyz{|}~\n\t" : Str)), c < 128 := by decide +kernel
    generalize ((" !\"#$&'()*+,-./0123456789:;<=>?@ABCDEFGHIJKLMNOPQRSTUVWXYZ[\\]^_`" : Str) ++ ("abcdefghijklmnopqrstuvwxyz{|}~\n\t" : Str)) = so at sl sc
    refine ⟨_, rfl, _, _, rfl, rfl, (by show (0 : Int) < 5; decide), rfl, _, rfl, ite2 (fun _ => ?_) fun _ => ?_⟩
    · refine ⟨(by show 9 ≤ sizeLine; rw [sizeLine_eq]; omega), fun l nl => ?_⟩
      have gl : Gr H (upd H l (.lst (nineL.map V.str))) := Gr.new nl
      obtain ⟨v, hv, mv⟩ := atI_mod (xs := nineL.map V.str) (c := c / 5) (n := 9) rfl (by omega)
      obtain ⟨li, ml, rfl⟩ := List.mem_map.mp mv
      have l9 : li.length ≤ 9 := by
        have h9 : ∀ z ∈ nineL, z.length ≤ 9 := by decide +kernel
        exact h9 li ml
      refine ⟨_, rfl, _, _, rfl, rfl, ⟨by decide, by decide⟩, _, _, rfl, rfl, (by show (0 : Int) < 9; decide), l, _, _, V.str li, rfl, rfl, .inl (.inl upd_same), hv, ?_⟩
      refine ⟨_, rfl, _, _, rfl, rfl, ⟨by decide, by decide⟩, _, _, rfl, rfl, (by show (0 : Int) < 2; decide), rfl, _, rfl, ite2 (fun _ => ?_) fun _ => ?_⟩
      · refine ⟨_, rfl, _, _, rfl, rfl, big _ (by omega), _, rfl, _, _, rfl, rfl, big _ (by rw [Str.length_append]; omega), q _ _ (.inl ⟨li, ml, .inl rfl⟩) gl⟩
      · refine ⟨_, rfl, _, _, rfl, rfl, big _ (by omega), _, rfl, _, _, rfl, rfl, big _ (by rw [Str.length_append]; omega), q _ _ (.inl ⟨li, ml, .inr rfl⟩) gl⟩
    · have px : x.length ≤ sizeLine := big _ (by omega)
      refine ⟨_, rfl, _, _, rfl, rfl, ⟨by decide, by decide⟩, _, rfl, x, rfl, px, _, _, rfl, rfl, _, _, rfl, rfl, (by show (0 : Int) < _; omega), ?_⟩
      refine ⟨_, rfl, _, _, rfl, rfl, ⟨by decide, by decide⟩, _, rfl, x, rfl, px, _, _, rfl, rfl, _, _, rfl, rfl, ⟨by show (0 : Int) < _; omega, by show ((x.length : Nat) : Int) + 1 < 1073741824; omega⟩, ?_⟩
      have a1 : 0 ≤ c / 5 % (((x.length : Nat) : Int) + 1) := Int.emod_nonneg _ (by omega)
      have a2 : c / 5 % (((x.length : Nat) : Int) + 1) < ((x.length : Nat) : Int) + 1 := Int.emod_lt_of_pos _ (by omega)
      obtain ⟨i, hA⟩ := Int.eq_ofNat_of_zero_le a1
      obtain ⟨cc, hcc, mcc⟩ := atI_mod (xs := so.cps.toList) (c := c / 5 / (((x.length : Nat) : Int) + 1) / 2) (n := so.length) Array.length_toList (by omega)
      refine ⟨_, rfl, _, rfl, _, _, rfl, rfl, ⟨by decide, by decide⟩, _, rfl, so, rfl, big _ (by omega), _, _, rfl, rfl, (by show (0 : Int) < _; omega), so, _, cc, rfl, rfl, big _ (by omega), hcc, ?_⟩
      have m1 : 0 ≤ c / 5 / (((x.length : Nat) : Int) + 1) % 2 := Int.emod_nonneg _ (by omega)
      have m2 : c / 5 / (((x.length : Nat) : Int) + 1) % 2 < 2 := Int.emod_lt_of_pos _ (by omega)
      obtain ⟨m, hm⟩ := Int.eq_ofNat_of_zero_le m1
      have hi : i ≤ x.length := by omega
      have e1 : tl (Txt.slice x none (some (c / 5 % (((x.length : Nat) : Int) + 1)))) = (tl x).take i := by
        rw [hA, ← C8.cutS_slice]
        show ((tl x).drop _).take _ = _
        rw [HT.sIx_none, HT.sIx_nat, List.drop_zero, Nat.sub_zero, Nat.min_eq_left hi]
      have e2 : tl (Txt.slice x (some (c / 5 % (((x.length : Nat) : Int) + 1) + c / 5 / (((x.length : Nat) : Int) + 1) % 2)) none) = (tl x).drop (i + m) := by
        rw [hA, hm, ← C8.cutS_slice, show (i : Int) + (m : Nat) = ((i + m : Nat) : Int) from rfl]
        show ((tl x).drop _).take _ = _
        rw [HT.sIx_none, HT.sIx_nat, TL.len_tl]
        by_cases h : i + m ≤ (tl x).length
        · rw [Nat.min_eq_left h, List.take_of_length_le (by rw [List.length_drop]; omega)]
        · rw [Nat.min_eq_right (by omega), List.drop_length, List.drop_eq_nil_of_le (by omega), List.take_nil]
      have l1 : (Txt.slice x none (some (c / 5 % (((x.length : Nat) : Int) + 1)))).length ≤ x.length := by
        rw [TL.len_tl, e1, List.length_take, TL.len_tl]
        omega
      have l2 : (Txt.slice x (some (c / 5 % (((x.length : Nat) : Int) + 1) + c / 5 / (((x.length : Nat) : Int) + 1) % 2)) none).length ≤ x.length := by
        rw [TL.len_tl, e2, List.length_drop, TL.len_tl]
        omega
      have l3 : (⟨#[cc]⟩ : Str).length = 1 := rfl
      refine ⟨_, rfl, _, rfl, _, rfl, x, rfl, px, _, rfl, _, _, rfl, rfl, big _ (by rw [l3]; omega), ?_⟩
      refine ⟨_, rfl, _, rfl, _, rfl, _, _, rfl, rfl, (by show (0 : Int) < 2; decide), _, _, rfl, rfl, _, rfl, x, rfl, px, _, _, rfl, rfl, big _ ?_, q _ H (.inr ⟨i, m, cc, hi, by omega, sc cc mcc, ?_⟩) (Gr.refl H)⟩
      · rw [Str.length_append, l3]
        exact Nat.le_trans (Nat.add_le_add (Nat.add_le_add l1 (Nat.le_refl 1)) l2) (by omega)
      · rw [TL.tl_append, TL.tl_append]
        refine (congrArg (fun u => (u ++ [cc]) ++ _) e1).trans ((congrArg (fun v => ((tl x).take i ++ [cc]) ++ v) e2).trans ?_)
        rw [List.append_assoc]
        rfl
end
end K1
end
section
set_option maxHeartbeats 8000000
namespace K1
open PySem PySem.Spec PyProof.Rows L2 Gr GxR Srx Skx Dcx
open TL (tl)
/-! ### spoilt texts -/
theorem spoilt_pieces {x y : Str} (p : Nat → Bool) (p10 : p 10 = true) (h : Spoilt x y) : ∃ ex : List (List Nat), (∀ q ∈ cut p (tl y), q ∈ cut p (tl x) ∨ q ∈ ex) ∧ (ex.length ≤ 2 ∨ ∃ l ∈ nineL, ex = cut p (tl l)) ∧ (cut p (tl y)).length ≤ (cut p (tl x)).length + max 1 ex.length := by
  rcases h with ⟨l, hl, rfl | rfl⟩ | ⟨i, m, c, hi, hm, _, e⟩
  · refine ⟨cut p (tl l), fun q hq => ?_, .inr ⟨l, hl, rfl⟩, ?_⟩
    · rw [TL.tl_append, TL.tl_append, tlN, List.append_assoc, List.singleton_append, cut_cat p10] at hq
      exact (List.mem_append.mp hq).symm
    · rw [TL.tl_append, TL.tl_append, tlN, List.append_assoc, List.singleton_append, cut_cat p10, List.length_append]
      omega
  · refine ⟨cut p (tl l), fun q hq => ?_, .inr ⟨l, hl, rfl⟩, ?_⟩
    · rw [TL.tl_append, TL.tl_append, tlN, List.append_assoc, List.singleton_append, cut_cat p10] at hq
      exact List.mem_append.mp hq
    · rw [TL.tl_append, TL.tl_append, tlN, List.append_assoc, List.singleton_append, cut_cat p10, List.length_append]
      omega
  · have hw : (tl x).drop i = (tl x).drop (i + m) ∨ (∃ d, (tl x).drop i = d :: (tl x).drop (i + m)) ∨ ((tl x).drop i = [] ∧ (tl x).drop (i + m) = []) := by
      by_cases m0 : m = 0
      · left
        rw [m0, Nat.add_zero]
      · have m1 : m = 1 := by omega
        subst m1
        right
        cases hd : (tl x).drop i with
        | nil =>
          right
          refine ⟨rfl, ?_⟩
          rw [← List.drop_drop, hd]
          rfl
        | cons d r =>
          left
          refine ⟨d, ?_⟩
          rw [← List.drop_drop, hd]
          rfl
    obtain ⟨e1, e2, h1, h2⟩ := graft (p := p) (u := (tl x).take i) c hw
    rw [List.take_append_drop] at h1 h2
    rw [e]
    refine ⟨[e1, e2], fun q hq => ?_, .inl (Nat.le_refl _), ?_⟩
    · rcases h1 q hq with h | h | h
      · exact .inl h
      · exact .inr (by rw [h]; exact List.mem_cons_self)
      · exact .inr (by rw [h]; exact List.mem_cons_of_mem _ List.mem_cons_self)
    · simp only [List.length_cons, List.length_nil]
      omega
theorem spoilt_fits {nm : List Str} {rows : List (List Str)} {y : Str} (hn : ∀ r ∈ rows, Nms r ∧ ∀ z ∈ r, z ∈ nm) (few : nm.length ≤ 7) (rl : rows.length ≤ 8) (hy : Spoilt (textS rows) y) (hg : GoodL (rowsIn y)) : GoodB (rowsIn y) := by
  have nine2 : ∀ l ∈ nineL, (cut p2 (tl l)).length ≤ 3 := by decide +kernel
  have nine10 : ∀ l ∈ nineL, (cut (sg 10) (tl l)).length ≤ 3 := by decide +kernel
  refine ⟨hg, ?_, ?_⟩
  · obtain ⟨ex, _, h2, h3⟩ := spoilt_pieces (sg 10) rfl hy
    have h4 := textS_lines fun r hr => (hn r hr).1
    have h5 := rowsIn_len y
    have h6 : ex.length ≤ 3 := by
      rcases h2 with h2 | ⟨l, hl, rfl⟩
      · omega
      · exact nine10 l hl
    omega
  · obtain ⟨ex, h1, h2, _⟩ := spoilt_pieces p2 rfl hy
    have h4 := names_few rfl hn (fun r hr => (hg r hr).2) h1
    have h6 : ex.length ≤ 3 := by
      rcases h2 with h2 | ⟨l, hl, rfl⟩
      · omega
      · exact nine2 l hl
    omega
theorem spoilt_size {x y : Str} (hx : x.length ≤ 860) (ok : Okt x) (h : Spoilt x y) : y.length ≤ 880 ∧ Okt y := by
  have nl : ∀ l ∈ nineL, l.length ≤ 9 ∧ ∀ c ∈ tl l, c < 128 := by decide +kernel
  have lN : ("\n" : Str).length = 1 := by decide +kernel
  rcases h with ⟨l, hl, rfl | rfl⟩ | ⟨i, m, c, hi, hm, hc, e⟩
  · obtain ⟨h1, h2⟩ := nl l hl
    refine ⟨by rw [Str.length_append, Str.length_append, lN]; omega, fun d hd => ?_⟩
    rw [TL.tl_append, TL.tl_append, tlN] at hd
    rcases List.mem_append.mp hd with hd | hd
    · rcases List.mem_append.mp hd with hd | hd
      · have := h2 d hd
        omega
      · rw [List.mem_singleton.mp hd]
        decide
    · exact ok d hd
  · obtain ⟨h1, h2⟩ := nl l hl
    refine ⟨by rw [Str.length_append, Str.length_append, lN]; omega, fun d hd => ?_⟩
    rw [TL.tl_append, TL.tl_append, tlN] at hd
    rcases List.mem_append.mp hd with hd | hd
    · rcases List.mem_append.mp hd with hd | hd
      · exact ok d hd
      · rw [List.mem_singleton.mp hd]
        decide
    · have := h2 d hd
      omega
  · refine ⟨?_, fun d hd => ?_⟩
    · have := TL.len_tl y
      have h2 := TL.len_tl x
      rw [this, e, List.length_append, List.length_cons, List.length_take, List.length_drop]
      omega
    · rw [e] at hd
      rcases List.mem_append.mp hd with hd | hd
      · exact ok d (List.mem_of_mem_take hd)
      · rcases List.mem_cons.mp hd with rfl | hd
        · omega
        · exact ok d (List.mem_of_mem_drop hd)
section
variable {P : Program} {w : World} {K : PySem.W.Frag} {mg : Str → Option Value} {base : Heap} {f C : Addr} {fd : FuncData} {p : He.Defn} {N : TabN} {R : ErN}
/-- what the law's look at a refusal takes of the classes -/
structure RefU (K : PySem.W.Frag) (mg : Str → Option Value) (R : ErN) (M : Addr) : Prop where
  gM : mg "MeetError" = some (.ref M)
  gU : mg "Unread" = some (.ref R.un)
  g1 : mg "BadName" = some (.ref R.name)
  g2 : mg "BadRow" = some (.ref R.row)
  g3 : mg "NoMeet" = some (.ref R.meet)
  g4 : mg "NoRow" = some (.ref R.no)
  g5 : mg "TooMany" = some (.ref R.many)
  ex : ExcC K R.un
  e : PySem.W.exmOne K (.ref R.un) (.ref M) = some true
  k5 : PySem.W.kitAny K (.ref R.un) [.ref R.name, .ref R.row, .ref R.meet, .ref R.no, .ref R.many] = some false
  kC : PySem.W.kitOne K (.ref R.un) (.ref R.un) = some true
  kV : PySem.W.kitOne K (.ref R.un) (.type "ValueError") = some true
theorem scRefU : FnScope ["_law_thing", "e"] ["_law_thing"] (defScope s_law_refused_x) := ⟨rfl, rfl, rfl, by decide +kernel, rfl, by decide +kernel, by decide +kernel⟩
def spRefU (K : PySem.W.Frag) (N : TabN) : Sp := fun vs H Q _ => ∃ v, vs = [v] ∧ N.G H ∧ ((∃ x, v = .str x ∧ x.length ≤ 880 ∧ Okt x ∧ ¬ GoodB (rowsIn x)) ∨ ∃ t : String, TyX K H v (.type t) ∧ kitB t "str" = some false) ∧ ∀ H', Gr H H' → Q (.bl true) H'
theorem ok_refU {M : Addr} (F : FnP K "_law_refused" s_law_refused_x f fd) (cRead : Calls P w K mg base (L2.CX P w) 6 "read" (spRead K C N R)) (G : RefU K mg R M) (gI : mg "isinstance" = none) (gV : mg "ValueError" = none) : FnOk P w K mg base CX0 7 f fd ["_law_thing"] (spRefU K N) := by
  refine F.ok scRefU (fun vs H Q E h => ?_) (fun cdv A outer s H vs Q E hr h => ?_)
  · obtain ⟨v, rfl, _⟩ := h
    rfl
  · obtain ⟨v, rfl, hN, h, q⟩ := h
    refine ⟨_, PSs.nox (pss_cons (ps_try_as (i := 1) rfl rfl scRefU.nd rfl rfl ⟨rfl, by decide, .inl G.gM⟩ takes0
        (fun W pn xe tk _ => pss_one (ps_expr (pe_f cRead hr (by decide) (paT tk) (by rfl) (pa_cons (pv 0) pa_nil))))
        (fun a oe cls d pn hz hf => pss_cons (ps_if (pt_val (pe_callB (r := rIsCT K cls d R.un a) (call_isCT G.ex hz hf) (by rfl) gI (by decide +kernel) (pa_cons (pv 1) (pa_cons (pe_tup (pa_cons (pe_glob (v := .ref R.name) (by rfl) G.g1 rfl) (pa_cons (pe_glob (v := .ref R.row) (by rfl) G.g2 rfl) (pa_cons (pe_glob (v := .ref R.meet) (by rfl) G.g3 rfl) (pa_cons (pe_glob (v := .ref R.no) (by rfl) G.g4 rfl) (pa_cons (pe_glob (v := .ref R.many) (by rfl) G.g5 rfl) pa_nil)))))) pa_nil))))
            (pss_one (ps_ret pe_bl)) pss_nil)
          (pss_one (ps_ret (pe_and (pe_callB (r := rIsC K cls d R.un a) (call_isC G.ex hz hf) (by rfl) gI (by decide +kernel) (pa_cons (pv 1) (pa_cons (pe_glob (v := .ref R.un) (by rfl) G.gU rfl) pa_nil)))
            (pe_one (pe_callB (r := rIsC K cls d R.un a) (call_isC G.ex hz hf) (by rfl) gI (by decide +kernel) (pa_cons (pv 1) (pa_cons (pe_bltn (v := .ty "ValueError") (by rfl) gV (by decide +kernel) rfl) pa_nil)))))))))
      (pss_one (ps_ret pe_bl))), ?_⟩
    refine ⟨_, rfl, v, rfl, hN, ?_⟩
    generalize hE : WE _ _ = E'
    have bad : ∀ H2, Gr H H2 → E' (.ref R.un) none H2 := by
      intro H2 g2
      rw [← hE]
      refine ⟨true, G.e, fun _ b nb => ?_, fun z => nomatch z⟩
      refine ⟨_, rfl, (by show 5 ≤ sizeLine; decide), fun t nt => ⟨rfl, rfl, t, _, _, false, rfl, upd_same, .cons (.own _) (.cons (.own _) (.cons (.own _) (.cons (.own _) (.cons (.own _) .nil)))), G.k5, ?_⟩⟩
      refine ⟨_, rfl, ?_⟩
      refine ⟨_, rfl, rfl, rfl, _, _, true, rfl, .own _, G.kC, _, rfl, ?_⟩
      refine iteT ⟨_, rfl, rfl, rfl, _, _, true, rfl, .ty _, G.kV, ?_⟩
      exact q _ (g2.trans (Gr.new nt))
    rcases h with ⟨x, e, few, ok, ng⟩ | ⟨t, ty, kt⟩
    · exact .inr (.inl ⟨x, e, few, ok, ng, bad⟩)
    · exact .inr (.inr ⟨t, ty, kt, bad⟩)
structure IsB (K : PySem.W.Frag) (C : Addr) : Prop where
  ha : PySem.W.findIn K (.ref C) "__class__" = some (some (.builtin "object.__class__"))
  hn : PySem.W.specialIn K (.builtin "object.__class__") "__get__" = some (some (.builtin "getset_descriptor.__get__"))
  htk : PySem.W.takesIn K (.builtin "object.__class__") = some true
  hm : PySem.W.mroIn K C (.type "object") = some true
  kt : PySem.W.kitOne K (.ref C) (.ref C) = some true
abbrev nRight11 : List Str := ["_law_text_here","_law_rows_here","_law_book_here","_law_due","_law_number"]
theorem scRight11 : FnScope nRight11 ["_law_text_here","_law_rows_here"] (defScope s_law_right_x) := ⟨rfl, rfl, rfl, by decide +kernel, rfl, by decide +kernel, by decide +kernel⟩
def spRight11 (K : PySem.W.Frag) (N : TabN) : Sp := fun vs H Q _ => ∃ (x : Str) (a : Addr) (ps : List (Addr × List Str)), vs = [.str x, .ref a] ∧ N.G H ∧ x.length ≤ 880 ∧ Okt x ∧ GoodB (rowsIn x) ∧ LQ K H a ps ∧ (ps.map (·.2)).map srt = rowsIn x ∧ ∀ H', Gr H H' → Q (.bl true) H'
theorem ok_right11 (F : FnP K "_law_right" s_law_right_x f fd) (BC : BkC K mg C) (IB : IsB K C) (cRead : Calls P w K mg base (L2.CX P w) 6 "read" (spRead K C N R)) (cTO : Calls P w K mg base CX0 2 "text_of" (spTextOf C)) (cRo : MCalls P w K mg base CX0 1 C "rows" (spBRows C))
    (g_range : mg "range" = none) (g_len : mg "len" = none) (g_sorted : mg "sorted" = none) (g_isinstance : mg "isinstance" = none) : FnOk P w K mg base CX0 7 f fd ["_law_text_here","_law_rows_here"] (spRight11 K N) := by
  refine F.ok scRight11 (fun vs H Q E h => ?_) (fun cdv A outer s H vs Q E hr h => ?_)
  · obtain ⟨x, a, ps, rfl, _⟩ := h
    rfl
  · obtain ⟨x, a, ps, rfl, hN, few, ok, gb, lA, er, q⟩ := h
    refine ⟨_, PSs.nox (pss_cons (ps_set (i := 2) scRight11.nd rfl (.inl rfl) (pe_f cRead hr (by decide) paL (by rfl) (pa_cons (pv 0) pa_nil))) (pss_cons (ps_setLc (i := 3) (own := [("_law_number", 4)]) (g := gName 4) (tt := tYes) rfl scRight11.nd rfl rfl (sw_true rfl rfl rfl (by decide +kernel)) (pi_range1 (by rfl) g_range (pa_cons (pe_callB call_len_seq (by rfl) g_len boot_len (pa_cons (pv 1) pa_nil)) pa_nil)) (blkOk_by (N := nRight11) (sc := defScope s_law_right_x) (by decide +kernel)) (fun _ _ _ _ _ => (pg_name (i := 4) scRight11.nd rfl (.inl rfl))) (fun _ _ _ _ _ => pts_nil) (fun _ _ _ _ _ => (pe_tup (pa_cons (pv 4) (pa_cons (pe_callB (r := rSortedD K fun x : Str => PyData.str x) (cr_sortedD Ord.strs (hu64 hr)) (by rfl) g_sorted boot_sorted (pa_cons (pe_ix (r := rIxL K) ix_list (pv 1) (pv 4) (fun _ _ => rfl)) pa_nil)) pa_nil))))) (pss_cons (ps_if (pt_not (pt_val (pe_callB call_isi (by rfl) g_isinstance (by decide +kernel) (pa_cons (pv 2) (pa_cons (pe_glob (v := .ref C) (by rfl) BC.mgC rfl) pa_nil))))) (pss_one (ps_ret pe_bl)) (pss_nil)) (pss_one (ps_ret (pe_and (pe_cmpR (op_eqD (hu64 hr)) (pe_m0 cRo BC.cl hr (by decide) pa0 (pv 2)) (pv 3) (nomark _)) (pe_one (pe_cmpR op_eq (pe_k cTO hr (by decide) (by rfl) (pa_cons (pv 2) pa_nil)) (pv 0) (nomark _))))))))), ?_⟩
    refine ⟨_, rfl, .str x, rfl, hN, .inl ⟨x, rfl, few, ok, gb, fun b d H1 tb g1 NB => ?_⟩⟩
    have pl : ps.length = (rowsIn x).length := by rw [← er, List.length_map, List.length_map]
    have plf := gb.few
    have lA1 := lA.gr g1
    refine ⟨_, rfl, a, _, rfl, .inl lA1.at_, _, rfl, ?_, ?_, fun D nD => lc_data (K := K) (n := (((ps.map fun q : Addr × List Str => V.ref q.1).length : Nat) : Int).toNat) (fun i : Nat => .tuple [.int i, dS (srt ((ps.map (·.2)).getD i []))]) (by rw [Int.toNat_natCast, List.length_map]; omega) (Gr.refl H1) nD (fun v => rfl) (fun k H4 Q' hk g4 hx hq => ?_) (fun H2 g2 dd => ?_)⟩
    · rw [List.length_map]
      omega
    · rw [List.length_map]
      omega
    · rw [Int.toNat_natCast, List.length_map] at hk
      have hk2 : ps[k]? = some ps[k] := List.getElem?_eq_getElem hk
      have h1 : (ps.map fun q => V.ref q.1)[k]? = some (.ref ps[k].1) := by rw [List.getElem?_map, hk2]; rfl
      have h2 : (ps.map (·.2)).getD k [] = ps[k].2 := by rw [List.getD_eq_getElem?_getD, List.getElem?_map, hk2]; rfl
      have hi := g4.seq (lA1.own ps[k] (List.getElem_mem hk))
      have e0 : ((0 : Int) + (k : Nat)) = ((k : Nat) : Int) := Int.zero_add _
      rw [e0]
      obtain ⟨xs, ex⟩ := hx
      refine ⟨_, rfl, _, rfl, _, rfl, a, _, _, _, rfl, rfl, g4.seq lA1.at_, atI_nat h1, ?_⟩
      refine sortedT (K := K) (xs := ps[k].2) hi fun so nso => ⟨(by show 2 ≤ sizeLine; rw [sizeLine_eq]; omega), fun t nt => hq _ _ ((Gr.new nso).trans (Gr.new nt)) ?_⟩
      have eso : (upd H4 so (.lst ((srt ps[k].2).map V.str))) so = some (.lst ((srt ps[k].2).map V.str)) := upd_same
      have nDs : D ≠ so := ne_of_none ex nso
      have nDt : D ≠ t := ne_of_none ((Gr.new nso).lst ex) nt
      have nst : so ≠ t := ne_of_none eso nt
      rw [h2]
      refine .tup (xs := [.int (k : Nat), .ref so]) (.inl (.inl ?_)) (.cons (.int _) (.cons (dp_dS (.inl (.inl ?_))) .nil))
      · rw [mask_at nDt.symm, upd_same]
      · rw [mask_at nDs.symm, upd_ne nst]
        exact eso
    · rw [Int.toNat_natCast, List.length_map] at dd
      have dd2 : Dp K H2 (.ref D) (pairsD (numd (rowsIn x))) := by
        rw [← er, ← numD_eq]
        unfold numD
        rw [List.length_map]
        exact dd
      have ris : (rowsIn x).map once = rowsIn x := by
        conv => rhs; rw [← List.map_id (rowsIn x)]
        exact List.map_congr_left fun r hr => once_ris (gb.each r hr).1
      have nms : ∀ r ∈ rowsIn x, Nms r := fun r hr => (gb.each r hr).2
      have B2 := NB.bk.gr g2
      obtain ⟨dx, eb⟩ := B2.ob
      refine ⟨_, rfl, _, _, _, _, true, rfl, .own _, .base (.ins eb BC.cl IB.ha IB.hn IB.htk IB.hm), IB.kt, _, rfl, iteF ?_⟩
      refine ⟨_, rfl, b, d, tb, _, rfl, B2, b, d, tb, _, rfl, B2, NB.ok, fun P1 H3 rs g3 TP e3 => ?_⟩
      have dp3 : Dp K H3 (.ref P1) (pairsD (numd (rowsIn x))) := by
        have h := TP.dp (K := K)
        rw [e3, NB.rows, ris] at h
        exact h
      have sh := shaped_pairs (nms_numd nms)
      refine ⟨_, rfl, _, _, dp3, g3.dp dd2, sh, sh, _, rfl, ?_⟩
      rw [eqv_pairs, decide_eq_true rfl]
      refine iteT ⟨_, rfl, b, d, tb, _, rfl, B2.gr g3, NB.ok, fun H4 g4 => ⟨_, rfl, rfl, ?_⟩⟩
      have et : textS (rws tb) = x := by rw [NB.rws, ris, textS_rowsIn]
      rw [et, decide_eq_true rfl]
      exact q _ (((g1.trans g2).trans g3).trans g4)
end
end K1
end
section
set_option maxHeartbeats 8000000
namespace K1
open PySem PySem.Spec PyProof.Rows L2 Gr GxR Srx Skx Dcx
open TL (tl)
/-! ### great texts -/
theorem join_a (n : Nat) : Txt.join "\n" (List.replicate n ("a" : Str)) = textS (List.replicate n [("a" : Str)]) := by
  unfold textS
  rw [List.map_replicate]
  rfl
theorem nms_a : Nms [("a" : Str)] := fun x hx => by
  rw [List.mem_singleton.mp hx]
  decide +kernel
theorem rows_a (n : Nat) : rowsIn (Txt.join "\n" (List.replicate n ("a" : Str))) = List.replicate n [("a" : Str)] := by
  rw [join_a]
  exact rowsIn_textS fun r hr => by rw [List.eq_of_mem_replicate hr]; exact nms_a
theorem good_a {n : Nat} (h : n ≤ 30) : GoodB (List.replicate n [("a" : Str)]) := by
  refine ⟨fun r hr => ?_, by rw [List.length_replicate]; exact h, ?_⟩
  · rw [List.eq_of_mem_replicate hr]
    exact ⟨List.pairwise_singleton _ _, nms_a⟩
  · have h1 := (sublist_of (ris_once [("a" : Str)]) (ris_allN (List.replicate n [("a" : Str)])) fun z hz => by
      obtain ⟨r, hr, hz⟩ := allN_iff.mp hz
      rw [List.eq_of_mem_replicate hr] at hz
      exact once_mem.mpr hz).length_le
    have h2 := once_len (xs := [("a" : Str)])
    have h3 : [("a" : Str)].length = 1 := rfl
    omega
theorem bad_a {n : Nat} (h : 30 < n) : ¬ GoodB (List.replicate n [("a" : Str)]) := fun g => by
  have := g.few
  rw [List.length_replicate] at this
  omega
theorem size_a {n : Nat} (h : n ≤ 32) : (Txt.join "\n" (List.replicate n ("a" : Str))).length ≤ 880 := by
  have l2 : ("\n" : Str).length = 1 := by decide +kernel
  have h1 := sum_le 1 (List.replicate n ("a" : Str)) fun x hx => by rw [List.eq_of_mem_replicate hx]; decide +kernel
  rw [List.length_replicate] at h1
  rw [join_len, l2, List.length_replicate]
  omega
theorem okt_join {y : Str} {xs : List Str} (hy : Okt y) (h : ∀ x ∈ xs, Okt x) : Okt (Txt.join y xs) := by
  unfold Okt
  rw [TL.join_eq, TL.tl_join]
  induction xs with
  | nil => exact fun c hc => absurd hc List.not_mem_nil
  | cons x r ih =>
    have hx := h x List.mem_cons_self
    have ih := ih fun z hz => h z (List.mem_cons_of_mem _ hz)
    cases r with
    | nil => exact hx
    | cons z r =>
      intro c hc
      rcases List.mem_append.mp (show c ∈ tl x ++ (tl y ++ TL.joinL (tl y) ((z :: r).map tl)) from hc) with hc | hc
      · exact hx c hc
      · rcases List.mem_append.mp hc with hc | hc
        · exact hy c hc
        · exact ih c hc
theorem okt_nm {x : Str} (h : isNm x = true) : Okt x := fun c hc => by have := nm_small h c hc; omega
theorem okt_N : Okt ("\n" : Str) := by unfold Okt; decide +kernel
theorem okt_B : Okt (" " : Str) := by unfold Okt; decide +kernel
/-- the first n small letters -/
def abc (n : Nat) : List Str := (List.range n).map fun i => (⟨#[97 + i]⟩ : Str)
theorem nms_abc {n : Nat} (h : n ≤ 26) : Nms (abc n) := by
  intro x hx
  obtain ⟨i, hi, rfl⟩ := List.mem_map.mp hx
  rw [List.mem_range] at hi
  unfold isNm
  rw [Bool.and_eq_true, Bool.and_eq_true]
  refine ⟨rfl, rfl, ?_⟩
  show (List.all [97 + i] small) = true
  unfold small
  simp
  omega
theorem ris_abc (n : Nat) : Ris (abc n) := by
  unfold abc Ris
  rw [List.pairwise_map]
  refine List.Pairwise.imp (fun {a b} h => ?_) List.pairwise_lt_range
  refine ltS_iff.mpr ?_
  cases e : leS ⟨#[97 + b]⟩ ⟨#[97 + a]⟩ with
  | false => rfl
  | true =>
    have z := leS_iff.mp e
    have z : [97 + b] ≤ [97 + a] := z
    exact absurd (show [97 + a] < [97 + b] from List.Lex.rel (by omega)) z
theorem text_abc {n : Nat} (h : 1 ≤ n) : Txt.join " " (abc n) = textS [abc n] := by
  have e : abc n ≠ [] := fun z => by
    have := congrArg List.length z
    unfold abc at this
    rw [List.length_map, List.length_range] at this
    simp at this
    omega
  show _ = Txt.join "\n" [lineS (abc n)]
  unfold lineS
  rw [if_neg e]
  rfl
theorem rows_abc {n : Nat} (h : 1 ≤ n) (h2 : n ≤ 26) : rowsIn (Txt.join " " (abc n)) = [abc n] := by
  rw [text_abc h]
  exact rowsIn_textS fun r hr => by rw [List.mem_singleton.mp hr]; exact nms_abc h2
theorem allN_one {r : List Str} (h : Ris r) : (allN [r]).length = r.length := by
  show (once [r].flatten).length = _
  rw [show [r].flatten = r by simp, once_full h.nodup]
theorem len_abc (n : Nat) : (abc n).length = n := by
  unfold abc
  rw [List.length_map, List.length_range]
theorem good_abc {n : Nat} (h : n ≤ 12) : GoodB [abc n] := by
  refine ⟨fun r hr => ?_, (by show 1 ≤ 30; decide), ?_⟩
  · rw [List.mem_singleton.mp hr]
    exact ⟨ris_abc n, nms_abc (by omega)⟩
  · rw [allN_one (ris_abc n), len_abc]
    exact h
theorem bad_abc {n : Nat} (h : 12 < n) : ¬ GoodB [abc n] := fun g => by
  have := g.nms
  rw [allN_one (ris_abc n), len_abc] at this
  omega
section
variable {P : Program} {w : World} {K : PySem.W.Frag} {mg : Str → Option Value} {base : Heap} {f C : Addr} {fd : FuncData} {p : He.Defn} {N : TabN} {R : ErN}
abbrev nGreat : List Str := ["_law_cell","_law_count","_law_text_here","_law_names_here"]
theorem scGreat : FnScope nGreat ["_law_cell"] (defScope s_law_great_x) := ⟨rfl, rfl, rfl, by decide +kernel, rfl, by decide +kernel, by decide +kernel⟩
def spGreat (N : TabN) : Sp := fun vs H Q _ => ∃ c : Int, vs = [.int c] ∧ N.G H ∧ ∀ H', Gr H H' → Q (.bl true) H'
theorem ok_great (F : FnP K "_law_great" s_law_great_x f fd) (cRef : Calls P w K mg base CX0 7 "_law_refused" (spRefU K N)) (cRig : Calls P w K mg base CX0 7 "_law_right" (spRight11 K N)) (g_list : mg "list" = none) : FnOk P w K mg base CX0 8 f fd ["_law_cell"] (spGreat N) := by
  refine F.ok scGreat (fun vs H Q E h => ?_) (fun cdv A outer s H vs Q E hr h => ?_)
  · obtain ⟨c, rfl, _⟩ := h
    rfl
  · obtain ⟨c, rfl, hN, q⟩ := h
    refine ⟨_, PSs.nox (pss_cons (ps_set (i := 1) scGreat.nd rfl (.inl rfl) (pe_op op_mod (pe_op op_fdiv (pv 0) pe_int) pe_int)) (pss_cons (ps_if (pt_cmpR op_eq (pe_op op_mod (pv 0) pe_int) pe_int (nomark _)) (pss_cons (ps_set (i := 2) scGreat.nd rfl (.inl rfl) (pe_joinK (K := K) rfl pe_str (pe_op op_rep (pe_lst (pa_cons pe_str pa_nil)) (pe_op op_add pe_int (pv 1))))) (pss_one (ps_ret (pe_ifExp (pt_cmpR op_gt (pv 1) pe_int (nomark _)) (pe_k cRef hr (by decide) (by rfl) (pa_cons (pv 2) pa_nil)) (pe_k cRig hr (by decide) (by rfl) (pa_cons (pv 2) (pa_cons (pe_op op_rep (pe_lst (pa_cons (pe_lst (pa_cons pe_str pa_nil)) pa_nil)) (pe_op op_add pe_int (pv 1))) pa_nil))))))) (pss_nil)) (pss_cons (ps_set (i := 3) scGreat.nd rfl (.inl rfl) (pe_callTy (call_listTx rfl) (by rfl) g_list boot_list (pa_cons (pe_slice C8.sl_txt pe_str po_none (po_some (pe_op op_add pe_int (pv 1)))) pa_nil))) (pss_cons (ps_set (i := 2) scGreat.nd rfl (.inl rfl) (pe_joinK (K := K) rfl pe_str (pv 3))) (pss_one (ps_ret (pe_ifExp (pt_cmpR op_gt (pv 1) pe_int (nomark _)) (pe_k cRef hr (by decide) (by rfl) (pa_cons (pv 2) pa_nil)) (pe_k cRig hr (by decide) (by rfl) (pa_cons (pv 2) (pa_cons (pe_lst (pa_cons (pv 3) pa_nil)) pa_nil)))))))))), ?_⟩
    have k0 : 0 ≤ c / 2 % 4 := Int.emod_nonneg _ (by decide)
    have k4 : c / 2 % 4 < 4 := Int.emod_lt_of_pos _ (by decide)
    obtain ⟨k, hk⟩ := Int.eq_ofNat_of_zero_le k0
    have big : ∀ n : Nat, n ≤ 2000 → n ≤ sizeLine := fun n hn => by rw [sizeLine_eq]; omega
    have lN : ("\n" : Str).length = 1 := by decide +kernel
    have lB : (" " : Str).length = 1 := by decide +kernel
    refine ⟨_, rfl, _, _, rfl, rfl, ⟨by decide, by decide⟩, _, _, rfl, rfl, (by show (0 : Int) < 4; decide), ?_⟩
    refine ⟨_, rfl, _, _, rfl, rfl, (by show (0 : Int) < 2; decide), rfl, _, rfl, ite2 (fun _ => ?_) fun _ => ?_⟩
    · refine ⟨⟨_, rfl⟩, big _ (by decide), fun l nl => ?_⟩
      have tn : (29 + c / 2 % 4).toNat = 29 + k := by omega
      refine ⟨_, rfl, _, _, rfl, rfl, l, _, _, rfl, rfl, upd_same, by omega, by omega, by rw [tn]; exact big _ (by simp; omega), fun L nL => ?_⟩
      have gL : Gr H (upd (upd H l (.lst [.str "a"])) L (.lst (List.replicate (29 + c / 2 % 4).toNat [V.str "a"]).flatten)) := (Gr.new nl).trans (Gr.new nL)
      have eL : (upd (upd H l (.lst [.str "a"])) L (.lst (List.replicate (29 + c / 2 % 4).toNat [V.str "a"]).flatten)) L = some (.lst ((List.replicate (29 + k) ("a" : Str)).map V.str)) := by
        rw [upd_same, tn, List.flatten_replicate_singleton, List.map_replicate]
      generalize upd (upd H l (.lst [.str "a"])) L (.lst (List.replicate (29 + c / 2 % 4).toNat [V.str "a"]).flatten) = H1 at gL eL
      have sz := size_a (n := 29 + k) (by omega)
      have ok : Okt (Txt.join "\n" (List.replicate (29 + k) ("a" : Str))) := okt_join okt_N fun x hx => by rw [List.eq_of_mem_replicate hx]; exact okt_nm (nms_a _ List.mem_cons_self)
      refine ⟨_, L, List.replicate (29 + k) ("a" : Str), rfl, rfl, .inl (.inl (.inl eL)), ?_, ?_⟩
      · have h1 := sum_le 1 (List.replicate (29 + k) ("a" : Str)) fun x hx => by rw [List.eq_of_mem_replicate hx]; decide +kernel
        rw [List.length_replicate] at h1
        rw [lN, List.length_replicate]
        omega
      refine ⟨_, rfl, _, _, rfl, rfl, _, rfl, ite2 (fun hc => ?_) fun hc => ?_⟩
      · have hc := of_decide_eq_true hc
        exact ⟨_, rfl, .str _, rfl, hN.gr gL, .inl ⟨_, rfl, sz, ok, by rw [rows_a]; exact bad_a (by omega)⟩, fun H2 g2 => q _ (gL.trans g2)⟩
      · have hc : ¬ (1 < c / 2 % 4) := fun z => hc (decide_eq_true z)
        refine ⟨_, rfl, big _ (by decide), fun l2 nl2 => ⟨big _ (by show 1 ≤ 2000; decide), fun l3 nl3 => ⟨_, rfl, _, _, rfl, rfl, l3, _, _, rfl, rfl, upd_same, by omega, by omega, by rw [tn]; exact big _ (by simp; omega), fun A nA => ?_⟩⟩⟩
        have g2 := (Gr.new (o := .lst [V.str "a"]) nl2).trans ((Gr.new (o := .lst [V.ref l2]) nl3).trans (Gr.new (o := .lst (List.replicate (29 + c / 2 % 4).toNat [V.ref l2]).flatten) nA))
        have e2 := ((Gr.new (o := .lst [V.ref l2]) nl3).trans (Gr.new (o := .lst (List.replicate (29 + c / 2 % 4).toNat [V.ref l2]).flatten) nA)).lst (show (upd H1 l2 (.lst [V.str "a"])) l2 = some (.lst ([("a" : Str)].map V.str)) from upd_same)
        refine ⟨_, A, List.replicate (29 + k) (l2, [("a" : Str)]), rfl, hN.gr (gL.trans g2), sz, ok, by rw [rows_a]; exact good_a (by omega), ⟨.inl (.inl ?_), fun z hz => ?_⟩, ?_, fun H2 g3 => q _ ((gL.trans g2).trans g3)⟩
        · rw [upd_same, tn, List.flatten_replicate_singleton, List.map_replicate]
        · rw [List.eq_of_mem_replicate hz]
          exact .inl (.inl e2)
        · rw [rows_a, List.map_replicate, List.map_replicate, srt_id (List.pairwise_singleton _ _)]
    · have sl : ∀ k : Nat, k < 4 → tl (Txt.slice ("abcdefghijklmn" : Str) none (some ((11 + k : Nat) : Int))) = (List.range (11 + k)).map (97 + ·) := by decide +kernel
      have ck : (11 : Int) + c / 2 % 4 = ((11 + k : Nat) : Int) := by omega
      have sk := sl k (by omega)
      have ab : (Txt.slice ("abcdefghijklmn" : Str) none (some (11 + c / 2 % 4))).cps.toList.map (fun c => V.str ⟨#[c]⟩) = (abc (11 + k)).map V.str := by
        rw [ck]
        show (tl (Txt.slice ("abcdefghijklmn" : Str) none (some ((11 + k : Nat) : Int)))).map _ = _
        rw [sk]
        unfold abc
        rw [List.map_map, List.map_map]
        rfl
      have sle : (Txt.slice ("abcdefghijklmn" : Str) none (some (11 + c / 2 % 4))).length ≤ 2000 := by
        rw [ck, TL.len_tl, sk, List.length_map, List.length_range]
        omega
      refine ⟨_, rfl, _, _, rfl, rfl, _, rfl, "abcdefghijklmn", rfl, big _ (by decide +kernel), _, rfl, big _ sle, fun A nA => ?_⟩
      have gA : Gr H (upd H A (.lst ((Txt.slice ("abcdefghijklmn" : Str) none (some (11 + c / 2 % 4))).cps.toList.map fun c => V.str ⟨#[c]⟩))) := Gr.new nA
      have eA : (upd H A (.lst ((Txt.slice ("abcdefghijklmn" : Str) none (some (11 + c / 2 % 4))).cps.toList.map fun c => V.str ⟨#[c]⟩))) A = some (.lst ((abc (11 + k)).map V.str)) := by
        rw [upd_same, ab]
      generalize upd H A (.lst ((Txt.slice ("abcdefghijklmn" : Str) none (some (11 + c / 2 % 4))).cps.toList.map fun c => V.str ⟨#[c]⟩)) = H1 at gA eA
      have la := len_abc (11 + k)
      have s8 := sum8 (nms_abc (n := 11 + k) (by omega))
      have sz : (Txt.join " " (abc (11 + k))).length ≤ 880 := by
        rw [join_len, lB]
        omega
      have ok : Okt (Txt.join " " (abc (11 + k))) := okt_join okt_B fun x hx => okt_nm (nms_abc (by omega) x hx)
      have rw1 := rows_abc (n := 11 + k) (by omega) (by omega)
      refine ⟨⟨_, rfl⟩, _, rfl, _, A, abc (11 + k), rfl, rfl, .inl (.inl (.inl eA)), by rw [lB]; omega, ?_⟩
      refine ⟨_, rfl, _, _, rfl, rfl, _, rfl, ite2 (fun hc => ?_) fun hc => ?_⟩
      · have hc := of_decide_eq_true hc
        exact ⟨_, rfl, .str _, rfl, hN.gr gA, .inl ⟨_, rfl, sz, ok, by rw [rw1]; exact bad_abc (by omega)⟩, fun H2 g2 => q _ (gA.trans g2)⟩
      · have hc : ¬ (1 < c / 2 % 4) := fun z => hc (decide_eq_true z)
        refine ⟨_, rfl, _, rfl, big _ (by show 1 ≤ 2000; decide), fun l2 nl2 => ?_⟩
        have g2 := Gr.new (o := .lst [V.ref A]) nl2
        refine ⟨_, l2, [(A, abc (11 + k))], rfl, hN.gr (gA.trans g2), sz, ok, by rw [rw1]; exact good_abc (by omega), ⟨.inl (.inl upd_same), fun z hz => ?_⟩, ?_, fun H2 g3 => q _ ((gA.trans g2).trans g3)⟩
        · rw [List.mem_singleton.mp hz]
          exact .inl (.inl (g2.lst eA))
        · rw [rw1]
          show [srt (abc (11 + k))] = _
          rw [srt_id (ris_abc _).sorted]
end
end K1
end
section
set_option maxHeartbeats 8000000
namespace K1
open PySem PySem.Spec PyProof.Rows L2 Gr GxR Srx Skx Dcx
open TL (tl)
theorem rws_take0 {tb : Tb1} {Z : List (List Str)} (e : nr tb = numd Z) : rws (tb.filter fun e => decide (e.1 ≠ 0)) = Z.tail := by
  have h1 : rws (tb.filter fun e => decide (e.1 ≠ 0)) = ((nr tb).filter fun z => decide (z.1 ≠ 0)).map (·.2) := by
    unfold rws nr
    rw [List.filter_map, List.map_map]
    rfl
  rw [h1, e]
  unfold numd
  cases Z with
  | nil => rfl
  | cons z zs =>
    rw [List.mapIdx_cons, List.filter_cons]
    simp only [Int.natCast_zero, ne_eq, not_true_eq_false, decide_false, Bool.false_eq_true, if_false, List.tail_cons]
    rw [List.filter_eq_self.mpr fun a ha => ?_]
    · refine List.ext_getElem? fun i => ?_
      rw [List.getElem?_map, List.getElem?_mapIdx]
      cases zs[i]? <;> rfl
    · obtain ⟨i, hi, rfl⟩ := List.mem_mapIdx.mp ha
      simp
      omega
theorem zero_in {tb : Tb1} {Z : List (List Str)} (e : nr tb = numd Z) (nz : Z ≠ []) : (0 : Int) ∈ nums tb := by
  cases Z with
  | nil => exact absurd rfl nz
  | cons x r =>
    have h1 : ((0 : Int), x) ∈ nr tb := by
      rw [e]
      unfold numd
      rw [List.mapIdx_cons]
      exact List.mem_cons_self
    obtain ⟨z, hz, e2⟩ := List.mem_map.mp h1
    exact List.mem_map.mpr ⟨z, hz, congrArg Prod.fst e2⟩
theorem cut_tail (x : V) (xs : List V) : cutV (x :: xs) (some 1) none = xs := by
  unfold cutV
  rw [HT.sIx_none, show (some (1 : Int)) = some ((1 : Nat) : Int) from rfl, HT.sIx_nat, List.length_cons, Nat.min_eq_left (by omega : 1 ≤ xs.length + 1)]
  show xs.take (xs.length + 1 - 1) = xs
  rw [Nat.add_sub_cancel, List.take_length]
theorem lineS_len7 {r : List Str} (h : Nms r) (l : r.length ≤ 7) : (lineS r).length ≤ 62 := by
  unfold lineS
  by_cases e : r = []
  · rw [if_pos e]
    decide +kernel
  · rw [if_neg e, join_len]
    have h1 := sum8 h
    have h2 : (" " : Str).length = 1 := by decide +kernel
    rw [h2]
    omega
theorem textS_len {rows : List (List Str)} (h : ∀ r ∈ rows, Nms r ∧ r.length ≤ 7) (l : rows.length ≤ 8) : (textS rows).length ≤ 860 := by
  have l2 : ("\n" : Str).length = 1 := by decide +kernel
  have h1 := sum_le 62 (rows.map lineS) fun x hx => by
    obtain ⟨r, hr, rfl⟩ := List.mem_map.mp hx
    exact lineS_len7 (h r hr).1 (h r hr).2
  rw [List.length_map] at h1
  unfold textS
  rw [join_len, l2, List.length_map]
  omega
theorem okt_textS {rows : List (List Str)} (h : ∀ r ∈ rows, Nms r) : Okt (textS rows) := by
  refine okt_join okt_N fun x hx => ?_
  obtain ⟨r, hr, rfl⟩ := List.mem_map.mp hx
  intro c hc
  have := tl_lineS (h r hr) c hc
  omega
/-- the rows of the law's start -/
structure Rows11 (nm : List Str) (rows : List (List Str)) : Prop where
  nms : Nms nm
  few : nm.length ≤ 7
  row : ∀ r ∈ rows, r.Nodup ∧ ∀ y ∈ r, y ∈ nm
  len : rows.length ≤ 8
section
variable {nm : List Str} {rows : List (List Str)}
theorem Rows11.nmr (S : Rows11 nm rows) : ∀ r ∈ rows, Nms r := fun r hr y hy => S.nms y ((S.row r hr).2 y hy)
theorem Rows11.r7 (S : Rows11 nm rows) : ∀ r ∈ rows, r.length ≤ 7 := fun r hr => by
  obtain ⟨h1, h2⟩ := S.row r hr
  have h3 := (sublist_of (ris_once nm) (ris_srt h1) fun y hy => once_mem.mpr (h2 y (srt_mem.mp hy))).length_le
  rw [srt_len] at h3
  have := once_len (xs := nm)
  have := S.few
  omega
theorem Rows11.srtN (S : Rows11 nm rows) : ∀ r ∈ rows.map srt, Nms r ∧ ∀ z ∈ r, z ∈ nm := fun r hr => by
  obtain ⟨r0, h0, rfl⟩ := List.mem_map.mp hr
  exact ⟨nms_srt (S.nmr r0 h0), fun z hz => (S.row r0 h0).2 z (srt_mem.mp hz)⟩
theorem Rows11.few12 (S : Rows11 nm rows) {more : List (List Str)} (h : ∀ r ∈ more, ∀ z ∈ r, z ∈ nm) : (allN more).length ≤ 12 := by
  have h3 := (sublist_of (ris_once nm) (ris_allN more) fun y hy => by
    obtain ⟨r, hr, hy⟩ := allN_iff.mp hy
    exact once_mem.mpr (h r hr y hy)).length_le
  have := once_len (xs := nm)
  have := S.few
  omega
theorem Rows11.good (S : Rows11 nm rows) : GoodB (rows.map srt) := by
  refine ⟨fun r hr => ?_, by rw [List.length_map]; have := S.len; omega, S.few12 fun r hr => (S.srtN r hr).2⟩
  obtain ⟨r0, h0, rfl⟩ := List.mem_map.mp hr
  exact ⟨ris_srt (S.row r0 h0).1, nms_srt (S.nmr r0 h0)⟩
theorem Rows11.ok (S : Rows11 nm rows) : Okt (textS (rows.map srt)) := okt_textS fun r hr => (S.srtN r hr).1
theorem Rows11.size (S : Rows11 nm rows) : (textS (rows.map srt)).length ≤ 860 := textS_len (fun r hr => by
  obtain ⟨r0, h0, rfl⟩ := List.mem_map.mp hr
  exact ⟨nms_srt (S.nmr r0 h0), by rw [srt_len]; exact S.r7 r0 h0⟩) (by rw [List.length_map]; exact S.len)
theorem Rows11.back (S : Rows11 nm rows) : rowsIn (textS (rows.map srt)) = rows.map srt := rowsIn_textS fun r hr => (S.srtN r hr).1
theorem Rows11.once1 (S : Rows11 nm rows) : rows.map once = rows.map srt := map_once_srt fun r hr => (S.row r hr).1
theorem Rows11.once2 (S : Rows11 nm rows) : (rows.map srt).map once = rows.map srt := by
  rw [List.map_map]
  refine List.map_congr_left fun r hr => ?_
  exact once_ris (ris_srt (S.row r hr).1)
end
section
variable {P : Program} {w : World} {K : PySem.W.Frag} {mg : Str → Option Value} {base : Heap} {f C : Addr} {fd : FuncData} {N : TabN} {R : ErN}
structure Env11 (P : Program) (w : World) (K : PySem.W.Frag) (mg : Str → Option Value) (base : Heap) (C : Addr) (N : TabN) (R : ErN) : Prop where
  draw : Calls P w K mg base CX0 1 "_law_draw" (spDraw K)
  names : Calls P w K mg base CX0 2 "_law_names" (spNames K)
  row : Calls P w K mg base CX0 1 "_law_row" (spRow K)
  book : Calls P w K mg base CX0 6 "_law_book" (spLBook K C N)
  textOf : Calls P w K mg base CX0 2 "text_of" (spTextOf C)
  ltext : Calls P w K mg base CX0 1 "_law_text" (spLText K)
  right : Calls P w K mg base CX0 7 "_law_right" (spRight11 K N)
  read : Calls P w K mg base (L2.CX P w) 6 "read" (spRead K C N R)
  put : MCalls P w K mg base (L2.CX P w) 5 C "put" (spPut K C N R)
  take : MCalls P w K mg base (L2.CX P w) 1 C "take" (spTake K C R)
  refused : Calls P w K mg base CX0 7 "_law_refused" (spRefU K N)
  great : Calls P w K mg base CX0 8 "_law_great" (spGreat N)
  spoilt : Calls P w K mg base CX0 1 "_law_spoilt" spSpoilt
  lrows : Calls P w K mg base CX0 2 "_law_rows" spLRowsT
  bc : BkC K mg C
  gR : mg "range" = none
  gI : mg "isinstance" = none
  gS : mg "str" = none
abbrev nLaw11 : List Str := ["_law_script","_law_names_here","_law_rows_here","_law_book_here","_law_text_here","_law_other","_law_more","_law_odd","_law_spoilt_here","_law_found","_law_k"]
theorem scLaw11 : FnScope nLaw11 ["_law_script"] (defScope s_law_x) := ⟨rfl, rfl, rfl, by decide +kernel, rfl, by decide +kernel, by decide +kernel⟩
theorem ok_law11 (F : FnP K "law" s_law_x f fd) (G : Env11 P w K mg base C N R) : FnOk P w K mg base CX0 9 f fd ["_law_script"] (spLawG K N) := by
  have g_range := G.gR
  have g_isinstance := G.gI
  have g_str := G.gS
  refine F.ok scLaw11 (fun vs H Q E h => ?_) (fun cdv A outer s H vs Q E hr h => ?_)
  · obtain ⟨a, ns, rfl, _⟩ := h
    rfl
  · obtain ⟨a, ns, rfl, hS, hN, q⟩ := h
    refine ⟨_, PSs.nox (pss_cons (ps_set (i := 1) scLaw11.nd rfl (.inr rfl) (pe_k G.names hr (by decide) (by rfl) (pa_cons (pv 0) pa_nil))) (pss_cons (ps_setLc (i := 2) (own := [("_law_k", 10)]) (g := gName 10) (tt := tYes) rfl scLaw11.nd rfl rfl (sw_true rfl rfl rfl (by decide +kernel)) (pi_range1 (by rfl) g_range (pa_cons (pe_op op_mod (pe_k G.draw hr (by decide) (by rfl) (pa_cons (pv 0) (pa_cons pe_int pa_nil))) pe_int) pa_nil)) (blkOk_by (N := nLaw11) (sc := defScope s_law_x) (by decide +kernel)) (fun _ _ _ _ _ => (pg_name (i := 10) scLaw11.nd rfl (.inl rfl))) (fun _ _ _ _ _ => pts_nil) (fun _ _ _ _ _ => (pe_k G.row hr (by decide) (by rfl) (pa_cons (pv 1) (pa_cons (pe_k G.draw hr (by decide) (by rfl) (pa_cons (pv 0) (pa_cons (pe_op op_add pe_int (pv 10)) pa_nil))) pa_nil))))) (pss_cons (ps_set (i := 3) scLaw11.nd rfl (.inl rfl) (pe_k G.book hr (by decide) (by rfl) (pa_cons (pv 2) pa_nil))) (pss_cons (ps_set (i := 4) scLaw11.nd rfl (.inl rfl) (pe_k G.textOf hr (by decide) (by rfl) (pa_cons (pv 3) pa_nil))) (pss_cons (ps_if (PW.pt (pw_or (pt_not (pt_val (pe_callB call_isi (by rfl) g_isinstance (by decide +kernel) (pa_cons (pv 4) (pa_cons (pe_bltn (v := .ty "str") (by rfl) g_str (by decide +kernel) rfl) pa_nil))))) (pw_or1 (pt_cmpR op_ne (pv 4) (pe_k G.ltext hr (by decide) (by rfl) (pa_cons (pv 2) pa_nil)) (nomark _))))) (pss_one (ps_ret pe_bl)) (pss_nil)) (pss_cons (ps_if (pt_not (pt_val (pe_k G.right hr (by decide) (by rfl) (pa_cons (pv 4) (pa_cons (pv 2) pa_nil))))) (pss_one (ps_ret pe_bl)) (pss_nil)) (pss_cons (ps_set (i := 5) scLaw11.nd rfl (.inl rfl) (pe_f G.read hr (by decide) paL (by rfl) (pa_cons (pv 4) pa_nil))) (pss_cons (ps_expr (pe_m G.put G.bc.cl hr (by decide) paL (pv 5) (pa_cons (pe_lst (pa_cons (pe_ix ix_list (pv 1) pe_int (fun _ _ => rfl)) pa_nil)) pa_nil))) (pss_cons (ps_set (i := 6) scLaw11.nd rfl (.inl rfl) (pe_op op_cat (pv 2) (pe_lst (pa_cons (pe_lst (pa_cons (pe_ix ix_list (pv 1) pe_int (fun _ _ => rfl)) pa_nil)) pa_nil)))) (pss_cons (ps_if (PW.pt (pw_or (pt_cmpR op_ne (pe_k G.textOf hr (by decide) (by rfl) (pa_cons (pv 5) pa_nil)) (pe_k G.ltext hr (by decide) (by rfl) (pa_cons (pv 6) pa_nil)) (nomark _)) (pw_or1 (pt_cmpR op_ne (pe_k G.textOf hr (by decide) (by rfl) (pa_cons (pv 3) pa_nil)) (pv 4) (nomark _))))) (pss_one (ps_ret pe_bl)) (pss_nil)) (pss_cons (ps_expr (pe_m G.put G.bc.cl hr (by decide) paL (pv 3) (pa_cons (pe_lst (pa_cons (pe_ix ix_list (pv 1) pe_int (fun _ _ => rfl)) pa_nil)) pa_nil))) (pss_cons (ps_set (i := 7) scLaw11.nd rfl (.inl rfl) (pe_ix ix_list (pe_lst (pa_cons pe_non (pa_cons pe_int (pa_cons (pe_lst (pa_cons (pv 4) pa_nil)) (pa_cons pe_bl (pa_cons (pe_tup (pa_cons pe_str pa_nil)) pa_nil)))))) (pe_op op_mod (pe_k G.draw hr (by decide) (by rfl) (pa_cons (pv 0) (pa_cons pe_int pa_nil))) pe_int) (fun _ _ => rfl))) (pss_cons (ps_if (PW.pt (pw_or (pt_cmpR op_ne (pe_k G.textOf hr (by decide) (by rfl) (pa_cons (pv 3) pa_nil)) (pe_k G.ltext hr (by decide) (by rfl) (pa_cons (pv 6) pa_nil)) (nomark _)) (pw_or1 (pt_not (pt_val (pe_k G.refused hr (by decide) (by rfl) (pa_cons (pv 7) pa_nil))))))) (pss_one (ps_ret pe_bl)) (pss_nil)) (pss_cons (ps_expr (pe_m G.take G.bc.cl hr (by decide) paL (pv 3) (pa_cons pe_int pa_nil))) (pss_cons (ps_if (pt_cmpR op_ne (pe_k G.textOf hr (by decide) (by rfl) (pa_cons (pv 3) pa_nil)) (pe_k G.ltext hr (by decide) (by rfl) (pa_cons (pe_slice sl_list (pv 6) (po_some pe_int) po_none) pa_nil)) (nomark _)) (pss_one (ps_ret pe_bl)) (pss_nil)) (pss_cons (ps_if (pt_cmpR op_eq (pe_op op_mod (pe_k G.draw hr (by decide) (by rfl) (pa_cons (pv 0) (pa_cons pe_int pa_nil))) pe_int) pe_int (nomark _)) (pss_one (ps_ret (pe_and (pe_cmpR op_eq (pe_k G.textOf hr (by decide) (by rfl) (pa_cons (pe_f G.read hr (by decide) paL (by rfl) (pa_cons (pv 4) pa_nil)) pa_nil)) (pv 4) (nomark _)) (pe_one (pe_k G.great hr (by decide) (by rfl) (pa_cons (pe_op op_fdiv (pe_k G.draw hr (by decide) (by rfl) (pa_cons (pv 0) (pa_cons pe_int pa_nil))) pe_int) pa_nil)))))) (pss_nil)) (pss_cons (ps_set (i := 8) scLaw11.nd rfl (.inl rfl) (pe_k G.spoilt hr (by decide) (by rfl) (pa_cons (pv 4) (pa_cons (pe_op op_fdiv (pe_k G.draw hr (by decide) (by rfl) (pa_cons (pv 0) (pa_cons pe_int pa_nil))) pe_int) pa_nil)))) (pss_cons (ps_set (i := 9) scLaw11.nd rfl (.inl rfl) (pe_k G.lrows hr (by decide) (by rfl) (pa_cons (pv 8) pa_nil))) (pss_cons (ps_if (pt_cmpR op_isN (pv 9) pe_non (nomark _)) (pss_one (ps_ret (pe_k G.refused hr (by decide) (by rfl) (pa_cons (pv 8) pa_nil)))) (pss_nil)) (pss_one (ps_ret (pe_k G.right hr (by decide) (by rfl) (pa_cons (pv 8) (pa_cons (pv 9) pa_nil)))))))))))))))))))))))), ?_⟩
    have one : 1 ≤ sizeLine := by rw [sizeLine_eq]; omega
    refine ⟨_, rfl, a, ns, rfl, hS, fun Nm H1 g1 nN eN => ?_⟩
    obtain ⟨nms, nnd, nne, nlen⟩ := names_ok (ns.getD 0 0)
    generalize names (ns.getD 0 0) = nm at nms nnd nne nlen eN
    have m0 : 0 ≤ ns.getD 1 0 % 9 := Int.emod_nonneg _ (by omega)
    have m9 : ns.getD 1 0 % 9 < 9 := Int.emod_lt_of_pos _ (by omega)
    refine ⟨_, rfl, a, ns, 1, rfl, g1.seq hS, _, _, rfl, rfl, (by show (0 : Int) < 9; decide), _, rfl, ?_, ?_, fun Rw nRw => ?_⟩
    · show -(2 ^ 62) ≤ ns.getD 1 0 % 9
      omega
    · show ns.getD 1 0 % 9 < 2 ^ 62
      omega
    have fewc : (ns.getD 1 0 % 9).toNat ≤ 1000 := by omega
    refine lc_rows (N := nm) fewc nRw (fun v => rfl) (fun k hk H4 Q' g4 hq => ?_) (fun H2 rps g2 TR rl rok => ?_)
    · refine ⟨_, rfl, _, rfl, _, rfl, _, _, rfl, rfl, a, ns, 4 + k, ?_, (g1.trans g4).seq hS, Nm, _, nm, rfl, .inl (.inl (g4.lst eN)), nne, nnd, nms, by omega, hq⟩
      show [V.ref a, V.int (4 + ((0 : Int) + (k : Nat)))] = [V.ref a, V.int ((4 + k : Nat) : Int)]
      rw [show (4 + ((0 : Int) + (k : Nat))) = ((4 + k : Nat) : Int) by omega]
    have lR : LL H2 Rw rps := TR.ll
    have eN2 := g2.lst eN
    have g02 := g1.trans g2
    have RO := rowsOk nms nnd (by omega) rok (by omega)
    have S : Rows11 nm (rps.map (·.2)) := ⟨nms, nlen, fun r hr => by
      obtain ⟨q0, hq0, rfl⟩ := List.mem_map.mp hr
      exact ⟨(rok q0 hq0).1, (rok q0 hq0).2.1⟩, by rw [List.length_map]; omega⟩
    obtain ⟨n0, nrest, rfl⟩ := head_nm nne
    have n0n : isNm n0 = true := nms n0 List.mem_cons_self
    have rpl : rps.length ≤ 8 := by omega
    -- the book, its text
    refine ⟨_, rfl, Rw, rps, rfl, lR.lq, RO, hN.gr g02, fun b d H3 tb g3 NB => ?_⟩
    have g03 := g02.trans g3
    refine ⟨_, rfl, b, d, tb, _, rfl, NB.bk, NB.ok, fun H4 g4 => ?_⟩
    have er : rws tb = (rps.map (·.2)).map srt := by rw [NB.rws, S.once1]
    rw [er]
    have g04 := g03.trans g4
    have lR4 := lR.gr (g3.trans g4)
    have enq : (rps.map fun q => srt q.2) = (rps.map (·.2)).map srt := by rw [List.map_map]; rfl
    refine ⟨_, rfl, _, _, _, _, true, rfl, .ty _, .base (.str _), kit_ty (by decide +kernel), _, rfl, iteF ⟨_, rfl, _, rfl, Rw, rps, rfl, lR4.lq, fun q0 hq0 => ?_, by omega, fun H5 g5 => ⟨rfl, _, rfl, ?_⟩⟩⟩
    · have m : q0.2 ∈ rps.map (·.2) := List.mem_map.mpr ⟨q0, hq0, rfl⟩
      exact ⟨S.nmr q0.2 m, Nat.le_trans (S.r7 q0.2 m) (by decide)⟩
    rw [enq, decide_eq_true rfl]
    refine iteF ?_
    have g05 := g04.trans g5
    refine ⟨_, rfl, _, rfl, textS ((rps.map (·.2)).map srt), Rw, rps, rfl, hN.gr g05, Nat.le_trans S.size (by decide), S.ok, by rw [S.back]; exact S.good, (lR4.gr g5).lq, S.back.symm, fun H6 g6 => ⟨_, rfl, iteF ?_⟩⟩
    have g06 := g05.trans g6
    -- the other book
    refine ⟨_, rfl, .str (textS ((rps.map (·.2)).map srt)), rfl, hN.gr g06, .inl ⟨_, rfl, Nat.le_trans S.size (by decide), S.ok, by rw [S.back]; exact S.good, fun b2 d2 H7 tb2 g7 NB2 => ?_⟩⟩
    rw [S.back] at NB2
    have e26 : Gr H2 H6 := ((g3.trans g4).trans g5).trans g6
    refine ⟨_, rfl, b2, d2, tb2, _, rfl, NB2.bk, _, rfl, Nm, _, _, _, rfl, rfl, .inl (.inl ((e26.trans g7).lst eN2)), at_zero n0 nrest, one, fun l1 nl1 => ?_⟩
    have g8 : Gr H7 (upd H7 l1 (.lst [V.str n0])) := Gr.new nl1
    have el1 : (upd H7 l1 (.lst [V.str n0])) l1 = some (.lst ([n0].map V.str)) := upd_same
    generalize upd H7 l1 (.lst [V.str n0]) = H8 at g8 el1
    have nm1 : Nms [n0] := fun y hy => by rw [List.mem_singleton.mp hy]; exact n0n
    have on1 : once [n0] = [n0] := once_ris (List.pairwise_singleton _ _)
    have t2r : rws tb2 = (rps.map (·.2)).map srt := by rw [NB2.rws, S.once2]
    have wide : (allN ((rps.map (·.2)).map srt ++ [[n0]])).length ≤ 12 := S.few12 fun r hr z hz => by
      rcases List.mem_append.mp hr with hr | hr
      · exact (S.srtN r hr).2 z hz
      · rw [List.mem_singleton.mp hr] at hz
        rw [List.mem_singleton.mp hz]
        exact List.mem_cons_self
    have t2l : tb2.length = rps.length := by
      have h1 := congrArg List.length t2r
      rw [rws_len, List.length_map, List.length_map] at h1
      exact h1
    refine ⟨b2, d2, tb2, _, .ref l1, rfl, NB2.bk.gr g8, NB2.ok, hN.gr ((g06.trans g7).trans g8), .inl ⟨[n0], ⟨l1, rfl, el1, nm1, by show 1 ≤ 1000; decide⟩, by show 1 ≤ 100; decide, (by simp), by omega, by rw [t2r]; exact wide, fun p2 H9 gx9 np2 B9 => ?_⟩⟩
    have g69 : Gr H6 H9 := GrX.young (g7.trans g8) gx9 fun z hz => by
      rcases hz with rfl | rfl
      · exact NB2.nb
      · exact NB2.ndd
    have ok9 := NB2.ok.put nm1 (by omega) (by rw [t2r]; exact wide) p2
    have er9 : rws (tb2 ++ [((((rps.map (·.2)).map srt).length : Int), p2, once [n0])]) = (rps.map (·.2)).map srt ++ [[n0]] := by
      rw [rws_snoc, t2r]
      show _ ++ [once [n0]] = _
      rw [on1]
    have e29 : Gr H2 H9 := e26.trans g69
    have g09 := g06.trans g69
    -- one row more
    refine ⟨_, rfl, _, rfl, Nm, _, _, _, rfl, rfl, .inl (.inl (e29.lst eN2)), at_zero n0 nrest, one, fun l2 nl2 => ⟨one, fun l3 nl3 => ?_⟩⟩
    have g10 : Gr H9 (upd (upd H9 l2 (.lst [V.str n0])) l3 (.lst [V.ref l2])) := (Gr.new nl2).trans (Gr.new nl3)
    have el2 : (upd (upd H9 l2 (.lst [V.str n0])) l3 (.lst [V.ref l2])) l2 = some (.lst ([n0].map V.str)) := (Gr.new nl3).lst (show (upd H9 l2 (.lst [V.str n0])) l2 = some (.lst [V.str n0]) from upd_same)
    have el3 : (upd (upd H9 l2 (.lst [V.str n0])) l3 (.lst [V.ref l2])) l3 = some (.lst [V.ref l2]) := upd_same
    generalize upd (upd H9 l2 (.lst [V.str n0])) l3 (.lst [V.ref l2]) = H10 at g10 el2 el3
    have lR10 := lR.gr (e29.trans g10)
    refine ⟨Rw, l3, _, _, rfl, rfl, lR10.at_, el3, (by rw [List.length_map, sizeLine_eq]; show rps.length + 1 ≤ _; omega), fun Mo nMo => ?_⟩
    have g11 : Gr H10 (upd H10 Mo (.lst ((rps.map fun q => V.ref q.1) ++ [V.ref l2]))) := Gr.new nMo
    have lM : LL (upd H10 Mo (.lst ((rps.map fun q => V.ref q.1) ++ [V.ref l2]))) Mo (rps ++ [(l2, [n0])]) := by
      refine ⟨by rw [upd_same, List.map_append]; rfl, fun q0 hq0 => ?_⟩
      rcases List.mem_append.mp hq0 with hq0 | hq0
      · exact g11.lst (lR10.own q0 hq0)
      · rw [List.mem_singleton.mp hq0]
        exact g11.lst el2
    generalize upd H10 Mo (.lst ((rps.map fun q => V.ref q.1) ++ [V.ref l2])) = H11 at g11 lM
    have g911 := g10.trans g11
    have g011 := g09.trans g911
    have mq : ((rps ++ [(l2, [n0])]).map fun q => srt q.2) = (rps.map (·.2)).map srt ++ [[n0]] := by
      rw [List.map_append, enq]
      show _ ++ [srt [n0]] = _
      rw [srt_id (List.pairwise_singleton _ _)]
    have mnm : ∀ q ∈ rps ++ [(l2, [n0])], Nms q.2 ∧ q.2.length ≤ 20 := fun q0 hq0 => by
      rcases List.mem_append.mp hq0 with hq0 | hq0
      · have m : q0.2 ∈ rps.map (·.2) := List.mem_map.mpr ⟨q0, hq0, rfl⟩
        exact ⟨S.nmr q0.2 m, Nat.le_trans (S.r7 q0.2 m) (by decide)⟩
      · rw [List.mem_singleton.mp hq0]
        exact ⟨nm1, by show 1 ≤ 20; decide⟩
    have mlen : (rps ++ [(l2, [n0])]).length ≤ 40 := by rw [List.length_append, List.length_singleton]; omega
    refine ⟨_, rfl, b2, d2, _, _, rfl, B9.gr g911, ok9, fun H12 g12 => ?_⟩
    rw [er9]
    refine ⟨_, rfl, Mo, _, rfl, (lM.gr g12).lq, mnm, mlen, fun H13 g13 => ⟨rfl, _, rfl, ?_⟩⟩
    rw [mq, decide_eq_true rfl]
    have e313 : Gr H3 H13 := (((((g4.trans g5).trans g6).trans g69).trans g911).trans g12).trans g13
    refine iteF ⟨_, rfl, b, d, tb, _, rfl, NB.bk.gr e313, NB.ok, fun H14 g14 => ?_⟩
    rw [er]
    refine ⟨_, rfl, rfl, _, rfl, ?_⟩
    rw [decide_eq_true rfl]
    refine iteF ?_
    have e314 := e313.trans g14
    have g1114 := (g12.trans g13).trans g14
    -- the book, too
    refine ⟨_, rfl, b, d, tb, _, rfl, NB.bk.gr e314, _, rfl, Nm, _, _, _, rfl, rfl, .inl (.inl ((g3.trans e314).lst eN2)), at_zero n0 nrest, one, fun l4 nl4 => ?_⟩
    have g15 : Gr H14 (upd H14 l4 (.lst [V.str n0])) := Gr.new nl4
    have el4 : (upd H14 l4 (.lst [V.str n0])) l4 = some (.lst ([n0].map V.str)) := upd_same
    generalize upd H14 l4 (.lst [V.str n0]) = H15 at g15 el4
    have e315 := e314.trans g15
    have g015 := g03.trans e315
    have tl1 : tb.length = rps.length := by
      have h1 := congrArg List.length er
      rw [rws_len, List.length_map, List.length_map] at h1
      exact h1
    refine ⟨b, d, tb, _, .ref l4, rfl, NB.bk.gr e315, NB.ok, hN.gr g015, .inl ⟨[n0], ⟨l4, rfl, el4, nm1, by show 1 ≤ 1000; decide⟩, by show 1 ≤ 100; decide, (by simp), by omega, by rw [er]; exact wide, fun p3 H16 gx16 np3 B16 => ?_⟩⟩
    have g016 : Gr H H16 := GrX.young g015 gx16 fun z hz => by
      rcases hz with rfl | rfl
      · exact g02.free NB.nb
      · exact g02.free NB.ndd
    have sq16 := (NB.bk.gr e315).off gx16 fun z hz => hz
    have lM16 := sq16.ll (lM.gr (g1114.trans g15))
    have ok16 := NB.ok.put nm1 (by omega) (by rw [er]; exact wide) p3
    have nr16 : nr (tb ++ [(((rps.map (·.2)).length : Int), p3, once [n0])]) = numd ((rps.map (·.2)).map srt ++ [[n0]]) := by
      rw [nr_snoc, NB.rows, S.once1, numd_snoc, List.length_map (f := srt)]
      show _ ++ [(_, once [n0])] = _
      rw [on1]
    have er16 := rws_numd nr16
    generalize hT : tb ++ [(((rps.map (·.2)).length : Int), p3, once [n0])] = tb16 at B16 ok16 nr16 er16
    -- what is no text
    refine ⟨_, rfl, one, fun o1 no1 => ⟨one, fun o2 no2 => ⟨(by show 5 ≤ sizeLine; rw [sizeLine_eq]; omega), fun O nO => ?_⟩⟩⟩
    have g17 : Gr H16 (upd (upd (upd H16 o1 (.lst [V.str (textS ((rps.map (·.2)).map srt))])) o2 (.tup [V.str "a"])) O (.lst [V.non, V.int 3, V.ref o1, V.bl true, V.ref o2])) := ((Gr.new no1).trans (Gr.new no2)).trans (Gr.new nO)
    have eo1 := ((Gr.new (o := .tup [V.str "a"]) no2).trans (Gr.new (o := .lst [V.non, V.int 3, V.ref o1, V.bl true, V.ref o2]) nO)).lst (show (upd H16 o1 (.lst [V.str (textS ((rps.map (·.2)).map srt))])) o1 = some (.lst [V.str (textS ((rps.map (·.2)).map srt))]) from upd_same)
    have eo2 := (Gr.new (o := .lst [V.non, V.int 3, V.ref o1, V.bl true, V.ref o2]) nO).tup (show (upd (upd H16 o1 (.lst [V.str (textS ((rps.map (·.2)).map srt))])) o2 (.tup [V.str "a"])) o2 = some (.tup [V.str "a"]) from upd_same)
    have eO : (upd (upd (upd H16 o1 (.lst [V.str (textS ((rps.map (·.2)).map srt))])) o2 (.tup [V.str "a"])) O (.lst [V.non, V.int 3, V.ref o1, V.bl true, V.ref o2])) O = some (.lst [V.non, V.int 3, V.ref o1, V.bl true, V.ref o2]) := upd_same
    generalize upd (upd (upd H16 o1 (.lst [V.str (textS ((rps.map (·.2)).map srt))])) o2 (.tup [V.str "a"])) O (.lst [V.non, V.int 3, V.ref o1, V.bl true, V.ref o2]) = H17 at g17 eo1 eo2 eO
    obtain ⟨v, hv, mv⟩ := atI_mod (xs := [V.non, V.int 3, V.ref o1, V.bl true, V.ref o2]) (c := ns.getD 3 0) (n := 5) rfl (by omega)
    have vt : ∃ t : String, TyX K H17 v (.type t) ∧ kitB t "str" = some false := by
      simp only [List.mem_cons, List.not_mem_nil, or_false] at mv
      rcases mv with rfl | rfl | rfl | rfl | rfl
      · exact ⟨"NoneType", .base .non, by decide +kernel⟩
      · exact ⟨"int", .base (.int 3), by decide +kernel⟩
      · exact ⟨"list", .base (.lst eo1), by decide +kernel⟩
      · exact ⟨"bool", .base (.bl true), by decide +kernel⟩
      · exact ⟨"tuple", .base (.tup eo2), by decide +kernel⟩
    have g017 := g016.trans g17
    refine ⟨_, rfl, a, ns, 3, rfl, g017.seq hS, _, _, rfl, rfl, (by show (0 : Int) < 5; decide), O, _, _, v, rfl, rfl, .inl (.inl eO), hv, ?_⟩
    have lM17 := lM16.gr g17
    refine ⟨_, rfl, b, d, tb16, _, rfl, B16.gr g17, ok16, fun H18 g18 => ?_⟩
    rw [er16]
    refine ⟨_, rfl, Mo, _, rfl, (lM17.gr g18).lq, mnm, mlen, fun H19 g19 => ⟨rfl, _, rfl, ?_⟩⟩
    rw [mq, decide_eq_true rfl]
    have g1719 := g18.trans g19
    refine iteF ⟨_, rfl, v, rfl, hN.gr (g017.trans g1719), .inr ?_, fun H20 g20 => ⟨_, rfl, iteF ?_⟩⟩
    · obtain ⟨t, ty, kt⟩ := vt
      exact ⟨t, tyx_gr g1719 ty, kt⟩
    have g1620 := (g17.trans g1719).trans g20
    have g020 := g016.trans g1620
    -- the first row goes
    have B20 := B16.gr g1620
    refine ⟨_, rfl, b, d, tb16, _, rfl, B20, b, d, tb16, _, .int 0, rfl, B20, ok16, .inl ⟨0, rfl, zero_in nr16 (by simp), fun H21 gx21 B21 => ?_⟩⟩
    have g021 : Gr H H21 := GrX.young g020 gx21 fun z hz => by
      rw [show z = d from hz]
      exact g02.free NB.ndd
    have sq21 := B20.off gx21 fun z hz => .inr hz
    have lM21 := sq21.ll (lM16.gr g1620)
    have ok21 := ok16.take 0
    have er21 := rws_take0 nr16
    refine ⟨_, rfl, b, d, _, _, rfl, B21, ok21, fun H22 g22 => ?_⟩
    rw [er21]
    have lM22 := lM21.gr g22
    obtain ⟨q1, qr, eq1⟩ : ∃ q1 qr, rps ++ [(l2, [n0])] = q1 :: qr := by
      cases h : rps ++ [(l2, [n0])] with
      | nil => simp at h
      | cons x y => exact ⟨x, y, rfl⟩
    have mq2 : (qr.map fun q => srt q.2) = ((rps.map (·.2)).map srt ++ [[n0]]).tail := by
      rw [← mq, eq1]
      rfl
    rw [eq1] at lM22 mnm mlen
    refine ⟨_, rfl, _, rfl, Mo, _, rfl, .inl (.inl lM22.at_), fun L nL => ?_⟩
    rw [List.map_cons, cut_tail]
    have g23 : Gr H22 (upd H22 L (.lst (qr.map fun q => V.ref q.1))) := Gr.new nL
    refine ⟨L, qr, rfl, ⟨.inl (.inl upd_same), fun q0 hq0 => .inl (.inl (g23.lst (lM22.own q0 (List.mem_cons_of_mem _ hq0))))⟩, fun q0 hq0 => mnm q0 (List.mem_cons_of_mem _ hq0), by rw [List.length_cons] at mlen; omega, fun H24 g24 => ⟨rfl, _, rfl, ?_⟩⟩
    rw [mq2, decide_eq_true rfl]
    refine iteF ?_
    have g024 := ((g021.trans g22).trans g23).trans g24
    refine ⟨_, rfl, a, ns, 2, rfl, g024.seq hS, _, _, rfl, rfl, (by show (0 : Int) < 2; decide), rfl, _, rfl, ite2 (fun _ => ?_) fun _ => ?_⟩
    · refine ⟨_, rfl, .str (textS ((rps.map (·.2)).map srt)), rfl, hN.gr g024, .inl ⟨_, rfl, Nat.le_trans S.size (by decide), S.ok, by rw [S.back]; exact S.good, fun b3 d3 H25 tb3 g25 NB3 => ⟨b3, d3, tb3, _, rfl, NB3.bk, NB3.ok, fun H26 g26 => ?_⟩⟩⟩
      have er3 : rws tb3 = (rps.map (·.2)).map srt := by rw [NB3.rws, S.back, S.once2]
      rw [er3]
      have g026 := (g024.trans g25).trans g26
      refine ⟨_, rfl, rfl, _, rfl, ?_⟩
      rw [decide_eq_true rfl]
      exact iteT ⟨_, rfl, a, ns, 2, rfl, g026.seq hS, _, _, rfl, rfl, ⟨by decide, by decide⟩, _, rfl, hN.gr g026, fun H27 _ => q H27⟩
    · refine ⟨_, rfl, _, rfl, a, ns, 2, rfl, g024.seq hS, _, _, rfl, rfl, ⟨by decide, by decide⟩, textS ((rps.map (·.2)).map srt), _, rfl, S.size, fun y H25 hy g25 => ?_⟩
      obtain ⟨y1, y2⟩ := spoilt_size S.size S.ok hy
      have fit := fun hg => spoilt_fits (nm := n0 :: nrest) S.srtN S.few (by rw [List.length_map]; exact S.len) hy hg
      by_cases hg : GoodL (rowsIn y)
      · refine ⟨_, rfl, y, rfl, y1, .inl ⟨hg, fun p H26 ks g26 T26 e26 => ⟨_, rfl, rfl, _, rfl, ?_⟩⟩⟩
        rw [decide_eq_false fun z => nomatch z]
        have es : (ks.map (·.2)).map srt = rowsIn y := by
          rw [e26]
          conv => rhs; rw [← List.map_id (rowsIn y)]
          exact List.map_congr_left fun r hr => srt_id (hg r hr).1.sorted
        exact iteF ⟨_, rfl, _, rfl, y, p, ks, rfl, hN.gr ((g024.trans g25).trans g26), y1, y2, fit hg, T26.ll.lq, es, fun H27 _ => q H27⟩
      · refine ⟨_, rfl, y, rfl, y1, .inr ⟨hg, fun H26 g26 => ⟨_, rfl, rfl, _, rfl, ?_⟩⟩⟩
        rw [decide_eq_true rfl]
        exact iteT ⟨_, rfl, .str y, rfl, hN.gr ((g024.trans g25).trans g26), .inl ⟨y, rfl, y1, y2, fun gb => hg gb.each⟩, fun H27 _ => q H27⟩
end
end K1
namespace K1
open PySem PySem.Spec PyProof.Rows L2 Gr GxR
/-- put with its errors' texts forgotten -/
theorem putW {P : Program} {w : World} {K : PySem.W.Frag} {mg : Str → Option Value} {base : Heap} {C : Addr} {N : TabN} {R : ErN} (c : MCalls P w K mg base (CXm P w) 5 C "put" (spPutM K C N R)) : MCalls P w K mg base (L2.CX P w) 5 C "put" (spPut K C N R) := by
  obtain ⟨f, fd, ps, F, me, bi⟩ := c.ex
  exact ⟨f, fd, ps, K1.FnOk.weak (F.imp fun _ _ _ _ h => spPutM.of h), me, bi⟩
end K1
end
section
set_option maxHeartbeats 0
namespace K1
open PySem PySem.Spec PyProof.Rows L2 GxR Gr
def fn : List He.DefD := [
  ⟨("is_name", none), "is_name", "is_name", defArgs sIsName, defBody sIsName, defScope sIsName, [], []⟩,
  ⟨("_once_each", none), "_once_each", "_once_each", defArgs sOnce, defBody sOnce, defScope sOnce, [], []⟩,
  ⟨("rising", none), "rising", "rising", defArgs sRising, defBody sRising, defScope sRising, [], []⟩,
  ⟨("names_from", none), "names_from", "names_from", defArgs s_names_from, defBody s_names_from, defScope s_names_from, [], []⟩,
  ⟨("row_from", none), "row_from", "row_from", defArgs s_row_from, defBody s_row_from, defScope s_row_from, [], []⟩,
  ⟨("Book", some "__init__"), "__init__", "Book.__init__", defArgs m_init, defBody m_init, defScope m_init, [], []⟩,
  ⟨("Book", some "_sets"), "_sets", "Book._sets", defArgs m_sets, defBody m_sets, defScope m_sets, [], []⟩,
  ⟨("Book", some "names"), "names", "Book.names", defArgs m_names, defBody m_names, defScope m_names, [], []⟩,
  ⟨("Book", some "put"), "put", "Book.put", defArgs m_put, defBody m_put, defScope m_put, [], []⟩,
  ⟨("Book", some "take"), "take", "Book.take", defArgs m_take, defBody m_take, defScope m_take, [], []⟩,
  ⟨("Book", some "rows"), "rows", "Book.rows", defArgs m_rows, defBody m_rows, defScope m_rows, [], []⟩,
  ⟨("_line_of", none), "_line_of", "_line_of", defArgs s_line_of, defBody s_line_of, defScope s_line_of, [], []⟩,
  ⟨("text_of", none), "text_of", "text_of", defArgs s_text_of, defBody s_text_of, defScope s_text_of, [], []⟩,
  ⟨("_rows_in", none), "_rows_in", "_rows_in", defArgs s_rows_in_x, defBody s_rows_in_x, defScope s_rows_in_x, [], []⟩,
  ⟨("read", none), "read", "read", defArgs s_read_x, defBody s_read_x, defScope s_read_x, [], []⟩,
  ⟨("_law_draw", none), "_law_draw", "_law_draw", defArgs sDraw, defBody sDraw, defScope sDraw, [], []⟩,
  ⟨("_law_names", none), "_law_names", "_law_names", defArgs sNames, defBody sNames, defScope sNames, [], []⟩,
  ⟨("_law_row", none), "_law_row", "_law_row", defArgs sRow, defBody sRow, defScope sRow, [], []⟩,
  ⟨("_law_book", none), "_law_book", "_law_book", defArgs s_law_book, defBody s_law_book, defScope s_law_book, [], []⟩,
  ⟨("_law_text", none), "_law_text", "_law_text", defArgs s_law_text_x, defBody s_law_text_x, defScope s_law_text_x, [], []⟩,
  ⟨("_law_is_name", none), "_law_is_name", "_law_is_name", defArgs s_law_is_name_x, defBody s_law_is_name_x, defScope s_law_is_name_x, [], []⟩,
  ⟨("_law_rows", none), "_law_rows", "_law_rows", defArgs s_law_rows_x, defBody s_law_rows_x, defScope s_law_rows_x, [], []⟩,
  ⟨("_law_refused", none), "_law_refused", "_law_refused", defArgs s_law_refused_x, defBody s_law_refused_x, defScope s_law_refused_x, [], []⟩,
  ⟨("_law_spoilt", none), "_law_spoilt", "_law_spoilt", defArgs s_law_spoilt_x, defBody s_law_spoilt_x, defScope s_law_spoilt_x, [], []⟩,
  ⟨("_law_right", none), "_law_right", "_law_right", defArgs s_law_right_x, defBody s_law_right_x, defScope s_law_right_x, [], []⟩,
  ⟨("_law_great", none), "_law_great", "_law_great", defArgs s_law_great_x, defBody s_law_great_x, defScope s_law_great_x, [], []⟩,
  ⟨("law", none), "law", "law", defArgs s_law_x, defBody s_law_x, defScope s_law_x, [], []⟩]
def globs : List Str := [("is_name" : Str), ("_once_each" : Str), ("rising" : Str), ("names_from" : Str), ("row_from" : Str), ("_line_of" : Str), ("text_of" : Str), ("_rows_in" : Str), ("read" : Str), ("_law_draw" : Str), ("_law_names" : Str), ("_law_row" : Str), ("_law_book" : Str), ("_law_text" : Str), ("_law_is_name" : Str), ("_law_rows" : Str), ("_law_refused" : Str), ("_law_spoilt" : Str), ("_law_right" : Str), ("_law_great" : Str), ("law" : Str), ("MeetError" : Str), ("BadName" : Str), ("BadRow" : Str), ("NoRow" : Str), ("TooMany" : Str), ("NoMeet" : Str), ("Unread" : Str), ("meets_sets" : Str), ("Book" : Str)]
def frees : List Str := [("len" : Str), ("isinstance" : Str), ("bool" : Str), ("all" : Str), ("any" : Str), ("str" : Str), ("list" : Str), ("tuple" : Str), ("set" : Str), ("sorted" : Str), ("zip" : Str), ("range" : Str), ("enumerate" : Str), ("ValueError" : Str), ("int" : Str), ("min" : Str), ("dict" : Str), ("reversed" : Str)]
def fx : List He.Fa := [.int "MOST_LETTERS" 8, .int "MOST_ROWS_books" 30, .int "MOST_NAMES_books" 12, .str "EMPTY_ROW" "-", .exc "BadName", .exc "BadRow", .exc "TooMany", .exc "NoMeet", .exc "NoRow", .exc "Unread", .exm "BadName" "MeetError" true, .exm "BadRow" "MeetError" true, .exm "TooMany" "MeetError" true, .exm "Unread" "MeetError" true, .cls "Book", .noat "Book" "_rows", .noat "Book" "_next_number", .mkr "Book", .meth "Book" "_sets", .meth "Book" "names", .meth "Book" "put", .meth "Book" "take", .meth "Book" "rows"]
def fa : List He.Fa := globs.map He.Fa.glo ++ (frees.map He.Fa.free ++ fx)
def ts : List He.Tab := []
def tf : List He.Defn := [("is_name", none), ("within", none), ("meets", none), ("least_of", none), ("Book", some "_met_by"), ("Book", some "own")]
def ex (K : PySem.W.Frag) : Bool := decide (He.ga K "meets_sets" = He.ga K "meets") && (He.eqO (PySem.W.findIn K (.ref (He.ga K "BadName")) "__str__") (some (some (.builtin "BaseException.__str__"))) && (He.eqO (PySem.W.findIn K (.ref (He.ga K "BadName")) "__format__") (some (some (.builtin "object.__format__"))) && (decide (PySem.W.mroIn K (He.ga K "BadName") (.type "object") = some true) && (He.eqO (PySem.W.findIn K (.ref (He.ga K "BadRow")) "__str__") (some (some (.builtin "BaseException.__str__"))) && (He.eqO (PySem.W.findIn K (.ref (He.ga K "BadRow")) "__format__") (some (some (.builtin "object.__format__"))) && (decide (PySem.W.mroIn K (He.ga K "BadRow") (.type "object") = some true) && (He.eqO (PySem.W.findIn K (.ref (He.ga K "TooMany")) "__str__") (some (some (.builtin "BaseException.__str__"))) && (He.eqO (PySem.W.findIn K (.ref (He.ga K "TooMany")) "__format__") (some (some (.builtin "object.__format__"))) && (decide (PySem.W.mroIn K (He.ga K "TooMany") (.type "object") = some true) && (He.eqO (PySem.W.findIn K (.ref (He.ga K "Unread")) "__getattribute__") (some (some (.builtin "BaseException.__getattribute__"))) && (He.eqO (PySem.W.findIn K (.ref (He.ga K "Unread")) "__getattr__") (some none) && (PySem.W.hasDictIn K (He.ga K "Unread") && (He.eqO (PySem.W.findIn K (.ref (He.ga K "Unread")) "__class__") ((some (some (.builtin "object.__class__")))) && (decide (PySem.W.mroIn K (He.ga K "Unread") (.type "object") = some true) && (decide (PySem.W.kitAny K (.ref (He.ga K "Unread")) [.ref (He.ga K "BadName"), .ref (He.ga K "BadRow"), .ref (He.ga K "NoMeet"), .ref (He.ga K "NoRow"), .ref (He.ga K "TooMany")] = some false) && (decide (PySem.W.kitOne K (.ref (He.ga K "Unread")) (.ref (He.ga K "Unread")) = some true) && (decide (PySem.W.kitOne K (.ref (He.ga K "Unread")) (.type "ValueError") = some true) && (He.eqO (PySem.W.specialIn K (.builtin "object.__class__") "__get__") (some (some (.builtin "getset_descriptor.__get__"))) && (decide (PySem.W.takesIn K (.builtin "object.__class__") = some true) && (He.eqO (PySem.W.findIn K (.ref (He.ga K "Book")) "__class__") ((some (some (.builtin "object.__class__")))) && (decide (PySem.W.mroIn K (He.ga K "Book") (.type "object") = some true) && (decide (PySem.W.kitOne K (.ref (He.ga K "Book")) (.ref (He.ga K "Book")) = some true)))))))))))))))))))))))
abbrev R : PySem.W.OpenRow := PySem.W.OpenLaw.row PySem.Challenge.rw_meetrows_k11_written_and_read
abbrev hk : PySem.W.Hook := He.hookX 4 fa fn ts tf ex
def ob (s : PySem.W.SharedT) : He.AlX := He.obsX 4 fa fn ts tf ex (HandSHeadRun.getT s)
theorem ob_eq (s : PySem.W.SharedT) : ob s = hk.obs s.abs := He.obsX_eq (HandSHeadRun.getT_eq s)
def loose : List Str := [("_wall" : Str), ("MeetError" : Str), ("BadName" : Str), ("BadRow" : Str), ("NoRow" : Str), ("TooMany" : Str), ("NoMeet" : Str), ("Unread" : Str), ("MOST_LETTERS" : Str), ("is_name" : Str), ("rising" : Str), ("within" : Str), ("meets" : Str), ("meets_sets" : Str), ("ranked" : Str), ("least_of" : Str), ("_once_each" : Str), ("_rank" : Str), ("names_from" : Str), ("row_from" : Str), ("grown" : Str), ("MOST_ROWS_books" : Str), ("MOST_NAMES_books" : Str), ("Book" : Str), ("EMPTY_ROW" : Str), ("text_of" : Str), ("read" : Str), ("_line_of" : Str), ("_rows_in" : Str), ("_law_draw" : Str), ("_law_names" : Str), ("_law_row" : Str), ("_law_book" : Str), ("_law_text" : Str), ("_law_is_name" : Str), ("_law_rows" : Str), ("_law_refused" : Str), ("_law_spoilt" : Str), ("_law_right" : Str), ("_law_great" : Str)]
theorem run (w : World) : HandSHeadRun.RunEq R (PySem.W.view R.prog [47]) hk ob 8000 loose w := by
  intro os
  kernel_rfl
theorem facts {w : World} {K : PySem.W.Frag} {h : Heap} {mg : Str → Option Value} {f : Addr} (X : K.In h) (G : h.Ns mainGlobals mg) (hfa : mg ("law" : Str) = some (.ref f)) (c : He.SaysX fa fn ts tf ex w h K) :
    LamX.LawAtS PySem.Challenge.rw_meetrows_k11_written_and_read w K CX0 9 63 "_law_script" mg f h := by
  have cd := c.t.d
  have gl : ∀ x ∈ globs, mg x = some (.ref (He.ga K x)) := fun x hx => He.glo_ok X G (He.SaysD.facts cd (List.mem_append_left _ (List.mem_map.mpr ⟨x, hx, rfl⟩)))
  have fr : ∀ x ∈ frees, mg x = none := fun x hx => He.free_ok X G (He.SaysD.facts cd (List.mem_append_right _ (List.mem_append_left _ (List.mem_map.mpr ⟨x, hx, rfl⟩))))
  have xf : ∀ x ∈ fx, x.ok K = true := fun x hx => He.SaysD.facts cd (List.mem_append_right _ (List.mem_append_right _ hx))
  have gM : ∃ t, mg "MOST_LETTERS" = some (.int 8 t) := He.int_ok X G (xf (.int "MOST_LETTERS" 8) List.mem_cons_self)
  have gI_MOST_ROWS_books : ∃ t, mg "MOST_ROWS_books" = some (.int 30 t) := He.int_ok X G (xf (.int "MOST_ROWS_books" 30) (List.mem_cons_of_mem _ List.mem_cons_self))
  have gI_MOST_NAMES_books : ∃ t, mg "MOST_NAMES_books" = some (.int 12 t) := He.int_ok X G (xf (.int "MOST_NAMES_books" 12) (List.mem_cons_of_mem _ (List.mem_cons_of_mem _ List.mem_cons_self)))
  have gS_EMPTY_ROW : ∃ t, mg "EMPTY_ROW" = some (.str "-" t) := He.str_ok X G (xf (.str "EMPTY_ROW" "-") (List.mem_cons_of_mem _ (List.mem_cons_of_mem _ (List.mem_cons_of_mem _ List.mem_cons_self))))
  have e_BadName := He.exc_ok (xf (.exc "BadName") (List.mem_cons_of_mem _ (List.mem_cons_of_mem _ (List.mem_cons_of_mem _ (List.mem_cons_of_mem _ List.mem_cons_self)))))
  have EC_BadName : ErrC K mg "BadName" (He.ga K "BadName") := ⟨gl "BadName" (by decide), e_BadName.1, e_BadName.2.1, e_BadName.2.2.1, e_BadName.2.2.2⟩
  have e_BadRow := He.exc_ok (xf (.exc "BadRow") (List.mem_cons_of_mem _ (List.mem_cons_of_mem _ (List.mem_cons_of_mem _ (List.mem_cons_of_mem _ (List.mem_cons_of_mem _ List.mem_cons_self))))))
  have EC_BadRow : ErrC K mg "BadRow" (He.ga K "BadRow") := ⟨gl "BadRow" (by decide), e_BadRow.1, e_BadRow.2.1, e_BadRow.2.2.1, e_BadRow.2.2.2⟩
  have e_TooMany := He.exc_ok (xf (.exc "TooMany") (List.mem_cons_of_mem _ (List.mem_cons_of_mem _ (List.mem_cons_of_mem _ (List.mem_cons_of_mem _ (List.mem_cons_of_mem _ (List.mem_cons_of_mem _ List.mem_cons_self)))))))
  have EC_TooMany : ErrC K mg "TooMany" (He.ga K "TooMany") := ⟨gl "TooMany" (by decide), e_TooMany.1, e_TooMany.2.1, e_TooMany.2.2.1, e_TooMany.2.2.2⟩
  have e_NoMeet := He.exc_ok (xf (.exc "NoMeet") (List.mem_cons_of_mem _ (List.mem_cons_of_mem _ (List.mem_cons_of_mem _ (List.mem_cons_of_mem _ (List.mem_cons_of_mem _ (List.mem_cons_of_mem _ (List.mem_cons_of_mem _ List.mem_cons_self))))))))
  have EC_NoMeet : ErrC K mg "NoMeet" (He.ga K "NoMeet") := ⟨gl "NoMeet" (by decide), e_NoMeet.1, e_NoMeet.2.1, e_NoMeet.2.2.1, e_NoMeet.2.2.2⟩
  have e_NoRow := He.exc_ok (xf (.exc "NoRow") (List.mem_cons_of_mem _ (List.mem_cons_of_mem _ (List.mem_cons_of_mem _ (List.mem_cons_of_mem _ (List.mem_cons_of_mem _ (List.mem_cons_of_mem _ (List.mem_cons_of_mem _ (List.mem_cons_of_mem _ List.mem_cons_self)))))))))
  have EC_NoRow : ErrC K mg "NoRow" (He.ga K "NoRow") := ⟨gl "NoRow" (by decide), e_NoRow.1, e_NoRow.2.1, e_NoRow.2.2.1, e_NoRow.2.2.2⟩
  have e_Unread := He.exc_ok (xf (.exc "Unread") (List.mem_cons_of_mem _ (List.mem_cons_of_mem _ (List.mem_cons_of_mem _ (List.mem_cons_of_mem _ (List.mem_cons_of_mem _ (List.mem_cons_of_mem _ (List.mem_cons_of_mem _ (List.mem_cons_of_mem _ (List.mem_cons_of_mem _ List.mem_cons_self))))))))))
  have EC_Unread : ErrC K mg "Unread" (He.ga K "Unread") := ⟨gl "Unread" (by decide), e_Unread.1, e_Unread.2.1, e_Unread.2.2.1, e_Unread.2.2.2⟩
  have cl : Cls K (He.ga K "Book") := He.cls_ok (xf (.cls "Book") (List.mem_cons_of_mem _ (List.mem_cons_of_mem _ (List.mem_cons_of_mem _ (List.mem_cons_of_mem _ (List.mem_cons_of_mem _ (List.mem_cons_of_mem _ (List.mem_cons_of_mem _ (List.mem_cons_of_mem _ (List.mem_cons_of_mem _ (List.mem_cons_of_mem _ (List.mem_cons_of_mem _ (List.mem_cons_of_mem _ (List.mem_cons_of_mem _ (List.mem_cons_of_mem _ List.mem_cons_self)))))))))))))))
  have nR : NoAttr K (He.ga K "Book") "_rows" := He.noat_ok (xf (.noat "Book" "_rows") (List.mem_cons_of_mem _ (List.mem_cons_of_mem _ (List.mem_cons_of_mem _ (List.mem_cons_of_mem _ (List.mem_cons_of_mem _ (List.mem_cons_of_mem _ (List.mem_cons_of_mem _ (List.mem_cons_of_mem _ (List.mem_cons_of_mem _ (List.mem_cons_of_mem _ (List.mem_cons_of_mem _ (List.mem_cons_of_mem _ (List.mem_cons_of_mem _ (List.mem_cons_of_mem _ (List.mem_cons_of_mem _ List.mem_cons_self))))))))))))))))
  have nN : NoAttr K (He.ga K "Book") "_next_number" := He.noat_ok (xf (.noat "Book" "_next_number") (List.mem_cons_of_mem _ (List.mem_cons_of_mem _ (List.mem_cons_of_mem _ (List.mem_cons_of_mem _ (List.mem_cons_of_mem _ (List.mem_cons_of_mem _ (List.mem_cons_of_mem _ (List.mem_cons_of_mem _ (List.mem_cons_of_mem _ (List.mem_cons_of_mem _ (List.mem_cons_of_mem _ (List.mem_cons_of_mem _ (List.mem_cons_of_mem _ (List.mem_cons_of_mem _ (List.mem_cons_of_mem _ (List.mem_cons_of_mem _ List.mem_cons_self)))))))))))))))))
  have mk : Mk K (He.ga K "Book") (He.ma K (He.ga K "Book") "__init__") := He.mkr_ok (xf (.mkr "Book") (List.mem_cons_of_mem _ (List.mem_cons_of_mem _ (List.mem_cons_of_mem _ (List.mem_cons_of_mem _ (List.mem_cons_of_mem _ (List.mem_cons_of_mem _ (List.mem_cons_of_mem _ (List.mem_cons_of_mem _ (List.mem_cons_of_mem _ (List.mem_cons_of_mem _ (List.mem_cons_of_mem _ (List.mem_cons_of_mem _ (List.mem_cons_of_mem _ (List.mem_cons_of_mem _ (List.mem_cons_of_mem _ (List.mem_cons_of_mem _ (List.mem_cons_of_mem _ List.mem_cons_self))))))))))))))))))
  have BC : BkC K mg (He.ga K "Book") := ⟨cl, nR, nN, gl "Book" (by decide)⟩
  have alq : He.ga K "meets_sets" = He.ga K "meets" := of_decide_eq_true (He.ba c.more).1
  let RR : ErN := ⟨He.ga K "BadName", He.ga K "BadRow", He.ga K "NoRow", He.ga K "TooMany", He.ga K "NoMeet", He.ga K "Unread"⟩
  let NN : TabN := ⟨(He.cT K ("is_name", none)).2, (He.cT K ("within", none)).2, (He.cT K ("meets", none)).2, (He.cT K ("least_of", none)).2, (He.cT K ("Book", some "_met_by")).2, (He.cT K ("Book", some "own")).2⟩
  obtain ⟨fd0, F_is_name⟩ := cd.def_ 0 (d := ⟨("is_name", none), "is_name", "is_name", defArgs sIsName, defBody sIsName, defScope sIsName, [], []⟩) rfl
  obtain ⟨fd1, F__once_each⟩ := cd.def_ 1 (d := ⟨("_once_each", none), "_once_each", "_once_each", defArgs sOnce, defBody sOnce, defScope sOnce, [], []⟩) rfl
  obtain ⟨fd2, F_rising⟩ := cd.def_ 2 (d := ⟨("rising", none), "rising", "rising", defArgs sRising, defBody sRising, defScope sRising, [], []⟩) rfl
  obtain ⟨fd3, F_names_from⟩ := cd.def_ 3 (d := ⟨("names_from", none), "names_from", "names_from", defArgs s_names_from, defBody s_names_from, defScope s_names_from, [], []⟩) rfl
  obtain ⟨fd4, F_row_from⟩ := cd.def_ 4 (d := ⟨("row_from", none), "row_from", "row_from", defArgs s_row_from, defBody s_row_from, defScope s_row_from, [], []⟩) rfl
  obtain ⟨fd5, F_Book___init__⟩ := cd.def_ 5 (d := ⟨("Book", some "__init__"), "__init__", "Book.__init__", defArgs m_init, defBody m_init, defScope m_init, [], []⟩) rfl
  obtain ⟨fd6, F_Book__sets⟩ := cd.def_ 6 (d := ⟨("Book", some "_sets"), "_sets", "Book._sets", defArgs m_sets, defBody m_sets, defScope m_sets, [], []⟩) rfl
  obtain ⟨fd7, F_Book_names⟩ := cd.def_ 7 (d := ⟨("Book", some "names"), "names", "Book.names", defArgs m_names, defBody m_names, defScope m_names, [], []⟩) rfl
  obtain ⟨fd8, F_Book_put⟩ := cd.def_ 8 (d := ⟨("Book", some "put"), "put", "Book.put", defArgs m_put, defBody m_put, defScope m_put, [], []⟩) rfl
  obtain ⟨fd9, F_Book_take⟩ := cd.def_ 9 (d := ⟨("Book", some "take"), "take", "Book.take", defArgs m_take, defBody m_take, defScope m_take, [], []⟩) rfl
  obtain ⟨fd10, F_Book_rows⟩ := cd.def_ 10 (d := ⟨("Book", some "rows"), "rows", "Book.rows", defArgs m_rows, defBody m_rows, defScope m_rows, [], []⟩) rfl
  obtain ⟨fd11, F__line_of⟩ := cd.def_ 11 (d := ⟨("_line_of", none), "_line_of", "_line_of", defArgs s_line_of, defBody s_line_of, defScope s_line_of, [], []⟩) rfl
  obtain ⟨fd12, F_text_of⟩ := cd.def_ 12 (d := ⟨("text_of", none), "text_of", "text_of", defArgs s_text_of, defBody s_text_of, defScope s_text_of, [], []⟩) rfl
  obtain ⟨fd13, F__rows_in⟩ := cd.def_ 13 (d := ⟨("_rows_in", none), "_rows_in", "_rows_in", defArgs s_rows_in_x, defBody s_rows_in_x, defScope s_rows_in_x, [], []⟩) rfl
  obtain ⟨fd14, F_read⟩ := cd.def_ 14 (d := ⟨("read", none), "read", "read", defArgs s_read_x, defBody s_read_x, defScope s_read_x, [], []⟩) rfl
  obtain ⟨fd15, F__law_draw⟩ := cd.def_ 15 (d := ⟨("_law_draw", none), "_law_draw", "_law_draw", defArgs sDraw, defBody sDraw, defScope sDraw, [], []⟩) rfl
  obtain ⟨fd16, F__law_names⟩ := cd.def_ 16 (d := ⟨("_law_names", none), "_law_names", "_law_names", defArgs sNames, defBody sNames, defScope sNames, [], []⟩) rfl
  obtain ⟨fd17, F__law_row⟩ := cd.def_ 17 (d := ⟨("_law_row", none), "_law_row", "_law_row", defArgs sRow, defBody sRow, defScope sRow, [], []⟩) rfl
  obtain ⟨fd18, F__law_book⟩ := cd.def_ 18 (d := ⟨("_law_book", none), "_law_book", "_law_book", defArgs s_law_book, defBody s_law_book, defScope s_law_book, [], []⟩) rfl
  obtain ⟨fd19, F__law_text⟩ := cd.def_ 19 (d := ⟨("_law_text", none), "_law_text", "_law_text", defArgs s_law_text_x, defBody s_law_text_x, defScope s_law_text_x, [], []⟩) rfl
  obtain ⟨fd20, F__law_is_name⟩ := cd.def_ 20 (d := ⟨("_law_is_name", none), "_law_is_name", "_law_is_name", defArgs s_law_is_name_x, defBody s_law_is_name_x, defScope s_law_is_name_x, [], []⟩) rfl
  obtain ⟨fd21, F__law_rows⟩ := cd.def_ 21 (d := ⟨("_law_rows", none), "_law_rows", "_law_rows", defArgs s_law_rows_x, defBody s_law_rows_x, defScope s_law_rows_x, [], []⟩) rfl
  obtain ⟨fd22, F__law_refused⟩ := cd.def_ 22 (d := ⟨("_law_refused", none), "_law_refused", "_law_refused", defArgs s_law_refused_x, defBody s_law_refused_x, defScope s_law_refused_x, [], []⟩) rfl
  obtain ⟨fd23, F__law_spoilt⟩ := cd.def_ 23 (d := ⟨("_law_spoilt", none), "_law_spoilt", "_law_spoilt", defArgs s_law_spoilt_x, defBody s_law_spoilt_x, defScope s_law_spoilt_x, [], []⟩) rfl
  obtain ⟨fd24, F__law_right⟩ := cd.def_ 24 (d := ⟨("_law_right", none), "_law_right", "_law_right", defArgs s_law_right_x, defBody s_law_right_x, defScope s_law_right_x, [], []⟩) rfl
  obtain ⟨fd25, F__law_great⟩ := cd.def_ 25 (d := ⟨("_law_great", none), "_law_great", "_law_great", defArgs s_law_great_x, defBody s_law_great_x, defScope s_law_great_x, [], []⟩) rfl
  obtain ⟨fd26, F_law⟩ := cd.def_ 26 (d := ⟨("law", none), "law", "law", defArgs s_law_x, defBody s_law_x, defScope s_law_x, [], []⟩) rfl
  have e := hfa.symm.trans (gl "law" (by decide))
  have ef : f = He.ga K "law" := by injection e with e; injection e
  subst ef
  have b := FunD.bindsA (ps := ["_law_script"]) F_law fun _ _ _ _ _ _ us hl => match us, hl with | [_], _ => rfl
  obtain ⟨_, mm_⟩ := He.ba c.more
  obtain ⟨y0, m0⟩ := He.ba mm_
  obtain ⟨y1, m1⟩ := He.ba m0
  obtain ⟨y2, m2⟩ := He.ba m1
  obtain ⟨y3, m3⟩ := He.ba m2
  obtain ⟨y4, m4⟩ := He.ba m3
  obtain ⟨y5, m5⟩ := He.ba m4
  obtain ⟨y6, m6⟩ := He.ba m5
  obtain ⟨y7, m7⟩ := He.ba m6
  obtain ⟨y8, m8⟩ := He.ba m7
  obtain ⟨y9, m9⟩ := He.ba m8
  obtain ⟨y10, m10⟩ := He.ba m9
  obtain ⟨y11, m11⟩ := He.ba m10
  obtain ⟨y12, m12⟩ := He.ba m11
  obtain ⟨y13, m13⟩ := He.ba m12
  obtain ⟨y14, m14⟩ := He.ba m13
  obtain ⟨y15, m15⟩ := He.ba m14
  obtain ⟨y16, m16⟩ := He.ba m15
  obtain ⟨y17, m17⟩ := He.ba m16
  obtain ⟨y18, m18⟩ := He.ba m17
  obtain ⟨y19, m19⟩ := He.ba m18
  obtain ⟨y20, m20⟩ := He.ba m19
  have XM_BadName := He.exm_ok (xf (.exm "BadName" "MeetError" true) (List.mem_cons_of_mem _ (List.mem_cons_of_mem _ (List.mem_cons_of_mem _ (List.mem_cons_of_mem _ (List.mem_cons_of_mem _ (List.mem_cons_of_mem _ (List.mem_cons_of_mem _ (List.mem_cons_of_mem _ (List.mem_cons_of_mem _ (List.mem_cons_of_mem _ List.mem_cons_self)))))))))))
  have XM_BadRow := He.exm_ok (xf (.exm "BadRow" "MeetError" true) (List.mem_cons_of_mem _ (List.mem_cons_of_mem _ (List.mem_cons_of_mem _ (List.mem_cons_of_mem _ (List.mem_cons_of_mem _ (List.mem_cons_of_mem _ (List.mem_cons_of_mem _ (List.mem_cons_of_mem _ (List.mem_cons_of_mem _ (List.mem_cons_of_mem _ (List.mem_cons_of_mem _ List.mem_cons_self))))))))))))
  have XM_TooMany := He.exm_ok (xf (.exm "TooMany" "MeetError" true) (List.mem_cons_of_mem _ (List.mem_cons_of_mem _ (List.mem_cons_of_mem _ (List.mem_cons_of_mem _ (List.mem_cons_of_mem _ (List.mem_cons_of_mem _ (List.mem_cons_of_mem _ (List.mem_cons_of_mem _ (List.mem_cons_of_mem _ (List.mem_cons_of_mem _ (List.mem_cons_of_mem _ (List.mem_cons_of_mem _ List.mem_cons_self)))))))))))))
  have XM_Unread := He.exm_ok (xf (.exm "Unread" "MeetError" true) (List.mem_cons_of_mem _ (List.mem_cons_of_mem _ (List.mem_cons_of_mem _ (List.mem_cons_of_mem _ (List.mem_cons_of_mem _ (List.mem_cons_of_mem _ (List.mem_cons_of_mem _ (List.mem_cons_of_mem _ (List.mem_cons_of_mem _ (List.mem_cons_of_mem _ (List.mem_cons_of_mem _ (List.mem_cons_of_mem _ (List.mem_cons_of_mem _ List.mem_cons_self))))))))))))))
  have SC_BadName : StrC K (He.ga K "BadName") := ⟨(He.eqO_ok y0), e_BadName.2.2.1, (He.eqO_ok y1), (of_decide_eq_true y2)⟩
  have SC_BadRow : StrC K (He.ga K "BadRow") := ⟨(He.eqO_ok y3), e_BadRow.2.2.1, (He.eqO_ok y4), (of_decide_eq_true y5)⟩
  have SC_TooMany : StrC K (He.ga K "TooMany") := ⟨(He.eqO_ok y6), e_TooMany.2.2.1, (He.eqO_ok y7), (of_decide_eq_true y8)⟩
  have XC_Unread : ExcC K (He.ga K "Unread") := ⟨(He.eqO_ok y9), (He.eqO_ok y10), of_decide_eq_true (He.ba (He.ba (He.ba (xf (.exc "Unread") (List.mem_cons_of_mem _ (List.mem_cons_of_mem _ (List.mem_cons_of_mem _ (List.mem_cons_of_mem _ (List.mem_cons_of_mem _ (List.mem_cons_of_mem _ (List.mem_cons_of_mem _ (List.mem_cons_of_mem _ (List.mem_cons_of_mem _ List.mem_cons_self))))))))))).2).2).1, y11, (He.eqO_ok y12), (He.eqO_ok y17), (of_decide_eq_true y18), (of_decide_eq_true y13)⟩
  have RU : RefU K mg RR (He.ga K "MeetError") := ⟨gl "MeetError" (by decide), gl "Unread" (by decide), gl "BadName" (by decide), gl "BadRow" (by decide), gl "NoMeet" (by decide), gl "NoRow" (by decide), gl "TooMany" (by decide), XC_Unread, XM_Unread, (of_decide_eq_true y14), (of_decide_eq_true y15), (of_decide_eq_true y16)⟩
  have ISB : IsB K (He.ga K "Book") := ⟨(He.eqO_ok y19), (He.eqO_ok y17), (of_decide_eq_true y18), (of_decide_eq_true y20), (of_decide_eq_true m20)⟩
  refine ⟨fd26, tf.map (He.cT K), spLawG K NN, fun p hp => ?_, fun p hp => ?_, fun p hp => ?_, fun s v => b s [v] rfl, fun H a ns hl hb ht hS => ?_, fun base hB gB hT => ?_⟩
  · obtain ⟨d, hd, rfl⟩ := List.mem_map.mp hp
    exact c.empty d hd
  · obtain ⟨d, hd, rfl⟩ := List.mem_map.mp hp
    exact c.out d hd
  · obtain ⟨d, hd, rfl⟩ := List.mem_map.mp hp
    exact PySem.W.codeHd_of_K X (c.hd d hd)
  · have tg : ∀ d ∈ tf, TabG H (He.cT K d).2 := fun d hd => ⟨#[], ht _ (List.mem_map.mpr ⟨d, hd, rfl⟩), trivial⟩
    exact ⟨a, ns, rfl, hS, ⟨⟨tg ("is_name", none) (by decide), tg ("within", none) (by decide), tg ("meets", none) (by decide), tg ("least_of", none) (by decide)⟩, tg ("Book", some "_met_by") (by decide), tg ("Book", some "own") (by decide)⟩, fun _ => rfl⟩
  · have tb : ∀ d ∈ tf, Tb K base mg d := fun d hd => have z := hT _ (List.mem_map.mpr ⟨d, hd, rfl⟩); ⟨z.code, z.bm, z.gP⟩
    have G_is_name : FnOk PySem.Challenge.rw_meetrows_k11_written_and_read.prog w K mg base CX0 1 _ _ ["thing"] (spIsName K (He.cT K ("is_name", none)).2) := ok_isname F_is_name (tb _ (by decide)) (fr "all" (by decide)) (fr "isinstance" (by decide)) (fr "str" (by decide)) (fr "len" (by decide)) gM
    have B_is_name : Binds K _ ["thing"] [] := F_is_name.bindsN fun _ _ _ _ _ _ us hl => match us, hl with | [_], _ => rfl
    have C_is_name : Calls PySem.Challenge.rw_meetrows_k11_written_and_read.prog w K mg base CX0 1 "is_name" (spIsName K (He.cT K ("is_name", none)).2) := ⟨_, _, _, G_is_name, gl "is_name" (by decide), F_is_name.kp, B_is_name⟩
    have G__once_each : FnOk PySem.Challenge.rw_meetrows_k11_written_and_read.prog w K mg base CX0 1 _ _ ["names"] (spOnce K) := ok_once F__once_each (fr "sorted" (by decide)) (fr "set" (by decide))
    have B__once_each : Binds K _ ["names"] [] := F__once_each.bindsN fun _ _ _ _ _ _ us hl => match us, hl with | [_], _ => rfl
    have C__once_each : Calls PySem.Challenge.rw_meetrows_k11_written_and_read.prog w K mg base CX0 1 "_once_each" (spOnce K) := ⟨_, _, _, G__once_each, gl "_once_each" (by decide), F__once_each.kp, B__once_each⟩
    have G_rising : FnOk PySem.Challenge.rw_meetrows_k11_written_and_read.prog w K mg base (CXm PySem.Challenge.rw_meetrows_k11_written_and_read.prog w) 2 _ _ ["names"] (spRising K (He.cT K ("is_name", none)).2 (He.ga K "BadName")) := ok_risingM F_rising G_is_name B_is_name F_is_name.kp (gl "is_name" (by decide)) G__once_each B__once_each F__once_each.kp (gl "_once_each" (by decide)) EC_BadName (fr "enumerate" (by decide)) gM
    have B_rising : Binds K _ ["names"] [] := F_rising.bindsN fun _ _ _ _ _ _ us hl => match us, hl with | [_], _ => rfl
    have C_rising : Calls PySem.Challenge.rw_meetrows_k11_written_and_read.prog w K mg base (CXm PySem.Challenge.rw_meetrows_k11_written_and_read.prog w) 2 "rising" (spRising K (He.cT K ("is_name", none)).2 (He.ga K "BadName")) := ⟨_, _, _, G_rising, gl "rising" (by decide), F_rising.kp, B_rising⟩
    have G_names_from : FnOk PySem.Challenge.rw_meetrows_k11_written_and_read.prog w K mg base (CXm PySem.Challenge.rw_meetrows_k11_written_and_read.prog w) 3 _ _ ["thing"] (spNamesFrom K NN.i RR) := ok_names_fromM F_names_from C_rising EC_BadRow (fr "isinstance" (by decide)) (fr "list" (by decide))
    have B_names_from : Binds K _ ["thing"] [] := F_names_from.bindsN fun _ _ _ _ _ _ us hl => match us, hl with | [_], _ => rfl
    have C_names_from : Calls PySem.Challenge.rw_meetrows_k11_written_and_read.prog w K mg base (CXm PySem.Challenge.rw_meetrows_k11_written_and_read.prog w) 3 "names_from" (spNamesFrom K NN.i RR) := ⟨_, _, _, G_names_from, gl "names_from" (by decide), F_names_from.kp, B_names_from⟩
    have G_row_from : FnOk PySem.Challenge.rw_meetrows_k11_written_and_read.prog w K mg base (CXm PySem.Challenge.rw_meetrows_k11_written_and_read.prog w) 4 _ _ ["thing"] (spRowFrom K NN.i RR) := ok_row_fromM F_row_from C_names_from EC_BadRow (fr "len" (by decide))
    have B_row_from : Binds K _ ["thing"] [] := F_row_from.bindsN fun _ _ _ _ _ _ us hl => match us, hl with | [_], _ => rfl
    have C_row_from : Calls PySem.Challenge.rw_meetrows_k11_written_and_read.prog w K mg base (CXm PySem.Challenge.rw_meetrows_k11_written_and_read.prog w) 4 "row_from" (spRowFrom K NN.i RR) := ⟨_, _, _, G_row_from, gl "row_from" (by decide), F_row_from.kp, B_row_from⟩
    have G_Book___init__ : FnOk PySem.Challenge.rw_meetrows_k11_written_and_read.prog w K mg base CX0 1 _ _ ["self"] (spInit (He.ga K "Book")) := ok_init F_Book___init__ BC
    have B_Book___init__ : Binds K _ ["self"] [] := F_Book___init__.bindsN fun _ _ _ _ _ _ us hl => match us, hl with | [_], _ => rfl
    have CMK : MkB PySem.Challenge.rw_meetrows_k11_written_and_read.prog w K mg base (He.ga K "Book") := ⟨_, _, _, G_Book___init__, mk, B_Book___init__⟩
    have G_Book__sets : FnOk PySem.Challenge.rw_meetrows_k11_written_and_read.prog w K mg base CX0 1 _ _ ["self"] (spBSets (He.ga K "Book")) := ok_bsets F_Book__sets BC (fr "list" (by decide))
    have B_Book__sets : Binds K _ ["self"] [] := F_Book__sets.bindsN fun _ _ _ _ _ _ us hl => match us, hl with | [_], _ => rfl
    have C_Book__sets : MCalls PySem.Challenge.rw_meetrows_k11_written_and_read.prog w K mg base CX0 1 (He.ga K "Book") "_sets" (spBSets (He.ga K "Book")) := ⟨_, _, _, G_Book__sets, (He.meth_ok (xf (.meth "Book" "_sets") (List.mem_cons_of_mem _ (List.mem_cons_of_mem _ (List.mem_cons_of_mem _ (List.mem_cons_of_mem _ (List.mem_cons_of_mem _ (List.mem_cons_of_mem _ (List.mem_cons_of_mem _ (List.mem_cons_of_mem _ (List.mem_cons_of_mem _ (List.mem_cons_of_mem _ (List.mem_cons_of_mem _ (List.mem_cons_of_mem _ (List.mem_cons_of_mem _ (List.mem_cons_of_mem _ (List.mem_cons_of_mem _ (List.mem_cons_of_mem _ (List.mem_cons_of_mem _ (List.mem_cons_of_mem _ List.mem_cons_self)))))))))))))))))))), B_Book__sets⟩
    have G_Book_names : FnOk PySem.Challenge.rw_meetrows_k11_written_and_read.prog w K mg base CX0 2 _ _ ["self"] (spBNames (He.ga K "Book")) := ok_bnames F_Book_names BC C_Book__sets (fr "sorted" (by decide))
    have B_Book_names : Binds K _ ["self"] [] := F_Book_names.bindsN fun _ _ _ _ _ _ us hl => match us, hl with | [_], _ => rfl
    have C_Book_names : MCalls PySem.Challenge.rw_meetrows_k11_written_and_read.prog w K mg base CX0 2 (He.ga K "Book") "names" (spBNames (He.ga K "Book")) := ⟨_, _, _, G_Book_names, (He.meth_ok (xf (.meth "Book" "names") (List.mem_cons_of_mem _ (List.mem_cons_of_mem _ (List.mem_cons_of_mem _ (List.mem_cons_of_mem _ (List.mem_cons_of_mem _ (List.mem_cons_of_mem _ (List.mem_cons_of_mem _ (List.mem_cons_of_mem _ (List.mem_cons_of_mem _ (List.mem_cons_of_mem _ (List.mem_cons_of_mem _ (List.mem_cons_of_mem _ (List.mem_cons_of_mem _ (List.mem_cons_of_mem _ (List.mem_cons_of_mem _ (List.mem_cons_of_mem _ (List.mem_cons_of_mem _ (List.mem_cons_of_mem _ (List.mem_cons_of_mem _ List.mem_cons_self))))))))))))))))))))), B_Book_names⟩
    have G_Book_put : FnOk PySem.Challenge.rw_meetrows_k11_written_and_read.prog w K mg base (CXm PySem.Challenge.rw_meetrows_k11_written_and_read.prog w) 5 _ _ ["self", "row"] (spPutM K (He.ga K "Book") NN RR) := ok_putM F_Book_put BC C_row_from C_rising C_Book_names EC_TooMany (fr "len" (by decide)) gI_MOST_ROWS_books gI_MOST_NAMES_books
    have B_Book_put : Binds K _ ["self", "row"] [] := F_Book_put.bindsN fun _ _ _ _ _ _ us hl => match us, hl with | [_, _], _ => rfl
    have C_Book_put : MCalls PySem.Challenge.rw_meetrows_k11_written_and_read.prog w K mg base (CXm PySem.Challenge.rw_meetrows_k11_written_and_read.prog w) 5 (He.ga K "Book") "put" (spPutM K (He.ga K "Book") NN RR) := ⟨_, _, _, G_Book_put, (He.meth_ok (xf (.meth "Book" "put") (List.mem_cons_of_mem _ (List.mem_cons_of_mem _ (List.mem_cons_of_mem _ (List.mem_cons_of_mem _ (List.mem_cons_of_mem _ (List.mem_cons_of_mem _ (List.mem_cons_of_mem _ (List.mem_cons_of_mem _ (List.mem_cons_of_mem _ (List.mem_cons_of_mem _ (List.mem_cons_of_mem _ (List.mem_cons_of_mem _ (List.mem_cons_of_mem _ (List.mem_cons_of_mem _ (List.mem_cons_of_mem _ (List.mem_cons_of_mem _ (List.mem_cons_of_mem _ (List.mem_cons_of_mem _ (List.mem_cons_of_mem _ (List.mem_cons_of_mem _ List.mem_cons_self)))))))))))))))))))))), B_Book_put⟩
    have G_Book_take : FnOk PySem.Challenge.rw_meetrows_k11_written_and_read.prog w K mg base (L2.CX PySem.Challenge.rw_meetrows_k11_written_and_read.prog w) 1 _ _ ["self", "number"] (spTake K (He.ga K "Book") RR) := ok_take F_Book_take BC EC_NoRow (fr "isinstance" (by decide)) (fr "int" (by decide)) (fr "bool" (by decide))
    have B_Book_take : Binds K _ ["self", "number"] [] := F_Book_take.bindsN fun _ _ _ _ _ _ us hl => match us, hl with | [_, _], _ => rfl
    have C_Book_take : MCalls PySem.Challenge.rw_meetrows_k11_written_and_read.prog w K mg base (L2.CX PySem.Challenge.rw_meetrows_k11_written_and_read.prog w) 1 (He.ga K "Book") "take" (spTake K (He.ga K "Book") RR) := ⟨_, _, _, G_Book_take, (He.meth_ok (xf (.meth "Book" "take") (List.mem_cons_of_mem _ (List.mem_cons_of_mem _ (List.mem_cons_of_mem _ (List.mem_cons_of_mem _ (List.mem_cons_of_mem _ (List.mem_cons_of_mem _ (List.mem_cons_of_mem _ (List.mem_cons_of_mem _ (List.mem_cons_of_mem _ (List.mem_cons_of_mem _ (List.mem_cons_of_mem _ (List.mem_cons_of_mem _ (List.mem_cons_of_mem _ (List.mem_cons_of_mem _ (List.mem_cons_of_mem _ (List.mem_cons_of_mem _ (List.mem_cons_of_mem _ (List.mem_cons_of_mem _ (List.mem_cons_of_mem _ (List.mem_cons_of_mem _ (List.mem_cons_of_mem _ List.mem_cons_self))))))))))))))))))))))), B_Book_take⟩
    have G_Book_rows : FnOk PySem.Challenge.rw_meetrows_k11_written_and_read.prog w K mg base CX0 1 _ _ ["self"] (spBRows (He.ga K "Book")) := ok_brows F_Book_rows BC (fr "list" (by decide))
    have B_Book_rows : Binds K _ ["self"] [] := F_Book_rows.bindsN fun _ _ _ _ _ _ us hl => match us, hl with | [_], _ => rfl
    have C_Book_rows : MCalls PySem.Challenge.rw_meetrows_k11_written_and_read.prog w K mg base CX0 1 (He.ga K "Book") "rows" (spBRows (He.ga K "Book")) := ⟨_, _, _, G_Book_rows, (He.meth_ok (xf (.meth "Book" "rows") (List.mem_cons_of_mem _ (List.mem_cons_of_mem _ (List.mem_cons_of_mem _ (List.mem_cons_of_mem _ (List.mem_cons_of_mem _ (List.mem_cons_of_mem _ (List.mem_cons_of_mem _ (List.mem_cons_of_mem _ (List.mem_cons_of_mem _ (List.mem_cons_of_mem _ (List.mem_cons_of_mem _ (List.mem_cons_of_mem _ (List.mem_cons_of_mem _ (List.mem_cons_of_mem _ (List.mem_cons_of_mem _ (List.mem_cons_of_mem _ (List.mem_cons_of_mem _ (List.mem_cons_of_mem _ (List.mem_cons_of_mem _ (List.mem_cons_of_mem _ (List.mem_cons_of_mem _ (List.mem_cons_of_mem _ List.mem_cons_self)))))))))))))))))))))))), B_Book_rows⟩
    have G__line_of : FnOk PySem.Challenge.rw_meetrows_k11_written_and_read.prog w K mg base CX0 1 _ _ ["row"] (spLine K) := ok_line F__line_of gS_EMPTY_ROW
    have B__line_of : Binds K _ ["row"] [] := F__line_of.bindsN fun _ _ _ _ _ _ us hl => match us, hl with | [_], _ => rfl
    have C__line_of : Calls PySem.Challenge.rw_meetrows_k11_written_and_read.prog w K mg base CX0 1 "_line_of" (spLine K) := ⟨_, _, _, G__line_of, gl "_line_of" (by decide), F__line_of.kp, B__line_of⟩
    have G_text_of : FnOk PySem.Challenge.rw_meetrows_k11_written_and_read.prog w K mg base CX0 2 _ _ ["book"] (spTextOf (He.ga K "Book")) := ok_text_of F_text_of BC C_Book_rows C__line_of
    have B_text_of : Binds K _ ["book"] [] := F_text_of.bindsN fun _ _ _ _ _ _ us hl => match us, hl with | [_], _ => rfl
    have C_text_of : Calls PySem.Challenge.rw_meetrows_k11_written_and_read.prog w K mg base CX0 2 "text_of" (spTextOf (He.ga K "Book")) := ⟨_, _, _, G_text_of, gl "text_of" (by decide), F_text_of.kp, B_text_of⟩
    have G__rows_in : FnOk PySem.Challenge.rw_meetrows_k11_written_and_read.prog w K mg base CX0 1 _ _ ["text"] (spRowsIn) := ok_rows_in F__rows_in gS_EMPTY_ROW
    have B__rows_in : Binds K _ ["text"] [] := F__rows_in.bindsN fun _ _ _ _ _ _ us hl => match us, hl with | [_], _ => rfl
    have C__rows_in : Calls PySem.Challenge.rw_meetrows_k11_written_and_read.prog w K mg base CX0 1 "_rows_in" (spRowsIn) := ⟨_, _, _, G__rows_in, gl "_rows_in" (by decide), F__rows_in.kp, B__rows_in⟩
    have G_read : FnOk PySem.Challenge.rw_meetrows_k11_written_and_read.prog w K mg base (L2.CX PySem.Challenge.rw_meetrows_k11_written_and_read.prog w) 6 _ _ ["text"] (spRead K (He.ga K "Book") NN RR) := ok_read F_read BC CMK C__rows_in C_Book_put EC_Unread (gl "MeetError" (by decide)) XM_TooMany XM_BadName XM_BadRow SC_TooMany SC_BadName SC_BadRow (fr "isinstance" (by decide)) (fr "str" (by decide)) (fr "enumerate" (by decide)) (fr "sorted" (by decide))
    have B_read : Binds K _ ["text"] [] := F_read.bindsN fun _ _ _ _ _ _ us hl => match us, hl with | [_], _ => rfl
    have C_read : Calls PySem.Challenge.rw_meetrows_k11_written_and_read.prog w K mg base (L2.CX PySem.Challenge.rw_meetrows_k11_written_and_read.prog w) 6 "read" (spRead K (He.ga K "Book") NN RR) := ⟨_, _, _, G_read, gl "read" (by decide), F_read.kp, B_read⟩
    have G__law_draw : FnOk PySem.Challenge.rw_meetrows_k11_written_and_read.prog w K mg base CX0 1 _ _ ["_law_script", "_law_k"] (spDraw K) := ok_draw F__law_draw (fr "len" (by decide))
    have B__law_draw : Binds K _ ["_law_script", "_law_k"] [] := F__law_draw.bindsN fun _ _ _ _ _ _ us hl => match us, hl with | [_, _], _ => rfl
    have C__law_draw : Calls PySem.Challenge.rw_meetrows_k11_written_and_read.prog w K mg base CX0 1 "_law_draw" (spDraw K) := ⟨_, _, _, G__law_draw, gl "_law_draw" (by decide), F__law_draw.kp, B__law_draw⟩
    have G__law_names : FnOk PySem.Challenge.rw_meetrows_k11_written_and_read.prog w K mg base CX0 2 _ _ ["_law_script"] (spNames K) := ok_names F__law_names G__law_draw B__law_draw F__law_draw.kp (gl "_law_draw" (by decide)) (fr "range" (by decide))
    have B__law_names : Binds K _ ["_law_script"] [] := F__law_names.bindsN fun _ _ _ _ _ _ us hl => match us, hl with | [_], _ => rfl
    have C__law_names : Calls PySem.Challenge.rw_meetrows_k11_written_and_read.prog w K mg base CX0 2 "_law_names" (spNames K) := ⟨_, _, _, G__law_names, gl "_law_names" (by decide), F__law_names.kp, B__law_names⟩
    have G__law_row : FnOk PySem.Challenge.rw_meetrows_k11_written_and_read.prog w K mg base CX0 1 _ _ ["_law_names_here", "_law_cell"] (spRow K) := ok_row F__law_row (fr "len" (by decide))
    have B__law_row : Binds K _ ["_law_names_here", "_law_cell"] [] := F__law_row.bindsN fun _ _ _ _ _ _ us hl => match us, hl with | [_, _], _ => rfl
    have C__law_row : Calls PySem.Challenge.rw_meetrows_k11_written_and_read.prog w K mg base CX0 1 "_law_row" (spRow K) := ⟨_, _, _, G__law_row, gl "_law_row" (by decide), F__law_row.kp, B__law_row⟩
    have G__law_book : FnOk PySem.Challenge.rw_meetrows_k11_written_and_read.prog w K mg base CX0 6 _ _ ["_law_rows_here"] (spLBook K (He.ga K "Book") NN) := ok_lbook F__law_book BC CMK (putW C_Book_put) (fr "list" (by decide))
    have B__law_book : Binds K _ ["_law_rows_here"] [] := F__law_book.bindsN fun _ _ _ _ _ _ us hl => match us, hl with | [_], _ => rfl
    have C__law_book : Calls PySem.Challenge.rw_meetrows_k11_written_and_read.prog w K mg base CX0 6 "_law_book" (spLBook K (He.ga K "Book") NN) := ⟨_, _, _, G__law_book, gl "_law_book" (by decide), F__law_book.kp, B__law_book⟩
    have G__law_text : FnOk PySem.Challenge.rw_meetrows_k11_written_and_read.prog w K mg base CX0 1 _ _ ["_law_rows_here"] (spLText K) := ok_ltext F__law_text (fr "sorted" (by decide))
    have B__law_text : Binds K _ ["_law_rows_here"] [] := F__law_text.bindsN fun _ _ _ _ _ _ us hl => match us, hl with | [_], _ => rfl
    have C__law_text : Calls PySem.Challenge.rw_meetrows_k11_written_and_read.prog w K mg base CX0 1 "_law_text" (spLText K) := ⟨_, _, _, G__law_text, gl "_law_text" (by decide), F__law_text.kp, B__law_text⟩
    have G__law_is_name : FnOk PySem.Challenge.rw_meetrows_k11_written_and_read.prog w K mg base CX0 1 _ _ ["_law_word"] (spLIs) := ok_lis F__law_is_name (fr "len" (by decide))
    have B__law_is_name : Binds K _ ["_law_word"] [] := F__law_is_name.bindsN fun _ _ _ _ _ _ us hl => match us, hl with | [_], _ => rfl
    have C__law_is_name : Calls PySem.Challenge.rw_meetrows_k11_written_and_read.prog w K mg base CX0 1 "_law_is_name" (spLIs) := ⟨_, _, _, G__law_is_name, gl "_law_is_name" (by decide), F__law_is_name.kp, B__law_is_name⟩
    have G__law_rows : FnOk PySem.Challenge.rw_meetrows_k11_written_and_read.prog w K mg base CX0 2 _ _ ["_law_text_here"] (spLRowsT) := ok_lrowsT F__law_rows C__law_is_name (fr "len" (by decide)) (fr "range" (by decide))
    have B__law_rows : Binds K _ ["_law_text_here"] [] := F__law_rows.bindsN fun _ _ _ _ _ _ us hl => match us, hl with | [_], _ => rfl
    have C__law_rows : Calls PySem.Challenge.rw_meetrows_k11_written_and_read.prog w K mg base CX0 2 "_law_rows" (spLRowsT) := ⟨_, _, _, G__law_rows, gl "_law_rows" (by decide), F__law_rows.kp, B__law_rows⟩
    have G__law_refused : FnOk PySem.Challenge.rw_meetrows_k11_written_and_read.prog w K mg base CX0 7 _ _ ["_law_thing"] (spRefU K NN) := ok_refU (M := He.ga K "MeetError") F__law_refused C_read RU (fr "isinstance" (by decide)) (fr "ValueError" (by decide))
    have B__law_refused : Binds K _ ["_law_thing"] [] := F__law_refused.bindsN fun _ _ _ _ _ _ us hl => match us, hl with | [_], _ => rfl
    have C__law_refused : Calls PySem.Challenge.rw_meetrows_k11_written_and_read.prog w K mg base CX0 7 "_law_refused" (spRefU K NN) := ⟨_, _, _, G__law_refused, gl "_law_refused" (by decide), F__law_refused.kp, B__law_refused⟩
    have G__law_spoilt : FnOk PySem.Challenge.rw_meetrows_k11_written_and_read.prog w K mg base CX0 1 _ _ ["_law_text_here", "_law_cell"] (spSpoilt) := ok_spoilt F__law_spoilt (fr "len" (by decide))
    have B__law_spoilt : Binds K _ ["_law_text_here", "_law_cell"] [] := F__law_spoilt.bindsN fun _ _ _ _ _ _ us hl => match us, hl with | [_, _], _ => rfl
    have C__law_spoilt : Calls PySem.Challenge.rw_meetrows_k11_written_and_read.prog w K mg base CX0 1 "_law_spoilt" (spSpoilt) := ⟨_, _, _, G__law_spoilt, gl "_law_spoilt" (by decide), F__law_spoilt.kp, B__law_spoilt⟩
    have G__law_right : FnOk PySem.Challenge.rw_meetrows_k11_written_and_read.prog w K mg base CX0 7 _ _ ["_law_text_here", "_law_rows_here"] (spRight11 K NN) := ok_right11 F__law_right BC ISB C_read C_text_of C_Book_rows (fr "range" (by decide)) (fr "len" (by decide)) (fr "sorted" (by decide)) (fr "isinstance" (by decide))
    have B__law_right : Binds K _ ["_law_text_here", "_law_rows_here"] [] := F__law_right.bindsN fun _ _ _ _ _ _ us hl => match us, hl with | [_, _], _ => rfl
    have C__law_right : Calls PySem.Challenge.rw_meetrows_k11_written_and_read.prog w K mg base CX0 7 "_law_right" (spRight11 K NN) := ⟨_, _, _, G__law_right, gl "_law_right" (by decide), F__law_right.kp, B__law_right⟩
    have G__law_great : FnOk PySem.Challenge.rw_meetrows_k11_written_and_read.prog w K mg base CX0 8 _ _ ["_law_cell"] (spGreat NN) := ok_great F__law_great C__law_refused C__law_right (fr "list" (by decide))
    have B__law_great : Binds K _ ["_law_cell"] [] := F__law_great.bindsN fun _ _ _ _ _ _ us hl => match us, hl with | [_], _ => rfl
    have C__law_great : Calls PySem.Challenge.rw_meetrows_k11_written_and_read.prog w K mg base CX0 8 "_law_great" (spGreat NN) := ⟨_, _, _, G__law_great, gl "_law_great" (by decide), F__law_great.kp, B__law_great⟩
    exact ok_law11 (R := RR) F_law ⟨C__law_draw, C__law_names, C__law_row, C__law_book, C_text_of, C__law_text, C__law_right, C_read, putW C_Book_put, C_Book_take, C__law_refused, C__law_great, C__law_spoilt, C__law_rows, BC, (fr "range" (by decide)), (fr "isinstance" (by decide)), (fr "str" (by decide))⟩
end K1
open PySem PySem.W PySem.Calls PyProof.Rows
theorem PySem.Challenge.cw_meetrows_k11_written_and_read_holds : PySem.Challenge.rw_meetrows_k11_written_and_read.Holds := by
  w_on; o_law
  refine HandSHeadRun.head_any (r := OpenLaw.row PySem.Challenge.rw_meetrows_k11_written_and_read) (q := view (OpenLaw.row PySem.Challenge.rw_meetrows_k11_written_and_read).prog [47]) (H := K1.hk) (ob := K1.ob) (M := 8000) (loose := K1.loose) (d := HandSHeadRun.topDef (OpenLaw.row PySem.Challenge.rw_meetrows_k11_written_and_read).prog 47) (kwd := []) K1.ob_eq
    (by kernel_rfl) (fun s => by kernel_rfl) K1.run (by kernel_rfl) (by kernel_rfl) (by kernel_rfl) (by rfl) (by first | assumption | decide +kernel) (by decide +kernel) ⟨rfl, rfl, rfl, rfl, rfl, by decide +kernel⟩ ?hw ?hc
  case hw => w_witness2
  case hc =>
    refine LamX.walk_ofTsE (l := PySem.Challenge.rw_meetrows_k11_written_and_read) (n := 63) (k := 9) (x := "_law_script") (CX := fun _ => L2.CX0) rfl (by decide) (by kernel_rfl) ⟨rfl, by decide, by decide⟩ ?F (fun _ _ _ _ _ z => z)
    intro w mg fa h Y G hmg0
    obtain ⟨K, KX, c⟩ := Y
    have hmg : mg ("law" : PySem.Str) = some (.ref fa) := by
      have e : (HandSHeadRun.topDef (OpenLaw.row PySem.Challenge.rw_meetrows_k11_written_and_read).prog 47).name = ("law" : PySem.Str) := by kernel_rfl
      rw [← e]
      exact hmg0
    exact ⟨K, KX, K1.facts KX G hmg c⟩
end
