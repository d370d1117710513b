import PyProof.Rows.All
import Wide.All
import OpenK.AllK
import Wide.FinOn
import PySem.Challenge.RW_meetrows_k13_whole_deeds
import PyProof.EqAt
import PyProof.EqKinds
import PyProof.TupleCall
import KE.SortKeyHeap
import HandS.Base
import HandS.Call
import HandS.List
import HandS.Set
import HandS.Strs
import HandS.TupSets
import HandS.Words
import HandS.AnyAll
import KE.KNest
import HandS.Comp
import HandS.GenOver
import HandS.SortKw
import HandS.SlotsOwn
import HandS.Dict
import HandS.More
import HandS.Conv
import HandS.DictComp
import HandS.ForMost
import HandS.ForExc
import HandS.Flow
import HandS.IsInst
import HandS.Iter
import HandS.Text
import HandS.FStr
import HandS.HeadHook4
import HandS.HeadWalk
import KE.DatumOrd
import HandS.RaiseMore
import HandS.TryOnly
import HandS.ExcIs
import KE.KxText
import HandS.Style
import HandS.Zip
import HandS.Codes
import HandS.Deep
import HandS.SetBool
import HandS.ListItems
import HandS.Star
import HandS.Walk
import KE.DataCmp
import PyProof.SetRoads
import PyProof.Tail
import PyProof.FactsAll.set_2
import HandS.HotCalls
import PyProof.FitsReplace
import HandS.Head0
import HandS.Head1
import HandS.Head2
import HandS.HeadEnd
set_option Elab.async false
set_option linter.all false
set_option maxRecDepth 100000
section
set_option maxHeartbeats 4000000
/-! set(xs) of a list of texts, and what is sorted of it. -/
namespace Sx
open PySem PySem.Spec PyProof.Rows L2

/-! ### each once -/
def once (acc : List Str) (x : Str) : List Str := if x ∈ acc then acc else acc ++ [x]
def dd (xs : List Str) : List Str := xs.foldl once []
theorem once_mem {acc : List Str} {x y : Str} : y ∈ once acc x ↔ y ∈ acc ∨ y = x := by
  unfold once
  split
  · rename_i h
    exact ⟨.inl, fun z => z.elim id fun e => e ▸ h⟩
  · simp
theorem once_nodup {acc : List Str} {x : Str} (h : acc.Nodup) : (once acc x).Nodup := by
  unfold once
  split
  · exact h
  · rename_i hx
    refine List.nodup_append.mpr ⟨h, by simp, fun a ha b hb e => ?_⟩
    have hb : b = x := by simpa using hb
    rw [e, hb] at ha
    exact hx ha
theorem fold_mem : ∀ (xs acc : List Str) (y : Str), y ∈ xs.foldl once acc ↔ y ∈ acc ∨ y ∈ xs
  | [], acc, y => by simp
  | x :: xs, acc, y => by
    rw [List.foldl_cons, fold_mem xs, once_mem, List.mem_cons, or_assoc]
theorem fold_nodup : ∀ (xs acc : List Str), acc.Nodup → (xs.foldl once acc).Nodup
  | [], _, h => h
  | _ :: xs, _, h => fold_nodup xs _ (once_nodup h)
theorem once_len (acc : List Str) (x : Str) : (once acc x).length ≤ acc.length + 1 := by
  unfold once
  split <;> simp
theorem fold_len : ∀ (xs acc : List Str), (xs.foldl once acc).length ≤ acc.length + xs.length
  | [], acc => by simp
  | x :: xs, acc => by
    have h1 := fold_len xs (once acc x)
    have h2 := once_len acc x
    rw [List.foldl_cons, List.length_cons]
    omega
theorem dd_mem {xs : List Str} {y : Str} : y ∈ dd xs ↔ y ∈ xs := by
  unfold dd
  rw [fold_mem]
  simp
theorem dd_nodup (xs : List Str) : (dd xs).Nodup := fold_nodup xs [] List.nodup_nil
theorem dd_len (xs : List Str) : (dd xs).length ≤ xs.length := by
  have h := fold_len xs []
  simpa [dd] using h
theorem dd_id {xs : List Str} (h : xs.Nodup) : dd xs = xs := by
  have gen : ∀ (l acc : List Str), (acc ++ l).Nodup → l.foldl once acc = acc ++ l := by
    intro l
    induction l with
    | nil => intro acc _; simp
    | cons x l ih =>
      intro acc hn
      have hx : x ∉ acc := by
        intro z
        exact (List.nodup_append.mp hn).2.2 x z x List.mem_cons_self rfl
      have e : once acc x = acc ++ [x] := if_neg hx
      rw [List.foldl_cons, e, ih (acc ++ [x]) (by rw [List.append_assoc]; exact hn), List.append_assoc]
      rfl
  exact gen xs [] (by simpa using h)

/-! ### a set of texts, as it stands -/
def kS : Value → Str
  | .str x _ => x
  | _ => Str.empty
def Row (w : World) (e : Int × Value) : Prop := ∃ tk, e.2 = Value.str (kS e.2) tk ∧ e.1 = hashStr w (kS e.2)
/-- at a: a set of just the texts ks -/
def SetS (w : World) (h : Heap) (a : Addr) (ks : List Str) : Prop :=
  ∃ o es ep t, h.get? a = some o ∧ o.ExactSet ∧ o.data = .set es ep t ∧ (∀ e ∈ es.toList, Row w e) ∧ (es.toList.map fun e => kS e.2).Perm ks ∧ ks.Nodup ∧
    es.size < scanBound ∧ t.fits es.size = true ∧ Ris t.place.toList ∧ (w.params.followText "set-order" = true ∨ t.led = true)
section
variable {P : Program} {w : World} {h h' : Heap} {a : Addr} {ks : List Str}
theorem SetS.at (R : SetS w h a ks) (k : ∀ o, h.get? a = some o → h'.get? a = some o) : SetS w h' a ks :=
  let ⟨o, es, ep, t, ho, r⟩ := R
  ⟨o, es, ep, t, k o ho, r⟩
theorem Row.str {e : Int × Value} (g : Row w e) : ∃ x tk, e.2 = Value.str x tk ∧ e.1 = hashStr w x ∧ kS e.2 = x := let ⟨tk, h1, h2⟩ := g; ⟨_, tk, h1, h2, rfl⟩
theorem rows_elems {l : List (Int × Value)} (g : ∀ e ∈ l, Row w e) : ElemsOf (PySem.strKind P w) l := by
  intro e he
  obtain ⟨x, tk, h1, h2, _⟩ := (g e he).str
  exact ⟨⟨x, by rw [h1]; exact strKind_is P w x tk, h2⟩, by rw [h1]; rfl⟩
theorem row_is {e : Int × Value} (g : Row w e) (x : Str) : (PySem.strKind P w).is x e.2 = true ↔ kS e.2 = x := by
  obtain ⟨y, tk, h1, _, h3⟩ := g.str
  rw [h1]
  show Value.isStrOf x (.str y tk) = true ↔ y = x
  simp [Value.isStrOf]
theorem SetS.setOf (R : SetS w h a ks) : h.SetOf (PySem.strKind P w) a (fun x => decide (x ∈ ks)) ks.length := by
  obtain ⟨o, es, ep, t, ho, hx, hd, g, pm, nd, hb, hf, _⟩ := R
  refine ⟨o, es, ep, t, ho, hx, hd, rows_elems g, fun x => ?_, hb, hf, ?_⟩
  · rw [decide_eq_true_eq, ← pm.mem_iff, List.mem_map]
    constructor
    · rintro ⟨e, he, q⟩
      exact ⟨e, he, (row_is (g e he) x).2 q⟩
    · rintro ⟨e, he, q⟩
      exact ⟨e, he, (row_is (g e he) x).1 q⟩
  · rw [← pm.length_eq, List.length_map, Array.length_toList]
end

section
variable {P : Program} {w : World} {A : Around} {E : Value → Shared → Prop} {s : Shared} {a : Addr} {ks : List Str}
theorem put_tail {g : Bool → Sem Unit} (hg : ∀ (b : Bool) (s₁ : Shared) (Q' : Unit → Shared → Prop), Q' () s₁ → wpAny (model P w) A (g b) Q' E s₁)
    {o : Obj} {es es1 : Array (Int × Value)} {ep : Nat} {t t2 : SetTable} {zs : List Str} (h1 : s.heap.get? a = some o) (h2 : o.ExactSet) (h3 : o.data = .set es ep t)
    (g1 : ∀ e ∈ es1.toList, Row w e) (pm1 : (es1.toList.map fun e => kS e.2).Perm zs) (nd1 : zs.Nodup) (hb1 : es1.size < scanBound) (hf2 : t2.fits es1.size = true) (hr2 : Ris t2.place.toList) (hl2 : w.params.followText "set-order" = true ∨ t2.led = true) {wd : Bool} {R : Option Bool → Shared → Prop}
    (hR : ∀ h', Heap.SameBut a s.heap h' → SetS w h' a zs → R (some true) { s with heap := h' }) :
    wpAny (model P w) A (do
        storeSet a es1 t2
        if (!wd && t2.tooFull) = true then do
            g (relayAll t2 es1 (SetTable.grown es1.size)).2.2
            storeSet a (relayAll t2 es1 (SetTable.grown es1.size)).1 (relayAll t2 es1 (SetTable.grown es1.size)).2.1
            pure (some true)
          else pure (some true)) R E s := by
  refine wpAny_bind (wpAny_storeSet_of h1 h3 ?_ (fits_of_scanBound hb1))
  have k1 := store_at (es' := es1) (t' := t2) h1 h3
  have k2 := Heap.SameBut.update s.heap a (Obj.putSet es1 t2)
  by_cases full : (!wd && t2.tooFull) = true
  · rw [if_pos full]
    have pm := relayAll_perm t2 es1 (SetTable.grown es1.size)
    have f3 := relayAll_fits t2 es1 (SetTable.grown es1.size)
    have r3 := relayAll_ris t2 es1 (SetTable.grown es1.size)
    have l3 := relayAll_led t2 es1 (SetTable.grown es1.size)
    generalize relayAll t2 es1 (SetTable.grown es1.size) = Z at pm f3 r3 l3 ⊢
    obtain ⟨es2, t3, gv⟩ := Z
    dsimp only at pm f3 r3 l3 ⊢
    have z2 : es2.size = es1.size := by rw [← Array.length_toList, pm.length_eq, Array.length_toList]
    have b2 : es2.size < scanBound := by rw [z2]; exact hb1
    refine wpAny_bind (hg _ _ _ (wpAny_bind (wpAny_storeSet_of k1 rfl ?_ (fits_of_scanBound b2))))
    have k3 := store_at (es' := es2) (t' := t3) k1 rfl
    refine wpAny_pure (hR _ (k2.trans (Heap.SameBut.update _ a _)) ⟨_, es2, _, t3, k3, h2, rfl, fun e he => g1 e (pm.mem_iff.mp he), (pm.map _).trans pm1, nd1, b2, f3, r3, hl2.imp id fun z => ?_⟩)
    rw [l3]; exact z
  · rw [if_neg full]
    exact wpAny_pure (hR _ k2 ⟨_, es1, _, t2, k1, h2, rfl, g1, pm1, nd1, hb1, hf2, hr2, hl2⟩)

theorem put_hashed {x : Str} {tk : Tok} {Q : Bool → Shared → Prop} (R : SetS w s.heap a ks) (room : ks.length + 1 < scanBound)
    (hQ : ∀ h' b, Heap.SameBut a s.heap h' → SetS w h' a (once ks x) → Q b { s with heap := h' }) :
    wpAny (model P w) A (setAddHashed a (.str x tk) ((PySem.strKind P w).hash x)) Q E s := by
  have R0 := R
  obtain ⟨o, es, ep, t, ho, hex, hd, g, pm0, nd, hb, hf, hr, hl⟩ := R
  have key : (PySem.strKind P w).is x (.str x tk) = true := strKind_is P w x tk
  have sc : (Value.str x tk).scannable = true := rfl
  have el : ElemsOf (PySem.strKind P w) es.toList := rows_elems g
  have zn : es.size = ks.length := by rw [← pm0.length_eq, List.length_map, Array.length_toList]
  unfold setAddHashed setAddHashedIn
  refine wpAny_holding (wpAny_bind (wpAny_setState_of ho hd hf ?_))
  dsimp only
  rw [byScan_of sc hb el]
  simp only [↓reduceIte]
  unfold setAddByScan
  refine wpAny_bind (wpAny_bind (wpAny_rule (wpAny_bind (wpAny_setScan_of key ho hd hf el ?_))))
  cases hfi : List.findIdx? (fun e => (PySem.strKind P w).is x e.2) es.toList with
  | some j =>
    dsimp only
    obtain ⟨hj, pj, _⟩ := List.findIdx?_eq_some_iff_getElem.mp hfi
    have hx : x ∈ ks := pm0.mem_iff.mp (List.mem_map.mpr ⟨es.toList[j], List.getElem_mem hj, (row_is (P := P) (g _ (List.getElem_mem hj)) x).1 pj⟩)
    refine wpAny_pure (wpAny_pure ?_)
    have e1 : once ks x = ks := by unfold once; rw [if_pos hx]
    exact hQ s.heap false (Heap.SameBut.refl a s.heap) (by rw [e1]; exact R0)
  | none =>
    dsimp only
    have hx : x ∉ ks := by
      intro z
      obtain ⟨e, he, q⟩ := List.mem_map.mp (pm0.mem_iff.mpr z)
      have c := List.findIdx?_eq_none_iff.mp hfi e he
      rw [(row_is (P := P) (g e he) x).2 q] at c
      cases c
    have e1 : once ks x = ks ++ [x] := by unfold once; rw [if_neg hx]
    have hgw : ∀ (b : Bool) {s₁ : Shared} {Q' : Unit → Shared → Prop}, Q' () s₁ → wpAny (model P w) A (match b with | true => rule "set.scan.the-table-gave-way" | false => pure ()) Q' E s₁ := by
      intro b s₁ Q' q
      cases b <;> first | exact wpAny_pure q | exact wpAny_rule q
    have p1 := layNew_perm t es ((PySem.strKind P w).hash x) (.str x tk)
    have f1 := layNew_fits t es ((PySem.strKind P w).hash x) (.str x tk)
    have r1 := layNew_ris t es ((PySem.strKind P w).hash x) (.str x tk) hr
    have l1 := layNew_led t es ((PySem.strKind P w).hash x) (.str x tk)
    generalize layNew t es ((PySem.strKind P w).hash x) (.str x tk) = Z at p1 f1 r1 l1 ⊢
    obtain ⟨es1, t1, wd, gv⟩ := Z
    dsimp only at p1 f1 r1 l1 ⊢
    rw [Array.toList_push] at p1
    have g1 : ∀ e ∈ es1.toList, Row w e := by
      intro e he
      rcases List.mem_append.mp (p1.mem_iff.mp he) with z | z
      · exact g e z
      · have z : e = ((PySem.strKind P w).hash x, Value.str x tk) := by simpa using z
        rw [z]
        exact ⟨tk, rfl, rfl⟩
    have pm1 : (es1.toList.map fun e => kS e.2).Perm (ks ++ [x]) := by
      have q := p1.map fun e : Int × Value => kS e.2
      rw [List.map_append] at q
      exact q.trans (pm0.append_right _)
    have nd1 : (ks ++ [x]).Nodup := by
      have q := once_nodup (x := x) nd
      rw [e1] at q
      exact q
    have z1 : es1.size = ks.length + 1 := by
      have q := p1.length_eq
      rw [List.length_append, Array.length_toList, Array.length_toList] at q
      simp at q
      omega
    have b1 : es1.size < scanBound := by rw [z1]; exact room
    have led1 : w.params.followText "set-order" = true ∨ t1.led = true := hl.imp id fun z => by rw [l1]; exact z
    have fin : ∀ h', Heap.SameBut a s.heap h' → SetS w h' a (ks ++ [x]) → Q true { s with heap := h' } := fun h' sb r => hQ h' true sb (by rw [e1]; exact r)
    refine wpAny_bind (hgw _ ?_)
    have hgb : ∀ (b : Bool) (s₁ : Shared) (Q' : Unit → Shared → Prop), Q' () s₁ → wpAny (model P w) A (match b with | true => rule "set.scan.the-table-gave-way" | false => pure ()) Q' E s₁ := fun b s₁ Q' q => hgw b q
    split
    · refine wpAny_bind ?_
      rw [hashByValue_scannable 8 sc]
      refine wpAny_pure ?_
      refine put_tail ?_ ho hex hd g1 pm1 nd1 b1 ?_ ?_ ?_ ?_
      · intro b s₁ Q' q; cases b <;> first | exact wpAny_pure q | exact wpAny_rule q
      · first | (split <;> first | exact f1 | exact SetTable.fits_plain_off f1) | exact f1
      · first | (split <;> exact r1) | exact r1
      · first | (split <;> exact led1) | exact led1
      · intro h' sb r; dsimp only; exact wpAny_pure (fin h' sb r)
    · refine wpAny_bind (wpAny_pure ?_)
      simp only [↓reduceIte]
      refine put_tail ?_ ho hex hd g1 pm1 nd1 b1 f1 r1 led1 ?_
      · intro b s₁ Q' q; cases b <;> first | exact wpAny_pure q | exact wpAny_rule q
      · intro h' sb r; dsimp only; exact wpAny_pure (fin h' sb r)
end

section
variable {P : Program} {w : World} {A : Around}
theorem update_strs {I : Addr} {fp wr : List Addr} {G : Array GenState → Array GenState → Prop} {n : Nat} {Pv : Nat → Value → Prop} {St : Nat → Shared → Prop} {R : Result → Shared → Prop}
    (W : WalksS P w A.in1 I fp wr G n Pv St) (S : Addr) (hSf : S ∉ fp) (xs : List Str) (hn : n = xs.length) (few : xs.length + 1 < scanBound) (val : ∀ i v, Pv i v → ∃ x tk, xs[i]? = some x ∧ v = .str x tk) :
    ∀ (k i : Nat) (s : Shared), n - i = k → i ≤ n → St i s → SetS w s.heap S (dd (xs.take i)) →
      (∀ s', Moved (S :: wr) G s s' → SetS w s'.heap S (dd xs) → R (.ok (.ret .none)) s') → codeAny (model P w) A (.builtin "set.update.loop" ⟨[.ref S, .ref I], []⟩) R s := by
  have nw : S ∉ wr := fun z => hSf (W.sub _ z)
  have more : ∀ b ∈ wr, b ∈ S :: wr := fun b hb => List.mem_cons_of_mem _ hb
  intro k
  induction k with
  | zero =>
    intro i s e1 e2 st hS hR
    obtain rfl : i = n := by omega
    refine codeAny_builtin F.entry_set_update_loop ?_
    rw [Around.under_plainId F.plain_set_update_loop _]
    show wpAny _ A.in1 (pyNext (.ref I) >>= _) _ _ s
    refine wpAny_bind (W.done s _ _ st fun s' mv => ?_)
    have hS' := hS.at (h' := s'.heap) fun o e => mv.heap S o nw e
    rw [hn, List.take_length] at hS'
    exact wpAny_pure (hR s' (mv.mono more) hS')
  | succ k ih =>
    intro i s e1 e2 st hS hR
    have lt : i < n := by omega
    refine codeAny_builtin F.entry_set_update_loop ?_
    rw [Around.under_plainId F.plain_set_update_loop _]
    show wpAny _ A.in1 (pyNext (.ref I) >>= _) _ _ s
    refine wpAny_bind (W.item i s _ _ lt st fun v s' hP st' mv => ?_)
    obtain ⟨x, tk, hx, rfl⟩ := val i v hP
    have hS' := hS.at (h' := s'.heap) fun o e => mv.heap S o nw e
    show wpAny _ A.in1 (holding [Value.str x tk] (setAdd S (.str x tk)) >>= _) _ _ s'
    refine wpAny_bind (wpAny_holding ?_)
    unfold setAdd
    refine wpAny_holding (wpAny_bind ((PySem.strKind P w).pyHash (k := x) (strKind_is P w x tk) ?_))
    have room : (dd (xs.take i)).length + 1 < scanBound := by
      have h1 := dd_len (xs.take i)
      rw [List.length_take] at h1
      omega
    refine put_hashed (s := { s' with toks := s'.toks + 1 }) hS' room fun h' b sb hS2 => ?_
    have e3 : dd (xs.take (i + 1)) = once (dd (xs.take i)) x := by
      unfold dd
      rw [List.take_add_one, hx, List.foldl_append]
      rfl
    rw [← e3] at hS2
    refine wpAny_pure ⟨plainId_quiet F.plain_set_update_loop _, ih (i + 1) _ (by omega) lt (W.frame _ s' _ _ st' (Nat.le_succ _) fun c hc o e => ?_) hS2 fun s'' mv2 hS3 => ?_⟩
    · exact (sb.2 c fun z => hSf (z ▸ hc)).trans e
    · refine hR s'' (Moved.trans W.gtrans ((mv.mono more).then_heap (Nat.le_succ _) fun c o hc e => ?_) mv2) hS3
      exact (sb.2 c fun z => hc (z ▸ List.mem_cons_self)).trans e
end

section
variable {P : Program} {w : World} {A : Around} {E : Value → Shared → Prop} {s : Shared}
abbrev setObj0 (w : World) : Obj := { cls := .type "set", dict := none, data := .set #[] 0 (.fresh 0 0 (!w.params.followText "set-order")) }
theorem setS_fresh {h : Heap} {a : Addr} (e : h.get? a = some (setObj0 w)) : SetS w h a [] := by
  refine ⟨_, #[], 0, _, e, ⟨rfl, rfl, rfl⟩, rfl, fun e he => by simp at he, by simp, List.nodup_nil, by decide, by rfl, List.Pairwise.nil, ?_⟩
  show _ ∨ (!w.params.followText "set-order") = true
  cases w.params.followText "set-order"
  · exact .inr rfl
  · exact .inl rfl
set_option maxHeartbeats 3200000 in
/-- set(l), l a list of the texts xs -/
theorem call_set_strs {l : Addr} {items : Array Value} (xs : List Str) {Q : Value → Shared → Prop} (hh : A.handled = none) (hl : s.heap.IsList l items) (hv : ∀ (i : Nat) (v : Value), items[i]? = some v → ∃ x tk, xs[i]? = some x ∧ v = Value.str x tk) (hz : items.size = xs.length) (few : xs.length + 1 < scanBound)
    (h : ∀ (h' : Heap) (tk : Nat), SetS w h' s.heap.objs.size (dd xs) → (∀ b o, s.heap.get? b = some o → h'.get? b = some o) → Q (.ref s.heap.objs.size) { s with heap := h', toks := tk }) :
    wpAny (model P w) A (call (.type "set") [.ref l]) Q E s := by
  obtain ⟨c, tl, hmro⟩ := F.called_set.mro
  have hmade := F.called_set.made
  have hsub := F.called_set.sub
  refine wpAny_call (codeAny_of_tree ?_)
  show wpAny _ _ (callAny (.type "set") _) _ _ _
  refine wpAny_pure ⟨Code.quiet_builtin _ (by decide +kernel), codeAny_builtin F.entry_type_call ?_⟩
  rw [Around.under_plain (weight_type_call_type "set" [.ref l] []) rfl]
  have h1 := F.called_set.notType
  have h2 := F.called_set.canCreate
  have hct := F.typeCall_set_1 (.ref l)
  repeat (any_goals (first | assumption | wp_step))
  refine codeAny_mono (code_set_led1 (.ref l) (E := E) (Q₁ := fun obj s₁ => obj = .ref s.heap.objs.size ∧ s₁ = { s with heap := s.heap.push (setObj0 w) }) ⟨rfl, rfl⟩) fun r s₁ hr => ?_
  cases r with
  | error e => exact hr
  | ok fl =>
    cases fl with
    | ret obj =>
      obtain ⟨rfl, rfl⟩ := hr
      have hS : (s.heap.push (setObj0 w)).get? s.heap.objs.size = some (setObj0 w) := Heap.get?_push_size _ rfl
      have hT : Shared.TypeIs { s with heap := s.heap.push (setObj0 w) } (.ref s.heap.objs.size) "set" := ⟨_, hS, rfl⟩
      have hli := F.called_set.init.lookup
      have hbi := F.called_set.init.bind (.ref s.heap.objs.size)
      repeat (any_goals (first | assumption | wp_step))
      refine codeAny_mono (codeAny_call_builtin (R := wants (fun r s₂ => r = .none ∧ ∃ h' tk, s₂ = { s with heap := h', toks := tk } ∧ SetS w h' s.heap.objs.size (dd xs) ∧
          (∀ b o, s.heap.get? b = some o → h'.get? b = some o)) E) F.called_set.init.plain F.entry_set_init (check_set_init_1 hT ?_)) fun r₂ s₂ hr₂ => ?_
      · obtain ⟨ol, hol, hcl, nl, hdl⟩ := hl
        obtain ⟨ocls, odict, odata, oslots⟩ := ol
        simp only at hcl hdl
        subst hcl; subst hdl
        have hol' : (s.heap.push (setObj0 w)).get? l = some { cls := .type "list", dict := odict, data := .seq items nl, slots := oslots } := Heap.get?_push_of_some _ hol
        have hsls := F.sub_list_set
        have hslf := F.sub_list_frozenset
        have hne : (Value.type "list" == Value.type "dict") = false := by decide
        have hl1 : (s.heap.push (setObj0 w)).IsList l items := ⟨_, hol', rfl, nl, rfl⟩
        unfold Builtin.«set.__init__» noKeywords Builtin.Frozenset.updateFrom
        generalize hPI : pyIter = PI
        wp_walk
        subst hPI
        refine wpAny_pyIter_list hl1 ?_
        refine wpAny_bind (wpAny_runValue ?_)
        have hlS : l < s.heap.objs.size := Heap.lt_size hol
        have hh3 : A.in1.in1.in1.handled = none := by simp [hh]
        have sz1 : (s.heap.push (setObj0 w)).objs.size = s.heap.objs.size + 1 := Heap.size_push ..
        have hneI : l ≠ (s.heap.push (setObj0 w)).objs.size := by
          rw [sz1]; exact Nat.ne_of_lt (Nat.lt_succ_of_lt hlS)
        have hSf : s.heap.objs.size ∉ [(s.heap.push (setObj0 w)).objs.size, l] := by
          rw [sz1]; simp only [List.mem_cons, List.mem_singleton, List.not_mem_nil, or_false, not_or]
          exact ⟨Nat.ne_of_lt (Nat.lt_succ_self _), Nat.ne_of_gt hlS⟩
        refine update_strs ((Walks.list hh3 _ l hneI items).toS) s.heap.objs.size hSf xs hz few hv (items.size - 0) 0 _ (by omega) (Nat.zero_le _)
          ⟨⟨_, Heap.get?_push_size _ rfl, rfl, rfl⟩, (hl1.push _)⟩ ?hS0 ?hR
        case hS0 =>
          rw [List.take_zero]
          exact setS_fresh (Heap.get?_push_of_some _ hS)
        case hR =>
          intro s' hm hS'
          obtain ⟨h', g', d', tk', os'⟩ := s'
          have eg : g' = s.gens := hm.gens
          have ed : d' = s.drawn := hm.drawn
          have eo : os' = s.os := hm.os
          subst eg; subst ed; subst eo
          show wpAny _ _ _ _ _ _
          refine wpAny_pure ?_
          show wpAny _ _ (ret Value.none) _ _ _
          refine wpAny_pure ⟨rfl, h', tk', rfl, hS', fun b o e => ?_⟩
          have lt := Heap.lt_size e
          refine hm.heap b o ?_ (Heap.get?_push_of_some _ (Heap.get?_push_of_some _ e))
          simp only [List.mem_cons, List.mem_singleton, List.not_mem_nil, or_false, not_or]
          exact ⟨Nat.ne_of_lt lt, by rw [sz1]; exact Nat.ne_of_lt (Nat.lt_succ_of_lt lt)⟩
      · cases r₂ with
        | error e => exact hr₂
        | ok fl₂ =>
          cases fl₂ with
          | ret r =>
            obtain ⟨rfl, h', tk, rfl, hS', hk'⟩ := hr₂
            repeat (any_goals (first | assumption | wp_step))
            exact h _ _ hS' hk'
          | _ => exact hr₂.elim
    | _ => exact hr.elim
end
end Sx
end
section
set_option maxHeartbeats 4000000
/-! sorted(..) of lists of data, of sets of texts. -/
namespace Srx
open PySem PySem.Spec PyProof.Rows L2 Sx
open PySem.W (dataLe dataLt alike AllAlike EachIs)

/-! ### texts in order -/
def leS (a b : Str) : Bool := dataLe false (fun x : Str => PyData.str x) a b
theorem leS_iff {a b : Str} : leS a b = true ↔ a.cps.toList ≤ b.cps.toList := by
  unfold leS
  rw [PySem.W.dataLe_str (fun x : Str => x)]
  exact decide_eq_true_iff
theorem leS_total (a b : Str) : leS a b = true ∨ leS b a = true := by
  rw [leS_iff, leS_iff]
  exact List.le_total _ _
theorem leS_trans {a b c : Str} (h1 : leS a b = true) (h2 : leS b c = true) : leS a c = true := by
  rw [leS_iff] at *
  exact List.le_trans h1 h2
theorem leS_anti {a b : Str} (h1 : leS a b = true) (h2 : leS b a = true) : a = b := by
  rw [leS_iff] at *
  exact PySem.W.str_of_cps (List.le_antisymm h1 h2)
def srt (xs : List Str) : List Str := xs.mergeSort leS
theorem srt_perm (xs : List Str) : (srt xs).Perm xs := List.mergeSort_perm _ _
theorem leS_or (a b : Str) : (leS a b || leS b a) = true := by
  rw [Bool.or_eq_true]
  exact leS_total a b
theorem srt_sorted (xs : List Str) : (srt xs).Pairwise (fun a b => leS a b = true) :=
  List.pairwise_mergeSort (le := leS) (fun _ _ _ h1 h2 => leS_trans h1 h2) leS_or xs
theorem sorted_one {xs ys : List Str} (p : xs.Perm ys) (h1 : xs.Pairwise (fun a b => leS a b = true)) (h2 : ys.Pairwise (fun a b => leS a b = true)) : xs = ys :=
  List.Perm.eq_of_pairwise (fun a b _ _ z1 z2 => leS_anti z1 z2) h1 h2 p
theorem srt_eq {xs ys : List Str} (p : xs.Perm ys) : srt xs = srt ys := sorted_one ((srt_perm xs).trans (p.trans (srt_perm ys).symm)) (srt_sorted xs) (srt_sorted ys)
theorem srt_len (xs : List Str) : (srt xs).length = xs.length := (srt_perm xs).length_eq
theorem srt_mem {xs : List Str} {x : Str} : x ∈ srt xs ↔ x ∈ xs := (srt_perm xs).mem_iff
theorem srt_id {xs : List Str} (h : xs.Pairwise (fun a b => leS a b = true)) : srt xs = xs := sorted_one (srt_perm xs) (srt_sorted xs) h

/-! ### sorted(list) -/
/-- data that Python orders -/
structure Ord {γ : Type} (enc : γ → PyData) : Prop where
  alike : ∀ x y, PySem.W.alike (enc x) (enc y) = true
  kind : (∀ x, ∃ d r, enc x = .tuple (d :: r)) ∨ ∀ x, enc x ≠ .none ∧ ∀ ds, enc x ≠ .tuple ds
  depth : ∀ x, (enc x).depth ≤ 60
theorem Ord.strs : Ord (fun x : Str => PyData.str x) := ⟨fun _ _ => by simp [PySem.W.alike], .inr fun _ => ⟨by simp, by simp⟩, fun _ => by simp [PyData.depth]⟩
theorem Ord.comap {γ δ : Type} {enc : γ → PyData} (o : Ord enc) (f : δ → γ) : Ord fun x => enc (f x) := ⟨fun _ _ => o.alike _ _, o.kind.imp (fun h x => h _) fun h x => h _, fun _ => o.depth _⟩
theorem Ord.sortable {γ : Type} {enc : γ → PyData} (o : Ord enc) (bs : List γ) : PySem.W.Sortable (bs.map enc) := by
  rcases o.kind with h | h
  · exact PySem.W.Sortable.tuples h
  · exact PySem.W.Sortable.others h
theorem each_vals {γ : Type} : ∀ {bs : List (V × γ)} {us : List Value}, Vals (bs.map (·.1)) us → EachIs (fun u b => RelV b.1 u) us bs
  | [], _, .nil => .nil
  | b :: bs, _, .cons r t => .cons r (each_vals t)
theorem vals_each {γ : Type} : ∀ {bs : List (V × γ)} {us : List Value}, EachIs (fun u b => RelV b.1 u) us bs → Vals (bs.map (·.1)) us
  | [], _, .nil => .nil
  | b :: bs, _, .cons r t => .cons r (vals_each t)
theorem each_mem {α β : Type} {R S : α → β → Prop} : ∀ {as : List α} {bs : List β}, EachIs R as bs → (∀ a b, b ∈ bs → R a b → S a b) → EachIs S as bs
  | _, _, .nil, _ => .nil
  | _, _, .cons r t, h => .cons (h _ _ List.mem_cons_self r) (each_mem t fun a b hb => h a b (List.mem_cons_of_mem _ hb))
def rSortedD {γ : Type} (K : PySem.W.Frag) (enc : γ → PyData) : List V → Hp → VK → Prop := fun vs H Q => ∃ (a : Addr) (bs : List (V × γ)), vs = [V.ref a] ∧ SqL K H a (bs.map (·.1)) ∧ (∀ b ∈ bs, Dp K H b.1 (enc b.2)) ∧
  ∀ p, H p = none → Q (.ref p) (upd H p (.lst ((bs.mergeSort (dataLe false fun b => enc b.2)).map (·.1))))
section
variable {X : Cx}
theorem cr_sortedD {γ : Type} {enc : γ → PyData} (o : Ord enc) (hu : X.A.units + 64 < cLine) : CallR X (.builtin "sorted") (rSortedD X.K enc) := by
  intro pins s σ H vs us Q I r h
  obtain ⟨a, bs, rfl, hs, hd, q⟩ := h
  obtain ⟨its, rv, hl, hz⟩ := I.list hs
  rw [Vals.ref1 r]
  have e := each_vals rv
  have er : EachIs (fun u b => ∃ as, PySem.Reads s.heap u (enc b.2) as) its bs := each_mem e fun u b hb rb => Dp.reads I _ b.1 u (hd b hb) rb
  have hbz : bs.length ≤ sizeLine := by simpa using hz
  refine PySem.W.sorted_data (R := fun u b => RelV b.1 u) (enc := fun b : V × γ => enc b.2) hl.isList e er (PySem.W.AllAlike.of fun x y => o.alike _ _) ((o.comap Prod.snd).sortable bs) hbz (fun b _ => by have := o.depth b.2; omega) fun out ho hout => ?_
  obtain ⟨ep, he⟩ := PyProof.Rows.sortedAll_at s.heap its out.toArray
  refine ⟨.ref (s.heap.objs.size + 1), upd H (s.heap.objs.size + 1) (.lst ((bs.mergeSort (dataLe false fun b => enc b.2)).map (·.1))), I.laid (t' := s.toks) (fun _ _ => PyProof.Rows.sortedAll_old) (Nat.le_succ _) ⟨?_, out, ep, vals_each hout, he⟩, rfl, q _ (I.hok.fresh (Nat.le_succ _))⟩
  rw [List.length_map, List.length_mergeSort]
  exact hbz
/-- sorted(xs), texts -/
theorem sortedS_texts {K : PySem.W.Frag} {H : Hp} {a : Addr} {xs : List Str} {Q : VK} (hs : SqL K H a (xs.map V.str)) (q : ∀ p, H p = none → Q (.ref p) (upd H p (.lst ((srt xs).map V.str)))) : rSortedD K (fun x : Str => PyData.str x) [V.ref a] H Q := by
  refine ⟨a, xs.map fun x => (V.str x, x), rfl, ?_, ?_, fun p hp => ?_⟩
  · rw [List.map_map]; exact hs
  · intro b hb
    obtain ⟨x, _, rfl⟩ := List.mem_map.mp hb
    exact .str x
  · have e : ((xs.map fun x => (V.str x, x)).mergeSort (dataLe false fun b => PyData.str b.2)).map (·.1) = (srt xs).map V.str := by
      have e2 : (xs.map fun x => (V.str x, x)).mergeSort (dataLe false fun b => PyData.str b.2) = (srt xs).map fun x => (V.str x, x) := by
        unfold srt
        rw [List.map_mergeSort]
        intro a _ b _
        rfl
      rw [e2, List.map_map]
      rfl
    rw [e]
    exact q p hp

/-! ### sets of texts -/
def SetTx (w : World) (a : Addr) (ks : List Str) : HO := .ext fun h => SetS w h a ks
theorem setTx_new {w : World} {P : Program} {H : Hp} {h : Heap} {a : Addr} {ks : List Str} (R : SetS w h a ks) : ObjOk P w H h a (SetTx w a ks) := by
  have ⟨o, es, ep, t, ho, r⟩ := R
  exact ⟨R, ⟨o, ho⟩, fun h1 h2 p k => p.at k⟩
theorem setTx_get {pins : List (Addr × Obj)} {σ : L2.St} {H : Hp} {s : Shared} {a : Addr} {ks : List Str} (I : Inv X pins σ H s) (ha : H a = some (SetTx X.w a ks)) : SetS X.w s.heap a ks := (I.hok a _ ha).1
def rSetTx (K : PySem.W.Frag) (w : World) : List V → Hp → VK → Prop := fun vs H Q => ∃ (l : Addr) (xs : List Str), vs = [V.ref l] ∧ SqL K H l (xs.map V.str) ∧ xs.length ≤ 1000 ∧ ∀ p, H p = none → Q (.ref p) (upd H p (SetTx w p (dd xs)))
theorem cr_setTx (hc : X.calm = true) : CallR X (.type "set") (rSetTx X.K X.w) := by
  intro pins s σ H vs us Q I r h
  obtain ⟨l, xs, rfl, hs, few, q⟩ := h
  rw [Vals.ref1 r]
  obtain ⟨its, rv, pl, hz⟩ := I.list hs
  have hlen : its.toArray.size = xs.length := by rw [List.size_toArray, ← rv.length, List.length_map]
  have hv : ∀ (i : Nat) (v : Value), its.toArray[i]? = some v → ∃ x tk, xs[i]? = some x ∧ v = Value.str x tk := by
    intro i v e
    have e : its[i]? = some v := by simpa using e
    have lt : i < xs.length := by
      have := (List.getElem?_eq_some_iff.mp e).1
      have h2 := rv.length
      rw [List.length_map] at h2
      omega
    have g : (xs.map V.str)[i]? = some (.str xs[i]) := by rw [List.getElem?_map, List.getElem?_eq_getElem lt]; rfl
    obtain ⟨u, e2, tk, e3⟩ := rv.get g
    rw [e] at e2
    cases e2
    exact ⟨xs[i], tk, List.getElem?_eq_getElem lt, e3⟩
  refine call_set_strs (P := X.prog) (w := X.w) xs (I.ok.hd hc) pl.isList hv hlen (by unfold scanBound; omega) fun h' tk R k => ?_
  exact ⟨.ref s.heap.objs.size, upd H s.heap.objs.size (SetTx X.w s.heap.objs.size (dd xs)), I.laid (t' := tk) k (Nat.le_refl _) (setTx_new R), rfl, q _ (I.hok.fresh (Nat.le_refl _))⟩
def rSortedTx (w : World) : List V → Hp → VK → Prop := fun vs H Q => ∃ (a : Addr) (ks : List Str), vs = [V.ref a] ∧ H a = some (SetTx w a ks) ∧ ∀ p, H p = none → Q (.ref p) (upd H p (.lst ((srt ks).map V.str)))
theorem strs_out : ∀ {us : List Value} {xs : List Str}, EachIs (fun u x => ∃ tk, u = Value.str x tk) us xs → Vals (xs.map V.str) us
  | _, _, .nil => .nil
  | _, _, .cons r t => .cons r (strs_out t)
theorem cr_sortedTx (hc : X.calm = true) (hu : X.A.units + 64 < cLine) : CallR X (.builtin "sorted") (rSortedTx X.w) := by
  intro pins s σ H vs us Q I r h
  obtain ⟨a, ks, rfl, ha, q⟩ := h
  rw [Vals.ref1 r]
  obtain ⟨o, es, ep, t, ho, hex, hd, g, pm0, nd, hb, hf, hr, hl⟩ := setTx_get I ha
  refine Calls.call_function_entry kind_sorted plain_sorted entry_sorted (args_sorted1 _) ?_
  unfold Builtin.«sorted»
  refine wpAny_bind (m := checkCount "sorted" 1 1 _) (wpAny_pure ?_)
  refine wpAny_bind (collect_set (A := X.A.in1) (I.ok.hd hc) ⟨o, ho, hex.1, hd⟩ hf hb hr hl fun s1 zs k1 hz g1 o1 pm => ?_)
  have hS : ∀ z ∈ zs, ∃ x tk, z = Value.str x tk := by
    intro z hz
    obtain ⟨e, he, q⟩ := List.mem_map.mp (pm.mem_iff.mp hz)
    obtain ⟨x, tk, h1, _⟩ := (g e he).str
    exact ⟨x, tk, by rw [← q]; exact h1⟩
  have gen : ∀ l : List Value, (∀ z ∈ l, ∃ x tk, z = Value.str x tk) → EachIs (fun u x => ∃ tk, u = Value.str x tk) l (l.map kS) := by
    intro l
    induction l with
    | nil => intro _; exact .nil
    | cons z l ih =>
      intro h
      obtain ⟨x, tk, rfl⟩ := h z List.mem_cons_self
      exact .cons ⟨tk, rfl⟩ (ih fun y hy => h y (List.mem_cons_of_mem _ hy))
  have e := gen zs hS
  have hzl : zs.length < 5000 := by
    rw [pm.length_eq, List.length_map, Array.length_toList]
    unfold scanBound at hb
    omega
  have hzs : zs.length ≤ sizeLine := by rw [sizeLine_eq]; omega
  refine wpAny_bind (wpAny_newList ?_ hzs)
  have hoL : (s1.heap.push (seqObj "list" zs.toArray 0)).get? s1.heap.objs.size = some (seqObj "list" zs.toArray 0) := Heap.get?_push_size _ rfl
  have er : EachIs (fun u x => ∃ as, PySem.Reads (s1.heap.push (seqObj "list" zs.toArray 0)) u (PyData.str x) as ∧ s1.heap.objs.size ∉ as) zs (zs.map kS) := e.mono fun u x ⟨tk, h⟩ => ⟨[], by rw [h]; exact .str x tk, by simp⟩
  refine wpAny_bind (wpAny_holding (PySem.W.list_sort_data (s := { s1 with heap := s1.heap.push (seqObj "list" zs.toArray 0) }) (R := fun u x => ∃ tk, u = Value.str x tk) (enc := fun x : Str => PyData.str x) hoL e er (PySem.W.AllAlike.of fun x y => Ord.strs.alike _ _) (Ord.strs.sortable _) (by rw [List.length_map]; exact hzs) (fun x _ => by have := Ord.strs.depth x; show X.A.units + 1 + 1 + _ < _; omega) fun out hlen hout => ?_))
  obtain ⟨c2, hc2⟩ := sortedHeap_at (vs := zs) (out := out.toArray) hoL
  have hE : (zs.map kS).mergeSort (dataLe false fun x : Str => PyData.str x) = srt ks := by
    show srt (zs.map kS) = srt ks
    refine srt_eq ?_
    have p2 := pm.map kS
    rw [List.map_map] at p2
    exact p2.trans pm0
  rw [hE] at hout
  have hn : H s1.heap.objs.size = none := I.hok.fresh hz
  have hlen2 : ((srt ks).map V.str).length ≤ sizeLine := by
    have h1 := hout.length
    rw [List.length_map] at hlen ⊢
    omega
  have keep : ∀ b u, s.heap.get? b = some u → (sortedHeap (s1.heap.push (seqObj "list" zs.toArray 0)) s1.heap.objs.size zs out.toArray).get? b = some u := by
    intro b u e
    have q1 := k1 b u e
    have lt := Heap.lt_size q1
    rw [sortedHeap_old (Nat.ne_of_lt lt) (by rw [size_push']; exact Nat.lt_succ_of_lt lt)]
    exact Heap.get?_push_of_some _ q1
  refine wpAny_pure ⟨.ref s1.heap.objs.size, rfl, ?_⟩
  refine ⟨.ref s1.heap.objs.size, upd H s1.heap.objs.size (.lst ((srt ks).map V.str)), ?_, rfl, q _ hn⟩
  have J := I.call (g' := s1.gens) (t' := s1.toks) (d' := s1.drawn) (ch := []) (Un.laid (o := .lst ((srt ks).map V.str)) keep hz hn) (I.hok.laid keep hz ⟨hlen2, out, c2, strs_out hout, hc2⟩) (by rw [g1]; exact I.bare) (fun _ z => nomatch z)
  rw [← o1] at J
  exact J
end
end Srx
end
section
set_option maxHeartbeats 4000000
/-! heaps that grow: all stands, but that the defs' tables of code may have grown -/
namespace Gr
open PySem PySem.Spec PyProof.Rows L2 GxR
def NoTbl (o : HO) : Prop := ∀ ps, o ≠ .tbl ps
/-- H' holds what H holds; tables may have grown -/
structure Gr (H H' : Hp) : Prop where
  at_ : ∀ b o, H b = some o → NoTbl o → H' b = some o
  tab : ∀ b ps, H b = some (.tbl ps) → ∃ ps', H' b = some (.tbl ps') ∧ (TriplesOk ps.toList → TriplesOk ps'.toList)
theorem Gr.refl (H : Hp) : Gr H H := ⟨fun _ _ e _ => e, fun _ ps e => ⟨ps, e, fun h => h⟩⟩
theorem Gr.trans {H H1 H2 : Hp} (a : Gr H H1) (b : Gr H1 H2) : Gr H H2 :=
  ⟨fun c o e n => b.at_ c o (a.at_ c o e n) n, fun c ps e => by
    obtain ⟨p1, e1, k1⟩ := a.tab c ps e
    obtain ⟨p2, e2, k2⟩ := b.tab c p1 e1
    exact ⟨p2, e2, fun h => k2 (k1 h)⟩⟩
theorem notbl_lst {xs : List V} : NoTbl (.lst xs) := fun _ e => nomatch e
theorem notbl_tup {xs : List V} : NoTbl (.tup xs) := fun _ e => nomatch e
theorem notbl_frz {o : Obj} {u : HO} : NoTbl (.frz o u) := fun _ e => nomatch e
theorem Gr.lst {H H' : Hp} (g : Gr H H') {a : Addr} {xs : List V} (e : H a = some (.lst xs)) : H' a = some (.lst xs) := g.at_ a _ e notbl_lst
theorem Gr.tup {H H' : Hp} (g : Gr H H') {a : Addr} {xs : List V} (e : H a = some (.tup xs)) : H' a = some (.tup xs) := g.at_ a _ e notbl_tup
theorem Gr.seq {K : PySem.W.Frag} {H H' : Hp} {a : Addr} {xs : List V} (g : Gr H H') (h : SqL K H a xs) : SqL K H' a xs := by
  rcases h with (h | ⟨o, h⟩) | h
  · exact .inl (.inl (g.lst h))
  · exact .inl (.inr ⟨o, g.at_ _ _ h notbl_frz⟩)
  · exact .inr h
theorem Gr.seqT {K : PySem.W.Frag} {H H' : Hp} {a : Addr} {xs : List V} (g : Gr H H') (h : SqT K H a xs) : SqT K H' a xs := by
  rcases h with (h | ⟨o, h⟩) | h
  · exact .inl (.inl (g.tup h))
  · exact .inl (.inr ⟨o, g.at_ _ _ h notbl_frz⟩)
  · exact .inr h
theorem Gr.some {H H' : Hp} (g : Gr H H') {b : Addr} {o : HO} (e : H b = some o) : ∃ o', H' b = some o' := by
  by_cases h : ∃ ps, o = .tbl ps
  · obtain ⟨ps, rfl⟩ := h
    obtain ⟨p1, e1, _⟩ := g.tab b ps e
    exact ⟨_, e1⟩
  · exact ⟨o, g.at_ b o e fun ps z => h ⟨ps, z⟩⟩
theorem Gr.free {H H' : Hp} (g : Gr H H') {b : Addr} (e : H' b = none) : H b = none := by
  cases q : H b with
  | none => rfl
  | some o =>
    obtain ⟨o', z⟩ := g.some q
    rw [e] at z
    cases z
theorem Gr.new {H : Hp} {p : Addr} {o : HO} (h : H p = none) : Gr H (upd H p o) :=
  ⟨fun b u e _ => by rw [upd_ne (ne_of_none e h)]; exact e, fun b ps e => ⟨ps, by rw [upd_ne (ne_of_none e h)]; exact e, fun h => h⟩⟩
/-- what is younger may change -/
theorem Gr.mut {H H' : Hp} {p : Addr} {o : HO} (g : Gr H H') (h : H p = none) : Gr H (upd H' p o) :=
  ⟨fun b u e n => by rw [upd_ne (ne_of_none e h)]; exact g.at_ b u e n, fun b ps e => by
    obtain ⟨p1, e1, k1⟩ := g.tab b ps e
    exact ⟨p1, by rw [upd_ne (ne_of_none e h)]; exact e1, k1⟩⟩
theorem Gr.same {H H' : Hp} (s : Same H H') : Gr H H' := ⟨fun b o e _ => s b o e, fun b ps e => ⟨ps, s _ _ e, fun h => h⟩⟩
theorem Gr.tabbed {H H' : Hp} {P : Addr} (hP : TabG H P) (t : Tabbed P H H') : Gr H H' := by
  obtain ⟨ps, e0, _⟩ := hP
  obtain ⟨⟨ps', e1, k1⟩, rest⟩ := t
  refine ⟨fun b o e n => ?_, fun b qs e => ?_⟩
  · have hb : b ≠ P := by
      intro z
      rw [z, e0] at e
      exact n ps (Option.some.inj e).symm
    rw [rest b hb]; exact e
  · by_cases hb : b = P
    · subst hb
      exact ⟨ps', e1, fun _ => k1⟩
    · exact ⟨qs, by rw [rest b hb]; exact e, fun h => h⟩
theorem Gr.tabG {H H' : Hp} (g : Gr H H') {P : Addr} (h : TabG H P) : TabG H' P := by
  obtain ⟨ps, e, k⟩ := h
  obtain ⟨p1, e1, k1⟩ := g.tab P ps e
  exact ⟨p1, e1, k1 k⟩
mutual
theorem dp_gr {K : PySem.W.Frag} {H H' : Hp} (g : Gr H H') : ∀ (d : PyData) (v : V), Dp K H v d → Dp K H' v d
  | .none, v, h => by cases h; exact .non
  | .bool b, v, h => by cases h; exact .bl b
  | .int i, v, h => by cases h; exact .int i
  | .str x, v, h => by cases h; exact .str x
  | .list ds, v, h => by
    cases h with
    | lst hs ha => exact .lst (g.seq hs) (dpAll_gr g ds _ ha)
  | .tuple ds, v, h => by
    cases h with
    | tup hs ha => exact .tup (g.seqT hs) (dpAll_gr g ds _ ha)
  | .dict _, v, h => by cases h
theorem dpAll_gr {K : PySem.W.Frag} {H H' : Hp} (g : Gr H H') : ∀ (ds : List PyData) (vs : List V), DpAll K H vs ds → DpAll K H' vs ds
  | [], vs, h => by cases h; exact .nil
  | d :: ds, vs, h => by
    cases h with
    | cons h1 h2 => exact .cons (dp_gr g d _ h1) (dpAll_gr g ds _ h2)
end
theorem Gr.dp {K : PySem.W.Frag} {H H' : Hp} (g : Gr H H') {d : PyData} {v : V} (h : Dp K H v d) : Dp K H' v d := dp_gr g d v h
end Gr
end
section
set_option maxHeartbeats 4000000
/-! any(..), all(..) of a generator expression over whatever PI walks; its element is read in a frame of its own and may call defs. -/
namespace Gx
open PySem PySem.Spec PyProof.Rows L2 GxR

section
variable {prog : Program} {w : World} {A : Around} {R : Result → Shared → Prop} {I : Addr}
/-- the turn of a quantifier's loop; stp: the truth that ends it -/
def Turned (R : Result → Shared → Prop) (stp : Bool) (W : Nat → Shared → Prop) (n : Nat) (r : Option Value) (s' : Shared) : Prop :=
  match r with
  | none => R (.ok (.ret (.bool (!stp)))) s'
  | some v => ∃ b, v = .bool b ∧ (b = stp → R (.ok (.ret (.bool stp))) s') ∧ (b ≠ stp → ∃ m, m < n ∧ W m s')
theorem loop_any (W : Nat → Shared → Prop) (step : ∀ n s, W n s → wpAny (model prog w) A.in1 (pyNext (.ref I)) (Turned R true W n) (fun _ _ => False) s) :
    ∀ n s, W n s → codeAny (model prog w) A (.builtin "any.loop" ⟨[.ref I], []⟩) R s := by
  intro n
  induction n using Nat.strongRecOn with
  | ind n ih =>
    intro s hW
    refine codeAny_builtin F.entry_any_loop ?_
    rw [Around.under_plainId F.plain_any_loop _]
    show wpAny _ A.in1 (pyNext (.ref I) >>= _) _ _ s
    refine wpAny_bind (wpAny_mono (step n s hW) (fun r s' hr => ?_) fun _ _ z => z.elim)
    cases r with
    | none => exact wpAny_bind (wpAny_rule (wpAny_pure hr))
    | some v =>
      obtain ⟨b, rfl, h1, h2⟩ := hr
      refine wpAny_bind (wpAny_holding (wpAny_truthy_bool ?_))
      refine wpAny_bind (wpAny_letGo ?_)
      cases b with
      | true => exact wpAny_bind (wpAny_rule (wpAny_pure (h1 rfl)))
      | false =>
        obtain ⟨m, hm, q⟩ := h2 Bool.false_ne_true
        exact wpAny_pure ⟨plainId_quiet F.plain_any_loop _, ih m hm _ q⟩
theorem loop_all (W : Nat → Shared → Prop) (step : ∀ n s, W n s → wpAny (model prog w) A.in1 (pyNext (.ref I)) (Turned R false W n) (fun _ _ => False) s) :
    ∀ n s, W n s → codeAny (model prog w) A (.builtin "all.loop" ⟨[.ref I], []⟩) R s := by
  intro n
  induction n using Nat.strongRecOn with
  | ind n ih =>
    intro s hW
    refine codeAny_builtin F.entry_all_loop ?_
    rw [Around.under_plainId F.plain_all_loop _]
    show wpAny _ A.in1 (pyNext (.ref I) >>= _) _ _ s
    refine wpAny_bind (wpAny_mono (step n s hW) (fun r s' hr => ?_) fun _ _ z => z.elim)
    cases r with
    | none => exact wpAny_bind (wpAny_rule (wpAny_pure hr))
    | some v =>
      obtain ⟨b, rfl, h1, h2⟩ := hr
      refine wpAny_bind (wpAny_holding (wpAny_truthy_bool ?_))
      refine wpAny_bind (wpAny_letGo ?_)
      cases b with
      | false => exact wpAny_bind (wpAny_rule (wpAny_pure (h1 rfl)))
      | true =>
        obtain ⟨m, hm, q⟩ := h2 (fun z => Bool.false_ne_true z.symm)
        exact wpAny_pure ⟨plainId_quiet F.plain_all_loop _, ih m hm _ q⟩
end

/-! ### the frame of the generator expression -/
abbrev gx (X : Cx) (Ag : Around) (s : Shared) (H : Hp) (cenv : Env) (fp : List Addr) (pn : List (Addr × Obj)) : Cx :=
  { X with A := Ag.deeper cenv, s_0 := s, H_0 := H, env := cenv, outer := X.stack, stack := cenv :: X.stack, ex := fp, fn := fun _ => false, pn := pn, xe := fun _ _ => False }
abbrev gEnv (scope : Scope) (X : Cx) (C : Addr) (code : Value) : Env := genEnv scope (cloFrom X.env.cells scope.names []) C code builtinsNs X.env
section
variable {X : Cx} {pins : List (Addr × Obj)} {σ : L2.St} {H : Hp} {s : Shared}
theorem gx_start {scope : Scope} {own : List (Str × Nat)} {fp : List Addr} {Ag : Around} {code : Value} {a : Addr} {go : Obj} {m0 : Str → Option Value} {h5 : Heap} {g5 : Array GenState} {t5 : Nat}
    (I : Inv X pins σ H s) (ok : BlkOk X.N X.env.scope scope own) (nocell : ∀ y ∈ scope.names, y.2 ≠ NameKind.cell) (hN : X.N.Nodup) (hAf : Ag.frames = X.A.frames) (hAh : Ag.handled = X.A.handled)
    (hfp : ∀ b ∈ fp, FpOk X pins H b ∧ b < s.heap.objs.size) (kp : ∀ b o, s.heap.get? b = some o → h5.get? b = some o) (hns : h5.Ns s.heap.objs.size m0) (hg : AllBare g5)
    (ha : h5.get? a = some go) (haz : s.heap.objs.size < a) (hgo : ∀ v, go.data ≠ .cell v) :
    Inv (gx X Ag s H (gEnv scope X s.heap.objs.size code) fp [(a, go)]) [] (wipe σ (own.map (·.2))) H { s with heap := h5, gens := g5, toks := t5 } := by
  have hfree : ∀ y ∈ scope.names, y.2 = .free → ∃ c, X.env.cells.lookup y.1 = some c := by
    intro y hy e
    rcases ok.free y hy e with k | k
    · exact I.ok.has _ (.inl k)
    · exact I.ok.has _ (.inr k)
  generalize hcenv : gEnv scope X s.heap.objs.size code = cenv
  have hL : cenv.locals = s.heap.objs.size := by subst hcenv; rfl
  have hcl : cenv.cells = cloFrom X.env.cells scope.names [] := by subst hcenv; rfl
  have hsc : cenv.scope = scope := by subst hcenv; rfl
  have mem : ∀ {y c}, cenv.cells.lookup y = some c → X.env.cells.lookup y = some c ∧ c < s.heap.objs.size := by
    intro y c e
    rw [hcl] at e
    rcases cloFrom_mem (PySem.mem_of_lookup e) with hm | ⟨h1, h2⟩
    · cases hm
    · subst h2
      obtain ⟨c', hc⟩ := hfree _ h1 rfl
      rw [hc]
      obtain ⟨v, z⟩ := I.cell _ _ hc
      exact ⟨rfl, z.lt⟩
  have look : ∀ {y}, scope.names.lookup y = some NameKind.free → ∃ c, cenv.cells.lookup y = some c ∧ X.env.cells.lookup y = some c := by
    intro y hl
    obtain ⟨c', e'⟩ := mem_lookup (cloFrom_has (cells := X.env.cells) (acc := []) (PySem.mem_of_lookup hl))
    rw [← hcl] at e'
    exact ⟨c', e', (mem e').1⟩
  have nokc : ∀ {y}, scope.names.lookup y ≠ some NameKind.cell := fun {y} e => nocell _ (PySem.mem_of_lookup e) rfl
  have okG : (gx X Ag s H cenv fp [(a, go)]).Ok := by
    refine ⟨I.ok.mod, ?_, ?_, ?_, ?_, ?_, ?_, fun _ _ z => (Bool.false_ne_true z).elim, ?_, ?_, .inr ⟨rfl, ?_⟩, ?_, I.bs, Nat.le_trans I.ok.bsz I.sz, ?_, ?_, I.stack, I.stkFree⟩
    · show cenv.scope.kind = _
      rw [hsc]; exact ok.kind
    · show cenv.globals = _
      subst hcenv; exact I.ok.glob
    · show cenv.builtins = _
      subst hcenv; rfl
    · show s.heap.objs.size ≤ cenv.locals
      rw [hL]; exact Nat.le_refl _
    · exact fun y z c e1 e2 => I.ok.inj y z c (mem e1).1 (mem e2).1
    · intro y hy
      have k : cenv.kindOf y = some .free := by
        rcases hy with k | k
        · have k2 : cenv.scope.names.lookup y = some .cell := k
          rw [hsc] at k2
          exact (nokc k2).elim
        · exact k
      have k2 : cenv.scope.names.lookup y = some .free := k
      rw [hsc] at k2
      obtain ⟨c, h1, _⟩ := look k2
      exact ⟨c, h1⟩
    · intro hc
      show Ag.handled = none
      rw [hAh]; exact I.ok.hd hc
    · show Ag.frames.map (cenv :: ·) = some (cenv :: X.stack)
      rw [hAf, I.ok.frames]; rfl
    · show cenv.frame = some cenv.locals
      subst hcenv; rfl
    · intro b hb
      refine ⟨?_, fun y c e z => (hfp b hb).1.2.2.2.2.1 y c (mem e).1 z⟩
      show b ≠ cenv.locals
      rw [hL]; exact Nat.ne_of_lt (hfp b hb).2
    · intro b o e hb
      rcases (hfp b hb).1.2.2.2.1 with z | z
      · exact I.ok.noex b o e z
      · exact absurd (Nat.lt_of_lt_of_le (Heap.lt_size e) (Nat.le_trans I.ok.bsz z)) (Nat.lt_irrefl _)
    · intro b hb z
      rcases List.mem_cons.mp (I.stkSub b z) with z | z
      · exact (hfp b hb).1.2.1 z
      · exact (hfp b hb).1.2.2.1 z
  refine ⟨okG, rfl, hg, Un.kept kp, ⟨m0, ?_, ?_⟩, ?_, ?_, fun y c e => I.freeC y c (mem e).1, ?_, I.hok.kept kp, by rw [wipe_length]; exact I.len⟩
  · show h5.Ns cenv.locals m0
    rw [hL]; exact hns
  · intro i y av e1 e2 e3
    obtain ⟨e2, hne⟩ := wipe_some e2
    have e3 : Vis cenv.scope y := e3
    rw [hsc] at e3
    have hfr : scope.names.lookup y = some .free := by
      have no : ∀ k', scope.names.lookup y = some k' → ¬ (k' = .local ∨ k' = .cell) := by
        intro k' e hh
        rcases ok.own _ (PySem.mem_of_lookup e) hh with e' | e'
        · obtain ⟨p, hp, hpy⟩ := List.mem_map.mp e'
          have e4 := ok.ix p hp
          have hpy : p.1 = y := hpy
          rw [hpy] at e4
          exact hne (List.mem_map.mpr ⟨p, hp, nodup_ix hN e4 e1⟩)
        · exact e' (List.mem_of_getElem? e1)
      rcases e3 with e3 | e3 | e3
      · exact (no _ e3 (.inl rfl)).elim
      · exact (no _ e3 (.inr rfl)).elim
      · exact e3
    have hkf : cenv.kindOf y = some .free := by
      show cenv.scope.names.lookup y = _
      rw [hsc]; exact hfr
    obtain ⟨m, hn, hl⟩ := I.loc
    have hvis : Vis X.env.scope y := (ok.free _ (PySem.mem_of_lookup hfr) rfl).elim (fun k => .inr (.inl k)) fun k => .inr (.inr k)
    obtain ⟨u, r, q⟩ := hl i y av e1 e2 hvis
    refine ⟨u, r, .inr ⟨.inr hkf, ?_⟩⟩
    obtain ⟨c, h1, h2⟩ := look hfr
    rcases q with ⟨k, _⟩ | ⟨_, c', e', z⟩
    · have k : X.env.scope.names.lookup y = some .local := k
      rcases ok.free _ (PySem.mem_of_lookup hfr) rfl with k' | k'
      · exact absurd (k.symm.trans k') (by simp)
      · exact absurd (k.symm.trans k') (by simp)
    · rw [h2] at e'; cases e'
      exact ⟨c, h1, z.keeps kp⟩
  · intro y c e
    obtain ⟨v, z⟩ := I.cell y c (mem e).1
    exact ⟨v, z.keeps kp⟩
  · show H cenv.locals = none
    rw [hL]; exact I.hok.fresh (Nat.le_refl _)
  · intro p hp
    have e : p = (a, go) := by simpa using hp
    subst e
    have hn : H a = none := I.hok.fresh (Nat.le_of_lt haz)
    refine ⟨ha, hn, ?_, ?_, hgo⟩
    · show a ≠ cenv.locals
      rw [hL]; exact Nat.ne_of_gt haz
    · intro hb
      have hb : a ∈ frs X.stack := hb
      rcases List.mem_cons.mp (I.stkSub a hb) with z | z
      · have h1 := I.lt
        rw [← z] at h1
        exact absurd (Nat.lt_trans haz h1) (Nat.lt_irrefl _)
      · exact I.nofs (Nat.le_of_lt haz) z
end
/-! ### the reading -/
/-- any (stp = true), all (stp = false) of elt for tg in iter if ..: W by the turn and a measure; behind it the def's table may have grown -/
def tGx (P : Addr) (stp : Bool) (wi : TI) (g : TG) (tt : TT) (te : TE) (vs : List Nat) : TE := fun σ H Q => wi σ H fun J H1 => TabG H1 P ∧ ∀ H2, Tabbed P H1 H2 → ∃ W : Nat → Nat → Hp → Prop, (∃ m, W 0 m H2) ∧ ∀ i m H, W i m H →
  (J.stop i H ∧ Q (.bl (!stp)) H) ∨ (J.go i H ∧ ∀ x H', J.yld i H x H' → g x (wipe σ vs) H' fun σ2 H3 => wipe σ2 vs = wipe σ vs ∧ tt σ2 H3 fun c H4 =>
    if c = true then te σ2 H4 fun y H5 => ∃ b, y = .bl b ∧ (b = stp → Q (.bl stp) H5) ∧ (b ≠ stp → ∃ m', m' < m ∧ W (i + 1) m' H5) else ∃ m', m' < m ∧ W (i + 1) m' H4)
/-- sleeping states that the consumer may wake: nothing but the generators' table and the tokens differ -/
structure Like (s s' : Shared) : Prop where
  heap : s'.heap = s.heap
  os : s'.os = s.os
  drawn : s'.drawn = s.drawn
  bare : AllBare s'.gens
  gsz : s.gens.size ≤ s'.gens.size
section
variable {X : Cx}
theorem like_inv {pins : List (Addr × Obj)} {σ : L2.St} {H : Hp} {s s' : Shared} (I : Inv X pins σ H s) (z : Like s s') : Inv X pins σ H s' := by
  obtain ⟨h', g', d', t', o'⟩ := s'
  obtain ⟨z1, z2, z3, z4, _⟩ := z
  have z1 : h' = s.heap := z1
  have z2 : o' = s.os := z2
  have z3 : d' = s.drawn := z3
  subst z1 z2 z3
  exact ⟨I.ok, I.os, z4, I.base, I.loc, I.cell, I.free, I.freeC, I.pin, I.hok, I.len⟩
/-- what is handed out; kap: how it goes on -/
def GxY (X : Cx) (fp : List Addr) (tn : Nat → Heap → Prop) (σw : L2.St) (g : Nat) (stp : Bool) (Q : VK) (W : Nat → Nat → Hp → Prop) : Protocol := fun _ _ v s kap =>
  ∃ b H', v = .bool b ∧ Inv X [] σw H' s ∧ g < s.gens.size ∧ (b = stp → Q (.bl stp) H') ∧ (b ≠ stp → ∀ s', Like s s' → kap (.send .none) s')
def GxP (X : Cx) (σw : L2.St) (g : Nat) (stp : Bool) (Q : VK) (s : Shared) : Prop := ∃ H', Inv X [] σw H' s ∧ g < s.gens.size ∧ Q (.bl (!stp)) H'
abbrev GxR' (X : Cx) (σw : L2.St) (g : Nat) (stp : Bool) (Q : VK) : GenEnd := fun _ _ r s => r = .ok .next ∧ GxP X σw g stp Q s

theorem seg_bindw {M : Model} {A : Around} {R : GenEnd} {Y : Protocol} {n : Nat} {s₀ : Shared} {c : Code} {fs : List Frame} {s : Shared} {α β : Type} {m : Sem α} {K : α → Sem β} {K' : β → Sem PySem.Fin} {H' : Value → Sem PySem.Fin} {gd lv} {N : Nat} (hN : N ≤ s.gens.size)
    (h : wpAny M (A.over c fs) m (fun a s' => N ≤ s'.gens.size → Seg M A R Y n s₀ c ((K a).wrap K' H' gd lv) fs s') (fun _ _ => False) s) :
    Seg M A R Y n s₀ c ((m >>= K).wrap K' H' gd lv) fs s := by
  refine seg_bind_wrap ?_
  refine GenW.wpAny_gsz hN ?_
  exact wpAny_mono h (fun _ _ q => q) fun _ _ z => z.elim

variable {Ag : Around} {fp : List Addr} {tn : Nat → Heap → Prop} {σw : L2.St} {g : Nat} {stp : Bool} {Q : VK} {W : Nat → Nat → Hp → Prop} {J : It} {it : Addr} {elt tg iter : Expr} {ifs : List Expr} {scope : Scope} {pos : Pos} {gt : TG} {tt : TT} {te : TE} {vs : List Nat}
theorem over_gx {cenv : Env} : Ag.over (.compLoop (.GeneratorExp elt [⟨tg, iter, ifs, 0⟩] scope pos) 0 (.ref it) .none cenv) [] = Ag.deeper cenv := by
  obtain ⟨hd, d, fr, gs, u⟩ := Ag
  rfl
theorem over_gx0 {cenv : Env} : Ag.over (.compStart (.GeneratorExp elt [⟨tg, iter, ifs, 0⟩] scope pos) 0 (.ref it) .none cenv) [] = Ag.deeper cenv := by
  obtain ⟨hd, d, fr, gs, u⟩ := Ag
  rfl
theorem seg_gx (hA : X.A = Ag.deeper X.env) (hc : X.calm = true) (hpn : True) (hco : X.env.scope.isCoroutine = false) (hxe : X.xe = fun _ _ => False) (hex : X.ex = fp)
    (hpnx : ∀ b ∈ fp, ∀ p ∈ X.pn, p.1 ≠ b) (hw : wipe σw vs = σw)
    (T : Turn X.prog X.w X.K tg J fp it tn) (pg : PG X tg gt) (pt : PTs X ifs tt) (pe : PE X elt te)
    (turn : ∀ i m H, W i m H → (J.stop i H ∧ Q (.bl (!stp)) H) ∨ (J.go i H ∧ ∀ x H', J.yld i H x H' → gt x σw H' fun σ2 H3 => wipe σ2 vs = σw ∧ tt σ2 H3 fun c H4 =>
      if c = true then te σ2 H4 fun y H5 => ∃ b, y = .bl b ∧ (b = stp → Q (.bl stp) H5) ∧ (b ≠ stp → ∃ m', m' < m ∧ W (i + 1) m' H5) else ∃ m', m' < m ∧ W (i + 1) m' H4)) :
    ∀ (m n i : Nat) (s₀ s : Shared) (H : Hp), m < n → W i m H → Inv X [] σw H s → tn i s.heap → (∀ b ∈ fp, H b = none) → g < s.gens.size →
      Seg (model X.prog X.w) Ag (GxR' X σw g stp Q) (GxY X fp tn σw g stp Q W) n s₀
        (.compLoop (.GeneratorExp elt [⟨tg, iter, ifs, 0⟩] scope pos) 0 (.ref it) .none X.env)
        ((model X.prog X.w).den (.compLoop (.GeneratorExp elt [⟨tg, iter, ifs, 0⟩] scope pos) 0 (.ref it) .none X.env)) [] s := by
  intro m
  induction m using Nat.strongRecOn with
  | ind m ih =>
    intro n i s₀ s H hmn hW I st nfp hg
    have eA := over_gx (Ag := Ag) (elt := elt) (tg := tg) (iter := iter) (ifs := ifs) (scope := scope) (pos := pos) (it := it) (cenv := X.env)
    rw [← hA] at eA
    have stat : ∀ {pins : List (Addr × Obj)} {σ' : L2.St} {H' : Hp} {s' : Shared}, Inv X pins σ' H' s' → pins = [] → (∀ b ∈ fp, H' b = none) → ∀ b ∈ fp, FpOk X pins H' b := by
      intro pins σ' H' s' I' hp hn b hb
      have hb' : b ∈ X.ex := by rw [hex]; exact hb
      refine ⟨hn b hb, (I'.ok.exf b hb').1, I'.ok.exfs b hb', .inl hb', fun x c e => (I'.ok.exf b hb').2 x c e, fun p hp2 => ?_⟩
      rw [hp, List.append_nil] at hp2
      exact hpnx b hb p hp2
    show Seg _ Ag _ _ _ s₀ _ ((compTurn (.GeneratorExp elt [⟨tg, iter, ifs, 0⟩] scope pos) 0 (.ref it) .none X.env).onRaise (leaving X.env)) [] s
    rw [compTurn_gen, Sem.onRaise_eq_wrap]
    refine seg_bindw hg (wpAny_standAt fun _ => ?_)
    rcases turn i m H hW with ⟨stop, qq⟩ | ⟨go, step⟩
    · refine seg_bindw hg ?_
      rw [eA]
      refine wpAny_mono (T.done X rfl rfl rfl hc i [] s σw H (fun _ _ => False) I (stat I rfl nfp) st stop) (fun r s6 ⟨hr, I6⟩ => ?_) fun _ _ z => z
      subst hr
      intro hg6
      exact seg_end (.ok .next) ⟨rfl, H, I6, hg6, qq⟩
    · refine seg_bindw hg ?_
      rw [eA]
      refine wpAny_mono (T.item X rfl rfl rfl hc i [] s σw H (fun _ _ => False) I (stat I rfl nfp) st go) (fun r s6 ⟨u, hr, h6⟩ => ?_) fun _ _ z => z
      subst hr
      intro hg6
      refine seg_bindw hg6 ?_
      rw [eA]
      refine wpAny_mono h6 (fun _ s7 ⟨x, H7, I7, r7, y7, st7, n7⟩ => ?_) fun _ _ z => z
      intro hg7
      have I7' := I7.pinned (stat I7 rfl n7) (T.obj _ _ st7)
      refine seg_bindw hg7 ?_
      rw [eA]
      refine wpAny_mono (pg.run _ s7 σw H7 x u _ I7' r7 (step x H7 y7)) (fun _ s8 ⟨σ8, H8, I8, hw8, q8⟩ => ?_) fun _ _ z => by rw [hxe] at z; exact z
      intro hg8
      refine seg_bindw hg8 ?_
      rw [eA]
      refine wpAny_mono (pt.run _ s8 σ8 H8 _ I8 q8) (fun c s9 ⟨H9, I9, q9⟩ => ?_) fun _ _ z => by rw [hxe] at z; exact z
      intro hg9
      -- behind the turn
      have fin : ∀ {s' : Shared} {H' : Hp}, Inv X ([] ++ pinsAt fp s7.heap) σ8 H' s' → Inv X [] σw H' s' ∧ tn (i + 1) s'.heap ∧ ∀ b ∈ fp, H' b = none := by
        intro s' H' I'
        have pin' : ∀ b ∈ fp, ∀ o, s7.heap.get? b = some o → s'.heap.get? b = some o ∧ H' b = none := by
          intro b hb o e
          have z := I'.pin (b, o) (List.mem_append_right _ (List.mem_append_right _ (mem_pinsAt hb e)))
          exact ⟨z.1, z.2.1⟩
        have hl : σw.length = σ8.length := by rw [← hw8, wipe_length]
        refine ⟨(I'.unpinned (pins := [])).weak hl fun j v e => ?_, T.keep _ _ _ st7 fun b hb o e => (pin' b hb o e).1, fun b hb => ?_⟩
        · rw [← hw8] at e
          exact (wipe_some e).1
        · obtain ⟨o, e, _⟩ := T.obj _ _ st7 b hb
          exact (pin' b hb o e).2
      cases c with
      | false =>
        simp only [Bool.false_eq_true, if_false] at q9 ⊢
        obtain ⟨m', hm', w'⟩ := q9
        obtain ⟨J1, J2, J3⟩ := fin I9
        exact seg_again rfl (ih m' hm' n (i + 1) s₀ s9 H9 (by omega) w' J1 J2 J3 hg9)
      | true =>
        simp only [if_true] at q9 ⊢
        have hy : ∀ v, yieldOut X.env v = yieldValue v := fun v => by simp only [yieldOut, hco, Bool.false_eq_true, if_false]
        simp only [hy]
        rw [Sem.bind_eq_wrap', Sem.bind_eq_wrap', Sem.wrap_wrap, Sem.wrap_wrap]
        refine seg_wrap (GenW.wpAny_gsz hg9 ?_)
        rw [eA]
        refine wpAny_mono (pe.run _ s9 σ8 H9 _ I9 q9) (fun y s10 ⟨yv, H10, I10, r10, b, hb, q1, q2⟩ => ?_) fun _ _ z => by rw [hxe] at z; exact z.elim
        intro hg10
        subst hb
        have r10 : y = Value.bool b := r10
        subst r10
        obtain ⟨J1, J2, J3⟩ := fin I10
        obtain ⟨n', rfl⟩ : ∃ n', n = n' + 1 := ⟨n - 1, by omega⟩
        refine seg_at (seg_yield rfl rfl rfl ⟨b, H10, rfl, J1, hg10, q1, fun hb s' hl => ?_⟩)
        obtain ⟨m', hm', w'⟩ := q2 hb
        refine seg_again rfl (ih m' hm' n' (i + 1) s' s' H10 (by omega) w' (like_inv J1 hl) ?_ J3 (Nat.lt_of_lt_of_le hg10 hl.gsz))
        rw [hl.heap]; exact J2

theorem seg_gx0 (hA : X.A = Ag.deeper X.env) {s₀ s : Shared} {n : Nat} (T : Turn X.prog X.w X.K tg J fp it tn) (st : tn 0 s.heap)
    (loop : Seg (model X.prog X.w) Ag (GxR' X σw g stp Q) (GxY X fp tn σw g stp Q W) n s₀ (.compLoop (.GeneratorExp elt [⟨tg, iter, ifs, 0⟩] scope pos) 0 (.ref it) .none X.env)
        ((model X.prog X.w).den (.compLoop (.GeneratorExp elt [⟨tg, iter, ifs, 0⟩] scope pos) 0 (.ref it) .none X.env)) [] s) :
    Seg (model X.prog X.w) Ag (GxR' X σw g stp Q) (GxY X fp tn σw g stp Q W) n s₀ (.compStart (.GeneratorExp elt [⟨tg, iter, ifs, 0⟩] scope pos) 0 (.ref it) .none X.env)
        ((model X.prog X.w).den (.compStart (.GeneratorExp elt [⟨tg, iter, ifs, 0⟩] scope pos) 0 (.ref it) .none X.env)) [] s := by
  show Seg _ Ag _ _ _ s₀ _ ((compStart (.GeneratorExp elt [⟨tg, iter, ifs, 0⟩] scope pos) 0 (.ref it) .none X.env).onRaise (leaving X.env)) [] s
  unfold compStart
  rw [Sem.onRaise_eq_wrap]
  show Seg _ Ag _ _ _ s₀ _ ((ask >>= _).wrap _ _ _ _) [] s
  refine seg_bind_wrap (wpAny_askSetting ?_)
  split
  · exact seg_again rfl loop
  · first
      | exact seg_bind_wrap (wpAny_rule (seg_bind_wrap (wpAny_standAt (seg_bind_wrap (T.self _ 0 s _ _ st (seg_again rfl loop))))))
      | (refine seg_bind_wrap (wpAny_rule ?_); show Seg _ Ag _ _ _ s₀ _ ((standAt iter.pos >>= _).wrap _ _ _ _) [] s; exact seg_bind_wrap (wpAny_standAt (seg_bind_wrap (T.self _ 0 s _ _ st (seg_again rfl loop)))))

/-! ### what the consumer holds -/
theorem bare_setGen {s : Shared} {g : Nat} {x : GenState} (h : AllBare s.gens) (hx : x.bare = true) : AllBare (s.setGen g x).gens := by
  intro y hy
  have hy : y ∈ s.gens.setIfInBounds g x := hy
  obtain ⟨i, hi, e⟩ := Array.mem_iff_getElem.mp hy
  rw [Array.getElem_setIfInBounds] at e
  by_cases c : g = i
  · rw [if_pos c] at e; rw [← e]; exact hx
  · rw [if_neg c] at e; rw [← e]; exact h _ (Array.getElem_mem _)
  · simpa using hi
theorem like_setGen {s : Shared} {g : Nat} {x : GenState} (h : AllBare s.gens) (hx : x.bare = true) : Like s (s.setGen g x) := ⟨rfl, rfl, rfl, bare_setGen h hx, Nat.le_of_eq (GenW.setGen_size s g x).symm⟩
theorem Like.trans {s s' s'' : Shared} (a : Like s s') (b : Like s' s'') : Like s s'' := ⟨b.heap.trans a.heap, b.os.trans a.os, b.drawn.trans a.drawn, b.bare, Nat.le_trans a.gsz b.gsz⟩
theorem like_refl {s : Shared} (h : AllBare s.gens) : Like s s := ⟨rfl, rfl, rfl, h, Nat.le_refl _⟩
def GenO (go : Obj) (g : Nat) : Prop := ∃ nm qn, go.cls = .type "generator" ∧ go.data = .fields #[.int g 0, nm, qn] ∧ go.slots = #[]
/-- X: the generator's own context -/
def Held (X : Cx) (Ag : Around) (fp : List Addr) (tn : Nat → Heap → Prop) (σw : L2.St) (g : Nat) (stp : Bool) (Q : VK) (W : Nat → Nat → Hp → Prop) (n : Nat) (s : Shared) : Prop :=
  (∃ H', Inv X [] σw H' s) ∧ ∃ gs, s.gens[g]? = some gs ∧ AllBare s.gens ∧ ∀ s'', Like s s'' → gs.Goes (model X.prog X.w) Ag (GxR' X σw g stp Q) (GxY X fp tn σw g stp Q W) n (.send .none) s''
theorem get_setGen {s : Shared} {g : Nat} {x : GenState} (h : g < s.gens.size) : (s.setGen g x).gens[g]? = some x := by
  simp [Shared.setGen, h]
theorem held_turn {A : Around} {R : Result → Shared → Prop} {a : Addr} {go : Obj} (hAg : Ag = A.in1.in1) (hh : A.handled = none) (hroom : A.depth < recursionLimit) (hpn : X.pn = [(a, go)]) (hgo : GenO go g)
    (hR : ∀ (b : Bool) H' s', Inv X [] σw H' s' → Q (.bl b) H' → ∀ h', (∀ x o, s'.heap.get? x = some o → h'.get? x = some o) → R (.ok (.ret (.bool b))) { s' with heap := h' })
    (n : Nat) (s : Shared) (h : Held X Ag fp tn σw g stp Q W n s) :
    wpAny (model X.prog X.w) A.in1 (pyNext (.ref a)) (Turned R stp (Held X Ag fp tn σw g stp Q W) n) (fun _ _ => False) s := by
  obtain ⟨⟨H0, I0⟩, gs, hgs, hbare, hgoes⟩ := h
  subst hAg
  have pinned : ∀ {H' : Hp} {s' : Shared}, Inv X [] σw H' s' → s'.heap.IsGen a g := by
    intro H' s' I'
    obtain ⟨nm, qn, h1, h2, h3⟩ := hgo
    exact ⟨go, nm, qn, (I'.pin (a, go) (List.mem_append_left _ (by rw [hpn]; exact List.mem_cons_self))).1, h1, h2, h3⟩
  refine wpAny_pyNext_genexpQ (P := fun _ _ s => GxP X σw g stp Q s) (Y := GxY X fp tn σw g stp Q W) (n := n) hh I0.nolimit hroom (pinned I0) hgs (hgoes _ (like_setGen hbare rfl)) (fun v s₁ gs' hb hv => ?_) (fun s₁ hp h' hk => ?_)
  · obtain ⟨b, H', rfl, I1, hg1, q1, q2⟩ := hv
    have L1 : Like s₁ (s₁.setGen g gs') := like_setGen I1.bare hb
    have I2 := like_inv I1 L1
    refine ⟨b, rfl, fun e => ?_, fun e => ?_⟩
    · have z := hR stp H' (s₁.setGen g gs') I2 (q1 e) (s₁.setGen g gs').heap fun _ _ e => e
      exact z
    · cases n with
      | zero => exact (q2 e s₁ (like_refl I1.bare)).elim
      | succ m =>
        refine ⟨m, Nat.lt_succ_self m, ⟨H', I2⟩, gs', get_setGen hg1, I2.bare, fun s'' hl => ?_⟩
        exact q2 e s'' (L1.trans hl)
  · obtain ⟨H', I1, hg1, q⟩ := hp
    exact hR (!stp) H' (s₁.setGen g .finished) (like_inv I1 (like_setGen I1.bare rfl)) q h' hk
end

/-! ### the rules -/
theorem wipe_of {τ : L2.St} : ∀ vs : List Nat, (∀ i ∈ vs, ∀ x, τ[i]? = some x → x = none) → wipe τ vs = τ
  | [], _ => rfl
  | v :: r, h => by
    show (wipe τ r).set v none = τ
    rw [wipe_of r fun i hi x hx => h i (List.mem_cons_of_mem _ hi) x hx]
    apply List.ext_getElem?
    intro j
    by_cases hj : v = j
    · subst hj
      rw [List.getElem?_set]
      cases hx : τ[v]? with
      | none =>
        have := List.getElem?_eq_none_iff.mp hx
        rw [if_pos rfl, if_neg (by omega)]
      | some x =>
        have := (List.getElem?_eq_some_iff.mp hx).1
        rw [if_pos rfl, if_pos this, h v List.mem_cons_self x hx]
    · rw [List.getElem?_set_ne hj]
theorem wipe_wipe (σ : L2.St) (vs : List Nat) : wipe (wipe σ vs) vs = wipe σ vs := wipe_of vs fun i hi x hx => by
  cases x with
  | none => rfl
  | some v => exact absurd hi (wipe_some hx).2
/-- the scope of the generator expression -/
structure GxS (scope : Scope) : Prop where
  co : scope.isCoroutine = false
  cell : ∀ y ∈ scope.names, y.2 ≠ NameKind.cell
  dot : scope.names.lookup (".0" : Str) = some NameKind.local
def gxsB (scope : Scope) : Bool := !scope.isCoroutine && (scope.names.all fun y => y.2 != NameKind.cell) && scope.names.lookup (".0" : Str) == some NameKind.local
theorem gxs_by {scope : Scope} (h : gxsB scope = true) : GxS scope := by
  unfold gxsB at h
  simp only [Bool.and_eq_true, List.all_eq_true, beq_iff_eq, Bool.not_eq_true', bne_iff_ne] at h
  exact ⟨h.1.1, h.1.2, h.2⟩
theorem room_gx {k : Nat} {A : Around} (r : Room (k + 1) A) (env : Env) : Room k (A.in1.in1.deeper env) :=
  ⟨r.hd, by have := r.dp; show A.depth + 1 + 3 * k + 5 < _; omega, by have := r.un; show A.units + 1 + 1 + 3 + 16 * k + 200 < _; omega⟩
section
variable {X : Cx} {c P : Addr} {elt tg iter : Expr} {ifs : List Expr} {scope : Scope} {own : List (Str × Nat)} {gpos : Pos} {stp : Bool} {wi : TI} {gt : TG} {tt : TT} {te : TE} {k : Nat}
theorem gx_eval {pins : List (Addr × Obj)} {σ : L2.St} {H : Hp} {s : Shared} {Q : VK} {Q' : Value → Shared → Prop} (hr : Room k X.A) (hc : X.calm = true) (hN : X.N.Nodup) (TB : TabB X.base X.mg c P) (hcode : X.env.code = .ref c) (ok : BlkOk X.N X.env.scope scope own) (S : GxS scope) (hi : PI X tg iter wi)
    (hg : ∀ (s : Shared) (H : Hp) (C : Addr) (cd : Value) (fp : List Addr) (pn : List (Addr × Obj)), PG (gx X X.A.in1.in1 s H (gEnv scope X C cd) fp pn) tg gt)
    (ht : ∀ (s : Shared) (H : Hp) (C : Addr) (cd : Value) (fp : List Addr) (pn : List (Addr × Obj)), PTs (gx X X.A.in1.in1 s H (gEnv scope X C cd) fp pn) ifs tt)
    (he : ∀ (s : Shared) (H : Hp) (C : Addr) (cd : Value) (fp : List Addr) (pn : List (Addr × Obj)), PE (gx X X.A.in1.in1 s H (gEnv scope X C cd) fp pn) elt te)
    (hs : ∀ v, genFold iter X.env v = pure v) (I : Inv X pins σ H s) (h : tGx P stp wi gt tt te (own.map (·.2)) σ H Q)
    (hQ : ∀ (XG : Cx) (a : Addr) (g : Nat) (go : Obj) (fp : List Addr) (tn : Nat → Heap → Prop) (σw : L2.St) (W : Nat → Nat → Hp → Prop) (n : Nat) (s5 : Shared), XG.prog = X.prog → XG.w = X.w → XG.pn = [(a, go)] → GenO go g → (∀ H' s', Inv XG [] σw H' s' → Inv X pins σ H' s') →
      Held XG X.A.in1.in1 fp tn σw g stp Q W n s5 → Q' (.ref a) s5) :
    wpAny (model X.prog X.w) X.A (eval (.GeneratorExp elt [⟨tg, iter, ifs, 0⟩] scope gpos) X.env) Q' X.xe s := by
  have hfree : ∀ y ∈ scope.names, y.2 = .free → ∃ c, X.env.cells.lookup y.1 = some c := by
    intro y hy e
    rcases ok.free y hy e with z | z
    · exact I.ok.has _ (.inl z)
    · exact I.ok.has _ (.inr z)
  refine wpAny_GeneratorExp_make S.co (closure_ok hfree) S.cell S.dot ok.kind (by have := hr.dp; omega) ?_ hs
  refine thn (hi.run pins s σ H _ I h) fun xv s1 hx => thn hx fun itv s2 h2 => ?_
  obtain ⟨it, fp, tn, J, H1, e, I2, T, st2, f2, ⟨ps, hP, htr⟩, q⟩ := h2
  subst e
  have hPs : s2.heap.get? P = some { cls := .none, data := .fields ps } := I2.hok P _ hP
  have cd0 : PySem.W.CodeHd s2.heap c P := TB.code.keeps I2.bk
  refine ⟨I2.nolimit, ?_⟩
  have nP : ∀ b ∈ fp, b ≠ P := by
    intro b hb e
    have z := (f2 b hb).1
    rw [e, hP] at z
    cases z
  have cont : ∀ (code : Value) (H2 : Hp) (s3 : Shared), Tabbed P H1 H2 → Inv X pins σ H2 s3 → (∀ b o, b ≠ P → s2.heap.get? b = some o → s3.heap.get? b = some o) →
      wpAny (model X.prog X.w) X.A (builtinsFor X.env.globals X.env.builtins) (fun bi s₄ =>
        ∀ h', h'.Ns s₄.heap.objs.size (fun y => if y = ".0" then some (.ref it) else none) → Heap.SameBut s₄.heap.objs.size (s₄.heap.push { cls := .type "frame", data := .dict #[] }) h' →
          Q' (.ref h'.objs.size) { s₄ with
            gens := s₄.gens.push (.fresh (.compStart (.GeneratorExp elt [⟨tg, iter, ifs, 0⟩] scope gpos) 0 (.ref it) .none (genEnv scope (cloFrom X.env.cells scope.names []) s₄.heap.objs.size code bi X.env))),
            toks := s₄.toks + 1 + 1 + 1,
            heap := h'.push { cls := .type "generator", data := .fields #[.int s₄.gens.size 0, .str "<genexpr>" (s₄.toks + 1), .str (X.env.qual ++ "<genexpr>") (s₄.toks + 1 + 1)] } }) X.xe s3 := by
    intro code H2 s3 hT I3 k3
    obtain ⟨bm, ob, e1, e2, e3, e4, e5, e6, e7, e8⟩ := TB.bm
    refine wpAny_builtinsFor (m := X.mg) (by rw [I3.ok.glob]; exact I3.mod.glob.keeps I3.bk) e1 e2 (I3.bk _ _ e5) e6 e7 e8 ?_
    intro h' hns hsb
    obtain ⟨W, ⟨m0, w0⟩, turn⟩ := q H2 hT
    have sz : h'.objs.size = s3.heap.objs.size + 1 := by rw [hsb.1, Heap.size_push]
    generalize hgo : ({ cls := .type "generator", data := .fields #[.int s3.gens.size 0, .str "<genexpr>" (s3.toks + 1), .str (X.env.qual ++ "<genexpr>") (s3.toks + 1 + 1)] } : Obj) = go
    have hgoO : GenO go s3.gens.size := by
      subst hgo
      exact ⟨_, _, rfl, rfl, rfl⟩
    have hcl : ∀ v, go.data ≠ .cell v := by
      subst hgo
      intro v z
      cases z
    have pushed : (h'.push go).get? h'.objs.size = some go := by
      subst hgo
      exact Heap.get?_push_size _ rfl
    have keep3 : ∀ b o, s3.heap.get? b = some o → (h'.push go).get? b = some o := by
      intro b o e
      exact Heap.get?_push_of_some _ (hsb.extBut b o (Nat.ne_of_lt (Heap.lt_size e)) (Heap.get?_push_of_some _ e))
    have st3 : tn 0 s3.heap := T.keep _ _ _ st2 fun b hb o e => k3 b o (nP b hb) e
    have f3 : ∀ b ∈ fp, FpOk X pins H2 b ∧ b < s3.heap.objs.size := by
      intro b hb
      obtain ⟨o, e, _⟩ := T.obj _ _ st3 b hb
      refine ⟨⟨?_, (f2 b hb).2⟩, Heap.lt_size e⟩
      rw [hT.2 b (nP b hb)]
      exact (f2 b hb).1
    have gz : ∀ (s : Shared) (x : GenState), s.gens.size < (s.gens.push x).size := fun s x => by rw [Array.size_push]; exact Nat.lt_succ_self _
    have IG := gx_start (Ag := X.A.in1.in1) (code := code) (a := h'.objs.size) (go := go) (h5 := h'.push go) (t5 := s3.toks + 1 + 1 + 1)
      (g5 := s3.gens.push (.fresh (.compStart (.GeneratorExp elt [⟨tg, iter, ifs, 0⟩] scope gpos) 0 (.ref it) .none (gEnv scope X s3.heap.objs.size code))))
      I3 ok S.cell hN rfl rfl f3 keep3 (hns.push _) (I3.bare.push rfl) pushed (by omega) hcl
    have pg := hg s3 H2 s3.heap.objs.size code fp [(h'.objs.size, go)]
    have pt := ht s3 H2 s3.heap.objs.size code fp [(h'.objs.size, go)]
    have pe := he s3 H2 s3.heap.objs.size code fp [(h'.objs.size, go)]
    have back : ∀ H' s', Inv (gx X X.A.in1.in1 s3 H2 (gEnv scope X s3.heap.objs.size code) fp [(h'.objs.size, go)]) [] (wipe σ (own.map (·.2))) H' s' → Inv X pins σ H' s' := by
      intro H' s' J'
      exact I3.call' (ch := fp) J'.os J'.base J'.hok J'.bare fun b hb => ⟨(f3 b hb).1.2.2.2.1, (f3 b hb).1.2.1, (f3 b hb).1.2.2.2.2.1, (f3 b hb).1.2.2.2.2.2⟩
    have n5 : ∀ b ∈ fp, H2 b = none := fun b hb => (f3 b hb).1.1
    have st5 : ∀ h'' : Heap, (∀ b o, s3.heap.get? b = some o → h''.get? b = some o) → tn 0 h'' := fun h'' kk => T.keep _ _ _ st3 fun b _ o e => kk b o e
    have wipe2 := wipe_wipe σ (own.map (·.2))
    have pnx : ∀ b ∈ fp, ∀ p ∈ [(h'.objs.size, go)], p.1 ≠ b := by
      intro b hb p hp e
      have hp : p = (h'.objs.size, go) := by simpa using hp
      have hlt := (f3 b hb).2
      rw [← e, hp] at hlt
      have hlt : h'.objs.size < s3.heap.objs.size := hlt
      omega
    refine hQ (gx X X.A.in1.in1 s3 H2 (gEnv scope X s3.heap.objs.size code) fp [(h'.objs.size, go)]) h'.objs.size s3.gens.size go fp tn (wipe σ (own.map (·.2))) W (m0 + 1) _ rfl rfl rfl hgoO back ⟨⟨H2, IG⟩, _, Array.getElem?_push_size .., IG.bare, fun s'' hl => ⟨rfl, ?_⟩⟩
    have hst'' : tn 0 s''.heap := by
      rw [hl.heap]
      exact st5 _ keep3
    have hg'' : s3.gens.size < s''.gens.size := Nat.lt_of_lt_of_le (gz s3 _) hl.gsz
    have loop := seg_gx (X := gx X X.A.in1.in1 s3 H2 (gEnv scope X s3.heap.objs.size code) fp [(h'.objs.size, go)]) (Ag := X.A.in1.in1) (iter := iter) (scope := scope) (pos := gpos) (σw := wipe σ (own.map (·.2))) (g := s3.gens.size) (stp := stp) (Q := Q) (vs := own.map (·.2))
      rfl hc trivial S.co rfl rfl pnx wipe2 T pg pt pe turn m0 (m0 + 1) 0 s'' s'' H2 (Nat.lt_succ_self _) w0 (like_inv IG hl) hst'' n5 hg''
    exact seg_gx0 (X := gx X X.A.in1.in1 s3 H2 (gEnv scope X s3.heap.objs.size code) fp [(h'.objs.size, go)]) (Ag := X.A.in1.in1) rfl T hst'' loop
  cases hf : codeAmong gpos ps.toList with
  | none =>
    refine wpAny_genexprCodeX hcode (cd0.code hPs htr) (cd0.tab hPs) hf fun c' h' tk hx hge hlt hco' _ htab' _ => ?_
    obtain ⟨o1, vs1, f1, tf, fl, tg1, inF, tx, tt1, op, _, _, _, _, _, _, _, _, _, htr', _⟩ := hco'
    have J := inv_tab (more := #[rawInt gpos.line, rawInt gpos.col, .ref c']) (h' := h') (g' := s2.gens) (d' := s2.drawn) (t' := tk) I2 hP (fun b u hb e => hx b u hb e) htab'.2 I2.bare
    exact cont _ _ _ ⟨⟨_, upd_same, htr'⟩, fun b hb => upd_ne hb⟩ J fun b o hb e => hx b o hb e
  | some cv =>
    refine wpAny_genexprCode_hit hcode (cd0.code hPs htr) hf ?_
    exact cont cv H1 s2 ⟨⟨ps, hP, htr⟩, fun _ _ => rfl⟩ I2 fun _ _ _ e => e
variable {p pos : Pos}
theorem pe_any (hr : Room k X.A) (hc : X.calm = true) (hN : X.N.Nodup) (hgl : Gl X "any") (hm : X.mg "any" = none) (TB : TabB X.base X.mg c P) (hcode : X.env.code = .ref c) (ok : BlkOk X.N X.env.scope scope own) (S : GxS scope) (hi : PI X tg iter wi)
    (hg : ∀ (s : Shared) (H : Hp) (C : Addr) (cd : Value) (fp : List Addr) (pn : List (Addr × Obj)), PG (gx X X.A.in1.in1 s H (gEnv scope X C cd) fp pn) tg gt)
    (ht : ∀ (s : Shared) (H : Hp) (C : Addr) (cd : Value) (fp : List Addr) (pn : List (Addr × Obj)), PTs (gx X X.A.in1.in1 s H (gEnv scope X C cd) fp pn) ifs tt)
    (he : ∀ (s : Shared) (H : Hp) (C : Addr) (cd : Value) (fp : List Addr) (pn : List (Addr × Obj)), PE (gx X X.A.in1.in1 s H (gEnv scope X C cd) fp pn) elt te)
    (hs : ∀ v, genFold iter X.env v = pure v := by intro _; rfl)
    (hst : starEach [.GeneratorExp elt [⟨tg, iter, ifs, 0⟩] scope gpos] X.env = (false, eval (.GeneratorExp elt [⟨tg, iter, ifs, 0⟩] scope gpos) X.env) :: starEach [] X.env := by rfl) :
    PE X (.Call (.Name "any" p) [.GeneratorExp elt [⟨tg, iter, ifs, 0⟩] scope gpos] [] pos) (tGx P true wi gt tt te (own.map (·.2))) := by
  refine ⟨fun pins s σ H Q I h => ?_⟩
  refine wpAny_Call_Name_kw (ld_blt I hgl hm boot_any ?_)
  refine PyProof.Rows.callWith_builtin1 ?_ hst (by rfl)
  rw [hst]
  show wpAny _ _ (spliced ((false, eval (.GeneratorExp elt [⟨tg, iter, ifs, 0⟩] scope gpos) X.env) :: backTo pos (starEach [] X.env))) _ _ s
  refine Calls.spliced_cons (gx_eval (Q := Q) (stp := true) hr hc hN TB hcode ok S hi hg ht he hs I h fun XG a g go fp tn σw W n s5 hp hw hpn hgo back hheld => ?_)
  refine Calls.spliced_nil ?_
  have hheld0 := hheld
  obtain ⟨⟨H0, I0⟩, _⟩ := hheld0
  have hig : s5.heap.IsGen a g := by
    obtain ⟨nm, qn, h1, h2, h3⟩ := hgo
    exact ⟨go, nm, qn, (I0.pin (a, go) (List.mem_append_left _ (by rw [hpn]; exact List.mem_cons_self))).1, h1, h2, h3⟩
  refine call_function_tree F.kind_any F.plain_any F.entry_any (F.args_any1 _) ?_
  unfold Builtin.«any»
  refine wpAny_bind (m := oneArg "any" _) (wpAny_pure ?_)
  refine wpAny_bind (wpAny_pyIter_gen hig ?_)
  refine wpAny_pure ⟨plainId_quiet F.plain_any_loop _, ?_⟩
  rw [← hp, ← hw] at *
  refine loop_any (Held XG X.A.in1.in1 fp tn σw g true Q W) (held_turn rfl hr.hd (by have := hr.dp; omega) hpn hgo fun b H' s' J' qq h' hk => ?_) n s5 hheld
  exact ⟨.bl b, H', (back H' s' J').kept (t' := s'.toks) hk, rfl, qq⟩
theorem pe_all (hr : Room k X.A) (hc : X.calm = true) (hN : X.N.Nodup) (hgl : Gl X "all") (hm : X.mg "all" = none) (TB : TabB X.base X.mg c P) (hcode : X.env.code = .ref c) (ok : BlkOk X.N X.env.scope scope own) (S : GxS scope) (hi : PI X tg iter wi)
    (hg : ∀ (s : Shared) (H : Hp) (C : Addr) (cd : Value) (fp : List Addr) (pn : List (Addr × Obj)), PG (gx X X.A.in1.in1 s H (gEnv scope X C cd) fp pn) tg gt)
    (ht : ∀ (s : Shared) (H : Hp) (C : Addr) (cd : Value) (fp : List Addr) (pn : List (Addr × Obj)), PTs (gx X X.A.in1.in1 s H (gEnv scope X C cd) fp pn) ifs tt)
    (he : ∀ (s : Shared) (H : Hp) (C : Addr) (cd : Value) (fp : List Addr) (pn : List (Addr × Obj)), PE (gx X X.A.in1.in1 s H (gEnv scope X C cd) fp pn) elt te)
    (hs : ∀ v, genFold iter X.env v = pure v := by intro _; rfl) (hb : bootBuiltins "all" = some (.builtin "all") := by first | rfl | decide +kernel)
    (hst : starEach [.GeneratorExp elt [⟨tg, iter, ifs, 0⟩] scope gpos] X.env = (false, eval (.GeneratorExp elt [⟨tg, iter, ifs, 0⟩] scope gpos) X.env) :: starEach [] X.env := by rfl) :
    PE X (.Call (.Name "all" p) [.GeneratorExp elt [⟨tg, iter, ifs, 0⟩] scope gpos] [] pos) (tGx P false wi gt tt te (own.map (·.2))) := by
  refine ⟨fun pins s σ H Q I h => ?_⟩
  refine wpAny_Call_Name_kw (ld_blt I hgl hm hb ?_)
  refine PyProof.Rows.callWith_builtin1 ?_ hst (by rfl)
  rw [hst]
  show wpAny _ _ (spliced ((false, eval (.GeneratorExp elt [⟨tg, iter, ifs, 0⟩] scope gpos) X.env) :: backTo pos (starEach [] X.env))) _ _ s
  refine Calls.spliced_cons (gx_eval (Q := Q) (stp := false) hr hc hN TB hcode ok S hi hg ht he hs I h fun XG a g go fp tn σw W n s5 hp hw hpn hgo back hheld => ?_)
  refine Calls.spliced_nil ?_
  have hheld0 := hheld
  obtain ⟨⟨H0, I0⟩, _⟩ := hheld0
  have hig : s5.heap.IsGen a g := by
    obtain ⟨nm, qn, h1, h2, h3⟩ := hgo
    exact ⟨go, nm, qn, (I0.pin (a, go) (List.mem_append_left _ (by rw [hpn]; exact List.mem_cons_self))).1, h1, h2, h3⟩
  refine call_function_tree F.kind_all F.plain_all F.entry_all (F.args_all1 _) ?_
  unfold Builtin.«all»
  refine wpAny_bind (m := oneArg "all" _) (wpAny_pure ?_)
  refine wpAny_bind (wpAny_pyIter_gen hig ?_)
  refine wpAny_pure ⟨plainId_quiet F.plain_all_loop _, ?_⟩
  rw [← hp, ← hw] at *
  refine loop_all (Held XG X.A.in1.in1 fp tn σw g false Q W) (held_turn rfl hr.hd (by have := hr.dp; omega) hpn hgo fun b H' s' J' qq h' hk => ?_) n s5 hheld
  exact ⟨.bl b, H', (back H' s' J').kept (t' := s'.toks) hk, rfl, qq⟩
end
end Gx
end
section
set_option maxHeartbeats 4000000
/-! sorted(list, key=f), f a def of one's own whose answers are data, lists among them. -/
namespace Skx
open PySem PySem.Spec PyProof.Rows L2 Srx Gr
open PySem.W (dataLe alike AllAlike EachIs KeepsBut dataKind SortsAt sortVals KeyedOut)

section
variable {X : Cx} {k : Nat} {f : Addr} {fd : FuncData} {ps : List Str} {sp : Sp} {γ : Type} {enc : γ → PyData}
/-- what the key's call must give, wherever it stands -/
def KeyOf (K : PySem.W.Frag) (sp : Sp) (enc : γ → PyData) (b : V × γ) (H : Hp) : Prop := ∀ H1, Gr H H1 → ∀ Q : VK, (∀ v H2, Gr H1 H2 → Dp K H2 v (enc b.2) → Q v H2) → sp [b.1] H1 Q E0
def rSortedKey (K : PySem.W.Frag) (f : Addr) (sp : Sp) (enc : γ → PyData) : List V → List V → Hp → VK → Prop := fun vs zs H Q => ∃ (a : Addr) (bs : List (V × γ)), vs = [V.ref a] ∧ zs = [V.ref f] ∧ SqL K H a (bs.map (·.1)) ∧ (∀ b ∈ bs, KeyOf K sp enc b H) ∧
  ∀ H1 p, Gr H H1 → H1 p = none → Q (.ref p) (upd H1 p (.lst ((bs.mergeSort (dataLe false fun b => enc b.2)).map (·.1))))
theorem paired_each {K : PySem.W.Frag} {pins : List (Addr × Obj)} {σ : L2.St} {H : Hp} {s : Shared} (I : Inv X pins σ H s) (hK : X.K = K) : ∀ {kvs : List V} {us : List Value} {ds : List PyData}, Vals kvs us → Paired (fun v d => Dp K H v d) kvs ds → EachIs (fun u d => ∃ as, PySem.Reads s.heap u d as) us ds
  | _, _, _, .nil, .nil => .nil
  | _, _, _, .cons r t, .cons h t2 => by
    subst hK
    exact .cons (Dp.reads I _ _ _ h r) (paired_each I rfl t t2)
theorem paired_snoc {α β : Type} {R : α → β → Prop} : ∀ {as : List α} {bs : List β} {a : α} {b : β}, Paired R as bs → R a b → Paired R (as ++ [a]) (bs ++ [b])
  | _, _, _, _, .nil, h => .cons h .nil
  | _, _, _, _, .cons r t, h => .cons r (paired_snoc t h)
theorem paired_imp {α β : Type} {R S : α → β → Prop} (f : ∀ a b, R a b → S a b) : ∀ {as : List α} {bs : List β}, Paired R as bs → Paired S as bs
  | _, _, .nil => .nil
  | _, _, .cons r t => .cons (f _ _ r) (paired_imp f t)

set_option maxHeartbeats 8000000 in
theorem cr_sortedKey (o : Ord enc) (F : FnOk X.prog X.w X.K X.mg X.base CX0 k f fd ps sp) (hb : Binds X.K fd ps []) (hr : Room (k + 2) X.A) : CallRK X (.builtin "sorted") [Str.ofString "key"] (rSortedKey X.K f sp enc) := by
  intro pins s σ H vs zs us ws Q I r rz h
  obtain ⟨l, bs, rfl, rfl, hs, hkey, q⟩ := h
  obtain rfl := Vals.ref1 r
  obtain rfl := Vals.ref1 rz
  obtain ⟨its, rv, hl, hz⟩ := I.list hs
  have hbz : bs.length ≤ sizeLine := by simpa using hz
  have e0 := each_vals rv
  have hil : its.length = bs.length := by rw [← rv.length, List.length_map]
  have hr2 : Room k X.A.in1.in1 := (show Room (k + 1) X.A.in1 from Room.in1 hr).in1
  show wpAny _ _ (call (.builtin "sorted") [.ref l] [(Str.ofString "key", .ref f)]) _ _ _
  refine PySem.W.sorted_of_sort hl.isList (by rw [hil]; exact hbz) (PyProof.Rows.ksk_s1 _ _) (fun _ => PyProof.Rows.ksk_l1 _ _) fun E' => ?_
  rw [PyProof.Rows.ksk_t1]
  -- the copy at L, the tuple, the keys' list at kS
  generalize hL : s.heap.objs.size + 1 = L
  have hLat : (PySem.W.copyHeap s.heap its).get? L = some (seqObj "list" its.toArray 0) := by
    rw [← hL]; exact PySem.W.copyHeap_at s.heap its
  obtain ⟨e1, hL1⟩ : ∃ e1, ((PySem.W.copyHeap s.heap its).update L (Obj.mapSeq fun _ => (#[] : Array Value))).get? L = some (seqObj "list" #[] e1) := ⟨_, get?_update_seq hLat fun _ => #[]⟩
  unfold PyProof.Rows.ksk_tree
  refine wpAny_bind (listItems_at hLat rfl ?_)
  refine wpAny_bind (listUpdate_at hLat rfl ?_ (by rw [List.size_toArray, hil]; exact hbz) (Nat.zero_le _))
  refine wpAny_bind (seqEpoch_at hL1 rfl ?_)
  refine wpAny_bind (wpAny_newTuple ?_ (by show its.length ≤ _; rw [hil]; exact hbz))
  refine wpAny_bind (wpAny_newList ?_ (Nat.zero_le _))
  refine wpAny_holding ?_
  generalize hkS : (((PySem.W.copyHeap s.heap its).update L (Obj.mapSeq fun _ => (#[] : Array Value))).push (seqObj "tuple" its.toArray 0)).objs.size = kS
  generalize hg : ((((PySem.W.copyHeap s.heap its).update L (Obj.mapSeq fun _ => (#[] : Array Value))).push (seqObj "tuple" its.toArray 0)).push (seqObj "list" #[] 0)) = g0
  have keep0 : ∀ b u, s.heap.get? b = some u → g0.get? b = some u := by
    intro b u e
    have lt := Heap.lt_size e
    rw [← hg]
    exact PySem.W.sortingHeap_old (by rw [← hL]; exact Nat.ne_of_lt (Nat.lt_succ_of_lt lt)) (PySem.W.copyHeap_old e)
  have hLlt : L < ((PySem.W.copyHeap s.heap its).update L (Obj.mapSeq fun _ => (#[] : Array Value))).objs.size := Heap.lt_size hL1
  have hkL : kS ≠ L := by
    rw [← hkS, size_push']
    exact Nat.ne_of_gt (Nat.lt_succ_of_lt hLlt)
  have hkz : s.heap.objs.size ≤ kS := by
    rw [← hkS, size_push']
    have : s.heap.objs.size < L := by rw [← hL]; exact Nat.lt_succ_self _
    exact Nat.le_succ_of_le (Nat.le_of_lt (Nat.lt_trans this hLlt))
  have hLz : s.heap.objs.size ≤ L := by rw [← hL]; exact Nat.le_succ _
  have gL : g0.get? L = some (seqObj "list" #[] e1) := by
    rw [← hg]; exact Heap.get?_push_of_some _ (Heap.get?_push_of_some _ hL1)
  have gk : g0.get? kS = some (seqObj "list" #[] 0) := by
    rw [← hg, ← hkS]; exact Heap.get?_push_size _ rfl
  have nk : H kS = none := I.hok.fresh hkz
  have nL : H L = none := I.hok.fresh hLz
  have fk := I.fpOk hkz nk
  have fL := I.fpOk hLz nL
  have I0 : Inv X pins σ H { s with heap := g0 } := I.kept (t' := s.toks) keep0
  have ncell : ∀ (kA : Array Value) (e : Nat) (v : Option Value), (seqObj "list" kA e).data ≠ .cell v := fun kA e v z => nomatch z
  -- the state behind i keys
  have pinned : ∀ {H' : Hp} {s' : Shared} {kA : Array Value} {e : Nat}, Inv X pins σ H' s' → H' kS = none → H' L = none → s'.heap.get? kS = some (seqObj "list" kA e) → s'.heap.get? L = some (seqObj "list" #[] e1) →
      Inv X (pins ++ [(kS, seqObj "list" kA e), (L, seqObj "list" #[] e1)]) σ H' s' := by
    intro H' s' kA e I' n1 n2 g1 g2
    refine I'.pins_of fun p hp => ?_
    rcases List.mem_append.mp hp with hp | hp
    · exact I'.pin p (List.mem_append_right _ hp)
    · rcases List.mem_cons.mp hp with z | hp
      · rw [z]; exact ⟨g1, n1, fk.2.1, fk.2.2.1, ncell _ _⟩
      · have z : p = (L, seqObj "list" #[] e1) := by simpa using hp
        rw [z]; exact ⟨g2, n2, fL.2.1, fL.2.2.1, ncell _ _⟩
  show wpAny _ _ (PyProof.Rows.ksk_rest L (.ref f) false its.toArray e1 (.ref kS)) _ _ { s with heap := g0 }
  unfold PyProof.Rows.ksk_rest
  refine wpAny_bind (wpAny_rule ?_)
  first
    | rw [List.forIn_toArray]
    | (rw [← Array.forIn_toList]; simp only [List.toList_toArray])
    | rw [← Array.forIn_toList]
  refine wpAny_bind (PyProof.Rows.ksk_fold (fun i s' => ∃ (H' : Hp) (kA : Array Value) (e : Nat) (kvs : List V), Inv X pins σ H' s' ∧ Gr H H' ∧ H' kS = none ∧ H' L = none ∧ s'.heap.get? kS = some (seqObj "list" kA e) ∧ s'.heap.get? L = some (seqObj "list" #[] e1) ∧
      Vals kvs kA.toList ∧ Paired (fun v d => Dp X.K H' v d) kvs ((bs.take i).map fun b => enc b.2)) its 0 _
    ⟨H, #[], 0, [], I0, Gr.refl H, nk, nL, gk, gL, .nil, by rw [List.take_zero]; exact .nil⟩ ?step ?done)
  case step =>
    rintro j x s' hx ⟨H', kA, e, kvs, I', gr, n1, n2, g1, g2, vk, pk⟩
    simp only [Nat.zero_add] at pk ⊢
    have hj : j < its.length := (List.getElem?_eq_some_iff.mp hx).1
    have hjb : j < bs.length := by omega
    have hbj : bs[j]? = some bs[j] := List.getElem?_eq_getElem hjb
    obtain ⟨u, hu, ru⟩ := rv.get (i := j) (x := bs[j].1) (by rw [List.getElem?_map, hbj]; rfl)
    rw [hx] at hu
    cases hu
    have J := pinned I' n1 n2 g1 g2
    have hsp : sp [bs[j].1] H' (fun v H2 => Gr H' H2 ∧ Dp X.K H2 v (enc bs[j].2)) E0 := hkey _ (List.getElem_mem hjb) H' gr _ fun v H2 h1 h2 => ⟨h1, h2⟩
    have hlen : (([x] : List Value) ++ []).length = ps.length := F.len _ _ _ _ hsp
    refine wpAny_bind (wpAny_attempt (wpAny_call (codeAny_mono (F.run X.A.in1.in1 X.stack s' H' ⟨[x], []⟩ ([x] ++ []) [bs[j].1] _ E0 hr2 J.env0.in1.in1 (hb s' [x] J.kIn hlen) (.cons ru .nil) hsp) fun rr s'' hq => ?_)))
    cases rr with
    | error er => exact hq.elim
    | ok fl =>
      cases fl with
      | next => exact False.elim hq
      | brk => exact False.elim hq
      | cont => exact False.elim hq
      | ret u =>
        obtain ⟨v, H2, J2, rv2, gr2, dp2⟩ := J.after hq
        have pk1 := J2.pin (kS, seqObj "list" kA e) (List.mem_append_right _ (List.mem_append_right _ List.mem_cons_self))
        have pL1 := J2.pin (L, seqObj "list" #[] e1) (List.mem_append_right _ (List.mem_append_right _ (List.mem_cons_of_mem _ List.mem_cons_self)))
        have I2 : Inv X pins σ H2 s'' := J2.unpinned
        have hkAz : kA.size ≤ bs.length := by
          have h1 : kvs.length = kA.toList.length := Paired.length vk
          have h2 : kvs.length = ((bs.take j).map fun b => enc b.2).length := Paired.length pk
          have h3 : ((bs.take j).map fun b => enc b.2).length ≤ bs.length := by
            rw [List.length_map, List.length_take]
            exact Nat.min_le_right _ _
          have h4 : kA.toList.length = kA.size := Array.length_toList
          rw [← h4, ← h1, h2]
          exact h3
        have sb := Heap.SameBut.update s''.heap kS (Obj.mapSeq (·.push u))
        obtain ⟨c2, hc2⟩ : ∃ c2, (s''.heap.update kS (Obj.mapSeq (·.push u))).get? kS = some (seqObj "list" (kA.push u) c2) := ⟨_, get?_update_seq pk1.1 (·.push u)⟩
        refine wpAny_bind (listUpdate_at pk1.1 rfl ?_ (Nat.le_trans hkAz hbz) (Nat.le_trans (Nat.le_of_eq (Array.size_push ..)) (Nat.succ_le_succ (Nat.le_trans hkAz hbz))))
        have I3 : Inv X pins σ H2 { s'' with heap := s''.heap.update kS (Obj.mapSeq (·.push u)) } := I2.turned (t' := s''.toks) (fun b o hb e => (sb.2 b hb).trans e) pk1.2.1 fk.2.1 fk.2.2.2.1 fk.2.2.2.2.1 fk.2.2.2.2.2
        refine wpAny_pure ⟨rfl, H2, kA.push u, c2, kvs ++ [v], I3, gr.trans gr2, pk1.2.1, pL1.2.1, hc2, (sb.2 L hkL.symm).trans pL1.1, ?_, ?_⟩
        · rw [Array.toList_push]
          exact vk.append (.cons rv2 .nil)
        · rw [List.take_add_one, hbj, Option.toList_some, List.map_append]
          exact paired_snoc (paired_imp (fun v d h => gr2.dp h) pk) dp2
  case done =>
    rintro s' ⟨H', kA, e, kvs, I', gr, n1, n2, g1, g2, vk, pk⟩
    rw [Nat.zero_add, hil, List.take_length] at pk
    have ek : EachIs (fun u d => ∃ as, PySem.Reads s'.heap u d as) kA.toList (bs.map fun b => enc b.2) := paired_each I' rfl vk pk
    have hsz : kA.size = its.length := by
      have h1 := ek.length
      rw [Array.length_toList, List.length_map] at h1
      omega
    have hal : AllAlike (bs.map fun b => enc b.2) := PySem.W.AllAlike.of fun x y => o.alike _ _
    refine wpAny_bind (listItems_at g1 rfl ?_)
    refine PySem.W.keyH_end (κ := dataKind s'.heap (bs.map fun b => enc b.2)) (h₁ := PySem.W.hideAll s'.heap [kS]) (vs := its) (fun b o _ e => PySem.W.of_hideAll [kS] e) (PySem.W.hideAll_none [kS] List.mem_cons_self) g1 g2 hkL
      (SortsAt.data (s := s') ek hal ((o.comap Prod.snd).sortable bs) (fun d hd => by
        obtain ⟨b, _, rfl⟩ := List.mem_map.mp hd
        have h1 := o.depth b.2
        have h2 := hr.un
        show X.A.units + 1 + 1 + _ < _
        omega)) hsz (by rw [hil]; exact hbz) fun h' tk c kp hat => ⟨rfl, ?_⟩
    have ko : KeyedOut false (bs.map fun b => enc b.2) its (sortVals (dataKind s'.heap (bs.map fun b => enc b.2)) false kA.toList its) := ⟨s'.heap, kA.toList, hal, rfl, ek⟩
    have hout := PySem.W.keyedOut_each (fun b : V × γ => enc b.2) ko e0
    have keepB : ∀ b u, b ≠ L → b ≠ kS → s'.heap.get? b = some u → h'.get? b = some u := by
      intro b u h1 h2 e
      exact kp b u h1 (PySem.W.hideAll_get [kS] e (by simpa using h2))
    have nT : ∀ b u, H' b = some u → b ≠ L ∧ b ≠ kS := by
      intro b u e
      exact ⟨fun z => (by rw [z, n2] at e; cases e), fun z => (by rw [z, n1] at e; cases e)⟩
    have there : ∃ u, h'.get? kS = some u ∨ h'.get? kS = none := by
      cases z : h'.get? kS with
      | none => exact ⟨seqObj "list" #[] 0, .inr rfl⟩
      | some u => exact ⟨u, .inl rfl⟩
    have hylen : ((bs.mergeSort (dataLe false fun b => enc b.2)).map (·.1)).length ≤ sizeLine := by
      rw [List.length_map, List.length_mergeSort]; exact hbz
    refine ⟨.ref L, upd H' L (.lst ((bs.mergeSort (dataLe false fun b => enc b.2)).map (·.1))), ?_, rfl, q H' L gr n2⟩
    refine I'.step (g' := s'.gens) (t' := tk) (d' := s'.drawn) (ch := [kS, L]) (fun b hb => ?_) (fun b o h1 h2 hc e n => ?_) (fun b o h1 h2 hc e n => ?_) (fun b o hc e n => ?_) (fun b o hc e => ?_) (fun b xs e => ?_) (fun b o u e => ?_) (fun b qs e => ?_) (fun m hm => ?_) (fun b u e => ?_) I'.bare
    · rcases List.mem_cons.mp hb with z | hb
      · rw [z]; exact ⟨fk.2.2.2.1, fk.2.1, fk.2.2.2.2.1, fk.2.2.2.2.2⟩
      · have z : b = L := by simpa using hb
        rw [z]; exact ⟨fL.2.2.2.1, fL.2.1, fL.2.2.2.2.1, fL.2.2.2.2.2⟩
    · exact keepB b o (fun z => hc (by rw [z]; simp)) (fun z => hc (by rw [z]; simp)) e
    · exact ⟨o.slots, keepB b o (fun z => hc (by rw [z]; simp)) (fun z => hc (by rw [z]; simp)) e⟩
    · rw [upd_ne (fun z => hc (by rw [z]; simp))]; exact n
    · exact ⟨o, keepB b o (fun z => hc (by rw [z]; simp)) (fun z => hc (by rw [z]; simp)) e⟩
    · rw [upd_ne (nT b _ e).1]; exact e
    · rw [upd_ne (nT b _ e).1]; exact e
    · exact ⟨#[], by rw [upd_ne (nT b _ e).1, e]; simp⟩
    · obtain ⟨o', es, ep, ho, rr⟩ := hm
      exact ⟨o', es, ep, keepB _ o' (Ne.symm fL.2.1) (Ne.symm fk.2.1) ho, rr⟩
    · by_cases hbL : b = L
      · subst hbL
        rw [upd_same] at e
        cases e
        exact ⟨hylen, _, c, vals_each hout, hat⟩
      · rw [upd_ne hbL] at e
        refine (I'.hok b u e).stay (fun c' v hc' qq => ?_) (fun c' qq => by rw [upd_ne (nT c' _ qq).1]; exact qq) fun c' xs qq => by rw [upd_ne (nT c' _ qq).1]; exact qq
        rcases hc' with z | z
        · rw [z] at qq ⊢
          exact keepB b v (nT b _ e).1 (nT b _ e).2 qq
        · exact keepB c' v (nT c' _ z).1 (nT c' _ z).2 qq
end
end Skx
end
section
set_option maxHeartbeats 4000000
/-! {k: v for ..} whose keys are tuples of ints and texts. -/
namespace Dcx
open PySem PySem.Spec PyProof.Rows L2
theorem put_tup {X : Cx} {pins : List (Addr × Obj)} {σ : L2.St} {H : Hp} {s : Shared} {E : Value → Shared → Prop} {D b : Addr} {kvs : List (List Key × V)} {k : List Key} {v : V} {r : Value} {Q : Unit → Shared → Prop} (hu : X.A.units + 1 < cLine)
    (I : Inv X pins σ H s) (hD : H D = some (.dT kvs)) (hb : H b = some (.tup (k.map kV))) (hz : kvs.length < sizeLine) (rv : RelV v r) (h : ∀ s', Inv X pins σ (upd H D (.dT (putK kvs k v))) s' → Q () s') :
    wpAny (model X.prog X.w) X.A (dictSet D (.ref b) r) Q E s := by
  obtain ⟨z, hd, xs, rel, dd⟩ := dt_of I.hok hD
  have hxs : xs.length ≤ sizeLine := by
    rw [← Paired.length rel]; exact z
  have hl : (putK kvs k v).length ≤ sizeLine := by
    have := length_putK kvs k v
    omega
  refine wpAny_dictSet_heap (hsz := hxs) (show X.A.units < cLine by omega) (key_of I.hok hb) dd fun h' dd' sb => h _ ?_
  obtain ⟨q, es, ep, e1, e2, e3, e4, _, e5⟩ := dd'
  refine d_write I (by rw [hD]; exact True.intro) sb ⟨q, e1⟩ ⟨hl, hd, _, (rel.put k hb rv).keeps fun c ys ec => ?_, q, es, ep, e1, e2, e3, e4, e5⟩
  rw [upd_ne (ne_of ec hD fun z => nomatch z)]
  exact ec
section
variable {X : Cx}
/-- D: the new dict; a turn's key is a tuple at b -/
def tDt (wi : TI) (g : TG) (tt : TT) (tk tv : TE) (vs : List Nat) : TE := fun σ H Q => wi σ H fun J H1 => ∀ D, H1 D = none → ∃ W : Nat → Nat → Hp → Prop, (∃ m, W 0 m (upd H1 D (.dT []))) ∧ ∀ i m H, W i m H →
  (J.stop i H ∧ Q (.ref D) H) ∨ (J.go i H ∧ ∀ x H', J.yld i H x H' → g x (wipe σ vs) H' fun σ2 H2 => wipe σ2 vs = wipe σ vs ∧ tt σ2 H2 fun c H3 =>
    if c = true then tk σ2 H3 fun y H4 => tv σ2 H4 fun z H5 => ∃ kvs k b, y = .ref b ∧ H5 b = some (.tup (k.map kV)) ∧ H5 D = some (.dT kvs) ∧ kvs.length < sizeLine ∧ ∃ m', m' < m ∧ W (i + 1) m' (upd H5 D (.dT (putK kvs k z)))
    else ∃ m', m' < m ∧ W (i + 1) m' H3)
abbrev blkE (X : Cx) (scope : Scope) (s : Shared) : Env := compEnvC scope (cellsFrom (s.heap.objs.size + 1) scope.names (cloFrom X.env.cells scope.names [])) s.heap.objs.size X.env
theorem dt_core {pins : List (Addr × Obj)} {s : Shared} {σ : L2.St} {H : Hp} {Q : VK} {kx vx tg iter : Expr} {ifs : List Expr} {scope : Scope} {own : List (Str × Nat)} {pos pos' : Pos} {wi : TI} {g : TG} {tt : TT} {tk tv : TE} {use : Option (Value → Sem Unit)} {Qf : Value → Shared → Prop}
    (hu : X.A.units + 1 < cLine) (hc : X.calm = true) (hN : X.N.Nodup) (I : Inv X pins σ H s) (hi : PI X tg iter wi) (ok : BlkOk X.N X.env.scope scope own)
    (hg : ∀ (s : Shared) (H : Hp) (C : Addr) (cl : List (Str × Addr)) (fp : List Addr), PG (X.blk s H scope (compEnvC scope cl C X.env) fp) tg g)
    (ht : ∀ (s : Shared) (H : Hp) (C : Addr) (cl : List (Str × Addr)) (fp : List Addr), PTs (X.blk s H scope (compEnvC scope cl C X.env) fp) ifs tt)
    (hk : ∀ (s : Shared) (H : Hp) (C : Addr) (cl : List (Str × Addr)) (fp : List Addr), PE (X.blk s H scope (compEnvC scope cl C X.env) fp) kx tk)
    (he : ∀ (s : Shared) (H : Hp) (C : Addr) (cl : List (Str × Addr)) (fp : List Addr), PE (X.blk s H scope (compEnvC scope cl C X.env) fp) vx tv) (hs : ∀ x, foldedSetIterable iter X.env x = pure x)
    (h : tDt wi g tt tk tv (own.map (·.2)) σ H Q)
    (hRR : ∀ D C s' m H', Inv X pins σ H' s' → Q (.ref D) H' → s'.heap.Ns C m → FpOk X pins H' C → compPost (model X.prog X.w) X.A X.xe use Qf (.ref D) C (.ok .next) s') :
    wpAny (model X.prog X.w) X.A (comprehension (.DictComp kx vx [⟨tg, iter, ifs, 0⟩] scope pos) scope X.env pos' newDict false (eval iter X.env) use) Qf X.xe s := by
  have hfree : ∀ y ∈ scope.names, y.2 = .free → ∃ c, X.env.cells.lookup y.1 = some c := by
    intro y hy e
    rcases ok.free y hy e with z | z
    · exact I.ok.has _ (.inl z)
    · exact I.ok.has _ (.inr z)
  refine wpAny_comprehension_free (use := use) rfl hs (closure_ok hfree) ok.kind (fun y hy e => by rw [ok.uniq y hy, e]) (thn (hi.run pins s σ H _ I h) fun _ _ hx => thn hx fun itv s2 h2 => ?_)
  obtain ⟨it, fp, tn, J, H2, e, I2, T, st2, f2, q⟩ := h2
  subst e
  refine wpAny_newObj_type (newEnv_comp ?_)
  generalize hD : s2.heap.objs.size = D
  have nD : H2 D = none := I2.hok.fresh (Nat.le_of_eq hD)
  obtain ⟨W, ⟨m0, w0⟩, turn⟩ := q D nD
  generalize hs3 : ({ s2 with heap := s2.heap.push { cls := .type "dict", data := .dict #[] } } : Shared) = s3
  have h3 : s3.heap = s2.heap.push { cls := .type "dict", data := .dict #[] } := by subst hs3; rfl
  have I3 : Inv X pins σ (upd H2 D (.dT [])) s3 := by
    subst hs3 hD
    exact I2.laid (t' := s2.toks) (fun _ _ e => Heap.get?_push_of_some _ e) (Nat.le_refl _) (dt_empty s2.heap I2.big)
  have f3 : ∀ b ∈ fp, FpOk X pins (upd H2 D (.dT [])) b ∧ b < s3.heap.objs.size := by
    intro b hb
    obtain ⟨o, e, _⟩ := T.obj _ _ st2 b hb
    have lt := Heap.lt_size e
    refine ⟨⟨?_, (f2 b hb).2⟩, ?_⟩
    · rw [upd_ne (by subst hD; exact Nat.ne_of_lt lt)]
      exact (f2 b hb).1
    · rw [h3, Heap.size_push]
      exact Nat.lt_succ_of_lt lt
  have st3 : tn 0 s3.heap := T.keep _ _ _ st2 fun b _ o e => by
    rw [h3]; exact Heap.get?_push_of_some _ e
  have I4 := block_start I3 ok hN f3
  show codeAny _ _ (.compStart (.DictComp kx vx [⟨tg, iter, ifs, 0⟩] scope pos) 0 (.ref it) (.ref D) (blkE X scope s3)) (compPost (model X.prog X.w) X.A X.xe use Qf (.ref D) s3.heap.objs.size) { s3 with heap := pushCells (s3.heap.push { cls := .type "dict", data := .dict #[] }) scope.names }
  generalize hce : blkE X scope s3 = ce
  rw [show compEnvC scope (cellsFrom (s3.heap.objs.size + 1) scope.names (cloFrom X.env.cells scope.names [])) s3.heap.objs.size X.env = ce from hce] at I4
  have pg := hg s3 (upd H2 D (.dT [])) s3.heap.objs.size (cellsFrom (s3.heap.objs.size + 1) scope.names (cloFrom X.env.cells scope.names [])) fp
  have pt := ht s3 (upd H2 D (.dT [])) s3.heap.objs.size (cellsFrom (s3.heap.objs.size + 1) scope.names (cloFrom X.env.cells scope.names [])) fp
  have pk := hk s3 (upd H2 D (.dT [])) s3.heap.objs.size (cellsFrom (s3.heap.objs.size + 1) scope.names (cloFrom X.env.cells scope.names [])) fp
  have pe := he s3 (upd H2 D (.dT [])) s3.heap.objs.size (cellsFrom (s3.heap.objs.size + 1) scope.names (cloFrom X.env.cells scope.names [])) fp
  rw [show compEnvC scope (cellsFrom (s3.heap.objs.size + 1) scope.names (cloFrom X.env.cells scope.names [])) s3.heap.objs.size X.env = ce from hce] at pg pt pk pe
  have cL : ce.locals = s3.heap.objs.size := by subst hce; rfl
  have n3 : ∀ b ∈ fp, (upd H2 D (.dT [])) b = none := fun b hb => (f3 b hb).1.1
  generalize hH3 : upd H2 D (.dT []) = H3 at I3 I4 pg pt pk pe w0 n3 f3
  generalize hs4 : ({ s3 with heap := pushCells (s3.heap.push { cls := .type "dict", data := .dict #[] }) scope.names } : Shared) = s4 at I4 ⊢
  have st4 : tn 0 s4.heap := T.keep _ _ _ st3 fun b _ o e => by
    subst hs4
    exact pushCells_keeps _ _ _ _ (Heap.get?_push_of_some _ e)
  have stat : ∀ {σ' : L2.St} {H' : Hp} {s' : Shared}, Inv (X.blk s3 H3 scope ce fp) [] σ' H' s' → (∀ b ∈ fp, H' b = none) → ∀ b ∈ fp, FpOk (X.blk s3 H3 scope ce fp) [] H' b := by
    intro σ' H' s' I' hn b hb
    refine ⟨hn b hb, (I'.ok.exf b hb).1, I'.ok.exfs b hb, .inl hb, fun x c e => (I'.ok.exf b hb).2 x c e, fun p hp => ?_⟩
    have hp : p ∈ ([] : List (Addr × Obj)) ++ [] := hp
    simp at hp
  have loop : codeAny (model X.prog X.w) X.A (.compLoop (.DictComp kx vx [⟨tg, iter, ifs, 0⟩] scope pos) 0 (.ref it) (.ref D) ce) (compPost (model X.prog X.w) X.A X.xe use Qf (.ref D) s3.heap.objs.size) s4 := ?loop
  exact codeAny_compStart_dict loop (T.self X.A 0 _ _ _ st4 loop)
  refine compLoop_anyD (fun n s' => ∃ i H', Inv (X.blk s3 H3 scope ce fp) [] (wipe σ (own.map (·.2))) H' s' ∧ tn i s'.heap ∧ (∀ b ∈ fp, H' b = none) ∧ W i n H') ?_ m0 ⟨0, H3, I4, st4, n3, w0⟩
  rintro n s5 ⟨i, H5, I5, st5, n5, w5⟩
  rcases turn i n H5 w5 with ⟨stop, qq⟩ | ⟨go, step⟩
  · refine thnF (T.done (X.blk s3 H3 scope ce fp) rfl rfl rfl hc i [] s5 _ H5 (fun _ _ => False) I5 (stat I5 n5) st5 stop) fun r s6 ⟨hr, I6⟩ => ?_
    subst hr
    have I7 : Inv X pins σ H5 s6 := I3.call' (ch := fp) I6.os I6.base I6.hok I6.bare fun b hb => by
      obtain ⟨z0, z1, z2, z3, z4, z5⟩ := (f3 b hb).1
      exact ⟨z3, z1, z4, z5⟩
    have nC : H5 s3.heap.objs.size = none := by
      have z : H5 ce.locals = none := I6.free
      rw [cL] at z; exact z
    obtain ⟨m, hn, _⟩ := I6.loc
    have hn : s6.heap.Ns ce.locals m := hn
    rw [cL] at hn
    exact hRR D s3.heap.objs.size s6 m H5 I7 qq hn (I3.fpOk (Nat.le_refl _) nC)
  · refine thnF (T.item (X.blk s3 H3 scope ce fp) rfl rfl rfl hc i [] s5 _ H5 (fun _ _ => False) I5 (stat I5 n5) st5 go) fun r s6 ⟨u, hr, h6⟩ => ?_
    subst hr
    refine thnF h6 fun _ s7 ⟨x, H7, I7, r7, y7, st7, n7⟩ => ?_
    have I7' := I7.pinned (stat I7 n7) (T.obj _ _ st7)
    refine thnF (pg.run _ s7 _ H7 x u _ I7' r7 (step x H7 y7)) fun _ s8 ⟨σ8, H8, I8, hw8, q8⟩ => ?_
    refine thnF (pt.run _ s8 σ8 H8 _ I8 q8) fun c s9 ⟨H9, I9, q9⟩ => ?_
    have fin : ∀ {s' : Shared} {H' : Hp}, Inv (X.blk s3 H3 scope ce fp) ([] ++ pinsAt fp s7.heap) σ8 H' s' → (∃ m', m' < n ∧ W (i + 1) m' H') →
        ∃ m, m < n ∧ ∃ i H', Inv (X.blk s3 H3 scope ce fp) [] (wipe σ (own.map (·.2))) H' s' ∧ tn i s'.heap ∧ (∀ b ∈ fp, H' b = none) ∧ W i m H' := by
      intro s' H' I' ⟨m', hm, w'⟩
      have pin' : ∀ b ∈ fp, ∀ o, s7.heap.get? b = some o → s'.heap.get? b = some o ∧ H' b = none := by
        intro b hb o e
        have z := I'.pin (b, o) (List.mem_append_right _ (List.mem_append_right _ (mem_pinsAt hb e)))
        exact ⟨z.1, z.2.1⟩
      have hl : (wipe σ (own.map (·.2))).length = σ8.length := by rw [← hw8, wipe_length]
      refine ⟨m', hm, i + 1, H', (I'.unpinned (pins := [])).weak hl (fun j v e => ?_), T.keep _ _ _ st7 fun b hb o e => (pin' b hb o e).1, fun b hb => ?_, w'⟩
      · rw [← hw8] at e
        exact (wipe_some e).1
      · obtain ⟨o, e, _⟩ := T.obj _ _ st7 b hb
        exact (pin' b hb o e).2
    cases c with
    | false =>
      simp only [Bool.false_eq_true, if_false] at q9 ⊢
      exact fin I9 q9
    | true =>
      simp only [if_true] at q9 ⊢
      refine thnF (pk.run _ s9 σ8 H9 _ I9 q9) fun z s10 ⟨yk, H10, I10, r10, q10⟩ => ?_
      refine thnF (pe.run _ s10 σ8 H10 _ I10 q10) fun z2 s11 ⟨yv, H11, I11, r11, kvs, k, b, ek, hb11, hD11, hz11, nx⟩ => ?_
      subst ek
      cases (show z = Value.ref b from r10)
      exact put_tup (X := X.blk s3 H3 scope ce fp) hu I11 hD11 hb11 hz11 r11 fun s12 I12 => fin I12 nx
variable {kx vx tg iter : Expr} {ifs : List Expr} {scope : Scope} {own : List (Str × Nat)} {pos spos : Pos} {wi : TI} {g : TG} {tt : TT} {tk tv : TE}
/-- name = {..}, the name a local, on one line -/
theorem ps_setDt {i : Nat} {y : Str} {py : Pos} (hu : X.A.units + 1 < cLine) (hc : X.calm = true) (hN : X.N.Nodup) (hy : X.N[i]? = some y) (hyl : X.env.scope.names.lookup y = some .local)
    (hsw : swapsWith (.DictComp kx vx [⟨tg, iter, ifs, 0⟩] scope pos) (some (.Name y py)) spos.line X.env = pure true) (hi : PI X tg iter wi) (ok : BlkOk X.N X.env.scope scope own)
    (hg : ∀ (s : Shared) (H : Hp) (C : Addr) (cl : List (Str × Addr)) (fp : List Addr), PG (X.blk s H scope (compEnvC scope cl C X.env) fp) tg g)
    (ht : ∀ (s : Shared) (H : Hp) (C : Addr) (cl : List (Str × Addr)) (fp : List Addr), PTs (X.blk s H scope (compEnvC scope cl C X.env) fp) ifs tt)
    (hk : ∀ (s : Shared) (H : Hp) (C : Addr) (cl : List (Str × Addr)) (fp : List Addr), PE (X.blk s H scope (compEnvC scope cl C X.env) fp) kx tk)
    (he : ∀ (s : Shared) (H : Hp) (C : Addr) (cl : List (Str × Addr)) (fp : List Addr), PE (X.blk s H scope (compEnvC scope cl C X.env) fp) vx tv) (hs : ∀ x, foldedSetIterable iter X.env x = pure x := by intro _; rfl) :
    PS X (.Assign [.Name y py] (.DictComp kx vx [⟨tg, iter, ifs, 0⟩] scope pos) spos) (tAsg (tDt wi g tt tk tv (own.map (·.2))) (gName i)) := by
  refine ⟨fun pins s σ H D I h => ?_⟩
  rw [exec_Assign_Name_used _ _ _ _ hsw]
  refine wpAny_bind (wpAny_standAt (wpAny_bind ?_))
  show wpAny _ X.A (do let _ ← comprehension (.DictComp kx vx [⟨tg, iter, ifs, 0⟩] scope pos) scope X.env (firstIterPos [⟨tg, iter, ifs, 0⟩] pos) newDict false (eval iter X.env) (some (assign (.Name y py) X.env))) _ _ s
  have h : tDt wi g tt tk tv (own.map (·.2)) σ H (fun x H1 => gName i x σ H1 D.nx) := h
  refine wpAny_bind (thn (dt_core (Qf := fun _ s' => SP X pins D .next s') hu hc hN I hi ok hg ht hk he hs h fun L C s' m H' I' q hn f => ?_) fun _ s' hq => wpAny_pure (wpAny_pure hq))
  show wpAny _ _ (assign (.Name y py) X.env (.ref L)) _ _ _
  refine wpAny_assign_Name (store_ok2 (v := V.ref L) I' hN hy (.inl hyl) rfl (fun s2 I2 ⟨a, sb, ha⟩ => ?_) (.inr hyl))
  obtain ⟨f0, f1, f2, f3, f4, f5⟩ := f
  have haC : C ≠ a := by
    rcases ha with z | z
    · rw [z]; exact f1
    · exact fun e => f4 y a z e.symm
  refine ⟨m, hn.sameBut sb haC, fun h3 sb3 => ?_⟩
  exact ⟨_, H', I2.turned (t' := s2.toks) (fun b o hb e => (sb3.2 b hb).trans e) f0 f1 f3 f4 f5, q⟩
theorem swd_true {l : Nat} {y : Str} {py : Pos} {env : Env} (hk : env.scope.kind = .function) (hy : env.scope.names.lookup y = some .local) (hl : (py.line == pos.line) = true)
    (ha : (scope.names.any fun (n, k) => n == y && (k == .local || k == .cell)) = false) {gs : List Comprehension} : swapsWith (.DictComp kx vx gs scope pos) (some (.Name y py)) l env = pure true := by
  have ky : env.kindOf y = some .local := hy
  have hb : env.blockKind = .function := by
    unfold Env.blockKind
    rw [hk]; rfl
  unfold swapsWith
  simp only [hb, ky, ha, Expr.pos, hl]
  rfl
end
end Dcx
end
section
set_option maxHeartbeats 8000000
namespace K1
open PySem PySem.Spec PyProof.Rows L2 Gr GxR
abbrev FnP (K : PySem.W.Frag) (x : Str) (st : Stmt) (f : Addr) (fd : FuncData) : Prop := FunD K x x (defArgs st) (defBody st) (defScope st) [] [] f fd
/-- the def's code object is known: it is the one its table hangs on -/
theorem okC {P : Program} {w : World} {K : PySem.W.Frag} {mg : Str → Option Value} {base : Heap} {x qual : Str} {params : Arguments} {body : List Stmt} {scope : Scope} {dvs : List V} {kws : List (Str × V)} {fd : FuncData} {p : He.Defn} {CX : CXT} {N ps : List Str} {k : Nat} {sp : Sp}
    (F : FunD K x qual params body scope dvs kws (He.fAd K p) fd) (S : FnScope N ps scope) (len : ∀ vs H Q E, sp vs H Q E → vs.length = ps.length)
    (hbody : ∀ (A : Around) (outer : List Env) (s : Shared) (H : Hp) (vs : List V) (Q : VK) (E : XK), Room k (A.deeper (envOfC qual scope s.heap.objs.size (He.fAd K p) (.ref (He.cT K p).1))) → sp vs H Q E →
      ∃ t, PSs (cxOf CX P w K mg base N qual scope (He.fAd K p) (.ref (He.cT K p).1) A outer s H E) body t ∧ t { nx := fun _ H' => Q .non H', rt := Q } (start N vs) H) : FnOk P w K mg base CX (k + 1) (He.fAd K p) fd ps sp := by
  obtain ⟨oc, od, dV, kV, doc, pm, an, cdv, ct, osl, rfl, lk, hcd, _, _⟩ := F.ex
  obtain ⟨c, rfl⟩ := He.codeIn_ref hcd
  have e : (He.cT K p).1 = c := He.codeOf_eq lk rfl
  rw [e] at hbody
  exact fn_of lk hcd S len fun A outer s H vs Q E hr hsp => hbody A outer s H vs Q E hr hsp
theorem inV_str (x : Str) (xs : List Str) : inV (.str x) (xs.map V.str) = xs.contains x := by
  unfold inV
  induction xs with
  | nil => rfl
  | cons y r ih =>
    rw [List.map_cons, List.any_cons, List.contains_cons, ih]
    show ((y == x) || _) = _
    rw [BEq.comm]
theorem flat_str (xs : List Str) : (xs.map V.str).all flatV = true := by
  rw [List.all_eq_true]
  intro v hv
  obtain ⟨x, _, rfl⟩ := List.mem_map.mp hv
  rfl
theorem get_map {α β : Type} {f : α → β} {xs : List α} {i : Nat} {v : β} (h : (xs.map f)[i]? = some v) : ∃ x, xs[i]? = some x ∧ v = f x := by
  rw [List.getElem?_map] at h
  cases e : xs[i]? with
  | none => rw [e] at h; cases h
  | some x =>
    rw [e] at h
    exact ⟨x, rfl, (Option.some.inj h).symm⟩
end K1
namespace K1
open PySem PySem.Spec PyProof.Rows L2 Gr GxR
section
variable {P : Program} {w : World} {K : PySem.W.Frag} {mg : Str → Option Value} {base : Heap} {f : Addr} {fd : FuncData}
def spDraw (K : PySem.W.Frag) : Sp := fun vs H Q _ => ∃ (a : Addr) (ns : List Int) (k : Nat), vs = [.ref a, .int (k : Int)] ∧ SqL K H a (ns.map V.int) ∧ Q (.int (ns.getD k 0)) H
def spLMeets (K : PySem.W.Frag) : Sp := fun vs H Q _ => ∃ (a b : Addr) (xs ys : List Str), vs = [.ref a, .ref b] ∧ SqL K H a (xs.map V.str) ∧ SqL K H b (ys.map V.str) ∧ Q (.bl (xs.any ys.contains)) H
theorem any_at {p : Str → Bool} {xs : List Str} {i : Nat} {x : Str} (h : xs[i]? = some x) : (xs.take (i + 1)).any p = ((xs.take i).any p || p x) := by
  rw [List.take_add_one, h, List.any_append]
  simp
theorem all_at {p : Str → Bool} {xs : List Str} {i : Nat} {x : Str} (h : xs[i]? = some x) : (xs.take (i + 1)).all p = ((xs.take i).all p && p x) := by
  rw [List.take_add_one, h, List.all_append]
  simp
def spLWithin (K : PySem.W.Frag) : Sp := fun vs H Q _ => ∃ (a b : Addr) (xs ys : List Str), vs = [.ref a, .ref b] ∧ SqL K H a (xs.map V.str) ∧ SqL K H b (ys.map V.str) ∧ Q (.bl (xs.all ys.contains)) H
def spTruth : Sp := fun vs H Q _ => ∃ (a b : Bool), vs = [.bl a, .bl b] ∧ Q (.bl (a == b)) H
def rk (xs : List Str) : PyData := .tuple [.int xs.length, .list (xs.map PyData.str)]
def spRank (K : PySem.W.Frag) : Sp := fun vs H Q _ => ∃ (a : Addr) (xs : List Str), vs = [.ref a] ∧ SqL K H a (xs.map V.str) ∧ ∀ v H', Gr H H' → Dp K H' v (rk xs) → Q v H'
theorem dp_strs {K : PySem.W.Frag} {H : Hp} (xs : List Str) : DpAll K H (xs.map V.str) (xs.map PyData.str) := by
  induction xs with
  | nil => exact .nil
  | cons x r ih => exact .cons (.str x) ih
end
end K1
namespace Gx
open PySem PySem.Spec PyProof.Rows L2 GxR
theorem gx_list {K : PySem.W.Frag} {a : Addr} {xs : List V} {P : Addr} {stp : Bool} {g : TG} {tt : TT} {te : TE} {vs : List Nat} {σ : L2.St} {H1 : Hp} {Qs Qn : Hp → Prop} (hT : TabG H1 P) (Pv : Nat → Hp → Prop) (h0 : ∀ H2, Tabbed P H1 H2 → Pv 0 H2) (hl : ∀ i H, i ≤ xs.length → Pv i H → SqL K H a xs)
    (hs : ∀ i x H (Nx : Hp → Prop), (∀ H', Pv (i + 1) H' → Nx H') → xs[i]? = some x → Pv i H → g x (wipe σ vs) H fun σ2 H3 => wipe σ2 vs = wipe σ vs ∧ tt σ2 H3 fun c H4 =>
      if c = true then te σ2 H4 fun y H5 => ∃ b, y = .bl b ∧ (b = stp → Qs H5) ∧ (b ≠ stp → Nx H5) else Nx H4) (hd : ∀ H, Pv xs.length H → Qn H) :
    TabG H1 P ∧ ∀ H2, Tabbed P H1 H2 → ∃ W : Nat → Nat → Hp → Prop, (∃ m, W 0 m H2) ∧ ∀ i m H, W i m H →
      ((Itl K a).stop i H ∧ Qn H) ∨ ((Itl K a).go i H ∧ ∀ x H', (Itl K a).yld i H x H' → g x (wipe σ vs) H' fun σ2 H3 => wipe σ2 vs = wipe σ vs ∧ tt σ2 H3 fun c H4 =>
        if c = true then te σ2 H4 fun y H5 => ∃ b, y = .bl b ∧ (b = stp → Qs H5) ∧ (b ≠ stp → ∃ m', m' < m ∧ W (i + 1) m' H5) else ∃ m', m' < m ∧ W (i + 1) m' H4) := by
  refine ⟨hT, fun H2 t2 => ⟨fun i m H => m = xs.length - i ∧ i ≤ xs.length ∧ Pv i H, ⟨xs.length, by simp, Nat.zero_le _, h0 H2 t2⟩, ?_⟩⟩
  rintro i m H ⟨rfl, hi, p⟩
  have q := hl i H hi p
  by_cases hlt : i < xs.length
  · refine .inr ⟨⟨xs, xs[i], q, by simp [hlt]⟩, fun x H' y => ?_⟩
    obtain ⟨e, y⟩ := y
    subst e
    exact hs i x _ _ (fun H6 p6 => ⟨xs.length - (i + 1), by omega, rfl, hlt, p6⟩) (y xs q) p
  · have e : i = xs.length := by omega
    subst e
    exact .inl ⟨⟨xs, q, Nat.le_refl _⟩, hd H p⟩
end Gx
namespace K1
open PySem PySem.Spec PyProof.Rows L2 Gr GxR Srx
theorem yesIf {A B : Hp → Prop} {σ : L2.St} {H : Hp} (h : A H) : tYes σ H fun c H4 => if c = true then A H4 else B H4 := h
theorem hu64 {k : Nat} {A : Around} (hr : Room k A) : A.units + 64 < cLine := by
  have := hr.un
  omega
section
variable {P : Program} {w : World} {K : PySem.W.Frag} {mg : Str → Option Value} {base : Heap} {f : Addr} {fd : FuncData} {p : He.Defn}
abbrev Tb (K : PySem.W.Frag) (base : Heap) (mg : Str → Option Value) (p : He.Defn) : Prop := TabB base mg (He.cT K p).1 (He.cT K p).2
def spWithin (K : PySem.W.Frag) (T : Addr) : Sp := fun vs H Q _ => ∃ (a b : Addr) (xs ys : List Str), vs = [.ref a, .ref b] ∧ SqL K H a (xs.map V.str) ∧ SqL K H b (ys.map V.str) ∧ TabG H T ∧ ∀ H', Gr H H' → Q (.bl (xs.all ys.contains)) H'
def gexp : Stmt → Scope
  | .FunctionDef (body := [.Return (some (.Call _ [.GeneratorExp _ _ s _] _ _)) _]) .. => s
  | _ => ⟨.function, [], false, false, []⟩
def spMeets (K : PySem.W.Frag) (T : Addr) : Sp := fun vs H Q _ => ∃ (a b : Addr) (xs ys : List Str), vs = [.ref a, .ref b] ∧ SqL K H a (xs.map V.str) ∧ SqL K H b (ys.map V.str) ∧ TabG H T ∧ ∀ H', Gr H H' → Q (.bl (xs.any ys.contains)) H'
/-- a list's names in order, each once -/
def once (xs : List Str) : List Str := srt (Sx.dd xs)
def spOnce (K : PySem.W.Frag) : Sp := fun vs H Q _ => ∃ (a : Addr) (xs : List Str), vs = [.ref a] ∧ SqL K H a (xs.map V.str) ∧ xs.length ≤ 1000 ∧ ∀ p H', Gr H H' → H p = none → H' p = some (.lst ((once xs).map V.str)) → Q (.ref p) H'
end
end K1
namespace Gx
open PySem PySem.Spec PyProof.Rows L2 GxR
theorem gx_text {x : Str} {P : Addr} {stp : Bool} {g : TG} {tt : TT} {te : TE} {vs : List Nat} {σ : L2.St} {H1 : Hp} {Qs Qn : Hp → Prop} (hT : TabG H1 P) (Pv : Nat → Hp → Prop) (h0 : ∀ H2, Tabbed P H1 H2 → Pv 0 H2)
    (hs : ∀ i c H (Nx : Hp → Prop), (∀ H', Pv (i + 1) H' → Nx H') → x.cps.toList[i]? = some c → Pv i H → g (.str ⟨#[c]⟩) (wipe σ vs) H fun σ2 H3 => wipe σ2 vs = wipe σ vs ∧ tt σ2 H3 fun c H4 =>
      if c = true then te σ2 H4 fun y H5 => ∃ b, y = .bl b ∧ (b = stp → Qs H5) ∧ (b ≠ stp → Nx H5) else Nx H4) (hd : ∀ H, Pv x.cps.toList.length H → Qn H) :
    TabG H1 P ∧ ∀ H2, Tabbed P H1 H2 → ∃ W : Nat → Nat → Hp → Prop, (∃ m, W 0 m H2) ∧ ∀ i m H, W i m H →
      ((Its x).stop i H ∧ Qn H) ∨ ((Its x).go i H ∧ ∀ v H', (Its x).yld i H v H' → g v (wipe σ vs) H' fun σ2 H3 => wipe σ2 vs = wipe σ vs ∧ tt σ2 H3 fun c H4 =>
        if c = true then te σ2 H4 fun y H5 => ∃ b, y = .bl b ∧ (b = stp → Qs H5) ∧ (b ≠ stp → ∃ m', m' < m ∧ W (i + 1) m' H5) else ∃ m', m' < m ∧ W (i + 1) m' H4) := by
  refine ⟨hT, fun H2 t2 => ⟨fun i m H => m = x.cps.size - i ∧ i ≤ x.cps.size ∧ Pv i H, ⟨x.cps.size, by simp, Nat.zero_le _, h0 H2 t2⟩, ?_⟩⟩
  rintro i m H ⟨rfl, hi, p⟩
  by_cases hlt : i < x.cps.size
  · refine .inr ⟨hlt, fun v H' y => ?_⟩
    obtain ⟨e, c, hc, rfl⟩ := y
    subst e
    exact hs i c _ _ (fun H6 p6 => ⟨x.cps.size - (i + 1), by omega, rfl, hlt, p6⟩) (by rw [Array.getElem?_toList]; exact hc) p
  · have e : i = x.cps.size := by omega
    subst e
    exact .inl ⟨Nat.le_refl _, hd H (by rw [Array.length_toList]; exact p)⟩
end Gx
namespace K1
open PySem PySem.Spec PyProof.Rows L2 Gr GxR Srx
def small (c : Nat) : Bool := decide (97 ≤ c) && decide (c ≤ 122)
/-- a text of 1 to 8 small letters -/
def isNm (x : Str) : Bool := decide (1 ≤ x.length) && (decide (x.length ≤ 8) && x.cps.toList.all small)
def nmV : V → Bool
  | .str x => isNm x
  | _ => false
def strV : V → Bool
  | .str _ => true
  | _ => false
/-- a thing whose kind is_name can ask -/
def Thing (K : PySem.W.Frag) (H : Hp) (v : V) : Prop := ∃ t : String, TyX K H v (.type t) ∧ kitB t "str" = some (strV v) ∧ (∀ x, v = .str x → x.length ≤ sizeLine)
theorem lt_one (c d : Nat) : (([c] : List Nat) < [d]) ↔ c < d := by
  rw [List.cons_lt_cons_iff]
  constructor
  · rintro (h | ⟨_, h⟩)
    · exact h
    · exact absurd h (List.not_lt_nil _)
  · exact .inl
section
variable {P : Program} {w : World} {K : PySem.W.Frag} {mg : Str → Option Value} {base : Heap} {f : Addr} {fd : FuncData} {p : He.Defn}
def spIsName (K : PySem.W.Frag) (T : Addr) : Sp := fun vs H Q _ => ∃ v, vs = [v] ∧ Thing K H v ∧ TabG H T ∧ ∀ H', Gr H H' → Q (.bl (nmV v)) H'
def gexp2 : Stmt → Scope
  | .FunctionDef (body := [_, .Return (some (.Call _ [.GeneratorExp _ _ s _] _ _)) _]) .. => s
  | _ => ⟨.function, [], false, false, []⟩
end
end K1
namespace K1
open PySem PySem.Spec PyProof.Rows L2 Gr GxR Srx
open PySem.W (dataLe dataLt DatumOrd Datum)
def leR (a b : List Str) : Bool := dataLe false rk a b
theorem leR_eq (a b : List Str) : leR a b = !dataLt (rk b) (rk a) := rfl
theorem toD_eq (xs : List Str) : (Datum.toD ((xs.length : Int), xs) : PyData) = rk xs := rfl
theorem str_anti {a b : Str} (h1 : decide (a.cps.toList < b.cps.toList) = false) (h2 : decide (b.cps.toList < a.cps.toList) = false) : a = b := by
  have h1 := of_decide_eq_false h1
  have h2 := of_decide_eq_false h2
  exact PySem.W.str_of_cps (List.le_antisymm h2 h1)
theorem listLt_anti : ∀ (xs ys : List Str), PySem.W.listLt xs ys = false → PySem.W.listLt ys xs = false → xs = ys
  | [], [], _, _ => rfl
  | [], y :: ys, h, _ => by cases (show true = false from h)
  | x :: xs, [], _, h => by cases (show true = false from h)
  | x :: xs, y :: ys, h1, h2 => by
    unfold PySem.W.listLt at h1 h2
    by_cases e : x = y
    · rw [if_pos e] at h1
      rw [if_pos e.symm] at h2
      rw [e, listLt_anti xs ys h1 h2]
    · rw [if_neg e] at h1
      rw [if_neg (fun z => e z.symm)] at h2
      exact absurd (str_anti h1 h2) e
theorem leR_anti {a b : List Str} (h1 : leR a b = true) (h2 : leR b a = true) : a = b := by
  rw [leR_eq, Bool.not_eq_true'] at h1 h2
  rw [← toD_eq, ← toD_eq, DatumOrd.lt_eq] at h1 h2
  have h1 : (if (b.length : Int) = a.length then PySem.W.listLt b a else decide ((b.length : Int) < a.length)) = false := h1
  have h2 : (if (a.length : Int) = b.length then PySem.W.listLt a b else decide ((a.length : Int) < b.length)) = false := h2
  by_cases e : (a.length : Int) = b.length
  · rw [if_pos e.symm] at h1
    rw [if_pos e] at h2
    exact listLt_anti a b h2 h1
  · rw [if_neg (fun z => e z.symm)] at h1
    rw [if_neg e] at h2
    have := of_decide_eq_false h1
    have := of_decide_eq_false h2
    omega
theorem leR_trans {a b c : List Str} (h1 : leR a b = true) (h2 : leR b c = true) : leR a c = true := by
  rw [leR_eq, Bool.not_eq_true'] at *
  by_cases z : dataLt (rk c) (rk a) = true
  · rcases PyProof.Rows.lex_negTrans _ (PySem.W.keyToks (rk b)) _ z with y | y
    · rw [show dataLt (rk c) (rk b) = true from y] at h2
      cases h2
    · rw [show dataLt (rk b) (rk a) = true from y] at h1
      cases h1
  · simpa using z
theorem leR_total (a b : List Str) : (leR a b || leR b a) = true := by
  rw [leR_eq, leR_eq]
  cases h : dataLt (rk b) (rk a) with
  | false => rfl
  | true =>
    cases h2 : dataLt (rk a) (rk b) with
    | false => rfl
    | true =>
      have := PyProof.Rows.lex_trans _ _ _ (show PyProof.Rows.lexLt _ _ _ = true from h) (show PyProof.Rows.lexLt _ _ _ = true from h2)
      have e := PySem.W.dataLt_self (rk b)
      rw [show dataLt (rk b) (rk b) = true from this] at e
      cases e
def rkd (xss : List (List Str)) : List (List Str) := xss.mergeSort leR
theorem rkd_perm (xss : List (List Str)) : (rkd xss).Perm xss := List.mergeSort_perm _ _
theorem rkd_sorted (xss : List (List Str)) : (rkd xss).Pairwise (fun a b => leR a b = true) := List.pairwise_mergeSort (le := leR) (fun _ _ _ h1 h2 => leR_trans h1 h2) leR_total xss
theorem rkd_one {xs ys : List (List Str)} (p : xs.Perm ys) (h1 : xs.Pairwise (fun a b => leR a b = true)) (h2 : ys.Pairwise (fun a b => leR a b = true)) : xs = ys :=
  List.Perm.eq_of_pairwise (fun a b _ _ z1 z2 => leR_anti z1 z2) h1 h2 p
section
variable {α : Type} [DecidableEq α]
def once1 (acc : List α) (x : α) : List α := if x ∈ acc then acc else acc ++ [x]
def ddG (xs : List α) : List α := xs.foldl once1 []
theorem ddG_snoc (xs : List α) (x : α) : ddG (xs ++ [x]) = once1 (ddG xs) x := by
  unfold ddG
  rw [List.foldl_append]
  rfl
theorem once1_mem {acc : List α} {x y : α} : y ∈ once1 acc x ↔ y ∈ acc ∨ y = x := by
  unfold once1
  split
  · rename_i h
    exact ⟨.inl, fun z => z.elim id fun e => e ▸ h⟩
  · simp
theorem once1_nodup {acc : List α} {x : α} (h : acc.Nodup) : (once1 acc x).Nodup := by
  unfold once1
  split
  · exact h
  · rename_i hx
    refine List.nodup_append.mpr ⟨h, by simp, fun a ha b hb e => ?_⟩
    have hb : b = x := by simpa using hb
    rw [e, hb] at ha
    exact hx ha
theorem fold1_mem : ∀ (xs acc : List α) (y : α), y ∈ xs.foldl once1 acc ↔ y ∈ acc ∨ y ∈ xs
  | [], acc, y => by simp
  | x :: xs, acc, y => by
    rw [List.foldl_cons, fold1_mem xs, once1_mem, List.mem_cons, or_assoc]
theorem fold1_nodup : ∀ (xs acc : List α), acc.Nodup → (xs.foldl once1 acc).Nodup
  | [], _, h => h
  | _ :: xs, _, h => fold1_nodup xs _ (once1_nodup h)
theorem fold1_sub : ∀ (xs acc : List α), List.Sublist (xs.foldl once1 acc) (acc ++ xs)
  | [], acc => by rw [List.append_nil]; exact List.Sublist.refl _
  | x :: xs, acc => by
    rw [List.foldl_cons]
    refine (fold1_sub xs _).trans ?_
    unfold once1
    split
    · exact List.Sublist.append (List.Sublist.refl _) (List.sublist_cons_self _ _)
    · rw [List.append_assoc]
      exact List.Sublist.refl _
theorem ddG_mem {xs : List α} {y : α} : y ∈ ddG xs ↔ y ∈ xs := by
  unfold ddG
  rw [fold1_mem]
  simp
theorem ddG_nodup (xs : List α) : (ddG xs).Nodup := fold1_nodup xs [] List.nodup_nil
theorem ddG_sub (xs : List α) : List.Sublist (ddG xs) xs := fold1_sub xs []
theorem ddG_len (xs : List α) : (ddG xs).length ≤ xs.length := (ddG_sub xs).length_le
end
theorem rkd_dd (xss : List (List Str)) : rkd (ddG xss) = ddG (rkd xss) := by
  refine rkd_one ((rkd_perm _).trans ?_) (rkd_sorted _) ((rkd_sorted xss).sublist (ddG_sub _))
  refine (List.perm_ext_iff_of_nodup (ddG_nodup _) (ddG_nodup _)).mpr fun q => ?_
  rw [ddG_mem, ddG_mem, (rkd_perm xss).mem_iff]
def wi (a b : List Str) : Bool := a.all b.contains
def keep (acc : List (List Str)) (x : List Str) : List (List Str) := if acc.any (fun l => wi l x) = true then acc else acc ++ [x]
theorem wi_self (x : List Str) : wi x x = true := List.all_eq_true.mpr fun y hy => List.contains_iff_mem.mpr hy
theorem keep_any {acc : List (List Str)} {x y : List Str} (h : acc.any (fun l => wi l y) = true) : (keep acc x).any (fun l => wi l y) = true := by
  unfold keep
  split
  · exact h
  · rw [List.any_append, h]
    rfl
theorem keep_self (acc : List (List Str)) (x : List Str) : (keep acc x).any (fun l => wi l x) = true := by
  unfold keep
  split
  · assumption
  · rw [List.any_append]
    simp [wi_self]
theorem fold_any : ∀ (l acc : List (List Str)) (y : List Str), (acc.any (fun l => wi l y) = true ∨ y ∈ l) → (l.foldl keep acc).any (fun l => wi l y) = true
  | [], acc, y, h => h.elim id fun z => nomatch z
  | x :: l, acc, y, h => by
    refine fold_any l _ y ?_
    rcases h with h | h
    · exact .inl (keep_any h)
    · rcases List.mem_cons.mp h with e | h
      · rw [e]
        exact .inl (keep_self acc x)
      · exact .inr h
theorem snoc_ind {α : Type} {p : List α → Prop} (h0 : p []) (h1 : ∀ xs x, p xs → p (xs ++ [x])) : ∀ xs, p xs := by
  intro xs
  rw [← List.reverse_reverse xs]
  induction xs.reverse with
  | nil => exact h0
  | cons x r ih =>
    rw [List.reverse_cons]
    exact h1 _ _ ih
theorem keep_dd (l : List (List Str)) : (ddG l).foldl keep [] = l.foldl keep [] := by
  refine snoc_ind (p := fun l => (ddG l).foldl keep [] = l.foldl keep []) rfl (fun xs x ih => ?_) l
  rw [ddG_snoc, List.foldl_append]
  show _ = keep (xs.foldl keep []) x
  unfold once1
  split
  · rename_i h
    rw [ih]
    have z := fold_any xs [] x (.inr (ddG_mem.mp h))
    exact (if_pos z).symm
  · rw [List.foldl_append, ih]
    rfl
/-- least_of's sets, told -/
def least (xss : List (List Str)) : List (List Str) := (rkd (ddG xss)).foldl keep []
theorem least_eq (xss : List (List Str)) : least xss = (rkd xss).foldl keep [] := by
  unfold least
  rw [rkd_dd, keep_dd]
end K1
namespace K1
open PySem PySem.Spec PyProof.Rows L2 Gr GxR Srx Skx
open PySem.W (dataLe dataLt DatumOrd Datum)
/-- p: a new list of new lists: ps tells where they stand and what they are -/
structure Told (H H' : Hp) (p : Addr) (ps : List (Addr × List Str)) : Prop where
  new : H p = none
  at_ : H' p = some (.lst (ps.map fun q => V.ref q.1))
  own : ∀ q ∈ ps, H q.1 = none ∧ q.1 ≠ p ∧ H' q.1 = some (.lst (q.2.map V.str))
  nd : (ps.map (·.1)).Nodup
theorem Told.nil {H H1 : Hp} {p : Addr} (h : H p = none) : Told H (upd H1 p (.lst [])) p [] :=
  { new := h, at_ := upd_same, own := (fun q z => absurd z List.not_mem_nil), nd := List.nodup_nil }
theorem Told.snoc {H H2 : Hp} {D l : Addr} {ps : List (Addr × List Str)} {x : List Str} (T : Told H H2 D ps) (g : Gr H H2) (hl : H2 l = none) : Told H (upd (upd H2 l (.lst (x.map V.str))) D (.lst ((ps.map fun q => V.ref q.1) ++ [V.ref l]))) D (ps ++ [(l, x)]) := by
  have nD : D ≠ l := ne_of_none T.at_ hl
  refine ⟨T.new, ?_, fun q hq => ?_, ?_⟩
  · rw [upd_same, List.map_append]
    rfl
  · rcases List.mem_append.mp hq with hq | hq
    · obtain ⟨h1, h2, h3⟩ := T.own q hq
      refine ⟨h1, h2, ?_⟩
      rw [upd_ne h2, upd_ne (ne_of_none h3 hl)]
      exact h3
    · have e : q = (l, x) := by simpa using hq
      subst e
      refine ⟨g.free hl, nD.symm, ?_⟩
      rw [upd_ne nD.symm, upd_same]
  · rw [List.map_append]
    refine List.nodup_append.mpr ⟨T.nd, by simp, fun a ha b hb e => ?_⟩
    have hb : b = l := by simpa using hb
    obtain ⟨q, hq, rfl⟩ := List.mem_map.mp ha
    have h3 := (T.own q hq).2.2
    rw [e, hb, hl] at h3
    cases h3
theorem Told.gr {H H' H2 : Hp} {p : Addr} {ps : List (Addr × List Str)} (T : Told H H' p ps) (g : Gr H' H2) : Told H H2 p ps :=
  ⟨T.new, g.lst T.at_, fun q hq => ⟨(T.own q hq).1, (T.own q hq).2.1, g.lst (T.own q hq).2.2⟩, T.nd⟩
theorem Told.from {H0 H H' : Hp} {p : Addr} {ps : List (Addr × List Str)} (T : Told H H' p ps) (g : Gr H0 H) : Told H0 H' p ps :=
  ⟨g.free T.new, T.at_, fun q hq => ⟨g.free (T.own q hq).1, (T.own q hq).2⟩, T.nd⟩
theorem take_map {α β : Type} {f : α → β} {xs : List α} {i : Nat} {x : α} (h : xs[i]? = some x) : (xs.take (i + 1)).map f = (xs.take i).map f ++ [f x] := by
  rw [List.take_add_one, h, List.map_append]
  rfl
theorem lc_fresh {K : PySem.W.Frag} {a D : Addr} {j : Nat} {σ : L2.St} {vs : List Nat} {te : TE} {H H1 : Hp} {Qd : Hp → Prop} {ps0 : List (Addr × List Str)} (F : List Str → List Str)
    (hA : SqL K H a (ps0.map fun q => V.ref q.1)) (few : ps0.length < sizeLine) (gr : Gr H H1) (hD : H1 D = none) (hw : ∀ v, wipe ((wipe σ vs).set j (some v)) vs = wipe σ vs)
    (he : ∀ q ∈ ps0, ∀ (H4 : Hp) (Q' : VK), Gr H H4 → (∀ l, H4 l = none → Q' (.ref l) (upd H4 l (.lst ((F q.2).map V.str)))) → te ((wipe σ vs).set j (some (.ref q.1))) H4 Q')
    (q : ∀ H2 ps, Gr H H2 → Told H H2 D ps → ps.map (·.2) = ps0.map (fun q => F q.2) → Qd H2) :
    ∃ W : Nat → Nat → Hp → Prop, (∃ m, W 0 m (upd H1 D (.lst []))) ∧ ∀ i m H, W i m H →
      ((Itl K a).stop i H ∧ Qd H) ∨ ((Itl K a).go i H ∧ ∃ Nx : Hp → Prop, (∀ H', Nx H' → ∃ m', m' < m ∧ W (i + 1) m' H') ∧ ∀ x H', (Itl K a).yld i H x H' → gName j x (wipe σ vs) H' fun σ2 H2 => wipe σ2 vs = wipe σ vs ∧ tYes σ2 H2 fun b H3 =>
        if b = true then te σ2 H3 fun y H4 => ∃ acc, H4 D = some (.lst acc) ∧ acc.length < sizeLine ∧ Nx (upd H4 D (.lst (acc ++ [y]))) else Nx H3) := by
  have hD0 : H D = none := gr.free hD
  refine lc_list (xs := ps0.map fun q => V.ref q.1) (Qd := Qd) (fun i H2 => Gr H H2 ∧ ∃ ps, Told H H2 D ps ∧ ps.map (·.2) = (ps0.take i).map (fun q => F q.2)) ⟨gr.mut hD0, [], Told.nil hD0, rfl⟩ (fun i H2 _ h => h.1.seq hA) (fun i x H2 hx h => ?_) (fun H2 h => ?_)
  · obtain ⟨g2, ps, T, e⟩ := h
    obtain ⟨q0, hq0, rfl⟩ := get_map hx
    refine ⟨hw _, yesIf (he q0 (List.mem_of_getElem? hq0) H2 _ g2 fun l hl => ⟨_, ?_, ?_, g2.trans (Gr.new hl) |>.mut hD0, ps ++ [(l, F q0.2)], T.snoc g2 hl, ?_⟩)⟩
    · rw [upd_ne (ne_of_none T.at_ hl)]
      exact T.at_
    · rw [List.length_map]
      have h1 : ps.length = ((ps0.take i).map (fun q => F q.2)).length := by rw [← e, List.length_map]
      rw [h1, List.length_map, List.length_take]
      omega
    · rw [List.map_append, e, take_map hq0]
      rfl
  · obtain ⟨g2, ps, T, e⟩ := h
    rw [List.length_map, List.take_length] at e
    exact q H2 ps g2 T e
section
variable {P : Program} {w : World} {K : PySem.W.Frag} {mg : Str → Option Value} {base : Heap} {f fR : Addr} {fd fdR : FuncData} {p : He.Defn}
theorem ordRk : Ord rk := ⟨fun x y => by rw [← toD_eq, ← toD_eq]; exact DatumOrd.alike _ _, .inl fun x => ⟨_, _, rfl⟩, fun x => by
  rw [← toD_eq]
  exact Nat.le_trans (Datum.depth_le _) (by decide)⟩
/-- a list or tuple of texts -/
def Sq (K : PySem.W.Frag) (H : Hp) (a : Addr) (xs : List Str) : Prop := SqL K H a (xs.map V.str) ∨ SqT K H a (xs.map V.str)
theorem Sq.gr {H H' : Hp} {a : Addr} {xs : List Str} (h : Sq K H a xs) (g : Gr H H') : Sq K H' a xs := h.imp (fun z => g.seq z) fun z => g.seqT z
def rListOf (K : PySem.W.Frag) : List V → Hp → VK → Prop := fun xs H Q => ∃ p ys, xs = [V.ref p] ∧ (SqL K H p ys ∨ SqT K H p ys) ∧ ∀ l, H l = none → Q (.ref l) (upd H l (.lst ys))
def spRanked (K : PySem.W.Frag) : Sp := fun vs H Q _ => ∃ (a : Addr) (ps0 : List (Addr × List Str)), vs = [.ref a] ∧ SqL K H a (ps0.map fun q => V.ref q.1) ∧ (∀ q ∈ ps0, Sq K H q.1 q.2) ∧ ps0.length < sizeLine ∧
  ∀ p H' ps, Gr H H' → Told H H' p ps → ps.map (·.2) = rkd (ps0.map (·.2)) → Q (.ref p) H'
end
end K1
namespace Dcx
open PySem PySem.Spec PyProof.Rows L2
theorem dt_list {K : PySem.W.Frag} {a : Addr} {xs : List V} {g : TG} {tt : TT} {tk tv : TE} {vs : List Nat} {σ : L2.St} {H1 : Hp} {D : Addr} {Qd : Hp → Prop} (Pv : Nat → Hp → Prop) (h0 : Pv 0 (upd H1 D (.dT []))) (hl : ∀ i H, i ≤ xs.length → Pv i H → SqL K H a xs)
    (hs : ∀ i x H (Nx : Hp → Prop), (∀ H', Pv (i + 1) H' → Nx H') → xs[i]? = some x → Pv i H → g x (wipe σ vs) H fun σ2 H2 => wipe σ2 vs = wipe σ vs ∧ tt σ2 H2 fun c H3 =>
      if c = true then tk σ2 H3 fun y H4 => tv σ2 H4 fun z H5 => ∃ kvs k b, y = .ref b ∧ H5 b = some (.tup (k.map kV)) ∧ H5 D = some (.dT kvs) ∧ kvs.length < sizeLine ∧ Nx (upd H5 D (.dT (putK kvs k z))) else Nx H3) (hd : ∀ H, Pv xs.length H → Qd H) :
    ∃ W : Nat → Nat → Hp → Prop, (∃ m, W 0 m (upd H1 D (.dT []))) ∧ ∀ i m H, W i m H →
      ((Itl K a).stop i H ∧ Qd H) ∨ ((Itl K a).go i H ∧ ∀ x H', (Itl K a).yld i H x H' → g x (wipe σ vs) H' fun σ2 H2 => wipe σ2 vs = wipe σ vs ∧ tt σ2 H2 fun c H3 =>
        if c = true then tk σ2 H3 fun y H4 => tv σ2 H4 fun z H5 => ∃ kvs k b, y = .ref b ∧ H5 b = some (.tup (k.map kV)) ∧ H5 D = some (.dT kvs) ∧ kvs.length < sizeLine ∧ ∃ m', m' < m ∧ W (i + 1) m' (upd H5 D (.dT (putK kvs k z))) else ∃ m', m' < m ∧ W (i + 1) m' H3) := by
  refine ⟨fun i m H => m = xs.length - i ∧ i ≤ xs.length ∧ Pv i H, ⟨xs.length, by simp, Nat.zero_le _, h0⟩, ?_⟩
  rintro i m H ⟨rfl, hi, p⟩
  have q := hl i H hi p
  by_cases hlt : i < xs.length
  · refine .inr ⟨⟨xs, xs[i], q, by simp [hlt]⟩, fun x H' y => ?_⟩
    obtain ⟨e, y⟩ := y
    subst e
    exact hs i x _ (fun H6 => ∃ m', m' < xs.length - i ∧ m' = xs.length - (i + 1) ∧ i + 1 ≤ xs.length ∧ Pv (i + 1) H6) (fun H6 p6 => ⟨xs.length - (i + 1), by omega, rfl, hlt, p6⟩) (y xs q) p
  · have e : i = xs.length := by omega
    subst e
    exact .inl ⟨⟨xs, q, Nat.le_refl _⟩, hd H p⟩
end Dcx
namespace K1
open PySem PySem.Spec PyProof.Rows L2 Gr GxR Srx Skx Dcx
def kvT (l : List (List Str)) : List (List Key × V) := l.map fun x => (x.map Sum.inr, V.bl true)
theorem inr_inj : ∀ {x y : List Str}, x.map (Sum.inr : Str → Key) = y.map Sum.inr → x = y
  | [], [], _ => rfl
  | [], _ :: _, h => by cases h
  | _ :: _, [], h => by cases h
  | a :: x, b :: y, h => by
    rw [List.map_cons, List.map_cons] at h
    injection h with h1 h2
    injection h1 with h1
    rw [h1, inr_inj h2]
theorem put_once (l : List (List Str)) (x : List Str) : putK (kvT l) (x.map Sum.inr) (V.bl true) = kvT (once1 l x) := by
  unfold putK kvT once1
  by_cases h : x ∈ l
  · rw [if_pos h, if_pos]
    · rw [List.map_map]
      refine List.map_congr_left fun y hy => ?_
      show (if _ then _ else _) = _
      split <;> rfl
    · rw [List.any_eq_true]
      exact ⟨_, List.mem_map.mpr ⟨x, h, rfl⟩, decide_eq_true rfl⟩
  · rw [if_neg h, if_neg]
    · rw [List.map_append]
      rfl
    · intro z
      rw [List.any_eq_true] at z
      obtain ⟨q, hq, e⟩ := z
      obtain ⟨y, hy, rfl⟩ := List.mem_map.mp hq
      have e := inr_inj (of_decide_eq_true e)
      rw [e] at hy
      exact h hy
theorem kV_inr (x : List Str) : (x.map (Sum.inr : Str → Key)).map kV = x.map V.str := by
  rw [List.map_map]
  rfl
theorem keys_ps {H : Hp} : ∀ {l : List (List Str)} {bs : List Addr}, IsKeys H (kvT l) bs → ∃ ps : List (Addr × List Str), bs.map V.ref = ps.map (fun q => V.ref q.1) ∧ ps.map (·.2) = l ∧ ∀ q ∈ ps, H q.1 = some (.tup (q.2.map V.str))
  | [], bs, h => by
    have h : Paired _ ([] : List (List Key × V)) bs := h
    cases h
    exact ⟨[], rfl, rfl, fun _ z => absurd z List.not_mem_nil⟩
  | x :: l, bs, h => by
    have h : Paired _ ((x.map Sum.inr, V.bl true) :: kvT l) bs := h
    cases h with
    | cons h1 h2 =>
      rename_i b bs
      obtain ⟨ps, e1, e2, e3⟩ := keys_ps h2
      refine ⟨(b, x) :: ps, by rw [List.map_cons, List.map_cons, e1], by rw [List.map_cons, e2], fun q hq => ?_⟩
      rcases List.mem_cons.mp hq with e | hq
      · rw [e]
        have h1 : H b = some (.tup ((x.map Sum.inr).map kV)) := h1
        rw [kV_inr] at h1
        exact h1
      · exact e3 q hq
theorem small60 {n : Nat} (h : n ≤ 60000) : n < sizeLine := Nat.lt_of_le_of_lt h (by decide)
def rTupOf (K : PySem.W.Frag) : List V → Hp → VK → Prop := fun xs H Q => ∃ p ys, xs = [V.ref p] ∧ ((SqL K H p ys ∧ ∀ l, H l = none → Q (.ref l) (upd H l (.tup ys))) ∨ (SqT K H p ys ∧ Q (.ref p) H))
section
variable {P : Program} {w : World} {K : PySem.W.Frag} {mg : Str → Option Value} {base : Heap} {f fR fO : Addr} {fd fdR fdO fdW : FuncData} {p pW : He.Defn}
def spLeast (K : PySem.W.Frag) (T T2 : Addr) : Sp := fun vs H Q _ => ∃ (a : Addr) (ps0 : List (Addr × List Str)), vs = [.ref a] ∧ SqL K H a (ps0.map fun q => V.ref q.1) ∧ (∀ q ∈ ps0, SqL K H q.1 (q.2.map V.str) ∧ q.2.length ≤ 1000) ∧ ps0.length ≤ 60000 ∧ TabG H T ∧ TabG H T2 ∧
  ∀ p H' ps, Gr H H' → Told H H' p ps → ps.map (·.2) = least ((ps0.map (·.2)).map once) → Q (.ref p) H'
end
end K1
namespace K1
open PySem PySem.Spec PyProof.Rows L2 Gr GxR Srx Skx Dcx
theorem for_enum {K : PySem.W.Frag} {a : Addr} {xs : List V} {g : TG} {tb : TS} {D : Ends} {σ : L2.St} {H : Hp} (Pv : Nat → L2.St → Hp → Prop) (h0 : Pv 0 σ H) (hl : ∀ i σ H, i ≤ xs.length → Pv i σ H → SqL K H a xs)
    (hs : ∀ i x T σ H, xs[i]? = some x → Pv i σ H → H T = none → g (.ref T) σ (upd H T (.tup [.int (i : Nat), x])) fun σ2 H2 => tb { D with nx := Pv (i + 1), ct := Pv (i + 1), bk := D.nx } σ2 H2) (hd : ∀ σ H, Pv xs.length σ H → D.nx σ H) :
    ∃ W : Nat → Nat → L2.St → Hp → Prop, (∃ m, W 0 m σ H) ∧ ∀ i m σ H, W i m σ H →
      ((Ite K a).stop i H ∧ D.nx σ H) ∨ ((Ite K a).go i H ∧ ∃ N : L2.St → Hp → Prop, (∀ σ' H', N σ' H' → ∃ m', m' < m ∧ W (i + 1) m' σ' H') ∧ ∀ x H', (Ite K a).yld i H x H' → g x σ H' fun σ2 H2 => tb { D with nx := N, ct := N, bk := D.nx } σ2 H2) := by
  refine ⟨fun i m σ H => m = xs.length - i ∧ i ≤ xs.length ∧ Pv i σ H, ⟨xs.length, by simp, Nat.zero_le _, h0⟩, ?_⟩
  rintro i m σ H ⟨rfl, hi, p⟩
  have q := hl i σ H hi p
  by_cases hlt : i < xs.length
  · refine .inr ⟨⟨xs, xs[i], q, by simp [hlt]⟩, Pv (i + 1), fun σ' H' p' => ⟨xs.length - (i + 1), by omega, rfl, hlt, p'⟩, fun x H' y => ?_⟩
    obtain ⟨T, z, rfl, hT, rfl, y⟩ := y
    exact hs i z T σ H (y xs q) p hT
  · have e : i = xs.length := by omega
    subst e
    exact .inl ⟨⟨xs, q, Nat.le_refl _⟩, hd σ H p⟩
theorem tyx_gr {K : PySem.W.Frag} {H H' : Hp} (g : Gr H H') {v : V} {t : Value} (h : TyX K H v t) : TyX K H' v t := by
  cases h with
  | base h =>
    refine .base ?_
    cases h with
    | non => exact .non
    | bl x => exact .bl x
    | int i => exact .int i
    | str x => exact .str x
    | flt x => exact .flt x
    | lst e => exact .lst (g.lst e)
    | frz e => exact .frz (g.at_ _ _ e notbl_frz)
    | tup e => exact .tup (g.tup e)
    | dK e => exact .dK (g.at_ _ _ e fun _ z => nomatch z)
    | dT e => exact .dT (g.at_ _ _ e fun _ z => nomatch z)
    | ins e a b c d f => exact .ins (g.at_ _ _ e fun _ z => nomatch z) a b c d f
  | byt b => exact .byt b
  | set e => exact .set (g.at_ _ _ e fun _ z => nomatch z)
  | kList e c => exact .kList e c
  | kTuple e c => exact .kTuple e c
  | kDict e c => exact .kDict e c
  | fTuple e => exact .fTuple (g.at_ _ _ e notbl_frz)
  | fDict e => exact .fDict (g.at_ _ _ e notbl_frz)
theorem Thing.gr {K : PySem.W.Frag} {H H' : Hp} (g : Gr H H') {v : V} (h : Thing K H v) : Thing K H' v := by
  obtain ⟨t, ty, k, l⟩ := h
  exact ⟨t, tyx_gr g ty, k, l⟩
/-- an own error class, as it stands: made by its name, raised -/
structure ErrC (K : PySem.W.Frag) (mg : Str → Option Value) (x : Str) (C : Addr) : Prop where
  gC : mg x = some (.ref C)
  xC : PySem.W.excIn K C [.type "ValueError", .type "Exception", .type "BaseException", .type "object"] "ValueError.__new__" = true
  kC : PySem.W.keepIn K (.ref C) = true
  bC : PySem.W.subIn K (.ref C) (.type "BaseException") = some true
  tC : PySem.W.typeIn K (.ref C) = some (.type "type")
section
variable {P : Program} {w : World} {K : PySem.W.Frag} {mg : Str → Option Value} {base : Heap} {f fO C : Addr} {fd fdO fdI : FuncData} {p pI : He.Defn}
def spRising (K : PySem.W.Frag) (T C : Addr) : Sp := fun vs H Q E => ∃ (a : Addr) (vls : List V), vs = [.ref a] ∧ SqL K H a vls ∧ (∀ v ∈ vls, Thing K H v) ∧ vls.length ≤ 1000 ∧ TabG H T ∧
  ((∃ xs : List Str, vls = xs.map V.str ∧ xs.all isNm = true ∧ ∀ p H', Gr H H' → H p = none → H' p = some (.lst ((once xs).map V.str)) → Q (.ref p) H') ∨ ((∃ v ∈ vls, nmV v = false) ∧ ∀ H', Gr H H' → E (.ref C) none H'))
theorem strlen_le (x : Str) (n : Nat) (h : x.length = n) (hn : n ≤ 100) : x.length ≤ 100 := by omega
end
end K1
namespace K1
open PySem PySem.Spec PyProof.Rows L2 Gr GxR Srx Skx Dcx
def rIsC (K : PySem.W.Frag) (cls : Value) (d : Option Addr) (D a : Addr) : List V → Hp → VK → Prop := fun xs H Q => cls = .ref D ∧ d = none ∧ ∃ (c : V) (cv : Value) (b : Bool), xs = [.ref a, c] ∧ ClsV c cv ∧ PySem.W.kitOne K (.ref D) cv = some b ∧ Q (.bl b) H
theorem call_isC {X : Cx} {a D : Addr} {oe : Obj} {pn : List (Addr × Obj)} {cls : Value} {d : Option Addr} (C : ExcC X.K D) (hz : Zc cls d oe) (hf : ∃ vs, oe.data = .fields vs) : CallR (X.suite a ((a, oe) :: pn)) (.builtin "isinstance") (rIsC X.K cls d D a) := by
  intro pins s σ H xs us Q I r h
  obtain ⟨rfl, rfl, c, cv, b, e1, k, e, q⟩ := h
  exact call_isE C hz hf pins s σ H xs us Q I r ⟨c, cv, b, e1, fun u ru => k.eq ru, e, q⟩
def rIsCT (K : PySem.W.Frag) (cls : Value) (d : Option Addr) (D a : Addr) : List V → Hp → VK → Prop := fun xs H Q => cls = .ref D ∧ d = none ∧ ∃ (tp : Addr) (cs : List V) (us : List Value) (b : Bool), xs = [.ref a, .ref tp] ∧ H tp = some (.tup cs) ∧ Paired ClsV cs us ∧ PySem.W.kitAny K (.ref D) us = some b ∧ Q (.bl b) H
theorem call_isCT {X : Cx} {a D : Addr} {oe : Obj} {pn : List (Addr × Obj)} {cls : Value} {d : Option Addr} (C : ExcC X.K D) (hz : Zc cls d oe) (hf : ∃ vs, oe.data = .fields vs) : CallR (X.suite a ((a, oe) :: pn)) (.builtin "isinstance") (rIsCT X.K cls d D a) := by
  intro pins s σ H xs us Q I r h
  obtain ⟨rfl, rfl, tp, cs, ws, b, rfl, hT, k, e, q⟩ := h
  obtain ⟨u1, u2, rfl, r1, r2⟩ := vals2 r
  cases (show u1 = Value.ref a from r1)
  cases (show u2 = Value.ref tp from r2)
  obtain ⟨hget, _⟩ := I.pin (a, oe) (List.mem_append.mpr (.inl List.mem_cons_self))
  obtain ⟨vs, hv⟩ := hf
  have J : PySem.W.InstAt s.heap a oe D none := by
    obtain ⟨oc, od, oda, osl⟩ := oe
    obtain ⟨h1, h2⟩ := hz
    dsimp only at h1 h2 hv
    subst h1 h2 hv
    exact ⟨hget, rfl, rfl, trivial⟩
  obtain ⟨_, its, rv, o, h1, h2, n, h3⟩ := (show ObjOk _ _ H s.heap tp (.tup cs) from I.hok tp _ hT)
  have e3 := ClsV.all k rv
  subst e3
  obtain ⟨oc, od, dt, sl⟩ := o
  simp only at h2 h3
  subst h2 h3
  exact PySem.W.kia_tup (PySem.W.handS_kitx_exc C.hg C.hk C.hs C.hd C.ha C.hn C.ht C.hm) I.kIn J h1 e (fun z => nomatch z) fun tk => ⟨.bl b, H, I.kept (t' := tk) fun _ _ z => z, rfl, q⟩
/-- what the law's look at a refusal takes of the error classes -/
structure RefC (K : PySem.W.Frag) (mg : Str → Option Value) (C M c1 c2 c3 c4 c5 : Addr) : Prop where
  gM : mg "MeetError" = some (.ref M)
  gC : mg "BadName" = some (.ref C)
  g1 : mg "BadRow" = some (.ref c1)
  g2 : mg "NoRow" = some (.ref c2)
  g3 : mg "TooMany" = some (.ref c3)
  g4 : mg "NoMeet" = some (.ref c4)
  g5 : mg "Unread" = some (.ref c5)
  e : PySem.W.exmOne K (.ref C) (.ref M) = some true
  k5 : PySem.W.kitAny K (.ref C) [.ref c1, .ref c2, .ref c3, .ref c4, .ref c5] = some false
  kC : PySem.W.kitOne K (.ref C) (.ref C) = some true
  kV : PySem.W.kitOne K (.ref C) (.type "ValueError") = some true
  ex : ExcC K C
section
variable {P : Program} {w : World} {K : PySem.W.Frag} {mg : Str → Option Value} {base : Heap} {f fS C M c1 c2 c3 c4 c5 : Addr} {fd fdS : FuncData} {p : He.Defn} {T : Addr}
def spRefused (K : PySem.W.Frag) (T : Addr) : Sp := fun vs H Q _ => ∃ (a : Addr) (vls : List V), vs = [.ref a] ∧ SqL K H a vls ∧ (∀ v ∈ vls, Thing K H v) ∧ vls.length ≤ 1000 ∧ TabG H T ∧ (∃ v ∈ vls, nmV v = false) ∧ ∀ H', Gr H H' → Q (.bl true) H'
end
end K1
namespace K1
open PySem PySem.Spec PyProof.Rows L2 Gr GxR Srx
open PySem.W (dataLe dataLt DatumOrd Datum)
def dS (xs : List Str) : PyData := .list (xs.map PyData.str)
def dSS (xss : List (List Str)) : PyData := .list (xss.map dS)
/-- names, all of them -/
def Nms (xs : List Str) : Prop := ∀ x ∈ xs, isNm x = true
theorem nm_ok {x : Str} (h : isNm x = true) : PyData.strOk x = true := by
  unfold isNm at h
  rw [Bool.and_eq_true, Bool.and_eq_true] at h
  show (x.cps.all (· < 0x110000)) = true
  rw [← Array.all_toList, List.all_eq_true]
  intro c hc
  have z := List.all_eq_true.mp h.2.2 c hc
  unfold small at z
  rw [Bool.and_eq_true, decide_eq_true_iff, decide_eq_true_iff] at z
  exact decide_eq_true (by omega)
theorem nm_len {x : Str} (h : isNm x = true) : x.length ≤ 8 := by
  unfold isNm at h
  rw [Bool.and_eq_true, Bool.and_eq_true] at h
  exact of_decide_eq_true h.2.1
theorem canL_strs : ∀ xs : List Str, Nms xs → PyData.canLayAll0 (xs.map PyData.str) = true
  | [], _ => by simp [PyData.canLayAll0]
  | n :: r, h => by
    have h1 := nm_ok (h n List.mem_cons_self)
    simp [PyData.canLayAll0, PyData.canLay0, h1, canL_strs r fun x hx => h x (List.mem_cons_of_mem _ hx)]
theorem deep_strs : ∀ xs : List Str, PyData.depthAll (xs.map PyData.str) ≤ 1
  | [] => by simp [PyData.depthAll]
  | n :: r => by
    have := deep_strs r
    simp only [List.map_cons, PyData.depthAll, PyData.depth]
    omega
theorem shaped_dS {xs : List Str} (nm : Nms xs) : SeqAt.shaped (dS xs) = true := by
  have h1 := deep_strs xs
  have h2 : PyData.depth (dS xs) ≤ 64 := by simp only [dS, PyData.depth]; omega
  show (PyData.canLay0 (dS xs) && decide (PyData.depth (dS xs) ≤ 64)) = true
  rw [Bool.and_eq_true]
  exact ⟨by simp only [dS, PyData.canLay0]; exact canL_strs xs nm, decide_eq_true h2⟩
theorem canL_sets : ∀ xss : List (List Str), (∀ xs ∈ xss, Nms xs) → PyData.canLayAll0 (xss.map dS) = true
  | [], _ => by simp [PyData.canLayAll0]
  | n :: r, h => by
    have h1 := canL_strs n (h n List.mem_cons_self)
    have h2 := canL_sets r fun x hx => h x (List.mem_cons_of_mem _ hx)
    simp only [List.map_cons, PyData.canLayAll0, h2, Bool.and_true]
    simp only [dS, PyData.canLay0]
    exact h1
theorem deep_sets : ∀ xss : List (List Str), PyData.depthAll (xss.map dS) ≤ 3
  | [] => by simp [PyData.depthAll]
  | n :: r => by
    have h1 := deep_sets r
    have h2 := deep_strs n
    simp only [List.map_cons, PyData.depthAll, PyData.depth, dS] at h1 ⊢
    omega
theorem shaped_dSS {xss : List (List Str)} (nm : ∀ xs ∈ xss, Nms xs) : SeqAt.shaped (dSS xss) = true := by
  have h1 := deep_sets xss
  have h2 : PyData.depth (dSS xss) ≤ 64 := by simp only [dSS, PyData.depth]; omega
  show (PyData.canLay0 (dSS xss) && decide (PyData.depth (dSS xss) ≤ 64)) = true
  rw [Bool.and_eq_true]
  exact ⟨by simp only [dSS, PyData.canLay0]; exact canL_sets xss nm, decide_eq_true h2⟩
theorem eqv_dS (xs ys : List Str) : PyData.eqv (dS xs) (dS ys) = decide (xs = ys) := Datum.eqv xs ys
theorem eqv_dSS (xs ys : List (List Str)) : PyData.eqv (dSS xs) (dSS ys) = decide (xs = ys) := Datum.eqv xs ys
theorem dp_dS {K : PySem.W.Frag} {H : Hp} {a : Addr} {xs : List Str} (h : SqL K H a (xs.map V.str)) : Dp K H (.ref a) (dS xs) := .lst h (dp_strs xs)
theorem dp_sets {K : PySem.W.Frag} {H : Hp} : ∀ {ps : List (Addr × List Str)}, (∀ q ∈ ps, SqL K H q.1 (q.2.map V.str)) → DpAll K H (ps.map fun q => V.ref q.1) (ps.map fun q => dS q.2)
  | [], _ => .nil
  | q :: r, h => .cons (dp_dS (h q List.mem_cons_self)) (dp_sets fun z hz => h z (List.mem_cons_of_mem _ hz))
theorem dp_dSS {K : PySem.W.Frag} {H : Hp} {a : Addr} {ps : List (Addr × List Str)} (hA : SqL K H a (ps.map fun q => V.ref q.1)) (h : ∀ q ∈ ps, SqL K H q.1 (q.2.map V.str)) : Dp K H (.ref a) (dSS (ps.map (·.2))) := by
  refine .lst hA ?_
  rw [List.map_map]
  exact dp_sets h
end K1
namespace K1
open PySem PySem.Spec PyProof.Rows L2 Gr GxR Srx Skx Dcx
section
variable {P : Program} {w : World} {K : PySem.W.Frag} {mg : Str → Option Value} {base : Heap} {f : Addr} {fd : FuncData} {p : He.Defn} {T : Addr}
def spOdd (K : PySem.W.Frag) : Sp := fun vs H Q _ => ∃ c : Int, vs = [.int c] ∧ ∀ v H', Gr H H' → Thing K H' v → nmV v = false → Q v H'
theorem thing_str {K : PySem.W.Frag} {H : Hp} {x : Str} (h : x.length ≤ sizeLine) : Thing K H (.str x) := ⟨"str", .base (.str x), (by show kitB "str" "str" = some true; decide +kernel), fun y e => by cases e; exact h⟩
theorem thing_not {K : PySem.W.Frag} {H : Hp} {t : String} {z : V} (ty : TyX K H z (.type t)) (kt : kitB t "str" = some false) (e : strV z = false) : Thing K H z := ⟨t, ty, by rw [e]; exact kt, fun y e2 => by rw [e2] at e; cases e⟩
theorem atI_mod {α : Type} {xs : List α} {c : Int} {n : Nat} (hn : xs.length = n) (h0 : 0 < n) : ∃ v, atI xs (c % (n : Int)) = some v ∧ v ∈ xs := by
  have h1 : 0 ≤ c % (n : Int) := Int.emod_nonneg _ (by omega)
  have h2 : c % (n : Int) < n := Int.emod_lt_of_pos _ (by omega)
  obtain ⟨j, hj⟩ := Int.eq_ofNat_of_zero_le h1
  have hlt : j < xs.length := by omega
  rw [hj]
  exact ⟨xs[j], atI_nat (List.getElem?_eq_getElem hlt), List.getElem_mem hlt⟩
def spRow (K : PySem.W.Frag) : Sp := fun vs H Q _ => ∃ (a : Addr) (c : Int) (ns : List Str), vs = [.ref a, .int c] ∧ SqL K H a (ns.map V.str) ∧ ns ≠ [] ∧ ns.Nodup ∧ Nms ns ∧ ns.length ≤ 1000 ∧
  ∀ (p : Addr) (H' : Hp) (ys : List Str), Gr H H' → H p = none → H' p = some (.lst (ys.map V.str)) → ys.Nodup → (∀ y ∈ ys, y ∈ ns) → ys.length ≤ ns.length → Q (.ref p) H'
end
end K1
namespace K1
open PySem PySem.Spec PyProof.Rows L2 Gr GxR Srx Skx Dcx
/-- at a: a list of the lists ps -/
structure LL (H : Hp) (a : Addr) (ps : List (Addr × List Str)) : Prop where
  at_ : H a = some (.lst (ps.map fun q => V.ref q.1))
  own : ∀ q ∈ ps, H q.1 = some (.lst (q.2.map V.str))
theorem LL.gr {H H' : Hp} {a : Addr} {ps : List (Addr × List Str)} (h : LL H a ps) (g : Gr H H') : LL H' a ps := ⟨g.lst h.at_, fun q hq => g.lst (h.own q hq)⟩
theorem Told.ll {H H' : Hp} {p : Addr} {ps : List (Addr × List Str)} (T : Told H H' p ps) : LL H' p ps := ⟨T.at_, fun q hq => (T.own q hq).2.2⟩
/-- sets of names, not too many -/
def Fit (xss : List (List Str)) : Prop := xss.length ≤ 1000 ∧ ∀ xs ∈ xss, Nms xs ∧ xs.length ≤ 1000
section
variable {P : Program} {w : World} {K : PySem.W.Frag} {mg : Str → Option Value} {base : Heap} {f : Addr} {fd : FuncData} {p : He.Defn} {T : Addr}
def spSets : Sp := fun vs H Q _ => ∃ (a b : Addr) (ps qs : List (Addr × List Str)), vs = [.ref a, .ref b] ∧ LL H a ps ∧ LL H b qs ∧ ps.map (·.2) = qs.map (·.2) ∧ Fit (ps.map (·.2)) ∧ ∀ H', Gr H H' → Q (.bl true) H'
end
end K1
namespace K1
open PySem PySem.Spec PyProof.Rows L2 Gr GxR Srx Skx Dcx
/-- for x in C: x.append(m), the lists of C younger than H -/
theorem for_more {K : PySem.W.Frag} {C : Addr} {A : List Addr} {H H5 : Hp} {σ : L2.St} {D : Ends} {j : Nat} {m : Str} (hC : H5 C = some (.lst (A.map V.ref))) (gr : Gr H H5) (nC : C ∉ A) (new : ∀ x ∈ A, H x = none) (has : ∀ x ∈ A, ∃ zs, H5 x = some (.lst zs) ∧ zs.length ≤ 1000) (few : A.length ≤ 5000) (hj : j < σ.length)
    (hd : ∀ (v : Option V) (H6 : Hp), Gr H H6 → (∀ b o, b ∉ A → H5 b = some o → H6 b = some o) → D.nx (σ.set j v) H6) :
    ∃ W : Nat → Nat → L2.St → Hp → Prop, (∃ m, W 0 m σ H5) ∧ ∀ i m' σ H, W i m' σ H →
      ((Itl K C).stop i H ∧ D.nx σ H) ∨ ((Itl K C).go i H ∧ ∃ N : L2.St → Hp → Prop, (∀ σ' H', N σ' H' → ∃ m2, m2 < m' ∧ W (i + 1) m2 σ' H') ∧ ∀ x H', (Itl K C).yld i H x H' → gName j x σ H' fun σ2 H2 => tDrop (tBM K "list" rAppend (tVar j) (tCons (tC (.str m)) tNil)) { D with nx := N, ct := N, bk := D.nx } σ2 H2) := by
  refine for_list (K := K) (xs := A.map V.ref) (fun i σ' H6 => Gr H H6 ∧ (∀ b o, b ∉ A → H5 b = some o → H6 b = some o) ∧ (∀ x ∈ A, ∃ zs, H6 x = some (.lst zs) ∧ zs.length ≤ 1000 + i) ∧ ∃ v, σ' = σ.set j v) ⟨gr, fun _ _ _ e => e, has, σ[j], (List.set_getElem_self ..).symm⟩ (fun i σ' H6 _ h => .inl (.inl (h.2.1 _ _ nC hC))) (fun i x σ' H6 hx h => ?_) (fun σ' H6 h => ?_)
  · obtain ⟨g, fr, lens, v, rfl⟩ := h
    obtain ⟨a, ha, rfl⟩ := get_map hx
    have ma := List.mem_of_getElem? ha
    have hi : i < A.length := (List.getElem?_eq_some_iff.mp ha).1
    obtain ⟨zs, ez, hz⟩ := lens a ma
    show tDrop _ _ ((σ.set j v).set j (some (.ref a))) H6
    rw [List.set_set]
    refine ⟨.ref a, ?_, .inl ⟨rfl, _, .inl (.inl ez)⟩, a, _, _, rfl, rfl, ez, ?_, ?_⟩
    · rw [List.getElem?_set_self hj]
    · rw [sizeLine_eq]
      omega
    · refine ⟨g.mut (new a ma), fun b o hb e => ?_, fun x hx => ?_, _, rfl⟩
      · rw [upd_ne (fun z => hb (by rw [z]; exact ma))]
        exact fr b o hb e
      · by_cases hxa : x = a
        · subst hxa
          exact ⟨_, upd_same, by rw [List.length_append, List.length_singleton]; omega⟩
        · obtain ⟨ys, ey, hy⟩ := lens x hx
          exact ⟨ys, by rw [upd_ne hxa]; exact ey, by omega⟩
  · obtain ⟨g, fr, _, v, rfl⟩ := h
    exact hd v H6 g fr
theorem keep_sub : ∀ (l acc : List (List Str)), List.Sublist (l.foldl keep acc) (acc ++ l)
  | [], acc => by rw [List.append_nil]; exact List.Sublist.refl _
  | x :: l, acc => by
    rw [List.foldl_cons]
    refine (keep_sub l _).trans ?_
    unfold keep
    split
    · exact List.Sublist.append (List.Sublist.refl _) (List.sublist_cons_self _ _)
    · rw [List.append_assoc]
      exact List.Sublist.refl _
theorem fit_rkd {xss : List (List Str)} (h : Fit xss) : Fit (rkd xss) := ⟨by rw [(rkd_perm _).length_eq]; exact h.1, fun xs hx => h.2 xs ((rkd_perm _).mem_iff.mp hx)⟩
theorem fit_sub {xss yss : List (List Str)} (h : Fit xss) (s : List.Sublist yss xss) : Fit yss := ⟨Nat.le_trans s.length_le h.1, fun xs hx => h.2 xs (s.subset hx)⟩
theorem once_nms {xs : List Str} (h : Nms xs) : Nms (once xs) := fun x hx => h x (Sx.dd_mem.mp (srt_mem.mp hx))
theorem once_len {xs : List Str} : (once xs).length ≤ xs.length := by
  unfold once
  rw [srt_len]
  exact Sx.dd_len xs
theorem fit_least {xss : List (List Str)} (h : Fit xss) : Fit (least (xss.map once)) := by
  have h1 : Fit (xss.map once) := ⟨by rw [List.length_map]; exact h.1, fun xs hx => by
    obtain ⟨ys, hy, rfl⟩ := List.mem_map.mp hx
    obtain ⟨a, b⟩ := h.2 ys hy
    exact ⟨once_nms a, Nat.le_trans once_len b⟩⟩
  unfold least
  exact fit_sub (fit_rkd (fit_sub h1 (ddG_sub _))) (keep_sub _ [])
theorem lens_of {ps : List (Addr × List Str)} (h : Fit (ps.map (·.2))) : ps.length ≤ 1000 ∧ ∀ q ∈ ps, Nms q.2 ∧ q.2.length ≤ 1000 := ⟨by have := h.1; rw [List.length_map] at this; exact this, fun q hq => h.2 q.2 (List.mem_map.mpr ⟨q, hq, rfl⟩)⟩
theorem LL.dp {K : PySem.W.Frag} {H : Hp} {a : Addr} {ps : List (Addr × List Str)} (h : LL H a ps) : Dp K H (.ref a) (dSS (ps.map (·.2))) := dp_dSS (.inl (.inl h.at_)) fun q hq => .inl (.inl (h.own q hq))
theorem LL.fr {H H' : Hp} {a : Addr} {A : List Addr} {ps : List (Addr × List Str)} (h : LL H a ps) (fr : ∀ b o, b ∉ A → H b = some o → H' b = some o) (na : a ∉ A) (nq : ∀ q ∈ ps, q.1 ∉ A) : LL H' a ps := ⟨fr _ _ na h.at_, fun q hq => fr _ _ (nq q hq) (h.own q hq)⟩
/-- told lists are none of what stood -/
theorem Told.off {H H' : Hp} {p x : Addr} {o : HO} {ps : List (Addr × List Str)} (T : Told H H' p ps) (e : H x = some o) : x ≠ p ∧ ∀ q ∈ ps, x ≠ q.1 := ⟨ne_of_none e T.new, fun q hq => ne_of_none e (T.own q hq).1⟩
section
variable {P : Program} {w : World} {K : PySem.W.Frag} {mg : Str → Option Value} {base : Heap} {f fR fL fS : Addr} {fd fdR fdL fdS : FuncData} {p : He.Defn} {T T2 : Addr}
def spTold (T T2 : Addr) : Sp := fun vs H Q _ => ∃ (s h d b : Addr) (ps hs ds bs : List (Addr × List Str)), vs = [.ref s, .ref h, .ref d, .ref b] ∧ LL H s ps ∧ LL H h hs ∧ LL H d ds ∧ LL H b bs ∧ Fit (ps.map (·.2)) ∧ Fit (hs.map (·.2)) ∧
  ds.map (·.2) = rkd (hs.map (·.2)) ∧ bs.map (·.2) = least ((ps.map (·.2)).map once) ∧ TabG H T ∧ TabG H T2 ∧ ∀ H', Gr H H' → Q (.bl true) H'
end
end K1
namespace K1
open PySem PySem.Spec PyProof.Rows L2
def L0 : List Nat := List.range' 97 26
theorem letters_eq : Str.ofString "abcdefghijklmnopqrstuvwxyz" = SX.S L0 := by decide +kernel
def let_ (x : Int) : Nat := L0.getD (x % 26).toNat 0
def nm1 (d k : Nat) : Str := SX.S ((L0.drop d).take (k + 1))
def turned (d : Nat) : List Nat := (L0.drop d).take 8
def nm2 (d k : Nat) : Str := SX.S ((turned d).drop k ++ (turned d).take k)
def nm3 (base : List Nat) (at_ : Nat) (x : Int) (k : Nat) : Str := SX.S (base.take at_ ++ [let_ (x + 3 * (k : Int))] ++ base.drop at_)
def baseOf (c : Int) (size : Nat) : List Nat := (List.range size).map fun j : Nat => let_ (c / 224 + 5 * (j : Int))
def many (c : Int) : Nat := (1 + c % 7).toNat
def names (c : Int) : List Str :=
  if c / 7 % 4 = 1 then (List.range (many c)).map (nm1 (c / 28 % 18).toNat)
  else if c / 7 % 4 = 2 then (List.range (many c)).map (nm2 (c / 28 % 18).toNat)
  else (List.range (many c)).map (nm3 (baseOf c (c / 28 % 8).toNat) (c / 7 % ((c / 28 % 8) + 1)).toNat (c / 1000))
theorem many_lt (c : Int) : 1 ≤ many c ∧ many c ≤ 7 := by
  unfold many
  omega
theorem L0_at {j : Nat} (h : j < 26) : L0[j]? = some (97 + j) := by
  unfold L0
  rw [List.getElem?_range' (by omega)]
  simp
theorem L0_len : L0.length = 26 := by decide
theorem L0_small : ∀ x ∈ L0, small x = true := by decide +kernel
theorem let_eq (x : Int) : let_ x = 97 + (x % 26).toNat := by
  unfold let_
  rw [List.getD_eq_getElem?_getD, L0_at (by omega)]
  rfl
theorem let_mem (x : Int) : let_ x ∈ L0 := by
  rw [let_eq]
  exact List.mem_of_getElem? (L0_at (j := (x % 26).toNat) (by omega))
theorem nm_S {l : List Nat} (h1 : 1 ≤ l.length) (h8 : l.length ≤ 8) (hs : ∀ x ∈ l, x ∈ L0) : isNm (SX.S l) = true := by
  unfold isNm
  rw [SX.S_len, decide_eq_true h1, decide_eq_true h8, Bool.true_and, Bool.true_and, List.all_eq_true]
  intro x hx
  exact L0_small x (hs x hx)
theorem nodup_range_map {α : Type} {f : Nat → α} {n : Nat} (h : ∀ i j, i < n → j < n → f i = f j → i = j) : ((List.range n).map f).Nodup := by
  unfold List.Nodup
  rw [List.pairwise_map]
  refine List.Pairwise.imp_of_mem ?_ (List.nodup_range (n := n))
  intro a b ha hb ne e
  exact ne (h a b (List.mem_range.mp ha) (List.mem_range.mp hb) e)
theorem names_ok (c : Int) : Nms (names c) ∧ (names c).Nodup ∧ names c ≠ [] ∧ (names c).length ≤ 7 := by
  obtain ⟨m1, m7⟩ := many_lt c
  have ne : ∀ f : Nat → Str, (List.range (many c)).map f ≠ [] := by
    intro f z
    have := congrArg List.length z
    rw [List.length_map, List.length_range] at this
    simp at this
    omega
  have ln : ∀ f : Nat → Str, ((List.range (many c)).map f).length ≤ 7 := by
    intro f
    rw [List.length_map, List.length_range]
    exact m7
  have nms : ∀ f : Nat → Str, (∀ k, k < many c → isNm (f k) = true) → Nms ((List.range (many c)).map f) := by
    intro f h x hx
    obtain ⟨k, hk, rfl⟩ := List.mem_map.mp hx
    exact h k (List.mem_range.mp hk)
  unfold names
  have hd : (c / 28 % 18).toNat ≤ 17 := by omega
  generalize (c / 28 % 18).toNat = d at hd
  split
  · refine ⟨nms _ fun k hk => ?_, nodup_range_map fun i j hi hj e => ?_, ne _, ln _⟩
    · refine nm_S ?_ ?_ fun x hx => List.mem_of_mem_drop (List.mem_of_mem_take hx)
      · rw [List.length_take, List.length_drop, L0_len]; omega
      · rw [List.length_take, List.length_drop, L0_len]; omega
    · have e := congrArg List.length (SX.S_inj e)
      rw [List.length_take, List.length_take, List.length_drop, L0_len] at e
      omega
  · split
    · have tl : (turned d).length = 8 := by
        unfold turned
        rw [List.length_take, List.length_drop, L0_len]; omega
      have tm : ∀ x ∈ turned d, x ∈ L0 := fun x hx => List.mem_of_mem_drop (List.mem_of_mem_take hx)
      have ta : ∀ k, k < 8 → (turned d)[k]? = some (97 + (d + k)) := by
        intro k hk
        unfold turned
        rw [List.getElem?_take_of_lt hk, List.getElem?_drop, L0_at (by omega)]
      refine ⟨nms _ fun k hk => ?_, nodup_range_map fun i j hi hj e => ?_, ne _, ln _⟩
      · refine nm_S ?_ ?_ fun x hx => ?_
        · rw [List.length_append, List.length_drop, List.length_take, tl]; omega
        · rw [List.length_append, List.length_drop, List.length_take, tl]; omega
        · rcases List.mem_append.mp hx with h | h
          · exact tm x (List.mem_of_mem_drop h)
          · exact tm x (List.mem_of_mem_take h)
      · have e := congrArg (fun l : List Nat => l[0]?) (SX.S_inj e)
        have hh : ∀ k, k < many c → ((turned d).drop k ++ (turned d).take k)[0]? = some (97 + (d + k)) := by
          intro k hk
          rw [List.getElem?_append_left (by rw [List.length_drop, tl]; omega), List.getElem?_drop]
          exact ta k (by omega)
        have e : ((turned d).drop i ++ (turned d).take i)[0]? = ((turned d).drop j ++ (turned d).take j)[0]? := e
        rw [hh i hi, hh j hj] at e
        have e := Option.some.inj e
        omega
    · have hsz : (c / 28 % 8).toNat ≤ 7 := by omega
      have hat : (c / 7 % ((c / 28 % 8) + 1)).toNat ≤ (c / 28 % 8).toNat := by
        have h1 : 0 ≤ c / 28 % 8 := Int.emod_nonneg _ (by omega)
        have h2 := Int.emod_lt_of_pos (c / 7) (show (0 : Int) < c / 28 % 8 + 1 by omega)
        have h3 := Int.emod_nonneg (c / 7) (show (c / 28 % 8 + 1 : Int) ≠ 0 by omega)
        omega
      generalize (c / 28 % 8).toNat = size at hsz hat
      generalize (c / 7 % ((c / 28 % 8) + 1)).toNat = at_ at hat
      have bl : (baseOf c size).length = size := by
        unfold baseOf
        rw [List.length_map, List.length_range]
      have bm : ∀ x ∈ baseOf c size, x ∈ L0 := by
        intro x hx
        obtain ⟨j, _, rfl⟩ := List.mem_map.mp hx
        exact let_mem _
      refine ⟨nms _ fun k hk => ?_, nodup_range_map fun i j hi hj e => ?_, ne _, ln _⟩
      · refine nm_S ?_ ?_ fun x hx => ?_
        · rw [List.length_append, List.length_append, List.length_take, List.length_drop, bl]; simp; omega
        · rw [List.length_append, List.length_append, List.length_take, List.length_drop, bl, List.length_singleton]; omega
        · rcases List.mem_append.mp hx with h | h
          · rcases List.mem_append.mp h with h | h
            · exact bm x (List.mem_of_mem_take h)
            · have h : x = let_ (c / 1000 + 3 * (k : Int)) := by simpa using h
              rw [h]
              exact let_mem _
          · exact bm x (List.mem_of_mem_drop h)
      · have hh : ∀ k : Nat, ((baseOf c size).take at_ ++ [let_ (c / 1000 + 3 * (k : Int))] ++ (baseOf c size).drop at_)[at_]? = some (let_ (c / 1000 + 3 * (k : Int))) := by
          intro k
          have tk : ((baseOf c size).take at_).length = at_ := by rw [List.length_take, bl]; omega
          rw [List.append_assoc, List.getElem?_append_right (by omega), tk, Nat.sub_self]
          rfl
        have e : ((baseOf c size).take at_ ++ [let_ (c / 1000 + 3 * (i : Int))] ++ (baseOf c size).drop at_)[at_]? = ((baseOf c size).take at_ ++ [let_ (c / 1000 + 3 * (j : Int))] ++ (baseOf c size).drop at_)[at_]? := congrArg (fun l : List Nat => l[at_]?) (SX.S_inj e)
        rw [hh i, hh j] at e
        have e := Option.some.inj e
        rw [let_eq, let_eq] at e
        omega
end K1
namespace K1
open PySem PySem.Spec PyProof.Rows L2 Gr GxR Srx Skx Dcx
theorem lc_texts {D : Addr} {j n : Nat} {σ : L2.St} {vs : List Nat} {te : TE} {H H1 : Hp} {Qd : Hp → Prop} (F : Nat → Str) (few : n ≤ 1000) (gr : Gr H H1) (hD : H1 D = none) (hw : ∀ v, wipe ((wipe σ vs).set j (some v)) vs = wipe σ vs)
    (he : ∀ (k : Nat) (H4 : Hp) (Q' : VK), k < n → Q' (.str (F k)) H4 → te ((wipe σ vs).set j (some (.int ((0 : Int) + (k : Nat))))) H4 Q')
    (q : ∀ H2, Gr H H2 → H2 D = some (.lst (((List.range n).map F).map V.str)) → Qd H2) :
    ∃ W : Nat → Nat → Hp → Prop, (∃ m, W 0 m (upd H1 D (.lst []))) ∧ ∀ i m H, W i m H →
      ((Itr 0 n).stop i H ∧ Qd H) ∨ ((Itr 0 n).go i H ∧ ∃ Nx : Hp → Prop, (∀ H', Nx H' → ∃ m', m' < m ∧ W (i + 1) m' H') ∧ ∀ x H', (Itr 0 n).yld i H x H' → gName j x (wipe σ vs) H' fun σ2 H2 => wipe σ2 vs = wipe σ vs ∧ tYes σ2 H2 fun b H3 =>
        if b = true then te σ2 H3 fun y H4 => ∃ acc, H4 D = some (.lst acc) ∧ acc.length < sizeLine ∧ Nx (upd H4 D (.lst (acc ++ [y]))) else Nx H3) := by
  have hD0 : H D = none := gr.free hD
  refine lc_range (Qd := Qd) (fun i H2 => Gr H H2 ∧ H2 D = some (.lst (((List.range i).map F).map V.str))) ⟨gr.mut hD0, upd_same⟩ (fun i H2 hi h => ?_) (fun H2 h => q H2 h.1 h.2)
  obtain ⟨g2, e⟩ := h
  refine ⟨hw _, yesIf (he i H2 _ hi ⟨_, e, ?_, g2.mut hD0, ?_⟩)⟩
  · rw [List.length_map, List.length_map, List.length_range]
    exact small1000 (by omega)
  · rw [upd_same, List.range_succ, List.map_append, List.map_append]
    rfl
theorem let_at (x : Int) : atI (Str.ofString "abcdefghijklmnopqrstuvwxyz").cps.toList (x % 26) = some (let_ x) := by
  rw [letters_eq]
  show atI L0 (x % 26) = _
  have h0 : 0 ≤ x % 26 := Int.emod_nonneg _ (by omega)
  obtain ⟨j, hj⟩ := Int.eq_ofNat_of_zero_le h0
  rw [let_eq, hj]
  exact atI_nat (L0_at (by omega))
theorem joinL_ones : ∀ l : List Nat, TL.joinL [] (l.map fun x => [x]) = l
  | [] => rfl
  | [x] => rfl
  | x :: y :: r => by
    show [x] ++ ([] ++ _) = _
    rw [List.nil_append]
    exact congrArg (fun z => x :: z) (joinL_ones (y :: r))
section
variable {P : Program} {w : World} {K : PySem.W.Frag} {mg : Str → Option Value} {base : Heap} {f fD : Addr} {fd fdD : FuncData} {p : He.Defn} {T T2 : Addr}
def spNames (K : PySem.W.Frag) : Sp := fun vs H Q _ => ∃ (a : Addr) (ns : List Int), vs = [.ref a] ∧ SqL K H a (ns.map V.int) ∧ ∀ p H', Gr H H' → H p = none → H' p = some (.lst ((names (ns.getD 0 0)).map V.str)) → Q (.ref p) H'
end
end K1
namespace K1
open PySem PySem.Spec PyProof.Rows L2 Gr GxR Srx Skx Dcx
theorem cut_map (xs : List Str) (lo hi : Option Int) : ∃ zs : List Str, cutV (xs.map V.str) lo hi = zs.map V.str ∧ (∀ z ∈ zs, z ∈ xs) ∧ zs.length ≤ xs.length := by
  refine ⟨(xs.drop (HT.sIx (xs.map V.str).length 0 lo)).take (HT.sIx (xs.map V.str).length (xs.map V.str).length hi - HT.sIx (xs.map V.str).length 0 lo), ?_, fun z hz => List.mem_of_mem_drop (List.mem_of_mem_take hz), ?_⟩
  · unfold cutV
    rw [List.map_take, List.map_drop]
  · rw [List.length_take, List.length_drop]
    omega
theorem once_same {xs zs : List Str} (nd : xs.Nodup) (h : ∀ y, y ∈ zs ↔ y ∈ xs) : once zs = srt xs := by
  unfold once
  refine srt_eq ((List.perm_ext_iff_of_nodup (Sx.dd_nodup zs) nd).mpr fun q => ?_)
  rw [Sx.dd_mem]
  exact h q
def rLenQ (K : PySem.W.Frag) : List V → Hp → VK → Prop := fun xs H Q => ∃ p ys, xs = [V.ref p] ∧ (SqL K H p ys ∨ SqT K H p ys) ∧ Q (.int ys.length) H
structure Calls (P : Program) (w : World) (K : PySem.W.Frag) (mg : Str → Option Value) (base : Heap) (CX : CXT) (k : Nat) (x : Str) (sp : Sp) : Prop where
  ex : ∃ (f : Addr) (fd : FuncData) (ps : List Str), FnOk P w K mg base CX k f fd ps sp ∧ mg x = some (.ref f) ∧ PySem.W.keepIn K (.ref f) = true ∧ Binds K fd ps []
section
variable {X : Cx} {k j : Nat} {x : Str} {ps : List Str} {sp : Sp} {p pos : Pos} {e : Expr} {es : List Expr} {t : TA}
theorem pe_k (c : Calls X.prog X.w X.K X.mg X.base CX0 k x sp) (hr : Room j X.A) (hk : k ≤ j) (hg : Gl X x) (ha : PA X (e :: es) t)
    (hdb : (x == ("__debug__" : Str)) = false := by decide) (he : starEach (e :: es) X.env = (false, eval e X.env) :: starEach es X.env := by rfl) (hpl : (backTo pos (starEach es X.env)).any (·.1) = false := by rfl) :
    PE X (.Call (.Name x p) (e :: es) [] pos) (tCall sp [] E0 t) := by
  obtain ⟨f, fd, ps, F, hm, kp, b⟩ := c.ex
  exact pe_call F (hr.mono hk) hg hm kp b .nil pass0 ha hdb he hpl
theorem pe_kX (c : Calls X.prog X.w X.K X.mg X.base (L2.CX X.prog X.w) k x sp) (hr : Room j X.A) (hk : k ≤ j) (hg : Gl X x) (ha : PA X (e :: es) t)
    (hdb : (x == ("__debug__" : Str)) = false := by decide) (he : starEach (e :: es) X.env = (false, eval e X.env) :: starEach es X.env := by rfl) (hpl : (backTo pos (starEach es X.env)).any (·.1) = false := by rfl) :
    PE X (.Call (.Name x p) (e :: es) [] pos) (tCall sp [] E0 t) := by
  obtain ⟨f, fd, ps, F, hm, kp, b⟩ := c.ex
  exact pe_call F (hr.mono hk) hg hm kp b .nil passL ha hdb he hpl
end
section
variable {P : Program} {w : World} {K : PySem.W.Frag} {mg : Str → Option Value} {base : Heap} {f : Addr} {fd : FuncData} {p : He.Defn} {T TI TW TM TL C : Addr}
/-- what the law calls -/
structure Env1 (P : Program) (w : World) (K : PySem.W.Frag) (mg : Str → Option Value) (base : Heap) (TI TW TM TL C : Addr) : Prop where
  draw : Calls P w K mg base CX0 1 "_law_draw" (spDraw K)
  names : Calls P w K mg base CX0 2 "_law_names" (spNames K)
  row : Calls P w K mg base CX0 1 "_law_row" (spRow K)
  odd : Calls P w K mg base CX0 1 "_law_odd" (spOdd K)
  truth : Calls P w K mg base CX0 1 "_law_truth" spTruth
  lmeets : Calls P w K mg base CX0 1 "_law_meets" (spLMeets K)
  lwithin : Calls P w K mg base CX0 1 "_law_within" (spLWithin K)
  refused : Calls P w K mg base CX0 3 "_law_refused" (spRefused K TI)
  told : Calls P w K mg base CX0 6 "_law_told_right" (spTold TL TW)
  isname : Calls P w K mg base CX0 1 "is_name" (spIsName K TI)
  rising : Calls P w K mg base (L2.CX P w) 2 "rising" (spRising K TI C)
  within : Calls P w K mg base CX0 1 "within" (spWithin K TW)
  meets : Calls P w K mg base CX0 1 "meets" (spMeets K TM)
  gR : mg "range" = none
  gA : mg "all" = none
  gLi : mg "list" = none
  gL : mg "len" = none
  gS : mg "sorted" = none
def spLaw (K : PySem.W.Frag) (TI TW TM TL : Addr) : Sp := fun vs H Q _ => ∃ (a : Addr) (ns : List Int), vs = [.ref a] ∧ SqL K H a (ns.map V.int) ∧ TabG H TI ∧ TabG H TW ∧ TabG H TM ∧ TabG H TL ∧ ∀ H', Q (.bl true) H'
end
end K1
namespace K1
open PySem PySem.Spec PyProof.Rows L2 Srx
open PySem.W (dataLe dataLt DatumOrd Datum)
def ltS (a b : Str) : Prop := leS a b = true ∧ a ≠ b
def Ris (xs : List Str) : Prop := xs.Pairwise ltS
theorem ris_nil : Ris [] := List.Pairwise.nil
theorem Ris.nodup {xs : List Str} (h : Ris xs) : xs.Nodup := List.Pairwise.imp (fun z => z.2) h
theorem Ris.sorted {xs : List Str} (h : Ris xs) : xs.Pairwise (fun a b => leS a b = true) := List.Pairwise.imp (fun z => z.1) h
theorem ris_of {xs : List Str} (h : xs.Pairwise (fun a b => leS a b = true)) (n : xs.Nodup) : Ris xs := List.Pairwise.imp₂ (fun _ _ a b => ⟨a, b⟩) h n
theorem ris_sub {xs ys : List Str} (s : List.Sublist xs ys) (h : Ris ys) : Ris xs := List.Pairwise.sublist s h
theorem sublist_of : ∀ {N x : List Str}, Ris N → Ris x → (∀ y ∈ x, y ∈ N) → List.Sublist x N
  | [], [], _, _, _ => List.Sublist.refl _
  | [], a :: x, _, _, h => absurd (h a List.mem_cons_self) List.not_mem_nil
  | n :: N, [], _, _, _ => List.nil_sublist _
  | n :: N, a :: x, hN, hx, h => by
    obtain ⟨hn, hN'⟩ := List.pairwise_cons.mp hN
    obtain ⟨ha, hx'⟩ := List.pairwise_cons.mp hx
    by_cases e : a = n
    · subst e
      refine List.Sublist.cons₂ a (sublist_of hN' hx' fun y hy => ?_)
      rcases List.mem_cons.mp (h y (List.mem_cons_of_mem _ hy)) with z | z
      · exact absurd z.symm (ha y hy).2
      · exact z
    · have aN : a ∈ N := (List.mem_cons.mp (h a List.mem_cons_self)).resolve_left e
      refine List.Sublist.cons n (sublist_of hN' hx fun y hy => ?_)
      rcases List.mem_cons.mp (h y hy) with z | z
      · subst z
        rcases List.mem_cons.mp hy with w | w
        · exact absurd w.symm e
        · exact absurd (leS_anti (ha y w).1 (hn a aN).1) e
      · exact z
theorem ris_once (xs : List Str) : Ris (once xs) := ris_of (srt_sorted _) ((srt_perm _).nodup_iff.mpr (Sx.dd_nodup xs))
theorem once_mem {xs : List Str} {y : Str} : y ∈ once xs ↔ y ∈ xs := by
  unfold once
  rw [srt_mem, Sx.dd_mem]
theorem once_ris {xs : List Str} (h : Ris xs) : once xs = xs := by
  unfold once
  rw [Sx.dd_id h.nodup, srt_id h.sorted]
theorem wi_iff {a b : List Str} : wi a b = true ↔ ∀ y ∈ a, y ∈ b := by
  unfold wi
  rw [List.all_eq_true]
  exact ⟨fun h y hy => List.contains_iff_mem.mp (h y hy), fun h y hy => List.contains_iff_mem.mpr (h y hy)⟩
theorem wi_trans {a b c : List Str} (h1 : wi a b = true) (h2 : wi b c = true) : wi a c = true := wi_iff.mpr fun y hy => wi_iff.mp h2 y (wi_iff.mp h1 y hy)
theorem wi_anti {a b : List Str} (ha : Ris a) (hb : Ris b) (h1 : wi a b = true) (h2 : wi b a = true) : a = b := by
  have s1 := sublist_of hb ha (wi_iff.mp h1)
  have s2 := sublist_of ha hb (wi_iff.mp h2)
  exact s1.eq_of_length_le s2.length_le
theorem wi_len {a b : List Str} (ha : Ris a) (hb : Ris b) (h : wi a b = true) : a.length ≤ b.length := (sublist_of hb ha (wi_iff.mp h)).length_le
theorem wi_eq {a b : List Str} (ha : Ris a) (hb : Ris b) (h : wi a b = true) (l : b.length ≤ a.length) : a = b := (sublist_of hb ha (wi_iff.mp h)).eq_of_length_le l
theorem leR_len {a b : List Str} (h : leR a b = true) : a.length ≤ b.length := by
  rw [leR_eq, Bool.not_eq_true'] at h
  rw [← toD_eq, ← toD_eq, DatumOrd.lt_eq] at h
  have h : (if (b.length : Int) = a.length then PySem.W.listLt b a else decide ((b.length : Int) < a.length)) = false := h
  by_cases e : (b.length : Int) = a.length
  · omega
  · rw [if_neg e] at h
    have := of_decide_eq_false h
    omega
theorem keep_mem : ∀ L : List (List Str), L.Pairwise (fun a b => leR a b = true) → (∀ x ∈ L, Ris x) → ∀ z, z ∈ L.foldl keep [] ↔ z ∈ L ∧ ∀ y ∈ L, wi y z = true → y = z := by
  intro L
  refine snoc_ind (p := fun L => L.Pairwise (fun a b => leR a b = true) → (∀ x ∈ L, Ris x) → ∀ z, z ∈ L.foldl keep [] ↔ z ∈ L ∧ ∀ y ∈ L, wi y z = true → y = z) ?_ (fun L x ih => ?_) L
  · intro _ _ z
    simp
  · intro hs hr z
    obtain ⟨hs1, _, hs2⟩ := List.pairwise_append.mp hs
    have hr1 : ∀ y ∈ L, Ris y := fun y hy => hr y (List.mem_append_left _ hy)
    have hrx : Ris x := hr x (List.mem_append_right _ List.mem_cons_self)
    have ih := ih hs1 hr1
    have hlen : ∀ y ∈ L, y.length ≤ x.length := fun y hy => leR_len (hs2 y hy x List.mem_cons_self)
    rw [List.foldl_append]
    show z ∈ keep (L.foldl keep []) x ↔ _
    have up : ∀ z, z ∈ L.foldl keep [] → z ∈ L ++ [x] ∧ ∀ y ∈ L ++ [x], wi y z = true → y = z := by
      intro z hz
      obtain ⟨h1, h2⟩ := (ih z).mp hz
      refine ⟨List.mem_append_left _ h1, fun y hy w => ?_⟩
      rcases List.mem_append.mp hy with hy | hy
      · exact h2 y hy w
      · have hy : y = x := by simpa using hy
        subst hy
        exact wi_eq hrx (hr1 z h1) w (hlen z h1)
    unfold keep
    split
    · rename_i hany
      refine ⟨up z, fun ⟨h1, h2⟩ => ?_⟩
      have zL : z ∈ L := by
        rcases List.mem_append.mp h1 with h1 | h1
        · exact h1
        · have h1 : z = x := by simpa using h1
          subst h1
          obtain ⟨a, ha, wa⟩ := List.any_eq_true.mp hany
          have aL := ((ih a).mp ha).1
          rw [← h2 a (List.mem_append_left _ aL) wa]
          exact aL
      exact (ih z).mpr ⟨zL, fun y hy => h2 y (List.mem_append_left _ hy)⟩
    · rename_i hany
      constructor
      · intro hz
        rcases List.mem_append.mp hz with hz | hz
        · exact up z hz
        · have hz : z = x := by simpa using hz
          subst hz
          refine ⟨List.mem_append_right _ List.mem_cons_self, fun y hy w => ?_⟩
          rcases List.mem_append.mp hy with hy | hy
          · obtain ⟨a, ha, wa⟩ := List.any_eq_true.mp (fold_any L [] y (.inr hy))
            exact (hany (List.any_eq_true.mpr ⟨a, ha, wi_trans wa w⟩)).elim
          · simpa using hy
      · intro ⟨h1, h2⟩
        rcases List.mem_append.mp h1 with h1 | h1
        · exact List.mem_append_left _ ((ih z).mpr ⟨h1, fun y hy => h2 y (List.mem_append_left _ hy)⟩)
        · exact List.mem_append_right _ h1
theorem keep_nodup : ∀ L : List (List Str), (L.foldl keep []).Nodup := by
  intro L
  refine snoc_ind (p := fun L => (L.foldl keep []).Nodup) List.nodup_nil (fun L x ih => ?_) L
  rw [List.foldl_append]
  show (keep (L.foldl keep []) x).Nodup
  unfold keep
  split
  · exact ih
  · rename_i hany
    refine List.nodup_append.mpr ⟨ih, by simp, fun a ha b hb e => ?_⟩
    have hb : b = x := by simpa using hb
    subst hb
    subst e
    exact hany (List.any_eq_true.mpr ⟨a, ha, wi_self a⟩)
theorem keep_sorted {L : List (List Str)} (h : L.Pairwise (fun a b => leR a b = true)) : (L.foldl keep []).Pairwise (fun a b => leR a b = true) := by
  have s : ∀ (l acc : List (List Str)), List.Sublist (l.foldl keep acc) (acc ++ l) := by
    intro l
    induction l with
    | nil => intro acc; rw [List.append_nil]; exact List.Sublist.refl _
    | cons x l ih =>
      intro acc
      rw [List.foldl_cons]
      refine (ih _).trans ?_
      unfold keep
      split
      · exact List.Sublist.append (List.Sublist.refl _) (List.sublist_cons_self _ _)
      · rw [List.append_assoc]
        exact List.Sublist.refl _
  exact h.sublist (s L [])
def RisAll (l : List (List Str)) : Prop := ∀ x ∈ l, Ris x
theorem least_mem {l : List (List Str)} (h : RisAll l) {z : List Str} : z ∈ least l ↔ z ∈ l ∧ ∀ y ∈ l, wi y z = true → y = z := by
  rw [least_eq, keep_mem _ (rkd_sorted l) (fun x hx => h x ((rkd_perm l).mem_iff.mp hx))]
  constructor
  · intro ⟨h1, h2⟩
    exact ⟨(rkd_perm l).mem_iff.mp h1, fun y hy => h2 y ((rkd_perm l).mem_iff.mpr hy)⟩
  · intro ⟨h1, h2⟩
    exact ⟨(rkd_perm l).mem_iff.mpr h1, fun y hy => h2 y ((rkd_perm l).mem_iff.mp hy)⟩
theorem least_nodup (l : List (List Str)) : (least l).Nodup := by
  rw [least_eq]
  exact keep_nodup _
theorem least_sorted (l : List (List Str)) : (least l).Pairwise (fun a b => leR a b = true) := by
  rw [least_eq]
  exact keep_sorted (rkd_sorted l)
theorem least_one {xs ys : List (List Str)} (n1 : xs.Nodup) (n2 : ys.Nodup) (h1 : xs.Pairwise (fun a b => leR a b = true)) (h2 : ys.Pairwise (fun a b => leR a b = true)) (h : ∀ z, z ∈ xs ↔ z ∈ ys) : xs = ys :=
  rkd_one ((List.perm_ext_iff_of_nodup n1 n2).mpr h) h1 h2
/-- below each one lies a least one -/
theorem least_below {l : List (List Str)} {y : List Str} (hy : y ∈ l) : ∃ m ∈ least l, wi m y = true := by
  rw [least_eq]
  exact List.any_eq_true.mp (fold_any (rkd l) [] y (.inr ((rkd_perm l).mem_iff.mpr hy)))
theorem least_sub {l : List (List Str)} (h : RisAll l) {z : List Str} (hz : z ∈ least l) : z ∈ l := ((least_mem h).mp hz).1
theorem least_ris {l : List (List Str)} (h : RisAll l) : RisAll (least l) := fun z hz => h z (least_sub h hz)
/-- two lists, each with one below each of the other: the same least ones -/
theorem least_ext {A B : List (List Str)} (hA : RisAll A) (hB : RisAll B) (ab : ∀ a ∈ A, ∃ b ∈ B, wi b a = true) (ba : ∀ b ∈ B, ∃ a ∈ A, wi a b = true) : least A = least B := by
  have half : ∀ {A B : List (List Str)}, RisAll A → RisAll B → (∀ a ∈ A, ∃ b ∈ B, wi b a = true) → (∀ b ∈ B, ∃ a ∈ A, wi a b = true) → ∀ z, z ∈ least A → z ∈ least B := by
    intro A B hA hB ab ba z hz
    obtain ⟨zA, zmin⟩ := (least_mem hA).mp hz
    have key : ∀ b ∈ B, wi b z = true → b = z := by
      intro b hb w
      obtain ⟨a, ha, wa⟩ := ba b hb
      have e := zmin a ha (wi_trans wa w)
      subst e
      exact wi_anti (hB b hb) (hA a ha) w wa
    obtain ⟨b, hb, w⟩ := ab z zA
    have e := key b hb w
    subst e
    exact (least_mem hB).mpr ⟨hb, key⟩
  exact least_one (least_nodup A) (least_nodup B) (least_sorted A) (least_sorted B) fun z => ⟨half hA hB ab ba z, half hB hA ba ab z⟩
theorem least_idem {l : List (List Str)} (h : RisAll l) : least (least l) = least l :=
  least_ext (least_ris h) h (fun a ha => ⟨a, least_sub h ha, wi_self a⟩) fun b hb => least_below hb
def box (N : List Str) : List (List Str) := N.foldl (fun acc n => acc ++ acc.map (· ++ [n])) [[]]
theorem box_snoc (N : List Str) (n : Str) : box (N ++ [n]) = box N ++ (box N).map (· ++ [n]) := by
  unfold box
  rw [List.foldl_append]
  rfl
theorem sub_snoc {x N : List Str} {n : Str} : List.Sublist x (N ++ [n]) ↔ List.Sublist x N ∨ ∃ y, x = y ++ [n] ∧ List.Sublist y N := by
  rw [List.sublist_append_iff]
  constructor
  · rintro ⟨a, b, rfl, ha, hb⟩
    cases hb with
    | cons _ hb =>
      cases hb
      rw [List.append_nil]
      exact .inl ha
    | cons_cons _ hb =>
      cases hb
      exact .inr ⟨a, rfl, ha⟩
  · rintro (h | ⟨y, rfl, hy⟩)
    · exact ⟨x, [], by rw [List.append_nil], h, List.nil_sublist _⟩
    · exact ⟨y, [n], rfl, hy, List.Sublist.refl _⟩
theorem box_sub {N : List Str} : ∀ x, x ∈ box N ↔ List.Sublist x N := by
  refine snoc_ind (p := fun N => ∀ x, x ∈ box N ↔ List.Sublist x N) ?_ (fun N n ih => ?_) N
  · intro x
    show x ∈ [[]] ↔ _
    rw [List.mem_singleton, List.sublist_nil]
  · intro x
    rw [box_snoc, List.mem_append, ih, sub_snoc]
    refine or_congr_right ?_
    rw [List.mem_map]
    constructor
    · rintro ⟨y, hy, rfl⟩
      exact ⟨y, rfl, (ih y).mp hy⟩
    · rintro ⟨y, rfl, hy⟩
      exact ⟨y, (ih y).mpr hy, rfl⟩
theorem box_mem {N x : List Str} (h : Ris N) : x ∈ box N ↔ Ris x ∧ ∀ y ∈ x, y ∈ N := by
  rw [box_sub]
  exact ⟨fun s => ⟨ris_sub s h, fun y hy => s.subset hy⟩, fun ⟨h1, h2⟩ => sublist_of h h1 h2⟩
/-- meets a row -/
def mt (s r : List Str) : Bool := s.any r.contains
theorem mt_iff {s r : List Str} : mt s r = true ↔ ∃ y ∈ s, y ∈ r := by
  unfold mt
  rw [List.any_eq_true]
  exact ⟨fun ⟨y, h1, h2⟩ => ⟨y, h1, List.contains_iff_mem.mp h2⟩, fun ⟨y, h1, h2⟩ => ⟨y, h1, List.contains_iff_mem.mpr h2⟩⟩
theorem mt_mono {s t r : List Str} (w : wi s t = true) (h : mt s r = true) : mt t r = true := by
  obtain ⟨y, h1, h2⟩ := mt_iff.mp h
  exact mt_iff.mpr ⟨y, wi_iff.mp w y h1, h2⟩
/-- meets each row -/
def mtAll (s : List Str) (rows : List (List Str)) : Bool := rows.all (mt s)
theorem mtAll_mono {s t : List Str} {rows : List (List Str)} (w : wi s t = true) (h : mtAll s rows = true) : mtAll t rows = true := by
  unfold mtAll at *
  rw [List.all_eq_true] at *
  exact fun r hr => mt_mono w (h r hr)
/-- the sets of N's names that meet all rows -/
def tr (N : List Str) (rows : List (List Str)) : List (List Str) := (box N).filter fun s => mtAll s rows
theorem tr_mem {N x : List Str} {rows : List (List Str)} (h : Ris N) : x ∈ tr N rows ↔ (Ris x ∧ ∀ y ∈ x, y ∈ N) ∧ mtAll x rows = true := by
  unfold tr
  rw [List.mem_filter, box_mem h]
theorem tr_ris {N : List Str} {rows : List (List Str)} (h : Ris N) : RisAll (tr N rows) := fun x hx => ((tr_mem h).mp hx).1.1
def cand (S : List (List Str)) (r : List Str) : List (List Str) := S.flatMap fun s => if mt s r = true then [s] else r.map fun x => once (s ++ [x])
theorem cand_mem {S : List (List Str)} {r z : List Str} : z ∈ cand S r ↔ ∃ s ∈ S, (mt s r = true ∧ z = s) ∨ (mt s r = false ∧ ∃ x ∈ r, z = once (s ++ [x])) := by
  unfold cand
  rw [List.mem_flatMap]
  refine exists_congr fun s => and_congr_right fun _ => ?_
  cases e : mt s r with
  | true => simp
  | false => simp [eq_comm]
theorem cand_ris {S : List (List Str)} {r : List Str} (h : RisAll S) : RisAll (cand S r) := by
  intro z hz
  obtain ⟨s, hs, h1⟩ := cand_mem.mp hz
  rcases h1 with ⟨_, rfl⟩ | ⟨_, x, _, rfl⟩
  · exact h _ hs
  · exact ris_once _
theorem wi_once {s : List Str} {x : Str} : wi s (once (s ++ [x])) = true := wi_iff.mpr fun y hy => once_mem.mpr (List.mem_append_left _ hy)
/-- ONE ROW MORE: the least sets behind it are the least ones of the candidates -/
theorem berge {N : List Str} {rows : List (List Str)} {r : List Str} (hN : Ris N) (hr : ∀ y ∈ r, y ∈ N) : least (tr N (rows ++ [r])) = least (cand (least (tr N rows)) r) := by
  have rT := tr_ris (rows := rows) hN
  refine least_ext (tr_ris hN) (cand_ris (least_ris rT)) (fun t ht => ?_) fun b hb => ?_
  · obtain ⟨⟨t1, t2⟩, t3⟩ := (tr_mem hN).mp ht
    unfold mtAll at t3
    rw [List.all_append, Bool.and_eq_true] at t3
    obtain ⟨s, hs, w⟩ := least_below ((tr_mem hN).mpr ⟨⟨t1, t2⟩, t3.1⟩)
    cases e : mt s r with
    | true => exact ⟨s, cand_mem.mpr ⟨s, hs, .inl ⟨e, rfl⟩⟩, w⟩
    | false =>
      have m : mt t r = true := by simpa using t3.2
      obtain ⟨x, hx, xr⟩ := mt_iff.mp m
      refine ⟨once (s ++ [x]), cand_mem.mpr ⟨s, hs, .inr ⟨e, x, xr, rfl⟩⟩, wi_iff.mpr fun y hy => ?_⟩
      rcases List.mem_append.mp (once_mem.mp hy) with z | z
      · exact wi_iff.mp w y z
      · have z : y = x := by simpa using z
        rw [z]; exact hx
  · obtain ⟨s, hs, h1⟩ := cand_mem.mp hb
    obtain ⟨⟨s1, s2⟩, s3⟩ := (tr_mem hN).mp (least_sub rT hs)
    rcases h1 with ⟨m, rfl⟩ | ⟨_, x, xr, rfl⟩
    · refine ⟨b, (tr_mem hN).mpr ⟨⟨s1, s2⟩, ?_⟩, wi_self b⟩
      unfold mtAll at *
      rw [List.all_append, s3]
      simpa using m
    · refine ⟨_, (tr_mem hN).mpr ⟨⟨ris_once _, fun y hy => ?_⟩, ?_⟩, wi_self _⟩
      · rcases List.mem_append.mp (once_mem.mp hy) with z | z
        · exact s2 y z
        · have z : y = x := by simpa using z
          rw [z]; exact hr x xr
      · have m := mtAll_mono (wi_once (x := x)) s3
        unfold mtAll at *
        rw [List.all_append, m]
        have : mt (once (s ++ [x])) r = true := mt_iff.mpr ⟨x, once_mem.mpr (List.mem_append_right _ List.mem_cons_self), xr⟩
        simpa using this
theorem least_start {N : List Str} (hN : Ris N) : least (tr N []) = [[]] := by
  have e : least (tr N []) = least [[]] := least_ext (tr_ris hN) (fun x hx => by rw [List.mem_singleton.mp hx]; exact ris_nil) (fun a _ => ⟨[], List.mem_singleton.mpr rfl, rfl⟩) fun b hb => ⟨[], (tr_mem hN).mpr ⟨⟨ris_nil, fun _ z => absurd z List.not_mem_nil⟩, rfl⟩, rfl⟩
  rw [e]
  unfold least rkd
  rw [show ddG ([[]] : List (List Str)) = [[]] from rfl, List.mergeSort_singleton]
  rfl
/-- row by row, from the empty set on -/
def grown (rows : List (List Str)) : List (List Str) := rows.foldl (fun S r => least (cand S r)) [[]]
theorem grown_eq {N : List Str} (hN : Ris N) : ∀ rows : List (List Str), (∀ r ∈ rows, ∀ y ∈ r, y ∈ N) → grown rows = least (tr N rows) := by
  intro rows
  refine snoc_ind (p := fun rows => (∀ r ∈ rows, ∀ y ∈ r, y ∈ N) → grown rows = least (tr N rows)) (fun _ => (least_start hN).symm) (fun rows r ih => ?_) rows
  intro h
  have ih := ih fun r' hr' => h r' (List.mem_append_left _ hr')
  unfold grown at *
  rw [List.foldl_append]
  show least (cand (rows.foldl _ [[]]) r) = _
  rw [ih, berge hN (h r (List.mem_append_right _ List.mem_cons_self))]
end K1
namespace K1
open PySem PySem.Spec PyProof.Rows L2 Srx
/-- x is a least set of the rows -/
def Lst (rows : List (List Str)) (x : List Str) : Prop := Ris x ∧ mtAll x rows = true ∧ ∀ y, Ris y → mtAll y rows = true → wi y x = true → y = x
theorem mtAll_iff {x : List Str} {rows : List (List Str)} : mtAll x rows = true ↔ ∀ r ∈ rows, ∃ y ∈ x, y ∈ r := by
  unfold mtAll
  rw [List.all_eq_true]
  exact forall_congr' fun r => imp_congr_right fun _ => mt_iff
def allN (rows : List (List Str)) : List Str := once rows.flatten
theorem allN_mem {rows : List (List Str)} {r : List Str} {y : Str} (hr : r ∈ rows) (hy : y ∈ r) : y ∈ allN rows := once_mem.mpr (List.mem_flatten.mpr ⟨r, hr, hy⟩)
theorem ris_filter {x : List Str} (p : Str → Bool) (h : Ris x) : Ris (x.filter p) := ris_sub List.filter_sublist h
theorem wi_filter {x : List Str} (p : Str → Bool) : wi (x.filter p) x = true := wi_iff.mpr fun y hy => (List.mem_filter.mp hy).1
theorem grown_mem {rows : List (List Str)} {x : List Str} : x ∈ grown rows ↔ Lst rows x := by
  have hN : Ris (allN rows) := ris_once _
  rw [grown_eq hN rows fun r hr y hy => allN_mem hr hy, least_mem (tr_ris hN), tr_mem hN]
  constructor
  · rintro ⟨⟨⟨h1, h2⟩, h3⟩, h4⟩
    exact ⟨h1, h3, fun y y1 y2 w => h4 y ((tr_mem hN).mpr ⟨⟨y1, fun z hz => h2 z (wi_iff.mp w z hz)⟩, y2⟩) w⟩
  · rintro ⟨h1, h3, h4⟩
    refine ⟨⟨⟨h1, ?_⟩, h3⟩, fun y hy w => ?_⟩
    · have e := h4 (x.filter fun y => decide (y ∈ allN rows)) (ris_filter _ h1) (mtAll_iff.mpr fun r hr => by
        obtain ⟨y, y1, y2⟩ := mtAll_iff.mp h3 r hr
        exact ⟨y, List.mem_filter.mpr ⟨y1, decide_eq_true (allN_mem hr y2)⟩, y2⟩) (wi_filter _)
      intro y hy
      rw [← e] at hy
      exact of_decide_eq_true (List.mem_filter.mp hy).2
    · obtain ⟨⟨y1, y2⟩, y3⟩ := (tr_mem hN).mp hy
      exact h4 y y1 y3 w
theorem grown_nodup (rows : List (List Str)) : (grown rows).Nodup := by
  rw [grown_eq (ris_once _) rows fun r hr y hy => allN_mem hr hy]
  exact least_nodup _
theorem grown_sorted (rows : List (List Str)) : (grown rows).Pairwise (fun a b => leR a b = true) := by
  rw [grown_eq (ris_once _) rows fun r hr y hy => allN_mem hr hy]
  exact least_sorted _
theorem grown_ris (rows : List (List Str)) : RisAll (grown rows) := fun x hx => (grown_mem.mp hx).1
/-- told lists of sets are one where they hold the same -/
theorem grown_one {xs : List (List Str)} {rows : List (List Str)} (n : xs.Nodup) (s : xs.Pairwise (fun a b => leR a b = true)) (h : ∀ z, z ∈ xs ↔ Lst rows z) : xs = grown rows :=
  least_one n (grown_nodup rows) s (grown_sorted rows) fun z => (h z).trans grown_mem.symm
theorem lst_congr {rows rows' : List (List Str)} (h : ∀ x, mtAll x rows = mtAll x rows') {x : List Str} : Lst rows x ↔ Lst rows' x := by
  unfold Lst
  simp only [h]
theorem grown_congr {rows rows' : List (List Str)} (h : ∀ x, mtAll x rows = mtAll x rows') : grown rows = grown rows' :=
  least_one (grown_nodup _) (grown_nodup _) (grown_sorted _) (grown_sorted _) fun z => grown_mem.trans ((lst_congr h).trans grown_mem.symm)
theorem lst_below {rows : List (List Str)} {x : List Str} (hx : Ris x) (h : mtAll x rows = true) : ∃ m, Lst rows m ∧ wi m x = true := by
  have hN : Ris (once (x ++ rows.flatten)) := ris_once _
  have hr : ∀ r ∈ rows, ∀ y ∈ r, y ∈ once (x ++ rows.flatten) := fun r hr y hy => once_mem.mpr (List.mem_append_right _ (List.mem_flatten.mpr ⟨r, hr, hy⟩))
  obtain ⟨m, hm, w⟩ := least_below ((tr_mem (rows := rows) hN).mpr ⟨⟨hx, fun y hy => once_mem.mpr (List.mem_append_left _ hy)⟩, h⟩)
  rw [← grown_eq hN rows hr] at hm
  exact ⟨m, grown_mem.mp hm, w⟩
theorem lst_own {rows : List (List Str)} {x : List Str} : Lst rows x ↔ Ris x ∧ mtAll x rows = true ∧ ∀ y ∈ x, ∃ r ∈ rows, y ∈ r ∧ ∀ z ∈ x, z ∈ r → z = y := by
  constructor
  · rintro ⟨h1, h2, h3⟩
    refine ⟨h1, h2, fun y hy => Classical.byContradiction fun no => ?_⟩
    have e := h3 (x.filter fun z => decide (z ≠ y)) (ris_filter _ h1) (mtAll_iff.mpr fun r hr => ?_) (wi_filter _)
    · rw [← e] at hy
      exact of_decide_eq_true (List.mem_filter.mp hy).2 rfl
    · obtain ⟨z, z1, z2⟩ := mtAll_iff.mp h2 r hr
      by_cases ez : z = y
      · subst ez
        exact Classical.byContradiction fun no2 => no ⟨r, hr, z2, fun u u1 u2 => Classical.byContradiction fun ne => no2 ⟨u, List.mem_filter.mpr ⟨u1, decide_eq_true ne⟩, u2⟩⟩
      · exact ⟨z, List.mem_filter.mpr ⟨z1, decide_eq_true ez⟩, z2⟩
  · rintro ⟨h1, h2, h3⟩
    refine ⟨h1, h2, fun y y1 y2 w => wi_anti y1 h1 w (wi_iff.mpr fun u hu => ?_)⟩
    obtain ⟨r, hr, ur, own⟩ := h3 u hu
    obtain ⟨z, z1, z2⟩ := mtAll_iff.mp y2 r hr
    rw [← own z (wi_iff.mp w z z1) z2]
    exact z1
theorem risAll_once (rows : List (List Str)) : RisAll (rows.map once) := fun x hx => by
  obtain ⟨r, _, rfl⟩ := List.mem_map.mp hx
  exact ris_once r
theorem mtAll_once (x : List Str) (rows : List (List Str)) : mtAll x (rows.map once) = mtAll x rows := by
  rw [Bool.eq_iff_iff, mtAll_iff, mtAll_iff]
  constructor
  · intro h r hr
    obtain ⟨y, y1, y2⟩ := h (once r) (List.mem_map.mpr ⟨r, hr, rfl⟩)
    exact ⟨y, y1, once_mem.mp y2⟩
  · intro h r' hr'
    obtain ⟨r, hr, rfl⟩ := List.mem_map.mp hr'
    obtain ⟨y, y1, y2⟩ := h r hr
    exact ⟨y, y1, once_mem.mpr y2⟩
theorem mtAll_least (x : List Str) (rows : List (List Str)) : mtAll x (least (rows.map once)) = mtAll x rows := by
  rw [← mtAll_once x rows, Bool.eq_iff_iff, mtAll_iff, mtAll_iff]
  constructor
  · intro h r hr
    obtain ⟨m, hm, w⟩ := least_below hr
    obtain ⟨y, y1, y2⟩ := h m hm
    exact ⟨y, y1, wi_iff.mp w y y2⟩
  · exact fun h r hr => h r (least_sub (risAll_once rows) hr)
theorem grown_least_rows (rows : List (List Str)) : grown (least (rows.map once)) = grown rows := grown_congr fun x => mtAll_least x rows
/-- THERE AND BACK: the least sets of the book of the least sets are the least rows -/
theorem grown_grown (rows : List (List Str)) : grown (grown rows) = least (rows.map once) := by
  refine (grown_one (rows := grown rows) (least_nodup _) (least_sorted _) fun z => ?_).symm
  have rB := risAll_once rows
  have row_meets : ∀ r ∈ rows, mtAll (once r) (grown rows) = true := fun r hr => mtAll_iff.mpr fun s hs => by
    obtain ⟨y, y1, y2⟩ := mtAll_iff.mp (grown_mem.mp hs).2.1 r hr
    exact ⟨y, once_mem.mpr y2, y1⟩
  have below : ∀ t, Ris t → mtAll t (grown rows) = true → ∃ r ∈ rows, wi (once r) t = true := by
    intro t ht hm
    refine Classical.byContradiction fun no => ?_
    have hc : mtAll ((allN rows).filter fun y => !decide (y ∈ t)) rows = true := mtAll_iff.mpr fun r hr => Classical.byContradiction fun no2 => no ⟨r, hr, wi_iff.mpr fun y hy => Classical.byContradiction fun ny => no2 ⟨y, List.mem_filter.mpr ⟨allN_mem hr (once_mem.mp hy), by simp [ny]⟩, once_mem.mp hy⟩⟩
    obtain ⟨m, hm2, w⟩ := lst_below (ris_filter _ (ris_once _)) hc
    obtain ⟨y, y1, y2⟩ := mtAll_iff.mp hm m (grown_mem.mpr hm2)
    have := (List.mem_filter.mp (wi_iff.mp w y y2)).2
    simp [y1] at this
  rw [least_mem rB]
  constructor
  · rintro ⟨h1, h2⟩
    obtain ⟨r, hr, rfl⟩ := List.mem_map.mp h1
    refine ⟨ris_once r, row_meets r hr, fun y y1 y2 w => ?_⟩
    obtain ⟨r2, hr2, w2⟩ := below y y1 y2
    have e := h2 (once r2) (List.mem_map.mpr ⟨r2, hr2, rfl⟩) (wi_trans w2 w)
    rw [e] at w2
    exact wi_anti y1 (ris_once r) w w2
  · rintro ⟨h1, h2, h3⟩
    obtain ⟨r, hr, w⟩ := below z h1 h2
    have e := h3 (once r) (ris_once r) (row_meets r hr) w
    refine ⟨List.mem_map.mpr ⟨r, hr, e⟩, fun y hy w2 => ?_⟩
    obtain ⟨r2, hr2, rfl⟩ := List.mem_map.mp hy
    exact h3 (once r2) (ris_once r2) (row_meets r2 hr2) w2
def strike (n : Str) (rows : List (List Str)) : List (List Str) := rows.map fun r => r.filter fun y => decide (y ≠ n)
def away (n : Str) (rows : List (List Str)) : List (List Str) := rows.filter fun r => !r.contains n
theorem away_mem {n : Str} {rows : List (List Str)} {r : List Str} : r ∈ away n rows ↔ r ∈ rows ∧ n ∉ r := by
  unfold away
  rw [List.mem_filter]
  refine and_congr_right fun _ => ?_
  rw [Bool.not_eq_true', ← Bool.not_eq_true, List.contains_iff_mem]
theorem mtAll_strike {n : Str} {rows : List (List Str)} {x : List Str} (hn : n ∉ x) : mtAll x (strike n rows) = mtAll x rows := by
  unfold strike
  rw [Bool.eq_iff_iff, mtAll_iff, mtAll_iff]
  constructor
  · intro h r hr
    obtain ⟨y, y1, y2⟩ := h _ (List.mem_map.mpr ⟨r, hr, rfl⟩)
    exact ⟨y, y1, (List.mem_filter.mp y2).1⟩
  · intro h r' hr'
    obtain ⟨r, hr, rfl⟩ := List.mem_map.mp hr'
    obtain ⟨y, y1, y2⟩ := h r hr
    exact ⟨y, y1, List.mem_filter.mpr ⟨y2, decide_eq_true fun e => hn (e ▸ y1)⟩⟩
theorem lst_strike {n : Str} {rows : List (List Str)} {x : List Str} : Lst (strike n rows) x ↔ Lst rows x ∧ n ∉ x := by
  constructor
  · intro h
    have hn : n ∉ x := fun hx => by
      obtain ⟨r', hr', h1, _⟩ := (lst_own.mp h).2.2 n hx
      obtain ⟨r, hr, rfl⟩ := List.mem_map.mp hr'
      exact of_decide_eq_true (List.mem_filter.mp h1).2 rfl
    obtain ⟨h1, h2, h3⟩ := h
    refine ⟨⟨h1, (mtAll_strike hn).symm.trans h2, fun y y1 y2 w => h3 y y1 ?_ w⟩, hn⟩
    rw [mtAll_strike fun hy => hn (wi_iff.mp w n hy)]
    exact y2
  · rintro ⟨⟨h1, h2, h3⟩, hn⟩
    refine ⟨h1, (mtAll_strike hn).trans h2, fun y y1 y2 w => h3 y y1 ?_ w⟩
    rw [← mtAll_strike fun hy => hn (wi_iff.mp w n hy)]
    exact y2
theorem lst_with {n : Str} {rows : List (List Str)} {x : List Str} : Lst rows x ∧ n ∈ x ↔ ∃ s, Lst (away n rows) s ∧ mtAll s rows = false ∧ x = once (s ++ [n]) := by
  constructor
  · rintro ⟨h, hn⟩
    obtain ⟨h1, h2, h3⟩ := lst_own.mp h
    have ms : ∀ z, z ∈ x.filter (fun z => decide (z ≠ n)) ↔ z ∈ x ∧ z ≠ n := fun z => by
      rw [List.mem_filter, decide_eq_true_iff]
    refine ⟨x.filter fun z => decide (z ≠ n), lst_own.mpr ⟨ris_filter _ h1, mtAll_iff.mpr fun r hr => ?_, fun y hy => ?_⟩, ?_, ?_⟩
    · obtain ⟨r1, r2⟩ := away_mem.mp hr
      obtain ⟨z, z1, z2⟩ := mtAll_iff.mp h2 r r1
      exact ⟨z, (ms z).mpr ⟨z1, fun e => r2 (e ▸ z2)⟩, z2⟩
    · obtain ⟨y1, y2⟩ := (ms y).mp hy
      obtain ⟨r, r1, r2, own⟩ := h3 y y1
      exact ⟨r, away_mem.mpr ⟨r1, fun z => y2 (own n hn z).symm⟩, r2, fun z hz => own z ((ms z).mp hz).1⟩
    · obtain ⟨r, r1, r2, own⟩ := h3 n hn
      refine Bool.eq_false_iff.mpr fun z => ?_
      obtain ⟨u, u1, u2⟩ := mtAll_iff.mp z r r1
      exact ((ms u).mp u1).2 (own u ((ms u).mp u1).1 u2)
    · refine wi_anti h1 (ris_once _) (wi_iff.mpr fun y hy => once_mem.mpr ?_) (wi_iff.mpr fun y hy => ?_)
      · by_cases e : y = n
        · exact List.mem_append_right _ (by rw [e]; exact List.mem_cons_self)
        · exact List.mem_append_left _ ((ms y).mpr ⟨hy, e⟩)
      · rcases List.mem_append.mp (once_mem.mp hy) with z | z
        · exact ((ms y).mp z).1
        · rw [List.mem_singleton.mp z]; exact hn
  · rintro ⟨s, h, bad, rfl⟩
    obtain ⟨h1, h2, h3⟩ := lst_own.mp h
    have mo : ∀ z, z ∈ once (s ++ [n]) ↔ z ∈ s ∨ z = n := fun z => by
      rw [once_mem, List.mem_append, List.mem_singleton]
    refine ⟨lst_own.mpr ⟨ris_once _, mtAll_iff.mpr fun r hr => ?_, fun y hy => ?_⟩, (mo n).mpr (.inr rfl)⟩
    · by_cases hn : n ∈ r
      · exact ⟨n, (mo n).mpr (.inr rfl), hn⟩
      · obtain ⟨y, y1, y2⟩ := mtAll_iff.mp h2 r (away_mem.mpr ⟨hr, hn⟩)
        exact ⟨y, (mo y).mpr (.inl y1), y2⟩
    · rcases (mo y).mp hy with hs | rfl
      · obtain ⟨r, r1, r2, own⟩ := h3 y hs
        obtain ⟨r3, r4⟩ := away_mem.mp r1
        refine ⟨r, r3, r2, fun z hz zr => ?_⟩
        rcases (mo z).mp hz with k | k
        · exact own z k zr
        · exact absurd (k ▸ zr) r4
      · have ex : ∃ r ∈ rows, ¬ ∃ z ∈ s, z ∈ r := Classical.byContradiction fun no => by
          have : mtAll s rows = true := mtAll_iff.mpr fun r hr => Classical.byContradiction fun k => no ⟨r, hr, k⟩
          rw [this] at bad
          cases bad
        obtain ⟨r, hr, none_⟩ := ex
        refine ⟨r, hr, Classical.byContradiction fun ny => none_ ?_, fun z hz zr => ?_⟩
        · obtain ⟨z, z1, z2⟩ := mtAll_iff.mp h2 r (away_mem.mpr ⟨hr, ny⟩)
          exact ⟨z, z1, z2⟩
        · rcases (mo z).mp hz with k | k
          · exact absurd ⟨z, k, zr⟩ none_
          · exact k
end K1
namespace K1
open PySem PySem.Spec PyProof.Rows L2 Srx
/-- sets that meet all, one of them below each that does: their least ones are the least sets -/
theorem least_grown {B rows : List (List Str)} (hB : RisAll B) (all : ∀ b ∈ B, mtAll b rows = true) (below : ∀ x, Ris x → mtAll x rows = true → ∃ b ∈ B, wi b x = true) : least B = grown rows := by
  refine grown_one (least_nodup _) (least_sorted _) fun z => ?_
  rw [least_mem hB]
  constructor
  · rintro ⟨h1, h2⟩
    refine ⟨hB z h1, all z h1, fun y y1 y2 w => ?_⟩
    obtain ⟨b, hb, wb⟩ := below y y1 y2
    have e := h2 b hb (wi_trans wb w)
    rw [e] at wb
    exact wi_anti y1 (hB z h1) w wb
  · rintro ⟨h1, h2, h3⟩
    obtain ⟨b, hb, wb⟩ := below z h1 h2
    have e := h3 b (hB b hb) (all b hb) wb
    subst e
    exact ⟨hb, fun y hy w => h3 y (hB y hy) (all y hy) w⟩
def unions (A B : List (List Str)) : List (List Str) := A.flatMap fun a => B.map fun b => once (a ++ b)
theorem unions_mem {A B : List (List Str)} {z : List Str} : z ∈ unions A B ↔ ∃ a ∈ A, ∃ b ∈ B, z = once (a ++ b) := by
  unfold unions
  rw [List.mem_flatMap]
  refine exists_congr fun a => and_congr_right fun _ => ?_
  rw [List.mem_map]
  exact exists_congr fun b => and_congr_right fun _ => eq_comm
theorem mtAll_append (x : List Str) (A B : List (List Str)) : mtAll x (A ++ B) = (mtAll x A && mtAll x B) := by
  unfold mtAll
  rw [List.all_append]
theorem joined_eq (A B : List (List Str)) : least (unions (grown A) (grown B)) = grown (A ++ B) := by
  refine least_grown (fun z hz => ?_) (fun z hz => ?_) fun x x1 x2 => ?_
  · obtain ⟨a, _, b, _, rfl⟩ := unions_mem.mp hz
    exact ris_once _
  · obtain ⟨a, ha, b, hb, rfl⟩ := unions_mem.mp hz
    rw [mtAll_append, Bool.and_eq_true]
    exact ⟨mtAll_mono (wi_iff.mpr fun y hy => once_mem.mpr (List.mem_append_left _ hy)) (grown_mem.mp ha).2.1, mtAll_mono (wi_iff.mpr fun y hy => once_mem.mpr (List.mem_append_right _ hy)) (grown_mem.mp hb).2.1⟩
  · rw [mtAll_append, Bool.and_eq_true] at x2
    obtain ⟨a, ha, wa⟩ := lst_below x1 x2.1
    obtain ⟨b, hb, wb⟩ := lst_below x1 x2.2
    refine ⟨_, unions_mem.mpr ⟨a, grown_mem.mpr ha, b, grown_mem.mpr hb, rfl⟩, wi_iff.mpr fun y hy => ?_⟩
    rcases List.mem_append.mp (once_mem.mp hy) with z | z
    · exact wi_iff.mp wa y z
    · exact wi_iff.mp wb y z
theorem crossed_eq (A B : List (List Str)) : least (grown A ++ grown B) = grown (unions A B) := by
  refine least_grown (fun z hz => (List.mem_append.mp hz).elim (grown_ris A z) (grown_ris B z)) (fun z hz => mtAll_iff.mpr fun r hr => ?_) fun x x1 x2 => ?_
  · obtain ⟨a, ha, b, hb, rfl⟩ := unions_mem.mp hr
    rcases List.mem_append.mp hz with h | h
    · obtain ⟨y, y1, y2⟩ := mtAll_iff.mp (grown_mem.mp h).2.1 a ha
      exact ⟨y, y1, once_mem.mpr (List.mem_append_left _ y2)⟩
    · obtain ⟨y, y1, y2⟩ := mtAll_iff.mp (grown_mem.mp h).2.1 b hb
      exact ⟨y, y1, once_mem.mpr (List.mem_append_right _ y2)⟩
  · by_cases hA : mtAll x A = true
    · obtain ⟨a, ha, wa⟩ := lst_below x1 hA
      exact ⟨a, List.mem_append_left _ (grown_mem.mpr ha), wa⟩
    · by_cases hB : mtAll x B = true
      · obtain ⟨b, hb, wb⟩ := lst_below x1 hB
        exact ⟨b, List.mem_append_right _ (grown_mem.mpr hb), wb⟩
      · refine absurd (mtAll_iff.mpr fun a ha => Classical.byContradiction fun na => hB (mtAll_iff.mpr fun b hb => ?_)) hA
        obtain ⟨y, y1, y2⟩ := mtAll_iff.mp x2 _ (unions_mem.mpr ⟨a, ha, b, hb, rfl⟩)
        rcases List.mem_append.mp (once_mem.mp y2) with z | z
        · exact absurd ⟨y, y1, z⟩ na
        · exact ⟨y, y1, z⟩
theorem lst_ex {rows : List (List Str)} : (∃ x, Lst rows x) ↔ [] ∉ rows := by
  constructor
  · rintro ⟨x, _, h, _⟩ he
    obtain ⟨y, _, y2⟩ := mtAll_iff.mp h [] he
    exact absurd y2 List.not_mem_nil
  · intro h
    obtain ⟨m, hm, _⟩ := lst_below (rows := rows) (ris_once rows.flatten) (mtAll_iff.mpr fun r hr => by
      cases r with
      | nil => exact absurd hr h
      | cons y r => exact ⟨y, allN_mem hr List.mem_cons_self, List.mem_cons_self⟩)
    exact ⟨m, hm⟩
theorem needed_iff {rows : List (List Str)} {y : Str} : ((∃ x, Lst rows x) ∧ ∀ x, Lst rows x → y ∈ x) ↔ [] ∉ rows ∧ ∃ r ∈ rows, ∀ z ∈ r, z = y := by
  constructor
  · rintro ⟨h1, h2⟩
    have h0 := lst_ex.mp h1
    refine ⟨h0, Classical.byContradiction fun no => ?_⟩
    have hc : mtAll ((allN rows).filter fun z => decide (z ≠ y)) rows = true := mtAll_iff.mpr fun r hr => Classical.byContradiction fun k => no ⟨r, hr, fun z hz => Classical.byContradiction fun ne => k ⟨z, List.mem_filter.mpr ⟨allN_mem hr hz, decide_eq_true ne⟩, hz⟩⟩
    obtain ⟨m, hm, w⟩ := lst_below (ris_filter _ (ris_once _)) hc
    exact of_decide_eq_true (List.mem_filter.mp (wi_iff.mp w y (h2 m hm))).2 rfl
  · rintro ⟨h0, r, hr, hy⟩
    refine ⟨lst_ex.mpr h0, fun x h => ?_⟩
    obtain ⟨z, z1, z2⟩ := mtAll_iff.mp h.2.1 r hr
    rw [← hy z z2]
    exact z1
/-- a name stands in a least set just where it stands in a least row -/
theorem used_iff {rows : List (List Str)} {y : Str} : (∃ x, Lst rows x ∧ y ∈ x) ↔ ∃ r ∈ least (rows.map once), y ∈ r := by
  constructor
  · rintro ⟨x, h, hy⟩
    obtain ⟨r, hr, yr, own⟩ := (lst_own.mp h).2.2 y hy
    obtain ⟨m, hm, w⟩ := least_below (List.mem_map.mpr ⟨r, hr, rfl⟩ : once r ∈ rows.map once)
    obtain ⟨z, z1, z2⟩ := mtAll_iff.mp ((mtAll_least x rows).trans h.2.1) m hm
    have e := own z z1 (once_mem.mp (wi_iff.mp w z z2))
    exact ⟨m, hm, e ▸ z2⟩
  · rintro ⟨r, hr, hy⟩
    rw [← grown_grown] at hr
    obtain ⟨s, hs, ys, _⟩ := (lst_own.mp (grown_mem.mp hr)).2.2 y hy
    exact ⟨s, grown_mem.mp hs, ys⟩
theorem find_first {α : Type} {p : α → Bool} {le : α → α → Prop} : ∀ {l : List α}, l.Pairwise le → ∀ {f : α}, l.find? p = some f → f ∈ l ∧ p f = true ∧ ∀ y ∈ l, p y = true → y = f ∨ le f y
  | [], _, f, h => by cases h
  | a :: l, hp, f, h => by
    obtain ⟨h1, h2⟩ := List.pairwise_cons.mp hp
    rw [List.find?_cons] at h
    cases e : p a with
    | true =>
      rw [e] at h
      cases h
      exact ⟨List.mem_cons_self, e, fun y hy _ => (List.mem_cons.mp hy).imp id (h1 y)⟩
    | false =>
      rw [e] at h
      obtain ⟨k1, k2, k3⟩ := find_first h2 h
      refine ⟨List.mem_cons_of_mem _ k1, k2, fun y hy py => ?_⟩
      rcases List.mem_cons.mp hy with z | z
      · rw [z, e] at py
        cases py
      · exact k3 y z py
theorem leR_refl (a : List Str) : leR a a = true := by
  have := leR_total a a
  simpa using this
/-- the first, by rank, of all sets of N's names that meet all rows: the first least set -/
theorem first_eq {N : List Str} {rows : List (List Str)} (hN : Ris N) (hr : ∀ r ∈ rows, ∀ y ∈ r, y ∈ N) : (rkd (box N)).find? (fun s => mtAll s rows) = (grown rows).head? := by
  rw [grown_eq hN rows hr]
  have mem : ∀ x, x ∈ rkd (box N) ↔ Ris x ∧ ∀ y ∈ x, y ∈ N := fun x => by rw [(rkd_perm _).mem_iff, box_mem hN]
  cases e : (rkd (box N)).find? (fun s => mtAll s rows) with
  | none =>
    have no := List.find?_eq_none.mp e
    cases e2 : least (tr N rows) with
    | nil => rfl
    | cons x l =>
      have hx : x ∈ least (tr N rows) := by rw [e2]; exact List.mem_cons_self
      obtain ⟨k1, k2⟩ := (tr_mem hN).mp (least_sub (tr_ris hN) hx)
      exact absurd k2 (no x ((mem x).mpr k1))
  | some f =>
    obtain ⟨h1, h2, h3⟩ := find_first (rkd_sorted _) e
    obtain ⟨f1, f2⟩ := (mem f).mp h1
    have fT : f ∈ tr N rows := (tr_mem hN).mpr ⟨⟨f1, f2⟩, h2⟩
    have first : ∀ y ∈ tr N rows, leR f y = true := fun y hy => by
      obtain ⟨k1, k2⟩ := (tr_mem hN).mp hy
      rcases h3 y ((mem y).mpr k1) k2 with z | z
      · rw [z]; exact leR_refl f
      · exact z
    have fL : f ∈ least (tr N rows) := (least_mem (tr_ris hN)).mpr ⟨fT, fun y hy w => wi_eq (tr_ris hN y hy) f1 w (leR_len (first y hy))⟩
    cases e2 : least (tr N rows) with
    | nil => rw [e2] at fL; exact absurd fL List.not_mem_nil
    | cons x l =>
      have hx : x ∈ least (tr N rows) := by rw [e2]; exact List.mem_cons_self
      have s := least_sorted (tr N rows)
      rw [e2] at s fL
      have a1 : leR f x = true := first x (least_sub (tr_ris hN) hx)
      have a2 : leR x f = true := by
        rcases List.mem_cons.mp fL with z | z
        · rw [z]; exact leR_refl x
        · exact (List.pairwise_cons.mp s).1 f z
      rw [leR_anti a1 a2]
      rfl
def pareStep (rows : List (List Str)) (left : List Str) (n : Str) : List Str := if mtAll (left.filter fun y => decide (y ≠ n)) rows = true then left.filter fun y => decide (y ≠ n) else left
def pared (rows : List (List Str)) (x : List Str) : List Str := x.reverse.foldl (pareStep rows) x
theorem pare_inv {rows : List (List Str)} : ∀ (ns left done : List Str), Ris left → mtAll left rows = true → (∀ p ∈ done, p ∈ left → mtAll (left.filter fun y => decide (y ≠ p)) rows = false) →
    Ris (ns.foldl (pareStep rows) left) ∧ mtAll (ns.foldl (pareStep rows) left) rows = true ∧ (∀ y ∈ ns.foldl (pareStep rows) left, y ∈ left) ∧ ∀ p, (p ∈ done ∨ p ∈ ns) → p ∈ ns.foldl (pareStep rows) left → mtAll ((ns.foldl (pareStep rows) left).filter fun y => decide (y ≠ p)) rows = false
  | [], left, done, h1, h2, h3 => ⟨h1, h2, fun y hy => hy, fun p hp => h3 p (hp.resolve_right List.not_mem_nil)⟩
  | n :: ns, left, done, h1, h2, h3 => by
    rw [List.foldl_cons]
    have key : ∀ left', left' = pareStep rows left n → Ris left' ∧ mtAll left' rows = true ∧ (∀ y ∈ left', y ∈ left) ∧ ∀ p ∈ n :: done, p ∈ left' → mtAll (left'.filter fun y => decide (y ≠ p)) rows = false := by
      intro left' e
      unfold pareStep at e
      by_cases c : mtAll (left.filter fun y => decide (y ≠ n)) rows = true
      · rw [if_pos c] at e
        subst e
        refine ⟨ris_filter _ h1, c, fun y hy => (List.mem_filter.mp hy).1, fun p hp hpl => ?_⟩
        obtain ⟨p1, p2⟩ := List.mem_filter.mp hpl
        have pn : p ≠ n := of_decide_eq_true p2
        have pd : p ∈ done := (List.mem_cons.mp hp).resolve_left pn
        refine Bool.eq_false_iff.mpr fun z => ?_
        have z2 : mtAll (left.filter fun y => decide (y ≠ p)) rows = true := mtAll_mono (wi_iff.mpr fun y hy => by
          obtain ⟨y1, y2⟩ := List.mem_filter.mp hy
          exact List.mem_filter.mpr ⟨(List.mem_filter.mp y1).1, y2⟩) z
        rw [h3 p pd p1] at z2
        cases z2
      · rw [if_neg c] at e
        subst e
        refine ⟨h1, h2, fun y hy => hy, fun p hp hpl => ?_⟩
        rcases List.mem_cons.mp hp with z | z
        · rw [z]; exact Bool.eq_false_iff.mpr c
        · exact h3 p z hpl
    obtain ⟨k1, k2, k3, k4⟩ := key _ rfl
    obtain ⟨j1, j2, j3, j4⟩ := pare_inv ns (pareStep rows left n) (n :: done) k1 k2 k4
    refine ⟨j1, j2, fun y hy => k3 y (j3 y hy), fun p hp => j4 p ?_⟩
    rcases hp with hp | hp
    · exact .inl (List.mem_cons_of_mem _ hp)
    · rcases List.mem_cons.mp hp with z | z
      · exact .inl (by rw [z]; exact List.mem_cons_self)
      · exact .inr z
theorem pared_lst {rows : List (List Str)} {x : List Str} (h1 : Ris x) (h2 : mtAll x rows = true) : Lst rows (pared rows x) ∧ ∀ y ∈ pared rows x, y ∈ x := by
  obtain ⟨k1, k2, k3, k4⟩ := pare_inv (rows := rows) x.reverse x [] h1 h2 fun p hp => absurd hp List.not_mem_nil
  refine ⟨⟨k1, k2, fun y y1 y2 w => ?_⟩, k3⟩
  refine wi_anti y1 k1 w (wi_iff.mpr fun u hu => Classical.byContradiction fun nu => ?_)
  have z := k4 u (.inr (List.mem_reverse.mpr (k3 u hu))) hu
  have z2 : mtAll ((x.reverse.foldl (pareStep rows) x).filter fun y => decide (y ≠ u)) rows = true := mtAll_mono (wi_iff.mpr fun v hv => List.mem_filter.mpr ⟨wi_iff.mp w v hv, decide_eq_true fun e => nu (e ▸ hv)⟩) y2
  rw [z] at z2
  cases z2
theorem pared_id {rows : List (List Str)} {x : List Str} (h : Lst rows x) : pared rows x = x := by
  obtain ⟨p1, p2⟩ := pared_lst h.1 h.2.1
  exact h.2.2 _ p1.1 p1.2.1 (wi_iff.mpr p2)
theorem pared_iff {rows : List (List Str)} {x : List Str} (h1 : Ris x) (h2 : mtAll x rows = true) : pared rows x = x ↔ Lst rows x := ⟨fun e => e ▸ (pared_lst h1 h2).1, pared_id⟩
end K1
namespace K1
open PySem PySem.Spec PyProof.Rows L2 Gr GxR Srx Skx Dcx
/-- for one in G: if [other for other in found if within(other, one)] == []: found.append(one) -/
theorem keep_loop {K : PySem.W.Frag} {G B : Addr} {gs : List (Addr × List Str)} {H3 H4 : Hp} {σ : L2.St} {D : Ends} {j jo jf : Nat}
    (hG : H4 G = some (.lst (gs.map fun q => V.ref q.1))) (nGB : G ≠ B) (gown : ∀ q ∈ gs, H3 q.1 = some (.lst (q.2.map V.str)) ∧ Nms q.2) (gl : gs.length ≤ 5000) (nB : H3 B = none) (gB0 : Gr H3 H4) (eB0 : H4 B = some (.lst []))
    (hj : j < σ.length) (hjo : jo < σ.length) (hf : σ[jf]? = some (some (.ref B))) (n1 : jf ≠ j) (n2 : jo ≠ j) (n3 : jo ≠ jf)
    (hd : ∀ (v : Option V) (H5 : Hp) (kps : List (Addr × List Str)), Gr H3 H5 → H5 B = some (.lst (kps.map fun q => V.ref q.1)) → List.Sublist kps gs → kps.map (·.2) = (gs.map (·.2)).foldl keep [] → D.nx (σ.set j v) H5) :
    ∃ W : Nat → Nat → L2.St → Hp → Prop, (∃ m, W 0 m σ H4) ∧ ∀ i m' σ H, W i m' σ H →
      ((Itl K G).stop i H ∧ D.nx σ H) ∨ ((Itl K G).go i H ∧ ∃ N : L2.St → Hp → Prop, (∀ σ' H', N σ' H' → ∃ m2, m2 < m' ∧ W (i + 1) m2 σ' H') ∧ ∀ x H', (Itl K G).yld i H x H' → gName j x σ H' fun σ2 H2 =>
        tIfS (tTest (tOp (rEqD K) (tLc (iList K (tVar jf)) (gName jo) (tB (tCall (spLWithin K) [] E0 (tCons (tVar jo) (tCons (tVar j) tNil)))) (tVar jo) [jo]) (tLst tNil))) (tDrop (tBM K "list" rAppend (tVar jf) (tCons (tVar j) tNil))) tNext { D with nx := N, ct := N, bk := D.nx } σ2 H2) := by
  have big : ∀ n : Nat, n ≤ 5000 → n < sizeLine := fun n hn => by rw [sizeLine_eq]; omega
  refine for_list (K := K) (xs := gs.map fun q : Addr × List Str => V.ref q.1) (fun i σ' H5 => Gr H3 H5 ∧ H5 G = some (.lst (gs.map fun q => V.ref q.1)) ∧ ∃ (kps : List (Addr × List Str)), H5 B = some (.lst (kps.map fun q => V.ref q.1)) ∧ List.Sublist kps (gs.take i) ∧ kps.map (·.2) = ((gs.take i).map (·.2)).foldl keep [] ∧ ∃ v, σ' = σ.set j v) ⟨gB0, hG, [], eB0, List.Sublist.refl _, rfl, σ[j], (List.set_getElem_self ..).symm⟩ (fun i σ' H5 _ h => .inl (.inl h.2.1)) (fun i x σ' H5 hx h => ?_) (fun σ' H5 h => ?_)
  · obtain ⟨g5, eG, kps, eB, sub, km, v, rfl⟩ := h
    obtain ⟨q0, hq0, rfl⟩ := get_map hx
    have m0 := List.mem_of_getElem? hq0
    have hi : i < gs.length := (List.getElem?_eq_some_iff.mp hq0).1
    have kl : kps.length ≤ 5000 := by
      have h1 := sub.length_le
      rw [List.length_take] at h1
      omega
    have ksub : ∀ q ∈ kps, q ∈ gs := fun q hq => List.mem_of_mem_take (sub.subset hq)
    show tIfS _ _ _ _ ((σ.set j v).set j (some (.ref q0.1))) H5
    rw [List.set_set]
    have sf : (σ.set j (some (V.ref q0.1)))[jf]? = some (some (.ref B)) := by rw [List.getElem?_set_ne (Ne.symm n1)]; exact hf
    have sj : (σ.set j (some (V.ref q0.1)))[j]? = some (some (.ref q0.1)) := by rw [List.getElem?_set_self hj]
    have sl : jo < (σ.set j (some (V.ref q0.1))).length := by rw [List.length_set]; exact hjo
    generalize hτ : σ.set j (some (V.ref q0.1)) = τ at sf sj sl
    have lo : ∀ z : Option V, ((τ.set jo none).set jo z)[jo]? = some z := fun z => by rw [List.getElem?_set_self (by rw [List.length_set]; exact sl)]
    have lj : ∀ z : Option V, ((τ.set jo none).set jo z)[j]? = some (some (.ref q0.1)) := fun z => by rw [List.getElem?_set_ne n2, List.getElem?_set_ne n2]; exact sj
    refine ⟨.ref B, sf, B, rfl, ⟨_, .inl (.inl eB)⟩, fun D5 nD5 => lc_list (K := K) (xs := kps.map fun q : Addr × List Str => V.ref q.1) (fun k H6 => Gr H5 H6 ∧ H6 D5 = some (.lst (((kps.take k).filter fun q => wi q.2 q0.2).map fun q => V.ref q.1))) ⟨Gr.new nD5, upd_same⟩ (fun k H6 _ h => .inl (.inl (h.1.lst eB))) (fun k x H6 hx h => ?_) (fun H6 h => ?_)⟩
    · obtain ⟨g6, eD5⟩ := h
      obtain ⟨k0, hk0, rfl⟩ := get_map hx
      have hk : k < kps.length := (List.getElem?_eq_some_iff.mp hk0).1
      have g36 := g5.trans g6
      refine ⟨?_, ?_⟩
      · show ((τ.set jo none).set jo _).set jo none = τ.set jo none
        rw [List.set_set, List.set_set]
      refine ⟨.ref k0.1, lo _, .ref q0.1, lj _, k0.1, q0.1, k0.2, q0.2, rfl, .inl (.inl (g36.lst (gown k0 (ksub k0 (List.mem_of_getElem? hk0))).1)), .inl (.inl (g36.lst (gown q0 m0).1)), _, rfl, ?_⟩
      have tk : (kps.take (k + 1)).filter (fun q => wi q.2 q0.2) = (kps.take k).filter (fun q => wi q.2 q0.2) ++ (if wi k0.2 q0.2 = true then [k0] else []) := by
        rw [List.take_add_one, hk0, List.filter_append]
        congr 1
        show List.filter _ [k0] = _
        rw [List.filter_cons]
        rfl
      cases e : wi k0.2 q0.2 with
      | true =>
        rw [show k0.2.all q0.2.contains = true from e]
        refine iteT ⟨.ref k0.1, lo _, _, eD5, ?_, g6.mut nD5, ?_⟩
        · rw [List.length_map]
          refine Nat.lt_of_le_of_lt (List.length_filter_le _ _) ?_
          rw [List.length_take]
          exact big _ (by omega)
        · rw [upd_same, tk, e, List.map_append]
          rfl
      | false =>
        rw [show k0.2.all q0.2.contains = false from e]
        refine iteF ⟨g6, ?_⟩
        rw [tk, e]
        simp only [Bool.false_eq_true, if_false, List.append_nil]
        exact eD5
    · obtain ⟨g6, eD5⟩ := h
      rw [List.length_map, List.take_length] at eD5
      refine ⟨Nat.zero_le _, fun E6 nE6 => ?_⟩
      have g7 : Gr H6 (upd H6 E6 (.lst [])) := Gr.new nE6
      have eE6 : (upd H6 E6 (.lst [])) E6 = some (.lst []) := upd_same
      generalize upd H6 E6 (.lst []) = H7 at g7 eE6
      have g37 := (g5.trans g6).trans g7
      have g57 := g6.trans g7
      have fsub : ∀ q ∈ kps.filter (fun q => wi q.2 q0.2), q ∈ gs := fun q hq => ksub q (List.mem_filter.mp hq).1
      refine ⟨dSS ((kps.filter fun q => wi q.2 q0.2).map (·.2)), dSS (([] : List (Addr × List Str)).map (·.2)), dp_dSS (.inl (.inl (g7.lst eD5))) (fun q hq => .inl (.inl (g37.lst (gown q (fsub q hq)).1))), dp_dSS (.inl (.inl eE6)) (fun q hq => absurd hq List.not_mem_nil), shaped_dSS (fun xs hx => ?_), shaped_dSS (fun xs hx => absurd hx List.not_mem_nil), _, rfl, ?_⟩
      · obtain ⟨q, hq, rfl⟩ := List.mem_map.mp hx
        exact (gown q (fsub q hq)).2
      · rw [eqv_dSS]
        have anyeq : (kps.map (·.2)).any (fun l => wi l q0.2) = kps.any (fun q => wi q.2 q0.2) := by
          rw [List.any_map]
          rfl
        by_cases hany : kps.any (fun q => wi q.2 q0.2) = true
        · have ne1 : ¬ ((kps.filter fun q => wi q.2 q0.2).map (·.2) = ([] : List (Addr × List Str)).map (·.2)) := by
            intro z
            obtain ⟨k0, mk, wk⟩ := List.any_eq_true.mp hany
            have z : (kps.filter fun q => wi q.2 q0.2) = [] := List.map_eq_nil_iff.mp z
            have mf : k0 ∈ kps.filter (fun q => wi q.2 q0.2) := List.mem_filter.mpr ⟨mk, wk⟩
            rw [z] at mf
            exact absurd mf List.not_mem_nil
          rw [decide_eq_false ne1]
          refine iteF ⟨g37, g57.lst eG, kps, g57.lst eB, sub.trans (List.take_sublist_take_left (Nat.le_succ _)), ?_, _, hτ.symm⟩
          rw [take_map hq0, List.foldl_append, ← km]
          exact (if_pos (anyeq.trans hany)).symm
        · have e1 : ((kps.filter fun q => wi q.2 q0.2).map (·.2) = ([] : List (Addr × List Str)).map (·.2)) := by
            have fe : kps.filter (fun q => wi q.2 q0.2) = [] := List.filter_eq_nil_iff.mpr fun q hq z => hany (List.any_eq_true.mpr ⟨q, hq, z⟩)
            rw [fe]
          rw [decide_eq_true e1]
          have eB7 := g57.lst eB
          refine iteT ⟨.ref B, sf, .inl ⟨rfl, _, .inl (.inl eB7)⟩, .ref q0.1, sj, B, _, _, rfl, rfl, eB7, ?_, ?_⟩
          · rw [List.length_map]
            exact big _ (by omega)
          · refine ⟨g37.mut nB, by rw [upd_ne nGB]; exact g57.lst eG, kps ++ [q0], ?_, ?_, ?_, _, hτ.symm⟩
            · rw [upd_same, List.map_append]
              rfl
            · rw [List.take_add_one, hq0]
              exact sub.append (List.Sublist.refl _)
            · rw [take_map hq0, List.foldl_append, List.map_append, ← km]
              exact (if_neg (fun z => hany (anyeq.symm.trans z))).symm
  · obtain ⟨g5, eG, kps, eB, sub, km, v, rfl⟩ := h
    rw [List.length_map, List.take_length] at sub km
    exact hd v H5 kps g5 eB sub km
end K1
namespace K1
open PySem PySem.Spec PyProof.Rows L2 Gr GxR Srx Skx Dcx
theorem dpAll_snoc {K : PySem.W.Frag} {H : Hp} : ∀ {vs : List V} {ds : List PyData} {v : V} {d : PyData}, DpAll K H vs ds → Dp K H v d → DpAll K H (vs ++ [v]) (ds ++ [d])
  | _, _, _, _, .nil, h => .cons h .nil
  | _, _, _, _, .cons r t, h => .cons r (dpAll_snoc t h)
theorem dpAll_len {K : PySem.W.Frag} {H : Hp} : ∀ {vs : List V} {ds : List PyData}, DpAll K H vs ds → vs.length = ds.length
  | _, _, .nil => rfl
  | _, _, .cons _ t => congrArg Nat.succ (dpAll_len t)
/-- a heap but for one object -/
def mask (D : Addr) (H : Hp) : Hp := fun b => if b = D then none else H b
theorem mask_at {D b : Addr} {H : Hp} (h : b ≠ D) : mask D H b = H b := if_neg h
theorem mask_self (D : Addr) (H : Hp) : mask D H D = none := if_pos rfl
theorem mask_upd (D : Addr) (H : Hp) (o : HO) : mask D (upd H D o) = mask D H := by
  funext b
  by_cases h : b = D
  · rw [h, mask_self, mask_self]
  · rw [mask_at h, mask_at h, upd_ne h]
theorem mask_some {D b : Addr} {H : Hp} {o : HO} (h : mask D H b = some o) : b ≠ D ∧ H b = some o := by
  by_cases e : b = D
  · rw [e, mask_self] at h
    cases h
  · exact ⟨e, (mask_at e).symm.trans h⟩
theorem gr_mask {D : Addr} {H H' : Hp} (g : Gr H H') : Gr (mask D H) (mask D H') :=
  ⟨fun b o e n => by
    obtain ⟨h1, h2⟩ := mask_some e
    rw [mask_at h1]
    exact g.at_ b o h2 n, fun b ps e => by
    obtain ⟨h1, h2⟩ := mask_some e
    obtain ⟨p1, e1, k1⟩ := g.tab b ps h2
    exact ⟨p1, by rw [mask_at h1]; exact e1, k1⟩⟩
theorem gr_unmask (D : Addr) (H : Hp) : Gr (mask D H) H :=
  ⟨fun b o e _ => (mask_some e).2, fun b ps e => ⟨ps, (mask_some e).2, fun h => h⟩⟩
/-- what stood where D did not -/
theorem gr_masked {D : Addr} {H H' : Hp} (hD : H D = none) (g : Gr H H') : Gr H (mask D H') :=
  ⟨fun b o e n => by rw [mask_at (ne_of_none e hD)]; exact g.at_ b o e n, fun b ps e => by
    obtain ⟨p1, e1, k1⟩ := g.tab b ps e
    exact ⟨p1, by rw [mask_at (ne_of_none e hD)]; exact e1, k1⟩⟩
/-- [e for k in range(n)]: what is made is read as data -/
theorem lc_data {K : PySem.W.Frag} {D : Addr} {j n : Nat} {σ : L2.St} {vs : List Nat} {te : TE} {H H1 : Hp} {Qd : Hp → Prop} (enc : Nat → PyData) (few : n ≤ 1000) (gr : Gr H H1) (hD : H1 D = none) (hw : ∀ v, wipe ((wipe σ vs).set j (some v)) vs = wipe σ vs)
    (he : ∀ (k : Nat) (H4 : Hp) (Q' : VK), k < n → Gr H H4 → (∃ xs, H4 D = some (.lst xs)) → (∀ v H5, Gr H4 H5 → Dp K (mask D H5) v (enc k) → Q' v H5) → te ((wipe σ vs).set j (some (.int ((0 : Int) + (k : Nat))))) H4 Q')
    (q : ∀ H2, Gr H H2 → Dp K H2 (.ref D) (.list ((List.range n).map enc)) → Qd H2) :
    ∃ W : Nat → Nat → Hp → Prop, (∃ m, W 0 m (upd H1 D (.lst []))) ∧ ∀ i m H, W i m H →
      ((Itr 0 n).stop i H ∧ Qd H) ∨ ((Itr 0 n).go i H ∧ ∃ Nx : Hp → Prop, (∀ H', Nx H' → ∃ m', m' < m ∧ W (i + 1) m' H') ∧ ∀ x H', (Itr 0 n).yld i H x H' → gName j x (wipe σ vs) H' fun σ2 H2 => wipe σ2 vs = wipe σ vs ∧ tYes σ2 H2 fun b H3 =>
        if b = true then te σ2 H3 fun y H4 => ∃ acc, H4 D = some (.lst acc) ∧ acc.length < sizeLine ∧ Nx (upd H4 D (.lst (acc ++ [y]))) else Nx H3) := by
  have hD0 : H D = none := gr.free hD
  refine lc_range (Qd := Qd) (fun i H2 => Gr H H2 ∧ ∃ vs : List V, H2 D = some (.lst vs) ∧ DpAll K (mask D H2) vs ((List.range i).map enc)) ⟨gr.mut hD0, [], upd_same, .nil⟩ (fun i H2 hi h => ?_) (fun H2 h => ?_)
  · obtain ⟨g2, vs, e, a⟩ := h
    refine ⟨hw _, yesIf (he i H2 _ hi g2 ⟨_, e⟩ fun v H5 g5 d => ⟨vs, g5.lst e, ?_, (g2.trans g5).mut hD0, vs ++ [v], upd_same, ?_⟩)⟩
    · rw [dpAll_len a, List.length_map, List.length_range]
      exact small1000 (by omega)
    · rw [mask_upd, List.range_succ, List.map_append]
      exact dpAll_snoc (dpAll_gr (gr_mask g5) _ _ a) d
  · obtain ⟨g2, vs, e, a⟩ := h
    exact q H2 g2 (.lst (.inl (.inl e)) (dpAll_gr (gr_unmask D H2) _ _ a))
end K1
namespace Gr
open PySem PySem.Spec PyProof.Rows L2 GxR
structure GrX (X : Addr → Prop) (H H' : Hp) : Prop where
  at_ : ∀ b o, ¬ X b → H b = some o → NoTbl o → H' b = some o
  tab : ∀ b ps, H b = some (.tbl ps) → ∃ ps', H' b = some (.tbl ps') ∧ (TriplesOk ps.toList → TriplesOk ps'.toList)
  stay : ∀ b o, X b → H b = some o → ∃ o', H' b = some o'
theorem Gr.x {H H' : Hp} (g : Gr H H') (X : Addr → Prop) : GrX X H H' := ⟨fun b o _ e n => g.at_ b o e n, g.tab, fun _ _ _ e => g.some e⟩
theorem GrX.gr {H H' : Hp} (g : GrX (fun _ => False) H H') : Gr H H' := ⟨fun b o e n => g.at_ b o id e n, g.tab⟩
theorem GrX.refl (X : Addr → Prop) (H : Hp) : GrX X H H := (Gr.refl H).x X
theorem GrX.mono {X Y : Addr → Prop} {H H' : Hp} (g : GrX X H H') (h : ∀ b, X b → Y b) (s : ∀ b o, Y b → ¬ X b → H b = some o → NoTbl o) : GrX Y H H' :=
  ⟨fun b o n e k => g.at_ b o (fun z => n (h b z)) e k, g.tab, fun b o hy e => by
    by_cases hx : X b
    · exact g.stay b o hx e
    · exact ⟨o, g.at_ b o hx e (s b o hy hx e)⟩⟩
theorem GrX.has {X : Addr → Prop} {H H' : Hp} (g : GrX X H H') {b : Addr} {o : HO} (e : H b = some o) : ∃ o', H' b = some o' := by
  by_cases h : ∃ ps, o = .tbl ps
  · obtain ⟨ps, rfl⟩ := h
    obtain ⟨p1, e1, _⟩ := g.tab b ps e
    exact ⟨_, e1⟩
  · by_cases hx : X b
    · exact g.stay b o hx e
    · exact ⟨o, g.at_ b o hx e fun ps z => h ⟨ps, z⟩⟩
theorem GrX.free {X : Addr → Prop} {H H' : Hp} (g : GrX X H H') {b : Addr} (e : H' b = none) : H b = none := by
  cases q : H b with
  | none => rfl
  | some o =>
    obtain ⟨o', z⟩ := g.has q
    rw [e] at z
    cases z
theorem GrX.trans {X : Addr → Prop} {H H1 H2 : Hp} (a : GrX X H H1) (b : GrX X H1 H2) : GrX X H H2 :=
  ⟨fun c o h e n => b.at_ c o h (a.at_ c o h e n) n, fun c ps e => by
    obtain ⟨p1, e1, k1⟩ := a.tab c ps e
    obtain ⟨p2, e2, k2⟩ := b.tab c p1 e1
    exact ⟨p2, e2, fun h => k2 (k1 h)⟩, fun c o h e => by
    obtain ⟨o1, e1⟩ := a.stay c o h e
    exact b.stay c o1 h e1⟩
theorem GrX.then {X : Addr → Prop} {H H1 H2 : Hp} (a : GrX X H H1) (b : Gr H1 H2) : GrX X H H2 := a.trans (b.x X)
/-- an object of X, or a new one, is written -/
theorem GrX.put {X : Addr → Prop} {H H' : Hp} {p : Addr} {o : HO} (g : GrX X H H') (h : X p ∨ H p = none) (nt : ∀ ps, H p ≠ some (.tbl ps)) : GrX X H (upd H' p o) :=
  ⟨fun b u n e k => by
    have hb : b ≠ p := by
      rintro rfl
      rcases h with h | h
      · exact n h
      · rw [h] at e; cases e
    rw [upd_ne hb]; exact g.at_ b u n e k, fun b ps e => by
    have hb : b ≠ p := by
      rintro rfl
      exact nt ps e
    obtain ⟨p1, e1, k1⟩ := g.tab b ps e
    exact ⟨p1, by rw [upd_ne hb]; exact e1, k1⟩, fun b u hx e => by
    by_cases hb : b = p
    · subst hb; exact ⟨o, upd_same⟩
    · rw [upd_ne hb]; exact g.stay b u hx e⟩
theorem GrX.lst {X : Addr → Prop} {H H' : Hp} (g : GrX X H H') {a : Addr} {xs : List V} (n : ¬ X a) (e : H a = some (.lst xs)) : H' a = some (.lst xs) := g.at_ a _ n e notbl_lst
theorem GrX.tup {X : Addr → Prop} {H H' : Hp} (g : GrX X H H') {a : Addr} {xs : List V} (n : ¬ X a) (e : H a = some (.tup xs)) : H' a = some (.tup xs) := g.at_ a _ n e notbl_tup
theorem GrX.seq {X : Addr → Prop} {K : PySem.W.Frag} {H H' : Hp} {a : Addr} {xs : List V} (g : GrX X H H') (n : ¬ X a) (h : SqL K H a xs) : SqL K H' a xs := by
  rcases h with (h | ⟨o, h⟩) | h
  · exact .inl (.inl (g.lst n h))
  · exact .inl (.inr ⟨o, g.at_ _ _ n h notbl_frz⟩)
  · exact .inr h
theorem GrX.tabG {X : Addr → Prop} {H H' : Hp} (g : GrX X H H') {P : Addr} (h : TabG H P) : TabG H' P := by
  obtain ⟨ps, e, k⟩ := h
  obtain ⟨p1, e1, k1⟩ := g.tab P ps e
  exact ⟨p1, e1, k1 k⟩
/-- seen from a heap in which X's objects do not stand, nothing but growth -/
theorem GrX.young {X : Addr → Prop} {H0 H H' : Hp} (g0 : Gr H0 H) (g : GrX X H H') (h : ∀ b, X b → H0 b = none) : Gr H0 H' :=
  ⟨fun b o e n => g.at_ b o (fun z => by rw [h b z] at e; cases e) (g0.at_ b o e n) n, fun b ps e => by
    obtain ⟨p1, e1, k1⟩ := g0.tab b ps e
    obtain ⟨p2, e2, k2⟩ := g.tab b p1 e1
    exact ⟨p2, e2, fun h => k2 (k1 h)⟩⟩
end Gr
namespace K1
open PySem PySem.Spec PyProof.Rows L2
def tMethT (C : Addr) (m : Str) (sp : Sp) (E : L2.St → XK) (ta : TE) (t : TA) : TE := fun σ H Q => ta σ H fun x H1 => ∃ a dx fs, x = .ref a ∧ H1 a = some (.ins C dx fs) ∧ fs.lookup m = none ∧ t σ H1 fun vs H2 => sp (.ref a :: vs) H2 Q (E σ)
section
variable {X : Cx} {CX : CXT} {k : Nat} {f C : Addr} {fd : FuncData} {ps : List Str} {sp : Sp} {E : L2.St → XK} {m : Str} {pos apos : Pos} {e o : Expr} {es : List Expr} {ta : TE} {t : TA}
theorem pe_methT {pl : Sem Bool} (he : PE X o ta) (c : Cls X.K C) (hm : Meth X.K C m f) (F : FnOk X.prog X.w X.K X.mg X.base CX k f fd ps sp) (hr : Room k X.A) (hb : Binds X.K fd ps []) (hx : ∀ σ, PassesAt CX X σ (E σ)) (ha : PA X (e :: es) t)
    (h1 : starEach (e :: es) X.env = (false, eval e X.env) :: starEach es X.env := by rfl) (h2 : (backTo pos (starEach es X.env)).any (·.1) = false := by rfl)
    (h3 : eval (.Call (.Attribute o m apos) (e :: es) [] pos) X.env = (do
        let ov ← eval o X.env
        standAt apos.atName
        let (f, first) ← holding [ov] (getMethod ov m pl)
        callWith pos f first (backTo pos (starEach (e :: es) X.env)) (backToKw pos (keywordEach [] X.env))) := by rfl) :
    PE X (.Call (.Attribute o m apos) (e :: es) [] pos) (tMethT C m sp E ta t) := by
  refine ⟨fun pins s σ H Q I h => PySem.W.methodCall_KW (pl := pl) (thn (he.run pins s σ H _ I h) fun u s1 hu => ?_) h3⟩
  obtain ⟨x, H1, I1, rx, a, dx, fs, rfl, ea, l, q⟩ := hu
  obtain rfl : u = Value.ref a := rx
  refine getmeth_ok I1 ea c hm l (PySem.W.callWith_K (first := [.ref a]) (h₀ := X.base) I.ok.mod.kin hm.kp (thn (ha.run pos pins s1 σ H1 _ I1 q) fun us s2 hv => ?_) h1 h2)
  obtain ⟨vs, H2, I2, r, q2⟩ := hv
  exact ⟨I2.kIn, run_fnS (us := .ref a :: us) (vs := .ref a :: vs) F hr hb (hx σ) I2 (.cons rfl r) q2⟩
theorem pe_methT0 {pl : Sem Bool} (he : PE X o ta) (c : Cls X.K C) (hm : Meth X.K C m f) (F : FnOk X.prog X.w X.K X.mg X.base CX k f fd ps sp) (hr : Room k X.A) (hb : Binds X.K fd ps []) (hx : ∀ σ, PassesAt CX X σ (E σ))
    (h3 : eval (.Call (.Attribute o m apos) [] [] pos) X.env = (do
        let ov ← eval o X.env
        standAt apos.atName
        let (f, first) ← holding [ov] (getMethod ov m pl)
        callWith pos f first (backTo pos (starEach [] X.env)) (backToKw pos (keywordEach [] X.env))) := by rfl) :
    PE X (.Call (.Attribute o m apos) [] [] pos) (tMethT C m sp E ta tNil) := by
  refine ⟨fun pins s σ H Q I h => PySem.W.methodCall_KW (pl := pl) (thn (he.run pins s σ H _ I h) fun u s1 hu => ?_) h3⟩
  obtain ⟨x, H1, I1, rx, a, dx, fs, rfl, ea, l, q⟩ := hu
  obtain rfl : u = Value.ref a := rx
  exact getmeth_ok I1 ea c hm l (PySem.W.callWith_K0 (first := [.ref a]) I1.kIn hm.kp (run_fnS (us := [.ref a]) (vs := [.ref a]) F hr hb (hx σ) I1 (.cons rfl .nil) q))
end
end K1
namespace K1
open PySem PySem.Spec PyProof.Rows L2 Gr GxR Srx Skx Dcx
section
variable {P : Program} {w : World} {K : PySem.W.Frag} {mg : Str → Option Value} {base : Heap} {f fM fB fR fA fW : Addr} {fd fdM fdB fdR fdA fdW : FuncData}
def spLAll (K : PySem.W.Frag) : Sp := fun vs H Q _ => ∃ (a b : Addr) (xs : List Str) (ps : List (Addr × List Str)), vs = [.ref a, .ref b] ∧ SqL K H a (xs.map V.str) ∧ SqL K H b (ps.map fun q => V.ref q.1) ∧ (∀ q ∈ ps, SqL K H q.1 (q.2.map V.str)) ∧ Q (.bl (mtAll xs (ps.map (·.2)))) H
theorem box_len (N : List Str) : (box N).length = 2 ^ N.length := by
  refine snoc_ind (p := fun N => (box N).length = 2 ^ N.length) rfl (fun N n ih => ?_) N
  rw [box_snoc, List.length_append, List.length_map, ih, List.length_append, List.length_singleton, Nat.pow_succ]
  omega
/-- [.. one ..]: each made anew, of what else is made on the way -/
theorem lc_fresh2 {K : PySem.W.Frag} {a D : Addr} {j : Nat} {σ : L2.St} {vs : List Nat} {te : TE} {H H1 : Hp} {Qd : Hp → Prop} {ps0 : List (Addr × List Str)} (F : List Str → List Str)
    (hA : SqL K H1 a (ps0.map fun q => V.ref q.1)) (few : ps0.length < sizeLine) (gr : Gr H H1) (hD : H1 D = none) (hw : ∀ v, wipe ((wipe σ vs).set j (some v)) vs = wipe σ vs)
    (he : ∀ q ∈ ps0, ∀ (H4 : Hp) (Q' : VK), Gr H1 H4 → (∀ H5 l, Gr H4 H5 → H5 l = none → Q' (.ref l) (upd H5 l (.lst ((F q.2).map V.str)))) → te ((wipe σ vs).set j (some (.ref q.1))) H4 Q')
    (q : ∀ H2 ps, Gr H1 H2 → Told H1 H2 D ps → ps.map (·.2) = ps0.map (fun q => F q.2) → Qd H2) :
    ∃ W : Nat → Nat → Hp → Prop, (∃ m, W 0 m (upd H1 D (.lst []))) ∧ ∀ i m H, W i m H →
      ((Itl K a).stop i H ∧ Qd H) ∨ ((Itl K a).go i H ∧ ∃ Nx : Hp → Prop, (∀ H', Nx H' → ∃ m', m' < m ∧ W (i + 1) m' H') ∧ ∀ x H', (Itl K a).yld i H x H' → gName j x (wipe σ vs) H' fun σ2 H2 => wipe σ2 vs = wipe σ vs ∧ tYes σ2 H2 fun b H3 =>
        if b = true then te σ2 H3 fun y H4 => ∃ acc, H4 D = some (.lst acc) ∧ acc.length < sizeLine ∧ Nx (upd H4 D (.lst (acc ++ [y]))) else Nx H3) := by
  refine lc_list (xs := ps0.map fun q => V.ref q.1) (Qd := Qd) (fun i H2 => Gr H1 H2 ∧ ∃ ps, Told H1 H2 D ps ∧ ps.map (·.2) = (ps0.take i).map (fun q => F q.2)) ⟨Gr.new hD, [], Told.nil hD, rfl⟩ (fun i H2 _ h => h.1.seq hA) (fun i x H2 hx h => ?_) (fun H2 h => ?_)
  · obtain ⟨g2, ps, T, e⟩ := h
    obtain ⟨q0, hq0, rfl⟩ := get_map hx
    refine ⟨hw _, yesIf (he q0 (List.mem_of_getElem? hq0) H2 _ g2 fun H5 l g5 hl => ⟨_, ?_, ?_, (g2.trans g5).trans (Gr.new hl) |>.mut hD, ps ++ [(l, F q0.2)], (T.gr g5).snoc (g2.trans g5) hl, ?_⟩)⟩
    · rw [upd_ne (ne_of_none (g5.lst T.at_) hl)]
      exact g5.lst T.at_
    · rw [List.length_map]
      have h1 : ps.length = ((ps0.take i).map (fun q => F q.2)).length := by rw [← e, List.length_map]
      rw [h1, List.length_map, List.length_take]
      omega
    · rw [List.map_append, e, take_map hq0]
      rfl
  · obtain ⟨g2, ps, T, e⟩ := h
    rw [List.length_map, List.take_length] at e
    exact q H2 ps g2 T e
theorem sortedT {K : PySem.W.Frag} {H : Hp} {a : Addr} {xs : List Str} {σ : L2.St} {Q : VK} (hs : SqL K H a (xs.map V.str)) (q : ∀ p, H p = none → Q (.ref p) (upd H p (.lst ((srt xs).map V.str)))) :
    tNil σ H fun ys H2 => rSortedD K (fun x : Str => PyData.str x) (V.ref a :: ys) H2 Q := sortedS_texts hs q
def spBox (K : PySem.W.Frag) : Sp := fun vs H Q _ => ∃ (a : Addr) (ns : List Str), vs = [.ref a] ∧ SqL K H a (ns.map V.str) ∧ ns.length ≤ 8 ∧ ∀ p H' bs, Gr H H' → Told H H' p bs → bs.map (·.2) = box (srt ns) → Q (.ref p) H'
end
end K1
namespace K1
open PySem PySem.Spec PyProof.Rows L2 Gr GxR Srx Skx Dcx
section
variable {P : Program} {w : World} {K : PySem.W.Frag} {mg : Str → Option Value} {base : Heap} {f fM fB fR fA fW : Addr} {fd fdM fdB fdR fdA fdW : FuncData}
def spLRanked (K : PySem.W.Frag) : Sp := fun vs H Q _ => ∃ (a : Addr) (ps : List (Addr × List Str)), vs = [.ref a] ∧ SqL K H a (ps.map fun q => V.ref q.1) ∧ (∀ q ∈ ps, SqL K H q.1 (q.2.map V.str)) ∧ ps.length ≤ 5000 ∧
  ∀ (p : Addr) (H' : Hp) (ds : List (Addr × List Str)), Gr H H' → H p = none → H' p = some (.lst (ds.map fun q => V.ref q.1)) → ds.Perm ps → ds.map (·.2) = rkd (ps.map (·.2)) → Q (.ref p) H'
theorem filter_pairwise {α : Type} {r : α → α → Prop} {p : α → Bool} {l : List α} (h : l.Pairwise r) : (l.filter p).Pairwise r := h.sublist List.filter_sublist
/-- the law's own least sets -/
theorem lleast_eq {N : List Str} {rows : List (List Str)} : ((rkd (box N)).filter fun s => mtAll s rows).foldl keep [] = least (tr N rows) := by
  rw [least_eq]
  congr 1
  refine rkd_one ?_ (filter_pairwise (rkd_sorted _)) (rkd_sorted _)
  exact ((rkd_perm (box N)).filter _).trans (rkd_perm _).symm
def spLLeast (K : PySem.W.Frag) : Sp := fun vs H Q _ => ∃ (a b : Addr) (ns : List Str) (ps : List (Addr × List Str)), vs = [.ref a, .ref b] ∧ SqL K H a (ns.map V.str) ∧ Nms ns ∧ ns.length ≤ 8 ∧ SqL K H b (ps.map fun q => V.ref q.1) ∧ (∀ q ∈ ps, SqL K H q.1 (q.2.map V.str)) ∧
  ∀ p H' ks, Gr H H' → Told H H' p ks → ks.map (·.2) = least (tr (srt ns) (ps.map (·.2))) → Q (.ref p) H'
end
end K1
namespace K1
open PySem PySem.Spec PyProof.Rows L2 Gr GxR Srx Skx Dcx
section
variable {P : Program} {w : World} {K : PySem.W.Frag} {mg : Str → Option Value} {base : Heap} {f : Addr} {fd : FuncData}
def numD (rows : List (List Str)) : PyData := .list ((List.range rows.length).map fun i : Nat => .tuple [.int i, dS (srt (rows.getD i []))])
def spNumbered (K : PySem.W.Frag) : Sp := fun vs H Q _ => ∃ (a : Addr) (ps : List (Addr × List Str)), vs = [.ref a] ∧ SqL K H a (ps.map fun q => V.ref q.1) ∧ (∀ q ∈ ps, SqL K H q.1 (q.2.map V.str)) ∧ ps.length ≤ 1000 ∧ ∀ v H', Gr H H' → Dp K H' v (numD (ps.map (·.2))) → Q v H'
theorem sqL_mask {K : PySem.W.Frag} {D a : Addr} {H H' : Hp} {xs : List V} (h : SqL K H a xs) (hD : H D = none) (g : Gr H H') : SqL K (mask D H') a xs := (gr_masked hD g).seq h
def spBest (K : PySem.W.Frag) : Sp := fun vs H Q _ => ∃ (a : Addr) (ps : List (Addr × List Str)), vs = [.ref a] ∧ SqL K H a (ps.map fun q => V.ref q.1) ∧ (∀ q ∈ ps, H q.1 = some (.lst (q.2.map V.str)) ∧ Nms q.2) ∧ ps.length ≤ 5000 ∧
  ∀ (p : Addr) (H' : Hp) (ks : List (Addr × List Str)), Gr H H' → H p = none → H' p = some (.lst (ks.map fun q => V.ref q.1)) → (∀ q ∈ ks, q ∈ ps) → ks.map (·.2) = least (ps.map (·.2)) → Q (.ref p) H'
end
end K1
namespace K1
open PySem PySem.Spec PyProof.Rows L2 Gr GxR Srx Skx Dcx
theorem union_eq {a b : List Str} (ha : a.Nodup) (hb : b.Nodup) : srt (a ++ b.filter fun y => !a.contains y) = once (a ++ b) := by
  refine (once_same ?_ fun y => ?_).symm
  · refine List.nodup_append.mpr ⟨ha, hb.sublist List.filter_sublist, fun x hx y hy e => ?_⟩
    have h1 := (List.mem_filter.mp hy).2
    rw [← e, List.contains_iff_mem.mpr hx] at h1
    cases h1
  · rw [List.mem_append, List.mem_append, List.mem_filter]
    constructor
    · rintro (h | h)
      · exact .inl h
      · by_cases hy : y ∈ a
        · exact .inl hy
        · exact .inr ⟨h, by rw [Bool.not_eq_true', ← Bool.not_eq_true, List.contains_iff_mem]; exact hy⟩
    · rintro (h | h)
      · exact .inl h
      · exact .inr h.1
section
variable {P : Program} {w : World} {K : PySem.W.Frag} {mg : Str → Option Value} {base : Heap} {f : Addr} {fd : FuncData}
def spUnions : Sp := fun vs H Q _ => ∃ (a b : Addr) (ps qs : List (Addr × List Str)), vs = [.ref a, .ref b] ∧ LL H a ps ∧ LL H b qs ∧ (∀ q ∈ ps, q.2.Nodup ∧ q.2.length ≤ 100) ∧ (∀ q ∈ qs, q.2.Nodup ∧ q.2.length ≤ 100) ∧ ps.length * qs.length ≤ 5000 ∧
  ∀ p H' us, Gr H H' → Told H H' p us → us.map (·.2) = unions (ps.map (·.2)) (qs.map (·.2)) → Q (.ref p) H'
theorem unions_snoc (A B : List (List Str)) (a : List Str) : unions (A ++ [a]) B = unions A B ++ B.map fun b => once (a ++ b) := by
  unfold unions
  rw [List.flatMap_append]
  simp
end
end K1
namespace K1
open PySem PySem.Spec PyProof.Rows L2 Gr GxR Srx Skx Dcx
theorem cand_snoc (A : List (List Str)) (s r : List Str) : cand (A ++ [s]) r = cand A r ++ (if mt s r = true then [s] else r.map fun x => once (s ++ [x])) := by
  unfold cand
  rw [List.flatMap_append]
  simp
section
variable {P : Program} {w : World} {K : PySem.W.Frag} {mg : Str → Option Value} {base : Heap} {f : Addr} {fd : FuncData}
def spStep (K : PySem.W.Frag) : Sp := fun vs H Q _ => ∃ (a r : Addr) (ps : List (Addr × List Str)) (row : List Str), vs = [.ref a, .ref r] ∧ LL H a ps ∧ SqL K H r (row.map V.str) ∧ Nms row ∧ (∀ q ∈ ps, Ris q.2 ∧ Nms q.2 ∧ q.2.length ≤ 100) ∧ ps.length * (row.length + 1) ≤ 1100 ∧
  ∀ (p : Addr) (H' : Hp) (ks : List (Addr × List Str)), Gr H H' → H p = none → LL H' p ks → (∀ q ∈ ks, q ∈ ps ∨ H q.1 = none) → ks.map (·.2) = least (cand (ps.map (·.2)) row) → Q (.ref p) H'
end
end K1
namespace K1
open PySem PySem.Spec PyProof.Rows L2 Gr GxR Srx Skx Dcx
theorem for_rev {K : PySem.W.Frag} {a : Addr} {xs : List V} {g : TG} {tb : TS} {D : Ends} {σ : L2.St} {H : Hp} (Pv : Nat → L2.St → Hp → Prop) (h0 : Pv 0 σ H) (hl : ∀ i σ H, i ≤ xs.length → Pv i σ H → SqL K H a xs)
    (hs : ∀ i x σ H, xs.reverse[i]? = some x → Pv i σ H → g x σ H fun σ2 H2 => tb { D with nx := Pv (i + 1), ct := Pv (i + 1), bk := D.nx } σ2 H2) (hd : ∀ σ H, Pv xs.length σ H → D.nx σ H) :
    ∃ W : Nat → Nat → L2.St → Hp → Prop, (∃ m, W 0 m σ H) ∧ ∀ i m σ H, W i m σ H →
      ((Itv K a xs.length).stop i H ∧ D.nx σ H) ∨ ((Itv K a xs.length).go i H ∧ ∃ N : L2.St → Hp → Prop, (∀ σ' H', N σ' H' → ∃ m', m' < m ∧ W (i + 1) m' σ' H') ∧ ∀ x H', (Itv K a xs.length).yld i H x H' → g x σ H' fun σ2 H2 => tb { D with nx := N, ct := N, bk := D.nx } σ2 H2) := by
  refine ⟨fun i m σ H => m = xs.length - i ∧ i ≤ xs.length ∧ Pv i σ H, ⟨xs.length, by simp, Nat.zero_le _, h0⟩, ?_⟩
  rintro i m σ H ⟨rfl, hi, p⟩
  have q := hl i σ H hi p
  by_cases hlt : i < xs.length
  · have hx : xs[xs.length - 1 - i]? = some xs[xs.length - 1 - i] := List.getElem?_eq_getElem (by omega)
    refine .inr ⟨⟨hlt, xs, _, q, hx⟩, Pv (i + 1), fun σ' H' p' => ⟨xs.length - (i + 1), by omega, rfl, hlt, p'⟩, fun x H' y => ?_⟩
    obtain ⟨e, y⟩ := y
    subst e
    exact hs i x σ _ (by rw [List.getElem?_reverse hlt]; exact y xs q) p
  · have e : i = xs.length := by omega
    subst e
    exact .inl ⟨Nat.le_refl _, hd σ H p⟩
section
variable {P : Program} {w : World} {K : PySem.W.Frag} {mg : Str → Option Value} {base : Heap} {f : Addr} {fd : FuncData}
def spPared (K : PySem.W.Frag) : Sp := fun vs H Q _ => ∃ (a b : Addr) (xs : List Str) (ps : List (Addr × List Str)), vs = [.ref a, .ref b] ∧ SqL K H a (xs.map V.str) ∧ xs.length ≤ 1000 ∧ SqL K H b (ps.map fun q => V.ref q.1) ∧ (∀ q ∈ ps, SqL K H q.1 (q.2.map V.str)) ∧
  ∀ p H', Gr H H' → H p = none → H' p = some (.lst ((pared (ps.map (·.2)) xs).map V.str)) → Q (.ref p) H'
theorem pare_len (rows : List (List Str)) : ∀ (ns left : List Str), (ns.foldl (pareStep rows) left).length ≤ left.length
  | [], left => Nat.le_refl _
  | n :: ns, left => by
    rw [List.foldl_cons]
    refine Nat.le_trans (pare_len rows ns _) ?_
    unfold pareStep
    split
    · exact List.length_filter_le _ _
    · exact Nat.le_refl _
end
end K1
namespace K1
open PySem PySem.Spec PyProof.Rows L2 Gr GxR Srx Skx Dcx
section
variable {P : Program} {w : World} {K : PySem.W.Frag} {mg : Str → Option Value} {base : Heap} {f : Addr} {fd : FuncData}
def spLRows (K : PySem.W.Frag) : Sp := fun vs H Q _ => ∃ (a : Addr) (ps : List (Addr × List Str)), vs = [.ref a] ∧ SqL K H a (ps.map fun q => V.ref q.1) ∧ (∀ q ∈ ps, SqL K H q.1 (q.2.map V.str) ∧ Nms q.2) ∧ ps.length ≤ 1000 ∧
  ∀ p H' ks, Gr H H' → Told H H' p ks → ks.map (·.2) = least ((ps.map (·.2)).map srt) → Q (.ref p) H'
end
end K1
namespace K1
open PySem PySem.Spec PyProof.Rows L2 Gr GxR Srx Skx Dcx
section
variable {P : Program} {w : World} {K : PySem.W.Frag} {mg : Str → Option Value} {base : Heap} {f : Addr} {fd : FuncData}
def lenV : Option (List Str) → V
  | some s => .int (s.length : Nat)
  | none => .non
def spFewest (K : PySem.W.Frag) : Sp := fun vs H Q _ => ∃ (a b : Addr) (ns : List Str) (ps : List (Addr × List Str)), vs = [.ref a, .ref b] ∧ SqL K H a (ns.map V.str) ∧ ns.length ≤ 8 ∧ SqL K H b (ps.map fun q => V.ref q.1) ∧ (∀ q ∈ ps, SqL K H q.1 (q.2.map V.str)) ∧
  ∀ H', Gr H H' → Q (lenV ((rkd (box (srt ns))).find? fun s => mtAll s (ps.map (·.2)))) H'
theorem find_take {α : Type} {p : α → Bool} {l : List α} {i : Nat} {x : α} (h : l[i]? = some x) (n : ∀ y ∈ l.take i, p y = false) (hx : p x = true) : l.find? p = some x := by
  have e : l = l.take i ++ x :: l.drop (i + 1) := by
    have hi := (List.getElem?_eq_some_iff.mp h)
    obtain ⟨h1, h2⟩ := hi
    rw [← h2, ← List.drop_eq_getElem_cons h1, List.take_append_drop]
  rw [e, List.find?_append, List.find?_eq_none.mpr (fun y hy => by rw [n y hy]; exact Bool.false_ne_true)]
  rw [List.find?_cons, hx]
  rfl
end
end K1
namespace K1
open PySem PySem.Spec PyProof.Rows L2 Gr GxR Srx Skx Dcx
/-- a dict of True by texts -/
def kvK (l : List Str) : List (Key × V) := l.map fun x => (Sum.inr x, V.bl true)
theorem put_key (l : List Str) (x : Str) : putK (kvK l) (Sum.inr x) (V.bl true) = kvK (once1 l x) := by
  unfold putK kvK once1
  by_cases h : x ∈ l
  · rw [if_pos h, if_pos]
    · rw [List.map_map]
      refine List.map_congr_left fun y hy => ?_
      show (if _ then _ else _) = _
      split <;> rfl
    · rw [List.any_eq_true]
      exact ⟨_, List.mem_map.mpr ⟨x, h, rfl⟩, decide_eq_true rfl⟩
  · rw [if_neg h, if_neg]
    · rw [List.map_append]
      rfl
    · intro z
      rw [List.any_eq_true] at z
      obtain ⟨q, hq, e⟩ := z
      obtain ⟨y, hy, rfl⟩ := List.mem_map.mp hq
      have e := of_decide_eq_true e
      injection e with e
      rw [e] at hy
      exact h hy
theorem keys_map (l : List Str) : (kvK l).map (fun kv => kV kv.1) = l.map V.str := by
  unfold kvK
  rw [List.map_map]
  rfl
theorem srt_ddG (l : List Str) : srt (ddG l) = once l := (once_same (ddG_nodup l) fun y => ddG_mem.symm).symm
theorem any_empty (xss : List (List Str)) : (xss.map dS).any (fun z => PyData.eqv z (dS [])) = decide ([] ∈ xss) := by
  induction xss with
  | nil => rfl
  | cons x r ih =>
    rw [List.map_cons, List.any_cons, ih, eqv_dS]
    by_cases h : x = []
    · simp [h]
    · have h2 : ¬ [] = x := fun z => h z.symm
      simp [h, h2]
theorem hu65 {k : Nat} {A : Around} (hr : Room k A) : A.units + 65 < cLine := by
  have := hr.un
  omega
section
variable {P : Program} {w : World} {K : PySem.W.Frag} {mg : Str → Option Value} {base : Heap} {f : Addr} {fd : FuncData}
def one1 (rows : List (List Str)) : List Str := rows.flatMap fun r => if r.length = 1 then r else []
def needed (rows : List (List Str)) : List Str := if [] ∈ rows then [] else once (one1 rows)
def spNeeded (K : PySem.W.Frag) : Sp := fun vs H Q _ => ∃ (a : Addr) (ps : List (Addr × List Str)), vs = [.ref a] ∧ SqL K H a (ps.map fun q => V.ref q.1) ∧ (∀ q ∈ ps, SqL K H q.1 (q.2.map V.str) ∧ Nms q.2) ∧ ps.length ≤ 1000 ∧
  ∀ p H', Gr H H' → H p = none → H' p = some (.lst ((needed (ps.map (·.2))).map V.str)) → Q (.ref p) H'
end
end K1
end
section
set_option maxHeartbeats 4000000
/-! {e for x in xs for y in x}: a set of texts out of two walks. -/
namespace Sc2
open PySem PySem.Spec PyProof.Rows L2 Sx Srx
abbrev two (e t0 i0 : Expr) (f0 : List Expr) (t1 i1 : Expr) (f1 : List Expr) (sc : Scope) (p : Pos) : Expr := .SetComp e [⟨t0, i0, f0, 0⟩, ⟨t1, i1, f1, 0⟩] sc p
theorem turn_a (e t0 i0 t1 i1 : Expr) (f0 f1 : List Expr) (sc : Scope) (p : Pos) (it acc : Value) (env : Env) :
    compTurn (two e t0 i0 f0 t1 i1 f1 sc p) 0 it acc env = (do
      standAt i0.pos
      match ← pyNext it with
      | none => pure (.done .next)
      | some v => do
        letOwnedTupleGo t0 it v
        assign t0 env v
        let mut keeps := true
        for c in f0 do
          if keeps then keeps ← isTrue c env (eval c env)
        if keeps then
          let src ← eval i1 env
          standAt i1.pos
          let src ← foldedSetIterable i1 env src
          let _ ← runOwn (.compStart (two e t0 i0 f0 t1 i1 f1 sc p) 1 (← holding [src] (pyIter src)) acc env) env
        again (.compLoop (two e t0 i0 f0 t1 i1 f1 sc p) 0 it acc env)) := by rfl
theorem turn_b (e t0 i0 t1 i1 : Expr) (f0 f1 : List Expr) (sc : Scope) (p : Pos) (it acc : Value) (env : Env) :
    compTurn (two e t0 i0 f0 t1 i1 f1 sc p) 1 it acc env = (do
      standAt i1.pos
      match ← pyNext it with
      | none => pure (.done .next)
      | some v => do
        letOwnedTupleGo t1 it v
        assign t1 env v
        let mut keeps := true
        for c in f1 do
          if keeps then keeps ← isTrue c env (eval c env)
        if keeps then
          (do let y ← eval e env; standAt e.pos; let _ ← call (.builtin "set.add") [acc, y])
        again (.compLoop (two e t0 i0 f0 t1 i1 f1 sc p) 1 it acc env)) := by rfl
section
variable {P : Program} {w : World} {A : Around} {R : Result → Shared → Prop} {s : Shared} {e t0 i0 t1 i1 : Expr} {f0 f1 : List Expr} {sc : Scope} {p : Pos} {it acc : Value} {env : Env}
abbrev nb (P : Program) (w : World) (A : Around) (env : Env) (R : Result → Shared → Prop) : Value → Shared → Prop := notedBy (model P w) A env fun x s' => R (.error x) s'
abbrev tests (fs : List Expr) (env : Env) : Sem Bool := forIn fs true fun c r => if r = true then do let ok ← isTrue c env (eval c env); pure (ForInStep.yield ok) else pure (ForInStep.yield r)
/-- the outer walk -/
theorem loop_a (hs : ∀ x, foldedSetIterable i1 env x = pure x) (J : Nat → Shared → Prop)
    (go : ∀ n s, J n s → wpAny (model P w) A (pyNext it) (fun r sa => match r with
      | none => R (.ok .next) sa
      | some v => wpAny (model P w) A (letOwnedTupleGo t0 it v) (fun _ sb => wpAny (model P w) A (assign t0 env v) (fun _ sc' => wpAny (model P w) A (tests f0 env) (fun k sd =>
            if k = true then wpAny (model P w) A (eval i1 env) (fun x se => wpAny (model P w) A (pyIter x) (fun it1 sf =>
              codeAny (model P w) A (.compStart (two e t0 i0 f0 t1 i1 f1 sc p) 1 it1 acc env) (fun r s' => match r with
                | .ok _ => ∃ m, m < n ∧ J m s'
                | .error _ => False) sf) (nb P w A env R) se) (nb P w A env R) sd
            else ∃ m, m < n ∧ J m sd) (nb P w A env R) sc') (nb P w A env R) sb) (nb P w A env R) sa) (nb P w A env R) s)
    (n : Nat) (h : J n s) : codeAny (model P w) A (.compLoop (two e t0 i0 f0 t1 i1 f1 sc p) 0 it acc env) R s := by
  refine codeAny_loop rfl J (fun n s hJ => ?_) n h
  show wpAny _ A ((compTurn (two e t0 i0 f0 t1 i1 f1 sc p) 0 it acc env).onRaise (fun x => do noteFrame x env; theTreesLotGoes x)) _ _ s
  refine wpAny_noted ?_
  rw [turn_a]
  refine wpAny_bind (wpAny_standAt (wpAny_bind (wpAny_mono (go n s hJ) (fun r sa ha => ?_) fun _ _ z => z)))
  cases r with
  | none => exact wpAny_pure ha
  | some v =>
    refine wpAny_bind (wpAny_mono ha (fun _ sb hb => wpAny_bind (wpAny_mono hb (fun _ sc' hc => wpAny_bind (wpAny_mono hc (fun k sd hd => ?_) fun _ _ z => z)) fun _ _ z => z)) fun _ _ z => z)
    cases k with
    | false => exact wpAny_pure ⟨rfl, hd⟩
    | true =>
      refine wpAny_bind (wpAny_mono hd (fun x se he => wpAny_bind (wpAny_standAt (wpAny_bind (wpAny_of_eq (hs x) (wpAny_bind (wpAny_holding (wpAny_mono he (fun it1 sf hf => ?_) fun _ _ z => z))))))) fun _ _ z => z)
      refine wpAny_bind (wpAny_runOwn ?_)
      rw [Around.mark_none]
      refine codeAny_mono hf fun r s' hr => ?_
      cases r with
      | error y => exact hr.elim
      | ok y => first | exact wpAny_pure ⟨rfl, hr⟩ | exact wpAny_bind (wpAny_pure (wpAny_pure ⟨rfl, hr⟩))
/-- the inner one -/
theorem loop_b (J : Nat → Shared → Prop)
    (go : ∀ n s, J n s → wpAny (model P w) A (pyNext it) (fun r sa => match r with
      | none => R (.ok .next) sa
      | some v => wpAny (model P w) A (letOwnedTupleGo t1 it v) (fun _ sb => wpAny (model P w) A (assign t1 env v) (fun _ sc' => wpAny (model P w) A (tests f1 env) (fun k sd =>
            if k = true then wpAny (model P w) A (eval e env) (fun x se => wpAny (model P w) A (call (.builtin "set.add") [acc, x]) (fun _ sf => ∃ m, m < n ∧ J m sf) (nb P w A env R) se) (nb P w A env R) sd
            else ∃ m, m < n ∧ J m sd) (nb P w A env R) sc') (nb P w A env R) sb) (nb P w A env R) sa) (nb P w A env R) s)
    (n : Nat) (h : J n s) : codeAny (model P w) A (.compLoop (two e t0 i0 f0 t1 i1 f1 sc p) 1 it acc env) R s := by
  refine codeAny_loop rfl J (fun n s hJ => ?_) n h
  show wpAny _ A ((compTurn (two e t0 i0 f0 t1 i1 f1 sc p) 1 it acc env).onRaise (fun x => do noteFrame x env; theTreesLotGoes x)) _ _ s
  refine wpAny_noted ?_
  rw [turn_b]
  refine wpAny_bind (wpAny_standAt (wpAny_bind (wpAny_mono (go n s hJ) (fun r sa ha => ?_) fun _ _ z => z)))
  cases r with
  | none => exact wpAny_pure ha
  | some v =>
    refine wpAny_bind (wpAny_mono ha (fun _ sb hb => wpAny_bind (wpAny_mono hb (fun _ sc' hc => wpAny_bind (wpAny_mono hc (fun k sd hd => ?_) fun _ _ z => z)) fun _ _ z => z)) fun _ _ z => z)
    cases k with
    | false => exact wpAny_pure ⟨rfl, hd⟩
    | true => exact wpAny_bind (wpAny_bind (wpAny_mono hd (fun x se he => wpAny_bind (wpAny_standAt (wpAny_bind (wpAny_mono he (fun _ sf hf => wpAny_pure (wpAny_pure ⟨rfl, hf⟩)) fun _ _ z => z)))) fun _ _ z => z))
theorem start_b (h0 : codeAny (model P w) A (.compLoop (two e t0 i0 f0 t1 i1 f1 sc p) 1 it acc env) R s)
    (h : wpAny (model P w) A (pyIter it) (fun j s' => codeAny (model P w) A (.compLoop (two e t0 i0 f0 t1 i1 f1 sc p) 1 j acc env) R s') (nb P w A env R) s) :
    codeAny (model P w) A (.compStart (two e t0 i0 f0 t1 i1 f1 sc p) 1 it acc env) R s := by
  refine codeAny_of_tree ?_
  show wpAny _ _ ((compStart (two e t0 i0 f0 t1 i1 f1 sc p) 1 it acc env).onRaise (fun x => do noteFrame x env; standAt theWindowsPlace)) _ _ s
  refine wpAny_notedAt ?_
  unfold compStart
  show wpAny _ _ (ask >>= _) _ _ s
  refine wpAny_bind (wpAny_askSetting (wpAny_ite ?_))
  split
  · first | exact wpAny_pure ⟨rfl, h0⟩ | exact wpAny_bind (wpAny_pure (wpAny_pure ⟨rfl, h0⟩))
  · first
      | exact wpAny_bind (wpAny_rule (wpAny_bind (wpAny_standAt (wpAny_bind (wpAny_mono h (fun j s' z => wpAny_pure ⟨rfl, z⟩) fun _ _ z => z)))))
      | (refine wpAny_bind (wpAny_rule ?_); show wpAny _ _ (standAt i1.pos >>= _) _ _ s; exact wpAny_bind (wpAny_standAt (wpAny_bind (wpAny_mono h (fun j s' z => wpAny_pure ⟨rfl, z⟩) fun _ _ z => z))))
end
section
variable {X : Cx}
/-- set.add of a text -/
theorem add_ok {pins : List (Addr × Obj)} {σ : L2.St} {H : Hp} {s : Shared} {E : Value → Shared → Prop} {D : Addr} {ks : List Str} {y : Str} {u : Value} {Q : Value → Shared → Prop} (I : Inv X pins σ H s) (hD : H D = some (SetTx X.w D ks)) (room : ks.length + 1 < scanBound) (ru : RelV (.str y) u)
    (h : ∀ s', Inv X pins σ (upd H D (SetTx X.w D (Sx.once ks y))) s' → Q .none s') : wpAny (model X.prog X.w) X.A (call (.builtin "set.add") [.ref D, u]) Q E s := by
  obtain ⟨tk, rfl⟩ : ∃ tk, u = Value.str y tk := ru
  have R := setTx_get I hD
  have hS : s.heap.SetOf (PySem.strKind X.prog X.w) D (fun x => decide (x ∈ ks)) ks.length := R.setOf
  refine wpAny_call_entry F.slot_set_add hS.typeIs F.entry_set_add ?_ (F.args_set_add_2 _ _)
  unfold Builtin.«set.add» Builtin.Frozenset.oneOther
  simp only [List.isEmpty_nil, bind_assoc]
  unfold Builtin.Frozenset.addrOf setAdd
  refine wpAny_bind (wpAny_pure ?_)
  try dsimp only
  refine wpAny_bind (wpAny_pure ?_)
  try dsimp only
  refine wpAny_bind (wpAny_holding (wpAny_bind ((PySem.strKind X.prog X.w).pyHash (k := y) (strKind_is X.prog X.w y tk) ?_)))
  refine put_hashed (s := { s with toks := s.toks + 1 }) R room fun h' b sb new => ?_
  show wpAny _ _ (ret Value.none) _ _ _
  have he : ∃ q, h'.get? D = some q := by
    obtain ⟨o, _, _, _, ho, _⟩ := id new
    exact ⟨o, ho⟩
  exact wpAny_pure ⟨_, rfl, h _ (I.write (e := D) (t' := s.toks + 1) (by rw [hD]; trivial) (.inl rfl) (fun b u hb hu => (sb.2 b hb).trans hu) he (setTx_new new))⟩
/-- {y for .. for ..}: D the new set -/
def tSc2 (w : World) (wi : TI) (g : TG) (tt : TT) (wi1 : TI) (g1 : TG) (tt1 : TT) (te : TE) (vs vs1 : List Nat) : TE := fun σ H Q => wi σ H fun J H1 => ∀ D, H1 D = none → ∃ W : Nat → Nat → Hp → Prop, (∃ m, W 0 m (upd H1 D (SetTx w D []))) ∧ ∀ i m H, W i m H →
  (J.stop i H ∧ Q (.ref D) H) ∨ (J.go i H ∧ ∃ Nx : Hp → Prop, (∀ H', Nx H' → ∃ m', m' < m ∧ W (i + 1) m' H') ∧ ∀ x H', J.yld i H x H' → g x (wipe σ vs) H' fun σ2 H2 => wipe σ2 vs = wipe σ vs ∧ tt σ2 H2 fun b H3 =>
    if b = true then wi1 σ2 H3 fun J1 H4 => ∃ W1 : Nat → Nat → Hp → Prop, (∃ m, W1 0 m H4) ∧ ∀ j k H, W1 j k H →
      (J1.stop j H ∧ Nx H) ∨ (J1.go j H ∧ ∃ Nx1 : Hp → Prop, (∀ H', Nx1 H' → ∃ k', k' < k ∧ W1 (j + 1) k' H') ∧ ∀ x H', J1.yld j H x H' → g1 x (wipe σ2 vs1) H' fun σ3 H5 => wipe σ3 vs1 = wipe σ2 vs1 ∧ tt1 σ3 H5 fun b H6 =>
        if b = true then te σ3 H6 fun y H7 => ∃ x ks, y = .str x ∧ H7 D = some (SetTx w D ks) ∧ ks.length + 1 < scanBound ∧ Nx1 (upd H7 D (SetTx w D (Sx.once ks x))) else Nx1 H6)
    else Nx H3)
abbrev benv (X : Cx) (sc : Scope) (s : Shared) : Env := compEnvC sc (cellsFrom (s.heap.objs.size + 1) sc.names (cloFrom X.env.cells sc.names [])) s.heap.objs.size X.env
theorem newset {M : World} {P : Program} {A : Around} {E : Value → Shared → Prop} {s : Shared} {Q : Value → Shared → Prop} (h : Q (.ref s.heap.objs.size) { s with heap := s.heap.push (setObj0 M) }) : wpAny (model P M) A (newSet (.type "set")) Q E s := PpSet.newSet_ok h
theorem core {pins : List (Addr × Obj)} {s : Shared} {σ : L2.St} {H : Hp} {Q : VK} {e t0 i0 t1 i1 : Expr} {f0 f1 : List Expr} {sc : Scope} {own : List (Str × Nat)} {vs1 : List Nat} {p p' : Pos} {wi wi1 : TI} {g g1 : TG} {tt tt1 : TT} {te : TE} {Qf : Value → Shared → Prop}
    (hc : X.calm = true) (hN : X.N.Nodup) (I : Inv X pins σ H s) (hi : PI X t0 i0 wi) (ok : BlkOk X.N X.env.scope sc own) (hv : ∀ i ∈ vs1, i ∈ own.map (·.2))
    (hg : ∀ (s : Shared) (H : Hp) (C : Addr) (cl : List (Str × Addr)) (fp : List Addr), PG (X.blk s H sc (compEnvC sc cl C X.env) fp) t0 g) (ht : ∀ (s : Shared) (H : Hp) (C : Addr) (cl : List (Str × Addr)) (fp : List Addr), PTs (X.blk s H sc (compEnvC sc cl C X.env) fp) f0 tt)
    (he : ∀ (s : Shared) (H : Hp) (C : Addr) (cl : List (Str × Addr)) (fp : List Addr), PE (X.blk s H sc (compEnvC sc cl C X.env) fp) e te) (hs : ∀ x, foldedSetIterable i0 X.env x = pure x)
    (hi1 : ∀ (s : Shared) (H : Hp) (C : Addr) (cl : List (Str × Addr)) (fp : List Addr), PI (X.blk s H sc (compEnvC sc cl C X.env) fp) t1 i1 wi1)
    (hg1 : ∀ (s : Shared) (H : Hp) (C : Addr) (cl : List (Str × Addr)) (fp : List Addr), PG (X.blk s H sc (compEnvC sc cl C X.env) fp) t1 g1)
    (ht1 : ∀ (s : Shared) (H : Hp) (C : Addr) (cl : List (Str × Addr)) (fp : List Addr), PTs (X.blk s H sc (compEnvC sc cl C X.env) fp) f1 tt1) (hs1 : ∀ env x, foldedSetIterable i1 env x = pure x)
    (h : tSc2 X.w wi g tt wi1 g1 tt1 te (own.map (·.2)) vs1 σ H Q)
    (hRR : ∀ D C s' m H', Inv X pins σ H' s' → Q (.ref D) H' → s'.heap.Ns C m → FpOk X pins H' C → compPost (model X.prog X.w) X.A X.xe none Qf (.ref D) C (.ok .next) s') :
    wpAny (model X.prog X.w) X.A (comprehension (two e t0 i0 f0 t1 i1 f1 sc p) sc X.env p' (newSet (.type "set")) false (eval i0 X.env) none) Qf X.xe s := by
  have hfree : ∀ y ∈ sc.names, y.2 = .free → ∃ c, X.env.cells.lookup y.1 = some c := by
    intro y hy z
    exact (ok.free y hy z).elim (fun k => I.ok.has _ (.inl k)) fun k => I.ok.has _ (.inr k)
  refine wpAny_comprehension_free (use := none) rfl hs (closure_ok hfree) ok.kind (fun y hy z => by rw [ok.uniq y hy, z]) (thn (hi.run pins s σ H _ I h) fun _ _ hx => thn hx fun itv s2 h2 => ?_)
  obtain ⟨it, fp, tn, J, H2, rfl, I2, T, st2, f2, q⟩ := h2
  refine newset (newEnv_comp ?_)
  generalize hD : s2.heap.objs.size = D
  have nD : H2 D = none := I2.hok.fresh (Nat.le_of_eq hD)
  obtain ⟨W, ⟨m0, w0⟩, turn⟩ := q D nD
  generalize hs3 : ({ s2 with heap := s2.heap.push (setObj0 X.w) } : Shared) = s3
  have h3 : s3.heap = s2.heap.push (setObj0 X.w) := by subst hs3; rfl
  have I3 : Inv X pins σ (upd H2 D (SetTx X.w D [])) s3 := by
    subst hs3 hD
    exact I2.laid (t' := s2.toks) (fun _ _ z => Heap.get?_push_of_some _ z) (Nat.le_refl _) (setTx_new (setS_fresh (Heap.get?_push_size _ rfl)))
  have f3 : ∀ b ∈ fp, FpOk X pins (upd H2 D (SetTx X.w D [])) b ∧ b < s3.heap.objs.size := by
    intro b hb
    obtain ⟨o, z, _⟩ := T.obj _ _ st2 b hb
    have lt := Heap.lt_size z
    refine ⟨⟨?_, (f2 b hb).2⟩, by rw [h3, Heap.size_push]; exact Nat.lt_succ_of_lt lt⟩
    rw [upd_ne (by subst hD; exact Nat.ne_of_lt lt)]
    exact (f2 b hb).1
  have st3 : tn 0 s3.heap := T.keep _ _ _ st2 fun b _ o z => by
    rw [h3]; exact Heap.get?_push_of_some _ z
  have I4 := block_start I3 ok hN f3
  show codeAny _ _ (.compStart (two e t0 i0 f0 t1 i1 f1 sc p) 0 (.ref it) (.ref D) (benv X sc s3)) (compPost (model X.prog X.w) X.A X.xe none Qf (.ref D) s3.heap.objs.size) { s3 with heap := pushCells (s3.heap.push { cls := .type "dict", data := .dict #[] }) sc.names }
  have pg := hg s3 (upd H2 D (SetTx X.w D [])) s3.heap.objs.size (cellsFrom (s3.heap.objs.size + 1) sc.names (cloFrom X.env.cells sc.names [])) fp
  have pt := ht s3 (upd H2 D (SetTx X.w D [])) s3.heap.objs.size (cellsFrom (s3.heap.objs.size + 1) sc.names (cloFrom X.env.cells sc.names [])) fp
  have pe := he s3 (upd H2 D (SetTx X.w D [])) s3.heap.objs.size (cellsFrom (s3.heap.objs.size + 1) sc.names (cloFrom X.env.cells sc.names [])) fp
  have qi := hi1 s3 (upd H2 D (SetTx X.w D [])) s3.heap.objs.size (cellsFrom (s3.heap.objs.size + 1) sc.names (cloFrom X.env.cells sc.names [])) fp
  have qg := hg1 s3 (upd H2 D (SetTx X.w D [])) s3.heap.objs.size (cellsFrom (s3.heap.objs.size + 1) sc.names (cloFrom X.env.cells sc.names [])) fp
  have qt := ht1 s3 (upd H2 D (SetTx X.w D [])) s3.heap.objs.size (cellsFrom (s3.heap.objs.size + 1) sc.names (cloFrom X.env.cells sc.names [])) fp
  have n3 : ∀ b ∈ fp, (upd H2 D (SetTx X.w D [])) b = none := fun b hb => (f3 b hb).1.1
  generalize hce : benv X sc s3 = ce
  rw [show compEnvC sc (cellsFrom (s3.heap.objs.size + 1) sc.names (cloFrom X.env.cells sc.names [])) s3.heap.objs.size X.env = ce from hce] at I4 pg pt pe qi qg qt
  have cL : ce.locals = s3.heap.objs.size := by subst hce; rfl
  generalize hH3 : upd H2 D (SetTx X.w D []) = H3 at I3 I4 pg pt pe qi qg qt w0 n3 f3
  generalize hs4 : ({ s3 with heap := pushCells (s3.heap.push { cls := .type "dict", data := .dict #[] }) sc.names } : Shared) = s4 at I4 ⊢
  have st4 : tn 0 s4.heap := T.keep _ _ _ st3 fun b _ o z => by
    subst hs4
    exact pushCells_keeps _ _ _ _ (Heap.get?_push_of_some _ z)
  have stat : ∀ {σ' : L2.St} {H' : Hp} {s' : Shared}, Inv (X.blk s3 H3 sc ce fp) [] σ' H' s' → (∀ b ∈ fp, H' b = none) → ∀ b ∈ fp, FpOk (X.blk s3 H3 sc ce fp) [] H' b := by
    intro σ' H' s' I' hn b hb
    exact ⟨hn b hb, (I'.ok.exf b hb).1, I'.ok.exfs b hb, .inl hb, fun x c z => (I'.ok.exf b hb).2 x c z, fun q hq => absurd (show q ∈ ([] : List (Addr × Obj)) ++ [] from hq) (by simp)⟩
  let JJ : Nat → Shared → Prop := fun n s' => ∃ i H', Inv (X.blk s3 H3 sc ce fp) [] (wipe σ (own.map (·.2))) H' s' ∧ tn i s'.heap ∧ (∀ b ∈ fp, H' b = none) ∧ W i n H'
  have loop : codeAny (model X.prog X.w) X.A (.compLoop (two e t0 i0 f0 t1 i1 f1 sc p) 0 (.ref it) (.ref D) ce) (compPost (model X.prog X.w) X.A X.xe none Qf (.ref D) s3.heap.objs.size) s4 := ?loop
  exact PpSet.codeAny_compStart_set loop (T.self X.A 0 _ _ _ st4 loop)
  refine loop_a (hs1 ce) JJ ?_ m0 ⟨0, H3, I4, st4, n3, w0⟩
  rintro n s5 ⟨i, H5, I5, st5, n5, w5⟩
  rcases turn i n H5 w5 with ⟨stop, qq⟩ | ⟨gos, Nx, hNx, step⟩
  · refine thnF (T.done (X.blk s3 H3 sc ce fp) rfl rfl rfl hc i [] s5 _ H5 (fun _ _ => False) I5 (stat I5 n5) st5 stop) fun r s6 ⟨hr, I6⟩ => ?_
    subst hr
    have I7 : Inv X pins σ H5 s6 := I3.call' (ch := fp) I6.os I6.base I6.hok I6.bare fun b hb => by
      obtain ⟨_, z1, _, z3, z4, z5⟩ := (f3 b hb).1
      exact ⟨z3, z1, z4, z5⟩
    have nC : H5 s3.heap.objs.size = none := cL ▸ (show H5 ce.locals = none from I6.free)
    obtain ⟨m, hn, _⟩ := I6.loc
    exact hRR D s3.heap.objs.size s6 m H5 I7 qq (cL ▸ (show s6.heap.Ns ce.locals m from hn)) (I3.fpOk (Nat.le_refl _) nC)
  · refine thnF (T.item (X.blk s3 H3 sc ce fp) rfl rfl rfl hc i [] s5 _ H5 (fun _ _ => False) I5 (stat I5 n5) st5 gos) fun r s6 ⟨u, hr, h6⟩ => ?_
    subst hr
    refine thnF h6 fun _ s7 ⟨x, H7, I7, r7, y7, st7, n7⟩ => ?_
    have I7' := I7.pinned (stat I7 n7) (T.obj _ _ st7)
    refine thnF (pg.run _ s7 _ H7 x u _ I7' r7 (step x H7 y7)) fun _ s8 ⟨σ8, H8, I8, hw8, q8⟩ => ?_
    refine thnF (pt.run _ s8 σ8 H8 _ I8 q8) fun b s9 ⟨H9, I9, q9⟩ => ?_
    have fin : ∀ {σ9 : L2.St} {s' : Shared} {H' : Hp}, Inv (X.blk s3 H3 sc ce fp) ([] ++ pinsAt fp s7.heap) σ9 H' s' → (wipe σ (own.map (·.2))).length = σ9.length → (∀ (j : Nat) v, (wipe σ (own.map (·.2)))[j]? = some (some v) → σ9[j]? = some (some v)) → Nx H' → ∃ m, m < n ∧ JJ m s' := by
      intro σ9 s' H' I' hl hk nx
      obtain ⟨m', hm, w'⟩ := hNx H' nx
      have pin' : ∀ b ∈ fp, ∀ o, s7.heap.get? b = some o → s'.heap.get? b = some o ∧ H' b = none := by
        intro b hb o z
        have y := I'.pin (b, o) (List.mem_append_right _ (List.mem_append_right _ (mem_pinsAt hb z)))
        exact ⟨y.1, y.2.1⟩
      refine ⟨m', hm, i + 1, H', (I'.unpinned (pins := [])).weak hl hk, T.keep _ _ _ st7 fun b hb o z => (pin' b hb o z).1, fun b hb => ?_, w'⟩
      obtain ⟨o, z, _⟩ := T.obj _ _ st7 b hb
      exact (pin' b hb o z).2
    have l8 : (wipe σ (own.map (·.2))).length = σ8.length := by rw [← hw8, wipe_length]
    have k8 : ∀ (j : Nat) v, (wipe σ (own.map (·.2)))[j]? = some (some v) → σ8[j]? = some (some v) := by
      intro j v z
      rw [← hw8] at z
      exact (wipe_some z).1
    have k9 : ∀ (j : Nat) v, (wipe σ (own.map (·.2)))[j]? = some (some v) → (wipe σ8 vs1)[j]? = some (some v) := by
      intro j v z
      rw [← hw8] at z
      obtain ⟨z1, z2⟩ := wipe_some z
      rw [wipe_out fun y => z2 (hv j y)]
      exact z1
    cases b with
    | false =>
      simp only [Bool.false_eq_true, if_false] at q9 ⊢
      exact fin I9 l8 k8 q9
    | true =>
      simp only [if_true] at q9 ⊢
      refine thnF (qi.run _ s9 σ8 H9 _ I9 q9) fun _ _ hx => thnF hx fun itv sB hB => ?_
      obtain ⟨jt, fq, un, J1, HB, rfl, IB, U, stB, fB, W1, ⟨m1, w1⟩, turn1⟩ := hB
      have stat1 : ∀ {H' : Hp}, (∀ b ∈ fq, H' b = none) → ∀ b ∈ fq, FpOk (X.blk s3 H3 sc ce fp) ([] ++ pinsAt fp s7.heap) H' b := fun hn b hb => ⟨hn b hb, (fB b hb).2⟩
      let KK : Nat → Shared → Prop := fun k s' => ∃ j H', Inv (X.blk s3 H3 sc ce fp) ([] ++ pinsAt fp s7.heap) (wipe σ8 vs1) H' s' ∧ un j s'.heap ∧ (∀ b ∈ fq, H' b = none) ∧ W1 j k H'
      have inner : codeAny (model X.prog X.w) X.A (.compLoop (two e t0 i0 f0 t1 i1 f1 sc p) 1 (.ref jt) (.ref D) ce) (fun r s' => match r with
            | .ok _ => ∃ m, m < n ∧ JJ m s'
            | .error _ => False) sB := ?inner
      exact start_b inner (U.self X.A 0 _ _ _ stB inner)
      refine loop_b KK ?_ m1 ⟨0, HB, IB.weak (wipe_length _ _) (fun j v z => (wipe_some z).1), stB, fun b hb => (fB b hb).1, w1⟩
      rintro k sC ⟨j, HC, IC, stC, nC, wC⟩
      rcases turn1 j k HC wC with ⟨stop1, nx1⟩ | ⟨gos1, Nx1, hNx1, step1⟩
      · refine thnF (U.done (X.blk s3 H3 sc ce fp) rfl rfl rfl hc j _ sC (wipe σ8 vs1) HC (fun _ _ => False) IC (stat1 nC) stC stop1) fun r sD ⟨hr, ID⟩ => ?_
        subst hr
        exact fin ID (l8.trans (wipe_length σ8 vs1).symm) k9 nx1
      · refine thnF (U.item (X.blk s3 H3 sc ce fp) rfl rfl rfl hc j _ sC (wipe σ8 vs1) HC (fun _ _ => False) IC (stat1 nC) stC gos1) fun r sD ⟨u1, hr, hD2⟩ => ?_
        subst hr
        refine thnF hD2 fun _ sE ⟨x1, HE, IE, rE, yE, stE, nE⟩ => ?_
        have IE' := IE.pinned (stat1 nE) (U.obj _ _ stE)
        refine thnF (qg.run _ sE (wipe σ8 vs1) HE x1 u1 _ IE' rE (step1 x1 HE yE)) fun _ sF ⟨σF, HF, IF, hwF, qF⟩ => ?_
        refine thnF (qt.run _ sF σF HF _ IF qF) fun b1 sG ⟨HG, IG, qG⟩ => ?_
        have fin1 : ∀ {s' : Shared} {H' : Hp}, Inv (X.blk s3 H3 sc ce fp) (([] ++ pinsAt fp s7.heap) ++ pinsAt fq sE.heap) σF H' s' → Nx1 H' → ∃ m, m < k ∧ KK m s' := by
          intro s' H' I' nx
          obtain ⟨m', hm, w'⟩ := hNx1 H' nx
          have pin' : ∀ b ∈ fq, ∀ o, sE.heap.get? b = some o → s'.heap.get? b = some o ∧ H' b = none := by
            intro b hb o z
            have y := I'.pin (b, o) (List.mem_append_right _ (List.mem_append_right _ (mem_pinsAt hb z)))
            exact ⟨y.1, y.2.1⟩
          refine ⟨m', hm, j + 1, H', I'.unpinned.weak (by rw [← hwF, wipe_length]) (fun j v z => ?_), U.keep _ _ _ stE fun b hb o z => (pin' b hb o z).1, fun b hb => ?_, w'⟩
          · rw [← hwF] at z
            exact (wipe_some z).1
          · obtain ⟨o, z, _⟩ := U.obj _ _ stE b hb
            exact (pin' b hb o z).2
        cases b1 with
        | false =>
          simp only [Bool.false_eq_true, if_false] at qG ⊢
          exact fin1 IG qG
        | true =>
          simp only [if_true] at qG ⊢
          refine thnF (pe.run _ sG σF HG _ IG qG) fun z sH ⟨yv, HH, IH, rH, x, ks, ey, hDH, roomH, nx⟩ => ?_
          subst ey
          exact add_ok (X := X.blk s3 H3 sc ce fp) IH hDH roomH rH fun sI II => fin1 II nx
/-- as a value -/
theorem pe_sc2 {e t0 i0 t1 i1 : Expr} {f0 f1 : List Expr} {sc : Scope} {own : List (Str × Nat)} {vs1 : List Nat} {p : Pos} {wi wi1 : TI} {g g1 : TG} {tt tt1 : TT} {te : TE} (hc : X.calm = true) (hN : X.N.Nodup) (hi : PI X t0 i0 wi) (ok : BlkOk X.N X.env.scope sc own) (hv : ∀ i ∈ vs1, i ∈ own.map (·.2))
    (hg : ∀ (s : Shared) (H : Hp) (C : Addr) (cl : List (Str × Addr)) (fp : List Addr), PG (X.blk s H sc (compEnvC sc cl C X.env) fp) t0 g) (ht : ∀ (s : Shared) (H : Hp) (C : Addr) (cl : List (Str × Addr)) (fp : List Addr), PTs (X.blk s H sc (compEnvC sc cl C X.env) fp) f0 tt)
    (hi1 : ∀ (s : Shared) (H : Hp) (C : Addr) (cl : List (Str × Addr)) (fp : List Addr), PI (X.blk s H sc (compEnvC sc cl C X.env) fp) t1 i1 wi1)
    (hg1 : ∀ (s : Shared) (H : Hp) (C : Addr) (cl : List (Str × Addr)) (fp : List Addr), PG (X.blk s H sc (compEnvC sc cl C X.env) fp) t1 g1)
    (ht1 : ∀ (s : Shared) (H : Hp) (C : Addr) (cl : List (Str × Addr)) (fp : List Addr), PTs (X.blk s H sc (compEnvC sc cl C X.env) fp) f1 tt1)
    (he : ∀ (s : Shared) (H : Hp) (C : Addr) (cl : List (Str × Addr)) (fp : List Addr), PE (X.blk s H sc (compEnvC sc cl C X.env) fp) e te) (hs : ∀ x, foldedSetIterable i0 X.env x = pure x := by intro _; rfl) (hs1 : ∀ env x, foldedSetIterable i1 env x = pure x := by intro _ _; rfl) :
    PE X (.SetComp e [⟨t0, i0, f0, 0⟩, ⟨t1, i1, f1, 0⟩] sc p) (tSc2 X.w wi g tt wi1 g1 tt1 te (own.map (·.2)) vs1) := by
  refine ⟨fun pins s σ H Q I h => ?_⟩
  rw [PpSet.eval_SetComp]
  refine core hc hN I hi ok hv hg ht he hs hi1 hg1 ht1 hs1 h fun D C s' m H' I' q hn f => ⟨m, hn, fun h2 sb => ?_⟩
  obtain ⟨f0, f1, f2, f3, f4, f5⟩ := f
  exact ⟨.ref D, H', I'.turned (t' := s'.toks) (fun b o hb z => (sb.2 b hb).trans z) f0 f1 f3 f4 f5, rfl, q⟩
end
end Sc2
end
section
set_option maxHeartbeats 4000000
/-! list(d.values()) -/
namespace LVals
open PySem PySem.Spec PyProof.Rows L2
def tVals (te : TE) : TE := fun σ H Q => te σ H fun x H1 => ∃ d kvs, x = .ref d ∧ H1 d = some (.dK kvs) ∧ ∀ q, H1 q = none → Q (.ref q) (upd H1 q (.lst (kvs.map (·.2))))
theorem vals_list {kvs : List (Key × V)} {ws : List (Key × Value)} (r : KV kvs ws) {acc : Array Value} (h : ItemsOf (fun i v => ∃ k, ws[i]? = some (k, v)) acc ws.length) : Vals (kvs.map (·.2)) acc.toList := by
  refine vals_of_at (by
    have h0 : acc.toList.length = ws.length := by simpa using h.1
    rw [List.length_map, h0]; exact Paired.length r) fun j x u e1 e2 => ?_
  rw [Array.getElem?_toList] at e2
  obtain ⟨k, hk⟩ := h.2 j u e2
  rw [List.getElem?_map] at e1
  cases e3 : kvs[j]? with
  | none => rw [e3] at e1; cases e1
  | some kv =>
    rw [e3] at e1
    obtain rfl : kv.2 = x := Option.some.inj e1
    obtain ⟨y, hy, h1, h2⟩ := LiI.paired_get r e3
    rw [hk] at hy
    cases hy
    exact h2
section
variable {X : Cx} {e : Expr} {te : TE} {p apos cpos pos : Pos}
theorem pe_listVals (hc : X.calm = true) (he : PE X e te) (hg : Gl X "list") (hm : X.mg "list" = none) (hv : bootBuiltins "list" = some (.type "list")) (hbase : attributeBase e "values" X.env (eval e X.env) = eval e X.env := by rfl) (hline : (apos.endLine == cpos.line) = true := by rfl)
    (hs : starEach [.Call (.Attribute e "values" apos) [] [] cpos] X.env = (false, eval (.Call (.Attribute e "values" apos) [] [] cpos) X.env) :: starEach [] X.env := by rfl) :
    PE X (.Call (.Name "list" p) [.Call (.Attribute e "values" apos) [] [] cpos] [] pos) (tVals te) := by
  refine ⟨fun pins s σ H Q I hq => wpAny_Call_Name_kw (ld_blt I hg hm hv (PyProof.Rows.callWith_type1 ?_ hs rfl))⟩
  rw [hs]
  show wpAny _ _ (spliced ((false, eval (.Call (.Attribute e "values" apos) [] [] cpos) X.env) :: backTo pos (starEach [] X.env))) _ _ s
  refine Calls.spliced_cons (wpAny_Call_method (T := "dict") (id := "dict.values") hbase rfl hline F.plainAttrs_dict F.slot_dict_values F.type_dict_values (thn (he.run pins s σ H _ I hq) fun u s1 ⟨x, H1, I1, rx, d, kvs, ex, hd, q⟩ => ?_))
  subst ex
  obtain rfl : u = Value.ref d := rx
  obtain ⟨hz, lo, ws, kv, hdo⟩ := I1.hok d _ hd
  obtain ⟨ep, hat⟩ := hdo.dictAt
  have lk : kvs.length = ws.length := Paired.length kv
  have I2 : Inv X pins σ H1 { s1 with heap := s1.heap.push { cls := .type "dict_values", data := .fields #[.ref d] } } := I1.kept (t' := s1.toks) fun b ob z => Heap.get?_push_of_some _ z
  refine ⟨hdo.typeIs, hdo.mapOf.noDict, ?_⟩
  show wpAny _ _ (callWith cpos (.builtin "dict.values") [.ref d] [] []) _ X.xe s1
  refine method_meetsIn F.slot_dict_values F.entry_dict_values rfl (PySem.evalArgs_none ⟨rfl, hdo.typeIs, F.args_dict_values_1 _, _, meets_dict_values (mixKind X.prog X.w) d lo, ⟨ws, hdo⟩, Calls.spliced_nil ?_⟩)
  refine PySem.W.kdl_call (PySem.W.kdl_values (knd := mixKind X.prog X.w) (kvs := ws) (ep := ep) (d := d)) (I2.ok.hd hc) ⟨⟨_, Heap.get?_push_size _ rfl, rfl, rfl⟩, hat.push _⟩ (by rw [← lk]; exact hz) fun h' tk acc c kk hS hacc => ?_
  refine ⟨.ref _, upd H1 _ (.lst (kvs.map (·.2))), I2.laid (t' := tk) kk (Nat.le_refl _) ⟨?_, acc.toList, c, vals_list kv hacc, ?_⟩, rfl, q _ (I2.hok.fresh (Nat.le_refl _))⟩
  · rw [List.length_map]; exact hz
  · rw [Array.toArray_toList]; exact hS
end
end LVals
end
section
set_option maxHeartbeats 8000000
/-! a book of rows, as it stands; calls that may raise -/
namespace K1
open PySem PySem.Spec PyProof.Rows L2 Gr GxR Srx
/-- number, where the row stands, the row -/
abbrev Tb1 := List (Int × Addr × List Str)
def rws (tb : Tb1) : List (List Str) := tb.map (·.2.2)
def nums (tb : Tb1) : List Int := tb.map (·.1)
theorem kNR : ¬ (("_rows" : Str) = "_next_number") := by decide +kernel
def bfl (d : Addr) (n : Int) : List (Str × V) := putF "_next_number" (.int n) (putF "_rows" (.ref d) [])
theorem bfl_eq (d : Addr) (n : Int) : bfl d n = ([("_rows", V.ref d), ("_next_number", V.int n)] : List (Str × V)) := by
  show (if ("_rows" : Str) = "_next_number" then [(("_rows" : Str), V.int n)] else (("_rows" : Str), V.ref d) :: putF "_next_number" (V.int n) []) = _
  rw [if_neg kNR]
  rfl
theorem bfl_rows (d : Addr) (n : Int) : (bfl d n).lookup ("_rows" : Str) = some (.ref d) := by
  unfold bfl
  rw [lookup_putF, if_neg kNR, lookup_putF, if_pos rfl]
theorem bfl_next (d : Addr) (n : Int) : (bfl d n).lookup ("_next_number" : Str) = some (.int n) := by
  unfold bfl
  rw [lookup_putF, if_pos rfl]
def mOk (m : Str) : Bool := decide (¬ m = "_rows") && decide (¬ m = "_next_number")
theorem bfl_no {m : Str} (h : mOk m = true) (d : Addr) (n : Int) : (bfl d n).lookup m = none := by
  unfold mOk at h
  rw [Bool.and_eq_true] at h
  have h1 := of_decide_eq_true h.1
  have h2 := of_decide_eq_true h.2
  unfold bfl
  rw [lookup_putF, if_neg h2, lookup_putF, if_neg h1]
  rfl
theorem bfl_put (d : Addr) (n m : Int) : putF "_next_number" (.int m) (bfl d n) = bfl d m := by
  rw [bfl_eq, bfl_eq]
  show (if ("_rows" : Str) = "_next_number" then _ else (("_rows" : Str), V.ref d) :: (if ("_next_number" : Str) = "_next_number" then [(("_next_number" : Str), V.int m)] else _)) = _
  rw [if_neg kNR, if_pos rfl]
/-- the entries of a book's dict -/
def kvB (tb : Tb1) : List (Key × V) := tb.map fun e => ((Sum.inl e.1 : Key), V.ref e.2.1)
/-- at b: a book, its dict at d -/
structure Bk (C : Addr) (H : Hp) (b d : Addr) (tb : Tb1) (n : Int) : Prop where
  ob : ∃ dx, H b = some (.ins C dx (bfl d n))
  dc : H d = some (.dK (kvB tb))
  own : ∀ e ∈ tb, H e.2.1 = some (.lst (e.2.2.map V.str))
theorem Bk.gr {C b d : Addr} {H H' : Hp} {tb : Tb1} {n : Int} (B : Bk C H b d tb n) (g : Gr H H') : Bk C H' b d tb n := by
  obtain ⟨⟨dx, e⟩, e2, e3⟩ := B
  exact ⟨⟨dx, g.at_ _ _ e fun _ z => nomatch z⟩, g.at_ _ _ e2 fun _ z => (nomatch z), fun e he => g.lst (e3 e he)⟩
theorem Bk.grx {X : Addr → Prop} {C b d : Addr} {H H' : Hp} {tb : Tb1} {n : Int} (B : Bk C H b d tb n) (g : GrX X H H') (nb : ¬ X b) (nd : ¬ X d) (no : ∀ e ∈ tb, ¬ X e.2.1) : Bk C H' b d tb n := by
  obtain ⟨⟨dx, e⟩, e2, e3⟩ := B
  exact ⟨⟨dx, g.at_ _ _ nb e fun _ z => nomatch z⟩, g.at_ _ _ nd e2 fun _ z => (nomatch z), fun e he => g.lst (no e he) (e3 e he)⟩
theorem Bk.ne {C b d : Addr} {H : Hp} {tb : Tb1} {n : Int} (B : Bk C H b d tb n) : b ≠ d := let ⟨_, e⟩ := B.ob; ne_of e B.dc (by intro z; cases z)
theorem Bk.neb {C b d : Addr} {H : Hp} {tb : Tb1} {n : Int} (B : Bk C H b d tb n) {e} (he : e ∈ tb) : e.2.1 ≠ b ∧ e.2.1 ≠ d := by
  obtain ⟨dx, z⟩ := B.ob
  exact ⟨ne_of (B.own e he) z (by intro z; cases z), ne_of (B.own e he) B.dc (by intro z; cases z)⟩
/-- what holds of a book's rows and numbers -/
structure Tok (tb : Tb1) (n : Int) : Prop where
  num : (nums tb).Pairwise (· < ·)
  bnd : ∀ e ∈ tb, 0 ≤ e.1 ∧ e.1 < n
  set : ∀ e ∈ tb, Ris e.2.2 ∧ Nms e.2.2
  few : tb.length ≤ 30
  nms : (allN (rws tb)).length ≤ 12
  n0 : 0 ≤ n
theorem Tok.nil : Tok [] 0 := ⟨.nil, fun _ z => absurd z List.not_mem_nil, fun _ z => absurd z List.not_mem_nil, by decide, by decide +kernel, by decide⟩
/-- a function by its name, that may raise; a method -/
structure MCalls (P : Program) (w : World) (K : PySem.W.Frag) (mg : Str → Option Value) (base : Heap) (CX : CXT) (k : Nat) (C : Addr) (m : Str) (sp : Sp) : Prop where
  ex : ∃ (f : Addr) (fd : FuncData) (ps : List Str), FnOk P w K mg base CX k f fd ps sp ∧ Meth K C m f ∧ Binds K fd ps []
/-- what is raised, by the slots -/
abbrev Pa (CX : CXT) (X : Cx) (E : L2.St → XK) : Prop := ∀ σ, PassesAt CX X σ (E σ)
theorem pa0 {X : Cx} : Pa CX0 X (fun _ => E0) := fun _ _ _ _ _ _ _ h => h.elim
theorem paL {X : Cx} : Pa (L2.CX X.prog X.w) X (fun _ => E0) := fun σ pins H s e s' I h => passL pins σ H s e s' I h
theorem paE {X : Cx} {E : XK} (tk : Takes X (fun cls d _ H => E cls d H)) : Pa (L2.CX X.prog X.w) X (fun _ => E) := fun σ pins H s e s' I h => passes_call tk (fun _ _ _ _ z => z) pins σ H s e s' I h
theorem paT {X : Cx} {W : WX} (tk : Takes X W) : Pa (L2.CX X.prog X.w) X (WE W) := fun σ => passAt tk σ
def tM (C : Addr) (sp : Sp) (E : L2.St → XK) (ta : TE) (t : TA) : TE := fun σ H Q => ta σ H fun x H1 => ∃ b d tb n, x = .ref b ∧ Bk C H1 b d tb n ∧ t σ H1 fun vs H2 => sp (.ref b :: vs) H2 Q (E σ)
def tF (sp : Sp) (E : L2.St → XK) (t : TA) : TE := fun σ H Q => t σ H fun vs H1 => sp vs H1 Q (E σ)
section
variable {X : Cx} {CX : CXT} {k j : Nat} {C : Addr} {sp : Sp} {E : L2.St → XK} {m x : Str} {p pos apos : Pos} {o e : Expr} {es : List Expr} {ta : TE} {t : TA}
theorem pe_m {pl : Sem Bool} (c : MCalls X.prog X.w X.K X.mg X.base CX k C m sp) (cl : Cls X.K C) (hr : Room j X.A) (hk : k ≤ j) (hx : Pa CX X E) (ho : PE X o ta) (ha : PA X (e :: es) t) (hm : mOk m = true := by decide +kernel)
    (h1 : starEach (e :: es) X.env = (false, eval e X.env) :: starEach es X.env := by rfl) (h2 : (backTo pos (starEach es X.env)).any (·.1) = false := by rfl)
    (h3 : eval (.Call (.Attribute o m apos) (e :: es) [] pos) X.env = (do
        let ov ← eval o X.env
        standAt apos.atName
        let (f, first) ← holding [ov] (getMethod ov m pl)
        callWith pos f first (backTo pos (starEach (e :: es) X.env)) (backToKw pos (keywordEach [] X.env))) := by rfl) :
    PE X (.Call (.Attribute o m apos) (e :: es) [] pos) (tM C sp E ta t) := by
  obtain ⟨f, fd, ps, F, me, bi⟩ := c.ex
  refine ⟨fun pins s σ H Q I h => PySem.W.methodCall_KW (pl := pl) (thn (ho.run pins s σ H _ I h) fun u s1 hu => ?_) h3⟩
  obtain ⟨x, H1, I1, rx, b, d, tb, n, rfl, B, q⟩ := hu
  obtain rfl : u = Value.ref b := rx
  obtain ⟨dx, eb⟩ := B.ob
  refine getmeth_ok I1 eb cl me (bfl_no hm d n) (PySem.W.callWith_K (first := [.ref b]) (h₀ := X.base) I.ok.mod.kin me.kp (thn (ha.run pos pins s1 σ H1 _ I1 q) fun us s2 hv => ?_) h1 h2)
  obtain ⟨vs, H2, I2, r, q2⟩ := hv
  exact ⟨I2.kIn, run_fnS (us := .ref b :: us) (vs := .ref b :: vs) F (hr.mono hk) bi (hx σ) I2 (.cons rfl r) q2⟩
theorem pe_m0 {pl : Sem Bool} (c : MCalls X.prog X.w X.K X.mg X.base CX k C m sp) (cl : Cls X.K C) (hr : Room j X.A) (hk : k ≤ j) (hx : Pa CX X E) (ho : PE X o ta) (hm : mOk m = true := by decide +kernel)
    (h3 : eval (.Call (.Attribute o m apos) [] [] pos) X.env = (do
        let ov ← eval o X.env
        standAt apos.atName
        let (f, first) ← holding [ov] (getMethod ov m pl)
        callWith pos f first (backTo pos (starEach [] X.env)) (backToKw pos (keywordEach [] X.env))) := by rfl) :
    PE X (.Call (.Attribute o m apos) [] [] pos) (tM C sp E ta tNil) := by
  obtain ⟨f, fd, ps, F, me, bi⟩ := c.ex
  refine ⟨fun pins s σ H Q I h => PySem.W.methodCall_KW (pl := pl) (thn (ho.run pins s σ H _ I h) fun u s1 hu => ?_) h3⟩
  obtain ⟨x, H1, I1, rx, b, d, tb, n, rfl, B, q⟩ := hu
  obtain rfl : u = Value.ref b := rx
  obtain ⟨dx, eb⟩ := B.ob
  exact getmeth_ok I1 eb cl me (bfl_no hm d n) (PySem.W.callWith_K0 (first := [.ref b]) I1.kIn me.kp (run_fnS (us := [.ref b]) (vs := [.ref b]) F (hr.mono hk) bi (hx σ) I1 (.cons rfl .nil) q))
theorem pe_f (c : Calls X.prog X.w X.K X.mg X.base CX k x sp) (hr : Room j X.A) (hk : k ≤ j) (hx : Pa CX X E) (hg : Gl X x) (ha : PA X (e :: es) t)
    (hdb : (x == ("__debug__" : Str)) = false := by decide) (he : starEach (e :: es) X.env = (false, eval e X.env) :: starEach es X.env := by rfl) (hpl : (backTo pos (starEach es X.env)).any (·.1) = false := by rfl) :
    PE X (.Call (.Name x p) (e :: es) [] pos) (tF sp E t) := by
  obtain ⟨f, fd, ps, F, hm, kp, b⟩ := c.ex
  exact pe_callS F (hr.mono hk) hg hm kp b hx ha hdb he hpl
end
end K1
namespace K1
open PySem PySem.Spec PyProof.Rows L2 Gr GxR Srx
/-- the tables of code of is_name, within, meets, least_of, _met_by, own -/
structure TabN where
  i : Addr
  w : Addr
  m : Addr
  l : Addr
  b : Addr
  o : Addr
structure TabN.S (N : TabN) (H : Hp) : Prop where
  i : TabG H N.i
  w : TabG H N.w
  m : TabG H N.m
  l : TabG H N.l
theorem TabN.S.gr {N : TabN} {H H' : Hp} (t : N.S H) (g : Gr H H') : N.S H' := ⟨g.tabG t.i, g.tabG t.w, g.tabG t.m, g.tabG t.l⟩
structure TabN.G (N : TabN) (H : Hp) : Prop where
  s : N.S H
  b : TabG H N.b
  o : TabG H N.o
theorem TabN.G.gr {N : TabN} {H H' : Hp} (t : N.G H) (g : Gr H H') : N.G H' := ⟨t.s.gr g, g.tabG t.b, g.tabG t.o⟩
theorem TabN.G.grx {X : Addr → Prop} {N : TabN} {H H' : Hp} (t : N.G H) (g : GrX X H H') : N.G H' := ⟨⟨g.tabG t.s.i, g.tabG t.s.w, g.tabG t.s.m, g.tabG t.s.l⟩, g.tabG t.b, g.tabG t.o⟩
/-- the errors' classes -/
structure ErN where
  name : Addr
  row : Addr
  no : Addr
  many : Addr
  meet : Addr
  un : Addr
/-- what is handed in as a list of names -/
def HOk (H : Hp) (v : V) (xs : List Str) : Prop := ∃ a, v = .ref a ∧ H a = some (.lst (xs.map V.str)) ∧ Nms xs ∧ xs.length ≤ 1000
def HBadN (K : PySem.W.Frag) (H : Hp) (v : V) : Prop := ∃ a vls, v = .ref a ∧ H a = some (.lst vls) ∧ (∀ v ∈ vls, Thing K H v) ∧ vls.length ≤ 1000 ∧ ∃ v ∈ vls, nmV v = false
def HBadR (K : PySem.W.Frag) (H : Hp) (v : V) : Prop := ∃ t : String, TyX K H v (.type t) ∧ kitB t "list" = some false
theorem HOk.gr {H H' : Hp} {v : V} {xs : List Str} (h : HOk H v xs) (g : Gr H H') : HOk H' v xs := let ⟨a, e, z, r⟩ := h; ⟨a, e, g.lst z, r⟩
theorem HBadN.gr {K : PySem.W.Frag} {H H' : Hp} {v : V} (h : HBadN K H v) (g : Gr H H') : HBadN K H' v := let ⟨a, vls, e, z, t, r⟩ := h; ⟨a, vls, e, g.lst z, fun v hv => (t v hv).gr g, r⟩
theorem HBadR.gr {K : PySem.W.Frag} {H H' : Hp} {v : V} (h : HBadR K H v) (g : Gr H H') : HBadR K H' v := let ⟨t, e, k⟩ := h; ⟨t, tyx_gr g e, k⟩
def spNamesFrom (K : PySem.W.Frag) (T : Addr) (R : ErN) : Sp := fun vs H Q E => ∃ v, vs = [v] ∧ TabG H T ∧
  ((∃ xs, HOk H v xs ∧ ∀ p H', Gr H H' → H p = none → H' p = some (.lst ((once xs).map V.str)) → Q (.ref p) H') ∨ (HBadN K H v ∧ ∀ H', Gr H H' → E (.ref R.name) none H') ∨ (HBadR K H v ∧ ∀ H', Gr H H' → E (.ref R.row) none H'))
def spRowFrom (K : PySem.W.Frag) (T : Addr) (R : ErN) : Sp := fun vs H Q E => ∃ v, vs = [v] ∧ TabG H T ∧
  ((∃ xs, HOk H v xs ∧ xs.Nodup ∧ ∀ p H', Gr H H' → H p = none → H' p = some (.lst ((once xs).map V.str)) → Q (.ref p) H') ∨ (∃ xs, HOk H v xs ∧ ¬ xs.Nodup ∧ ∀ H', Gr H H' → E (.ref R.row) none H') ∨ (HBadN K H v ∧ ∀ H', Gr H H' → E (.ref R.name) none H') ∨ (HBadR K H v ∧ ∀ H', Gr H H' → E (.ref R.row) none H'))
theorem nms_all {xs : List Str} : xs.all isNm = true ↔ Nms xs := by
  rw [List.all_eq_true]
  exact Iff.rfl
theorem nms_things {K : PySem.W.Frag} {H : Hp} {xs : List Str} (h : Nms xs) : ∀ v ∈ xs.map V.str, Thing K H v := by
  intro v hv
  obtain ⟨x, hx, rfl⟩ := List.mem_map.mp hv
  exact thing_str (by have := nm_len (h x hx); rw [sizeLine_eq]; omega)
theorem once_full {xs : List Str} (h : xs.Nodup) : (once xs).length = xs.length := by
  unfold once
  rw [srt_len, Sx.dd_id h]
theorem nodup_of_dd : ∀ {xs : List Str}, (Sx.dd xs).length = xs.length → xs.Nodup := by
  intro xs
  induction xs using snoc_ind with
  | h0 => exact fun _ => List.nodup_nil
  | h1 xs x ih =>
    intro h
    have e : Sx.dd (xs ++ [x]) = Sx.once (Sx.dd xs) x := by
      unfold Sx.dd
      rw [List.foldl_append]
      rfl
    rw [e] at h
    have h1 := Sx.dd_len xs
    by_cases hx : x ∈ Sx.dd xs
    · rw [show Sx.once (Sx.dd xs) x = Sx.dd xs from if_pos hx, List.length_append, List.length_singleton] at h
      omega
    · rw [show Sx.once (Sx.dd xs) x = Sx.dd xs ++ [x] from if_neg hx, List.length_append, List.length_append] at h
      have h2 := ih (by omega)
      refine List.nodup_append.mpr ⟨h2, by simp, fun a ha b hb z => ?_⟩
      have hb : b = x := by simpa using hb
      rw [z, hb] at ha
      exact hx (Sx.dd_mem.mpr ha)
theorem once_twice {xs : List Str} (h : ¬ xs.Nodup) : (once xs).length ≠ xs.length := by
  unfold once
  rw [srt_len]
  exact fun z => h (nodup_of_dd z)
end K1
namespace K1
open PySem PySem.Spec PyProof.Rows L2 Gr GxR Srx Skx Dcx
/-- [.. x ..] for texts x: each made anew -/
theorem lc_newT {K : PySem.W.Frag} {a D : Addr} {j : Nat} {σ : L2.St} {vs : List Nat} {te : TE} {H1 : Hp} {Qd : Hp → Prop} {xs : List Str} (F : Str → List Str)
    (hA : SqL K H1 a (xs.map V.str)) (few : xs.length < sizeLine) (hD : H1 D = none) (hw : ∀ v, wipe ((wipe σ vs).set j (some v)) vs = wipe σ vs)
    (he : ∀ x ∈ xs, ∀ (H4 : Hp) (Q' : VK), Gr H1 H4 → (∀ H5 l, Gr H4 H5 → H5 l = none → Q' (.ref l) (upd H5 l (.lst ((F x).map V.str)))) → te ((wipe σ vs).set j (some (.str x))) H4 Q')
    (q : ∀ H2 ps, Gr H1 H2 → Told H1 H2 D ps → ps.map (·.2) = xs.map F → Qd H2) :
    ∃ W : Nat → Nat → Hp → Prop, (∃ m, W 0 m (upd H1 D (.lst []))) ∧ ∀ i m H, W i m H →
      ((Itl K a).stop i H ∧ Qd H) ∨ ((Itl K a).go i H ∧ ∃ Nx : Hp → Prop, (∀ H', Nx H' → ∃ m', m' < m ∧ W (i + 1) m' H') ∧ ∀ x H', (Itl K a).yld i H x H' → gName j x (wipe σ vs) H' fun σ2 H2 => wipe σ2 vs = wipe σ vs ∧ tYes σ2 H2 fun b H3 =>
        if b = true then te σ2 H3 fun y H4 => ∃ acc, H4 D = some (.lst acc) ∧ acc.length < sizeLine ∧ Nx (upd H4 D (.lst (acc ++ [y]))) else Nx H3) := by
  refine lc_list (xs := xs.map V.str) (Qd := Qd) (fun i H2 => Gr H1 H2 ∧ ∃ ps, Told H1 H2 D ps ∧ ps.map (·.2) = (xs.take i).map F) ⟨Gr.new hD, [], Told.nil hD, rfl⟩ (fun i H2 _ h => h.1.seq hA) (fun i x H2 hx h => ?_) (fun H2 h => ?_)
  · obtain ⟨g2, ps, T, e⟩ := h
    obtain ⟨x0, hx0, rfl⟩ := get_map hx
    refine ⟨hw _, yesIf (he x0 (List.mem_of_getElem? hx0) H2 _ g2 fun H5 l g5 hl => ⟨_, ?_, ?_, (g2.trans g5).trans (Gr.new hl) |>.mut hD, ps ++ [(l, F x0)], (T.gr g5).snoc (g2.trans g5) hl, ?_⟩)⟩
    · rw [upd_ne (ne_of_none (g5.lst T.at_) hl)]
      exact g5.lst T.at_
    · rw [List.length_map]
      have h1 := congrArg List.length e
      rw [List.length_map, List.length_map, List.length_take] at h1
      omega
    · rw [List.map_append, e, take_map hx0]
      rfl
  · obtain ⟨g2, ps, T, e⟩ := h
    rw [List.length_map, List.take_length] at e
    exact q H2 ps g2 T e
/-- what grown finds for each set, unsorted -/
def found (S : List (List Str)) (r : List Str) : List (List Str) := S.flatMap fun s => if mt s r = true then [s] else r.map fun x => s ++ [x]
theorem found_snoc (A : List (List Str)) (s r : List Str) : found (A ++ [s]) r = found A r ++ (if mt s r = true then [s] else r.map fun x => s ++ [x]) := by
  unfold found
  rw [List.flatMap_append]
  simp
theorem found_once {S : List (List Str)} {r : List Str} (h : RisAll S) : (found S r).map once = cand S r := by
  unfold found cand
  rw [List.map_flatMap]
  refine congrArg List.flatten (List.map_congr_left fun s hs => ?_)
  split
  · rw [List.map_cons, List.map_nil, once_ris (h s hs)]
  · rw [List.map_map]
    rfl
theorem mt_once {s r : List Str} : mt s (once r) = mt s r := by
  rw [Bool.eq_iff_iff, mt_iff, mt_iff]
  exact ⟨fun ⟨y, h1, h2⟩ => ⟨y, h1, once_mem.mp h2⟩, fun ⟨y, h1, h2⟩ => ⟨y, h1, once_mem.mpr h2⟩⟩
theorem cand_once {S : List (List Str)} {r : List Str} (h : RisAll S) : least (cand S (once r)) = least (cand S r) := by
  have mem : ∀ z, z ∈ cand S (once r) ↔ z ∈ cand S r := by
    intro z
    rw [cand_mem, cand_mem]
    refine exists_congr fun s => and_congr_right fun _ => ?_
    rw [mt_once]
    refine or_congr_right (and_congr_right fun _ => exists_congr fun x => and_congr_left fun _ => once_mem)
  refine least_ext (cand_ris h) (cand_ris h) (fun a ha => ⟨a, (mem a).mp ha, wi_self a⟩) fun b hb => ⟨b, (mem b).mpr hb, wi_self b⟩
def spGrown (K : PySem.W.Frag) (N : TabN) : Sp := fun vs H Q _ => ∃ (a : Addr) (v : V) (ps : List (Addr × List Str)) (r : List Str), vs = [.ref a, v] ∧ LL H a ps ∧ (∀ q ∈ ps, Ris q.2 ∧ q.2.length ≤ 100) ∧ ps.length ≤ 5000 ∧ HOk H v r ∧ r.Nodup ∧ r.length ≤ 12 ∧ N.S H ∧
  ∀ p H' ks, Gr H H' → Told H H' p ks → ks.map (·.2) = least (cand (ps.map (·.2)) r) → Q (.ref p) H'
end K1
end
section
set_option maxHeartbeats 8000000
namespace K1
open PySem PySem.Spec PyProof.Rows L2 Gr GxR Srx Skx Dcx
theorem Told.snoc2 {H H2 H5 : Hp} {D l : Addr} {ps : List (Addr × List Str)} {x : List Str} (T : Told H H2 D ps) (g : Gr H H2) (g5 : Gr H2 H5) (hl : H2 l = none) (el : H5 l = some (.lst (x.map V.str))) : Told H (upd H5 D (.lst ((ps.map fun q => V.ref q.1) ++ [V.ref l]))) D (ps ++ [(l, x)]) := by
  have nD : l ≠ D := (ne_of_none T.at_ hl).symm
  refine ⟨T.new, by rw [upd_same, List.map_append]; rfl, fun q hq => ?_, ?_⟩
  · rcases List.mem_append.mp hq with hq | hq
    · obtain ⟨h1, h2, h3⟩ := T.own q hq
      exact ⟨h1, h2, by rw [upd_ne h2]; exact g5.lst h3⟩
    · rw [List.mem_singleton.mp hq]
      exact ⟨g.free hl, nD, by rw [upd_ne nD]; exact el⟩
  · rw [List.map_append]
    refine List.nodup_append.mpr ⟨T.nd, by simp, fun a ha b hb e => ?_⟩
    have hb : b = l := by simpa using hb
    obtain ⟨q, hq, rfl⟩ := List.mem_map.mp ha
    have h3 := (T.own q hq).2.2
    rw [e, hb, hl] at h3
    cases h3
/-- rows out of the names -/
theorem lc_rows {D : Addr} {j n : Nat} {σ : L2.St} {vs : List Nat} {te : TE} {H1 : Hp} {Qd : Hp → Prop} {N : List Str} (few : n ≤ 1000) (hD : H1 D = none) (hw : ∀ v, wipe ((wipe σ vs).set j (some v)) vs = wipe σ vs)
    (he : ∀ (k : Nat), k < n → ∀ (H4 : Hp) (Q' : VK), Gr H1 H4 → (∀ (l : Addr) (H5 : Hp) (ys : List Str), Gr H4 H5 → H4 l = none → H5 l = some (.lst (ys.map V.str)) → ys.Nodup → (∀ y ∈ ys, y ∈ N) → ys.length ≤ N.length → Q' (.ref l) H5) → te ((wipe σ vs).set j (some (.int ((0 : Int) + (k : Nat))))) H4 Q')
    (q : ∀ H2 ps, Gr H1 H2 → Told H1 H2 D ps → ps.length = n → (∀ q ∈ ps, q.2.Nodup ∧ (∀ y ∈ q.2, y ∈ N) ∧ q.2.length ≤ N.length) → Qd H2) :
    ∃ W : Nat → Nat → Hp → Prop, (∃ m, W 0 m (upd H1 D (.lst []))) ∧ ∀ i m H, W i m H →
      ((Itr 0 n).stop i H ∧ Qd H) ∨ ((Itr 0 n).go i H ∧ ∃ Nx : Hp → Prop, (∀ H', Nx H' → ∃ m', m' < m ∧ W (i + 1) m' H') ∧ ∀ x H', (Itr 0 n).yld i H x H' → gName j x (wipe σ vs) H' fun σ2 H2 => wipe σ2 vs = wipe σ vs ∧ tYes σ2 H2 fun b H3 =>
        if b = true then te σ2 H3 fun y H4 => ∃ acc, H4 D = some (.lst acc) ∧ acc.length < sizeLine ∧ Nx (upd H4 D (.lst (acc ++ [y]))) else Nx H3) := by
  refine lc_range (lo := 0) (n := n) (Qd := Qd) (fun i H2 => Gr H1 H2 ∧ ∃ ps, Told H1 H2 D ps ∧ ps.length = i ∧ ∀ q ∈ ps, q.2.Nodup ∧ (∀ y ∈ q.2, y ∈ N) ∧ q.2.length ≤ N.length) ⟨Gr.new hD, [], Told.nil hD, rfl, fun _ z => absurd z List.not_mem_nil⟩ (fun i H2 hi h => ?_) (fun H2 h => ?_)
  · obtain ⟨g2, ps, T, e, ok⟩ := h
    refine ⟨hw _, yesIf (he i hi H2 _ g2 fun l H5 ys g5 nl el nd mem ln => ⟨_, g5.lst T.at_, ?_, (g2.trans g5).mut hD, ps ++ [(l, ys)], T.snoc2 g2 g5 nl el, ?_, fun q hq => ?_⟩)⟩
    · rw [List.length_map, e]
      exact small1000 (by omega)
    · rw [List.length_append, e]
      rfl
    · rcases List.mem_append.mp hq with hq | hq
      · exact ok q hq
      · rw [List.mem_singleton.mp hq]
        exact ⟨nd, mem, ln⟩
  · obtain ⟨g2, ps, T, e, ok⟩ := h
    exact q H2 ps g2 T e ok
theorem Told.mask {H H' : Hp} {D p : Addr} {o : HO} {ps : List (Addr × List Str)} (T : Told H H' p ps) (e : H D = some o) : LL (mask D H') p ps :=
  ⟨by rw [mask_at (T.off e).1.symm]; exact T.at_, fun q hq => by rw [mask_at ((T.off e).2 q hq).symm]; exact (T.own q hq).2.2⟩
theorem LL.unmask {H : Hp} {D p : Addr} {ps : List (Addr × List Str)} (l : LL (mask D H) p ps) : LL H p ps := l.gr (gr_unmask D H)
theorem LL.off {H : Hp} {D p : Addr} {ps : List (Addr × List Str)} (l : LL (mask D H) p ps) : p ≠ D ∧ ∀ q ∈ ps, q.1 ≠ D := ⟨(mask_some l.at_).1, fun q hq => (mask_some (l.own q hq)).1⟩
/-- new lists stand in the masked heap, too -/
theorem LL.mask {H' : Hp} {D p : Addr} {ps : List (Addr × List Str)} (l : LL H' p ps) (np : p ≠ D) (nq : ∀ q ∈ ps, q.1 ≠ D) : LL (mask D H') p ps :=
  ⟨by rw [mask_at np]; exact l.at_, fun q hq => by rw [mask_at (nq q hq)]; exact l.own q hq⟩
theorem atI_end {α : Type} {xs : List α} {v : α} (h : xs.getLast? = some v) : atI xs (-1) = some v := by
  obtain ⟨ys, rfl⟩ := List.getLast?_eq_some_iff.mp h
  exact atI_last ys v
theorem LL.out {H : Hp} {p : Addr} {ps : List (Addr × List Str)} (l : LL H p ps) : p ∉ ps.map (·.1) := by
  intro z
  obtain ⟨q, hq, z⟩ := List.mem_map.mp z
  have h1 := l.own q hq
  rw [z, l.at_] at h1
  have h2 : (ps.map fun q => V.ref q.1) = q.2.map V.str := by injection (Option.some.inj h1)
  cases ps with
  | nil => cases hq
  | cons x r =>
    cases h3 : q.2 with
    | nil => rw [h3] at h2; cases h2
    | cons y s =>
      rw [h3] at h2
      injection h2 with h2
      cases h2
theorem least_len (l : List (List Str)) : (least l).length ≤ l.length := by
  rw [least_eq]
  refine Nat.le_trans (keep_sub _ []).length_le ?_
  rw [List.nil_append, (rkd_perm _).length_eq]
  exact Nat.le_refl _
theorem grown_len {N : List Str} (hN : Ris N) {rows : List (List Str)} (h : ∀ r ∈ rows, ∀ y ∈ r, y ∈ N) : (grown rows).length ≤ 2 ^ N.length := by
  rw [grown_eq hN rows h]
  refine Nat.le_trans (least_len _) ?_
  unfold tr
  refine Nat.le_trans (List.length_filter_le _ _) ?_
  rw [box_len]
  exact Nat.le_refl _
theorem ris_srt {xs : List Str} (h : xs.Nodup) : Ris (srt xs) := ris_of (srt_sorted xs) ((srt_perm xs).nodup_iff.mpr h)
theorem grown_in {N : List Str} (hN : Ris N) {rows : List (List Str)} (h : ∀ r ∈ rows, ∀ y ∈ r, y ∈ N) {s : List Str} (hs : s ∈ grown rows) : Ris s ∧ (∀ y ∈ s, y ∈ N) ∧ s.length ≤ N.length := by
  rw [grown_eq hN rows h] at hs
  have m := least_sub (tr_ris hN) hs
  obtain ⟨⟨h1, h2⟩, _⟩ := (tr_mem hN).mp m
  exact ⟨h1, h2, (sublist_of hN h1 h2).length_le⟩
theorem grown_snoc (rows : List (List Str)) (r : List Str) : grown (rows ++ [r]) = least (cand (grown rows) r) := by
  unfold grown
  rw [List.foldl_append]
  rfl
end K1
end
section
set_option maxHeartbeats 8000000
/-! what a book's methods promise -/
namespace K1
open PySem PySem.Spec PyProof.Rows L2 Gr GxR Srx Skx Dcx
structure BkC (K : PySem.W.Frag) (mg : Str → Option Value) (C : Addr) : Prop where
  cl : Cls K C
  nR : NoAttr K C "_rows"
  nN : NoAttr K C "_next_number"
  mgC : mg "Book" = some (.ref C)
/-! ### rows and names -/
theorem flatten_len : ∀ {rows : List (List Str)} {m : Nat}, (∀ r ∈ rows, r.length ≤ m) → rows.flatten.length ≤ rows.length * m
  | [], _, _ => Nat.zero_le _
  | r :: rows, m, h => by
    have h1 := flatten_len (rows := rows) (m := m) fun x hx => h x (List.mem_cons_of_mem _ hx)
    have h2 := h r List.mem_cons_self
    rw [List.flatten_cons, List.length_append, List.length_cons, Nat.succ_mul]
    omega
theorem allN_iff {rows : List (List Str)} {y : Str} : y ∈ allN rows ↔ ∃ r ∈ rows, y ∈ r := by
  unfold allN
  rw [once_mem, List.mem_flatten]
theorem ris_allN (rows : List (List Str)) : Ris (allN rows) := ris_once _
theorem row_in {rows : List (List Str)} {r : List Str} (hr : r ∈ rows) : ∀ y ∈ r, y ∈ allN rows := fun y hy => allN_iff.mpr ⟨r, hr, hy⟩
theorem rws_mem {tb : Tb1} {e : Int × Addr × List Str} (h : e ∈ tb) : e.2.2 ∈ rws tb := List.mem_map.mpr ⟨e, h, rfl⟩
theorem Tok.rlen {tb : Tb1} {n : Int} (T : Tok tb n) {r : List Str} (h : r ∈ rws tb) : Ris r ∧ Nms r ∧ r.length ≤ 12 := by
  obtain ⟨e, he, rfl⟩ := List.mem_map.mp h
  obtain ⟨h1, h2⟩ := T.set e he
  exact ⟨h1, h2, Nat.le_trans (sublist_of (ris_allN _) h1 (row_in h)).length_le T.nms⟩
theorem Tok.flat {tb : Tb1} {n : Int} (T : Tok tb n) : (rws tb).flatten.length ≤ 360 := by
  refine Nat.le_trans (flatten_len fun r h => (T.rlen h).2.2) ?_
  have h1 := T.few
  unfold rws
  rw [List.length_map]
  omega
theorem Tok.nmsN {tb : Tb1} {n : Int} (T : Tok tb n) : Nms (allN (rws tb)) := by
  intro y hy
  obtain ⟨r, hr, hy⟩ := allN_iff.mp hy
  exact (T.rlen hr).2.1 y hy
/-- what least tells of such a book -/
theorem Tok.grown {tb : Tb1} {n : Int} (T : Tok tb n) : (grown (rws tb)).length ≤ 4096 ∧ ∀ s ∈ grown (rws tb), Ris s ∧ Nms s ∧ s.length ≤ 12 := by
  have hN := ris_allN (rws tb)
  have hr : ∀ r ∈ rws tb, ∀ y ∈ r, y ∈ allN (rws tb) := fun r h => row_in h
  refine ⟨Nat.le_trans (grown_len hN hr) (Nat.pow_le_pow_right (by decide) T.nms : 2 ^ _ ≤ 2 ^ 12), fun s hs => ?_⟩
  obtain ⟨h1, h2, h3⟩ := grown_in hN hr hs
  exact ⟨h1, fun y hy => T.nmsN y (h2 y hy), Nat.le_trans h3 T.nms⟩
theorem rws_snoc (tb : Tb1) (e : Int × Addr × List Str) : rws (tb ++ [e]) = rws tb ++ [e.2.2] := by
  unfold rws
  rw [List.map_append]
  rfl
theorem once_congr {xs ys : List Str} (h : ∀ y, y ∈ xs ↔ y ∈ ys) : once xs = once ys := by
  have n1 := (ris_once xs).nodup
  have n2 := (ris_once ys).nodup
  refine sorted_one ((List.perm_ext_iff_of_nodup n1 n2).mpr fun y => ?_) (ris_once xs).sorted (ris_once ys).sorted
  rw [once_mem, once_mem]
  exact h y
theorem allN_once (rows : List (List Str)) (xs : List Str) : allN (rows ++ [once xs]) = allN (rows ++ [xs]) := by
  unfold allN
  refine once_congr fun y => ?_
  rw [List.flatten_append, List.flatten_append, List.mem_append, List.mem_append, List.mem_flatten (L := [once xs]), List.mem_flatten (L := [xs])]
  simp [once_mem]
theorem Tok.put {tb : Tb1} {n : Int} (T : Tok tb n) {xs : List Str} (nm : Nms xs) (few : tb.length < 30) (wide : (allN (rws tb ++ [xs])).length ≤ 12) (p : Addr) : Tok (tb ++ [(n, p, once xs)]) (n + 1) := by
  refine ⟨?_, fun e he => ?_, fun e he => ?_, ?_, ?_, ?_⟩
  · unfold nums
    rw [List.map_append]
    refine List.pairwise_append.mpr ⟨T.num, List.pairwise_singleton _ _, fun a ha b hb => ?_⟩
    obtain ⟨e, he, rfl⟩ := List.mem_map.mp ha
    rw [show b = n by simpa using hb]
    exact (T.bnd e he).2
  · rcases List.mem_append.mp he with he | he
    · have := T.bnd e he
      exact ⟨this.1, by omega⟩
    · rw [List.mem_singleton.mp he]
      exact ⟨T.n0, by show n < n + 1; omega⟩
  · rcases List.mem_append.mp he with he | he
    · exact T.set e he
    · rw [List.mem_singleton.mp he]
      exact ⟨ris_once xs, once_nms nm⟩
  · rw [List.length_append, List.length_singleton]
    omega
  · rw [rws_snoc, allN_once]
    exact wide
  · have := T.n0
    omega
theorem Tok.take {tb : Tb1} {n : Int} (T : Tok tb n) (k : Int) : Tok (tb.filter fun e => decide (e.1 ≠ k)) n := by
  have sub : List.Sublist (tb.filter fun e => decide (e.1 ≠ k)) tb := List.filter_sublist
  refine ⟨T.num.sublist (sub.map _), fun e he => T.bnd e (sub.subset he), fun e he => T.set e (sub.subset he), Nat.le_trans sub.length_le T.few, ?_, T.n0⟩
  refine Nat.le_trans (sublist_of (ris_allN _) (ris_allN _) fun y hy => ?_).length_le T.nms
  obtain ⟨r, hr, hy⟩ := allN_iff.mp hy
  exact allN_iff.mpr ⟨r, (sub.map _).subset hr, hy⟩
/-! ### a new book -/
def spInit (C : Addr) : Sp := fun vs H Q _ => ∃ (b dx : Addr), vs = [.ref b] ∧ H b = some (.ins C dx []) ∧ ∀ d H', H d = none → GrX (fun a => a = b) H H' → Bk C H' b d [] 0 → Q .non H'
def tNew (C : Addr) : TE := fun _ H Q => ∀ b d H', Gr H H' → H b = none → H d = none → Bk C H' b d [] 0 → Q (.ref b) H'
structure MkB (P : Program) (w : World) (K : PySem.W.Frag) (mg : Str → Option Value) (base : Heap) (C : Addr) : Prop where
  ex : ∃ (f : Addr) (fd : FuncData) (ps : List Str), FnOk P w K mg base CX0 1 f fd ps (spInit C) ∧ Mk K C f ∧ Binds K fd ps []
theorem pe_new {X : Cx} {C : Addr} {j : Nat} {p pos : Pos} (c : MkB X.prog X.w X.K X.mg X.base C) (BC : BkC X.K X.mg C) (hr : Room j X.A) (hk : 2 ≤ j) (hg : Gl X "Book") : PE X (.Call (.Name "Book" p) [] [] pos) (tNew C) := by
  obtain ⟨f, fd, ps, F, M, b⟩ := c.ex
  refine ⟨fun pins s σ H Q I h => (pe_make0 M F (hr.mono hk) hg BC.mgC b .nil pass0).run pins s σ H Q I ?_⟩
  intro x dx nx ndx ne
  have hdx : (upd H dx (.own x)) x = none := by rw [upd_ne ne.symm]; exact nx
  have g2 : Gr H (upd (upd H dx (.own x)) x (.ins C dx [])) := (Gr.new ndx).trans (Gr.new hdx)
  refine ⟨x, dx, rfl, upd_same, fun d H' nd g B => ⟨rfl, h x d H' (GrX.young g2 g fun b hb => by rw [hb]; exact nx) nx (g2.free nd) B⟩⟩
/-! ### the promises -/
def spBSets (C : Addr) : Sp := fun vs H Q _ => ∃ b d tb n, vs = [.ref b] ∧ Bk C H b d tb n ∧ ∀ p, H p = none → Q (.ref p) (upd H p (.lst (tb.map fun e => V.ref e.2.1)))
def spBNames (C : Addr) : Sp := fun vs H Q _ => ∃ b d tb n, vs = [.ref b] ∧ Bk C H b d tb n ∧ Tok tb n ∧ ∀ p H', Gr H H' → H p = none → H' p = some (.lst ((allN (rws tb)).map V.str)) → Q (.ref p) H'
def spPut (K : PySem.W.Frag) (C : Addr) (N : TabN) (R : ErN) : Sp := fun vs H Q E => ∃ b d tb n v, vs = [.ref b, v] ∧ Bk C H b d tb n ∧ Tok tb n ∧ N.G H ∧
  ((∃ xs, HOk H v xs ∧ xs.length ≤ 100 ∧ xs.Nodup ∧ tb.length < 30 ∧ (allN (rws tb ++ [xs])).length ≤ 12 ∧ ∀ p H', GrX (fun a => a = b ∨ a = d) H H' → H p = none → Bk C H' b d (tb ++ [(n, p, once xs)]) (n + 1) → Q (.int n) H') ∨
   (∃ xs, HOk H v xs ∧ xs.length ≤ 100 ∧ xs.Nodup ∧ (30 ≤ tb.length ∨ 12 < (allN (rws tb ++ [xs])).length) ∧ ∀ H', Gr H H' → E (.ref R.many) none H') ∨
   (∃ xs, HOk H v xs ∧ ¬ xs.Nodup ∧ ∀ H', Gr H H' → E (.ref R.row) none H') ∨ (HBadN K H v ∧ ∀ H', Gr H H' → E (.ref R.name) none H') ∨ (HBadR K H v ∧ ∀ H', Gr H H' → E (.ref R.row) none H'))
/-- what is no number of a row that is there -/
def BadNo (K : PySem.W.Frag) (H : Hp) (v : V) (tb : Tb1) : Prop := (∃ k : Int, v = .int k ∧ k ∉ nums tb) ∨ (∃ t : String, TyX K H v (.type t) ∧ (kitB t "int" = some false ∨ (kitB t "int" = some true ∧ kitB t "bool" = some true)))
def spTake (K : PySem.W.Frag) (C : Addr) (R : ErN) : Sp := fun vs H Q E => ∃ b d tb n v, vs = [.ref b, v] ∧ Bk C H b d tb n ∧ Tok tb n ∧
  ((∃ k : Int, v = .int k ∧ k ∈ nums tb ∧ ∀ H', GrX (fun a => a = d) H H' → Bk C H' b d (tb.filter fun e => decide (e.1 ≠ k)) n → Q .non H') ∨ (BadNo K H v tb ∧ ∀ H', Gr H H' → E (.ref R.no) none H'))
/-- a told pair: its tuple, its number, its list, the row -/
structure Pr1 where
  t : Addr
  k : Int
  l : Addr
  r : List Str
structure ToldP (H H' : Hp) (p : Addr) (rs : List Pr1) : Prop where
  new : H p = none
  at_ : H' p = some (.lst (rs.map fun r => V.ref r.t))
  own : ∀ r ∈ rs, H r.t = none ∧ H r.l = none ∧ r.t ≠ p ∧ r.l ≠ p ∧ H' r.t = some (.tup [.int r.k, .ref r.l]) ∧ H' r.l = some (.lst (r.r.map V.str))
def nr (tb : Tb1) : List (Int × List Str) := tb.map fun e => (e.1, e.2.2)
def spBRows (C : Addr) : Sp := fun vs H Q _ => ∃ b d tb n, vs = [.ref b] ∧ Bk C H b d tb n ∧ Tok tb n ∧ ∀ p H' rs, Gr H H' → ToldP H H' p rs → rs.map (fun r => (r.k, r.r)) = nr tb → Q (.ref p) H'
def spBLeastRows (C : Addr) (N : TabN) : Sp := fun vs H Q _ => ∃ b d tb n, vs = [.ref b] ∧ Bk C H b d tb n ∧ Tok tb n ∧ N.G H ∧ ∀ p H' ks, Gr H H' → Told H H' p ks → ks.map (·.2) = least (rws tb) → Q (.ref p) H'
def spBLeast (C : Addr) (N : TabN) : Sp := fun vs H Q _ => ∃ b d tb n, vs = [.ref b] ∧ Bk C H b d tb n ∧ Tok tb n ∧ N.G H ∧ ∀ p H' ks, Gr H H' → Told H H' p ks → ks.map (·.2) = grown (rws tb) → Q (.ref p) H'
def fewV (rows : List (List Str)) : V := match grown rows with
  | [] => .non
  | s :: _ => .int (s.length : Nat)
def spBFewest (C : Addr) (N : TabN) : Sp := fun vs H Q _ => ∃ b d tb n, vs = [.ref b] ∧ Bk C H b d tb n ∧ Tok tb n ∧ N.G H ∧ ∀ H', Gr H H' → Q (fewV (rws tb)) H'
def spBMetBy (K : PySem.W.Frag) (C : Addr) (N : TabN) : Sp := fun vs H Q _ => ∃ (b d : Addr) (tb : Tb1) (n : Int) (a : Addr) (xs : List Str), vs = [.ref b, .ref a] ∧ Bk C H b d tb n ∧ Tok tb n ∧ N.G H ∧ H a = some (.lst (xs.map V.str)) ∧ ∀ H', Gr H H' → Q (.bl (mtAll xs (rws tb))) H'
def spBMeets (K : PySem.W.Frag) (C : Addr) (N : TabN) (R : ErN) : Sp := fun vs H Q E => ∃ b d tb n v, vs = [.ref b, v] ∧ Bk C H b d tb n ∧ Tok tb n ∧ N.G H ∧
  ((∃ xs, HOk H v xs ∧ ∀ H', Gr H H' → Q (.bl (mtAll xs (rws tb))) H') ∨ (HBadN K H v ∧ ∀ H', Gr H H' → E (.ref R.name) none H') ∨ (HBadR K H v ∧ ∀ H', Gr H H' → E (.ref R.row) none H'))
def spBMeeting (K : PySem.W.Frag) (C : Addr) (N : TabN) (R : ErN) : Sp := fun vs H Q E => ∃ b d tb n v, vs = [.ref b, v] ∧ Bk C H b d tb n ∧ Tok tb n ∧ N.G H ∧
  ((∃ xs, HOk H v xs ∧ mtAll xs (rws tb) = true ∧ ∀ p H', Gr H H' → H p = none → H' p = some (.lst ((once xs).map V.str)) → Q (.ref p) H') ∨ (∃ xs, HOk H v xs ∧ mtAll xs (rws tb) = false ∧ ∀ H', Gr H H' → E (.ref R.meet) none H') ∨
   (HBadN K H v ∧ ∀ H', Gr H H' → E (.ref R.name) none H') ∨ (HBadR K H v ∧ ∀ H', Gr H H' → E (.ref R.row) none H'))
/-! ### small readings -/
theorem gr_lock {H H' : Hp} {d : Addr} {u : HO} {od : Obj} (e : H d = some u) (nt : NoTbl u) (g : Gr (upd H d (.frz od u)) H') : Gr H (upd H' d u) :=
  ⟨fun b o eb n => by
    by_cases h : b = d
    · subst h
      rw [upd_same, ← eb, e]
    · rw [upd_ne h]
      exact g.at_ b o (by rw [upd_ne h]; exact eb) n, fun b ps eb => by
    by_cases h : b = d
    · subst h
      rw [e] at eb
      exact absurd (Option.some.inj eb) (nt ps)
    · obtain ⟨p1, e1, k1⟩ := g.tab b ps (by rw [upd_ne h]; exact eb)
      exact ⟨p1, by rw [upd_ne h]; exact e1, k1⟩⟩
theorem kvB_in (tb : Tb1) (k : Int) : (valV (kvB tb) (Sum.inl k : Key)).isSome = decide (k ∈ nums tb) := by
  rw [← valV_any, Bool.eq_iff_iff, List.any_eq_true, decide_eq_true_eq]
  unfold kvB nums
  constructor
  · rintro ⟨kv, h, e⟩
    obtain ⟨x, hx, rfl⟩ := List.mem_map.mp h
    have e := of_decide_eq_true e
    injection e with e
    exact List.mem_map.mpr ⟨x, hx, e⟩
  · intro h
    obtain ⟨x, hx, rfl⟩ := List.mem_map.mp h
    exact ⟨_, List.mem_map.mpr ⟨x, hx, rfl⟩, decide_eq_true rfl⟩
theorem kvB_put {tb : Tb1} {k : Int} (h : k ∉ nums tb) (p : Addr) (r : List Str) : putK (kvB tb) (Sum.inl k : Key) (V.ref p) = kvB (tb ++ [(k, p, r)]) := by
  rw [putK_new]
  · unfold kvB
    rw [List.map_append]
    rfl
  · have h1 := kvB_in tb k
    rw [decide_eq_false h] at h1
    cases e : valV (kvB tb) (Sum.inl k : Key) with
    | none => rfl
    | some v => rw [e] at h1; cases h1
theorem kvB_drop (tb : Tb1) (k : Int) : dropK (kvB tb) (Sum.inl k : Key) = kvB (tb.filter fun e => decide (e.1 ≠ k)) := by
  unfold dropK kvB
  rw [List.filter_map]
  refine congrArg _ (List.filter_congr fun e _ => ?_)
  show decide ((Sum.inl e.1 : Key) ≠ Sum.inl k) = decide (e.1 ≠ k)
  rw [decide_eq_decide]
  exact not_congr ⟨fun z => by injection z, fun z => by rw [z]⟩
theorem Tok.fresh {tb : Tb1} {n : Int} (T : Tok tb n) : n ∉ nums tb := by
  intro h
  obtain ⟨e, he, z⟩ := List.mem_map.mp h
  have := (T.bnd e he).2
  omega
theorem kvB_len (tb : Tb1) : (kvB tb).length = tb.length := List.length_map _
end K1
namespace K1
open PySem PySem.Spec PyProof.Rows L2 Gr GxR Srx Skx Dcx
abbrev FnM (K : PySem.W.Frag) (x q : Str) (st : Stmt) (f : Addr) (fd : FuncData) : Prop := FunD K x q (defArgs st) (defBody st) (defScope st) [] [] f fd
/-- {name for row in xs for name in row} -/
theorem sc2_rows {w : World} {K : PySem.W.Frag} {a D : Addr} {ps : List (Addr × List Str)} {σ : L2.St} {H1 : Hp} {Qd : Hp → Prop} {i j : Nat}
    (hA : SqL K H1 a (ps.map fun q => V.ref q.1)) (hq : ∀ q ∈ ps, SqL K H1 q.1 (q.2.map V.str)) (hD : H1 D = none) (few : (ps.map (·.2)).flatten.length ≤ 1000) (qd : Qd (upd H1 D (SetTx w D (Sx.dd (ps.map (·.2)).flatten))))
    (hw1 : ∀ v, wipe ((wipe σ [i, j]).set i (some v)) [i, j] = wipe σ [i, j]) (hw2 : ∀ v u, wipe ((wipe ((wipe σ [i, j]).set i (some v)) [j]).set j (some u)) [j] = wipe ((wipe σ [i, j]).set i (some v)) [j])
    (hg1 : ∀ v : V, ((wipe σ [i, j]).set i (some v))[i]? = some (some v)) (hg2 : ∀ v u : V, ((wipe ((wipe σ [i, j]).set i (some v)) [j]).set j (some u))[j]? = some (some u)) :
    ∃ W : Nat → Nat → Hp → Prop, (∃ m, W 0 m (upd H1 D (SetTx w D []))) ∧ ∀ k m H, W k m H →
      ((Itl K a).stop k H ∧ Qd H) ∨ ((Itl K a).go k H ∧ ∃ Nx : Hp → Prop, (∀ H', Nx H' → ∃ m', m' < m ∧ W (k + 1) m' H') ∧ ∀ x H', (Itl K a).yld k H x H' → gName i x (wipe σ [i, j]) H' fun σ2 H2 => wipe σ2 [i, j] = wipe σ [i, j] ∧ tYes σ2 H2 fun b H3 =>
        if b = true then iList K (tVar i) σ2 H3 fun J1 H4 => ∃ W1 : Nat → Nat → Hp → Prop, (∃ m, W1 0 m H4) ∧ ∀ l k H, W1 l k H →
          (J1.stop l H ∧ Nx H) ∨ (J1.go l H ∧ ∃ Nx1 : Hp → Prop, (∀ H', Nx1 H' → ∃ k', k' < k ∧ W1 (l + 1) k' H') ∧ ∀ x H', J1.yld l H x H' → gName j x (wipe σ2 [j]) H' fun σ3 H5 => wipe σ3 [j] = wipe σ2 [j] ∧ tYes σ3 H5 fun b H6 =>
            if b = true then tVar j σ3 H6 fun y H7 => ∃ x ks, y = .str x ∧ H7 D = some (SetTx w D ks) ∧ ks.length + 1 < scanBound ∧ Nx1 (upd H7 D (SetTx w D (Sx.once ks x))) else Nx1 H6)
        else Nx H3) := by
  have look : ∀ (b : Addr) (xs : List V) (ks : List Str), SqL K H1 b xs → SqL K (upd H1 D (SetTx w D ks)) b xs := fun b xs ks h => (Gr.new hD).seq h
  have room : ∀ zs : List Str, zs.length ≤ 1000 → (Sx.dd zs).length + 1 < scanBound := fun zs h => by
    have := Sx.dd_len zs
    unfold scanBound
    omega
  refine ⟨fun k m H => m = ps.length - k ∧ k ≤ ps.length ∧ H = upd H1 D (SetTx w D (Sx.dd ((ps.take k).map (·.2)).flatten)), ⟨ps.length, by simp, Nat.zero_le _, rfl⟩, ?_⟩
  rintro k m H ⟨rfl, hk, rfl⟩
  have q := look a _ (Sx.dd ((ps.take k).map (·.2)).flatten) hA
  by_cases lt : k < ps.length
  · refine .inr ⟨⟨_, V.ref ps[k].1, q, by simp [lt]⟩, fun H6 => H6 = upd H1 D (SetTx w D (Sx.dd ((ps.take (k + 1)).map (·.2)).flatten)), fun H6 e6 => ⟨ps.length - (k + 1), by omega, rfl, lt, e6⟩, fun x H6 y => ?_⟩
    obtain ⟨e, y⟩ := y
    subst e
    have hx := y _ q
    obtain ⟨q0, hq0, rfl⟩ := get_map hx
    have mq := List.mem_of_getElem? hq0
    refine ⟨hw1 _, yesIf ?_⟩
    have etk : ((ps.take (k + 1)).map (·.2)).flatten = ((ps.take k).map (·.2)).flatten ++ q0.2 := by
      rw [take_map hq0, List.flatten_append]
      simp
    have small : ((ps.take k).map (·.2)).flatten.length + q0.2.length ≤ 1000 := by
      rw [← List.length_append, ← etk]
      have e9 : (ps.map (·.2)).flatten = ((ps.take (k + 1)).map (·.2)).flatten ++ ((ps.drop (k + 1)).map (·.2)).flatten := by
        rw [← List.flatten_append, ← List.map_append, List.take_append_drop]
      rw [e9, List.length_append] at few
      omega
    refine ⟨_, hg1 _, q0.1, rfl, ⟨_, look q0.1 _ _ (hq q0 mq)⟩, fun l k' H => k' = q0.2.length - l ∧ l ≤ q0.2.length ∧ H = upd H1 D (SetTx w D (Sx.dd (((ps.take k).map (·.2)).flatten ++ q0.2.take l))), ⟨q0.2.length, by simp, Nat.zero_le _, by rw [List.take_zero, List.append_nil]⟩, ?_⟩
    rintro l k' H ⟨rfl, hl, rfl⟩
    have q2 := look q0.1 _ (Sx.dd (((ps.take k).map (·.2)).flatten ++ q0.2.take l)) (hq q0 mq)
    by_cases lt2 : l < q0.2.length
    · refine .inr ⟨⟨_, V.str q0.2[l], q2, by simp [lt2]⟩, fun H6 => H6 = upd H1 D (SetTx w D (Sx.dd (((ps.take k).map (·.2)).flatten ++ q0.2.take (l + 1)))), fun H6 e6 => ⟨q0.2.length - (l + 1), by omega, rfl, lt2, e6⟩, fun x H6 y => ?_⟩
      obtain ⟨e, y⟩ := y
      subst e
      have hx := y _ q2
      obtain ⟨x0, hx0, rfl⟩ := get_map hx
      refine ⟨hw2 _ _, yesIf ⟨_, hg2 _ _, x0, _, rfl, upd_same, ?_, ?_⟩⟩
      · refine room _ ?_
        rw [List.length_append, List.length_take]
        omega
      · rw [upd_upd, List.take_add_one, hx0, ← List.append_assoc]
        congr 2
        unfold Sx.dd
        show Sx.once _ x0 = List.foldl Sx.once [] (_ ++ [x0])
        exact (List.foldl_append (f := Sx.once) (b := []) (l := _) (l' := [x0])).symm
    · have e : l = q0.2.length := by omega
      subst e
      refine .inl ⟨⟨_, q2, by rw [List.length_map]; exact Nat.le_refl _⟩, ?_⟩
      rw [List.take_length, etk]
  · have e : k = ps.length := by omega
    subst e
    refine .inl ⟨⟨_, q, by rw [List.length_map]; exact Nat.le_refl _⟩, ?_⟩
    rw [List.take_length]
    exact qd
end K1
namespace K1
open PySem PySem.Spec PyProof.Rows L2 Gr GxR Srx Skx Dcx
theorem once_two (rows : List (List Str)) (xs : List Str) : once (allN rows ++ once xs) = allN (rows ++ [xs]) := by
  unfold allN
  refine once_congr fun y => ?_
  rw [List.mem_append, once_mem, once_mem, List.flatten_append, List.mem_append, List.mem_flatten (L := [xs])]
  simp
end K1
namespace K1
open PySem PySem.Spec PyProof.Rows L2 Gr GxR Srx Skx Dcx
theorem once_all {rows : List (List Str)} (h : ∀ r ∈ rows, Ris r) : rows.map once = rows := by
  conv => rhs; rw [← List.map_id rows]
  exact List.map_congr_left fun r hr => once_ris (h r hr)
theorem Told.one {H : Hp} {e A : Addr} (ne : H e = none) (nA : (upd H e (.lst [])) A = none) : Told H (upd (upd H e (.lst [])) A (.lst [V.ref e])) A [(e, [])] := by
  have eA : e ≠ A := ne_of_none (show (upd H e (.lst [])) e = some _ from upd_same) nA
  refine ⟨(Gr.new ne).free nA, upd_same, fun q hq => ?_, by simp⟩
  rw [List.mem_singleton.mp hq]
  exact ⟨ne, eA, by rw [upd_ne eA, upd_same]; rfl⟩
end K1
namespace K1
open PySem PySem.Spec PyProof.Rows L2 Gr GxR Srx Skx Dcx
theorem mtAll_once_l (xs : List Str) (rows : List (List Str)) : mtAll (once xs) rows = mtAll xs rows := by
  rw [Bool.eq_iff_iff, mtAll_iff, mtAll_iff]
  exact forall_congr' fun r => imp_congr_right fun _ => exists_congr fun y => and_congr_left fun _ => once_mem
end K1
namespace K1
open PySem PySem.Spec PyProof.Rows L2 Gr GxR Srx Skx Dcx
/-- rows numbered from 0 on -/
def numd (rows : List (List Str)) : List (Int × List Str) := rows.mapIdx fun i r => ((i : Int), r)
theorem numd_snoc (rows : List (List Str)) (r : List Str) : numd (rows ++ [r]) = numd rows ++ [((rows.length : Int), r)] := by
  unfold numd
  rw [List.mapIdx_concat]
theorem numd_rows (rows : List (List Str)) : (numd rows).map (·.2) = rows := by
  induction rows using snoc_ind with
  | h0 => rfl
  | h1 xs x ih => rw [numd_snoc, List.map_append, ih]; rfl
theorem rws_nr (tb : Tb1) : rws tb = (nr tb).map (·.2) := by
  unfold rws nr
  rw [List.map_map]
  rfl
theorem nr_snoc (tb : Tb1) (e : Int × Addr × List Str) : nr (tb ++ [e]) = nr tb ++ [(e.1, e.2.2)] := by
  unfold nr
  rw [List.map_append]
  rfl
theorem rws_numd {tb : Tb1} {rows : List (List Str)} (h : nr tb = numd rows) : rws tb = rows := by rw [rws_nr, h, numd_rows]
theorem allN_map_once (rows : List (List Str)) : allN (rows.map once) = allN rows := by
  unfold allN
  refine once_congr fun y => ?_
  rw [List.mem_flatten, List.mem_flatten]
  constructor
  · rintro ⟨r, hr, hy⟩
    obtain ⟨x, hx, rfl⟩ := List.mem_map.mp hr
    exact ⟨x, hx, once_mem.mp hy⟩
  · rintro ⟨r, hr, hy⟩
    exact ⟨once r, List.mem_map.mpr ⟨r, hr, rfl⟩, once_mem.mpr hy⟩
theorem allN_mono {A B : List (List Str)} (h : ∀ r ∈ A, r ∈ B) : (allN A).length ≤ (allN B).length :=
  (sublist_of (ris_allN B) (ris_allN A) fun y hy => by
    obtain ⟨r, hr, hy⟩ := allN_iff.mp hy
    exact allN_iff.mpr ⟨r, h r hr, hy⟩).length_le
/-- a list of lists, read -/
structure LQ (K : PySem.W.Frag) (H : Hp) (a : Addr) (ps : List (Addr × List Str)) : Prop where
  at_ : SqL K H a (ps.map fun q => V.ref q.1)
  own : ∀ q ∈ ps, SqL K H q.1 (q.2.map V.str)
theorem LQ.gr {K : PySem.W.Frag} {H H' : Hp} {a : Addr} {ps : List (Addr × List Str)} (h : LQ K H a ps) (g : Gr H H') : LQ K H' a ps := ⟨g.seq h.at_, fun q hq => g.seq (h.own q hq)⟩
theorem LL.lq {K : PySem.W.Frag} {H : Hp} {a : Addr} {ps : List (Addr × List Str)} (h : LL H a ps) : LQ K H a ps := ⟨.inl (.inl h.at_), fun q hq => .inl (.inl (h.own q hq))⟩
/-- rows that a book may take all together -/
structure RowsOk (rows : List (List Str)) : Prop where
  row : ∀ r ∈ rows, Nms r ∧ r.Nodup ∧ r.length ≤ 100
  few : rows.length ≤ 30
  wide : (allN rows).length ≤ 12
/-- a book of the rows -/
structure NewB (C : Addr) (H H' : Hp) (b d : Addr) (tb : Tb1) (rows : List (List Str)) : Prop where
  nb : H b = none
  ndd : H d = none
  bk : Bk C H' b d tb rows.length
  ok : Tok tb rows.length
  rows : nr tb = numd (rows.map once)
  fresh : ∀ e ∈ tb, H e.2.1 = none
theorem NewB.gr {C b d : Addr} {H H1 H2 : Hp} {tb : Tb1} {rows : List (List Str)} (h : NewB C H H1 b d tb rows) (g : Gr H1 H2) : NewB C H H2 b d tb rows := ⟨h.nb, h.ndd, h.bk.gr g, h.ok, h.rows, h.fresh⟩
theorem NewB.from {C b d : Addr} {H0 H H2 : Hp} {tb : Tb1} {rows : List (List Str)} (h : NewB C H H2 b d tb rows) (g : Gr H0 H) : NewB C H0 H2 b d tb rows := ⟨g.free h.nb, g.free h.ndd, h.bk, h.ok, h.rows, fun e he => g.free (h.fresh e he)⟩
theorem NewB.rws {C b d : Addr} {H H1 : Hp} {tb : Tb1} {rows : List (List Str)} (h : NewB C H H1 b d tb rows) : rws tb = rows.map once := rws_numd h.rows
theorem NewB.least {C b d : Addr} {H H1 : Hp} {tb : Tb1} {rows : List (List Str)} (h : NewB C H H1 b d tb rows) : grown (K1.rws tb) = grown rows := by
  rw [h.rws]
  exact grown_congr fun x => mtAll_once x rows
def spLBook (K : PySem.W.Frag) (C : Addr) (N : TabN) : Sp := fun vs H Q _ => ∃ (a : Addr) (ps : List (Addr × List Str)), vs = [.ref a] ∧ LQ K H a ps ∧ RowsOk (ps.map (·.2)) ∧ N.G H ∧
  ∀ b d H' tb, Gr H H' → NewB C H H' b d tb (ps.map (·.2)) → Q (.ref b) H'
end K1
namespace K1
open PySem PySem.Spec PyProof.Rows L2 Gr GxR Srx Skx Dcx
theorem rows_in (nm : List Str) {rps : List (Addr × List Str)} (rok : ∀ q ∈ rps, q.2.Nodup ∧ (∀ y ∈ q.2, y ∈ nm) ∧ q.2.length ≤ nm.length) : ∀ r ∈ rps.map (·.2), ∀ y ∈ r, y ∈ srt nm := by
  intro r hr y hy
  obtain ⟨q0, hq0, rfl⟩ := List.mem_map.mp hr
  exact srt_mem.mpr ((rok q0 hq0).2.1 y hy)
theorem rowsOk {nm : List Str} {rps : List (Addr × List Str)} (nms : Nms nm) (nd : nm.Nodup) (few : nm.length ≤ 12) (rok : ∀ q ∈ rps, q.2.Nodup ∧ (∀ y ∈ q.2, y ∈ nm) ∧ q.2.length ≤ nm.length) (len : rps.length ≤ 30) : RowsOk (rps.map (·.2)) := by
  refine ⟨fun r hr => ?_, by rw [List.length_map]; exact len, ?_⟩
  · obtain ⟨q0, hq0, rfl⟩ := List.mem_map.mp hr
    obtain ⟨h1, h2, h3⟩ := rok q0 hq0
    exact ⟨fun y hy => nms y (h2 y hy), h1, by omega⟩
  · refine Nat.le_trans (sublist_of (ris_srt nd) (ris_allN _) fun y hy => ?_).length_le (by rw [srt_len]; exact few)
    obtain ⟨r, hr, hy⟩ := allN_iff.mp hy
    exact rows_in nm rok r hr y hy
theorem fit_grown {M : List Str} (hM : Ris M) {rows : List (List Str)} (h : ∀ r ∈ rows, ∀ y ∈ r, y ∈ M) (nm : Nms M) (len : M.length ≤ 7) : Fit (grown rows) := by
  refine ⟨?_, fun xs hx => ?_⟩
  · exact Nat.le_trans (grown_len hM h) (Nat.le_trans (Nat.pow_le_pow_right (by decide) len : 2 ^ M.length ≤ 2 ^ 7) (by decide))
  · obtain ⟨h1, h2, h3⟩ := grown_in hM h hx
    exact ⟨fun y hy => nm y (h2 y hy), by omega⟩
theorem nms_srt {nm : List Str} (h : Nms nm) : Nms (srt nm) := fun y hy => h y (srt_mem.mp hy)
end K1
end
section
set_option maxHeartbeats 8000000
namespace K1
open PySem PySem.Spec PyProof.Rows L2 Gr GxR Srx Skx Dcx
theorem grown_empty {rows : List (List Str)} (h : [] ∈ rows) : grown rows = [] := by
  refine List.eq_nil_iff_forall_not_mem.mpr fun x hx => ?_
  obtain ⟨y, _, hy⟩ := mtAll_iff.mp (grown_mem.mp hx).2.1 [] h
  cases hy
theorem head_nm {nm : List Str} (h : nm ≠ []) : ∃ n0 nrest, nm = n0 :: nrest := by
  cases nm with
  | nil => exact absurd rfl h
  | cons x r => exact ⟨x, r, rfl⟩
theorem at_zero (x : Str) (r : List Str) : atI ((x :: r).map V.str) 0 = some (V.str x) := by
  show atI ((x :: r).map V.str) ((0 : Nat) : Int) = _
  exact atI_nat rfl
theorem fit_nil : Fit [] := ⟨Nat.zero_le _, fun _ z => absurd z List.not_mem_nil⟩
theorem fit_one : Fit [[]] := ⟨by decide, fun x hx => by rw [List.mem_singleton.mp hx]; exact ⟨fun _ z => absurd z List.not_mem_nil, Nat.zero_le _⟩⟩
end K1
namespace K1
open PySem PySem.Spec PyProof.Rows L2 Gr GxR Srx Skx Dcx
/-- [.. x .. y .. for x in xs for y in ys]: each made anew; ys is asked in each turn -/
theorem lc2_new {K : PySem.W.Frag} {a D : Addr} {ps qs : List (Addr × List Str)} {σ : L2.St} {H1 : Hp} {Qd : Hp → Prop} {wi1 : TI} {te : TE} {i j : Nat} (F : List Str → List Str → List Str)
    (hA : SqL K H1 a (ps.map fun q => V.ref q.1)) (few : ps.length * qs.length < sizeLine) (hD : H1 D = none)
    (h1 : ∀ q ∈ ps, ∀ (H3 : Hp) (R : It → Hp → Prop), Gr H1 H3 → (∀ c H4, Gr H3 H4 → H3 c = none → H4 c = some (.lst (qs.map fun q => V.ref q.1)) → R (Itl K c) H4) → wi1 ((wipe σ [i, j]).set i (some (.ref q.1))) H3 R)
    (he : ∀ q ∈ ps, ∀ u ∈ qs, ∀ (H5 : Hp) (Q' : VK), Gr H1 H5 → (∀ l H6, Gr H5 H6 → H5 l = none → H6 l = some (.lst ((F q.2 u.2).map V.str)) → Q' (.ref l) H6) → te ((wipe ((wipe σ [i, j]).set i (some (.ref q.1))) [j]).set j (some (.ref u.1))) H5 Q')
    (qd : ∀ H2 rs, Gr H1 H2 → Told H1 H2 D rs → rs.map (·.2) = ps.flatMap (fun q => qs.map fun u => F q.2 u.2) → Qd H2)
    (hw1 : ∀ v, wipe ((wipe σ [i, j]).set i (some v)) [i, j] = wipe σ [i, j]) (hw2 : ∀ v u, wipe ((wipe ((wipe σ [i, j]).set i (some v)) [j]).set j (some u)) [j] = wipe ((wipe σ [i, j]).set i (some v)) [j]) :
    ∃ W : Nat → Nat → Hp → Prop, (∃ m, W 0 m (upd H1 D (.lst []))) ∧ ∀ k m H, W k m H →
      ((Itl K a).stop k H ∧ Qd H) ∨ ((Itl K a).go k H ∧ ∃ Nx : Hp → Prop, (∀ H', Nx H' → ∃ m', m' < m ∧ W (k + 1) m' H') ∧ ∀ x H', (Itl K a).yld k H x H' → gName i x (wipe σ [i, j]) H' fun σ2 H2 => wipe σ2 [i, j] = wipe σ [i, j] ∧ tYes σ2 H2 fun b H3 =>
        if b = true then wi1 σ2 H3 fun J1 H4 => ∃ W1 : Nat → Nat → Hp → Prop, (∃ m, W1 0 m H4) ∧ ∀ l k H, W1 l k H →
          (J1.stop l H ∧ Nx H) ∨ (J1.go l H ∧ ∃ Nx1 : Hp → Prop, (∀ H', Nx1 H' → ∃ k', k' < k ∧ W1 (l + 1) k' H') ∧ ∀ x H', J1.yld l H x H' → gName j x (wipe σ2 [j]) H' fun σ3 H5 => wipe σ3 [j] = wipe σ2 [j] ∧ tYes σ3 H5 fun b H6 =>
            if b = true then te σ3 H6 fun y H7 => ∃ acc, H7 D = some (.lst acc) ∧ acc.length < sizeLine ∧ Nx1 (upd H7 D (.lst (acc ++ [y]))) else Nx1 H6)
        else Nx H3) := by
  let G : List (Addr × List Str) → List (List Str) := fun zs => zs.flatMap (fun q => qs.map fun u => F q.2 u.2)
  have Gtk : ∀ {k : Nat} {q0 : Addr × List Str}, ps[k]? = some q0 → G (ps.take (k + 1)) = G (ps.take k) ++ qs.map fun u => F q0.2 u.2 := by
    intro k q0 h
    show List.flatMap _ _ = List.flatMap _ _ ++ _
    rw [List.take_add_one, h, List.flatMap_append]
    simp
  have Glen : ∀ zs : List (Addr × List Str), (G zs).length = zs.length * qs.length := by
    intro zs
    induction zs with
    | nil => simp [G]
    | cons z zs ih =>
      show (List.flatMap _ (z :: zs)).length = _
      rw [List.flatMap_cons, List.length_append, List.length_map, List.length_cons, Nat.succ_mul]
      have ih : (List.flatMap (fun q : Addr × List Str => qs.map fun u => F q.2 u.2) zs).length = zs.length * qs.length := ih
      omega
  refine ⟨fun k m H => m = ps.length - k ∧ k ≤ ps.length ∧ Gr H1 H ∧ ∃ rs, Told H1 H D rs ∧ rs.map (·.2) = G (ps.take k), ⟨ps.length, by simp, Nat.zero_le _, Gr.new hD, [], Told.nil hD, rfl⟩, ?_⟩
  rintro k m H ⟨rfl, hk, g, rs, T, e⟩
  have q := g.seq hA
  by_cases lt : k < ps.length
  · refine .inr ⟨⟨_, V.ref ps[k].1, q, by simp [lt]⟩, fun H6 => Gr H1 H6 ∧ ∃ rs, Told H1 H6 D rs ∧ rs.map (·.2) = G (ps.take (k + 1)), fun H6 e6 => ⟨ps.length - (k + 1), by omega, rfl, lt, e6⟩, fun x H6 y => ?_⟩
    obtain ⟨e1, y⟩ := y
    subst e1
    have hx := y _ q
    obtain ⟨q0, hq0, rfl⟩ := get_map hx
    have mq := List.mem_of_getElem? hq0
    refine ⟨hw1 _, yesIf (h1 q0 mq _ _ g fun c H4 g4 nc hc => ?_)⟩
    have cD : c ≠ D := (ne_of_none T.at_ nc).symm
    refine ⟨fun l k' H => k' = qs.length - l ∧ l ≤ qs.length ∧ (Gr H1 H ∧ H c = some (.lst (qs.map fun q => V.ref q.1))) ∧ ∃ rs, Told H1 H D rs ∧ rs.map (·.2) = G (ps.take k) ++ (qs.take l).map fun u => F q0.2 u.2, ⟨qs.length, by simp, Nat.zero_le _, ⟨g.trans g4, hc⟩, rs, T.gr g4, by rw [e]; simp⟩, ?_⟩
    rintro l k' H ⟨rfl, hl, ⟨g1x, hc5⟩, rs5, T5, e5⟩
    have q2 : SqL K H c (qs.map fun q => V.ref q.1) := .inl (.inl hc5)
    by_cases lt2 : l < qs.length
    · refine .inr ⟨⟨_, V.ref qs[l].1, q2, by simp [lt2]⟩, fun H6 => (Gr H1 H6 ∧ H6 c = some (.lst (qs.map fun q => V.ref q.1))) ∧ ∃ rs, Told H1 H6 D rs ∧ rs.map (·.2) = G (ps.take k) ++ (qs.take (l + 1)).map fun u => F q0.2 u.2, fun H6 e6 => ⟨qs.length - (l + 1), by omega, rfl, lt2, e6⟩, fun x H6 y => ?_⟩
      obtain ⟨e1, y⟩ := y
      subst e1
      have hx := y _ q2
      obtain ⟨u0, hu0, rfl⟩ := get_map hx
      have mu := List.mem_of_getElem? hu0
      refine ⟨hw2 _ _, yesIf (he q0 mq u0 mu _ _ g1x fun l2 H6 g6 nl el => ⟨_, g6.lst T5.at_, ?_, ⟨(g1x.trans g6).mut hD, by rw [upd_ne cD]; exact g6.lst hc5⟩, rs5 ++ [(l2, F q0.2 u0.2)], T5.snoc2 g1x g6 nl el, ?_⟩)⟩
      · rw [List.length_map]
        have h2 := congrArg List.length e5
        rw [List.length_map, List.length_append, Glen, List.length_map, List.length_take, List.length_take] at h2
        have h3 : (k + 1) * qs.length ≤ ps.length * qs.length := Nat.mul_le_mul_right _ lt
        rw [Nat.succ_mul] at h3
        rw [show min k ps.length = k by omega] at h2
        omega
      · rw [List.map_append, e5, take_map hu0, List.append_assoc]
        rfl
    · have e1 : l = qs.length := by omega
      subst e1
      refine .inl ⟨⟨_, q2, by rw [List.length_map]; exact Nat.le_refl _⟩, g1x, rs5, T5, ?_⟩
      rw [List.take_length] at e5
      rw [Gtk hq0]
      exact e5
  · have e1 : k = ps.length := by omega
    subst e1
    rw [List.take_length] at e
    exact .inl ⟨⟨_, q, by rw [List.length_map]; exact Nat.le_refl _⟩, qd _ rs g T e⟩
end K1
namespace K1
open PySem PySem.Spec PyProof.Rows L2 Gr GxR Srx Skx Dcx
/-- [x for x in xs if ..], texts -/
theorem lc_filtT {K : PySem.W.Frag} {a D : Addr} {j : Nat} {σ : L2.St} {vs : List Nat} {tt : TT} {H1 : Hp} {Qd : Hp → Prop} {xs : List Str} (p : Str → Bool)
    (hA : SqL K H1 a (xs.map V.str)) (few : xs.length < sizeLine) (hD : H1 D = none) (hw : ∀ v, wipe ((wipe σ vs).set j (some v)) vs = wipe σ vs) (hj : ∀ v : V, ((wipe σ vs).set j (some v))[j]? = some (some v))
    (ht : ∀ x ∈ xs, ∀ (H4 : Hp) (Qb : Bool → Hp → Prop), Gr H1 H4 → (∀ H5, Gr H4 H5 → Qb (p x) H5) → tt ((wipe σ vs).set j (some (.str x))) H4 Qb)
    (q : ∀ H2, Gr H1 H2 → H2 D = some (.lst ((xs.filter p).map V.str)) → Qd H2) :
    ∃ W : Nat → Nat → Hp → Prop, (∃ m, W 0 m (upd H1 D (.lst []))) ∧ ∀ i m H, W i m H →
      ((Itl K a).stop i H ∧ Qd H) ∨ ((Itl K a).go i H ∧ ∃ Nx : Hp → Prop, (∀ H', Nx H' → ∃ m', m' < m ∧ W (i + 1) m' H') ∧ ∀ x H', (Itl K a).yld i H x H' → gName j x (wipe σ vs) H' fun σ2 H2 => wipe σ2 vs = wipe σ vs ∧ tt σ2 H2 fun b H3 =>
        if b = true then tVar j σ2 H3 fun y H4 => ∃ acc, H4 D = some (.lst acc) ∧ acc.length < sizeLine ∧ Nx (upd H4 D (.lst (acc ++ [y]))) else Nx H3) := by
  refine lc_list (xs := xs.map V.str) (Qd := Qd) (fun i H2 => Gr H1 H2 ∧ H2 D = some (.lst (((xs.take i).filter p).map V.str))) ⟨Gr.new hD, upd_same⟩ (fun i H2 _ h => h.1.seq hA) (fun i x H2 hx h => ?_) (fun H2 h => ?_)
  · obtain ⟨g2, e⟩ := h
    obtain ⟨x0, hx0, rfl⟩ := get_map hx
    have etk : (xs.take (i + 1)).filter p = (xs.take i).filter p ++ [x0].filter p := by
      rw [List.take_add_one, hx0, List.filter_append]
      rfl
    refine ⟨hw _, ht x0 (List.mem_of_getElem? hx0) H2 _ g2 fun H3 g3 => ?_⟩
    cases hp : p x0 with
    | true =>
      refine iteT ⟨_, hj _, _, g3.lst e, ?_, (g2.trans g3).mut hD, ?_⟩
      · rw [List.length_map]
        have h1 := List.length_filter_le p (xs.take i)
        rw [List.length_take] at h1
        omega
      · rw [upd_same, etk, List.map_append]
        simp [hp]
    | false =>
      refine iteF ⟨g2.trans g3, ?_⟩
      rw [etk, List.map_append]
      simp only [hp, List.filter_cons, Bool.false_eq_true, if_false, List.filter_nil, List.map_nil, List.append_nil]
      exact g3.lst e
  · obtain ⟨g2, e⟩ := h
    rw [List.length_map, List.take_length] at e
    exact q H2 g2 e
/-- [x for x in xs if ..], lists -/
theorem lc_filtL {K : PySem.W.Frag} {a D : Addr} {j : Nat} {σ : L2.St} {vs : List Nat} {tt : TT} {H1 : Hp} {Qd : Hp → Prop} {ps : List (Addr × List Str)} (p : Addr × List Str → Bool)
    (hA : SqL K H1 a (ps.map fun q => V.ref q.1)) (few : ps.length < sizeLine) (hD : H1 D = none) (hw : ∀ v, wipe ((wipe σ vs).set j (some v)) vs = wipe σ vs) (hj : ∀ v : V, ((wipe σ vs).set j (some v))[j]? = some (some v))
    (ht : ∀ x ∈ ps, ∀ (H4 : Hp) (Qb : Bool → Hp → Prop), Gr H1 H4 → (∀ H5, Gr H4 H5 → Qb (p x) H5) → tt ((wipe σ vs).set j (some (.ref x.1))) H4 Qb)
    (q : ∀ H2, Gr H1 H2 → H2 D = some (.lst ((ps.filter p).map fun q => V.ref q.1)) → Qd H2) :
    ∃ W : Nat → Nat → Hp → Prop, (∃ m, W 0 m (upd H1 D (.lst []))) ∧ ∀ i m H, W i m H →
      ((Itl K a).stop i H ∧ Qd H) ∨ ((Itl K a).go i H ∧ ∃ Nx : Hp → Prop, (∀ H', Nx H' → ∃ m', m' < m ∧ W (i + 1) m' H') ∧ ∀ x H', (Itl K a).yld i H x H' → gName j x (wipe σ vs) H' fun σ2 H2 => wipe σ2 vs = wipe σ vs ∧ tt σ2 H2 fun b H3 =>
        if b = true then tVar j σ2 H3 fun y H4 => ∃ acc, H4 D = some (.lst acc) ∧ acc.length < sizeLine ∧ Nx (upd H4 D (.lst (acc ++ [y]))) else Nx H3) := by
  refine lc_list (xs := ps.map fun q => V.ref q.1) (Qd := Qd) (fun i H2 => Gr H1 H2 ∧ H2 D = some (.lst (((ps.take i).filter p).map fun q => V.ref q.1))) ⟨Gr.new hD, upd_same⟩ (fun i H2 _ h => h.1.seq hA) (fun i x H2 hx h => ?_) (fun H2 h => ?_)
  · obtain ⟨g2, e⟩ := h
    obtain ⟨x0, hx0, rfl⟩ := get_map hx
    have etk : (ps.take (i + 1)).filter p = (ps.take i).filter p ++ [x0].filter p := by
      rw [List.take_add_one, hx0, List.filter_append]
      rfl
    refine ⟨hw _, ht x0 (List.mem_of_getElem? hx0) H2 _ g2 fun H3 g3 => ?_⟩
    cases hp : p x0 with
    | true =>
      refine iteT ⟨_, hj _, _, g3.lst e, ?_, (g2.trans g3).mut hD, ?_⟩
      · rw [List.length_map]
        have h1 := List.length_filter_le p (ps.take i)
        rw [List.length_take] at h1
        omega
      · rw [upd_same, etk, List.map_append]
        simp [hp]
    | false =>
      refine iteF ⟨g2.trans g3, ?_⟩
      rw [etk, List.map_append]
      simp only [hp, List.filter_cons, Bool.false_eq_true, if_false, List.filter_nil, List.map_nil, List.append_nil]
      exact g3.lst e
  · obtain ⟨g2, e⟩ := h
    rw [List.length_map, List.take_length] at e
    exact q H2 g2 e
def spNameFrom (K : PySem.W.Frag) (T : Addr) (R : ErN) : Sp := fun vs H Q E => ∃ v, vs = [v] ∧ Thing K H v ∧ TabG H T ∧ ((nmV v = true ∧ ∀ H', Gr H H' → Q v H') ∨ (nmV v = false ∧ ∀ H', Gr H H' → E (.ref R.name) none H'))
def spBookOf (C : Addr) (N : TabN) (R : ErN) : Sp := fun vs H Q E => ∃ (a : Addr) (ps : List (Addr × List Str)), vs = [.ref a] ∧ LL H a ps ∧ (∀ r ∈ ps.map (·.2), Nms r ∧ r.Nodup ∧ r.length ≤ 100) ∧ ps.length ≤ 1000 ∧ N.G H ∧
  ((RowsOk (ps.map (·.2)) ∧ ∀ b d H' tb, Gr H H' → NewB C H H' b d tb (ps.map (·.2)) → Q (.ref b) H') ∨ (¬ RowsOk (ps.map (·.2)) ∧ ∀ H', Gr H H' → E (.ref R.many) none H'))
def spStruck (K : PySem.W.Frag) (C : Addr) (N : TabN) (R : ErN) (f : Str → List (List Str) → List (List Str)) : Sp := fun vs H Q E => ∃ b d tb n v, vs = [.ref b, v] ∧ Bk C H b d tb n ∧ Tok tb n ∧ N.G H ∧ Thing K H v ∧
  ((∃ x, v = .str x ∧ isNm x = true ∧ ∀ b' d' H' tb', Gr H H' → NewB C H H' b' d' tb' (f x (rws tb)) → Q (.ref b') H') ∨ (nmV v = false ∧ ∀ H', Gr H H' → E (.ref R.name) none H'))
def spJoined (K : PySem.W.Frag) (C : Addr) (N : TabN) (R : ErN) (f : List (List Str) → List (List Str) → List (List Str)) : Sp := fun vs H Q E => ∃ b d tb n b2 d2 tb2 n2, vs = [.ref b, .ref b2] ∧ Bk C H b d tb n ∧ Tok tb n ∧ Bk C H b2 d2 tb2 n2 ∧ Tok tb2 n2 ∧ N.G H ∧
  ((RowsOk (f (rws tb) (rws tb2)) ∧ ∀ b' d' H' tb', Gr H H' → NewB C H H' b' d' tb' (f (rws tb) (rws tb2)) → Q (.ref b') H') ∨ (¬ RowsOk (f (rws tb) (rws tb2)) ∧ ∀ H', Gr H H' → E (.ref R.many) none H'))
def stScope2 : Stmt → Scope
  | .FunctionDef (body := [_, .Return (some (.Call _ [.ListComp _ _ s _] _ _)) _]) .. => s
  | _ => ⟨.function, [], false, false, []⟩
/-- all that a book's rows may be, filtered or not -/
theorem Tok.rowsOk {tb : Tb1} {n : Int} (T : Tok tb n) {rows : List (List Str)} (len : rows.length ≤ 30) (h : ∀ r ∈ rows, r.Nodup ∧ ∀ y ∈ r, y ∈ allN (rws tb)) : RowsOk rows := by
  have sub : (allN rows).length ≤ 12 := Nat.le_trans (sublist_of (ris_allN _) (ris_allN _) fun y hy => by
    obtain ⟨r, hr, hy⟩ := allN_iff.mp hy
    exact (h r hr).2 y hy).length_le T.nms
  refine ⟨fun r hr => ⟨fun y hy => T.nmsN y ((h r hr).2 y hy), (h r hr).1, ?_⟩, len, sub⟩
  have h1 := (sublist_of (ris_allN (rws tb)) (ris_once r) fun y hy => (h r hr).2 y (once_mem.mp hy)).length_le
  rw [once_full (h r hr).1] at h1
  have := T.nms
  omega
end K1
namespace K1
open PySem PySem.Spec PyProof.Rows L2 Gr GxR Srx Skx Dcx
theorem ne_strB (y x : Str) : (!decide (V.str y = V.str x)) = decide (y ≠ x) := by
  rw [← decide_not]
  exact decide_eq_decide.mpr (not_congr ⟨fun z => by injection z, fun z => by rw [z]⟩)
theorem lc_fresh3 {K : PySem.W.Frag} {a D : Addr} {j : Nat} {σ : L2.St} {vs : List Nat} {te : TE} {H1 : Hp} {Qd : Hp → Prop} {ps0 : List (Addr × List Str)} (F : List Str → List Str)
    (hA : SqL K H1 a (ps0.map fun q => V.ref q.1)) (few : ps0.length < sizeLine) (hD : H1 D = none) (hw : ∀ v, wipe ((wipe σ vs).set j (some v)) vs = wipe σ vs)
    (he : ∀ q ∈ ps0, ∀ (H4 : Hp) (Q' : VK), Gr H1 H4 → (∀ l H5, Gr H4 H5 → H4 l = none → H5 l = some (.lst ((F q.2).map V.str)) → Q' (.ref l) H5) → te ((wipe σ vs).set j (some (.ref q.1))) H4 Q')
    (q : ∀ H2 ps, Gr H1 H2 → Told H1 H2 D ps → ps.map (·.2) = ps0.map (fun q => F q.2) → Qd H2) :
    ∃ W : Nat → Nat → Hp → Prop, (∃ m, W 0 m (upd H1 D (.lst []))) ∧ ∀ i m H, W i m H →
      ((Itl K a).stop i H ∧ Qd H) ∨ ((Itl K a).go i H ∧ ∃ Nx : Hp → Prop, (∀ H', Nx H' → ∃ m', m' < m ∧ W (i + 1) m' H') ∧ ∀ x H', (Itl K a).yld i H x H' → gName j x (wipe σ vs) H' fun σ2 H2 => wipe σ2 vs = wipe σ vs ∧ tYes σ2 H2 fun b H3 =>
        if b = true then te σ2 H3 fun y H4 => ∃ acc, H4 D = some (.lst acc) ∧ acc.length < sizeLine ∧ Nx (upd H4 D (.lst (acc ++ [y]))) else Nx H3) := by
  refine lc_list (xs := ps0.map fun q => V.ref q.1) (Qd := Qd) (fun i H2 => Gr H1 H2 ∧ ∃ ps, Told H1 H2 D ps ∧ ps.map (·.2) = (ps0.take i).map (fun q => F q.2)) ⟨Gr.new hD, [], Told.nil hD, rfl⟩ (fun i H2 _ h => h.1.seq hA) (fun i x H2 hx h => ?_) (fun H2 h => ?_)
  · obtain ⟨g2, ps, T, e⟩ := h
    obtain ⟨q0, hq0, rfl⟩ := get_map hx
    refine ⟨hw _, yesIf (he q0 (List.mem_of_getElem? hq0) H2 _ g2 fun l H5 g5 nl el => ⟨_, g5.lst T.at_, ?_, (g2.trans g5).mut hD, ps ++ [(l, F q0.2)], T.snoc2 g2 g5 nl el, ?_⟩)⟩
    · rw [List.length_map]
      have h1 := congrArg List.length e
      rw [List.length_map, List.length_map, List.length_take] at h1
      omega
    · rw [List.map_append, e, take_map hq0]
      rfl
  · obtain ⟨g2, ps, T, e⟩ := h
    rw [List.length_map, List.take_length] at e
    exact q H2 ps g2 T e
theorem tb_map (tb : Tb1) : (tb.map fun e => (e.2.1, e.2.2)).map (·.2) = rws tb := by
  rw [List.map_map]
  rfl
theorem once_all' {rows : List (List Str)} (h : ∀ r ∈ rows, Ris r) : rows.map once = rows := once_all h
theorem rows_facts {tb : Tb1} {n : Int} (T : Tok tb n) {rows : List (List Str)} (len : rows.length ≤ 30) (h : ∀ r ∈ rows, ∃ r0 ∈ rws tb, List.Sublist r r0) : RowsOk rows :=
  T.rowsOk len fun r hr => by
    obtain ⟨r0, h0, sub⟩ := h r hr
    exact ⟨((T.rlen h0).1.nodup).sublist sub, fun y hy => row_in h0 y (sub.subset hy)⟩
theorem rws_len (tb : Tb1) : (rws tb).length = tb.length := List.length_map _
end K1
namespace K1
theorem flat_len {α β γ : Type} (F : α → β → γ) (qs : List β) : ∀ ps : List α, (ps.flatMap fun q => qs.map fun u => F q u).length = ps.length * qs.length
  | [] => by simp
  | p :: ps => by
    rw [List.flatMap_cons, List.length_append, List.length_map, flat_len F qs ps, List.length_cons, Nat.succ_mul]
    omega
end K1
namespace K1
open PySem PySem.Spec PyProof.Rows L2 Gr GxR Srx Skx Dcx
def spBPared (K : PySem.W.Frag) (C : Addr) (N : TabN) (R : ErN) : Sp := fun vs H Q E => ∃ b d tb n v, vs = [.ref b, v] ∧ Bk C H b d tb n ∧ Tok tb n ∧ N.G H ∧
  ((∃ xs, HOk H v xs ∧ mtAll xs (rws tb) = true ∧ ∀ p H', Gr H H' → H p = none → H' p = some (.lst ((pared (rws tb) (once xs)).map V.str)) → Q (.ref p) H') ∨ (∃ xs, HOk H v xs ∧ mtAll xs (rws tb) = false ∧ ∀ H', Gr H H' → E (.ref R.meet) none H') ∨
   (HBadN K H v ∧ ∀ H', Gr H H' → E (.ref R.name) none H') ∨ (HBadR K H v ∧ ∀ H', Gr H H' → E (.ref R.row) none H'))
/-- the first row in which of the set asked that name stands alone -/
def firstOwn (tb : Tb1) (asked : List Str) (x : Str) : Option Int := (tb.find? fun e => decide (asked.filter e.2.2.contains = [x])).map (·.1)
def ownV : Option Int → V
  | some k => .int k
  | none => .non
def spFirstOwn (K : PySem.W.Frag) (C : Addr) : Sp := fun vs H Q _ => ∃ (b d : Addr) (tb : Tb1) (n : Int) (x : Str) (a : Addr) (asked : List Str), vs = [.ref b, .str x, .ref a] ∧ Bk C H b d tb n ∧ Tok tb n ∧ H a = some (.lst (asked.map V.str)) ∧ Nms asked ∧ isNm x = true ∧ asked.length ≤ 1000 ∧
  ∀ H', Gr H H' → Q (ownV (firstOwn tb asked x)) H'
def spBOwn (K : PySem.W.Frag) (C : Addr) (N : TabN) (R : ErN) : Sp := fun vs H Q E => ∃ b d tb n v, vs = [.ref b, v] ∧ Bk C H b d tb n ∧ Tok tb n ∧ N.G H ∧
  ((∃ xs, HOk H v xs ∧ mtAll xs (rws tb) = true ∧ (∀ x ∈ once xs, (firstOwn tb (once xs) x).isSome = true) ∧
      ∀ p H' (ts : List (Addr × Str × Int)), Gr H H' → H p = none → H' p = some (.lst (ts.map fun t => V.ref t.1)) → (∀ t ∈ ts, H t.1 = none ∧ t.1 ≠ p ∧ H' t.1 = some (.tup [.str t.2.1, .int t.2.2])) → ts.map (·.2) = (once xs).map (fun x => (x, (firstOwn tb (once xs) x).getD 0)) → Q (.ref p) H') ∨
   (∃ xs, HOk H v xs ∧ (mtAll xs (rws tb) = false ∨ ∃ x ∈ once xs, firstOwn tb (once xs) x = none) ∧ ∀ H', Gr H H' → E (.ref R.meet) none H') ∨
   (HBadN K H v ∧ ∀ H', Gr H H' → E (.ref R.name) none H') ∨ (HBadR K H v ∧ ∀ H', Gr H H' → E (.ref R.row) none H'))
def needB (rows : List (List Str)) : List Str := (least rows).flatMap fun r => if r.length = 1 then r else []
def spBNeeded (C : Addr) (N : TabN) : Sp := fun vs H Q _ => ∃ b d tb n, vs = [.ref b] ∧ Bk C H b d tb n ∧ Tok tb n ∧ N.G H ∧ ∀ p H', Gr H H' → H p = none → H' p = some (.lst ((needB (rws tb)).map V.str)) → Q (.ref p) H'
theorem find_snoc {α : Type} {p : α → Bool} {l : List α} {i : Nat} {x : α} (h : l[i]? = some x) (n : (l.take i).find? p = none) : (l.take (i + 1)).find? p = if p x = true then some x else none := by
  rw [List.take_add_one, h, List.find?_append, n]
  simp only [Option.none_or, Option.toList]
  rw [List.find?_cons]
  split
  · rename_i e; rw [if_pos e]
  · rename_i e; rw [if_neg (by rw [e]; exact Bool.false_ne_true)]; rfl
theorem find_done {α : Type} {p : α → Bool} {l : List α} {i : Nat} {x : α} (h : l[i]? = some x) (n : (l.take i).find? p = none) (hx : p x = true) : l.find? p = some x := by
  have e := find_snoc h n
  rw [if_pos hx] at e
  rw [← List.take_append_drop (i + 1) l, List.find?_append, e]
  rfl
end K1
end
section
set_option maxHeartbeats 8000000
namespace K1
open PySem PySem.Spec PyProof.Rows L2 Gr GxR Srx Skx Dcx
open PySem.W (dataLe dataLt DatumOrd Datum)
/-- pairs of a number and a set, as data -/
def prD (z : Int × List Str) : PyData := .tuple [.int z.1, dS z.2]
def pairsD (l : List (Int × List Str)) : PyData := .list (l.map prD)
theorem ToldP.dp {K : PySem.W.Frag} {H H' : Hp} {p : Addr} {rs : List Pr1} (T : ToldP H H' p rs) : Dp K H' (.ref p) (pairsD (rs.map fun r => (r.k, r.r))) := by
  have gen : ∀ l : List Pr1, (∀ r ∈ l, r ∈ rs) → DpAll K H' (l.map fun r => V.ref r.t) ((l.map fun r => (r.k, r.r)).map prD) := by
    intro l
    induction l with
    | nil => intro _; exact .nil
    | cons r l ih =>
      intro h
      obtain ⟨_, _, _, _, h5, h6⟩ := T.own r (h r List.mem_cons_self)
      exact .cons (.tup (.inl (.inl h5)) (.cons (.int r.k) (.cons (dp_dS (.inl (.inl h6))) .nil))) (ih fun x hx => h x (List.mem_cons_of_mem _ hx))
  exact .lst (.inl (.inl T.at_)) (gen rs fun _ z => z)
theorem canL_pairs : ∀ l : List (Int × List Str), (∀ z ∈ l, Nms z.2) → PyData.canLayAll0 (l.map prD) = true
  | [], _ => by simp [PyData.canLayAll0]
  | n :: r, h => by
    have h1 := canL_strs n.2 (h n List.mem_cons_self)
    have h2 := canL_pairs r fun x hx => h x (List.mem_cons_of_mem _ hx)
    simp only [List.map_cons, PyData.canLayAll0, h2, Bool.and_true]
    simp only [prD, dS, PyData.canLay0, PyData.canLayAll0, h1, Bool.and_true]
theorem deep_pairs : ∀ l : List (Int × List Str), PyData.depthAll (l.map prD) ≤ 5
  | [] => by simp [PyData.depthAll]
  | n :: r => by
    have h1 := deep_pairs r
    have h2 := deep_strs n.2
    simp only [List.map_cons, PyData.depthAll, PyData.depth, prD, dS] at h1 ⊢
    omega
theorem shaped_pairs {l : List (Int × List Str)} (nm : ∀ z ∈ l, Nms z.2) : SeqAt.shaped (pairsD l) = true := by
  have h1 := deep_pairs l
  have h2 : PyData.depth (pairsD l) ≤ 64 := by simp only [pairsD, PyData.depth]; omega
  show (PyData.canLay0 (pairsD l) && decide (PyData.depth (pairsD l) ≤ 64)) = true
  rw [Bool.and_eq_true]
  exact ⟨by simp only [pairsD, PyData.canLay0]; exact canL_pairs l nm, decide_eq_true h2⟩
theorem eqv_pairs (xs ys : List (Int × List Str)) : PyData.eqv (pairsD xs) (pairsD ys) = decide (xs = ys) := Datum.eqv xs ys
theorem numD_eq (rows : List (List Str)) : numD rows = pairsD (numd (rows.map srt)) := by
  unfold numD pairsD numd
  congr 1
  refine List.ext_getElem? fun i => ?_
  rw [List.getElem?_map, List.getElem?_map, List.getElem?_mapIdx, List.getElem?_map]
  by_cases h : i < rows.length
  · rw [List.getElem?_range h, List.getElem?_eq_getElem h]
    show some (PyData.tuple [.int i, dS (srt (rows.getD i []))]) = some (PyData.tuple [.int i, dS (srt rows[i])])
    rw [List.getD_eq_getElem?_getD, List.getElem?_eq_getElem h]
    rfl
  · rw [List.getElem?_eq_none (by simpa using h), List.getElem?_eq_none (by simpa using h)]
    rfl
theorem once_srt {r : List Str} (h : r.Nodup) : once r = srt r := once_same h fun _ => Iff.rfl
theorem map_once_srt {rows : List (List Str)} (h : ∀ r ∈ rows, r.Nodup) : rows.map once = rows.map srt := List.map_congr_left fun r hr => once_srt (h r hr)
theorem nms_numd {rows : List (List Str)} (h : ∀ r ∈ rows, Nms r) : ∀ z ∈ numd rows, Nms z.2 := by
  intro z hz
  have : z.2 ∈ (numd rows).map (·.2) := List.mem_map.mpr ⟨z, hz, rfl⟩
  rw [numd_rows] at this
  exact h _ this
/-- lists of sets, sorted -/
theorem ordDS : Ord dS := ⟨fun x y => (DatumOrd.alike x y : PySem.W.alike (Datum.toD x) (Datum.toD y) = true), .inr fun x => ⟨by simp [dS], fun ds => by simp [dS]⟩, fun x => by
  have := deep_strs x
  simp only [dS, PyData.depth]
  omega⟩
end K1
namespace K1
open PySem PySem.Spec PyProof.Rows L2 Gr GxR Srx Skx Dcx
open PySem.W (dataLe dataLt DatumOrd Datum)
def leD (a b : List Str) : Bool := dataLe false dS a b
theorem leD_eq (a b : List Str) : leD a b = !dataLt (dS b) (dS a) := rfl
theorem leD_anti {a b : List Str} (h1 : leD a b = true) (h2 : leD b a = true) : a = b := by
  rw [leD_eq, Bool.not_eq_true'] at h1 h2
  have e1 : dataLt (Datum.toD b) (Datum.toD a) = false := h1
  have e2 : dataLt (Datum.toD a) (Datum.toD b) = false := h2
  rw [DatumOrd.lt_eq] at e1 e2
  exact listLt_anti a b e2 e1
theorem leD_trans {a b c : List Str} (h1 : leD a b = true) (h2 : leD b c = true) : leD a c = true := by
  rw [leD_eq, Bool.not_eq_true'] at *
  cases z : dataLt (dS c) (dS a) with
  | false => rfl
  | true =>
    rcases PyProof.Rows.lex_negTrans _ (PySem.W.keyToks (dS b)) _ z with y | y
    · rw [show dataLt (dS c) (dS b) = true from y] at h2
      cases h2
    · rw [show dataLt (dS b) (dS a) = true from y] at h1
      cases h1
theorem leD_total (a b : List Str) : (leD a b || leD b a) = true := by
  rw [leD_eq, leD_eq]
  cases h : dataLt (dS b) (dS a) with
  | false => rfl
  | true =>
    cases h2 : dataLt (dS a) (dS b) with
    | false => rfl
    | true =>
      have t := PyProof.Rows.lex_trans _ _ _ (show PyProof.Rows.lexLt _ _ _ = true from h) (show PyProof.Rows.lexLt _ _ _ = true from h2)
      have e := PySem.W.dataLt_self (dS b)
      rw [show dataLt (dS b) (dS b) = true from t] at e
      cases e
def srtD (xss : List (List Str)) : List (List Str) := xss.mergeSort leD
theorem srtD_eq {xs ys : List (List Str)} (p : xs.Perm ys) : srtD xs = srtD ys := by
  have s : ∀ zs : List (List Str), (srtD zs).Pairwise (fun a b => leD a b = true) := fun zs => List.pairwise_mergeSort (le := leD) (fun _ _ _ h1 h2 => leD_trans h1 h2) leD_total zs
  exact List.Perm.eq_of_pairwise (fun a b _ _ z1 z2 => leD_anti z1 z2) (s xs) (s ys) ((List.mergeSort_perm _ _).trans (p.trans (List.mergeSort_perm _ _).symm))
theorem srtD_perm (xs : List (List Str)) : (srtD xs).Perm xs := List.mergeSort_perm _ _
/-- sorted(..) of a list of lists -/
theorem sortedDS {K : PySem.W.Frag} {H : Hp} {a : Addr} {ps : List (Addr × List Str)} {σ : L2.St} {Q : VK} (hs : SqL K H a (ps.map fun q => V.ref q.1)) (own : ∀ q ∈ ps, SqL K H q.1 (q.2.map V.str))
    (q : ∀ p qs, H p = none → List.Perm qs ps → qs.map (·.2) = srtD (ps.map (·.2)) → Q (.ref p) (upd H p (.lst (qs.map fun q => V.ref q.1)))) :
    tNil σ H fun ys H2 => rSortedD K dS (V.ref a :: ys) H2 Q := by
  have e0 : (ps.map fun q => (V.ref q.1, q.2)).mergeSort (dataLe false fun b => dS b.2) = (ps.mergeSort fun x y => leD x.2 y.2).map fun q => (V.ref q.1, q.2) := by
    rw [List.map_mergeSort]
    intro x _ y _
    rfl
  refine ⟨a, ps.map fun q => (V.ref q.1, q.2), rfl, by rw [List.map_map]; exact hs, fun b hb => ?_, fun p hp => ?_⟩
  · obtain ⟨x, hx, rfl⟩ := List.mem_map.mp hb
    exact dp_dS (own x hx)
  · rw [e0, List.map_map]
    refine q p _ hp (List.mergeSort_perm _ _) ?_
    unfold srtD
    rw [List.map_mergeSort]
    intro x _ y _
    rfl
/-- [.. x .. for x in xs if ..]: each made anew -/
theorem lc_freshF {K : PySem.W.Frag} {a D : Addr} {j : Nat} {σ : L2.St} {vs : List Nat} {tt : TT} {te : TE} {H1 : Hp} {Qd : Hp → Prop} {ps0 : List (Addr × List Str)} (p : List Str → Bool) (F : List Str → List Str)
    (hA : SqL K H1 a (ps0.map fun q => V.ref q.1)) (few : ps0.length < sizeLine) (hD : H1 D = none) (hw : ∀ v, wipe ((wipe σ vs).set j (some v)) vs = wipe σ vs)
    (ht : ∀ q ∈ ps0, ∀ (H4 : Hp) (Qb : Bool → Hp → Prop), Gr H1 H4 → (∀ H5, Gr H4 H5 → Qb (p q.2) H5) → tt ((wipe σ vs).set j (some (.ref q.1))) H4 Qb)
    (he : ∀ q ∈ ps0, p q.2 = true → ∀ (H4 : Hp) (Q' : VK), Gr H1 H4 → (∀ l H5, Gr H4 H5 → H4 l = none → H5 l = some (.lst ((F q.2).map V.str)) → Q' (.ref l) H5) → te ((wipe σ vs).set j (some (.ref q.1))) H4 Q')
    (q : ∀ H2 ps, Gr H1 H2 → Told H1 H2 D ps → ps.map (·.2) = ((ps0.map (·.2)).filter p).map F → Qd H2) :
    ∃ W : Nat → Nat → Hp → Prop, (∃ m, W 0 m (upd H1 D (.lst []))) ∧ ∀ i m H, W i m H →
      ((Itl K a).stop i H ∧ Qd H) ∨ ((Itl K a).go i H ∧ ∃ Nx : Hp → Prop, (∀ H', Nx H' → ∃ m', m' < m ∧ W (i + 1) m' H') ∧ ∀ x H', (Itl K a).yld i H x H' → gName j x (wipe σ vs) H' fun σ2 H2 => wipe σ2 vs = wipe σ vs ∧ tt σ2 H2 fun b H3 =>
        if b = true then te σ2 H3 fun y H4 => ∃ acc, H4 D = some (.lst acc) ∧ acc.length < sizeLine ∧ Nx (upd H4 D (.lst (acc ++ [y]))) else Nx H3) := by
  have etk : ∀ {i : Nat} {q0 : Addr × List Str}, ps0[i]? = some q0 → (((ps0.take (i + 1)).map (·.2)).filter p).map F = (((ps0.take i).map (·.2)).filter p).map F ++ (if p q0.2 = true then [F q0.2] else []) := by
    intro i q0 h
    rw [take_map h, List.filter_append, List.map_append]
    congr 1
    rw [List.filter_cons]
    split <;> simp
  refine lc_list (xs := ps0.map fun q => V.ref q.1) (Qd := Qd) (fun i H2 => Gr H1 H2 ∧ ∃ ps, Told H1 H2 D ps ∧ ps.map (·.2) = (((ps0.take i).map (·.2)).filter p).map F) ⟨Gr.new hD, [], Told.nil hD, rfl⟩ (fun i H2 _ h => h.1.seq hA) (fun i x H2 hx h => ?_) (fun H2 h => ?_)
  · obtain ⟨g2, ps, T, e⟩ := h
    obtain ⟨q0, hq0, rfl⟩ := get_map hx
    have m0 := List.mem_of_getElem? hq0
    refine ⟨hw _, ht q0 m0 H2 _ g2 fun H3 g3 => ?_⟩
    have T3 := T.gr g3
    cases hp : p q0.2 with
    | false =>
      refine iteF ⟨g2.trans g3, ps, T3, ?_⟩
      rw [etk hq0, if_neg (by rw [hp]; exact Bool.false_ne_true), List.append_nil]
      exact e
    | true =>
      refine iteT (he q0 m0 hp H3 _ (g2.trans g3) fun l H5 g5 nl el => ⟨_, g5.lst T3.at_, ?_, ((g2.trans g3).trans g5).mut hD, ps ++ [(l, F q0.2)], T3.snoc2 (g2.trans g3) g5 nl el, ?_⟩)
      · rw [List.length_map]
        have h1 := congrArg List.length e
        rw [List.length_map, List.length_map] at h1
        have h2 := List.length_filter_le p ((ps0.take i).map (·.2))
        rw [List.length_map, List.length_take] at h2
        omega
      · rw [List.map_append, e, etk hq0, if_pos hp]
        rfl
  · obtain ⟨g2, ps, T, e⟩ := h
    rw [List.length_map, List.take_length] at e
    exact q H2 ps g2 T e
end K1
namespace K1
open PySem PySem.Spec PyProof.Rows L2 Gr GxR Srx Skx Dcx
theorem contains_once (r : List Str) (x : Str) : (once r).contains x = r.contains x := by
  rw [Bool.eq_iff_iff, List.contains_iff_mem, List.contains_iff_mem]
  exact once_mem
theorem once_filter (r : List Str) (p : Str → Bool) : (once r).filter p = once (r.filter p) := by
  refine (wi_anti (ris_filter p (ris_once r)) (ris_once _) (wi_iff.mpr fun y hy => ?_) (wi_iff.mpr fun y hy => ?_))
  · obtain ⟨h1, h2⟩ := List.mem_filter.mp hy
    exact once_mem.mpr (List.mem_filter.mpr ⟨once_mem.mp h1, h2⟩)
  · obtain ⟨h1, h2⟩ := List.mem_filter.mp (once_mem.mp hy)
    exact List.mem_filter.mpr ⟨once_mem.mpr h1, h2⟩
theorem once_once (r : List Str) : once (once r) = once r := once_ris (ris_once r)
/-- the struck rows of a book of once-rows -/
theorem strike_once (x : Str) (rows : List (List Str)) : (strike x (rows.map once)).map once = (strike x rows).map once := by
  unfold strike
  rw [List.map_map, List.map_map, List.map_map]
  refine List.map_congr_left fun r _ => ?_
  show once ((once r).filter _) = once (r.filter _)
  rw [once_filter, once_once]
theorem away_map (x : Str) (rows : List (List Str)) : away x (rows.map once) = (away x rows).map once := by
  unfold away
  rw [List.filter_map]
  refine congrArg _ (List.filter_congr fun r _ => ?_)
  show (!(once r).contains x) = !r.contains x
  rw [contains_once]
theorem away_once (x : Str) (rows : List (List Str)) : (away x (rows.map once)).map once = (away x rows).map once := by
  rw [away_map, List.map_map]
  exact List.map_congr_left fun r _ => once_once r
theorem grown_once (rows : List (List Str)) : grown (rows.map once) = grown rows := grown_congr fun x => mtAll_once x rows
end K1
namespace K1
open PySem PySem.Spec PyProof.Rows L2 Gr GxR Srx Skx Dcx
theorem strike_grown (x : Str) (rows : List (List Str)) : grown (strike x (rows.map once)) = (grown rows).filter fun z => !z.contains x := by
  refine (grown_one ((grown_nodup rows).filter _) ((grown_sorted rows).filter _) fun z => ?_).symm
  rw [List.mem_filter, grown_mem, lst_strike, lst_congr (rows := rows.map once) (rows' := rows) fun y => mtAll_once y rows]
  refine and_congr_right fun _ => ?_
  rw [Bool.not_eq_true', Bool.eq_false_iff, Ne, List.contains_iff_mem]
theorem away_no {x : Str} {rows : List (List Str)} {z : List Str} (h : z ∈ grown (away x rows)) : x ∉ z := by
  intro hx
  obtain ⟨r, hr, hy, _⟩ := (lst_own.mp (grown_mem.mp h)).2.2 x hx
  exact (away_mem.mp hr).2 hy
theorem srt_snoc {z : List Str} {x : Str} (hz : Ris z) (hx : x ∉ z) : srt (z ++ [x]) = once (z ++ [x]) :=
  (once_srt (List.nodup_append.mpr ⟨hz.nodup, by simp, fun a ha b hb e => hx (by rw [← List.mem_singleton.mp hb, ← e]; exact ha)⟩)).symm
theorem with_perm {x : Str} {rows : List (List Str)} : List.Perm (((grown (away x rows)).filter fun z => !mtAll z rows).map fun z => srt (z ++ [x])) ((grown rows).filter fun z => z.contains x) := by
  have m1 : ∀ z ∈ (grown (away x rows)).filter (fun z => !mtAll z rows), Ris z ∧ x ∉ z ∧ Lst (away x rows) z ∧ mtAll z rows = false := by
    intro z hz
    obtain ⟨h1, h2⟩ := List.mem_filter.mp hz
    exact ⟨grown_ris _ z h1, away_no h1, grown_mem.mp h1, by simpa using h2⟩
  refine (List.perm_ext_iff_of_nodup ?_ ((grown_nodup rows).filter _)).mpr fun y => ?_
  · refine List.pairwise_map.mpr (((grown_nodup (away x rows)).filter _).imp_of_mem fun {a b} ha hb ne e => ne ?_)
    obtain ⟨a1, a2, _⟩ := m1 a ha
    obtain ⟨b1, b2, _⟩ := m1 b hb
    rw [srt_snoc a1 a2, srt_snoc b1 b2] at e
    have key : ∀ {u v : List Str}, x ∉ u → once (u ++ [x]) = once (v ++ [x]) → wi u v = true := by
      intro u v hu e
      refine wi_iff.mpr fun y hy => ?_
      have : y ∈ once (v ++ [x]) := e ▸ once_mem.mpr (List.mem_append_left _ hy)
      rcases List.mem_append.mp (once_mem.mp this) with h | h
      · exact h
      · rw [List.mem_singleton.mp h] at hy
        exact absurd hy hu
    exact wi_anti a1 b1 (key a2 e) (key b2 e.symm)
  · rw [List.mem_filter, grown_mem, List.contains_iff_mem, lst_with, List.mem_map]
    constructor
    · rintro ⟨z, hz, rfl⟩
      obtain ⟨h1, h2, h3, h4⟩ := m1 z hz
      exact ⟨z, h3, h4, srt_snoc h1 h2⟩
    · rintro ⟨s, h3, h4, rfl⟩
      have hs : s ∈ grown (away x rows) := grown_mem.mpr h3
      exact ⟨s, List.mem_filter.mpr ⟨hs, by rw [h4]; rfl⟩, srt_snoc h3.1 (away_no hs)⟩
end K1
namespace K1
open PySem PySem.Spec PyProof.Rows L2 Gr GxR Srx Skx Dcx
def spLawG (K : PySem.W.Frag) (N : TabN) : Sp := fun vs H Q _ => ∃ (a : Addr) (ns : List Int), vs = [.ref a] ∧ SqL K H a (ns.map V.int) ∧ N.G H ∧ ∀ H', Q (.bl true) H'
end K1
end
section
set_option maxHeartbeats 8000000
namespace K1
open PySem PySem.Spec PyProof.Rows L2 Gr GxR Srx Skx Dcx
/-- what is neither a book's object nor its dict stays -/
structure Sqs (H H' : Hp) : Prop where
  at_ : ∀ a o, H a = some o → (∀ ps, o ≠ .tbl ps) → (∀ C dx f, o ≠ .ins C dx f) → (∀ kv, o ≠ .dK kv) → H' a = some o
theorem Sqs.lst {H H' : Hp} (g : Sqs H H') {a : Addr} {xs : List V} (e : H a = some (.lst xs)) : H' a = some (.lst xs) := g.at_ a _ e (fun _ z => nomatch z) (fun _ _ _ z => nomatch z) (fun _ z => nomatch z)
theorem Sqs.ll {H H' : Hp} (g : Sqs H H') {a : Addr} {ps : List (Addr × List Str)} (h : LL H a ps) : LL H' a ps := ⟨g.lst h.at_, fun q hq => g.lst (h.own q hq)⟩
theorem Sqs.seq {K : PySem.W.Frag} {H H' : Hp} (g : Sqs H H') {a : Addr} {xs : List V} (h : SqL K H a xs) : SqL K H' a xs := by
  rcases h with (h | ⟨o, h⟩) | h
  · exact .inl (.inl (g.lst h))
  · exact .inl (.inr ⟨o, g.at_ _ _ h (fun _ z => nomatch z) (fun _ _ _ z => nomatch z) (fun _ z => nomatch z)⟩)
  · exact .inr h
theorem Sqs.seqT {K : PySem.W.Frag} {H H' : Hp} (g : Sqs H H') {a : Addr} {xs : List V} (h : SqT K H a xs) : SqT K H' a xs := by
  rcases h with (h | ⟨o, h⟩) | h
  · exact .inl (.inl (g.at_ _ _ h (fun _ z => nomatch z) (fun _ _ _ z => nomatch z) (fun _ z => nomatch z)))
  · exact .inl (.inr ⟨o, g.at_ _ _ h (fun _ z => nomatch z) (fun _ _ _ z => nomatch z) (fun _ z => nomatch z)⟩)
  · exact .inr h
mutual
theorem dp_sq {K : PySem.W.Frag} {H H' : Hp} (g : Sqs H H') : ∀ (d : PyData) (v : V), Dp K H v d → Dp K H' v d
  | .none, v, h => by cases h; exact .non
  | .bool b, v, h => by cases h; exact .bl b
  | .int i, v, h => by cases h; exact .int i
  | .str x, v, h => by cases h; exact .str x
  | .list ds, v, h => by
    cases h with
    | lst hs ha => exact .lst (g.seq hs) (dpAll_sq g ds _ ha)
  | .tuple ds, v, h => by
    cases h with
    | tup hs ha => exact .tup (g.seqT hs) (dpAll_sq g ds _ ha)
  | .dict _, v, h => by cases h
theorem dpAll_sq {K : PySem.W.Frag} {H H' : Hp} (g : Sqs H H') : ∀ (ds : List PyData) (vs : List V), DpAll K H vs ds → DpAll K H' vs ds
  | [], vs, h => by cases h; exact .nil
  | d :: ds, vs, h => by
    cases h with
    | cons h1 h2 => exact .cons (dp_sq g d _ h1) (dpAll_sq g ds _ h2)
end
theorem Sqs.dp {K : PySem.W.Frag} {H H' : Hp} (g : Sqs H H') {d : PyData} {v : V} (h : Dp K H v d) : Dp K H' v d := dp_sq g d v h
theorem Sqs.trans {H H1 H2 : Hp} (g : Sqs H H1) (h : Sqs H1 H2) : Sqs H H2 := ⟨fun a o e n1 n2 n3 => h.at_ a o (g.at_ a o e n1 n2 n3) n1 n2 n3⟩
theorem Sqs.gr {H H' : Hp} (g : Gr H H') : Sqs H H' := ⟨fun a o e n1 _ _ => g.at_ a o e n1⟩
theorem Bk.off {X : Addr → Prop} {C b d : Addr} {H H' : Hp} {tb : Tb1} {n : Int} (B : Bk C H b d tb n) (g : GrX X H H') (h : ∀ z, X z → z = b ∨ z = d) : Sqs H H' := by
  obtain ⟨dx, e1⟩ := B.ob
  refine ⟨fun a o e n1 n2 n3 => g.at_ a o (fun hx => ?_) e n1⟩
  rcases h a hx with rfl | rfl
  · rw [e1] at e
    exact n2 _ _ _ (Option.some.inj e).symm
  · rw [B.dc] at e
    exact n3 _ (Option.some.inj e).symm
/-- another book stays -/
theorem Bk.off2 {X : Addr → Prop} {C b d b2 d2 : Addr} {H H' : Hp} {tb tb2 : Tb1} {n n2 : Int} (B : Bk C H b d tb n) (g : GrX X H H') (h : ∀ z, X z → z = b ∨ z = d) (B2 : Bk C H b2 d2 tb2 n2) (n1 : b2 ≠ b) (nd : d2 ≠ d) : Bk C H' b2 d2 tb2 n2 := by
  obtain ⟨dx, e1⟩ := B.ob
  obtain ⟨dx2, e2⟩ := B2.ob
  refine B2.grx g (fun z => ?_) (fun z => ?_) fun e he z => ?_
  · rcases h _ z with z | z
    · exact n1 z
    · rw [z, B.dc] at e2
      cases e2
  · rcases h _ z with z | z
    · have := B2.dc
      rw [z, e1] at this
      cases this
    · exact nd z
  · have := B2.own e he
    rcases h _ z with z | z
    · rw [z, e1] at this
      cases this
    · rw [z, B.dc] at this
      cases this
/-- a book made anew is no older one -/
theorem NewB.apart {C b d b2 d2 : Addr} {H H' : Hp} {tb tb2 : Tb1} {n2 : Int} {rows : List (List Str)} (NB : NewB C H H' b d tb rows) (B2 : Bk C H b2 d2 tb2 n2) : b2 ≠ b ∧ d2 ≠ d := by
  obtain ⟨dx, e1⟩ := B2.ob
  exact ⟨ne_of_none e1 NB.nb, ne_of_none B2.dc NB.ndd⟩
theorem unions_once (A B : List (List Str)) : unions (A.map once) (B.map once) = unions A B := by
  unfold unions
  rw [List.flatMap_map]
  congr 1
  funext a
  rw [List.map_map]
  refine List.map_congr_left fun b _ => once_congr fun y => ?_
  rw [List.mem_append, List.mem_append, once_mem, once_mem]
theorem map_once_once (A : List (List Str)) : (A.map once).map once = A.map once := by
  rw [List.map_map]
  exact List.map_congr_left fun r _ => once_once r
theorem unions_ris (A B : List (List Str)) : ∀ z ∈ unions A B, Ris z := fun z hz => by
  obtain ⟨a, _, b, _, rfl⟩ := unions_mem.mp hz
  exact ris_once _
theorem unions_len (A B : List (List Str)) : (unions A B).length = A.length * B.length := flat_len (fun a b => once (a ++ b)) B A
theorem cut6 (xs : List Str) : cutV (xs.map V.str) none (some 6) = (xs.take 6).map V.str := by
  unfold cutV
  rw [HT.sIx_none, List.drop_zero, show (some (6 : Int)) = some ((6 : Nat) : Int) from rfl, HT.sIx_nat, Nat.sub_zero, List.map_take, List.length_map]
  by_cases h : 6 ≤ xs.length
  · rw [Nat.min_eq_left h]
  · rw [Nat.min_eq_right (by omega), List.take_of_length_le (by rw [List.length_map]; omega), List.take_of_length_le (by rw [List.length_map]; omega)]
theorem TabN.G.young {N : TabN} {H H' : Hp} (h : N.G H) (g : Gr H H') : N.G H' := h.gr g
end K1
end
section
set_option maxHeartbeats 4000000
namespace K1
open PySem PySem.Spec PyProof.Rows L2 Gr GxR Srx Skx Dcx
def zL : List Nat := [122, 122, 122, 122]
theorem zz_eq : Str.ofString "zzzz" = SX.S zL := by decide +kernel
theorem zz_nm : isNm (Str.ofString "zzzz") = true := by decide +kernel
theorem S_inj {a b : List Nat} (h : SX.S a = SX.S b) : a = b := by
  have := congrArg (fun s : Str => s.cps.toList) h
  simpa using this
theorem drop_head (d : Nat) (h : d ≤ 17) : ∃ r, L0.drop d = (97 + d) :: r := by
  refine ⟨L0.drop (d + 1), ?_⟩
  have hd : d < L0.length := by rw [L0_len]; omega
  rw [List.drop_eq_getElem_cons hd]
  congr 1
  have := L0_at (j := d) (by omega)
  rw [List.getElem?_eq_getElem hd] at this
  exact Option.some.inj this
theorem zz_not (c : Int) : Str.ofString "zzzz" ∉ names c := by
  rw [zz_eq]
  have d9 : (c / 28 % 18).toNat ≤ 17 := by
    have := Int.emod_lt_of_pos (c / 28) (show (0 : Int) < 18 by omega)
    omega
  unfold names
  intro h
  split at h
  · obtain ⟨k, _, e⟩ := List.mem_map.mp h
    have e := S_inj e
    obtain ⟨r, er⟩ := drop_head _ d9
    rw [er, List.take_succ_cons] at e
    unfold zL at e
    injection e with e1 _
    omega
  · split at h
    · obtain ⟨k, _, e⟩ := List.mem_map.mp h
      have e := congrArg List.length (S_inj e)
      have tl : (turned (c / 28 % 18).toNat).length = 8 := by
        unfold turned
        rw [List.length_take, List.length_drop, L0_len]
        omega
      rw [List.length_append, List.length_drop, List.length_take, tl] at e
      have : zL.length = 4 := rfl
      omega
    · obtain ⟨k, _, e⟩ := List.mem_map.mp h
      have e := S_inj e
      have el := congrArg List.length e
      have bl : (baseOf c (c / 28 % 8).toNat).length = (c / 28 % 8).toNat := by
        unfold baseOf
        rw [List.length_map, List.length_range]
      generalize hs : (c / 28 % 8).toNat = sz at e el bl
      generalize (c / 7 % (c / 28 % 8 + 1)).toNat = at_ at e el
      have zl : zL.length = 4 := rfl
      rw [List.length_append, List.length_append, List.length_take, List.length_drop, bl, List.length_singleton, zl] at el
      have sz3 : sz = 3 := by omega
      subst sz3
      have all : ∀ x ∈ baseOf c 3, x = 122 := by
        intro x hx
        have hx : x ∈ (baseOf c 3).take at_ ++ (baseOf c 3).drop at_ := by rw [List.take_append_drop]; exact hx
        have : x ∈ zL := by
          rw [← e]
          rcases List.mem_append.mp hx with h1 | h1
          · exact List.mem_append_left _ (List.mem_append_left _ h1)
          · exact List.mem_append_right _ h1
        unfold zL at this
        simpa using this
      have a0 := all (let_ (c / 224 + 5 * ((0 : Nat) : Int))) (List.mem_map.mpr ⟨0, List.mem_range.mpr (by omega), rfl⟩)
      have a1 := all (let_ (c / 224 + 5 * ((1 : Nat) : Int))) (List.mem_map.mpr ⟨1, List.mem_range.mpr (by omega), rfl⟩)
      rw [let_eq] at a0 a1
      omega
theorem pared_once (A : List (List Str)) (x : List Str) : pared (A.map once) x = pared A x := by
  unfold pared
  have e : pareStep (A.map once) = pareStep A := by
    funext l n
    unfold pareStep
    rw [mtAll_once]
  rw [e]
/-- the filter that finds a row of its own -/
theorem alone_iff {asked r : List Str} {x : Str} (h : Ris asked) (hx : x ∈ asked) : asked.filter r.contains = [x] ↔ x ∈ r ∧ ∀ z ∈ asked, z ∈ r → z = x := by
  constructor
  · intro e
    have m : x ∈ asked.filter r.contains := by rw [e]; exact List.mem_cons_self
    refine ⟨List.contains_iff_mem.mp (List.mem_filter.mp m).2, fun z hz hr => ?_⟩
    have m2 : z ∈ asked.filter r.contains := List.mem_filter.mpr ⟨hz, List.contains_iff_mem.mpr hr⟩
    rw [e] at m2
    exact List.mem_singleton.mp m2
  · rintro ⟨h1, h2⟩
    have n1 : (asked.filter r.contains).Nodup := h.nodup.filter _
    have p : (asked.filter r.contains).Perm [x] := (List.perm_ext_iff_of_nodup n1 (by simp)).mpr fun z => by
      rw [List.mem_filter, List.contains_iff_mem, List.mem_singleton]
      exact ⟨fun ⟨a, b⟩ => h2 z a b, fun e => e ▸ ⟨hx, h1⟩⟩
    exact List.perm_singleton.mp p
theorem own_some {tb : Tb1} {asked : List Str} {x : Str} : (firstOwn tb asked x).isSome = true ↔ ∃ r ∈ rws tb, asked.filter r.contains = [x] := by
  unfold firstOwn
  rw [Option.isSome_map, List.find?_isSome]
  constructor
  · rintro ⟨e, he, p⟩
    exact ⟨e.2.2, rws_mem he, of_decide_eq_true p⟩
  · rintro ⟨r, hr, p⟩
    obtain ⟨e, he, rfl⟩ := List.mem_map.mp hr
    exact ⟨e, he, decide_eq_true p⟩
theorem own_lst {tb : Tb1} {asked : List Str} (h : Ris asked) (m : mtAll asked (rws tb) = true) : (∀ x ∈ asked, (firstOwn tb asked x).isSome = true) ↔ Lst (rws tb) asked := by
  rw [lst_own]
  constructor
  · intro hx
    refine ⟨h, m, fun y hy => ?_⟩
    obtain ⟨r, hr, e⟩ := own_some.mp (hx y hy)
    obtain ⟨h1, h2⟩ := (alone_iff h hy).mp e
    exact ⟨r, hr, h1, h2⟩
  · rintro ⟨_, _, h3⟩ x hx
    obtain ⟨r, hr, h1, h2⟩ := h3 x hx
    exact own_some.mpr ⟨r, hr, (alone_iff h hx).mpr ⟨h1, h2⟩⟩
/-- a name more than meets all has no row of its own -/
theorem own_more {tb : Tb1} {due asked : List Str} {z : Str} (hm : mtAll due (rws tb) = true) (sub : ∀ y ∈ due, y ∈ asked) (hz : z ∉ due) : firstOwn tb asked z = none := by
  cases h : firstOwn tb asked z with
  | none => rfl
  | some k =>
    obtain ⟨r, hr, e⟩ := own_some.mp (show (firstOwn tb asked z).isSome = true by rw [h]; rfl)
    obtain ⟨y, hy, hyr⟩ := mtAll_iff.mp hm r hr
    have : y ∈ asked.filter r.contains := List.mem_filter.mpr ⟨sub y hy, List.contains_iff_mem.mpr hyr⟩
    rw [e] at this
    exact absurd (List.mem_singleton.mp this ▸ hy) hz
end K1
end
section
set_option maxHeartbeats 4000000
/-! >= of data that are alike -/
namespace K1
open PySem PySem.Spec PyProof.Rows L2 Gr GxR Srx Skx Dcx
open PySem.W (dataLt alike)
def rGeD (K : PySem.W.Frag) : R2 := fun x y H Q => ∃ d e, Dp K H x d ∧ Dp K H y e ∧ alike d e = true ∧ d ≠ .none ∧ PyData.depth d ≤ 64 ∧ Q (.bl (!dataLt d e)) H
theorem op_geD {X : Cx} (hu : X.A.units + 64 < cLine) : OpR X (compareOp .GtE) (rGeD X.K) := by
  intro pins s σ H x y v u Q I rx ry h
  obtain ⟨d, e, hd, he, al, nn, dl, q⟩ := h
  obtain ⟨as, r1⟩ := Dp.reads I d x v hd rx
  obtain ⟨bs, r2⟩ := Dp.reads I e y u he ry
  exact PySem.W.rcGe_alike d e X.A s v u as bs r1 r2 al nn (by omega) _ _ _ _ ⟨.bl _, H, I, rfl, q⟩
/-- by rank: neither below nor alike -/
theorem ge_rk (a b : List Str) : (!dataLt (rk a) (rk b)) = leR b a := rfl
theorem alike_rk (a b : List Str) : alike (rk a) (rk b) = true := ordRk.1 a b
end K1
namespace K1
open PySem PySem.Spec PyProof.Rows L2 Gr GxR Srx Skx Dcx
/-- len of a set of texts -/
def rLenTx (w : World) : List V → Hp → VK → Prop := fun vs H Q => ∃ (a : Addr) (ks : List Str), vs = [V.ref a] ∧ H a = some (SetTx w a ks) ∧ Q (.int (ks.length : Nat)) H
theorem call_lenTx {X : Cx} : CallR X (.builtin "len") (rLenTx X.w) := by
  intro pins s σ H vs us Q I r h
  obtain ⟨a, ks, rfl, ha, q⟩ := h
  rw [Vals.ref1 r]
  obtain ⟨o, es, ep, t, ho, hex, hd, g, pm0, nd, hb, hf, hr, hl⟩ := setTx_get I ha
  have e : es.size = ks.length := by
    have h1 := pm0.length_eq
    rw [List.length_map, Array.length_toList] at h1
    exact h1
  have sb : (scanBound : Int) ≤ 2 ^ 62 := by decide +kernel
  refine PySem.call_len_set ho hex hd hf (by omega) ⟨.int (es.size : Nat), H, I.kept (t' := s.toks + 1 + 1) (fun _ _ z => z), ⟨_, rfl⟩, ?_⟩
  rw [e]
  exact q
end K1
namespace K1
open PySem PySem.Spec PyProof.Rows L2 Gr GxR Srx Skx Dcx
/-- a number or None is neither True nor False -/
def rIsF : R2 := fun x y H Q => ∃ (b : Bool), ((∃ i : Int, x = .int i) ∨ x = .non) ∧ y = .bl b ∧ Q (.bl false) H
theorem op_isF {X : Cx} : OpR X (compareOp .Is) rIsF := by
  intro pins s σ H x y v u Q I rx ry h
  obtain ⟨b, hx, rfl, q⟩ := h
  cases (show u = Value.bool b from ry)
  rcases hx with ⟨i, rfl⟩ | rfl
  · obtain ⟨t, rfl⟩ := rx
    exact wpAny_is_other rfl (fun z => nomatch z) ⟨.bl false, H, I, rfl, q⟩
  · cases (show v = Value.none from rx)
    exact wpAny_is_other rfl (fun z => nomatch z) ⟨.bl false, H, I, rfl, q⟩
/-- a number is neither True nor False -/
def rIsB : R2 := fun x y H Q => ∃ (i : Int) (b : Bool), x = .int i ∧ y = .bl b ∧ Q (.bl false) H
theorem op_isB {X : Cx} : OpR X (compareOp .Is) rIsB := by
  intro pins s σ H x y v u Q I rx ry h
  obtain ⟨i, b, rfl, rfl, q⟩ := h
  obtain ⟨t, rfl⟩ := rx
  cases (show u = Value.bool b from ry)
  exact wpAny_is_other rfl (fun z => nomatch z) ⟨.bl false, H, I, rfl, q⟩
end K1
end
section
set_option maxHeartbeats 4000000
/-! dicts compared with {}; sorted keys; tables -/
namespace K1
open PySem PySem.Spec PyProof.Rows L2 Gr GxR Srx Skx Dcx
def rEqE : R2 := fun x y H Q => ∃ a b kvs, x = .ref a ∧ y = .ref b ∧ H a = some (.dK kvs) ∧ H b = some (.dK []) ∧ Q (.bl kvs.isEmpty) H
def rNeE : R2 := fun x y H Q => ∃ a b kvs, x = .ref a ∧ y = .ref b ∧ H a = some (.dK kvs) ∧ H b = some (.dK []) ∧ Q (.bl (!kvs.isEmpty)) H
theorem kv_nil {vs : List (Key × Value)} (r : KV ([] : List (Key × V)) vs) : vs = [] := by
  have h := Paired.length r
  cases vs with
  | nil => rfl
  | cons a b => cases h
theorem op_eqE {X : Cx} (hu : X.A.units < cLine) : OpR X (compareOp .Eq) rEqE := by
  intro pins s σ H x y v u Q I rx ry h
  obtain ⟨a, b, ks, rfl, rfl, ea, eb, q⟩ := h
  obtain rfl : v = Value.ref a := rx
  obtain rfl : u = Value.ref b := ry
  obtain ⟨_, ya, va, ra, da⟩ := (show ObjOk X.prog X.w H s.heap a (.dK ks) from I.hok a _ ea)
  obtain ⟨_, yb, vb, rb, db⟩ := (show ObjOk X.prog X.w H s.heap b (.dK []) from I.hok b _ eb)
  have hb := kv_nil rb
  subst hb
  have hl : ks.length = va.length := Paired.length ra
  refine PySem.W.keq_eq (knd := mixKind X.prog X.w) (r := true) ya yb da db hu (fun e => ?_) (fin_bl I q ?_)
  · cases va with
    | nil => exact .nil
    | cons c r => cases e
  · rw [Bool.and_true]
    cases ks with
    | nil => rw [List.length_nil] at hl; rw [← hl]; rfl
    | cons c r => rw [← hl]; rfl
theorem op_neE {X : Cx} (hu : X.A.units < cLine) : OpR X (compareOp .NotEq) rNeE := by
  intro pins s σ H x y v u Q I rx ry h
  obtain ⟨a, b, ks, rfl, rfl, ea, eb, q⟩ := h
  obtain rfl : v = Value.ref a := rx
  obtain rfl : u = Value.ref b := ry
  obtain ⟨_, ya, va, ra, da⟩ := (show ObjOk X.prog X.w H s.heap a (.dK ks) from I.hok a _ ea)
  obtain ⟨_, yb, vb, rb, db⟩ := (show ObjOk X.prog X.w H s.heap b (.dK []) from I.hok b _ eb)
  have hb := kv_nil rb
  subst hb
  have hl : ks.length = va.length := Paired.length ra
  refine PySem.W.keq_ne (knd := mixKind X.prog X.w) (r := true) ya yb da db hu (fun e => ?_) (fin_bl I q ?_)
  · cases va with
    | nil => exact .nil
    | cons c r => cases e
  · rw [Bool.and_true]
    cases ks with
    | nil => rw [List.length_nil] at hl; rw [← hl]; rfl
    | cons c r => rw [← hl]; rfl
theorem hu1 {k : Nat} {A : Around} (hr : Room k A) : A.units < cLine := by
  have := hr.un
  omega
/-! ### sorted texts, once more -/
theorem ltCps_iff : ∀ a b : List Nat, ltCps a b = true ↔ a < b
  | [], [] => ⟨fun z => (nomatch z), fun z => absurd z (List.not_lt_nil _)⟩
  | [], _ :: _ => ⟨fun _ => List.nil_lt_cons _ _, fun _ => rfl⟩
  | _ :: _, [] => ⟨fun z => (nomatch z), fun z => absurd z (List.not_lt_nil _)⟩
  | a :: r, b :: t => by
    rw [List.cons_lt_cons_iff, ← ltCps_iff r t]
    show (decide (a < b) || (a == b && ltCps r t)) = true ↔ _
    rw [Bool.or_eq_true, Bool.and_eq_true, decide_eq_true_eq, beq_iff_eq]
theorem rising_pw : ∀ (p : Str) (l : List Str), risingS p l = true → (p :: l).Pairwise (fun a b => leS a b = true)
  | p, [], _ => List.pairwise_singleton _ _
  | p, x :: r, h => by
    have h : (!ltCps x.cps.toList p.cps.toList && risingS x r) = true := h
    rw [Bool.and_eq_true, Bool.not_eq_true', Bool.eq_false_iff, Ne, ltCps_iff] at h
    have ih := rising_pw x r h.2
    have px : leS p x = true := leS_iff.mpr (List.not_lt.mp h.1)
    refine List.pairwise_cons.mpr ⟨fun y hy => ?_, ih⟩
    rcases List.mem_cons.mp hy with e | hy
    · rw [e]; exact px
    · exact leS_trans px (List.rel_of_pairwise_cons ih hy)
theorem sortedS_pw {l : List Str} (h : sortedS l = true) : l.Pairwise (fun a b => leS a b = true) := by
  cases l with
  | nil => exact .nil
  | cons x r => exact rising_pw x r h
def rSortD : List V → Hp → VK → Prop := fun xs H Q => ∃ (a : Addr) (kvs : List (Key × V)) (ks : List Str), xs = [V.ref a] ∧ Rd H a (.dK kvs) ∧ kvs.map (·.1) = ks.map Sum.inr ∧ ks.length < 64 ∧ ∀ ys p, ys.Perm ks → sortedS ys = true → H p = none → Q (.ref p) (upd H p (.lst (ys.map V.str)))
theorem call_sortedK {X : Cx} (hc : X.calm = true) : CallR X (.builtin "sorted") rSortD := call_sortedD hc
/-- sorted(d), d a dict with names for keys -/
theorem sortedKeys {H : Hp} {a : Addr} {l : List Str} {σ : L2.St} {Q : VK} (h : H a = some (.dK (kvK l))) (nd : l.Nodup) (few : l.length < 64) (q : ∀ p, H p = none → Q (.ref p) (upd H p (.lst ((once l).map V.str)))) :
    tNil σ H fun ys H2 => rSortD (V.ref a :: ys) H2 Q := by
  refine ⟨a, kvK l, l, rfl, .inl h, ?_, few, fun ys p pm so np => ?_⟩
  · unfold kvK
    rw [List.map_map]
    rfl
  · rw [show ys = once l from ?_]
    · exact q p np
    · rw [once_same nd fun _ => Iff.rfl]
      exact sorted_one (pm.trans (srt_perm l).symm) (sortedS_pw so) (srt_sorted l)
/-- sorted(xs), rising numbers -/
theorem sortedI {K : PySem.W.Frag} {H : Hp} {a : Addr} {ns : List Int} {σ : L2.St} {Q : VK} (h : SqL K H a (ns.map V.int)) (so : ns.Pairwise (· < ·)) (few : ns.length < 64) (q : ∀ p, H p = none → Q (.ref p) (upd H p (.lst (ns.map V.int)))) :
    tNil σ H fun ys H2 => rSorted K (V.ref a :: ys) H2 Q := by
  refine ⟨a, ns, rfl, h, few, fun ys p pm s2 np => ?_⟩
  rw [show ys = ns from List.Perm.eq_of_pairwise (fun a b _ _ z1 z2 => Int.le_antisymm z1 z2) s2 (so.imp fun z => Int.le_of_lt z) pm]
  exact q p np
/-! ### what stands apart from some objects -/
noncomputable def hide (X : Addr → Prop) (H : Hp) : Hp := fun b => open Classical in if X b then none else H b
theorem hide_in {X : Addr → Prop} {H : Hp} {b : Addr} (h : ¬ X b) : hide X H b = H b := by
  unfold hide
  rw [if_neg h]
theorem hide_out {X : Addr → Prop} {H : Hp} {b : Addr} {o : HO} (h : hide X H b = some o) : ¬ X b ∧ H b = some o := by
  unfold hide at h
  by_cases x : X b
  · rw [if_pos x] at h; cases h
  · rw [if_neg x] at h; exact ⟨x, h⟩
theorem GrX.hide {X : Addr → Prop} {H H' : Hp} (g : GrX X H H') : Gr (hide X H) (hide X H') :=
  ⟨fun b o e n => by
    obtain ⟨x, e⟩ := hide_out e
    rw [hide_in x]
    exact g.at_ b o x e n, fun b ps e => by
    obtain ⟨x, e⟩ := hide_out e
    obtain ⟨p, e1, k⟩ := g.tab b ps e
    exact ⟨p, by rw [hide_in x]; exact e1, k⟩⟩
theorem gr_unhide (X : Addr → Prop) (H : Hp) : Gr (hide X H) H :=
  ⟨fun b o e _ => (hide_out e).2, fun b ps e => ⟨ps, (hide_out e).2, fun h => h⟩⟩
/-- what has been told anew is none of X's, which stood before -/
theorem new_out {X : Addr → Prop} {H : Hp} {b : Addr} (hX : ∀ z, X z → ∃ o, H z = some o) (h : H b = none) : ¬ X b := fun z => by
  obtain ⟨o, e⟩ := hX b z
  rw [h] at e; cases e
/-! ### a list of told pairs -/
structure DueP (H : Hp) (p : Addr) (rs : List Pr1) : Prop where
  at_ : H p = some (.lst (rs.map fun r => V.ref r.t))
  own : ∀ r ∈ rs, H r.t = some (.tup [.int r.k, .ref r.l]) ∧ H r.l = some (.lst (r.r.map V.str))
theorem ToldP.due {H H' : Hp} {p : Addr} {rs : List Pr1} (T : ToldP H H' p rs) : DueP H' p rs := ⟨T.at_, fun r hr => ⟨(T.own r hr).2.2.2.2.1, (T.own r hr).2.2.2.2.2⟩⟩
theorem DueP.gr {H H' : Hp} {p : Addr} {rs : List Pr1} (T : DueP H p rs) (g : Gr H H') : DueP H' p rs := ⟨g.lst T.at_, fun r hr => ⟨g.tup (T.own r hr).1, g.lst (T.own r hr).2⟩⟩
theorem DueP.dp {K : PySem.W.Frag} {H' : Hp} {p : Addr} {rs : List Pr1} (T : DueP H' p rs) : Dp K H' (.ref p) (pairsD (rs.map fun r => (r.k, r.r))) := by
  have gen : ∀ l : List Pr1, (∀ r ∈ l, r ∈ rs) → DpAll K H' (l.map fun r => V.ref r.t) ((l.map fun r => (r.k, r.r)).map prD) := by
    intro l
    induction l with
    | nil => intro _; exact .nil
    | cons r l ih =>
      intro h
      obtain ⟨h5, h6⟩ := T.own r (h r List.mem_cons_self)
      exact .cons (.tup (.inl (.inl h5)) (.cons (.int r.k) (.cons (dp_dS (.inl (.inl h6))) .nil))) (ih fun x hx => h x (List.mem_cons_of_mem _ hx))
  exact .lst (.inl (.inl T.at_)) (gen rs fun _ z => z)
/-! ### a table of rows by numbers -/
structure Tbl (H : Hp) (t : Addr) (tb : Tb1) : Prop where
  at_ : H t = some (.dK (kvB tb))
  own : ∀ e ∈ tb, H e.2.1 = some (.lst (e.2.2.map V.str))
theorem Tbl.gr {H H' : Hp} {t : Addr} {tb : Tb1} (T : Tbl H t tb) (g : Gr H H') : Tbl H' t tb := ⟨g.at_ _ _ T.at_ (fun _ z => nomatch z), fun e he => g.lst (T.own e he)⟩
theorem Tbl.ne {H : Hp} {t : Addr} {tb : Tb1} (T : Tbl H t tb) {e : Int × Addr × List Str} (he : e ∈ tb) : e.2.1 ≠ t := ne_of (T.own e he) T.at_ (by intro z; cases z)
theorem Tbl.locked {H : Hp} {t : Addr} {tb : Tb1} {od : Obj} (T : Tbl H t tb) : ∀ e ∈ tb, (upd H t (.frz od (.dK (kvB tb)))) e.2.1 = some (.lst (e.2.2.map V.str)) := fun e he => by rw [upd_ne (T.ne he)]; exact T.own e he
theorem kvB_keys (tb : Tb1) : (kvB tb).map (fun kv => kV kv.1) = (nums tb).map V.int := by
  unfold kvB nums
  rw [List.map_map, List.map_map]
  rfl
theorem kvB_empty (tb : Tb1) : (kvB tb).isEmpty = tb.isEmpty := by
  cases tb <;> rfl
theorem pw_nodup {ns : List Int} (h : ns.Pairwise (· < ·)) : ns.Nodup := h.imp fun z e => by rw [e] at z; exact absurd z (Int.lt_irrefl _)
theorem kvB_get {tb : Tb1} (nd : (nums tb).Nodup) {e : Int × Addr × List Str} (he : e ∈ tb) : valV (kvB tb) (Sum.inl e.1 : Key) = some (V.ref e.2.1) := by
  induction tb with
  | nil => cases he
  | cons x r ih =>
    have nd2 : x.1 ∉ nums r ∧ (nums r).Nodup := List.nodup_cons.mp nd
    unfold valV kvB
    rw [List.map_cons, List.find?_cons]
    rcases List.mem_cons.mp he with rfl | he
    · rw [decide_eq_true rfl]
      rfl
    · have ne : (Sum.inl x.1 : Key) ≠ Sum.inl e.1 := fun z => nd2.1 (by injection z with z; rw [z]; exact List.mem_map.mpr ⟨e, he, rfl⟩)
      rw [decide_eq_false ne]
      exact ih nd2.2 he
end K1
namespace K1
open PySem PySem.Spec PyProof.Rows L2 Gr GxR Srx Skx Dcx
/-- [(n, table[n]) for n in ..] -/
theorem lc_due {K : PySem.W.Frag} {a D : Addr} {j : Nat} {σ : L2.St} {vs : List Nat} {te : TE} {H1 : Hp} {Qd : Hp → Prop} {tt : Tb1}
    (hA : SqL K H1 a ((nums tt).map V.int)) (few : tt.length ≤ 1000) (hD : H1 D = none) (own : ∀ e ∈ tt, H1 e.2.1 = some (.lst (e.2.2.map V.str))) (hw : ∀ v, wipe ((wipe σ vs).set j (some v)) vs = wipe σ vs)
    (he : ∀ e ∈ tt, ∀ (H4 : Hp) (Q' : VK), Gr H1 H4 → (∀ T, H4 T = none → Q' (.ref T) (upd H4 T (.tup [.int e.1, .ref e.2.1]))) → te ((wipe σ vs).set j (some (.int e.1))) H4 Q')
    (q : ∀ H2 rs, Gr H1 H2 → DueP H2 D rs → (∀ r ∈ rs, H1 r.t = none ∧ ∃ e ∈ tt, r.l = e.2.1) → rs.map (fun r => (r.k, r.r)) = nr tt → Qd H2) :
    ∃ W : Nat → Nat → Hp → Prop, (∃ m, W 0 m (upd H1 D (.lst []))) ∧ ∀ i m H, W i m H →
      ((Itl K a).stop i H ∧ Qd H) ∨ ((Itl K a).go i H ∧ ∃ Nx : Hp → Prop, (∀ H', Nx H' → ∃ m', m' < m ∧ W (i + 1) m' H') ∧ ∀ x H', (Itl K a).yld i H x H' → gName j x (wipe σ vs) H' fun σ2 H2 => wipe σ2 vs = wipe σ vs ∧ tYes σ2 H2 fun b H3 =>
        if b = true then te σ2 H3 fun y H4 => ∃ acc, H4 D = some (.lst acc) ∧ acc.length < sizeLine ∧ Nx (upd H4 D (.lst (acc ++ [y]))) else Nx H3) := by
  refine lc_list (xs := (nums tt).map V.int) (Qd := Qd) (fun i H2 => Gr H1 H2 ∧ ∃ rs : List Pr1, H2 D = some (.lst (rs.map fun r => V.ref r.t)) ∧ (∀ r ∈ rs, H1 r.t = none ∧ r.t ≠ D ∧ H2 r.t = some (.tup [.int r.k, .ref r.l]) ∧ ∃ e ∈ tt, r.l = e.2.1 ∧ r.r = e.2.2) ∧ rs.map (fun r => (r.k, r.r)) = nr (tt.take i)) ⟨Gr.new hD, [], upd_same, fun _ z => absurd z List.not_mem_nil, rfl⟩ (fun i H2 _ h => h.1.seq hA) (fun i x H2 hx h => ?_) (fun H2 h => ?_)
  · obtain ⟨g2, rs, eD, ow, em⟩ := h
    obtain ⟨k0, hk0, rfl⟩ := get_map hx
    obtain ⟨e0, he0, rfl⟩ := get_map hk0
    have m0 := List.mem_of_getElem? he0
    have hi : i < tt.length := (List.getElem?_eq_some_iff.mp he0).1
    refine ⟨hw _, yesIf (he e0 m0 H2 _ g2 fun T nT => ⟨_, (Gr.new nT).lst eD, ?_, (g2.trans (Gr.new nT)).mut hD, rs ++ [⟨T, e0.1, e0.2.1, e0.2.2⟩], ?_, fun r hr => ?_, ?_⟩)⟩
    · have h1 := congrArg List.length em
      unfold nr at h1
      rw [List.length_map, List.length_map, List.length_take] at h1
      rw [List.length_map]
      exact small1000 (by omega)
    · rw [upd_same, List.map_append]
      rfl
    · have TD : T ≠ D := (ne_of_none eD nT).symm
      rcases List.mem_append.mp hr with hr | hr
      · obtain ⟨h1, h2, h3, h4⟩ := ow r hr
        exact ⟨h1, h2, by rw [upd_ne h2]; exact (Gr.new nT).tup h3, h4⟩
      · rw [List.mem_singleton.mp hr]
        exact ⟨g2.free nT, TD, by rw [upd_ne TD, upd_same], e0, m0, rfl, rfl⟩
    · rw [List.map_append, em]
      unfold nr
      rw [take_map he0]
      rfl
  · obtain ⟨g2, rs, eD, ow, em⟩ := h
    rw [List.length_map, show (nums tt).length = tt.length from List.length_map _, List.take_length] at em
    refine q H2 rs g2 ⟨eD, fun r hr => ?_⟩ (fun r hr => ?_) em
    · obtain ⟨h1, h2, h3, e, he, h4, h5⟩ := ow r hr
      exact ⟨h3, by rw [h4, h5]; exact g2.lst (own e he)⟩
    · obtain ⟨h1, h2, h3, e, he, h4, h5⟩ := ow r hr
      exact ⟨h1, e, he, h4⟩
end K1
namespace K1
open PySem PySem.Spec PyProof.Rows L2 Gr GxR Srx Skx Dcx
theorem upd_comm {H : Hp} {a b : Addr} {x y : HO} (h : a ≠ b) : upd (upd H a x) b y = upd (upd H b y) a x := by
  funext c
  by_cases ca : c = a
  · subst ca
    rw [upd_ne h, upd_same, upd_same]
  · by_cases cb : c = b
    · subst cb
      rw [upd_same, upd_ne ca, upd_same]
    · rw [upd_ne cb, upd_ne ca, upd_ne ca, upd_ne cb]
theorem kvB_vals (tb : Tb1) : (kvB tb).map (·.2) = (tb.map fun e => (e.2.1, e.2.2)).map fun q : Addr × List Str => V.ref q.1 := by
  unfold kvB
  rw [List.map_map, List.map_map]
  rfl
theorem tb_rows (tb : Tb1) : (tb.map fun e => (e.2.1, e.2.2)).map (fun q : Addr × List Str => q.2) = rws tb := by
  unfold rws
  rw [List.map_map]
  rfl
theorem once_ddG (l : List Str) : once (ddG l) = once l := once_congr fun _ => ddG_mem
theorem nr_len {a b : Tb1} (h : nr a = nr b) : a.length = b.length := by
  have h1 := congrArg List.length h
  unfold nr at h1
  rw [List.length_map, List.length_map] at h1
  exact h1
theorem nr_rws {a b : Tb1} (h : nr a = nr b) : rws a = rws b := by rw [rws_nr, rws_nr, h]
theorem nr_nums {a b : Tb1} (h : nr a = nr b) : nums a = nums b := by
  have e : ∀ z : Tb1, nums z = (nr z).map (·.1) := fun z => by unfold nums nr; rw [List.map_map]; rfl
  rw [e, e, h]
theorem Tok.nmsRows {tb : Tb1} {n : Int} (T : Tok tb n) : ∀ z ∈ nr tb, Nms z.2 := fun z hz => by
  unfold nr at hz
  obtain ⟨e, he, rfl⟩ := List.mem_map.mp hz
  exact (T.set e he).2
theorem isEmpty_len {a b : Tb1} (h : a.length = b.length) : a.isEmpty = b.isEmpty := by
  cases a with
  | nil => cases b with
    | nil => rfl
    | cons y s => cases h
  | cons x r => cases b with
    | nil => cases h
    | cons y s => rfl
theorem mtAll_nil (rows : List (List Str)) : mtAll [] rows = rows.isEmpty := by
  cases rows with
  | nil => rfl
  | cons r rows => rfl
theorem rws_isEmpty (tb : Tb1) : (rws tb).isEmpty = tb.isEmpty := by cases tb <;> rfl
theorem mtAll_two (xs ys : List Str) (rows : List (List Str)) (h : ∀ y ∈ ys, y ∈ xs) : mtAll (xs ++ ys) rows = mtAll xs rows := by
  rw [Bool.eq_iff_iff, mtAll_iff, mtAll_iff]
  refine forall_congr' fun r => imp_congr_right fun _ => exists_congr fun y => and_congr_left fun _ => ?_
  rw [List.mem_append]
  exact ⟨fun z => z.elim id (h y), .inl⟩
theorem ne_selfB (v : V) : (!decide (v = v)) = false := by rw [decide_eq_true rfl]; rfl
theorem eq_selfB (v : V) : decide (v = v) = true := decide_eq_true rfl
end K1
end
section
set_option maxHeartbeats 4000000
namespace K1
open PySem PySem.Spec PyProof.Rows L2 Gr GxR Srx Skx Dcx
/-- [(x, True) for x in xs] -/
theorem lc_pairs {K : PySem.W.Frag} {a D : Addr} {k : Nat} {σ : L2.St} {vs : List Nat} {H1 : Hp} {Qd : Hp → Prop} {xs : List Str}
    (hA : SqL K H1 a (xs.map V.str)) (few : xs.length ≤ 1000) (hD : H1 D = none) (hw : ∀ v, wipe ((wipe σ vs).set k (some v)) vs = wipe σ vs) (hj : ∀ v : V, ((wipe σ vs).set k (some v))[k]? = some (some v))
    (q : ∀ H2 (ts : List (Addr × Str)), Gr H1 H2 → H2 D = some (.lst ((ts.map (·.1)).map V.ref)) → Paired (fun p kv => SqT K H2 p [kV kv.1, kv.2]) (ts.map (·.1)) (kvK xs) → Qd H2) :
    ∃ W : Nat → Nat → Hp → Prop, (∃ m, W 0 m (upd H1 D (.lst []))) ∧ ∀ i m H, W i m H →
      ((Itl K a).stop i H ∧ Qd H) ∨ ((Itl K a).go i H ∧ ∃ Nx : Hp → Prop, (∀ H', Nx H' → ∃ m', m' < m ∧ W (i + 1) m' H') ∧ ∀ x H', (Itl K a).yld i H x H' → gName k x (wipe σ vs) H' fun σ2 H2 => wipe σ2 vs = wipe σ vs ∧ tYes σ2 H2 fun b H3 =>
        if b = true then tTup (tCons (tVar k) (tCons (tC (V.bl true)) tNil)) σ2 H3 fun y H4 => ∃ acc, H4 D = some (.lst acc) ∧ acc.length < sizeLine ∧ Nx (upd H4 D (.lst (acc ++ [y]))) else Nx H3) := by
  refine lc_list (K := K) (xs := xs.map V.str) (Qd := Qd) (fun i H2 => Gr H1 H2 ∧ ∃ ts : List (Addr × Str), H2 D = some (.lst (ts.map fun t => V.ref t.1)) ∧ (∀ t ∈ ts, H2 t.1 = some (.tup [.str t.2, .bl true])) ∧ ts.map (·.2) = xs.take i) ⟨Gr.new hD, [], upd_same, fun _ z => absurd z List.not_mem_nil, rfl⟩ (fun i H2 _ h => h.1.seq hA) (fun i x H2 hx h => ?_) (fun H2 h => ?_)
  · obtain ⟨g2, ts, eD, et, em⟩ := h
    obtain ⟨x0, hx0, rfl⟩ := get_map hx
    have hi : i < xs.length := (List.getElem?_eq_some_iff.mp hx0).1
    refine ⟨hw _, yesIf ⟨_, hj _, (by show 2 ≤ sizeLine; rw [sizeLine_eq]; omega), fun t nt => ⟨_, (Gr.new nt).lst eD, ?_, (g2.trans (Gr.new nt)).mut hD, ts ++ [(t, x0)], ?_, fun z hz => ?_, ?_⟩⟩⟩
    · have h1 := congrArg List.length em
      rw [List.length_map, List.length_take] at h1
      rw [List.length_map]
      exact small1000 (by omega)
    · rw [upd_same, List.map_append]
      rfl
    · have nDt : D ≠ t := ne_of_none eD nt
      rcases List.mem_append.mp hz with hz | hz
      · have h1 := et z hz
        rw [upd_ne (ne_of h1 eD (by intro z; cases z)), upd_ne (ne_of_none h1 nt)]
        exact h1
      · rw [List.mem_singleton.mp hz]
        show upd _ _ _ t = _
        rw [upd_ne nDt.symm, upd_same]
    · rw [List.map_append, em, List.take_add_one, hx0]
      rfl
  · obtain ⟨g2, ts, eD, et, em⟩ := h
    rw [List.length_map, List.take_length] at em
    refine q H2 ts g2 (by rw [List.map_map]; exact eD) ?_
    rw [← em]
    unfold kvK
    rw [List.map_map]
    clear eD em
    induction ts with
    | nil => exact .nil
    | cons t l ih => exact .cons (.inl (.inl (et t List.mem_cons_self))) (ih fun z hz => et z (List.mem_cons_of_mem _ hz))
theorem merge_once (xs : List Str) : mergeK [] (kvK xs) = kvK (ddG xs) := by
  have gen : ∀ (l acc : List Str), mergeK (kvK acc) (kvK l) = kvK (l.foldl once1 acc) := by
    intro l
    induction l with
    | nil => intro acc; rfl
    | cons x r ih =>
      intro acc
      show mergeK (putK (kvK acc) (Sum.inr x) (V.bl true)) (kvK r) = _
      rw [put_key, ih]
      rfl
  exact gen xs []
end K1
end
section
set_option maxHeartbeats 4000000
namespace K1
open PySem PySem.Spec PyProof.Rows L2 Gr GxR Srx Skx Dcx
def noneD : PyData := .tuple [.str "none", .int 0]
theorem noneD_sh : SeqAt.shaped noneD = true := by decide +kernel
theorem eqv_none : PyData.eqv noneD noneD = true := by decide +kernel
theorem dp_none {K : PySem.W.Frag} {H : Hp} {t : Addr} (e : H t = some (.tup [.str "none", .int 0])) : Dp K H (.ref t) noneD := .tup (.inl (.inl e)) (.cons (.str _) (.cons (.int _) .nil))
/-- pairs of a name and a number -/
def siD (z : Str × Int) : PyData := .tuple [.str z.1, .int z.2]
def sisD (l : List (Str × Int)) : PyData := .list (l.map siD)
theorem dp_sis {K : PySem.W.Frag} {H : Hp} {a : Addr} {ts : List (Addr × Str × Int)} (e : H a = some (.lst (ts.map fun t => V.ref t.1))) (h : ∀ t ∈ ts, H t.1 = some (.tup [.str t.2.1, .int t.2.2])) : Dp K H (.ref a) (sisD (ts.map (·.2))) := by
  have gen : ∀ l : List (Addr × Str × Int), (∀ t ∈ l, t ∈ ts) → DpAll K H (l.map fun t => V.ref t.1) ((l.map (·.2)).map siD) := by
    intro l
    induction l with
    | nil => intro _; exact .nil
    | cons t l ih =>
      intro hl
      exact .cons (.tup (.inl (.inl (h t (hl t List.mem_cons_self)))) (.cons (.str _) (.cons (.int _) .nil))) (ih fun x hx => hl x (List.mem_cons_of_mem _ hx))
  exact .lst (.inl (.inl e)) (gen ts fun _ z => z)
theorem canL_sis : ∀ l : List (Str × Int), (∀ z ∈ l, isNm z.1 = true) → PyData.canLayAll0 (l.map siD) = true
  | [], _ => by simp [PyData.canLayAll0]
  | n :: r, h => by
    have h1 := canL_strs [n.1] (fun y hy => by rw [List.mem_singleton.mp hy]; exact h n List.mem_cons_self)
    have h2 := canL_sis r fun x hx => h x (List.mem_cons_of_mem _ hx)
    simp only [List.map_cons, List.map_nil, PyData.canLayAll0, Bool.and_true] at h1
    simp only [List.map_cons, PyData.canLayAll0, h2, Bool.and_true]
    simp only [siD, PyData.canLay0, PyData.canLayAll0, Bool.and_true] at h1 ⊢
    exact h1
theorem deep_sis : ∀ l : List (Str × Int), PyData.depthAll (l.map siD) ≤ 5
  | [] => by simp [PyData.depthAll]
  | n :: r => by
    have h1 := deep_sis r
    simp only [List.map_cons, PyData.depthAll, PyData.depth, siD] at h1 ⊢
    omega
theorem sisD_sh {l : List (Str × Int)} (nm : ∀ z ∈ l, isNm z.1 = true) : SeqAt.shaped (sisD l) = true := by
  have h1 := deep_sis l
  have h2 : PyData.depth (sisD l) ≤ 64 := by simp only [sisD, PyData.depth]; omega
  show (PyData.canLay0 (sisD l) && decide (PyData.depth (sisD l) ≤ 64)) = true
  rw [Bool.and_eq_true]
  exact ⟨by simp only [sisD, PyData.canLay0]; exact canL_sis l nm, decide_eq_true h2⟩
theorem eqv_sis_none (l : List (Str × Int)) : PyData.eqv (sisD l) noneD = false := by
  unfold sisD noneD
  rfl
theorem eqv_dS_none (l : List Str) : PyData.eqv (dS l) noneD = false := by
  unfold dS noneD
  rfl
end K1
end
section
set_option maxHeartbeats 4000000
namespace K1
open PySem PySem.Spec PyProof.Rows L2 Gr GxR Srx Skx Dcx
open PySem.W (dataLe dataLt DatumOrd Datum)
theorem leR_one {x y : Str} (h : leR [x] [y] = true) : leS x y = true := by
  rw [leR_eq, Bool.not_eq_true', ← toD_eq, ← toD_eq, DatumOrd.lt_eq] at h
  have h : PySem.W.listLt [y] [x] = false := h
  unfold PySem.W.listLt at h
  by_cases e : y = x
  · rw [e]
    exact (leS_total x x).elim id id
  · rw [if_neg e] at h
    exact leS_iff.mpr (List.not_lt.mp (of_decide_eq_false h))
def oneOf (r : List Str) : List Str := if r.length = 1 then r else []
theorem oneOf_mem {r : List Str} {y : Str} : y ∈ oneOf r ↔ r = [y] := by
  unfold oneOf
  constructor
  · intro h
    split at h
    · rename_i h1
      obtain ⟨z, hz⟩ := List.length_eq_one_iff.mp h1
      rw [hz] at h ⊢
      rw [List.mem_singleton.mp h]
    · cases h
  · rintro rfl
    simp
theorem ris_ones : ∀ {L : List (List Str)}, L.Nodup → L.Pairwise (fun a b => leR a b = true) → Ris (L.flatMap oneOf)
  | [], _, _ => .nil
  | r :: L, nd, pw => by
    have nd := List.nodup_cons.mp nd
    have pw := List.pairwise_cons.mp pw
    rw [List.flatMap_cons]
    refine List.pairwise_append.mpr ⟨?_, ris_ones nd.2 pw.2, fun x hx y hy => ?_⟩
    · unfold oneOf
      split
      · rename_i h1
        obtain ⟨z, hz⟩ := List.length_eq_one_iff.mp h1
        rw [hz]
        exact List.pairwise_singleton _ _
      · exact .nil
    · obtain rfl := oneOf_mem.mp hx
      obtain ⟨r2, h2, h3⟩ := List.mem_flatMap.mp hy
      obtain rfl := oneOf_mem.mp h3
      exact ⟨leR_one (pw.1 _ h2), fun e => nd.1 (by rw [e]; exact h2)⟩
theorem needB_mem {rows : List (List Str)} {y : Str} : y ∈ needB rows ↔ [y] ∈ least rows := by
  show y ∈ (least rows).flatMap oneOf ↔ _
  rw [List.mem_flatMap]
  constructor
  · rintro ⟨r, h1, h2⟩
    rw [← oneOf_mem.mp h2]
    exact h1
  · exact fun h => ⟨_, h, oneOf_mem.mpr rfl⟩
theorem ris_needB (rows : List (List Str)) : Ris (needB rows) := ris_ones (least_nodup rows) (least_sorted rows)
theorem wi_one {z : List Str} {y : Str} (hz : Ris z) : wi z [y] = true ↔ z = [] ∨ z = [y] := by
  rw [wi_iff]
  constructor
  · intro h
    cases z with
    | nil => exact .inl rfl
    | cons a r =>
      have ea : a = y := List.mem_singleton.mp (h a List.mem_cons_self)
      cases r with
      | nil => rw [ea]; exact .inr rfl
      | cons b r2 =>
        have eb : b = y := List.mem_singleton.mp (h b (List.mem_cons_of_mem _ List.mem_cons_self))
        have := (List.pairwise_cons.mp hz).1 b List.mem_cons_self
        exact absurd (ea.trans eb.symm) this.2
  · rintro (rfl | rfl) x hx
    · cases hx
    · exact hx
theorem needed_eq {rows : List (List Str)} (nd : ∀ r ∈ rows, r.Nodup) : needB (rows.map once) = needed rows := by
  have hr := risAll_once rows
  have hn : Ris (needed rows) := by
    unfold needed
    split
    · exact .nil
    · exact ris_once _
  have key : ∀ y, y ∈ needB (rows.map once) ↔ y ∈ needed rows := fun y => by
    rw [needB_mem, least_mem hr]
    have e1 : [] ∈ rows.map once ↔ [] ∈ rows := by
      rw [List.mem_map]
      constructor
      · rintro ⟨r, h1, h2⟩
        have : r = [] := by
          refine List.eq_nil_iff_forall_not_mem.mpr fun x hx => ?_
          have := once_mem.mpr hx
          rw [h2] at this
          cases this
        rw [← this]
        exact h1
      · exact fun h => ⟨[], h, once_ris .nil⟩
    unfold needed
    constructor
    · rintro ⟨h1, h2⟩
      rw [if_neg (fun h => by
        have := h2 [] (e1.mpr h) rfl
        cases this), once_mem]
      obtain ⟨r, h3, h4⟩ := List.mem_map.mp h1
      refine List.mem_flatMap.mpr ⟨r, h3, ?_⟩
      have hl : r.length = 1 := by
        rw [← once_full (nd r h3), h4]
        rfl
      rw [if_pos hl]
      exact once_mem.mp (by rw [h4]; exact List.mem_singleton_self y)
    · intro h
      split at h
      · cases h
      · rename_i hne
        rw [once_mem] at h
        obtain ⟨r, h3, h4⟩ := List.mem_flatMap.mp h
        have h4 := oneOf_mem.mp h4
        have e2 : once r = [y] := by rw [h4]; exact once_ris (List.pairwise_singleton _ _)
        refine ⟨List.mem_map.mpr ⟨r, h3, e2⟩, fun z hz hw => ?_⟩
        rcases (wi_one (hr z hz)).mp hw with e | e
        · exact absurd (e1.mp (by rw [← e]; exact hz)) hne
        · exact e
  exact wi_anti (ris_needB _) hn (wi_iff.mpr fun y hy => (key y).mp hy) (wi_iff.mpr fun y hy => (key y).mpr hy)
theorem least_void {rows : List (List Str)} (hr : RisAll rows) (h : [] ∈ rows) : (least rows).flatten = [] := by
  refine List.eq_nil_iff_forall_not_mem.mpr fun y hy => ?_
  obtain ⟨z, hz, hy⟩ := List.mem_flatten.mp hy
  have := ((least_mem hr).mp hz).2 [] h rfl
  rw [← this] at hy
  cases hy
end K1
end
section
set_option maxHeartbeats 4000000
/-! a small table laid anew: there is room -/
namespace Sl
open PySem PySem.Spec PyProof.Rows L2
def M2 (m : Nat) : Prop := m = 7 ∨ m = 15
def hop (m i : Nat) : Nat := (i * 5 + 1) % (m + 1)
def hops (m : Nat) : Nat → Nat → Nat
  | 0, i => i
  | k + 1, i => hops m k (hop m i)
theorem cover7 : ∀ i < 8, ∀ j < 8, ∃ k, k < 8 ∧ hops 7 k i = j := by decide +kernel
theorem cover15 : ∀ i < 16, ∀ j < 16, ∃ k, k < 16 ∧ hops 15 k i = j := by decide +kernel
theorem cover {m : Nat} (hm : M2 m) {i j : Nat} (hi : i ≤ m) (hj : j ≤ m) : ∃ k, k < m + 1 ∧ hops m k i = j := by
  rcases hm with rfl | rfl
  · exact cover7 i (by omega) j (by omega)
  · exact cover15 i (by omega) j (by omega)
theorem free_succ (m : Nat) (owner : Array (Option Nat)) (fuel i p : Nat) : SetTable.layClean.free m owner (fuel + 1) i p =
    match (List.range (SetTable.runEnd m i + 1 - i)).find? fun k => (owner.getD (i + k) (some 0)).isNone with
    | some k => some (i + k)
    | none => SetTable.layClean.free m owner fuel (SetTable.leap m i p).1 (SetTable.leap m i p).2 := rfl
theorem free_here {m : Nat} {owner : Array (Option Nat)} {fuel i p : Nat} (h : oAt owner i = none) : ∃ r, SetTable.layClean.free m owner (fuel + 1) i p = some r := by
  rw [free_succ]
  cases e : (List.range (SetTable.runEnd m i + 1 - i)).find? fun k => (owner.getD (i + k) (some 0)).isNone with
  | some k => exact ⟨_, rfl⟩
  | none =>
    exfalso
    have h1 := List.find?_eq_none.mp e 0 (List.mem_range.mpr (by unfold SetTable.runEnd; split <;> omega))
    have h2 : (owner.getD (i + 0) (some 0)).isNone = true := by
      show (oAt owner i).isNone = true
      rw [h]; rfl
    exact h1 h2
theorem free_on {m : Nat} {owner : Array (Option Nat)} {fuel i p : Nat} (h : ∃ r, SetTable.layClean.free m owner fuel (SetTable.leap m i p).1 (SetTable.leap m i p).2 = some r) : ∃ r, SetTable.layClean.free m owner (fuel + 1) i p = some r := by
  rw [free_succ]
  cases e : (List.range (SetTable.runEnd m i + 1 - i)).find? fun k => (owner.getD (i + k) (some 0)).isNone with
  | some k => exact ⟨_, rfl⟩
  | none => exact h
theorem free0 {m : Nat} {owner : Array (Option Nat)} {j : Nat} (h : oAt owner j = none) : ∀ (k fuel i : Nat), hops m k i = j → k < fuel → ∃ r, SetTable.layClean.free m owner fuel i 0 = some r
  | 0, fuel, i, e, hf => by
    obtain ⟨f, rfl⟩ : ∃ f, fuel = f + 1 := ⟨fuel - 1, by omega⟩
    exact free_here (by rw [show i = j from e]; exact h)
  | k + 1, fuel, i, e, hf => by
    obtain ⟨f, rfl⟩ : ∃ f, fuel = f + 1 := ⟨fuel - 1, by omega⟩
    refine free_on ?_
    have h1 := free0 h k f (hop m i) e (by omega)
    have e1 : (SetTable.leap m i 0).1 = hop m i := by unfold SetTable.leap hop; simp
    have e2 : (SetTable.leap m i 0).2 = 0 := rfl
    rw [e1, e2]
    exact h1
theorem free1 {m : Nat} (hm : M2 m) {owner : Array (Option Nat)} {j : Nat} (hj : j ≤ m) (h : oAt owner j = none) : ∀ (d fuel i p : Nat), p < 32 ^ d → i ≤ m → d + (m + 1) ≤ fuel → ∃ r, SetTable.layClean.free m owner fuel i p = some r
  | 0, fuel, i, p, hp, hi, hf => by
    have hp : p = 0 := by
      have : p < 1 := hp
      omega
    subst hp
    obtain ⟨k, hk, e⟩ := cover hm hi hj
    exact free0 h k fuel i e (by omega)
  | d + 1, fuel, i, p, hp, hi, hf => by
    obtain ⟨f, rfl⟩ : ∃ f, fuel = f + 1 := ⟨fuel - 1, by omega⟩
    refine free_on (free1 hm hj h d f _ _ ?_ ?_ (by omega))
    · show p / 32 < 32 ^ d
      rw [Nat.pow_succ] at hp
      exact Nat.div_lt_of_lt_mul (by rw [Nat.mul_comm]; exact hp)
    · show (i * 5 + 1 + p / 32) % (m + 1) ≤ m
      have := Nat.mod_lt (i * 5 + 1 + p / 32) (show 0 < m + 1 by omega)
      omega
theorem free_sound {m : Nat} {owner : Array (Option Nat)} : ∀ (fuel i p r : Nat), SetTable.layClean.free m owner fuel i p = some r → oAt owner r = none
  | 0, i, p, r, h => by cases h
  | fuel + 1, i, p, r, h => by
    rw [free_succ] at h
    cases e : (List.range (SetTable.runEnd m i + 1 - i)).find? fun k => (owner.getD (i + k) (some 0)).isNone with
    | some k =>
      rw [e] at h
      obtain rfl : i + k = r := Option.some.inj h
      have h1 := List.find?_some e
      exact Option.isNone_iff_eq_none.mp h1
    | none =>
      rw [e] at h
      exact free_sound fuel _ _ r h
theorem oAt_lt {owner : Array (Option Nat)} {r : Nat} (h : oAt owner r = none) : r < owner.size := by
  rcases Nat.lt_or_ge r owner.size with h1 | h1
  · exact h1
  · exfalso
    have h2 : owner.getD r (some 0) = none := h
    rw [Array.getD_eq_getD_getElem?, Array.getElem?_eq_none h1] at h2
    cases h2
/-- the first k are laid, each at a place of its own -/
structure OwnS (m k : Nat) (owner : Array (Option Nat)) : Prop where
  sz : owner.size = m + 1
  ps : ∃ ps : List Nat, ps.length = k ∧ (∀ i j, ps[i]? = some j → j ≤ m ∧ oAt owner j = some i) ∧ ∀ i j, j ≤ m → oAt owner j = some i → ps[i]? = some j
theorem OwnS.init (m : Nat) : OwnS m 0 (Array.replicate (m + 1) none) :=
  ⟨by simp, [], rfl, fun i j h => absurd h (by simp), fun i j hj h => absurd h (by rw [oAt_init hj]; simp)⟩
theorem OwnS.step {m k : Nat} (hm : M2 m) {owner : Array (Option Nat)} (W : OwnS m k owner) (hk : k < 8) (h : Int) :
    ∃ j, SetTable.layClean.free m owner (SetTable.turns m) (SetTable.bits h % (m + 1)) (SetTable.bits h) = some j ∧ OwnS m (k + 1) (owner.setIfInBounds j (some k)) := by
  obtain ⟨sz, ps, hl, h1, h2⟩ := W
  have m7 : 7 ≤ m := by rcases hm with rfl | rfl <;> omega
  obtain ⟨j0, hj0, hn⟩ : ∃ j, j ≤ m ∧ oAt owner j = none := by
    refine Classical.byContradiction fun hc => ?_
    have all : ∀ j ∈ List.range (m + 1), j ∈ ps := fun j hj => by
      have hj : j ≤ m := Nat.le_of_lt_succ (List.mem_range.mp hj)
      cases e : oAt owner j with
      | none => exact absurd ⟨j, hj, e⟩ hc
      | some i => exact List.mem_of_getElem? (h2 i j hj e)
    have := nat_nodup_len _ ps List.nodup_range all
    rw [List.length_range] at this
    omega
  have hb : SetTable.bits h < 32 ^ 13 := by
    unfold SetTable.bits
    have h1 : h % (2 ^ 64 : Int) < 2 ^ 64 := Int.emod_lt_of_pos _ (by decide)
    have h2 : 0 ≤ h % (2 ^ 64 : Int) := Int.emod_nonneg _ (by decide)
    have h3 : (h % (2 ^ 64 : Int)).toNat < 2 ^ 64 := by omega
    exact Nat.lt_of_lt_of_le h3 (by decide)
  obtain ⟨j, ej⟩ := free1 hm hj0 hn 13 (SetTable.turns m) (SetTable.bits h % (m + 1)) (SetTable.bits h) hb (by have := Nat.mod_lt (SetTable.bits h) (show 0 < m + 1 by omega); omega) (by unfold SetTable.turns; omega)
  have hj := free_sound _ _ _ _ ej
  have js := oAt_lt hj
  refine ⟨j, ej, by rw [Array.size_setIfInBounds]; exact sz, ps ++ [j], by rw [List.length_append, hl]; rfl, fun i r hr => ?_, fun i r hr e => ?_⟩
  · rcases Nat.lt_or_ge i ps.length with hi | hi
    · rw [List.getElem?_append_left hi] at hr
      obtain ⟨h4, h3⟩ := h1 i r hr
      rw [oAt_set_ne _ (fun z => by rw [z, hj] at h3; cases h3)]
      exact ⟨h4, h3⟩
    · rw [List.getElem?_append_right hi] at hr
      have hi2 : i - ps.length = 0 := by
        have := (List.getElem?_eq_some_iff.mp hr).1
        simp at this
        omega
      rw [hi2] at hr
      obtain rfl : j = r := Option.some.inj hr
      rw [oAt_set_self _ js]
      rw [sz] at js
      exact ⟨by omega, congrArg some (by omega)⟩
  · by_cases c : r = j
    · rw [c, oAt_set_self _ js] at e
      obtain rfl : k = i := Option.some.inj e
      rw [← hl, List.getElem?_append_right (Nat.le_refl _), Nat.sub_self, c]
      rfl
    · rw [oAt_set_ne _ c] at e
      have h3 := h2 i r hr e
      rw [List.getElem?_append_left (List.getElem?_eq_some_iff.mp h3).1]
      exact h3
theorem layClean_fold (m : Nat) (hs : Array Int) : SetTable.layClean m hs = (hs.toList.foldl (stepF m) (some (Array.replicate (m + 1) none, 0))).map (·.1) := layClean_eq m hs
theorem fold_ok {m : Nat} (hm : M2 m) : ∀ (rest : List Int) (k : Nat) (owner : Array (Option Nat)), OwnS m k owner → k + rest.length ≤ 8 → ∃ owner', rest.foldl (stepF m) (some (owner, k)) = some (owner', k + rest.length) ∧ OwnS m (k + rest.length) owner'
  | [], k, owner, W, _ => ⟨owner, rfl, W⟩
  | h :: rest, k, owner, W, hk => by
    rw [List.length_cons] at hk
    obtain ⟨j, ej, W2⟩ := W.step hm (by omega) h
    obtain ⟨o', e2, W3⟩ := fold_ok hm rest (k + 1) _ W2 (by omega)
    refine ⟨o', ?_, ?_⟩
    · rw [List.foldl_cons, stepF_some ej, e2, List.length_cons]
      congr 2
      omega
    · rw [List.length_cons, show k + (rest.length + 1) = k + 1 + rest.length by omega]
      exact W3
theorem laid_ok {m : Nat} (hm : M2 m) {hs : Array Int} (hn : hs.size ≤ 8) (finger moves : Nat) (led plain : Bool) :
    ∃ t' order, SetTable.laid m finger moves led plain hs = some (t', order) ∧ order.toList.Perm (List.range hs.size) ∧ t'.place.size = hs.size ∧ Ris t'.place.toList ∧ t'.dummies = #[] ∧ t'.mask = m ∧ t'.led = led ∧ t'.plain = plain := by
  obtain ⟨owner, f, W⟩ := fold_ok hm hs.toList 0 _ (OwnS.init m) (by rw [Array.length_toList]; omega)
  rw [Array.length_toList, Nat.zero_add] at f W
  have ec : SetTable.layClean m hs = some owner := by rw [layClean_fold, f]; rfl
  obtain ⟨sz, ps, hl, h1, h2⟩ := W
  refine ⟨{ mask := m, place := ((liveOf m owner).map (·.1)).toArray, dummies := #[], finger, led, moves, plain }, ((liveOf m owner).map (·.2)).toArray, ?_, ?_⟩
  · unfold SetTable.laid
    rw [ec]
    rfl
  have ris := (ris_live (fun j => owner.getD j none) (List.range (m + 1)) (by
    unfold Ris
    first | exact List.pairwise_lt_range | exact List.pairwise_lt_range _)).1
  have r1 : Ris ((liveOf m owner).map (·.1)) := ris
  have nd : ((liveOf m owner).map (·.1)).Nodup := List.Pairwise.imp (fun h => Nat.ne_of_lt h) r1
  have all : ∀ k, k < hs.size → k ∈ (liveOf m owner).map (·.2) := fun k hk => by
    have e := List.getElem?_eq_getElem (l := ps) (i := k) (by omega)
    obtain ⟨h4, h3⟩ := h1 k _ e
    exact List.mem_map.mpr ⟨(ps[k]'(by omega), k), (mem_live sz).2 ⟨h4, h3⟩, rfl⟩
  have hlen : (liveOf m owner).length = hs.size := by
    have a := nat_nodup_len ((liveOf m owner).map (·.1)) ps nd fun x hx => by
      obtain ⟨q, hq, eq1⟩ := List.mem_map.mp hx
      obtain ⟨y, k⟩ := q
      obtain rfl : y = x := eq1
      obtain ⟨b1, b2⟩ := (mem_live sz).1 hq
      exact List.mem_of_getElem? (h2 k y b1 b2)
    have b := nat_nodup_len (List.range hs.size) ((liveOf m owner).map (·.2)) List.nodup_range fun k hk => all k (List.mem_range.mp hk)
    rw [List.length_map] at a
    rw [List.length_map, List.length_range] at b
    omega
  refine ⟨perm_range hs.size _ (by show ((liveOf m owner).map (·.2)).length = _; rw [List.length_map]; exact hlen) all, by show ((liveOf m owner).map (·.1)).toArray.size = _; rw [List.size_toArray, List.length_map]; exact hlen, r1, rfl, rfl, rfl, rfl⟩
end Sl
end
section
set_option maxHeartbeats 4000000
/-! set - set, texts -/
namespace Sd
open PySem PySem.Spec PyProof.Rows L2 Sx
open Sem (wp)
section
variable {P : Program} {w : World} {A : Around} {E : Value → Shared → Prop} {s : Shared} {a f o : Addr} {ks fs ls : List Str}
/-- what a walk gives -/
structure Got (w : World) (arr : Array (Int × Value)) (ks : List Str) : Prop where
  row : ∀ e ∈ arr.toList, Row w e
  perm : (arr.toList.map fun e => kS e.2).Perm ks
theorem walk_at {Q : Array (Int × Value) → Shared → Prop} (R : SetS w s.heap a ks) (h : ∀ arr d, Got w arr ks → Q arr { s with drawn := d }) : wpAny (model P w) A (setWalk a) Q E s := by
  obtain ⟨o, es, ep, t, ho, hex, hd, g, pm0, nd, hb, hf, hr, hl⟩ := R
  unfold setWalk
  refine wpAny_bind (wpAny_setState_of ho hd hf ?_)
  dsimp only
  refine wpAny_bind (wpAny_byText ?_)
  by_cases hbt : w.params.followText "set-order" = true
  · refine wp_if_pos hbt ?_
    have p := pick_perm (w.params.setOrder a ep) es
    exact wpAny_bind (wpAny_askSetting (wpAny_pure (h _ s.drawn ⟨fun e he => g e (p.mem_iff.mp he), (p.map _).trans pm0⟩)))
  · refine wp_if_neg hbt ?_
    try refine wpAny_bind (wpAny_pure ?_)
    by_cases hdr : (!t.plain && decide (es.size > 1)) = true
    · refine wp_if_pos hdr ?_
      refine wpAny_bind (drawOrder_at _ _ s _ (by rw [Array.length_toList]; exact Nat.le_refl _) fun ys d hp => ?_)
      refine wpAny_pure (h _ d ⟨fun e he => g e (hp.mem_iff.mp (by simpa using he)), ?_⟩)
      exact (hp.map _).trans pm0
    · refine wp_if_neg hdr ?_
      try refine wpAny_bind (wpAny_pure ?_)
      have led : t.led = true := hl.resolve_left hbt
      refine wpAny_bind (wpAny_of_eq (a := ()) ?_ ?_)
      · show (if (!t.led && decide (es.size > 1)) = true then unsupported "set:maker-not-led" else pure ()) = pure ()
        rw [led] <;> rfl
      · exact wpAny_pure (h es s.drawn ⟨g, pm0⟩)
theorem quiet_at {Q : Bool → Shared → Prop} {l : List Addr} (R : ∀ a ∈ l, ∃ ks, SetS w s.heap a ks) (h : Q true s) : wpAny (model P w) A (setsQuiet l) Q E s := by
  unfold setsQuiet
  refine wpAny_bind (wpAny_forIn_list _ (fun rest b s' => b.1 = none ∧ s' = s ∧ ∀ a ∈ rest, ∃ ks, SetS w s.heap a ks) _ (fun x rest b s' hI => ?_) (fun b s' hI => ?_) _ _ ⟨rfl, rfl, R⟩)
  · obtain ⟨hb, rfl, hR⟩ := hI
    obtain ⟨ks, R⟩ := hR x List.mem_cons_self
    obtain ⟨o, es, ep, t, ho, hex, hd, g, pm0, nd, hb2, hf, hr, hl⟩ := R
    refine wpAny_bind (wpAny_setEntries_of ho hd hf ?_)
    refine wpAny_bind (wpAny_forIn_array' _ (fun rest b s'' => b.1 = none ∧ s'' = s' ∧ ∀ e ∈ rest, Row w e) _ (fun e rest2 b2 s2 hI => ?_) (fun b2 s2 hI => ?_) _ _ ⟨rfl, rfl, g⟩)
    · obtain ⟨h1, rfl, h3⟩ := hI
      obtain ⟨i, v⟩ := e
      obtain ⟨x, tk, h4, _⟩ := (h3 (i, v) List.mem_cons_self).str
      obtain rfl : v = Value.str x tk := h4
      dsimp only
      exact wpAny_pure ⟨rfl, rfl, fun e he => h3 e (List.mem_cons_of_mem _ he)⟩
    · obtain ⟨h1, rfl, _⟩ := hI
      obtain ⟨c1, c2⟩ := b2
      obtain rfl : c1 = none := h1
      exact wpAny_pure ⟨rfl, rfl, fun a ha => hR a (List.mem_cons_of_mem _ ha)⟩
  · obtain ⟨h1, rfl, _⟩ := hI
    obtain ⟨c1, c2⟩ := b
    obtain rfl : c1 = none := h1
    exact wpAny_pure h
/-- the same set, its table's marks changed -/
theorem SetS.mark {h h' : Heap} {o1 : Obj} {es : Array (Int × Value)} {ep : Nat} {t : SetTable} (R : SetS w h f fs) (e1 : h.get? f = some o1) (e2 : o1.data = .set es ep t) {b1 b2 : Bool} (hb : w.params.followText "set-order" = true ∨ b1 = true)
    (e3 : h'.get? f = some { o1 with data := .set es (ep + 1) { t with led := b1, plain := b2 } }) : SetS w h' f fs := by
  obtain ⟨o, es', ep', t', ho, hex, hd, g, pm0, nd, hb2, hf, hr, hl⟩ := R
  rw [e1] at ho
  obtain rfl := Option.some.inj ho
  rw [hd] at e2
  obtain ⟨rfl, rfl, rfl⟩ : es' = es ∧ ep' = ep ∧ t' = t := by injection e2 with a b c; exact ⟨a, b, c⟩
  exact ⟨_, es', ep' + 1, { t' with led := b1, plain := b2 }, e3, hex, rfl, g, pm0, nd, hb2, hf, hr, hb⟩
theorem walk_unseen {Q : Array (Int × Value) → Shared → Prop} {os : List Addr} (R : SetS w s.heap a ks) (Rf : SetS w s.heap f fs) (ne : a ≠ f) (Ro : ∀ b ∈ os, ∃ ks, SetS w s.heap b ks)
    (h : ∀ arr h' d, Got w arr ks → Heap.SameBut f s.heap h' → SetS w h' f fs → Q arr { s with heap := h', drawn := d }) : wpAny (model P w) A (setWalkUnseen a os (some f)) Q E s := by
  have R0 := R
  have Rf0 := Rf
  obtain ⟨o, es, ep, t, ho, hex, hd, g, pm0, nd, hb, hf, hr, hl⟩ := R
  obtain ⟨o2, es2, ep2, t2, ho2, hex2, hd2, g2, pm2, nd2, hb2, hf2, hr2, hl2⟩ := Rf
  have fall : wpAny (model P w) A (setWalk a) Q E s := walk_at R0 fun arr d G => h arr s.heap d G (Heap.SameBut.refl _ _) Rf0
  unfold setWalkUnseen
  refine wpAny_bind (wpAny_setState_of ho hd hf ?_)
  dsimp only
  refine wpAny_bind (wpAny_byText ?_)
  by_cases h1 : (w.params.followText "set-order" || t.led && t.plain || decide (es.size ≤ 1)) = true
  · refine wp_if_pos h1 ?_
    exact fall
  · refine wp_if_neg h1 ?_
    try refine wpAny_bind (wpAny_pure ?_)
    have hbt : ¬ w.params.followText "set-order" = true := fun z => h1 (by rw [z]; rfl)
    refine wpAny_bind (quiet_at (l := a :: os) (fun b hb => ?_) ?_)
    · rcases List.mem_cons.mp hb with rfl | hb
      · exact ⟨ks, R0⟩
      · exact Ro b hb
    · refine wp_if_neg (by simp) ?_
      try refine wpAny_bind (wpAny_pure ?_)
      refine wpAny_bind (wpAny_rule ?_)
      refine wpAny_bind (wpAny_setState_of ho2 hd2 hf2 ?_)
      dsimp only
      by_cases h2 : (t2.led && !t.led || t2.plain && !t.plain) = true
      · rw [if_pos h2]
        refine wpAny_bind (wpAny_storeSet_of ho2 hd2 ?_ (fits_of_scanBound hb2))
        refine wpAny_pure (h es _ s.drawn ⟨g, pm0⟩ (Heap.SameBut.update s.heap f _) ?_)
        exact SetS.mark Rf0 ho2 hd2 (.inr (by rw [hl.resolve_left hbt, hl2.resolve_left hbt]; rfl)) (store_at ho2 hd2)
      · rw [if_neg h2]
        try refine wpAny_bind (wpAny_pure ?_)
        exact wpAny_pure (h es s.heap s.drawn ⟨g, pm0⟩ (Heap.SameBut.refl _ _) Rf0)
theorem SetS.typeIs (P : Program) (R : SetS w s.heap a ks) : s.TypeIs (.ref a) "set" := (R.setOf (P := P)).typeIs
theorem SetS.perm {h : Heap} {ks' : List Str} (R : SetS w h a ks) (p : ks.Perm ks') : SetS w h a ks' := by
  obtain ⟨o, es, ep, t, ho, hex, hd, g, pm0, nd, hb, hf, hr, hl⟩ := R
  exact ⟨o, es, ep, t, ho, hex, hd, g, pm0.trans p, p.nodup_iff.mp nd, hb, hf, hr, hl⟩
theorem anySet {Q : Bool → Shared → Prop} (R : SetS w s.heap a ks) (h : Q true s) : wpAny (model P w) A (Builtin.Frozenset.isAnySet (.ref a)) Q E s := by
  unfold Builtin.Frozenset.isAnySet
  refine wpAny_bind (wpAny_isInstance (SetS.typeIs P R) PySem.F.sub_set_set ?_)
  exact wpAny_pure h
theorem base_at {Q : Value → Shared → Prop} (R : SetS w s.heap a ks) (h : Q (.type "set") s) : wpAny (model P w) A (Builtin.Frozenset.baseOf a) Q E s := by
  unfold Builtin.Frozenset.baseOf
  refine wpAny_bind (wpAny_isInstance (SetS.typeIs P R) PySem.F.sub_set_set ?_)
  exact wpAny_pure h
theorem size_at {Q : Nat → Shared → Prop} (R : SetS w s.heap a ks) (h : Q ks.length s) : wpAny (model P w) A (Builtin.Frozenset.sizeOf a) Q E s := by
  obtain ⟨o, es, ep, t, ho, hex, hd, g, pm0, nd, hb, hf, hr, hl⟩ := R
  have e : es.size = ks.length := by
    have h1 := pm0.length_eq
    rw [List.length_map, Array.length_toList] at h1
    exact h1
  unfold Builtin.Frozenset.sizeOf
  refine wpAny_bind (wpAny_setEntries_of ho hd hf ?_)
  rw [← e] at h
  exact wpAny_pure h
theorem epoch_at {Q : Nat → Shared → Prop} {ep : Nat} {o1 : Obj} {es : Array (Int × Value)} {t : SetTable} (ho : s.heap.get? a = some o1) (hd : o1.data = .set es ep t) (hf : t.fits es.size = true) (h : Q ep s) : wpAny (model P w) A (setEpoch a) Q E s := wpAny_setEpoch_of ho hd hf h
theorem unchanged_at {Q : Unit → Shared → Prop} {id : String} {ep : Nat} {o1 : Obj} {es : Array (Int × Value)} {t : SetTable} (ho : s.heap.get? a = some o1) (hd : o1.data = .set es ep t) (hf : t.fits es.size = true) (h : Q () s) : wpAny (model P w) A (Builtin.Frozenset.unchanged id a ep) Q E s := by
  unfold Builtin.Frozenset.unchanged
  refine wpAny_bind (epoch_at ho hd hf ?_)
  refine wp_if_neg (by simp) ?_
  exact wpAny_pure h
def kept (ls : List Str) (done : List (Int × Value)) : List Str := dd ((done.map fun e => kS e.2).filter fun x => decide (x ∉ ls))
theorem kept_in {ls : List Str} {done : List (Int × Value)} {e : Int × Value} (h : kS e.2 ∈ ls) : kept ls (done ++ [e]) = kept ls done := by
  unfold kept
  rw [List.map_append, List.filter_append]
  simp [h]
theorem kept_out {ls : List Str} {done : List (Int × Value)} {e : Int × Value} (h : kS e.2 ∉ ls) : kept ls (done ++ [e]) = once (kept ls done) (kS e.2) := by
  unfold kept
  rw [List.map_append, List.filter_append]
  simp only [List.map_cons, List.map_nil, List.filter_cons, h, not_false_eq_true, decide_true, if_true, List.filter_nil]
  unfold dd
  rw [List.foldl_append]
  rfl
theorem kept_len (ls : List Str) (done : List (Int × Value)) : (kept ls done).length ≤ done.length := by
  have h1 := dd_len ((done.map fun e => kS e.2).filter fun x => decide (x ∉ ls))
  have h2 := List.length_filter_le (fun x => decide (x ∉ ls)) (done.map fun e => kS e.2)
  rw [List.length_map] at h2
  unfold kept
  omega
/-- the plain road -/
theorem diff_at {Q : Value → Shared → Prop} {id : String} (R : SetS w s.heap a ks) (Ro : SetS w s.heap o ls) (small : ¬ ks.length / 4 > ls.length) (few : ks.length + 2 < scanBound)
    (h : ∀ h' d tk, (∀ b ob, s.heap.get? b = some ob → h'.get? b = some ob) → SetS w h' s.heap.objs.size (ks.filter fun x => decide (x ∉ ls)) → Q (.ref s.heap.objs.size) { s with heap := h', drawn := d, toks := tk }) :
    wpAny (model P w) A (Builtin.Frozenset.difference id a (.ref o)) Q E s := by
  unfold Builtin.Frozenset.difference
  refine wpAny_bind (anySet Ro ?_)
  refine wp_if_neg (by simp) ?_
  refine wpAny_bind (m := Builtin.Frozenset.addrOf (.ref o)) (wpAny_pure ?_)
  have c1 : ¬ (!true && o == sysModules) = true := by simp
  refine wp_if_neg c1 ?_
  refine wp_if_pos rfl ?_
  refine wpAny_bind (size_at Ro ?_)
  refine wpAny_bind (size_at R ?_)
  refine wp_if_neg small ?_
  refine wpAny_bind (base_at R ?_)
  refine wpAny_bind (PpSet.newSet_ok ?_)
  have hS : (s.heap.push (setObj0 w)).get? s.heap.objs.size = some (setObj0 w) := Heap.get?_push_size _ rfl
  have kp : ∀ b ob, s.heap.get? b = some ob → (s.heap.push (setObj0 w)).get? b = some ob := fun b ob e => Heap.get?_push_of_some _ e
  have lt : ∀ b ob, s.heap.get? b = some ob → b ≠ s.heap.objs.size := fun b ob e => Nat.ne_of_lt (Heap.lt_size e)
  refine wpAny_bind (m := Builtin.Frozenset.addrOf (.ref s.heap.objs.size)) (wpAny_pure ?_)
  have R2 := R
  obtain ⟨oa, esa, epa, ta, hoa, hexa, hda, ga, pma, nda, hba, hfa, hra, hla⟩ := R2
  refine wpAny_bind (epoch_at (s := { s with heap := s.heap.push (setObj0 w) }) (kp _ _ hoa) hda hfa ?_)
  refine wpAny_bind (wpAny_holding ?_)
  have S0 : SetS w (s.heap.push (setObj0 w)) s.heap.objs.size [] := setS_fresh hS
  have R1 : SetS w (s.heap.push (setObj0 w)) a ks := R.at fun ob e => kp _ _ e
  have Ro1 : SetS w (s.heap.push (setObj0 w)) o ls := Ro.at fun ob e => kp _ _ e
  have nea : a ≠ s.heap.objs.size := lt _ _ hoa
  have neo : o ≠ s.heap.objs.size := by
    obtain ⟨oo, _, _, _, hoo, _⟩ := Ro
    exact lt _ _ hoo
  refine wpAny_bind (wp_if_pos (c := true = true) rfl ?_)
  refine walk_unseen (s := { s with heap := s.heap.push (setObj0 w) }) R1 S0 nea (fun b hb => ?_) fun arr h1 d1 G sb1 S1 => ?_
  · rcases List.mem_cons.mp hb with rfl | hb
    · exact ⟨_, Ro1⟩
    · rw [List.mem_singleton.mp hb]
      exact ⟨_, S0⟩
  have keysN : (arr.toList.map fun e => kS e.2).Nodup := G.perm.nodup_iff.mpr nda
  refine wpAny_bind (wpAny_forIn_array' _ (fun rest b s' => ∃ h' done tk, s' = { s with heap := h', drawn := d1, toks := tk } ∧ done ++ rest = arr.toList ∧ Heap.SameBut s.heap.objs.size (s.heap.push (setObj0 w)) h' ∧ SetS w h' s.heap.objs.size (kept ls done)) _ (fun e rest b s' hI => ?_) (fun b s' hI => ?_) _ _ ⟨h1, [], s.toks, rfl, rfl, sb1, S1⟩)
  · obtain ⟨h', done, tk0, rfl, ed, sb, S⟩ := hI
    obtain ⟨i, v⟩ := e
    have me : (i, v) ∈ arr.toList := by rw [← ed]; exact List.mem_append_right _ List.mem_cons_self
    obtain ⟨x, tk, h4, h5, h6⟩ := (G.row _ me).str
    obtain rfl : v = Value.str x tk := h4
    obtain rfl : i = hashStr w x := h5
    have keep : ∀ c, c ≠ s.heap.objs.size → ∀ ob, s.heap.get? c = some ob → h'.get? c = some ob := fun c hc ob e => (sb.2 c hc).trans (kp _ _ e)
    have Ro2 : SetS w h' o ls := Ro.at fun ob e => keep _ neo ob e
    dsimp only
    have key : (PySem.strKind P w).is x (.str x tk) = true := strKind_is P w x tk
    refine wpAny_bind (wpAny_holding ?_)
    refine wp_if_pos (c := true = true) rfl ?_
    refine wpAny_bind (wpAny_setFind_of (knd := PySem.strKind P w) key rfl (Ro2.setOf (P := P)) fun r hr => ?_)
    refine wpAny_bind (wpAny_pure ?_)
    have small2 : (kept ls done).length + 1 < scanBound := by
      have h2 := kept_len ls done
      have h3 := congrArg List.length ed
      have h4 := G.perm.length_eq
      rw [List.length_append] at h3
      rw [List.length_map] at h4
      omega
    have ed2 : (done ++ [(hashStr w x, Value.str x tk)]) ++ rest = arr.toList := by rw [List.append_assoc]; exact ed
    have unch : ∀ {h2 : Heap} {tk2 : Nat} {Q' : Unit → Shared → Prop}, Heap.SameBut s.heap.objs.size (s.heap.push (setObj0 w)) h2 → Q' () { s with heap := h2, drawn := d1, toks := tk2 } → wpAny (model P w) A (Builtin.Frozenset.unchanged id a epa) Q' E { s with heap := h2, drawn := d1, toks := tk2 } := fun sb2 hq => unchanged_at (s := { s with heap := _, drawn := d1, toks := _ }) ((sb2.2 a nea).trans (kp _ _ hoa)) hda hfa hq
    by_cases hc : x ∈ ls
    · have e1 : r.isSome = true := by rw [hr]; exact decide_eq_true hc
      refine wp_if_neg (by rw [e1]; simp) ?_
      refine wpAny_pure (wpAny_bind (unch sb ?_))
      exact wpAny_pure ⟨h', _, tk0, rfl, ed2, sb, by rw [kept_in hc]; exact S⟩
    · have e1 : r.isSome = false := by rw [hr]; exact decide_eq_false hc
      refine wp_if_pos (by rw [e1]; rfl) ?_
      refine wpAny_bind (put_hashed (s := { s with heap := h', drawn := d1, toks := tk0 }) S small2 fun h2 b2 sb2 S2 => ?_)
      refine wpAny_pure (wpAny_bind (unch (sb.trans sb2) ?_))
      exact wpAny_pure ⟨h2, _, tk0, rfl, ed2, sb.trans sb2, by rw [kept_out hc]; exact S2⟩
  · obtain ⟨h', done, tk0, rfl, ed, sb, S⟩ := hI
    rw [List.append_nil] at ed
    subst ed
    refine wpAny_pure (wpAny_pure (h h' d1 tk0 (fun b ob e => (sb.2 b (lt _ _ e)).trans (kp _ _ e)) (SetS.perm S ?_)))
    unfold kept
    rw [dd_id (keysN.filter _)]
    exact G.perm.filter _
/-- a fresh table, laid wider -/
structure Emp (h : Heap) (w : World) (r : Addr) (ep : Nat) (t : SetTable) : Prop where
  at_ : ∃ ob, h.get? r = some ob ∧ ob.ExactSet ∧ ob.data = .set #[] ep t
  m : Sl.M2 t.mask
  pl : t.place = #[]
  dm : t.dummies = #[]
  led : t.led = !w.params.followText "set-order"
theorem room_at {Q : Unit → Shared → Prop} {r n : Nat} (h0 : s.heap.get? r = some (setObj0 w)) (hn : n ≤ 7) (h : ∀ h' ep t, Heap.SameBut r s.heap h' → Emp h' w r ep t → Q () { s with heap := h' }) : wpAny (model P w) A (setRoomFor r n) Q E s := by
  unfold setRoomFor
  have hd : (setObj0 w).data = .set #[] 0 (.fresh 0 0 (!w.params.followText "set-order")) := rfl
  refine wpAny_bind (wpAny_setState_of h0 hd rfl ?_)
  have e0 : (SetTable.fresh 0 0 (!w.params.followText "set-order")).roomFor n = if (0 + n) * 5 ≥ 7 * 3 then some ((0 + n) * 2) else none := rfl
  dsimp only
  rw [e0]
  by_cases h5 : (0 + n) * 5 ≥ 7 * 3
  · rw [if_pos h5]
    dsimp only
    have hs : SetTable.sizeAbove ((0 + n) * 2) = 16 := by
      have : n = 5 ∨ n = 6 ∨ n = 7 := by omega
      rcases this with rfl | rfl | rfl <;> decide +kernel
    obtain ⟨t', order, e, hp, p1, p2, p3, p4, p5, p6⟩ := Sl.laid_ok (m := 15) (.inr rfl) (hs := (#[] : Array Int)) (by decide) 0 (SetTable.movedTo (.fresh 0 0 (!w.params.followText "set-order")) 15) (!w.params.followText "set-order") true
    have er : (SetTable.fresh 0 0 (!w.params.followText "set-order")).relaid ((#[] : Array (Int × Value)).map (·.1)) ((0 + n) * 2) = some (t', order) := by
      unfold SetTable.relaid
      rw [hs, show (#[] : Array (Int × Value)).map (fun x => x.1) = #[] from Array.map_empty]
      exact e
    rw [setRelay_eq]
    refine wpAny_bind (wpAny_setState_of h0 hd rfl ?_)
    dsimp only
    refine wp_if_neg (by rw [hs, sizeLine_eq]; decide) ?_
    try refine wpAny_bind (wpAny_pure ?_)
    rw [er]
    dsimp only
    have hs2 : (order.filterMap ((#[] : Array (Int × Value))[·]?)).size = (#[] : Array (Int × Value)).size := by
      have h1 : order.toList = [] := by
        have := hp.length_eq
        exact List.eq_nil_of_length_eq_zero this
      have h2 : order = #[] := by rw [← Array.toArray_toList (xs := order), h1]
      rw [h2]
      rfl
    have hs3 : order.filterMap ((#[] : Array (Int × Value))[·]?) = #[] := Array.eq_empty_of_size_eq_zero hs2
    refine wpAny_bind ?_
    refine wp_if_neg (by rw [hs2]; simp) ?_
    try refine wpAny_bind (wpAny_pure ?_)
    refine wpAny_pure ?_
    dsimp only
    rw [hs3]
    refine wpAny_storeSet_of h0 hd ?_ (by decide)
    exact h _ 1 t' (Heap.SameBut.update ..) ⟨⟨_, store_at h0 hd, ⟨rfl, rfl, rfl⟩, rfl⟩, by rw [p4]; exact .inr rfl, Array.eq_empty_of_size_eq_zero p1, p3, p5⟩
  · rw [if_neg h5]
    dsimp only
    exact wpAny_pure (h s.heap 0 _ (Heap.SameBut.refl _ _) ⟨⟨_, h0, ⟨rfl, rfl, rfl⟩, hd⟩, .inl rfl, rfl, rfl, rfl⟩)
theorem order_perm {es : Array (Int × Value)} {order : Array Nat} (hp : order.toList.Perm (List.range es.size)) : (order.filterMap (es[·]?)).toList.Perm es.toList := by
  rw [Array.toList_filterMap]
  refine (hp.filterMap _).trans (List.Perm.of_eq ?_)
  refine List.ext_getElem? fun i => ?_
  have gen : (List.range es.size).filterMap (fun x => es[x]?) = es.toList := by
    have h : ∀ n, n ≤ es.size → (List.range n).filterMap (fun x => es[x]?) = es.toList.take n := by
      intro n
      induction n with
      | zero => intro _; rfl
      | succ n ih =>
        intro hn
        have e1 : es[n]? = some es[n] := Array.getElem?_eq_getElem hn
        rw [List.range_succ, List.filterMap_append, ih (by omega), List.take_add_one, Array.getElem?_toList, e1]
        simp [e1]
    rw [h es.size (Nat.le_refl _), ← Array.length_toList, List.take_length]
  rw [gen]
def NoDum (h : Heap) (a : Addr) : Prop := ∃ o es ep t, h.get? a = some o ∧ o.data = .set es ep t ∧ t.fits es.size = true ∧ t.dummies = #[]
theorem copy_at {Q : Value → Shared → Prop} (R : SetS w s.heap a ks) (h4 : 4 ≤ ks.length) (h7 : ks.length ≤ 7)
    (h : ∀ h', (∀ b ob, s.heap.get? b = some ob → h'.get? b = some ob) → SetS w h' s.heap.objs.size ks → NoDum h' s.heap.objs.size → Q (.ref s.heap.objs.size) { s with heap := h' }) :
    wpAny (model P w) A (Builtin.Frozenset.copyOf a) Q E s := by
  have R2 := R
  obtain ⟨oa, esa, epa, ta, hoa, hexa, hda, ga, pma, nda, hba, hfa, hra, hla⟩ := R2
  have zn : esa.size = ks.length := by
    have h1 := pma.length_eq
    rw [List.length_map, Array.length_toList] at h1
    exact h1
  unfold Builtin.Frozenset.copyOf
  refine wpAny_bind (base_at R ?_)
  refine wpAny_bind (PpSet.newSet_ok ?_)
  have hS : (s.heap.push (setObj0 w)).get? s.heap.objs.size = some (setObj0 w) := Heap.get?_push_size _ rfl
  have kp : ∀ b ob, s.heap.get? b = some ob → (s.heap.push (setObj0 w)).get? b = some ob := fun b ob e => Heap.get?_push_of_some _ e
  have lt : ∀ b ob, s.heap.get? b = some ob → b ≠ s.heap.objs.size := fun b ob e => Nat.ne_of_lt (Heap.lt_size e)
  refine wpAny_bind (m := Builtin.Frozenset.addrOf (.ref s.heap.objs.size)) (wpAny_pure ?_)
  refine wpAny_bind ?_
  unfold setMerge
  refine wp_if_neg (by rw [beq_iff_eq]; exact (lt _ _ hoa).symm) ?_
  try refine wpAny_bind (wpAny_pure ?_)
  refine wpAny_bind (wpAny_setState_of (s := { s with heap := s.heap.push (setObj0 w) }) (kp _ _ hoa) hda hfa ?_)
  dsimp only
  refine wp_if_neg (by rw [Array.isEmpty_iff_size_eq_zero]; omega) ?_
  try refine wpAny_bind (wpAny_pure ?_)
  refine wpAny_bind (room_at (s := { s with heap := s.heap.push (setObj0 w) }) hS (by omega) fun h1 ep1 t1 sb1 M => ?_)
  obtain ⟨⟨ob, e1, ex1, ed1⟩, mm, pl, dm, led⟩ := M
  have f1 : t1.fits (#[] : Array (Int × Value)).size = true := by
    unfold SetTable.fits SetTable.fill
    rw [pl, dm]
    simp
  refine wpAny_bind (wpAny_setState_of (s := { s with heap := h1 }) e1 ed1 f1 ?_)
  dsimp only
  have ldd : w.params.followText "set-order" = true ∨ (t1.led && ta.led) = true := by
    cases hb : w.params.followText "set-order" with
    | true => exact .inl rfl
    | false =>
      refine .inr ?_
      rw [led, hb, hla.resolve_left (by rw [hb]; exact Bool.false_ne_true)]
      rfl
  have fin : ∀ (es' : Array (Int × Value)) (t' : SetTable), es'.toList.Perm esa.toList → t'.fits es'.size = true → Ris t'.place.toList → t'.led = (t1.led && ta.led) → t'.dummies = #[] →
      wpAny (model P w) A (storeSet s.heap.objs.size es' t') (fun _ s' => wpAny (model P w) A (pure (Value.ref s.heap.objs.size)) Q E s') E { s with heap := h1 } := fun es' t' pm ft rs ld dm2 => by
    have z : es'.size = esa.size := by rw [← Array.length_toList, pm.length_eq, Array.length_toList]
    refine wpAny_storeSet_of (s := { s with heap := h1 }) e1 ed1 ?_ (by rw [z, sizeLine_eq]; omega)
    refine wpAny_pure (h _ (fun b ob2 e => ?_) ⟨_, es', ep1 + 1, t', store_at e1 ed1, ex1, rfl, fun e he => ga e (pm.mem_iff.mp he), (pm.map _).trans pma, nda, by rw [z]; exact hba, ft, rs, by rw [ld]; exact ldd⟩ ⟨_, es', ep1 + 1, t', store_at e1 ed1, rfl, ft, dm2⟩)
    have h2 := (Heap.SameBut.update h1 s.heap.objs.size (Obj.putSet es' t')).2 b (lt _ _ e)
    exact h2.trans ((sb1.2 b (lt _ _ e)).trans (kp _ _ e))
  have road : t1.road ta = if (t1.mask == ta.mask && ta.dummies.isEmpty) = true then .slotForSlot else .clean := by
    unfold SetTable.road
    rw [if_neg]
    unfold SetTable.fill
    rw [pl, dm]
    simp
  rw [road]
  by_cases hc : (t1.mask == ta.mask && ta.dummies.isEmpty) = true
  · rw [if_pos hc]
    dsimp only
    exact fin _ _ (List.Perm.refl _) (by exact hfa) hra rfl (by rw [Bool.and_eq_true] at hc; exact Array.isEmpty_iff.mp hc.2)
  · rw [if_neg hc]
    dsimp only
    obtain ⟨t', order, e, hp, p1, p2, p3, p4, p5, p6⟩ := Sl.laid_ok mm (hs := esa.map (·.1)) (by rw [Array.size_map]; omega) t1.finger t1.moves (t1.led && ta.led) (t1.plain && ta.plain)
    rw [Array.size_map] at hp p1
    have pm := order_perm hp
    have hs2 : (order.filterMap (esa[·]?)).size = esa.size := by rw [← Array.length_toList, pm.length_eq, Array.length_toList]
    show wpAny _ _ (do
      let (es, t) ← (do
        let some (t, order) := SetTable.laid t1.mask t1.finger t1.moves (t1.led && ta.led) (t1.plain && ta.plain) (esa.map (·.1)) | unsupported "internal:set-table-without-room"
        let es' := order.filterMap (esa[·]?)
        if es'.size != esa.size then unsupported "internal:set-table-lost-an-element"
        pure (es', t) : Sem (Array (Int × Value) × SetTable))
      storeSet s.heap.objs.size es t) _ _ _
    rw [e]
    dsimp only
    refine wpAny_bind ?_
    refine wp_if_neg (by rw [hs2]; simp) ?_
    try refine wpAny_bind (wpAny_pure ?_)
    refine wpAny_pure ?_
    dsimp only
    refine fin _ _ pm ?_ p2 p5 p3
    unfold SetTable.fits SetTable.fill
    rw [hs2, p1, p3, p4, Bool.and_eq_true, beq_iff_eq, decide_eq_true_eq]
    have : 7 ≤ t1.mask := by rcases mm with h | h <;> rw [h] <;> decide
    exact ⟨rfl, by show esa.size + 0 ≤ t1.mask; omega⟩
/-- the road by a copy, nothing to take away -/
theorem diff_none {Q : Value → Shared → Prop} {id : String} (R : SetS w s.heap a ks) (Ro : SetS w s.heap o []) (h4 : 4 ≤ ks.length) (h7 : ks.length ≤ 7)
    (h : ∀ h' d, (∀ b ob, s.heap.get? b = some ob → h'.get? b = some ob) → SetS w h' s.heap.objs.size ks → Q (.ref s.heap.objs.size) { s with heap := h', drawn := d }) :
    wpAny (model P w) A (Builtin.Frozenset.difference id a (.ref o)) Q E s := by
  unfold Builtin.Frozenset.difference
  refine wpAny_bind (anySet Ro ?_)
  refine wp_if_neg (by simp) ?_
  refine wpAny_bind (m := Builtin.Frozenset.addrOf (.ref o)) (wpAny_pure ?_)
  have c1 : ¬ (!true && o == sysModules) = true := by simp
  refine wp_if_neg c1 ?_
  refine wp_if_pos rfl ?_
  refine wpAny_bind (size_at Ro ?_)
  refine wpAny_bind (size_at R ?_)
  refine wp_if_pos (by show ks.length / 4 > 0; omega) ?_
  refine wpAny_bind (wpAny_rule ?_)
  refine wpAny_bind (copy_at R h4 h7 fun h1 k1 S1 D1 => ?_)
  refine wpAny_bind (m := Builtin.Frozenset.addrOf (.ref s.heap.objs.size)) (wpAny_pure ?_)
  have neo : o ≠ s.heap.objs.size := by
    obtain ⟨oo, _, _, _, hoo, _⟩ := Ro
    exact Nat.ne_of_lt (Heap.lt_size hoo)
  have Ro1 : SetS w h1 o [] := Ro.at fun ob e => k1 _ _ e
  refine wpAny_bind (wpAny_holding ?_)
  unfold Builtin.Frozenset.differenceUpdate
  refine wp_if_neg (by rw [beq_iff_eq]; intro z; injection z with z; exact neo z) ?_
  try refine wpAny_bind (wpAny_pure ?_)
  refine wpAny_bind (anySet (s := { s with heap := h1 }) Ro1 ?_)
  refine wp_if_pos rfl ?_
  refine wpAny_bind (m := Builtin.Frozenset.addrOf (.ref o)) (wpAny_pure ?_)
  refine wpAny_bind (size_at (s := { s with heap := h1 }) Ro1 ?_)
  refine wpAny_bind (size_at (s := { s with heap := h1 }) S1 ?_)
  refine wp_if_neg (by show ¬ (0 / 8 > ks.length); omega) ?_
  try refine wpAny_bind (wpAny_pure ?_)
  have Ro2 := Ro1
  obtain ⟨o2, es2, ep2, t2, ho2, hex2, hd2, g2, pm2, nd2, hb2, hf2, hr2, hl2⟩ := Ro2
  refine wpAny_bind (epoch_at (s := { s with heap := h1 }) ho2 hd2 hf2 ?_)
  refine wpAny_bind (wpAny_holding ?_)
  have z2 : es2.size = 0 := by
    have h1 := pm2.length_eq
    rw [List.length_map, Array.length_toList] at h1
    exact h1
  refine wpAny_bind ?_
  unfold setWalkUnseen
  refine wpAny_bind (wpAny_setState_of (s := { s with heap := h1 }) ho2 hd2 hf2 ?_)
  dsimp only
  refine wpAny_bind (wpAny_byText ?_)
  refine wp_if_pos (by rw [z2]; simp) ?_
  refine walk_at (s := { s with heap := h1 }) Ro1 fun arr d G => ?_
  have ea : arr.toList = [] := by
    have := G.perm.length_eq
    rw [List.length_map] at this
    exact List.eq_nil_of_length_eq_zero this
  refine wpAny_bind (wpAny_forIn_array' _ (fun rest b s' => rest = [] ∧ s' = { s with heap := h1, drawn := d }) _ (fun e rest b s' hI => ?_) (fun b s' hI => ?_) _ _ ⟨ea, rfl⟩)
  · cases hI.1
  · obtain ⟨_, rfl⟩ := hI
    refine wpAny_pure ?_
    obtain ⟨o3, es3, ep3, t3, e3, d3, f3, dm3⟩ := D1
    unfold setTidy
    refine wpAny_bind (wpAny_setState_of (s := { s with heap := h1, drawn := d }) e3 d3 f3 ?_)
    dsimp only
    refine wp_if_neg (by unfold SetTable.tooManyDummies; rw [dm3]; simp) ?_
    exact wpAny_pure (wpAny_pure (h h1 d k1 S1))
theorem entry_set_sub : entryFor table "set.__sub__" = some Builtin.«frozenset.__sub__» :=
  entryFor_alias (id' := "frozenset.__sub__") (by kernel_rfl) rfl (by decide +kernel) (by kernel_rfl)
/-- a - o, of two sets of texts -/
theorem sub_at {Q : Value → Shared → Prop} (R : SetS w s.heap a ks) (Ro : SetS w s.heap o ls) (few : ks.length ≤ 7)
    (h : ∀ h' d tk, (∀ b ob, s.heap.get? b = some ob → h'.get? b = some ob) → SetS w h' s.heap.objs.size (ks.filter fun x => decide (x ∉ ls)) → Q (.ref s.heap.objs.size) { s with heap := h', drawn := d, toks := tk }) :
    wpAny (model P w) A (binaryOp .Sub (.ref a) (.ref o)) Q E s := by
  have ta := SetS.typeIs P R
  have to := SetS.typeIs P Ro
  refine wpAny_binaryOp_same (op := .Sub) ta to PySem.F.fills_set_sub PySem.F.slot_set_sub (wpAny_call_entry PySem.F.slot_set_sub ta entry_set_sub ?_ (PySem.F.args_set_sub_2 _ _))
  show wpAny _ _ (do
    let (self, other) ← Builtin.Frozenset.slot1 "__sub__" ⟨[.ref a, .ref o], []⟩
    let (l, r) := if false = true then (other, self) else (self, other)
    if !(← Builtin.Frozenset.isAnySet l <&&> Builtin.Frozenset.isAnySet r) then rule s!"frozenset.{"__sub__"}.declined"; return ← ret .notImplemented
    ret (← Builtin.Frozenset.difference s!"frozenset.{"__sub__"}" (← Builtin.Frozenset.addrOf l) r)) _ _ _
  refine wpAny_bind (wpAny_of_eq (a := (Value.ref a, Value.ref o)) rfl ?_)
  have hc : ∀ Q' : Bool → Shared → Prop, Q' true s → wpAny (model P w) A.in1 (Builtin.Frozenset.isAnySet (.ref a) <&&> Builtin.Frozenset.isAnySet (.ref o)) Q' E s := fun Q' hq => wpAny_bind (anySet R (anySet (P := P) Ro hq))
  refine wpAny_bind (hc _ ?_)
  refine wp_if_neg (by simp) ?_
  try refine wpAny_bind (wpAny_pure ?_)
  have fin : ∀ h' d tk, (∀ b ob, s.heap.get? b = some ob → h'.get? b = some ob) → SetS w h' s.heap.objs.size (ks.filter fun x => decide (x ∉ ls)) →
      wpAny (model P w) A.in1 (ret (Value.ref s.heap.objs.size)) (fun fin s' => ∃ v, fin = Fin.done (Flow.ret v) ∧ v ≠ Value.notImplemented ∧ Q v s') E { s with heap := h', drawn := d, toks := tk } := fun h' d tk k S => wpAny_pure ⟨_, rfl, (fun z => by cases z), h h' d tk k S⟩
  by_cases hs : ks.length / 4 > ls.length
  · have e0 : ls = [] := List.eq_nil_of_length_eq_zero (by omega)
    subst e0
    have h4 : 4 ≤ ks.length := by
      have : 0 < ks.length / 4 := hs
      omega
    refine wpAny_bind (diff_none R Ro h4 few fun h' d k S => fin h' d s.toks k ?_)
    rw [List.filter_eq_self.mpr (by simp)]
    exact S
  · exact wpAny_bind (diff_at R Ro hs (by unfold scanBound; omega) fun h' d tk k S => fin h' d tk k S)
end
section
variable {X : Cx}
/-- a - b: sets of texts -/
def rSubTx (w : World) : R2 := fun x y H Q => ∃ a b ks ls, x = .ref a ∧ y = .ref b ∧ H a = some (Srx.SetTx w a ks) ∧ H b = some (Srx.SetTx w b ls) ∧ ks.length ≤ 7 ∧ ∀ p, H p = none → Q (.ref p) (upd H p (Srx.SetTx w p (ks.filter fun x => decide (x ∉ ls))))
theorem op_subTx : OpR X (binaryOp .Sub) (rSubTx X.w) := by
  intro pins s σ H x y v u Q I rx ry h
  obtain ⟨a, b, ks, ls, rfl, rfl, ha, hb, few, q⟩ := h
  obtain rfl : v = Value.ref a := rx
  obtain rfl : u = Value.ref b := ry
  refine sub_at (Srx.setTx_get I ha) (Srx.setTx_get I hb) few fun h' d tk k R => ?_
  have hn : H s.heap.objs.size = none := I.hok.fresh (Nat.le_refl _)
  refine ⟨.ref s.heap.objs.size, upd H s.heap.objs.size (Srx.SetTx X.w s.heap.objs.size (ks.filter fun x => decide (x ∉ ls))), ?_, rfl, q _ hn⟩
  exact I.call (g' := s.gens) (t' := tk) (d' := d) (ch := []) (Un.laid (o := Srx.SetTx X.w s.heap.objs.size (ks.filter fun x => decide (x ∉ ls))) k (Nat.le_refl _) hn) (I.hok.laid k (Nat.le_refl _) (Srx.setTx_new R)) I.bare (fun _ z => nomatch z)
end
end Sd
end
section
set_option maxHeartbeats 8000000
/-! calls within an except suite; text * 0 or 1; count of a text -/
namespace K1
open PySem PySem.Spec PyProof.Rows L2 Gr GxR Srx Skx Dcx
/-- a def that may be called where an exception is handled, whatever its context; what it promises may speak of that exception's object -/
structure FnQ (P : Program) (w : World) (K : PySem.W.Frag) (mg : Str → Option Value) (base : Heap) (k : Nat) (f : Addr) (fd : FuncData) (ps : List Str) (sp : Addr → Value → Option Addr → Sp) : Prop where
  len : ∀ a cls d vs H Q E, sp a cls d vs H Q E → vs.length = ps.length
  run : ∀ (A : Around) (outer : List Env) (s : Shared) (H : Hp) (args : Args) (us : List Value) (vs : List V) (Q : VK) (E : XK) (o : Addr × Obj) (cls : Value) (d : Option Addr), L2H.RoomH k A → L2H.PinOk outer H s o → Zc cls d o.2 → (∃ vs, o.2.data = .fields vs) → Env0 P w K mg base A outer s H → BindsTo s fd args (ps.zip us) → Vals vs us → sp o.1 cls d vs H Q E →
    codeAny (model P w) A (.call (.ref f) args) (CR CX0 outer P w H s Q E) s
theorem okQ {P : Program} {w : World} {K : PySem.W.Frag} {mg : Str → Option Value} {base : Heap} {x qual : Str} {params : Arguments} {body : List Stmt} {scope : Scope} {dvs : List V} {kws : List (Str × V)} {f : Addr} {fd : FuncData} {N ps : List Str} {k : Nat} {sp : Addr → Value → Option Addr → Sp}
    (F : FunD K x qual params body scope dvs kws f fd) (S : FnScope N ps scope) (len : ∀ a cls d vs H Q E, sp a cls d vs H Q E → vs.length = ps.length)
    (hb : ∀ (cdv : Value) (A : Around) (outer : List Env) (s : Shared) (H : Hp) (vs : List V) (Q : VK) (E : XK) (o : Addr × Obj) (cls : Value) (d : Option Addr), L2H.RoomH k (A.deeper (envOfC qual scope s.heap.objs.size f cdv)) → Zc cls d o.2 → (∃ vs, o.2.data = .fields vs) → sp o.1 cls d vs H Q E →
      ∃ t, PSs (L2H.cxH CX0 P w K mg base N qual scope f cdv A outer s H E o) body t ∧ t { nx := fun _ H' => Q .non H', rt := Q } (start N vs) H) : FnQ P w K mg base (k + 1) f fd ps sp := by
  obtain ⟨oc, od, dV, kV, doc, pm, an, cdv, ct, osl, rfl, lk, hcd, _, _⟩ := F.ex
  refine ⟨len, fun A outer s H args us vs Q E o cls d hr hpin hz hf e0 b r h => ?_⟩
  have hl := len _ _ _ _ _ _ _ h
  have stays : base.StaysIn s.heap := fun b o e => (e0.bs b o e).1
  have lim : s.heap.NoLimit := e0.mod.nolimit.keeps stays
  have KX : K.In s.heap := e0.mod.kin.keeps stays
  have kinds : ∀ y ∈ ps.zip us, scope.names.lookup y.1 = some .local ∨ (scope.names.lookup y.1 = some .cell ∧ ((cellsFrom (s.heap.objs.size + 1) scope.names []).lookup y.1).isSome = true) := by
    intro y hy
    obtain ⟨n, v⟩ := y
    exact (S.par n (List.of_mem_zip hy).1).imp id fun q => ⟨q, PySem.W.cellsFrom_some _ _ _ (.inl q)⟩
  refine codeAny_call_function hr.depth (KX _ _ lk) rfl S.co S.gen rfl (PySem.W.codeRec_of KX hcd) (b _ _ _ _ ?_)
  refine wpAny_newFunctionEnv_cells S.kind kinds fun env he s1 z => ?_
  subst he
  obtain ⟨t, ht, hq⟩ := hb cdv A outer s H vs Q E o cls d (hr.deeper _) hz hf h
  refine ⟨lim.keeps z.toInCall.keep, codeAny_func ?_⟩
  refine wpAny_mono (ht.run [] s1 (start N vs) H _ (L2H.inv_startH S hpin e0 hl r z) hq) (fun fl s' hs => ?_) fun e s' hs => hs
  cases fl with
  | next =>
    obtain ⟨σ', H', J, q⟩ := hs
    exact ⟨.non, H', J.os, J.bare, J.base, J.hok, rfl, q⟩
  | ret u =>
    obtain ⟨v, σ', H', J, rv, q⟩ := hs
    exact ⟨v, H', J.os, J.bare, J.base, J.hok, rv, q⟩
  | brk => exact hs.elim fun _ h => h.elim fun _ h => h.2.elim
  | cont => exact hs.elim fun _ h => h.elim fun _ h => h.2.elim
/-- such a def, by its name -/
structure HCalls (P : Program) (w : World) (K : PySem.W.Frag) (mg : Str → Option Value) (base : Heap) (k : Nat) (x : Str) (sp : Addr → Value → Option Addr → Sp) : Prop where
  ex : ∃ (f : Addr) (fd : FuncData) (ps : List Str), FnQ P w K mg base k f fd ps sp ∧ mg x = some (.ref f) ∧ PySem.W.keepIn K (.ref f) = true ∧ Binds K fd ps []
section
variable {X : Cx} {k j : Nat} {x : Str} {sp : Addr → Value → Option Addr → Sp} {cls : Value} {d : Option Addr} {p pos : Pos} {e : Expr} {es : List Expr} {t : TA} {a : Addr} {oe : Obj}
theorem pe_q (c : HCalls X.prog X.w X.K X.mg X.base k x sp) (hr : L2H.RoomH j X.A) (hk : k ≤ j) (ho : (a, oe) ∈ X.pn) (hz : Zc cls d oe) (hf : ∃ vs, oe.data = .fields vs) (hg : Gl X x) (ha : PA X (e :: es) t)
    (hdb : (x == ("__debug__" : Str)) = false := by decide) (he : starEach (e :: es) X.env = (false, eval e X.env) :: starEach es X.env := by rfl) (hpl : (backTo pos (starEach es X.env)).any (·.1) = false := by rfl) :
    PE X (.Call (.Name x p) (e :: es) [] pos) (fun σ H Q => t σ H fun vs H1 => sp a cls d vs H1 Q E0) := by
  obtain ⟨f, fd, ps, F, hm, kp, b⟩ := c.ex
  refine ⟨fun pins s σ H Q I h => ?_⟩
  refine wpAny_Call_Name_kw (ld_glob I hg hm ?_ hdb)
  refine PySem.W.callWith_K (h₀ := X.base) I.ok.mod.kin kp (thn (ha.run pos pins s σ H _ I h) fun us s1 hv => ?_) he hpl
  obtain ⟨vs, H1, I1, r, q⟩ := hv
  have hl : us.length = ps.length := by rw [← r.length]; exact F.len _ _ _ _ _ _ _ q
  have b1 := b s1 us I1.kIn (by rw [List.append_nil]; exact hl)
  rw [List.append_nil] at b1
  obtain ⟨p1, p2, p3, p4, p5⟩ := I1.pin (a, oe) (List.mem_append_left _ ho)
  refine ⟨I1.kIn, wpAny_call (codeAny_mono (F.run X.A X.stack s1 H1 ⟨us, []⟩ us vs Q E0 (a, oe) cls d (hr.mono hk) ⟨p1, p2, fun hm => (List.mem_cons.mp (I1.stkSub a hm)).elim p3 p4, p5⟩ hz hf I1.env0 b1 r q) fun r s' hq => ?_)⟩
  cases r with
  | error e => exact hq.elim
  | ok fl =>
    cases fl with
    | ret u => exact I1.after hq
    | next => exact hq.elim
    | brk => exact hq.elim
    | cont => exact hq.elim
end
/-- isinstance(e, C) for an exception that is pinned -/
def rIsP (K : PySem.W.Frag) (D a : Addr) : List V → Hp → VK → Prop := fun xs H Q => ∃ (c : V) (cv : Value) (b : Bool), xs = [.ref a, c] ∧ ClsV c cv ∧ PySem.W.kitOne K (.ref D) cv = some b ∧ Q (.bl b) H
def rIsPT (K : PySem.W.Frag) (D a : Addr) : List V → Hp → VK → Prop := fun xs H Q => ∃ (tp : Addr) (cs : List V) (us : List Value) (b : Bool), xs = [.ref a, .ref tp] ∧ H tp = some (.tup cs) ∧ Paired ClsV cs us ∧ PySem.W.kitAny K (.ref D) us = some b ∧ Q (.bl b) H
section
variable {X : Cx} {a D : Addr} {oe : Obj}
theorem inst_pin {pins : List (Addr × Obj)} {σ : L2.St} {H : Hp} {s : Shared} (hp : (a, oe) ∈ X.pn) (hz : Zc (.ref D) none oe) (hf : ∃ vs, oe.data = .fields vs) (I : Inv X pins σ H s) : PySem.W.InstAt s.heap a oe D none := by
  have h0 := (I.pin (a, oe) (List.mem_append_left _ hp)).1
  obtain ⟨vs, hv⟩ := hf
  obtain ⟨oc, od, oda, osl⟩ := oe
  obtain ⟨h1, h2⟩ := hz
  dsimp only at h1 h2 hv
  subst h1 h2 hv
  exact ⟨h0, rfl, rfl, trivial⟩
theorem call_isP (hp : (a, oe) ∈ X.pn) (C : ExcC X.K D) (hz : Zc (.ref D) none oe) (hf : ∃ vs, oe.data = .fields vs) : CallR X (.builtin "isinstance") (rIsP X.K D a) := by
  intro pins s σ H xs us Q I r h
  obtain ⟨c, cv, b, rfl, k, e, q⟩ := h
  obtain ⟨u1, u2, rfl, r1, r2⟩ := vals2 r
  cases (show u1 = Value.ref a from r1)
  cases k.eq r2
  exact PySem.W.kia_one (PySem.W.handS_kitx_exc C.hg C.hk C.hs C.hd C.ha C.hn C.ht C.hm) I.kIn (inst_pin hp hz hf I) e (fun z => nomatch z) fun tk => ⟨.bl b, H, I.kept (t' := tk) fun _ _ z => z, rfl, q⟩
theorem call_isPT (hp : (a, oe) ∈ X.pn) (C : ExcC X.K D) (hz : Zc (.ref D) none oe) (hf : ∃ vs, oe.data = .fields vs) : CallR X (.builtin "isinstance") (rIsPT X.K D a) := by
  intro pins s σ H xs us Q I r h
  obtain ⟨tp, cs, ws, b, rfl, hT, k, e, q⟩ := h
  obtain ⟨u1, u2, rfl, r1, r2⟩ := vals2 r
  cases (show u1 = Value.ref a from r1)
  cases (show u2 = Value.ref tp from r2)
  obtain ⟨_, its, rv, ob, h1, h2, n, h3⟩ := (show ObjOk _ _ H s.heap tp (.tup cs) from I.hok tp _ hT)
  have e3 := ClsV.all k rv
  subst e3
  obtain ⟨oc, od, dt, sl⟩ := ob
  simp only at h2 h3
  subst h2 h3
  exact PySem.W.kia_tup (PySem.W.handS_kitx_exc C.hg C.hk C.hs C.hd C.ha C.hn C.ht C.hm) I.kIn (inst_pin hp hz hf I) h1 e (fun z => nomatch z) fun tk => ⟨.bl b, H, I.kept (t' := tk) fun _ _ z => z, rfl, q⟩
/-- a text, or none of it -/
def tx01 (x : Str) (b : Bool) : Str := if b = true then x else ⟨#[]⟩
theorem op_rep_str : OpR X (binaryOp .Mult) (fun x y H Q => ∃ (z : Str) (b : Bool), x = .str z ∧ y = .int (if b then 1 else 0) ∧ Q (.str (tx01 z b)) H) := by
  intro pins s σ H x y v u Q I rx ry h
  obtain ⟨z, b, rfl, rfl, q⟩ := h
  obtain ⟨t, rfl⟩ := rx
  obtain ⟨t', rfl⟩ := ry
  cases b with
  | true =>
    refine PySem.SB.mul (n := 1) ⟨by decide, fun _ y => absurd y (by simp), fun _ y => absurd y (by simp)⟩ fun t' k => ?_
    exact ⟨.str z, H, I.tok _, ⟨_, rfl⟩, q⟩
  | false =>
    refine PySem.SB.mul (n := 0) ⟨by decide, fun h => absurd (by decide) h, fun h => absurd (by decide) h⟩ fun t' k => ?_
    exact ⟨.str ⟨#[]⟩, H, I.tok _, ⟨_, rfl⟩, q⟩
def rCntT (K : PySem.W.Frag) : V → List V → Hp → VK → Prop := fun x xs H Q => ∃ (p : Addr) (ns : List Str) (k : Str), x = .ref p ∧ xs = [.str k] ∧ SqL K H p (ns.map V.str) ∧ Q (.int (ns.count k : Nat)) H
theorem countP_strs (k : Str) : ∀ {vs : List Value} {ys : List Str}, StrsAre vs ys → vs.countP (isStrOf k) = ys.count k
  | _, _, .nil => rfl
  | _, _, .cons n u h => by
    rw [List.countP_cons, List.count_cons, countP_strs k h]
    rfl
theorem mt_lcountT : MtR X "list.count" (rCntT X.K) := by
  intro pins s σ H x xs v us Q I rx rxs h
  obtain ⟨p, ns, k, rfl, rfl, hs, q⟩ := h
  cases rx
  obtain ⟨u, rfl, ru⟩ := rxs.one
  obtain ⟨t, rfl⟩ := ru
  obtain ⟨its, rv, ⟨⟨cls, dd, data, sl⟩, n, ho, hc, hdn, hd⟩, hlen⟩ := I.list hs
  simp only at hc hd
  subst hc hd
  have hi := Vals.strs rv
  refine call_meets PySem.F.slot_list_count ⟨_, ho, rfl⟩ PySem.F.entry_list_count (PySem.F.args_list_count_2 _ _)
    (PySem.SeqAt.list_countAt p its.toArray n dd sl (.str k t) (isStrOf k)) ⟨ho, fun y hy => (eq_isStrOf k t hi y (by simpa using hy)).at _ _, ?_⟩
  refine ⟨.int (ns.count k : Nat), H, I.tok _, ⟨s.toks, ?_⟩, q⟩
  show Value.int ((its.toArray.toList.countP (isStrOf k) : Nat) : Int) s.toks = Value.int ((ns.count k : Nat) : Int) s.toks
  rw [show its.toArray.toList.countP (isStrOf k) = ns.count k from countP_strs k hi]
theorem pe_lcountT {K : PySem.W.Frag} {o e : Expr} {es : List Expr} {apos cpos : Pos} {to : TE} {t : TA} (hK : X.K = K) (ho : PE X o to) (ha : PA X (e :: es) t)
    (hbase : attributeBase o ("count" : Str) X.env (eval o X.env) = eval o X.env := by rfl)
    (hfew : ((backTo cpos (starEach (e :: es) X.env)).all (fun x => !x.1) && (backToKw cpos (keywordEach [] X.env)).all (fun x => x.1.isSome)
      && decide ((e :: es).length + ([] : List Keyword).length + (if ([] : List Keyword).isEmpty then 0 else 1) < 30)) = true := by rfl)
    (hline : (apos.endLine == cpos.line) = true := by rfl) (hs : starEach (e :: es) X.env = (false, eval e X.env) :: starEach es X.env := by rfl) (hplain : (backTo cpos (starEach es X.env)).any (·.1) = false := by rfl) :
    PE X (.Call (.Attribute o ("count" : Str) apos) (e :: es) [] cpos) (tBM K "list" (rCntT K) to t) := by
  subst hK
  exact pe_bm PySem.F.plainAttrs_list PySem.F.slot_list_count PySem.F.type_list_count mt_lcountT ho ha hbase hfew hline hs hplain
theorem pe_appK {K : PySem.W.Frag} {o e : Expr} {es : List Expr} {apos cpos : Pos} {to : TE} {t : TA} (hK : X.K = K) (ho : PE X o to) (ha : PA X (e :: es) t)
    (hbase : attributeBase o ("append" : Str) X.env (eval o X.env) = eval o X.env := by rfl)
    (hfew : ((backTo cpos (starEach (e :: es) X.env)).all (fun x => !x.1) && (backToKw cpos (keywordEach [] X.env)).all (fun x => x.1.isSome)
      && decide ((e :: es).length + ([] : List Keyword).length + (if ([] : List Keyword).isEmpty then 0 else 1) < 30)) = true := by rfl)
    (hline : (apos.endLine == cpos.line) = true := by rfl) (hs : starEach (e :: es) X.env = (false, eval e X.env) :: starEach es X.env := by rfl) (hplain : (backTo cpos (starEach es X.env)).any (·.1) = false := by rfl) :
    PE X (.Call (.Attribute o ("append" : Str) apos) (e :: es) [] cpos) (tBM K "list" rAppend to t) := by
  subst hK
  exact pe_bm PySem.F.plainAttrs_list PySem.F.slot_list_append PySem.F.type_list_append mt_append ho ha hbase hfew hline hs hplain
theorem isl_of {pins : List (Addr × Obj)} {σ : L2.St} {H : Hp} {s : Shared} {a : Addr} {xs : List V} (I : Inv X pins σ H s) (ea : H a = some (.lst xs)) : ∃ its : List Value, its.length = xs.length ∧ s.heap.IsList a its.toArray := by
  obtain ⟨its, rv, ⟨o, n, ho, hc, hdn, hd⟩, hlen⟩ := I.list (.inl (.inl ea))
  exact ⟨its, (Paired.length rv).symm, o, ho, hc, n, hd⟩
/-- xs == [], whatever stands in xs -/
theorem op_eqNil (hu : X.A.units + 64 < cLine) : OpR X (compareOp .Eq) (fun x y H Q => ∃ a b xs, x = .ref a ∧ y = .ref b ∧ H a = some (.lst xs) ∧ H b = some (.lst []) ∧ Q (.bl xs.isEmpty) H) := by
  intro pins s σ H x y v u Q I rx ry h
  obtain ⟨a, b, xs, rfl, rfl, ea, eb, q⟩ := h
  cases xs with
  | nil => exact op_eqD hu pins s σ H _ _ v u Q I rx ry ⟨.list [], .list [], .lst (.inl (.inl ea)) .nil, .lst (.inl (.inl eb)) .nil, rfl, rfl, q⟩
  | cons x xs =>
    obtain rfl : v = Value.ref a := rx
    obtain rfl : u = Value.ref b := ry
    obtain ⟨its, l1, i1⟩ := isl_of I ea
    obtain ⟨jts, l2, i2⟩ := isl_of I eb
    refine PySem.SeqAt.RcAt.lists_lengths i1 i2 ?_ (by omega) _ _ _ _ ⟨.bl false, H, I, rfl, q⟩
    rw [List.size_toArray, List.size_toArray, l1, l2]
    rfl
theorem op_neNil (hu : X.A.units + 64 < cLine) : OpR X (compareOp .NotEq) (fun x y H Q => ∃ a b xs, x = .ref a ∧ y = .ref b ∧ H a = some (.lst xs) ∧ H b = some (.lst []) ∧ Q (.bl (!xs.isEmpty)) H) := by
  intro pins s σ H x y v u Q I rx ry h
  obtain ⟨a, b, xs, rfl, rfl, ea, eb, q⟩ := h
  cases xs with
  | nil => exact op_neD hu pins s σ H _ _ v u Q I rx ry ⟨.list [], .list [], .lst (.inl (.inl ea)) .nil, .lst (.inl (.inl eb)) .nil, rfl, rfl, q⟩
  | cons x xs =>
    obtain rfl : v = Value.ref a := rx
    obtain rfl : u = Value.ref b := ry
    obtain ⟨its, l1, i1⟩ := isl_of I ea
    obtain ⟨jts, l2, i2⟩ := isl_of I eb
    refine PySem.SeqAt.RcNeAt.lists_lengths i1 i2 ?_ (by omega) _ _ _ _ ⟨.bl true, H, I, rfl, q⟩
    rw [List.size_toArray, List.size_toArray, l1, l2]
    rfl
/-- [c for c in text if ..]: each a text of one sign -/
theorem lc_filtC {D : Addr} {j : Nat} {σ : L2.St} {vs : List Nat} {tt : TT} {H1 : Hp} {Qd : Hp → Prop} {x : Str} (p : Nat → Bool)
    (few : x.length < sizeLine) (hD : H1 D = none) (hw : ∀ v, wipe ((wipe σ vs).set j (some v)) vs = wipe σ vs) (hj : ∀ v : V, ((wipe σ vs).set j (some v))[j]? = some (some v))
    (ht : ∀ c ∈ x.cps.toList, ∀ (H4 : Hp) (Qb : Bool → Hp → Prop), Gr H1 H4 → (∀ H5, Gr H4 H5 → Qb (p c) H5) → tt ((wipe σ vs).set j (some (.str ⟨#[c]⟩))) H4 Qb)
    (q : ∀ H2, Gr H1 H2 → H2 D = some (.lst ((x.cps.toList.filter p).map fun c => V.str ⟨#[c]⟩)) → Qd H2) :
    ∃ W : Nat → Nat → Hp → Prop, (∃ m, W 0 m (upd H1 D (.lst []))) ∧ ∀ i m H, W i m H →
      ((Its x).stop i H ∧ Qd H) ∨ ((Its x).go i H ∧ ∃ Nx : Hp → Prop, (∀ H', Nx H' → ∃ m', m' < m ∧ W (i + 1) m' H') ∧ ∀ z H', (Its x).yld i H z H' → gName j z (wipe σ vs) H' fun σ2 H2 => wipe σ2 vs = wipe σ vs ∧ tt σ2 H2 fun b H3 =>
        if b = true then tVar j σ2 H3 fun y H4 => ∃ acc, H4 D = some (.lst acc) ∧ acc.length < sizeLine ∧ Nx (upd H4 D (.lst (acc ++ [y]))) else Nx H3) := by
  have hl : x.cps.toList.length = x.length := Array.length_toList
  refine ⟨fun i m H2 => m = x.length - i ∧ i ≤ x.length ∧ Gr H1 H2 ∧ H2 D = some (.lst (((x.cps.toList.take i).filter p).map fun c => V.str ⟨#[c]⟩)), ⟨x.length, by simp, Nat.zero_le _, Gr.new hD, upd_same⟩, ?_⟩
  rintro i m H2 ⟨rfl, hi, g2, e⟩
  by_cases lt : i < x.length
  · refine .inr ⟨lt, fun H6 => Gr H1 H6 ∧ H6 D = some (.lst (((x.cps.toList.take (i + 1)).filter p).map fun c => V.str ⟨#[c]⟩)), fun H6 h6 => ⟨x.length - (i + 1), by omega, rfl, lt, h6.1, h6.2⟩, fun z H6 y => ?_⟩
    obtain ⟨e1, c, hc, rfl⟩ := y
    subst e1
    have hx0 : x.cps.toList[i]? = some c := by rw [Array.getElem?_toList]; exact hc
    have etk : (x.cps.toList.take (i + 1)).filter p = (x.cps.toList.take i).filter p ++ [c].filter p := by
      rw [List.take_add_one, hx0, List.filter_append]
      rfl
    refine ⟨hw _, ht c (List.mem_of_getElem? hx0) _ _ g2 fun H3 g3 => ?_⟩
    cases hp : p c with
    | true =>
      refine iteT ⟨_, hj _, _, g3.lst e, ?_, (g2.trans g3).mut hD, ?_⟩
      · rw [List.length_map]
        have h1 := List.length_filter_le p (x.cps.toList.take i)
        rw [List.length_take] at h1
        omega
      · rw [upd_same, etk, List.map_append]
        simp [hp]
    | false =>
      refine iteF ⟨g2.trans g3, ?_⟩
      rw [etk, List.map_append]
      simp only [hp, List.filter_cons, Bool.false_eq_true, if_false, List.filter_nil, List.map_nil, List.append_nil]
      exact g3.lst e
  · have e1 : i = x.length := by omega
    subst e1
    refine .inl ⟨Nat.le_refl _, q _ g2 ?_⟩
    rw [← hl, List.take_length] at e
    exact e
end
/-- try .. except .. as n, its meaning under a name of its own (so that loops find it) -/
def tTry (K : PySem.W.Frag) (c : Value) (i : Nat) (ts : Addr → Value → Option Addr → TS) (Wout : WX) (tb : WX → TS) : TS := fun D σ H => tb (wAs K c i ts Wout D) D σ H
theorem ps_try_asT {X : Cx} {x n : Str} {c : Value} {i : Nat} {body suite : List Stmt} {b₀ : Stmt} {np pos pos' : Pos} {tb : WX → TS} {ts : Addr → Value → Option Addr → TS} {Wout : WX}
    (hs : X.stack = X.env :: X.outer) (hf : X.env.frame = some X.env.locals) (hN : X.N.Nodup) (hi : X.N[i]? = some n) (hln : X.env.kindOf n = some .local) (hc : Names X x c) (tk : Takes X Wout)
    (hb : ∀ (W : WX) (pn : List (Addr × Obj)) (xe : Value → Shared → Prop), Takes (X.tr pn xe) W → PassesOwn (model X.prog X.w) X.A X.env xe → PSs (X.tr pn xe) body (tb W))
    (hsu : ∀ (a : Addr) (oe : Obj) (cls : Value) (d : Option Addr) (pn : List (Addr × Obj)), Zc cls d oe → (∃ vs, oe.data = .fields vs) → PSs (X.suite a ((a, oe) :: pn)) (b₀ :: suite) (ts a cls d)) :
    PS X (.Try body [.ExceptHandler (some (.Name x np)) (some n) (b₀ :: suite) pos'] [] [] pos) (tTry X.K c i ts Wout tb) := ps_try_as hs hf hN hi hln hc tk hb hsu
/-- list(text): a text for each sign -/
theorem call_listTx {X : Cx} (hc : X.calm = true) : CallR X (.type "list") (fun xs H Q => ∃ z : Str, xs = [.str z] ∧ z.length ≤ sizeLine ∧ ∀ p, H p = none → Q (.ref p) (upd H p (.lst (z.cps.toList.map fun c => V.str ⟨#[c]⟩)))) := by
  intro pins s σ H xs us Q I r h
  obtain ⟨z, e, hz, q⟩ := h
  subst e
  obtain ⟨u, eu, rx⟩ := vals1 r
  subst eu
  obtain ⟨t, rfl⟩ := rx
  refine PySem.call_list_str (hn := hz) (I.ok.hd hc) z t fun h' tk acc' c' hkeep hS hacc => ?_
  refine ⟨.ref s.heap.objs.size, upd H s.heap.objs.size (.lst (z.cps.toList.map fun c => V.str ⟨#[c]⟩)), I.laid hkeep (Nat.le_refl _) (show ObjOk X.prog X.w _ _ _ (.lst (z.cps.toList.map fun c => V.str ⟨#[c]⟩)) from ⟨?_, acc'.toList, c', ?_, ?_⟩), rfl, q _ (I.hok.fresh (Nat.le_refl _))⟩
  · rw [List.length_map]; exact hz
  · refine vals_of_idx _ _ (by rw [List.length_map, Array.length_toList, Array.length_toList, hacc.1]) fun j u hj => ?_
    obtain ⟨c, u2, hc2, rfl⟩ := hacc.2 j u (by rw [← Array.getElem?_toList]; exact hj)
    exact ⟨.str ⟨#[c]⟩, by rw [List.getElem?_map, Array.getElem?_toList, hc2]; rfl, u2, rfl⟩
  · rw [Array.toArray_toList]; exact hS
theorem pi_listK {X : Cx} {tg l : Expr} {tl : TE} {K : PySem.W.Frag} (hK : X.K = K) (hl : PE X l tl) : PI X tg l (iList K tl) := by
  subst hK
  exact pi_list hl
end K1
end
section
set_option maxHeartbeats 8000000
/-! texts of rows -/
namespace K1
open PySem PySem.Spec PyProof.Rows L2 Gr GxR Srx Skx Dcx
theorem hu1x {u k : Nat} (h : u + 16 * k + 200 < cLine) : u < cLine := by omega
/-- the line of a row, the text of rows -/
def lineS (r : List Str) : Str := if r = [] then "-" else Txt.join " " r
def textS (rows : List (List Str)) : Str := Txt.join "\n" (rows.map lineS)
theorem sum_le (k : Nat) : ∀ xs : List Str, (∀ x ∈ xs, x.length ≤ k) → (xs.map (·.length)).sum ≤ k * xs.length
  | [], _ => Nat.zero_le _
  | x :: xs, h => by
    have h1 := h x List.mem_cons_self
    have h2 := sum_le k xs fun y hy => h y (List.mem_cons_of_mem _ hy)
    rw [List.map_cons, List.sum_cons, List.length_cons, Nat.mul_succ]
    omega
theorem join_len (y : Str) (parts : List Str) : (Txt.join y parts).length = (parts.map (·.length)).sum + (parts.length - 1) * y.length := PySem.size_glued y parts
theorem lineS_len {r : List Str} (h : Nms r) (l : r.length ≤ 12) : (lineS r).length ≤ 120 := by
  unfold lineS
  by_cases e : r = []
  · rw [if_pos e]
    decide +kernel
  · rw [if_neg e, join_len]
    have h1 := sum_le 8 r fun x hx => nm_len (h x hx)
    have h2 : (" " : Str).length = 1 := by decide +kernel
    rw [h2]
    omega
section
variable {X : Cx} {K : PySem.W.Frag} {o e : Expr} {to te : TE}
def rJoin (K : PySem.W.Frag) : V → List V → Hp → VK → Prop := fun x xs H Q => ∃ a p, ∃ ys : List Str, x = .str a ∧ xs = [.ref p] ∧ (SqL K H p (ys.map V.str) ∨ SqT K H p (ys.map V.str)) ∧
  (ys.map (·.length)).sum + ys.length * a.length ≤ 16777216 ∧ Q (.str (Txt.join a ys)) H
theorem pe_joinK {apos pos : Pos} (hK : X.K = K) (ho : PE X o to) (he : PE X e te) (hs : starEach [e] X.env = [(false, eval e X.env)] := by rfl) (hbase : attributeBase o "join" X.env (eval o X.env) = eval o X.env := by rfl) (hline : (apos.endLine == pos.line) = true := by rfl) :
    PE X (.Call (.Attribute o "join" apos) [e] [] pos) (tM1 (rJoin K) to te) := by
  subst hK
  exact pe_join ho he hs hbase hline
end
/-- [.. for x in xs], what is made is no new object -/
theorem lc_mapW {α : Type} {K : PySem.W.Frag} {a D : Addr} {j : Nat} {σ : L2.St} {vs : List Nat} {te : TE} {H1 : Hp} {Qd : Hp → Prop} {xs : List α} (g F : α → V)
    (hA : SqL K H1 a (xs.map g)) (few : xs.length < sizeLine) (hD : H1 D = none) (hw : ∀ v, wipe ((wipe σ vs).set j (some v)) vs = wipe σ vs)
    (he : ∀ x ∈ xs, ∀ (H4 : Hp) (Q' : VK), Gr H1 H4 → (∀ H5, Gr H4 H5 → Q' (F x) H5) → te ((wipe σ vs).set j (some (g x))) H4 Q')
    (q : ∀ H2, Gr H1 H2 → H2 D = some (.lst (xs.map F)) → Qd H2) :
    ∃ W : Nat → Nat → Hp → Prop, (∃ m, W 0 m (upd H1 D (.lst []))) ∧ ∀ i m H, W i m H →
      ((Itl K a).stop i H ∧ Qd H) ∨ ((Itl K a).go i H ∧ ∃ Nx : Hp → Prop, (∀ H', Nx H' → ∃ m', m' < m ∧ W (i + 1) m' H') ∧ ∀ x H', (Itl K a).yld i H x H' → gName j x (wipe σ vs) H' fun σ2 H2 => wipe σ2 vs = wipe σ vs ∧ tYes σ2 H2 fun b H3 =>
        if b = true then te σ2 H3 fun y H4 => ∃ acc, H4 D = some (.lst acc) ∧ acc.length < sizeLine ∧ Nx (upd H4 D (.lst (acc ++ [y]))) else Nx H3) := by
  refine lc_list (xs := xs.map g) (Qd := Qd) (fun i H2 => Gr H1 H2 ∧ H2 D = some (.lst ((xs.take i).map F))) ⟨Gr.new hD, upd_same⟩ (fun i H2 _ h => h.1.seq hA) (fun i x H2 hx h => ?_) (fun H2 h => ?_)
  · obtain ⟨g2, e⟩ := h
    obtain ⟨q0, hq0, rfl⟩ := get_map hx
    have hi : i < xs.length := (List.getElem?_eq_some_iff.mp hq0).1
    refine ⟨hw _, yesIf (he q0 (List.mem_of_getElem? hq0) H2 _ g2 fun H5 g5 => ⟨_, g5.lst e, ?_, (g2.trans g5).mut hD, ?_⟩)⟩
    · rw [List.length_map, List.length_take]
      omega
    · rw [upd_same, take_map hq0]
  · obtain ⟨g2, e⟩ := h
    rw [List.length_map, List.take_length] at e
    exact q H2 g2 e
/-- [x for x in xs if ..], by what the items come from -/
theorem lc_filtG {α : Type} {K : PySem.W.Frag} {a D : Addr} {j : Nat} {σ : L2.St} {vs : List Nat} {tt : TT} {H1 : Hp} {Qd : Hp → Prop} {xs : List α} (g : α → V) (p : α → Bool)
    (hA : SqL K H1 a (xs.map g)) (few : xs.length < sizeLine) (hD : H1 D = none) (hw : ∀ v, wipe ((wipe σ vs).set j (some v)) vs = wipe σ vs) (hj : ∀ v : V, ((wipe σ vs).set j (some v))[j]? = some (some v))
    (ht : ∀ x ∈ xs, ∀ (H4 : Hp) (Qb : Bool → Hp → Prop), Gr H1 H4 → (∀ H5, Gr H4 H5 → Qb (p x) H5) → tt ((wipe σ vs).set j (some (g x))) H4 Qb)
    (q : ∀ H2, Gr H1 H2 → H2 D = some (.lst ((xs.filter p).map g)) → Qd H2) :
    ∃ W : Nat → Nat → Hp → Prop, (∃ m, W 0 m (upd H1 D (.lst []))) ∧ ∀ i m H, W i m H →
      ((Itl K a).stop i H ∧ Qd H) ∨ ((Itl K a).go i H ∧ ∃ Nx : Hp → Prop, (∀ H', Nx H' → ∃ m', m' < m ∧ W (i + 1) m' H') ∧ ∀ x H', (Itl K a).yld i H x H' → gName j x (wipe σ vs) H' fun σ2 H2 => wipe σ2 vs = wipe σ vs ∧ tt σ2 H2 fun b H3 =>
        if b = true then tVar j σ2 H3 fun y H4 => ∃ acc, H4 D = some (.lst acc) ∧ acc.length < sizeLine ∧ Nx (upd H4 D (.lst (acc ++ [y]))) else Nx H3) := by
  refine lc_list (xs := xs.map g) (Qd := Qd) (fun i H2 => Gr H1 H2 ∧ H2 D = some (.lst (((xs.take i).filter p).map g))) ⟨Gr.new hD, upd_same⟩ (fun i H2 _ h => h.1.seq hA) (fun i x H2 hx h => ?_) (fun H2 h => ?_)
  · obtain ⟨g2, e⟩ := h
    obtain ⟨x0, hx0, rfl⟩ := get_map hx
    have etk : (xs.take (i + 1)).filter p = (xs.take i).filter p ++ [x0].filter p := by
      rw [List.take_add_one, hx0, List.filter_append]
      rfl
    refine ⟨hw _, ht x0 (List.mem_of_getElem? hx0) H2 _ g2 fun H3 g3 => ?_⟩
    cases hp : p x0 with
    | true =>
      refine iteT ⟨_, hj _, _, g3.lst e, ?_, (g2.trans g3).mut hD, ?_⟩
      · rw [List.length_map]
        have h1 := List.length_filter_le p (xs.take i)
        rw [List.length_take] at h1
        omega
      · rw [upd_same, etk, List.map_append]
        simp [hp]
    | false =>
      refine iteF ⟨g2.trans g3, ?_⟩
      rw [etk, List.map_append]
      simp only [hp, List.filter_cons, Bool.false_eq_true, if_false, List.filter_nil, List.map_nil, List.append_nil]
      exact g3.lst e
  · obtain ⟨g2, e⟩ := h
    rw [List.length_map, List.take_length] at e
    exact q H2 g2 e
/-- a book beside the law's own table of it: the table's rows as they were drawn -/
structure Sd13 (C : Addr) (nm : List Str) (H : Hp) (b d t : Addr) (tb tt : Tb1) (n : Int) : Prop where
  bk : Bk C H b d tb n
  ok : Tok tb n
  tbl : Tbl H t tt
  eq : nr tb = (nr tt).map fun z => (z.1, srt z.2)
  row : ∀ r ∈ rws tt, r.Nodup ∧ ∀ y ∈ r, y ∈ nm
/-- the names -/
structure Nm5 (nm : List Str) : Prop where
  nms : Nms nm
  nd : nm.Nodup
  ne : nm ≠ []
  few : nm.length ≤ 5
section
variable {C b d t : Addr} {nm : List Str} {H H' : Hp} {tb tt : Tb1} {n : Int}
theorem Sd13.gr (S : Sd13 C nm H b d t tb tt n) (g : Gr H H') : Sd13 C nm H' b d t tb tt n := ⟨S.bk.gr g, S.ok, S.tbl.gr g, S.eq, S.row⟩
theorem Sd13.rws (S : Sd13 C nm H b d t tb tt n) : rws tb = (K1.rws tt).map srt := by
  rw [rws_nr, S.eq, rws_nr, List.map_map, List.map_map]
  rfl
theorem Sd13.nums (S : Sd13 C nm H b d t tb tt n) : nums tb = K1.nums tt := by
  have h1 : ∀ tb : Tb1, K1.nums tb = (nr tb).map (·.1) := fun tb => by
    unfold K1.nums nr
    rw [List.map_map]
    rfl
  rw [h1, h1, S.eq, List.map_map]
  rfl
theorem Sd13.len (S : Sd13 C nm H b d t tb tt n) : tb.length = tt.length := by
  have h1 := congrArg List.length S.nums
  unfold K1.nums at h1
  rw [List.length_map, List.length_map] at h1
  exact h1
theorem Sd13.pw (S : Sd13 C nm H b d t tb tt n) : (K1.nums tt).Pairwise (· < ·) := S.nums ▸ S.ok.num
theorem mt_srt (x r : List Str) : mt x (srt r) = mt x r := by
  rw [Bool.eq_iff_iff, mt_iff, mt_iff]
  exact exists_congr fun y => and_congr_right fun _ => srt_mem
theorem mtAll_srt (x : List Str) (rows : List (List Str)) : mtAll x (rows.map srt) = mtAll x rows := by
  rw [Bool.eq_iff_iff, mtAll_iff, mtAll_iff]
  constructor
  · intro h r hr
    obtain ⟨y, h1, h2⟩ := h _ (List.mem_map.mpr ⟨r, hr, rfl⟩)
    exact ⟨y, h1, srt_mem.mp h2⟩
  · intro h r hr
    obtain ⟨r0, h0, rfl⟩ := List.mem_map.mp hr
    obtain ⟨y, h1, h2⟩ := h r0 h0
    exact ⟨y, h1, srt_mem.mpr h2⟩
theorem Sd13.mt (S : Sd13 C nm H b d t tb tt n) (x : List Str) : mtAll x (K1.rws tb) = mtAll x (K1.rws tt) := by rw [S.rws, mtAll_srt]
theorem Sd13.grown (S : Sd13 C nm H b d t tb tt n) : K1.grown (K1.rws tb) = K1.grown (K1.rws tt) := grown_congr S.mt
theorem Sd13.nmsR (S : Sd13 C nm H b d t tb tt n) (N : Nm5 nm) : ∀ r ∈ K1.rws tt, Nms r ∧ r.length ≤ 5 := fun r hr => by
  obtain ⟨h1, h2⟩ := S.row r hr
  refine ⟨fun y hy => N.nms y (h2 y hy), ?_⟩
  have h3 := (sublist_of (ris_srt N.nd) (ris_srt h1) fun y hy => srt_mem.mpr (h2 y (srt_mem.mp hy))).length_le
  rw [srt_len, srt_len] at h3
  have := N.few
  omega
theorem Sd13.lq {K : PySem.W.Frag} (S : Sd13 C nm H b d t tb tt n) : ∀ q ∈ (tt.map fun e => (e.2.1, e.2.2)), SqL K H q.1 (q.2.map V.str) := fun q hq => by
  obtain ⟨e, he, rfl⟩ := List.mem_map.mp hq
  exact .inl (.inl (S.tbl.own e he))
end
end K1
end
section
set_option maxHeartbeats 8000000
namespace K1
open PySem PySem.Spec PyProof.Rows L2 Gr GxR
def topS (i : Nat) : Stmt := PySem.Challenge.pw_meetrows_k13_whole_deeds.main.body.getD i (.Pass ⟨0, 0, 0, 0⟩)
abbrev sIsName : Stmt := topS 9
abbrev sRising : Stmt := topS 10
abbrev sWithin : Stmt := topS 11
abbrev sMeets : Stmt := topS 12
abbrev sRanked : Stmt := topS 14
abbrev sLeast : Stmt := topS 15
abbrev sOnce : Stmt := topS 16
abbrev sRank : Stmt := topS 17
abbrev s_name_from : Stmt := topS 19
abbrev s_names_from : Stmt := topS 20
abbrev s_row_from : Stmt := topS 21
abbrev s_grown : Stmt := topS 23
abbrev m_init : Stmt := inClass (topS 27) 2
abbrev m_put : Stmt := inClass (topS 27) 3
abbrev m_take : Stmt := inClass (topS 27) 4
abbrev m_rows : Stmt := inClass (topS 27) 5
abbrev m_names : Stmt := inClass (topS 27) 6
abbrev m_least : Stmt := inClass (topS 27) 7
abbrev m_fewest : Stmt := inClass (topS 27) 8
abbrev m_meets : Stmt := inClass (topS 27) 9
abbrev m_pared : Stmt := inClass (topS 27) 10
abbrev m_own : Stmt := inClass (topS 27) 11
abbrev m_least_rows : Stmt := inClass (topS 27) 12
abbrev m_needed : Stmt := inClass (topS 27) 13
abbrev m_idle : Stmt := inClass (topS 27) 14
abbrev m_struck : Stmt := inClass (topS 27) 15
abbrev m_without : Stmt := inClass (topS 27) 16
abbrev m_joined : Stmt := inClass (topS 27) 17
abbrev m_crossed : Stmt := inClass (topS 27) 18
abbrev m_sets : Stmt := inClass (topS 27) 19
abbrev m_met_by : Stmt := inClass (topS 27) 20
abbrev m_meeting : Stmt := inClass (topS 27) 21
abbrev m_first_own : Stmt := inClass (topS 27) 22
abbrev s_book_of : Stmt := topS 28
abbrev s_text_of : Stmt := topS 31
abbrev s_line_of : Stmt := topS 32
abbrev sDraw : Stmt := topS 34
abbrev sNames : Stmt := topS 35
abbrev sRow : Stmt := topS 36
abbrev sLMeets : Stmt := topS 37
abbrev sLAll : Stmt := topS 38
abbrev sLWithin : Stmt := topS 39
abbrev sSets : Stmt := topS 40
abbrev s_law_box : Stmt := topS 41
abbrev s_law_ranked : Stmt := topS 42
abbrev s_law_least : Stmt := topS 43
abbrev s_law_put_x : Stmt := topS 44
abbrev s_law_anew_x : Stmt := topS 45
abbrev s_law_deed_x : Stmt := topS 46
abbrev s_law_numbered : Stmt := topS 47
abbrev s_law_least_rows13 : Stmt := topS 48
abbrev s_law_pared : Stmt := topS 49
abbrev s_law_own_x : Stmt := topS 50
abbrev s_law_nothing_x : Stmt := topS 51
abbrev s_law_left_x : Stmt := topS 52
abbrev s_law_owned_x : Stmt := topS 53
abbrev s_law_two_x : Stmt := topS 54
abbrev s_law_one_x : Stmt := topS 55
abbrev s_law_other_x : Stmt := topS 56
abbrev s_law_asked_x : Stmt := topS 57
abbrev s_law_right_x : Stmt := topS 58
abbrev s_law_all_right_x : Stmt := topS 59
abbrev s_law_x : Stmt := topS 60
end K1
namespace K1
open PySem PySem.Spec PyProof.Rows L2 Gr GxR
section
variable {P : Program} {w : World} {K : PySem.W.Frag} {mg : Str → Option Value} {base : Heap} {f : Addr} {fd : FuncData}
theorem scDraw : FnScope ["_law_script", "_law_k"] ["_law_script", "_law_k"] (defScope sDraw) := ⟨rfl, rfl, rfl, by decide +kernel, rfl, by decide +kernel, by decide +kernel⟩
theorem ok_draw (F : FnP K "_law_draw" sDraw f fd) (gL : mg "len" = none) : FnOk P w K mg base CX0 1 f fd ["_law_script", "_law_k"] (spDraw K) := by
  refine F.ok scDraw (fun vs H Q E h => ?_) (fun cdv A outer s H vs Q E hr h => ?_)
  · obtain ⟨a, ns, k, rfl, _⟩ := h
    rfl
  · obtain ⟨a, ns, k, rfl, hS, q⟩ := h
    refine ⟨_, PSs.nox (pss_one (ps_ret (pe_ifExp (pt_cmpR op_gt (pe_callB call_len_seq (by rfl) gL boot_len (pa_cons (pv 0) pa_nil)) (pv 1) (nomark _)) (pe_ix ix_list (pv 0) (pv 1) (fun _ _ => rfl)) pe_int))), ?_⟩
    refine ⟨_, rfl, a, _, rfl, .inl hS, _, rfl, _, _, rfl, rfl, _, rfl, ?_⟩
    rw [List.length_map]
    by_cases hk : k < ns.length
    · rw [decide_eq_true (show (k : Int) < (ns.length : Int) by omega)]
      refine iteT ⟨_, rfl, _, rfl, a, _, _, _, rfl, rfl, hS, atI_nat (v := .int ns[k]) (by rw [List.getElem?_map, List.getElem?_eq_getElem hk]; rfl), ?_⟩
      have e : ns.getD k 0 = ns[k] := by rw [List.getD_eq_getElem?_getD, List.getElem?_eq_getElem hk]; rfl
      rw [e] at q
      exact q
    · rw [decide_eq_false (show ¬ (k : Int) < (ns.length : Int) by omega)]
      refine iteF ?_
      have e : ns.getD k 0 = 0 := by rw [List.getD_eq_getElem?_getD, List.getElem?_eq_none (by omega)]; rfl
      rw [e] at q
      exact q
theorem scLMeets : FnScope ["_law_one_here", "_law_row_here", "_law_name"] ["_law_one_here", "_law_row_here"] (defScope sLMeets) := ⟨rfl, rfl, rfl, by decide +kernel, rfl, by decide +kernel, by decide +kernel⟩
theorem ok_lmeets (F : FnP K "_law_meets" sLMeets f fd) : FnOk P w K mg base CX0 1 f fd ["_law_one_here", "_law_row_here"] (spLMeets K) := by
  refine F.ok scLMeets (fun vs H Q E h => ?_) (fun cdv A outer s H vs Q E hr h => ?_)
  · obtain ⟨a, b, xs, ys, rfl, _⟩ := h
    rfl
  · obtain ⟨a, b, xs, ys, rfl, hA, hB, q⟩ := h
    refine ⟨_, PSs.nox (pss_cons (ps_for PassesOwn.never rfl (pi_list (pv 0)) (pg_name (i := 2) scLMeets.nd rfl (.inl rfl)) (pss_one (ps_if (pt_cmpR op_in_seq (pv 2) (pv 1) rfl) (pss_one (ps_ret pe_bl)) pss_nil))) (pss_one (ps_ret pe_bl))), ?_⟩
    refine ⟨_, rfl, a, rfl, ⟨_, hA⟩, for_list (xs := xs.map V.str) (fun i σ H' => H' = H ∧ (xs.take i).any ys.contains = false ∧ ∃ v, σ = [some (.ref a), some (.ref b), v]) ⟨rfl, rfl, _, rfl⟩ (fun i σ H' _ h => h.1 ▸ hA) (fun i x σ H' hx h => ?_) (fun σ H' h => ?_)⟩
    · obtain ⟨rfl, hn, v, rfl⟩ := h
      obtain ⟨y, hy, rfl⟩ := get_map hx
      refine ⟨_, rfl, _, rfl, b, _, rfl, .inl hB, rfl, flat_str ys, _, rfl, ?_⟩
      rw [inV_str]
      cases e : ys.contains y with
      | true =>
        show Q (.bl true) H'
        rw [show xs.any ys.contains = true from List.any_eq_true.mpr ⟨y, List.mem_of_getElem? hy, e⟩] at q
        exact q
      | false =>
        refine ⟨rfl, ?_, _, rfl⟩
        rw [any_at hy, hn, e]
        rfl
    · obtain ⟨rfl, hn, v, rfl⟩ := h
      rw [List.length_map, List.take_length] at hn
      rw [hn] at q
      exact q
theorem scLWithin : FnScope ["_law_one_here", "_law_other_here", "_law_name"] ["_law_one_here", "_law_other_here"] (defScope sLWithin) := ⟨rfl, rfl, rfl, by decide +kernel, rfl, by decide +kernel, by decide +kernel⟩
theorem ok_lwithin (F : FnP K "_law_within" sLWithin f fd) : FnOk P w K mg base CX0 1 f fd ["_law_one_here", "_law_other_here"] (spLWithin K) := by
  refine F.ok scLWithin (fun vs H Q E h => ?_) (fun cdv A outer s H vs Q E hr h => ?_)
  · obtain ⟨a, b, xs, ys, rfl, _⟩ := h
    rfl
  · obtain ⟨a, b, xs, ys, rfl, hA, hB, q⟩ := h
    refine ⟨_, PSs.nox (pss_cons (ps_for PassesOwn.never rfl (pi_list (pv 0)) (pg_name (i := 2) scLWithin.nd rfl (.inl rfl)) (pss_one (ps_if (pt_cmpR op_notIn_seq (pv 2) (pv 1) rfl) (pss_one (ps_ret pe_bl)) pss_nil))) (pss_one (ps_ret pe_bl))), ?_⟩
    refine ⟨_, rfl, a, rfl, ⟨_, hA⟩, for_list (xs := xs.map V.str) (fun i σ H' => H' = H ∧ (xs.take i).all ys.contains = true ∧ ∃ v, σ = [some (.ref a), some (.ref b), v]) ⟨rfl, rfl, _, rfl⟩ (fun i σ H' _ h => h.1 ▸ hA) (fun i x σ H' hx h => ?_) (fun σ H' h => ?_)⟩
    · obtain ⟨rfl, hn, v, rfl⟩ := h
      obtain ⟨y, hy, rfl⟩ := get_map hx
      refine ⟨_, rfl, _, rfl, b, _, rfl, .inl hB, rfl, flat_str ys, _, rfl, ?_⟩
      rw [inV_str]
      cases e : ys.contains y with
      | false =>
        show Q (.bl false) H'
        rw [show xs.all ys.contains = false from List.all_eq_false.mpr ⟨y, List.mem_of_getElem? hy, by rw [e]; exact Bool.false_ne_true⟩] at q
        exact q
      | true =>
        refine ⟨rfl, ?_, _, rfl⟩
        rw [all_at hy, hn, e]
        rfl
    · obtain ⟨rfl, hn, v, rfl⟩ := h
      rw [List.length_map, List.take_length] at hn
      rw [hn] at q
      exact q
theorem scRank : FnScope ["one"] ["one"] (defScope sRank) := ⟨rfl, rfl, rfl, by decide +kernel, rfl, by decide +kernel, by decide +kernel⟩
theorem ok_rank (F : FnP K "_rank" sRank f fd) (gL : mg "len" = none) : FnOk P w K mg base CX0 1 f fd ["one"] (spRank K) := by
  refine F.ok scRank (fun vs H Q E h => ?_) (fun cdv A outer s H vs Q E hr h => ?_)
  · obtain ⟨a, xs, rfl, _⟩ := h
    rfl
  · obtain ⟨a, xs, rfl, hS, q⟩ := h
    refine ⟨_, PSs.nox (pss_one (ps_ret (pe_tup (pa_cons (pe_callB call_len_seq (by rfl) gL boot_len (pa_cons (pv 0) pa_nil)) (pa_cons (pv 0) pa_nil))))), ?_⟩
    refine ⟨_, rfl, a, _, rfl, .inl hS, _, rfl, (by show 2 ≤ sizeLine; decide), fun t ht => ?_⟩
    refine q _ _ (Gr.new ht) ?_
    rw [List.length_map]
    exact .tup (.inl (.inl upd_same)) (.cons (.int _) (.cons (.lst ((Gr.new ht).seq hS) (dp_strs xs)) .nil))
end
end K1
namespace K1
open PySem PySem.Spec PyProof.Rows L2 Gr GxR Srx
section
variable {P : Program} {w : World} {K : PySem.W.Frag} {mg : Str → Option Value} {base : Heap} {f : Addr} {fd : FuncData} {p : He.Defn}
theorem scWithin : FnScope ["one", "other", "name"] ["one", "other"] (defScope sWithin) := ⟨rfl, rfl, rfl, by decide +kernel, rfl, by decide +kernel, by decide +kernel⟩
theorem blkWithin : BlkOk ["one", "other", "name"] (defScope sWithin) (gexp sWithin) [("name", 2)] := blkOk_by (by decide +kernel)
theorem gxsWithin : Gx.GxS (gexp sWithin) := Gx.gxs_by (by decide +kernel)
theorem ok_within (F : FunD K "within" "within" (defArgs sWithin) (defBody sWithin) (defScope sWithin) [] [] (He.fAd K p) fd) (T : Tb K base mg p) (gA : mg "all" = none) : FnOk P w K mg base CX0 1 (He.fAd K p) fd ["one", "other"] (spWithin K (He.cT K p).2) := by
  refine okC F scWithin (fun vs H Q E h => ?_) (fun A outer s H vs Q E hr h => ?_)
  · obtain ⟨a, b, xs, ys, rfl, _⟩ := h
    rfl
  · obtain ⟨a, b, xs, ys, rfl, hA, hB, hT, q⟩ := h
    refine ⟨_, PSs.nox (pss_one (ps_ret (Gx.pe_all (own := [("name", 2)]) (gt := gName 2) (tt := tYes) hr rfl scWithin.nd (by rfl) gA T rfl blkWithin gxsWithin (pi_list (pv 0))
      (fun _ _ _ _ _ _ => pg_name (i := 2) scWithin.nd rfl (.inl rfl)) (fun _ _ _ _ _ _ => pts_nil) (fun _ _ _ _ _ _ => pe_cmpR (r := rIn K false) op_in_seq (pv 2) (pv 1) rfl)))), ?_⟩
    refine ⟨_, rfl, a, rfl, ⟨_, hA⟩, Gx.gx_list (xs := xs.map V.str) hT (fun i H' => Gr H H' ∧ (xs.take i).all ys.contains = true) (fun H2 t2 => ⟨Gr.tabbed hT t2, rfl⟩) (fun i H' _ h => h.1.seq hA) (fun i x H' Nx nx hx h => ?_) (fun H' h => ?_)⟩
    · obtain ⟨g, hn⟩ := h
      obtain ⟨y, hy, rfl⟩ := get_map hx
      refine ⟨rfl, yesIf ?_⟩
      refine ⟨_, rfl, _, rfl, b, _, rfl, .inl (g.seq hB), rfl, flat_str ys, _, rfl, fun e => ?_, fun e => nx _ ⟨g, ?_⟩⟩
      · rw [inV_str] at e
        have z := q H' g
        rw [show xs.all ys.contains = false from List.all_eq_false.mpr ⟨y, List.mem_of_getElem? hy, by rw [show ys.contains y = false from e]; exact Bool.false_ne_true⟩] at z
        exact z
      · rw [inV_str] at e
        rw [all_at hy, hn, show ys.contains y = true by simpa using e]
        rfl
    · have z := q H' h.1
      have hn := h.2
      rw [List.length_map, List.take_length] at hn
      rw [hn] at z
      exact z
theorem scMeets : FnScope ["one", "other", "name"] ["one", "other"] (defScope sMeets) := ⟨rfl, rfl, rfl, by decide +kernel, rfl, by decide +kernel, by decide +kernel⟩
theorem blkMeets : BlkOk ["one", "other", "name"] (defScope sMeets) (gexp sMeets) [("name", 2)] := blkOk_by (by decide +kernel)
theorem gxsMeets : Gx.GxS (gexp sMeets) := Gx.gxs_by (by decide +kernel)
theorem ok_meets (F : FunD K "meets" "meets" (defArgs sMeets) (defBody sMeets) (defScope sMeets) [] [] (He.fAd K p) fd) (T : Tb K base mg p) (gA : mg "any" = none) : FnOk P w K mg base CX0 1 (He.fAd K p) fd ["one", "other"] (spMeets K (He.cT K p).2) := by
  refine okC F scMeets (fun vs H Q E h => ?_) (fun A outer s H vs Q E hr h => ?_)
  · obtain ⟨a, b, xs, ys, rfl, _⟩ := h
    rfl
  · obtain ⟨a, b, xs, ys, rfl, hA, hB, hT, q⟩ := h
    refine ⟨_, PSs.nox (pss_one (ps_ret (Gx.pe_any (own := [("name", 2)]) (gt := gName 2) (tt := tYes) hr rfl scMeets.nd (by rfl) gA T rfl blkMeets gxsMeets (pi_list (pv 0))
      (fun _ _ _ _ _ _ => pg_name (i := 2) scMeets.nd rfl (.inl rfl)) (fun _ _ _ _ _ _ => pts_nil) (fun _ _ _ _ _ _ => pe_cmpR (r := rIn K false) op_in_seq (pv 2) (pv 1) rfl)))), ?_⟩
    refine ⟨_, rfl, a, rfl, ⟨_, hA⟩, Gx.gx_list (xs := xs.map V.str) hT (fun i H' => Gr H H' ∧ (xs.take i).any ys.contains = false) (fun H2 t2 => ⟨Gr.tabbed hT t2, rfl⟩) (fun i H' _ h => h.1.seq hA) (fun i x H' Nx nx hx h => ?_) (fun H' h => ?_)⟩
    · obtain ⟨g, hn⟩ := h
      obtain ⟨y, hy, rfl⟩ := get_map hx
      refine ⟨rfl, yesIf ?_⟩
      refine ⟨_, rfl, _, rfl, b, _, rfl, .inl (g.seq hB), rfl, flat_str ys, _, rfl, fun e => ?_, fun e => nx _ ⟨g, ?_⟩⟩
      · rw [inV_str] at e
        have z := q H' g
        rw [show xs.any ys.contains = true from List.any_eq_true.mpr ⟨y, List.mem_of_getElem? hy, e⟩] at z
        exact z
      · rw [inV_str] at e
        rw [any_at hy, hn, show ys.contains y = false by simpa using e]
        rfl
    · have z := q H' h.1
      have hn := h.2
      rw [List.length_map, List.take_length] at hn
      rw [hn] at z
      exact z
theorem scOnce : FnScope ["names"] ["names"] (defScope sOnce) := ⟨rfl, rfl, rfl, by decide +kernel, rfl, by decide +kernel, by decide +kernel⟩
theorem ok_once (F : FnP K "_once_each" sOnce f fd) (gS : mg "sorted" = none) (gT : mg "set" = none) : FnOk P w K mg base CX0 1 f fd ["names"] (spOnce K) := by
  refine F.ok scOnce (fun vs H Q E h => ?_) (fun cdv A outer s H vs Q E hr h => ?_)
  · obtain ⟨a, xs, rfl, _⟩ := h
    rfl
  · obtain ⟨a, xs, rfl, hA, few, q⟩ := h
    refine ⟨_, PSs.nox (pss_one (ps_ret (pe_callB (Srx.cr_sortedTx rfl (hu64 hr)) (by rfl) gS boot_sorted (pa_cons (pe_callTy (Srx.cr_setTx rfl) (by rfl) gT boot_set (pa_cons (pv 0) pa_nil)) pa_nil)))), ?_⟩
    refine ⟨_, rfl, a, xs, rfl, hA, few, fun b nb => ?_⟩
    refine ⟨b, Sx.dd xs, rfl, upd_same, fun p np => ?_⟩
    have g : Gr H (upd (upd H b (Srx.SetTx w b (Sx.dd xs))) p (.lst ((srt (Sx.dd xs)).map V.str))) := (Gr.new nb).trans (Gr.new np)
    exact q p _ g ((Gr.new nb).free np) upd_same
end
end K1
namespace K1
open PySem PySem.Spec PyProof.Rows L2 Gr GxR Srx
section
variable {P : Program} {w : World} {K : PySem.W.Frag} {mg : Str → Option Value} {base : Heap} {f : Addr} {fd : FuncData} {p : He.Defn}
theorem scIsName : FnScope ["thing", "letter"] ["thing"] (defScope sIsName) := ⟨rfl, rfl, rfl, by decide +kernel, rfl, by decide +kernel, by decide +kernel⟩
theorem blkIsName : BlkOk ["thing", "letter"] (defScope sIsName) (gexp2 sIsName) [("letter", 1)] := blkOk_by (by decide +kernel)
theorem gxsIsName : Gx.GxS (gexp2 sIsName) := Gx.gxs_by (by decide +kernel)
theorem ok_isname (F : FunD K "is_name" "is_name" (defArgs sIsName) (defBody sIsName) (defScope sIsName) [] [] (He.fAd K p) fd) (T : Tb K base mg p) (gA : mg "all" = none) (gI : mg "isinstance" = none) (gS : mg "str" = none) (gL : mg "len" = none) (gM : ∃ t, mg "MOST_LETTERS" = some (.int 8 t)) :
    FnOk P w K mg base CX0 1 (He.fAd K p) fd ["thing"] (spIsName K (He.cT K p).2) := by
  obtain ⟨tM, gM⟩ := gM
  refine okC F scIsName (fun vs H Q E h => ?_) (fun A outer s H vs Q E hr h => ?_)
  · obtain ⟨v, rfl, _⟩ := h
    rfl
  · obtain ⟨v, rfl, hv, hT, q⟩ := h
    refine ⟨_, PSs.nox (pss_cons (ps_if (PW.pt (pw_or (pt_not (pt_val (pe_callB call_isi (by rfl) gI (by decide +kernel) (pa_cons (pv 0) (pa_cons (pe_bltn (v := .ty "str") (by rfl) gS (by decide +kernel) rfl) pa_nil)))))
        (pw_or1 (pt_not (pt_chain op_le op_le pe_int (pe_callB call_len_str (by rfl) gL boot_len (pa_cons (pv 0) pa_nil)) (pe_glob (v := .int 8) (by rfl) gM ⟨_, rfl⟩)))))) (pss_one (ps_ret pe_bl)) pss_nil)
      (pss_one (ps_ret (Gx.pe_all (own := [("letter", 1)]) (gt := gName 1) (tt := tYes) hr rfl scIsName.nd (by rfl) gA T rfl blkIsName gxsIsName (pi_str (pv 0))
      (fun _ _ _ _ _ _ => pg_name (i := 1) scIsName.nd rfl (.inl rfl)) (fun _ _ _ _ _ _ => pts_nil) (fun _ _ _ _ _ _ => pe_chain op_le_str op_le_str pe_str (pv 1) pe_str))))), ?_⟩
    obtain ⟨t, ty, kt, hl⟩ := hv
    refine ⟨v, rfl, _, _, _, _, _, rfl, .ty _, ty, kit_ty kt, _, rfl, ?_⟩
    cases v with
    | str x =>
      refine iteF ?_
      refine ⟨V.str x, rfl, x, rfl, hl x rfl, 1, _, rfl, rfl, _, rfl, ?_⟩
      by_cases h1 : (1 : Int) ≤ x.length
      · rw [decide_eq_true h1]
        refine iteT ⟨_, _, rfl, rfl, ?_⟩
        refine ⟨decide ((x.length : Int) ≤ 8), rfl, ?_⟩
        by_cases h8 : (x.length : Int) ≤ 8
        · rw [decide_eq_true h8]
          refine iteF ?_
          refine ⟨_, rfl, x, rfl, Gx.gx_text hT (fun i H' => Gr H H' ∧ (x.cps.toList.take i).all small = true) (fun H2 t2 => ⟨Gr.tabbed hT t2, rfl⟩) (fun i c H' Nx nx hc h => ?_) (fun H' h => ?_)⟩
          · obtain ⟨g, hn⟩ := h
            refine ⟨rfl, yesIf ?_⟩
            have e1 : (!decide ((⟨#[c]⟩ : Str).cps.toList < (Str.ofString "a").cps.toList)) = decide (97 ≤ c) := by
              show (!decide ([c] < [97])) = _
              rw [decide_eq_decide.mpr (lt_one c 97)]
              by_cases z : 97 ≤ c
              · rw [decide_eq_true z, decide_eq_false (by omega)]; rfl
              · rw [decide_eq_false z, decide_eq_true (by omega)]; rfl
            have e2 : (!decide ((Str.ofString "z").cps.toList < (⟨#[c]⟩ : Str).cps.toList)) = decide (c ≤ 122) := by
              show (!decide ([122] < [c])) = _
              rw [decide_eq_decide.mpr (lt_one 122 c)]
              by_cases z : c ≤ 122
              · rw [decide_eq_true z, decide_eq_false (by omega)]; rfl
              · rw [decide_eq_false z, decide_eq_true (by omega)]; rfl
            have bad : small c = false → Q (.bl false) H' := by
              intro z
              have hq := q H' g
              rw [show nmV (V.str x) = false by
                show isNm x = false
                unfold isNm
                rw [show x.cps.toList.all small = false from List.all_eq_false.mpr ⟨c, List.mem_of_getElem? hc, by rw [z]; exact Bool.false_ne_true⟩]
                simp] at hq
              exact hq
            refine ⟨_, rfl, _, _, rfl, rfl, _, rfl, ?_⟩
            rw [e1]
            by_cases z1 : 97 ≤ c
            · rw [decide_eq_true z1]
              refine iteT ⟨_, _, rfl, rfl, _, rfl, fun e => bad ?_, fun e => nx _ ⟨g, ?_⟩⟩
              · rw [e2] at e
                unfold small
                rw [e, Bool.and_false]
              · rw [e2] at e
                have e : decide (c ≤ 122) = true := by simpa using e
                rw [List.take_add_one, hc, List.all_append, hn]
                show (true && ([c].all small)) = true
                rw [List.all_cons, List.all_nil]
                unfold small
                rw [decide_eq_true z1, e]
                rfl
            · rw [decide_eq_false z1]
              refine iteF ⟨_, rfl, fun _ => bad ?_, fun e => absurd rfl e⟩
              unfold small
              rw [decide_eq_false z1, Bool.false_and]
          · have hq := q H' h.1
            have hn := h.2
            rw [List.take_length] at hn
            rw [show nmV (V.str x) = true by
              show isNm x = true
              unfold isNm
              rw [hn, decide_eq_true (show 1 ≤ x.length by omega), decide_eq_true (show x.length ≤ 8 by omega)]
              rfl] at hq
            exact hq
        · rw [decide_eq_false h8]
          refine iteT ?_
          have hq := q H (Gr.refl H)
          rw [show nmV (V.str x) = false by
            show isNm x = false
            unfold isNm
            rw [decide_eq_false (show ¬ x.length ≤ 8 by omega)]
            simp] at hq
          exact hq
      · rw [decide_eq_false h1]
        refine iteF ⟨false, rfl, ?_⟩
        refine iteT ?_
        have hq := q H (Gr.refl H)
        rw [show nmV (V.str x) = false by
          show isNm x = false
          unfold isNm
          rw [decide_eq_false (show ¬ 1 ≤ x.length by omega)]
          simp] at hq
        exact hq
    | _ => exact q H (Gr.refl H)
end
end K1
namespace K1
open PySem PySem.Spec PyProof.Rows L2 Gr GxR Srx Skx
open PySem.W (dataLe dataLt DatumOrd Datum)
section
variable {P : Program} {w : World} {K : PySem.W.Frag} {mg : Str → Option Value} {base : Heap} {f fR : Addr} {fd fdR : FuncData} {p : He.Defn}
theorem scRanked : FnScope ["sets", "one"] ["sets"] (defScope sRanked) := ⟨rfl, rfl, rfl, by decide +kernel, rfl, by decide +kernel, by decide +kernel⟩
theorem ok_ranked (F : FnP K "ranked" sRanked f fd) (FR : FnP K "_rank" sRank fR fdR) (gR : mg "_rank" = some (.ref fR)) (gS : mg "sorted" = none) (gLi : mg "list" = none) (gL : mg "len" = none) : FnOk P w K mg base CX0 4 f fd ["sets"] (spRanked K) := by
  have GR : FnOk P w K mg base CX0 1 fR fdR ["one"] (spRank K) := ok_rank FR gL
  have bR : Binds K fdR ["one"] [] := FR.bindsN fun _ _ _ _ _ _ us hl => match us, hl with | [_], _ => rfl
  refine F.ok scRanked (fun vs H Q E h => ?_) (fun cdv A outer s H vs Q E hr h => ?_)
  · obtain ⟨a, ps0, rfl, _⟩ := h
    rfl
  · obtain ⟨a, ps0, rfl, hA, hin, few, q⟩ := h
    refine ⟨_, PSs.nox (pss_one (ps_ret (pe_callBK (ks := ["key"]) (cr_sortedKey ordRk GR bR hr) (by rfl) gS boot_sorted
      (pa_cons (pe_lc (own := [("one", 1)]) (g := gName 1) (tt := tYes) rfl scRanked.nd (pi_list (pv 0)) (blkOk_by (N := ["sets", "one"]) (sc := defScope sRanked) (by decide +kernel)) (fun _ _ _ _ _ => pg_name (i := 1) scRanked.nd rfl (.inl rfl)) (fun _ _ _ _ _ => pts_nil)
        (fun _ _ _ _ _ => pe_callTy (r := rListOf K) call_list_of (by rfl) gLi boot_list (pa_cons (pv 1) pa_nil))) pa_nil)
      (pk_cons (pe_glob (v := .ref fR) (by rfl) gR rfl) pk_nil)))), ?_⟩
    refine ⟨_, rfl, a, rfl, ⟨_, hA⟩, fun D hD => lc_fresh (fun x => x) hA few (Gr.refl H) hD (fun v => rfl) (fun q0 hq0 H4 Q' g4 h4 => ?_) fun H2 ps g2 T e => ?_⟩
    · refine ⟨_, rfl, q0.1, q0.2.map V.str, rfl, (hin q0 hq0).gr g4, h4⟩
    · refine ⟨D, ps.map fun q => (V.ref q.1, q.2), rfl, rfl, ?_, fun b hb => ?_, fun H3 r g3 hr3 => ?_⟩
      · rw [List.map_map]
        exact .inl (.inl T.at_)
      · obtain ⟨q0, hq0, rfl⟩ := List.mem_map.mp hb
        intro H3 g3 Q' hQ
        exact ⟨q0.1, q0.2, rfl, .inl (.inl (g3.lst (T.own q0 hq0).2.2)), fun v H' g' d => hQ v H' g' d⟩
      · have eq1 : (ps.map fun q => (V.ref q.1, q.2)).mergeSort (dataLe false fun b => rk b.2) = (ps.mergeSort fun a b => leR a.2 b.2).map fun q => (V.ref q.1, q.2) := by
          rw [List.map_mergeSort]
          intro a _ b _
          rfl
        have eq2 : (ps.mergeSort fun a b => leR a.2 b.2).map (·.2) = rkd (ps.map (·.2)) := by
          unfold rkd
          rw [List.map_mergeSort]
          intro a _ b _
          rfl
        rw [eq1, List.map_map]
        have T3 := T.gr g3
        have pm : (ps.mergeSort fun a b => leR a.2 b.2).Perm ps := List.mergeSort_perm _ _
        refine q r _ (ps.mergeSort fun a b => leR a.2 b.2) (g2.trans g3 |>.mut ?_) ⟨?_, upd_same, fun q0 hq0 => ?_, ?_⟩ ?_
        · exact (g2.trans g3).free hr3
        · exact (g2.trans g3).free hr3
        · obtain ⟨h1, h2, h3⟩ := T3.own q0 (pm.mem_iff.mp hq0)
          have nr : q0.1 ≠ r := ne_of_none h3 hr3
          refine ⟨h1, nr, ?_⟩
          rw [upd_ne nr]
          exact h3
        · exact ((pm.map (·.1)).nodup_iff).mpr T.nd
        · rw [eq2, e]
end
end K1
namespace K1
open PySem PySem.Spec PyProof.Rows L2 Gr GxR Srx Skx Dcx
section
variable {P : Program} {w : World} {K : PySem.W.Frag} {mg : Str → Option Value} {base : Heap} {f fR fO : Addr} {fd fdR fdO fdW : FuncData} {p pW : He.Defn}
abbrev nLeast : List Str := ["sets", "once", "kept", "one", "least"]
theorem scLeast : FnScope nLeast ["sets"] (defScope sLeast) := ⟨rfl, rfl, rfl, by decide +kernel, rfl, by decide +kernel, by decide +kernel⟩
theorem ok_least (F : FunD K "least_of" "least_of" (defArgs sLeast) (defBody sLeast) (defScope sLeast) [] [] (He.fAd K p) fd) (T : Tb K base mg p) (GR : FnOk P w K mg base CX0 4 fR fdR ["sets"] (spRanked K)) (bR : Binds K fdR ["sets"] []) (kR : PySem.W.keepIn K (.ref fR) = true) (gR : mg "ranked" = some (.ref fR))
    (GO : FnOk P w K mg base CX0 1 fO fdO ["names"] (spOnce K)) (bO : Binds K fdO ["names"] []) (kO : PySem.W.keepIn K (.ref fO) = true) (gO : mg "_once_each" = some (.ref fO))
    (GW : FnOk P w K mg base CX0 1 (He.fAd K pW) fdW ["one", "other"] (spWithin K (He.cT K pW).2)) (bW : Binds K fdW ["one", "other"] []) (kW : PySem.W.keepIn K (.ref (He.fAd K pW)) = true) (gW : mg "within" = some (.ref (He.fAd K pW)))
    (gA : mg "any" = none) (gT : mg "tuple" = none) (gLi : mg "list" = none) : FnOk P w K mg base CX0 5 (He.fAd K p) fd ["sets"] (spLeast K (He.cT K p).2 (He.cT K pW).2) := by
  refine okC F scLeast (fun vs H Q E h => ?_) (fun A outer s H vs Q E hr h => ?_)
  · obtain ⟨a, ps0, rfl, _⟩ := h
    rfl
  · obtain ⟨a, ps0, rfl, hA, hin, few, hT, hT2, q⟩ := h
    refine ⟨_, PSs.nox (pss_cons (ps_setDt (i := 1) (own := [("one", 3)]) (g := gName 3) (tt := tYes) (hu_of hr) rfl scLeast.nd rfl rfl (swd_true rfl rfl rfl (by decide +kernel)) (pi_list (pv 0)) (blkOk_by (N := nLeast) (sc := defScope sLeast) (by decide +kernel))
        (fun _ _ _ _ _ => pg_name (i := 3) scLeast.nd rfl (.inl rfl)) (fun _ _ _ _ _ => pts_nil)
        (fun _ _ _ _ _ => pe_callTy (r := rTupOf K) call_tuple_of (by rfl) gT boot_tuple (pa_cons (pe_call GO (hr.mono (by decide)) (by rfl) gO kO bO .nil pass0 (pa_cons (pv 3) pa_nil)) pa_nil)) (fun _ _ _ _ _ => pe_bl))
      (pss_cons (ps_set (i := 2) scLeast.nd rfl (.inl rfl) (pe_lst pa_nil))
      (pss_cons (ps_for PassesOwn.never rfl (pi_list (pe_call GR hr (by rfl) gR kR bR .nil pass0 (pa_cons (pe_callTy (call_list_dT rfl) (by rfl) gLi boot_list (pa_cons (pv 1) pa_nil)) pa_nil))) (pg_name (i := 3) scLeast.nd rfl (.inr rfl))
        (pss_one (ps_if (pt_not (pt_val (Gx.pe_any (own := [("least", 4)]) (gt := gName 4) (tt := tYes) hr rfl scLeast.nd (by rfl) gA T rfl (blkOk_by (N := nLeast) (sc := defScope sLeast) (by decide +kernel)) (Gx.gxs_by (by decide +kernel)) (pi_list (pv 2))
            (fun _ _ _ _ _ _ => pg_name (i := 4) scLeast.nd rfl (.inl rfl)) (fun _ _ _ _ _ _ => pts_nil) (fun _ _ _ _ _ _ => pe_call GW ((Gx.room_gx hr _).mono (by decide)) (by rfl) gW kW bW .nil pass0 (pa_cons (pv 4) (pa_cons (pv 3) pa_nil))))))
          (pss_one (ps_expr (pe_bm PySem.F.plainAttrs_list PySem.F.slot_list_append PySem.F.type_list_append mt_append (pv 2) (pa_cons (pv 3) pa_nil)))) pss_nil)))
      (pss_one (ps_ret (pv 2)))))), ?_⟩
    refine ⟨_, rfl, a, rfl, ⟨_, hA⟩, fun D hD => dt_list (K := K) (xs := ps0.map fun q : Addr × List Str => V.ref q.1) (fun i H2 => Gr H H2 ∧ H2 D = some (.dT (kvT (ddG (((ps0.take i).map (·.2)).map once))))) ⟨Gr.new hD, upd_same⟩ (fun i H2 _ h => h.1.seq hA) (fun i x H2 Nx nx hx h => ?_) (fun H2 h => ?_)⟩
    · obtain ⟨g2, eD⟩ := h
      obtain ⟨q0, hq0, rfl⟩ := get_map hx
      obtain ⟨hl, hz⟩ := hin q0 (List.mem_of_getElem? hq0)
      refine ⟨rfl, yesIf ?_⟩
      refine ⟨_, rfl, q0.1, q0.2, rfl, g2.seq hl, hz, fun o H3 g3 no eo => ?_⟩
      refine ⟨o, (once q0.2).map V.str, rfl, .inl ⟨.inl (.inl eo), fun t ht => ?_⟩⟩
      have eD3 : H3 D = some (.dT (kvT (ddG (((ps0.take i).map (·.2)).map once)))) := g3.at_ _ _ eD (fun _ z => nomatch z)
      refine ⟨kvT (ddG (((ps0.take i).map (·.2)).map once)), (once q0.2).map Sum.inr, t, rfl, ?_, ?_, ?_, nx _ ⟨?_, ?_⟩⟩
      · rw [upd_same, kV_inr]
      · rw [upd_ne (ne_of_none eD3 ht)]
        exact eD3
      · unfold kvT
        rw [List.length_map]
        have h1 := ddG_len (((ps0.take i).map (·.2)).map once)
        rw [List.length_map, List.length_map, List.length_take] at h1
        have := small60 (n := 60000) (by omega)
        omega
      · exact ((g2.trans g3).trans (Gr.new ht)).mut hD
      · rw [upd_same, put_once, take_map hq0, List.map_append]
        rw [show (List.map once ((ps0.take i).map (·.2)) ++ List.map once [q0.2]) = (((ps0.take i).map (·.2)).map once) ++ [once q0.2] from rfl, ddG_snoc]
    · obtain ⟨g2, eD⟩ := h
      rw [List.length_map, List.take_length] at eD
      -- kept = []
      refine ⟨Nat.zero_le _, fun Kp nK => ?_⟩
      have nKH : H Kp = none := g2.free nK
      have g3 : Gr H (upd H2 Kp (.lst [])) := g2.mut nKH
      have eK : (upd H2 Kp (.lst [])) Kp = some (.lst []) := upd_same
      have eD3 : (upd H2 Kp (.lst [])) D = some (.dT (kvT (ddG ((ps0.map (·.2)).map once)))) := by
        rw [upd_ne (ne_of_none eD nK)]
        exact eD
      generalize upd H2 Kp (.lst []) = H3 at g3 eK eD3
      refine ⟨_, rfl, D, _, rfl, .inl eD3, fun l bs nl hk => ?_⟩
      obtain ⟨ps1, e1, e2, e3⟩ := keys_ps hk
      have g4 : Gr H3 (upd H3 l (.lst (bs.map V.ref))) := Gr.new nl
      rw [e1] at g4 ⊢
      have hlen1 : ps1.length ≤ 60000 := by
        have h1 := ddG_len ((ps0.map (·.2)).map once)
        rw [← e2, List.length_map, List.length_map, List.length_map] at h1
        omega
      refine ⟨l, ps1, rfl, .inl (.inl upd_same), fun q0 hq0 => .inr (.inl (.inl (g4.tup (e3 q0 hq0)))), small60 hlen1, fun r H5 ps g5 T5 e5 => ?_⟩
      have g35 : Gr H3 H5 := g4.trans g5
      have T5 : Told H3 H5 r ps := T5.from g4
      have hplen : ps.length ≤ 60000 := by
        have h1 : (ps.map (·.2)).length = (rkd (ps1.map (·.2))).length := congrArg List.length e5
        rw [List.length_map, (rkd_perm _).length_eq, List.length_map] at h1
        omega
      refine ⟨r, rfl, ⟨_, .inl (.inl T5.at_)⟩, for_list (xs := ps.map fun q : Addr × List Str => V.ref q.1) (fun i σ H6 => Gr H H6 ∧ H6 r = some (.lst (ps.map fun q => V.ref q.1)) ∧ (∀ q ∈ ps, H6 q.1 = some (.lst (q.2.map V.str))) ∧ (∃ kps, H6 Kp = some (.lst (kps.map fun q => V.ref q.1)) ∧ List.Sublist kps (ps.take i) ∧ kps.map (·.2) = ((ps.take i).map (·.2)).foldl keep []) ∧
        ∃ v1 v2, σ = [some (.ref a), some (.ref D), some (.ref Kp), v1, v2]) ⟨g3.trans g35, T5.at_, fun q hq => (T5.own q hq).2.2, ⟨[], g35.lst eK, List.Sublist.refl _, rfl⟩, _, _, rfl⟩ (fun i σ H6 _ h => .inl (.inl h.2.1)) (fun i x σ H6 hx h => ?_) (fun σ H6 h => ?_)⟩
      · obtain ⟨g6, er, eo, ⟨kps, ek, sub, em⟩, v1, v2, rfl⟩ := h
        obtain ⟨q0, hq0, rfl⟩ := get_map hx
        have m0 := List.mem_of_getElem? hq0
        have nr : Kp ≠ r := ne_of_none eK T5.new
        have nq : ∀ q ∈ ps, Kp ≠ q.1 := fun q hq => ne_of_none eK (T5.own q hq).1
        have subps : ∀ q ∈ kps, q ∈ ps := fun q hq => List.mem_of_mem_take (sub.subset hq)
        have any_at2 : ∀ {j : Nat} {y : Addr × List Str} , kps[j]? = some y → (kps.take (j + 1)).any (fun q => wi q.2 q0.2) = ((kps.take j).any (fun q => wi q.2 q0.2) || wi y.2 q0.2) := by
          intro j y hy
          rw [List.take_add_one, hy, List.any_append]
          simp
        have anyeq : (kps.map (·.2)).any (fun l => wi l q0.2) = kps.any (fun q => wi q.2 q0.2) := by
          rw [List.any_map]
          rfl
        have fin : ∀ (b : Bool) (H7 : Hp), Gr H6 H7 → kps.any (fun q => wi q.2 q0.2) = b → True := fun _ _ _ _ => trivial
        refine ⟨_, rfl, Kp, rfl, ⟨_, .inl (.inl ek)⟩, Gx.gx_list (K := K) (xs := kps.map fun q : Addr × List Str => V.ref q.1) (g6.tabG hT) (fun j H7 => Gr H6 H7 ∧ (kps.take j).any (fun q => wi q.2 q0.2) = false) (fun H7 t7 => ⟨Gr.tabbed (g6.tabG hT) t7, rfl⟩) (fun j H7 _ h => .inl (.inl (h.1.lst ek))) (fun j x H7 Nx nx hx h => ?_) (fun H7 h => ?_)⟩
        · obtain ⟨g7, hn⟩ := h
          obtain ⟨k0, hk0, rfl⟩ := get_map hx
          have mk := subps k0 (List.mem_of_getElem? hk0)
          refine ⟨rfl, yesIf ?_⟩
          refine ⟨_, rfl, _, rfl, k0.1, q0.1, k0.2, q0.2, rfl, .inl (.inl (g7.lst (eo k0 mk))), .inl (.inl (g7.lst (eo q0 m0))), (g6.trans g7).tabG hT2, fun H8 g8 => ⟨_, rfl, fun e => ?_, fun e => nx _ ⟨g7.trans g8, ?_⟩⟩⟩
          · -- left out
            have e : wi k0.2 q0.2 = true := e
            have g68 := g7.trans g8
            refine ⟨true, rfl, ?_⟩
            refine iteF ⟨g6.trans g68, g68.lst er, fun q hq => g68.lst (eo q hq), ⟨kps, g68.lst ek, sub.trans (List.take_sublist_take_left (Nat.le_succ _)), ?_⟩, _, _, rfl⟩
            rw [take_map hq0, List.foldl_append, ← em]
            refine (if_pos ?_).symm
            rw [anyeq]
            exact List.any_eq_true.mpr ⟨k0, List.mem_of_getElem? hk0, e⟩
          · rw [any_at2 hk0, hn]
            show wi k0.2 q0.2 = false
            exact Bool.eq_false_iff.mpr e
        · -- put
          obtain ⟨g7, hn⟩ := h
          rw [List.length_map, List.take_length] at hn
          have ek7 := g7.lst ek
          refine ⟨false, rfl, ?_⟩
          refine iteT ⟨_, rfl, .inl ⟨rfl, _, .inl (.inl ek7)⟩, _, rfl, Kp, _, _, rfl, rfl, ek7, ?_, ?_⟩
          · rw [List.length_map]
            have h1 := sub.length_le
            have h2 := List.length_take_le i ps
            rw [List.length_take] at h1
            exact Nat.lt_of_le_of_lt h1 (small60 (by omega))
          · refine ⟨(g6.trans g7).mut nKH, ?_, fun q hq => ?_, ⟨kps ++ [q0], ?_, ?_, ?_⟩, _, _, rfl⟩
            · rw [upd_ne nr.symm]
              exact g7.lst er
            · rw [upd_ne (nq q hq).symm]
              exact g7.lst (eo q hq)
            · rw [upd_same, List.map_append]
              rfl
            · rw [List.take_add_one, hq0]
              exact sub.append (List.Sublist.refl _)
            · rw [take_map hq0, List.foldl_append, List.map_append, ← em]
              refine (if_neg ?_).symm
              rw [anyeq, hn]
              exact Bool.false_ne_true
      · obtain ⟨g6, er, eo, ⟨kps, ek, sub, em⟩, v1, v2, rfl⟩ := h
        rw [List.length_map, List.take_length] at sub em
        refine ⟨_, rfl, q Kp H6 kps g6 ⟨nKH, ek, fun q0 hq0 => ?_, ?_⟩ ?_⟩
        · have m0 := sub.subset hq0
          exact ⟨g3.free (T5.own q0 m0).1, (ne_of_none eK (T5.own q0 m0).1).symm, eo q0 m0⟩
        · exact T5.nd.sublist (sub.map _)
        · rw [em, e5, e2]
          rfl
end
end K1
namespace K1
open PySem PySem.Spec PyProof.Rows L2 Gr GxR Srx Skx Dcx
section
variable {P : Program} {w : World} {K : PySem.W.Frag} {mg : Str → Option Value} {base : Heap} {f fO C : Addr} {fd fdO fdI : FuncData} {p pI : He.Defn}
theorem scRising : FnScope ["names", "at", "thing"] ["names"] (defScope sRising) := ⟨rfl, rfl, rfl, by decide +kernel, rfl, by decide +kernel, by decide +kernel⟩
theorem ok_rising (F : FnP K "rising" sRising f fd) (GI : FnOk P w K mg base CX0 1 (He.fAd K pI) fdI ["thing"] (spIsName K (He.cT K pI).2)) (bI : Binds K fdI ["thing"] []) (kI : PySem.W.keepIn K (.ref (He.fAd K pI)) = true) (gI : mg "is_name" = some (.ref (He.fAd K pI)))
    (GO : FnOk P w K mg base CX0 1 fO fdO ["names"] (spOnce K)) (bO : Binds K fdO ["names"] []) (kO : PySem.W.keepIn K (.ref fO) = true) (gO : mg "_once_each" = some (.ref fO)) (EC : ErrC K mg "BadName" C) (gE : mg "enumerate" = none) (gM : ∃ t, mg "MOST_LETTERS" = some (.int 8 t)) :
    FnOk P w K mg base (L2.CX P w) 2 f fd ["names"] (spRising K (He.cT K pI).2 C) := by
  obtain ⟨tM, gM⟩ := gM
  refine F.ok scRising (fun vs H Q E h => ?_) (fun cdv A outer s H vs Q E hr h => ?_)
  · obtain ⟨a, vls, rfl, _⟩ := h
    rfl
  · obtain ⟨a, vls, rfl, hA, hth, few, hT, hq⟩ := h
    refine ⟨_, pss_cons (ps_for (passes_of rfl) rfl (pi_enum (by rfl) gE (pa_cons (pv 0) pa_nil)) (pg_tup rfl (pgs_cons (pg_name (i := 1) scRising.nd rfl (.inl rfl)) (pgs_cons (pg_name (i := 2) scRising.nd rfl (.inl rfl)) pgs_nil)))
        (pss_one (ps_if (pt_not (pt_val (pe_call GI (hr.mono (by decide)) (by rfl) gI kI bI .nil pass0 (pa_cons (pv 2) pa_nil))))
          (pss_one (ps_raise rfl (takes_of rfl rfl rfl rfl) (SkE.pmk_own1 PySem.F.excBase_ValueError EC.xC EC.gC EC.kC (raises_own EC.bC EC.tC) (by rfl) (pe_joined (.cons pe_str (.cons (pe_fmt (pv 1)) (.cons pe_str (.cons (pe_fmt (pe_glob (v := .int 8) (by rfl) gM ⟨_, rfl⟩)) (.cons pe_str .nil))))))))) pss_nil)))
      (pss_one (ps_ret (pe_call GO (hr.mono (by decide)) (by rfl) gO kO bO .nil pass0 (pa_cons (pv 0) pa_nil)))), ?_⟩
    refine ⟨_, rfl, a, vls, rfl, hA, for_enum (xs := vls) (fun i σ H2 => Gr H H2 ∧ (∀ v ∈ vls.take i, nmV v = true) ∧ ∃ v1 v2, σ = [some (.ref a), v1, v2]) ⟨Gr.refl H, fun _ z => absurd z List.not_mem_nil, _, _, rfl⟩ (fun i σ H2 _ h => h.1.seq hA) (fun i x T σ H2 hx h nT => ?_) (fun σ H2 h => ?_)⟩
    · obtain ⟨g2, ok, v1, v2, rfl⟩ := h
      have mx := List.mem_of_getElem? hx
      have hi : i < vls.length := (List.getElem?_eq_some_iff.mp hx).1
      have g3 : Gr H (upd H2 T (.tup [.int (i : Nat), x])) := g2.trans (Gr.new nT)
      refine ⟨T, _, rfl, .inl (.inl upd_same), rfl, _, _, rfl, _, _, rfl, rfl, ?_⟩
      refine ⟨x, rfl, x, rfl, (hth x mx).gr g3, g3.tabG hT, fun H4 g4 => ⟨_, rfl, ?_⟩⟩
      cases e : nmV x with
      | true =>
        refine iteF ⟨g3.trans g4, fun v hv => ?_, _, _, rfl⟩
        rw [List.take_add_one, hx] at hv
        rcases List.mem_append.mp hv with hv | hv
        · exact ok v hv
        · have hv : v = x := by simpa using hv
          rw [hv]; exact e
      | false =>
        refine iteT ?_
        rcases hq with ⟨xs, rfl, all, _⟩ | ⟨_, hE⟩
        · obtain ⟨y, hy, rfl⟩ := get_map hx
          have z := List.all_eq_true.mp all y (List.mem_of_getElem? hy)
          rw [show isNm y = false from e] at z
          cases z
        · have hk : ((Str.ofString (toString ((i : Nat) : Int)))).length ≤ 10 := PySem.W.KT.len_num (by omega) (by omega)
          have hb : (Str.ofString (toString (8 : Int))).length ≤ 10 := PySem.W.KT.len_num (by omega) (by omega)
          have l1 : (Str.empty ++ (Str.ofString "item ")).length ≤ 10 := by decide +kernel
          have l2 := PySem.W.KT.len_app l1 hk
          have l3 := PySem.W.KT.len_app l2 (show (Str.ofString " of the list is not a text of 1 to ").length ≤ 50 by decide +kernel)
          have l4 := PySem.W.KT.len_app l3 hb
          have l5 := PySem.W.KT.len_app l4 (show (Str.ofString " small letters").length ≤ 50 by decide +kernel)
          have big : ∀ n : Nat, n ≤ 200 → n ≤ sizeLine := fun n hn => by rw [sizeLine_eq]; omega
          refine ⟨_, rfl, big _ (by omega), _, rfl, .inr ⟨_, rfl, ?_, _, rfl, big _ (by omega), _, rfl, big _ (by omega), .inr ⟨_, rfl, ?_, _, rfl, big _ (by omega), _, rfl, big _ (by omega), hE _ (g3.trans g4)⟩⟩⟩
          · show ((i : Nat) : Int).natAbs.log2 < 1920
            rw [Int.natAbs_natCast]
            exact Nat.lt_of_le_of_lt (Nat.log2_le_self i) (by omega)
          · decide
    · obtain ⟨g2, ok, v1, v2, rfl⟩ := h
      rw [List.take_length] at ok
      rcases hq with ⟨xs, rfl, all, q⟩ | ⟨⟨v, hv, e⟩, _⟩
      · refine ⟨_, rfl, a, xs, rfl, g2.seq hA, by rw [List.length_map] at few; exact few, fun p H4 g4 np ep => q p H4 (g2.trans g4) (g2.free np) ep⟩
      · rw [ok v hv] at e
        cases e
end
end K1
namespace K1
open PySem PySem.Spec PyProof.Rows L2 Gr GxR Srx Skx Dcx
section
variable {P : Program} {w : World} {K : PySem.W.Frag} {mg : Str → Option Value} {base : Heap} {f : Addr} {fd : FuncData} {p : He.Defn} {T : Addr}
abbrev nRow : List Str := ["_law_names_here", "_law_cell", "_law_found", "_law_bits", "_law_name"]
theorem scRow : FnScope nRow ["_law_names_here", "_law_cell"] (defScope sRow) := ⟨rfl, rfl, rfl, by decide +kernel, rfl, by decide +kernel, by decide +kernel⟩
theorem ok_row (F : FnP K "_law_row" sRow f fd) (gL : mg "len" = none) : FnOk P w K mg base CX0 1 f fd ["_law_names_here", "_law_cell"] (spRow K) := by
  refine F.ok scRow (fun vs H Q E h => ?_) (fun cdv A outer s H vs Q E hr h => ?_)
  · obtain ⟨a, c, ns, rfl, _⟩ := h
    rfl
  · obtain ⟨a, c, ns, rfl, hA, ne, nd, nm, few, q⟩ := h
    refine ⟨_, PSs.nox (pss_cons (ps_set (i := 2) scRow.nd rfl (.inl rfl) (pe_lst pa_nil))
      (pss_cons (ps_set (i := 3) scRow.nd rfl (.inl rfl) (pe_op op_fdiv (pv 1) pe_int))
      (pss_cons (ps_for PassesOwn.never rfl (pi_list (pv 0)) (pg_name (i := 4) scRow.nd rfl (.inl rfl))
        (pss_cons (ps_if (pt_cmpR op_eq (pe_op op_mod (pv 3) pe_int) pe_int (nomark _)) (pss_one (ps_expr (pe_bm PySem.F.plainAttrs_list PySem.F.slot_list_append PySem.F.type_list_append mt_append (pv 2) (pa_cons (pv 4) pa_nil)))) pss_nil)
        (pss_one (ps_set (i := 3) scRow.nd rfl (.inl rfl) (pe_op op_fdiv (pv 3) pe_int)))))
      (pss_cons (ps_if (PW.pt (pw_and (pt_cmpR (op_eqD (hu64 hr)) (pv 2) (pe_lst pa_nil) (nomark _)) (pw_and1 (pt_cmpR op_gt (pe_op op_mod (pv 1) pe_int) pe_int (nomark _)))))
        (pss_one (ps_set (i := 2) scRow.nd rfl (.inl rfl) (pe_lst (pa_cons (pe_ix ix_list (pv 0) (pe_op op_mod (pv 1) (pe_callB call_len_seq (by rfl) gL boot_len (pa_cons (pv 0) pa_nil))) (fun _ _ => rfl)) pa_nil)))) pss_nil)
      (pss_one (ps_ret (pe_ifExp (pt_cmpR op_eq (pe_op op_mod (pv 1) pe_int) pe_int (nomark _)) (pe_revL (pv 2)) (pv 2)))))))), ?_⟩
    refine ⟨Nat.zero_le _, fun Fp nF => ?_⟩
    refine ⟨_, rfl, _, _, rfl, rfl, ⟨by decide, by decide⟩, ?_⟩
    have g0 : Gr H (upd H Fp (.lst [])) := Gr.new nF
    refine ⟨_, rfl, a, rfl, ⟨_, g0.seq hA⟩, for_list (K := K) (xs := ns.map V.str) (fun i σ H2 => ∃ (ys : List Str) (b : Int) (v : Option V), Gr H H2 ∧ H2 Fp = some (.lst (ys.map V.str)) ∧ List.Sublist ys (ns.take i) ∧ σ = [some (.ref a), some (.int c), some (.ref Fp), some (.int b), v]) ⟨[], _, _, g0, upd_same, List.Sublist.refl _, rfl⟩ (fun i σ H2 _ h => ?_) (fun i x σ H2 hx h => ?_) (fun σ H2 h => ?_)⟩
    · obtain ⟨ys, b, v, g, _⟩ := h
      exact g.seq hA
    · obtain ⟨ys, b, v, g, e, sub, rfl⟩ := h
      obtain ⟨x, hx2, rfl⟩ := get_map hx
      refine ⟨_, rfl, _, _, rfl, rfl, (by show (0 : Int) < 2; decide), rfl, _, rfl, ite2 (fun _ => ?_) (fun _ => ?_)⟩
      · refine ⟨_, rfl, .inl ⟨rfl, _, .inl (.inl e)⟩, _, rfl, Fp, _, _, rfl, rfl, e, ?_, ?_⟩
        · rw [List.length_map]
          have h1 := sub.length_le
          rw [List.length_take] at h1
          exact Nat.lt_of_le_of_lt h1 (small1000 (by omega))
        · refine ⟨_, rfl, _, _, rfl, rfl, ⟨by decide, by decide⟩, ys ++ [x], _, _, g.mut nF, ?_, ?_, rfl⟩
          · rw [upd_same, List.map_append]
            rfl
          · rw [List.take_add_one, hx2]
            exact sub.append (List.Sublist.refl _)
      · exact ⟨_, rfl, _, _, rfl, rfl, ⟨by decide, by decide⟩, ys, _, _, g, e, sub.trans (List.take_sublist_take_left (Nat.le_succ _)), rfl⟩
    · obtain ⟨ys, b, v, g, e, sub, rfl⟩ := h
      rw [List.length_map, List.take_length] at sub
      have nd1 : ys.Nodup := nd.sublist sub
      have mem1 : ∀ y ∈ ys, y ∈ ns := fun y hy => sub.subset hy
      have ln1 : ys.length ≤ ns.length := sub.length_le
      refine ⟨_, rfl, Nat.zero_le _, fun e1 ne1 => ?_⟩
      have g1 : Gr H (upd H2 e1 (.lst [])) := g.trans (Gr.new ne1)
      have e0 : (upd H2 e1 (.lst [])) Fp = some (.lst (ys.map V.str)) := (Gr.new ne1).lst e
      refine ⟨dS ys, dS [], dp_dS (.inl (.inl e0)), dp_dS (.inl (.inl upd_same)), shaped_dS (fun x hx => nm x (mem1 x hx)), shaped_dS (fun _ z => absurd z List.not_mem_nil), _, rfl, ?_⟩
      · generalize PyData.eqv (dS ys) (dS []) = b1
        generalize upd H2 e1 (.lst []) = H3 at g1 e0
        have e1 := e0
        cases b1 with
        | false =>
          refine iteF ?_
          refine ⟨_, rfl, _, _, rfl, rfl, (by show (0 : Int) < 2; decide), rfl, _, rfl, ite2 (fun _ => ⟨_, rfl, _, _, rfl, .inl (.inl e1), fun r nr => q r _ (ys).reverse (g1.trans (Gr.new nr)) (g1.free nr) (by rw [upd_same, ← List.map_reverse]) ((List.reverse_perm _).nodup_iff.mpr nd1) (fun y hy => mem1 y (List.mem_reverse.mp hy)) (by rw [List.length_reverse]; exact ln1)⟩) (fun _ => ⟨_, rfl, q _ _ (ys) g1 nF e1 nd1 mem1 ln1⟩)⟩
        | true =>
          refine iteT ⟨_, rfl, _, _, rfl, rfl, (by show (0 : Int) < 4; decide), _, _, rfl, rfl, _, rfl, ?_⟩
          refine ite2 (fun _ => ?_) (fun _ => ?_)
          · have hlen : 0 < ns.length := List.length_pos_iff.mpr ne
            obtain ⟨v, hv, mv⟩ := atI_mod (xs := ns.map V.str) (c := c) (n := ns.length) (List.length_map ..) hlen
            obtain ⟨x, mx, rfl⟩ := List.mem_map.mp mv
            refine ⟨_, rfl, _, rfl, _, rfl, a, _, rfl, .inl (g1.seq hA), _, _, rfl, rfl, ?_, a, _, _, V.str x, rfl, rfl, g1.seq hA, ?_, (show 1 ≤ sizeLine by rw [sizeLine_eq]; omega), fun l nl => ?_⟩
            · show (0 : Int) < _
              rw [List.length_map]
              omega
            · rw [List.length_map]
              exact hv
            · have g2 : Gr H (upd H3 l (.lst [V.str x])) := g1.trans (Gr.new nl)
              have nl2 := g1.free nl
              have upd_same2 : (upd H3 l (.lst [V.str x])) l = some (.lst ([x].map V.str)) := upd_same
              have nd2 : [x].Nodup := by simp
              have mem2 : ∀ y ∈ [x], y ∈ ns := fun y hy => by
                have hy : y = x := by simpa using hy
                rw [hy]; exact mx
              have ln2 : [x].length ≤ ns.length := hlen
              refine ⟨_, rfl, _, _, rfl, rfl, (by show (0 : Int) < 2; decide), rfl, _, rfl, ite2 (fun _ => ⟨_, rfl, _, _, rfl, .inl (.inl upd_same2), fun r nr => q r _ ([x]).reverse (g2.trans (Gr.new nr)) (g2.free nr) (by rw [upd_same, ← List.map_reverse]) ((List.reverse_perm _).nodup_iff.mpr nd2) (fun y hy => mem2 y (List.mem_reverse.mp hy)) (by rw [List.length_reverse]; exact ln2)⟩) (fun _ => ⟨_, rfl, q _ _ ([x]) g2 nl2 upd_same2 nd2 mem2 ln2⟩)⟩
          · refine ⟨_, rfl, _, _, rfl, rfl, (by show (0 : Int) < 2; decide), rfl, _, rfl, ite2 (fun _ => ⟨_, rfl, _, _, rfl, .inl (.inl e1), fun r nr => q r _ (ys).reverse (g1.trans (Gr.new nr)) (g1.free nr) (by rw [upd_same, ← List.map_reverse]) ((List.reverse_perm _).nodup_iff.mpr nd1) (fun y hy => mem1 y (List.mem_reverse.mp hy)) (by rw [List.length_reverse]; exact ln1)⟩) (fun _ => ⟨_, rfl, q _ _ (ys) g1 nF e1 nd1 mem1 ln1⟩)⟩
end
end K1
namespace K1
open PySem PySem.Spec PyProof.Rows L2 Gr GxR Srx Skx Dcx
section
variable {P : Program} {w : World} {K : PySem.W.Frag} {mg : Str → Option Value} {base : Heap} {f : Addr} {fd : FuncData} {p : He.Defn} {T : Addr}
abbrev nSets : List Str := ["_law_found", "_law_due", "_law_one_here", "_law_other_here", "_law_name"]
theorem scSets : FnScope nSets ["_law_found", "_law_due"] (defScope sSets) := ⟨rfl, rfl, rfl, by decide +kernel, rfl, by decide +kernel, by decide +kernel⟩
theorem ok_sets (F : FnP K "_law_sets" sSets f fd) (gI : mg "isinstance" = none) (gLi : mg "list" = none) (gL : mg "len" = none) (gZ : mg "zip" = none) (gA : mg "all" = none) (gS : mg "str" = none) : FnOk P w K mg base CX0 1 f fd ["_law_found", "_law_due"] spSets := by
  refine F.ok scSets (fun vs H Q E h => ?_) (fun cdv A outer s H vs Q E hr h => ?_)
  · obtain ⟨a, b, ps, qs, rfl, _⟩ := h
    rfl
  · obtain ⟨a, b, ps, qs, rfl, hA, hB, same, fit, q⟩ := h
    refine ⟨_, PSs.nox (pss_cons (ps_if (PW.pt (pw_or (pt_not (pt_val (pe_callB call_isi (by rfl) gI (by decide +kernel) (pa_cons (pv 0) (pa_cons (pe_bltn (v := .ty "list") (by rfl) gLi (by decide +kernel) rfl) pa_nil)))))
        (pw_or1 (pt_cmpR op_ne (pe_callB call_len_seq (by rfl) gL boot_len (pa_cons (pv 0) pa_nil)) (pe_callB call_len_seq (by rfl) gL boot_len (pa_cons (pv 1) pa_nil)) (nomark _))))) (pss_one (ps_ret pe_bl)) pss_nil)
      (pss_cons (ps_for PassesOwn.never rfl (pi_zip (by rfl) gZ (pa_cons (pv 0) (pa_cons (pv 1) pa_nil))) (pg_tup rfl (pgs_cons (pg_name (i := 2) scSets.nd rfl (.inl rfl)) (pgs_cons (pg_name (i := 3) scSets.nd rfl (.inl rfl)) pgs_nil)))
        (pss_one (ps_if (PW.pt (pw_or (pt_not (pt_val (pe_callB call_isi (by rfl) gI (by decide +kernel) (pa_cons (pv 2) (pa_cons (pe_bltn (v := .ty "list") (by rfl) gLi (by decide +kernel) rfl) pa_nil)))))
          (pw_or (pt_not (pt_val (pe_callB (cr_all rfl) (by rfl) gA (by decide +kernel) (pa_cons (pe_lc (own := [("_law_name", 4)]) (g := gName 4) (tt := tYes) rfl scSets.nd (pi_list (pv 2)) (blkOk_by (N := nSets) (sc := defScope sSets) (by decide +kernel)) (fun _ _ _ _ _ => pg_name (i := 4) scSets.nd rfl (.inl rfl)) (fun _ _ _ _ _ => pts_nil)
              (fun _ _ _ _ _ => pe_callB (r := rIsi K) call_isi (by rfl) gI (by decide +kernel) (pa_cons (pv 4) (pa_cons (pe_bltn (v := .ty "str") (by rfl) gS (by decide +kernel) rfl) pa_nil)))) pa_nil))))
          (pw_or1 (pt_cmpR (op_neD (hu64 hr)) (pv 2) (pv 3) (nomark _)))))) (pss_one (ps_ret pe_bl)) pss_nil)))
      (pss_one (ps_ret pe_bl)))), ?_⟩
    have hlen : ps.length = qs.length := by
      have := congrArg List.length same
      rw [List.length_map, List.length_map] at this
      exact this
    refine ⟨_, rfl, _, _, _, _, true, rfl, .ty _, .base (.lst hA.at_), kit_ty (by decide +kernel), _, rfl, ?_⟩
    refine iteF ?_
    refine ⟨_, rfl, a, _, rfl, .inl (.inl (.inl hA.at_)), _, rfl, b, _, rfl, .inl (.inl (.inl hB.at_)), rfl, _, rfl, ?_⟩
    rw [List.length_map, List.length_map, hlen, decide_eq_true rfl]
    refine iteF ?_
    refine ⟨_, rfl, _, rfl, a, b, _, _, rfl, .inl (.inl hA.at_), .inl (.inl hB.at_), RZ.for_zipL (K := K) (xs := ps.map fun q : Addr × List Str => V.ref q.1) (ys := qs.map fun q : Addr × List Str => V.ref q.1) (by rw [List.length_map, List.length_map, hlen]) (fun i σ H2 => Gr H H2 ∧ ∃ v2 v3 v4, σ = [some (.ref a), some (.ref b), v2, v3, v4]) ⟨Gr.refl H, _, _, _, rfl⟩ (fun i σ H2 h => ⟨.inl (.inl (h.1.lst hA.at_)), .inl (.inl (h.1.lst hB.at_))⟩) (fun i x y T σ H2 hx hy h nT => ?_) (fun σ H2 h => ?_)⟩
    · obtain ⟨g, v2, v3, v4, rfl⟩ := h
      obtain ⟨p0, hp0, rfl⟩ := get_map hx
      obtain ⟨q0, hq0, rfl⟩ := get_map hy
      have mp := List.mem_of_getElem? hp0
      have mq := List.mem_of_getElem? hq0
      have e2 : p0.2 = q0.2 := by
        have h1 : (ps.map (·.2))[i]? = some p0.2 := by rw [List.getElem?_map, hp0]; rfl
        have h2 : (qs.map (·.2))[i]? = some q0.2 := by rw [List.getElem?_map, hq0]; rfl
        rw [same, h2] at h1
        exact (Option.some.inj h1).symm
      obtain ⟨nm, few⟩ := fit.2 p0.2 (List.mem_map.mpr ⟨p0, mp, rfl⟩)
      have g1 : Gr H (upd H2 T (.tup [V.ref p0.1, V.ref q0.1])) := g.trans (Gr.new nT)
      refine ⟨T, _, rfl, .inl (.inl upd_same), rfl, _, _, rfl, _, _, rfl, rfl, ?_⟩
      generalize upd H2 T (.tup [V.ref p0.1, V.ref q0.1]) = H3 at g1
      have eP := g1.lst (hA.own p0 mp)
      have eQ := g1.lst (hB.own q0 mq)
      refine ⟨_, rfl, _, _, _, _, true, rfl, .ty _, .base (.lst eP), kit_ty (by decide +kernel), _, rfl, ?_⟩
      refine iteF ?_
      refine ⟨_, rfl, p0.1, rfl, ⟨_, .inl (.inl eP)⟩, fun D hD => lc_list (K := K) (xs := p0.2.map V.str) (fun j H4 => Gr H3 H4 ∧ H4 D = some (.lst ((List.replicate j true).map V.bl))) ⟨Gr.new hD, upd_same⟩ (fun j H4 _ h => .inl (.inl (h.1.lst eP))) (fun j x H4 hx h => ?_) (fun H4 h => ?_)⟩
      · obtain ⟨g4, e4⟩ := h
        obtain ⟨y, hy2, rfl⟩ := get_map hx
        have hj : j < p0.2.length := (List.getElem?_eq_some_iff.mp hy2).1
        refine ⟨rfl, yesIf ?_⟩
        refine ⟨_, rfl, _, _, _, _, true, rfl, .ty _, .base (.str y), kit_ty (by decide +kernel), _, e4, ?_, g4.mut hD, ?_⟩
        · rw [List.length_map, List.length_replicate]
          exact Nat.lt_of_lt_of_le hj (Nat.le_of_lt (small1000 few))
        · rw [upd_same, List.replicate_succ', List.map_append]
          rfl
      · obtain ⟨g4, e4⟩ := h
        refine ⟨D, _, rfl, .inl (.inl e4), _, rfl, ?_⟩
        rw [show ((List.replicate (p0.2.map V.str).length true).all id) = true by
          rw [List.all_eq_true]
          intro z hz
          rw [List.eq_of_mem_replicate hz]
          rfl]
        refine iteF ?_
        refine ⟨_, rfl, _, rfl, dS p0.2, dS q0.2, dp_dS (.inl (.inl (g4.lst eP))), dp_dS (.inl (.inl (g4.lst eQ))), shaped_dS nm, shaped_dS (e2 ▸ nm), _, rfl, ?_⟩
        rw [eqv_dS, decide_eq_true e2]
        exact iteF ⟨g1.trans g4, _, _, _, rfl⟩
    · exact q H2 h.1
end
end K1
namespace K1
open PySem PySem.Spec PyProof.Rows L2 Gr GxR Srx Skx Dcx
section
variable {P : Program} {w : World} {K : PySem.W.Frag} {mg : Str → Option Value} {base : Heap} {f fD : Addr} {fd fdD : FuncData} {p : He.Defn} {T T2 : Addr}
abbrev nNames : List Str := ["_law_script", "_law_letters", "_law_cell", "_law_many", "_law_turned", "_law_size", "_law_base", "_law_at", "_law_k", "_law_j"]
theorem scNames : FnScope nNames ["_law_script"] (defScope sNames) := ⟨rfl, rfl, rfl, by decide +kernel, rfl, by decide +kernel, by decide +kernel⟩
theorem ok_names (F : FnP K "_law_names" sNames f fd) (GD : FnOk P w K mg base CX0 1 fD fdD ["_law_script", "_law_k"] (spDraw K)) (bD : Binds K fdD ["_law_script", "_law_k"] []) (kD : PySem.W.keepIn K (.ref fD) = true) (gD : mg "_law_draw" = some (.ref fD)) (gR : mg "range" = none) :
    FnOk P w K mg base CX0 2 f fd ["_law_script"] (spNames K) := by
  refine F.ok scNames (fun vs H Q E h => ?_) (fun cdv A outer s H vs Q E hr h => ?_)
  · obtain ⟨a, ns, rfl, _⟩ := h
    rfl
  · obtain ⟨a, ns, rfl, hS, q⟩ := h
    refine ⟨_, PSs.nox (pss_cons (ps_set (i := 1) scNames.nd rfl (.inr rfl) pe_str)
      (pss_cons (ps_set (i := 2) scNames.nd rfl (.inr rfl) (pe_call GD hr (by rfl) gD kD bD .nil pass0 (pa_cons (pv 0) (pa_cons pe_int pa_nil))))
      (pss_cons (ps_set (i := 3) scNames.nd rfl (.inl rfl) (pe_op op_add pe_int (pe_op op_mod (pv 2) pe_int)))
      (pss_cons (ps_if (pt_cmpR op_eq (pe_op op_mod (pe_op op_fdiv (pv 2) pe_int) pe_int) pe_int (nomark _))
        (pss_one (ps_ret (pe_lc (own := [("_law_k", 8)]) (g := gName 8) (tt := tYes) rfl scNames.nd (pi_range1 (by rfl) gR (pa_cons (pv 3) pa_nil)) (blkOk_by (N := nNames) (sc := defScope sNames) (by decide +kernel)) (fun _ _ _ _ _ => pg_name (i := 8) scNames.nd rfl (.inl rfl)) (fun _ _ _ _ _ => pts_nil)
          (fun _ _ _ _ _ => pe_slice C8.sl_txt (pe_slice C8.sl_txt (pv 1) (po_some (pe_op op_mod (pe_op op_fdiv (pv 2) pe_int) pe_int)) po_none) po_none (po_some (pe_op op_add (pv 8) pe_int)))))) pss_nil)
      (pss_cons (ps_if (pt_cmpR op_eq (pe_op op_mod (pe_op op_fdiv (pv 2) pe_int) pe_int) pe_int (nomark _))
        (pss_cons (ps_set (i := 4) scNames.nd rfl (.inr rfl) (pe_slice C8.sl_txt (pe_slice C8.sl_txt (pv 1) (po_some (pe_op op_mod (pe_op op_fdiv (pv 2) pe_int) pe_int)) po_none) po_none (po_some pe_int)))
        (pss_one (ps_ret (pe_lc (own := [("_law_k", 8)]) (g := gName 8) (tt := tYes) rfl scNames.nd (pi_range1 (by rfl) gR (pa_cons (pv 3) pa_nil)) (blkOk_by (N := nNames) (sc := defScope sNames) (by decide +kernel)) (fun _ _ _ _ _ => pg_name (i := 8) scNames.nd rfl (.inl rfl)) (fun _ _ _ _ _ => pts_nil)
          (fun _ _ _ _ _ => pe_op op_add_str (pe_slice C8.sl_txt (pv 4) (po_some (pv 8)) po_none) (pe_slice C8.sl_txt (pv 4) po_none (po_some (pv 8)))))))) pss_nil)
      (pss_cons (ps_set (i := 5) scNames.nd rfl (.inl rfl) (pe_op op_mod (pe_op op_fdiv (pv 2) pe_int) pe_int))
      (pss_cons (ps_set (i := 6) scNames.nd rfl (.inr rfl) (pe_join pe_str (pe_lc (own := [("_law_j", 9)]) (g := gName 9) (tt := tYes) rfl scNames.nd (pi_range1 (by rfl) gR (pa_cons (pv 5) pa_nil)) (blkOk_by (N := nNames) (sc := defScope sNames) (by decide +kernel)) (fun _ _ _ _ _ => pg_name (i := 9) scNames.nd rfl (.inl rfl)) (fun _ _ _ _ _ => pts_nil)
          (fun _ _ _ _ _ => pe_ix ix_str (pv 1) (pe_op op_mod (pe_op op_add (pe_op op_fdiv (pv 2) pe_int) (pe_op op_mul pe_int (pv 9))) pe_int) (fun _ _ => rfl)))))
      (pss_cons (ps_set (i := 7) scNames.nd rfl (.inr rfl) (pe_op op_mod (pe_op op_fdiv (pv 2) pe_int) (pe_op op_add (pv 5) pe_int)))
      (pss_one (ps_ret (pe_lc (own := [("_law_k", 8)]) (g := gName 8) (tt := tYes) rfl scNames.nd (pi_range1 (by rfl) gR (pa_cons (pv 3) pa_nil)) (blkOk_by (N := nNames) (sc := defScope sNames) (by decide +kernel)) (fun _ _ _ _ _ => pg_name (i := 8) scNames.nd rfl (.inl rfl)) (fun _ _ _ _ _ => pts_nil)
          (fun _ _ _ _ _ => pe_op op_add_str (pe_op op_add_str (pe_slice C8.sl_txt (pv 6) po_none (po_some (pv 7))) (pe_ix ix_str (pv 1) (pe_op op_mod (pe_op op_add (pe_op op_fdiv (pv 2) pe_int) (pe_op op_mul pe_int (pv 8))) pe_int) (fun _ _ => rfl))) (pe_slice C8.sl_txt (pv 6) (po_some (pv 7)) po_none))))))))))))), ?_⟩
    refine ⟨_, rfl, a, ns, 0, rfl, hS, ?_⟩
    generalize ns.getD 0 0 = c at q ⊢
    obtain ⟨m1, m7⟩ := many_lt c
    have big : ∀ x : Str, x.length ≤ 100 → x.length ≤ sizeLine := fun x h => by rw [sizeLine_eq]; omega
    have Lbig : (Str.ofString "abcdefghijklmnopqrstuvwxyz").length ≤ sizeLine := big _ (by decide +kernel)
    have d0 : 0 ≤ c / 28 % 18 := Int.emod_nonneg _ (by omega)
    have d1 : c / 28 % 18 < 18 := Int.emod_lt_of_pos _ (by omega)
    refine ⟨_, rfl, _, _, rfl, rfl, (by show (0 : Int) < 7; decide), _, _, rfl, rfl, ?_⟩
    refine ⟨_, rfl, _, _, rfl, rfl, ⟨by decide, by decide⟩, _, _, rfl, rfl, (by show (0 : Int) < 4; decide), rfl, _, rfl, ite2 (fun h1 => ?_) (fun h1 => ?_)⟩
    · have h1 : V.int (c / 7 % 4) = V.int 1 := of_decide_eq_true h1
      injection h1 with h1
      refine ⟨_, rfl, _, rfl, ?_, ?_, fun D hD => lc_texts (H := H) (n := many c) (nm1 (c / 28 % 18).toNat) (by omega) (Gr.refl H) hD (fun v => rfl) (fun k H4 Q' hk hq => ?_) (fun H2 g2 e2 => ?_)⟩
      · show -(2 ^ 62) ≤ 1 + c % 7
        omega
      · show 1 + c % 7 < 2 ^ 62
        omega
      · refine ⟨_, rfl, _, rfl, _, _, rfl, rfl, ⟨by decide, by decide⟩, _, _, rfl, rfl, (by show (0 : Int) < 18; decide), _, rfl, ?_⟩
        refine ⟨_, rfl, Lbig, _, rfl, _, _, rfl, rfl, _, rfl, _, rfl, ?_, ?_⟩
        · rw [letters_eq, SX.slice_from d0]
          exact big _ (by rw [SX.S_len, List.length_drop, L0_len]; omega)
        · rw [letters_eq, SX.slice_from d0, SX.slice_to (show (0 : Int) ≤ 0 + (k : Nat) + 1 by omega)]
          rw [show ((0 : Int) + (k : Nat) + 1).toNat = k + 1 by omega]
          exact hq
      · refine q D H2 g2 hD ?_
        rw [e2]
        unfold names
        rw [if_pos h1]
    · have h1 : ¬ c / 7 % 4 = 1 := fun z => h1 (decide_eq_true (congrArg V.int z))
      refine ⟨_, rfl, _, _, rfl, rfl, ⟨by decide, by decide⟩, _, _, rfl, rfl, (by show (0 : Int) < 4; decide), rfl, _, rfl, ite2 (fun h2 => ?_) (fun h2 => ?_)⟩
      · have h2 : V.int (c / 7 % 4) = V.int 2 := of_decide_eq_true h2
        injection h2 with h2
        have e0 : Txt.slice (Txt.slice (Str.ofString "abcdefghijklmnopqrstuvwxyz") (some (c / 28 % 18)) none) none (some 8) = SX.S (turned (c / 28 % 18).toNat) := by
          rw [letters_eq, SX.slice_from d0, SX.slice_to (by decide)]
          rfl
        have tl : (turned (c / 28 % 18).toNat).length ≤ 8 := by
          unfold turned
          rw [List.length_take]; omega
        refine ⟨_, rfl, _, rfl, _, _, rfl, rfl, ⟨by decide, by decide⟩, _, _, rfl, rfl, (by show (0 : Int) < 18; decide), _, rfl, ?_⟩
        refine ⟨_, rfl, Lbig, _, rfl, _, rfl, ?_, ?_⟩
        · rw [letters_eq, SX.slice_from d0]
          exact big _ (by rw [SX.S_len, List.length_drop, L0_len]; omega)
        rw [e0]
        refine ⟨_, rfl, _, rfl, ?_, ?_, fun D hD => lc_texts (H := H) (n := many c) (nm2 (c / 28 % 18).toNat) (by omega) (Gr.refl H) hD (fun v => rfl) (fun k H4 Q' hk hq => ?_) (fun H2 g2 e2 => ?_)⟩
        · show -(2 ^ 62) ≤ 1 + c % 7
          omega
        · show 1 + c % 7 < 2 ^ 62
          omega
        · have k0 : (0 : Int) ≤ 0 + (k : Nat) := by omega
          have kk : ((0 : Int) + (k : Nat)).toNat = k := by omega
          have tb : (SX.S (turned (c / 28 % 18).toNat)).length ≤ sizeLine := big _ (by rw [SX.S_len]; omega)
          refine ⟨_, rfl, _, rfl, _, rfl, _, rfl, tb, _, rfl, _, rfl, _, rfl, _, rfl, tb, _, _, rfl, rfl, ?_, ?_⟩
          · rw [SX.slice_from k0, SX.slice_to k0, SX.S_len, SX.S_len, List.length_drop, List.length_take, sizeLine_eq]
            omega
          · rw [SX.slice_from k0, SX.slice_to k0, SX.S_cat, kk]
            exact hq
        · refine q D H2 g2 hD ?_
          rw [e2]
          unfold names
          rw [if_neg h1, if_pos h2]
      · have h2 : ¬ c / 7 % 4 = 2 := fun z => h2 (decide_eq_true (congrArg V.int z))
        have s0 : 0 ≤ c / 28 % 8 := Int.emod_nonneg _ (by omega)
        have s1 : c / 28 % 8 < 8 := Int.emod_lt_of_pos _ (by omega)
        have a0 : 0 ≤ c / 7 % (c / 28 % 8 + 1) := Int.emod_nonneg _ (by omega)
        have a1 : c / 7 % (c / 28 % 8 + 1) < c / 28 % 8 + 1 := Int.emod_lt_of_pos _ (by omega)
        -- size
        refine ⟨_, rfl, _, _, rfl, rfl, ⟨by decide, by decide⟩, _, _, rfl, rfl, (by show (0 : Int) < 8; decide), ?_⟩
        -- base
        refine ⟨⟨_, rfl⟩, _, rfl, _, rfl, ?_, ?_, fun D hD => lc_texts (H := H) (n := (c / 28 % 8).toNat) (fun j => SX.S [let_ (c / 224 + 5 * (j : Int))]) (by omega) (Gr.refl H) hD (fun v => rfl) (fun k H4 Q' hk hq => ?_) (fun H2 g2 e2 => ?_)⟩
        · show -(2 ^ 62) ≤ c / 28 % 8
          omega
        · show c / 28 % 8 < 2 ^ 62
          omega
        · refine ⟨_, rfl, _, rfl, _, _, rfl, rfl, ⟨by decide, by decide⟩, _, rfl, _, _, rfl, rfl, .inl ⟨by decide, by decide⟩, _, _, rfl, rfl, _, _, rfl, rfl, (by show (0 : Int) < 26; decide), _, _, _, rfl, rfl, Lbig, let_at _, ?_⟩
          rw [Int.zero_add]
          exact hq
        · have eb : ((List.range (c / 28 % 8).toNat).map fun j : Nat => SX.S [let_ (c / 224 + 5 * (j : Int))]) = ((baseOf c (c / 28 % 8).toNat).map fun x => [x]).map SX.S := by
            unfold baseOf
            rw [List.map_map, List.map_map]
            rfl
          refine ⟨_, D, _, rfl, rfl, .inl (.inl (.inl e2)), ?_, ?_⟩
          · rw [List.length_map, List.length_range, List.map_map]
            have h3 : ∀ l : List Nat, (l.map ((fun x : Str => x.length) ∘ fun j : Nat => SX.S [let_ (c / 224 + 5 * (j : Int))])).sum = l.length := by
              intro l
              induction l with
              | nil => rfl
              | cons x r ih =>
                rw [List.map_cons, List.sum_cons, ih, List.length_cons]
                show 1 + r.length = _
                omega
            rw [h3, List.length_range]
            show _ + _ * 0 ≤ _
            omega
          · rw [eb, show (Str.ofString "") = SX.S [] by decide +kernel, SX.join_S, joinL_ones]
            have bl : (baseOf c (c / 28 % 8).toNat).length = (c / 28 % 8).toNat := by
              unfold baseOf
              rw [List.length_map, List.length_range]
            have bb : (SX.S (baseOf c (c / 28 % 8).toNat)).length ≤ sizeLine := big _ (by rw [SX.S_len, bl]; omega)
            -- at
            refine ⟨_, rfl, _, _, rfl, rfl, ⟨by decide, by decide⟩, _, rfl, _, _, rfl, rfl, _, _, rfl, rfl, (by show (0 : Int) < c / 28 % 8 + 1; omega), ?_⟩
            refine ⟨_, rfl, _, rfl, ?_, ?_, fun D3 hD3 => lc_texts (H := H) (n := many c) (nm3 (baseOf c (c / 28 % 8).toNat) (c / 7 % ((c / 28 % 8) + 1)).toNat (c / 1000)) (by omega) g2 hD3 (fun v => rfl) (fun k H4 Q' hk hq => ?_) (fun H3 g3 e3 => ?_)⟩
            · show -(2 ^ 62) ≤ 1 + c % 7
              omega
            · show 1 + c % 7 < 2 ^ 62
              omega
            · refine ⟨_, rfl, _, rfl, _, rfl, _, rfl, bb, ?_⟩
              refine ⟨_, rfl, _, rfl, _, _, rfl, rfl, ⟨by decide, by decide⟩, _, rfl, _, _, rfl, rfl, .inl ⟨by decide, by decide⟩, _, _, rfl, rfl, _, _, rfl, rfl, (by show (0 : Int) < 26; decide), _, _, _, rfl, rfl, Lbig, let_at _, ?_⟩
              refine ⟨_, _, rfl, rfl, ?_, ?_⟩
              · rw [SX.slice_to a0, SX.S_len, List.length_take, bl]
                show _ + 1 ≤ _
                rw [sizeLine_eq]
                omega
              · refine ⟨_, rfl, _, rfl, _, rfl, _, rfl, bb, _, _, rfl, rfl, ?_, ?_⟩
                · rw [SX.slice_to a0, SX.slice_from a0, Str.length_append, SX.S_len, SX.S_len, SX.S_len, List.length_take, List.length_drop, bl]
                  show _ + 1 + _ ≤ _
                  rw [sizeLine_eq]
                  omega
                · rw [SX.slice_to a0, SX.slice_from a0, Int.zero_add]
                  show Q' (.str (SX.S _ ++ SX.S [_] ++ SX.S _)) H4
                  rw [SX.S_cat, SX.S_cat]
                  exact hq
            · refine q D3 H3 g3 (g2.free hD3) ?_
              rw [e3]
              unfold names
              rw [if_neg h1, if_neg h2]
end
end K1
namespace K1
open PySem PySem.Spec PyProof.Rows L2 Gr GxR Srx Skx Dcx
section
variable {P : Program} {w : World} {K : PySem.W.Frag} {mg : Str → Option Value} {base : Heap} {f fM fB fR fA fW : Addr} {fd fdM fdB fdR fdA fdW : FuncData}
theorem scLAll : FnScope ["_law_one_here", "_law_rows", "_law_row_here"] ["_law_one_here", "_law_rows"] (defScope sLAll) := ⟨rfl, rfl, rfl, by decide +kernel, rfl, by decide +kernel, by decide +kernel⟩
theorem ok_lall (F : FnP K "_law_meets_all" sLAll f fd) (CM : Calls P w K mg base CX0 1 "_law_meets" (spLMeets K)) :
    FnOk P w K mg base CX0 2 f fd ["_law_one_here", "_law_rows"] (spLAll K) := by
  refine F.ok scLAll (fun vs H Q E h => ?_) (fun cdv A outer s H vs Q E hr h => ?_)
  · obtain ⟨a, b, xs, ps, rfl, _⟩ := h
    rfl
  · obtain ⟨a, b, xs, ps, rfl, hA, hB, hin, q⟩ := h
    refine ⟨_, PSs.nox (pss_cons (ps_for PassesOwn.never rfl (pi_list (pv 1)) (pg_name (i := 2) scLAll.nd rfl (.inl rfl)) (pss_one (ps_if (pt_not (pt_val (pe_k CM hr (by decide) (by rfl) (pa_cons (pv 0) (pa_cons (pv 2) pa_nil))))) (pss_one (ps_ret pe_bl)) pss_nil))) (pss_one (ps_ret pe_bl))), ?_⟩
    refine ⟨_, rfl, b, rfl, ⟨_, hB⟩, for_list (K := K) (xs := ps.map fun q : Addr × List Str => V.ref q.1) (fun i σ H' => H' = H ∧ ((ps.take i).all fun q => mt xs q.2) = true ∧ ∃ v, σ = [some (.ref a), some (.ref b), v]) ⟨rfl, rfl, _, rfl⟩ (fun i σ H' _ h => h.1 ▸ hB) (fun i x σ H' hx h => ?_) (fun σ H' h => ?_)⟩
    · obtain ⟨rfl, hn, v, rfl⟩ := h
      obtain ⟨p0, hp0, rfl⟩ := get_map hx
      have m0 := List.mem_of_getElem? hp0
      refine ⟨_, rfl, _, rfl, a, p0.1, xs, p0.2, rfl, hA, hin p0 m0, _, rfl, ?_⟩
      show if (!mt xs p0.2) = true then _ else _
      cases e : mt xs p0.2 with
      | false =>
        refine iteT ?_
        rw [show mtAll xs (ps.map (·.2)) = false from List.all_eq_false.mpr ⟨p0.2, List.mem_map.mpr ⟨p0, m0, rfl⟩, by rw [e]; exact Bool.false_ne_true⟩] at q
        exact q
      | true =>
        refine iteF ⟨rfl, ?_, _, rfl⟩
        rw [List.take_add_one, hp0, List.all_append, hn]
        simp [e]
    · obtain ⟨rfl, hn, v, rfl⟩ := h
      rw [List.length_map, List.take_length] at hn
      rw [show mtAll xs (ps.map (·.2)) = true by
        unfold mtAll
        rw [List.all_map]
        exact hn] at q
      exact q
abbrev nBox : List Str := ["_law_names_here", "_law_found", "_law_name", "_law_one_here"]
theorem scBox : FnScope nBox ["_law_names_here"] (defScope s_law_box) := ⟨rfl, rfl, rfl, by decide +kernel, rfl, by decide +kernel, by decide +kernel⟩
theorem ok_box (F : FnP K "_law_box" s_law_box f fd) (gS : mg "sorted" = none) : FnOk P w K mg base CX0 1 f fd ["_law_names_here"] (spBox K) := by
  refine F.ok scBox (fun vs H Q E h => ?_) (fun cdv A outer s H vs Q E hr h => ?_)
  · obtain ⟨a, ns, rfl, _⟩ := h
    rfl
  · obtain ⟨a, ns, rfl, hA, few, q⟩ := h
    refine ⟨_, PSs.nox (pss_cons (ps_set (i := 1) scBox.nd rfl (.inl rfl) (pe_lst (pa_cons (pe_lst pa_nil) pa_nil)))
      (pss_cons (ps_for PassesOwn.never rfl (pi_list (pe_callB (cr_sortedD Ord.strs (hu64 hr)) (by rfl) gS boot_sorted (pa_cons (pv 0) pa_nil))) (pg_name (i := 2) scBox.nd rfl (.inr rfl))
        (pss_one (ps_set (i := 1) scBox.nd rfl (.inl rfl) (pe_op op_cat (pv 1) (pe_lc (own := [("_law_one_here", 3)]) (g := gName 3) (tt := tYes) rfl scBox.nd (pi_list (pv 1)) (blkOk_by (N := nBox) (sc := defScope s_law_box) (by decide +kernel)) (fun _ _ _ _ _ => pg_name (i := 3) scBox.nd rfl (.inl rfl)) (fun _ _ _ _ _ => pts_nil)
          (fun _ _ _ _ _ => pe_op op_cat (pv 3) (pe_lst (pa_cons (pv 2) pa_nil))))))))
      (pss_one (ps_ret (pv 1))))), ?_⟩
    have one : 1 ≤ sizeLine := by rw [sizeLine_eq]; omega
    refine ⟨Nat.zero_le _, fun e ne => ⟨one, fun F0 nF => ?_⟩⟩
    have g1 : Gr H (upd (upd H e (.lst [])) F0 (.lst [V.ref e])) := (Gr.new ne).trans (Gr.new nF)
    have T1 : Told H (upd (upd H e (.lst [])) F0 (.lst [V.ref e])) F0 [(e, [])] := by
      have nFe : e ≠ F0 := ne_of_none (show (upd H e (.lst [])) e = some _ from upd_same) nF
      refine ⟨(Gr.new ne).free nF, upd_same, fun q hq => ?_, by simp⟩
      rw [List.mem_singleton.mp hq]
      exact ⟨ne, nFe, by rw [upd_ne nFe, upd_same]; rfl⟩
    generalize upd (upd H e (.lst [])) F0 (.lst [V.ref e]) = H1 at g1 T1
    refine ⟨_, rfl, ?_⟩
    refine sortedT (K := K) (xs := ns) (g1.seq hA) fun so nso => ?_
    have g2 : Gr H1 (upd H1 so (.lst ((srt ns).map V.str))) := Gr.new nso
    have eso : (upd H1 so (.lst ((srt ns).map V.str))) so = some (.lst ((srt ns).map V.str)) := upd_same
    generalize upd H1 so (.lst ((srt ns).map V.str)) = H2 at g2 eso
    have g02 := g1.trans g2
    refine ⟨so, rfl, ⟨_, .inl (.inl eso)⟩, for_list (K := K) (xs := (srt ns).map V.str) (fun i σ H3 => Gr H2 H3 ∧ ∃ F bs v, Told H H3 F bs ∧ bs.map (·.2) = box ((srt ns).take i) ∧ σ = [some (.ref a), some (.ref F), v, none]) ⟨Gr.refl H2, F0, [(e, [])], none, T1.gr g2, rfl, rfl⟩ (fun i σ H3 _ h => .inl (.inl (h.1.lst eso))) (fun i x σ H3 hx h => ?_) (fun σ H3 h => ?_)⟩
    · obtain ⟨g3, F, bs, v, TF, ebs, rfl⟩ := h
      obtain ⟨n, hn, rfl⟩ := get_map hx
      have hi : i < (srt ns).length := (List.getElem?_eq_some_iff.mp hn).1
      rw [srt_len] at hi
      have bl : bs.length ≤ 256 := by
        have h1 := congrArg List.length ebs
        rw [List.length_map, box_len] at h1
        rw [h1]
        have h2 : ((srt ns).take i).length ≤ 8 := by rw [List.length_take]; omega
        exact Nat.pow_le_pow_right (by omega) h2
      have big : ∀ m : Nat, m ≤ 2000 → m < sizeLine := fun m hm => by rw [sizeLine_eq]; omega
      have slen : ∀ q ∈ bs, q.2.length ≤ 8 := fun q hq => by
        have h1 : q.2 ∈ box ((srt ns).take i) := by rw [← ebs]; exact List.mem_map.mpr ⟨q, hq, rfl⟩
        have h2 := (box_sub q.2).mp h1 |>.length_le
        rw [List.length_take] at h2
        omega
      have g03 := g02.trans g3
      refine ⟨_, rfl, _, rfl, F, rfl, ⟨_, .inl (.inl TF.at_)⟩, fun D nD => lc_fresh2 (K := K) (H := H) (fun x => x ++ [n]) (ps0 := bs) (.inl (.inl TF.at_)) (big _ (by omega)) g03 nD (fun v => rfl) (fun q0 hq0 H4 Q' g4 hq => ?_) (fun H4 cs g4 Tc ec => ?_)⟩
      · refine ⟨_, rfl, _, rfl, one, fun c nc => ?_⟩
        have g5 : Gr H4 (upd H4 c (.lst [V.str n])) := Gr.new nc
        refine ⟨_, _, _, _, rfl, rfl, g5.lst (g4.lst (TF.own q0 hq0).2.2), upd_same, ?_, fun l nl => ?_⟩
        · rw [List.length_map]
          exact Nat.le_of_lt (big _ (by have := slen q0 hq0; show q0.2.length + 1 ≤ _; omega))
        · have z := hq _ l g5 nl
          rw [List.map_append] at z
          exact z
      · have g04 := g03.trans g4
        have ecl : cs.length = bs.length := by
          have h1 := congrArg List.length ec
          rw [List.length_map, List.length_map] at h1
          exact h1
        refine ⟨_, _, _, _, rfl, rfl, g4.lst TF.at_, Tc.at_, ?_, fun F2 nF2 => ⟨(g3.trans g4).trans (Gr.new nF2), F2, bs ++ cs, _, ⟨g04.free nF2, ?_, fun q hq => ?_, ?_⟩, ?_, rfl⟩⟩
        · rw [List.length_map, List.length_map]
          exact Nat.le_of_lt (big _ (by omega))
        · rw [upd_same, List.map_append]
        · rcases List.mem_append.mp hq with hq | hq
          · obtain ⟨h1, h2, h3⟩ := TF.own q hq
            have h4 := g4.lst h3
            exact ⟨h1, ne_of_none h4 nF2, by rw [upd_ne (ne_of_none h4 nF2)]; exact h4⟩
          · obtain ⟨h1, h2, h3⟩ := Tc.own q hq
            exact ⟨g03.free h1, ne_of_none h3 nF2, by rw [upd_ne (ne_of_none h3 nF2)]; exact h3⟩
        · rw [List.map_append]
          refine List.nodup_append.mpr ⟨TF.nd, Tc.nd, fun x hx y hy e => ?_⟩
          obtain ⟨q1, m1, rfl⟩ := List.mem_map.mp hx
          obtain ⟨q2, m2, rfl⟩ := List.mem_map.mp hy
          have h1 := (TF.own q1 m1).2.2
          rw [e, (Tc.own q2 m2).1] at h1
          cases h1
        · rw [List.map_append, ebs, ec, List.take_add_one, hn]
          show _ = box ((srt ns).take i ++ [n])
          rw [box_snoc, ← ebs, List.map_map]
          rfl
    · obtain ⟨g3, F, bs, v, TF, ebs, rfl⟩ := h
      rw [List.length_map, List.take_length] at ebs
      exact ⟨_, rfl, q F H3 bs (g02.trans g3) TF ebs⟩
end
end K1
namespace K1
open PySem PySem.Spec PyProof.Rows L2 Gr GxR Srx Skx Dcx
section
variable {P : Program} {w : World} {K : PySem.W.Frag} {mg : Str → Option Value} {base : Heap} {f fM fB fR fA fW : Addr} {fd fdM fdB fdR fdA fdW : FuncData}
abbrev nLRanked : List Str := ["_law_sets_here", "_law_one_here", "_law_pair"]
theorem scLRanked : FnScope nLRanked ["_law_sets_here"] (defScope s_law_ranked) := ⟨rfl, rfl, rfl, by decide +kernel, rfl, by decide +kernel, by decide +kernel⟩
theorem ok_lranked (F : FnP K "_law_ranked" s_law_ranked f fd) (gS : mg "sorted" = none) (gL : mg "len" = none) : FnOk P w K mg base CX0 1 f fd ["_law_sets_here"] (spLRanked K) := by
  refine F.ok scLRanked (fun vs H Q E h => ?_) (fun cdv A outer s H vs Q E hr h => ?_)
  · obtain ⟨a, ps, rfl, _⟩ := h
    rfl
  · obtain ⟨a, ps, rfl, hA, hin, few, q⟩ := h
    have big : ∀ n : Nat, n ≤ 5000 → n < sizeLine := fun n hn => by rw [sizeLine_eq]; omega
    refine ⟨_, PSs.nox (pss_one (ps_ret (pe_lc (own := [("_law_pair", 2)]) (g := gName 2) (tt := tYes) rfl scLRanked.nd (pi_list (pe_callB (cr_sortedD (γ := Addr × List Str) (ordRk.comap Prod.snd) (hu64 hr)) (by rfl) gS boot_sorted
            (pa_cons (pe_lc (own := [("_law_one_here", 1)]) (g := gName 1) (tt := tYes) rfl scLRanked.nd (pi_list (pv 0)) (blkOk_by (N := nLRanked) (sc := defScope s_law_ranked) (by decide +kernel)) (fun _ _ _ _ _ => pg_name (i := 1) scLRanked.nd rfl (.inl rfl)) (fun _ _ _ _ _ => pts_nil)
              (fun _ _ _ _ _ => pe_tup (pa_cons (pe_callB (r := rLenQ K) call_len_seq (by rfl) gL boot_len (pa_cons (pv 1) pa_nil)) (pa_cons (pv 1) pa_nil)))) pa_nil))) (blkOk_by (N := nLRanked) (sc := defScope s_law_ranked) (by decide +kernel)) (fun _ _ _ _ _ => pg_name (i := 2) scLRanked.nd rfl (.inl rfl)) (fun _ _ _ _ _ => pts_nil)
          (fun _ _ _ _ _ => pe_ix (r := rIxT K) ix_tup (pv 2) pe_int (fun _ _ => rfl))))), ?_⟩
    refine ⟨_, rfl, a, rfl, ⟨_, hA⟩, fun D1 nD1 => lc_list (K := K) (xs := ps.map fun q : Addr × List Str => V.ref q.1) (fun i H9 => Gr H H9 ∧ ∃ ts : List (Addr × (Addr × List Str)), H9 D1 = some (.lst (ts.map fun t => V.ref t.1)) ∧ (∀ t ∈ ts, H9 t.1 = some (.tup [.int (t.2.2.length : Nat), .ref t.2.1])) ∧ ts.map (·.2) = ps.take i) ⟨Gr.new nD1, [], upd_same, fun _ z => absurd z List.not_mem_nil, rfl⟩ (fun i H9 _ h => h.1.seq hA) (fun i x H9 hx h => ?_) (fun H9 h => ?_)⟩
    · obtain ⟨g9, ts, eD, et, em⟩ := h
      obtain ⟨q0, hq0, rfl⟩ := get_map hx
      have hi : i < ps.length := (List.getElem?_eq_some_iff.mp hq0).1
      refine ⟨rfl, yesIf ?_⟩
      refine ⟨_, rfl, q0.1, _, rfl, .inl (g9.seq (hin q0 (List.mem_of_getElem? hq0))), _, rfl, (by show 2 ≤ sizeLine; rw [sizeLine_eq]; omega), fun t nt => ⟨_, (Gr.new nt).lst eD, ?_, (g9.trans (Gr.new nt)).mut nD1, ts ++ [(t, q0)], ?_, fun z hz => ?_, ?_⟩⟩
      · have h1 := congrArg List.length em
        rw [List.length_map, List.length_take] at h1
        rw [List.length_map]
        exact big _ (by omega)
      · rw [upd_same, List.map_append]
        rfl
      · have nDt : D1 ≠ t := ne_of_none eD nt
        rcases List.mem_append.mp hz with hz | hz
        · have h1 := et z hz
          rw [upd_ne (ne_of h1 eD (by intro z; cases z)), upd_ne (ne_of_none h1 nt)]
          exact h1
        · have hz : z = (t, q0) := by simpa using hz
          rw [hz, upd_ne nDt.symm, upd_same, List.length_map]
      · rw [List.map_append, em, List.take_add_one, hq0]
        rfl
    · obtain ⟨g9, ts, eD, et, em⟩ := h
      rw [List.length_map, List.take_length] at em
      refine ⟨D1, ts.map fun t => (V.ref t.1, t.2), rfl, ?_, fun b hb => ?_, fun Du0 nDu => ?_⟩
      · rw [List.map_map]
        exact .inl (.inl eD)
      · obtain ⟨t, ht, rfl⟩ := List.mem_map.mp hb
        have mt : t.2 ∈ ps := by rw [← em]; exact List.mem_map.mpr ⟨t, ht, rfl⟩
        exact .tup (.inl (.inl (et t ht))) (.cons (.int _) (.cons (dp_dS (g9.seq (hin t.2 mt))) .nil))
      have eq1 : (ts.map fun t => (V.ref t.1, t.2)).mergeSort (PySem.W.dataLe false fun b => rk b.2.2) = (ts.mergeSort fun a b => leR a.2.2 b.2.2).map fun t => (V.ref t.1, t.2) := by
        rw [List.map_mergeSort]
        intro a _ b _
        rfl
      have eq2 : ((ts.mergeSort fun a b => leR a.2.2 b.2.2).map (·.2)).map (·.2) = rkd (ps.map (·.2)) := by
        unfold rkd
        rw [← em, List.map_map, List.map_map, List.map_mergeSort]
        intro a _ b _
        rfl
      have pm : (ts.mergeSort fun a b => leR a.2.2 b.2.2).Perm ts := List.mergeSort_perm _ _
      have pm2 : ((ts.mergeSort fun a b => leR a.2.2 b.2.2).map (·.2)).Perm ps := by
        have := pm.map (·.2)
        rw [em] at this
        exact this
      rw [eq1, List.map_map]
      generalize (ts.mergeSort fun a b => leR a.2.2 b.2.2) = us at eq2 pm pm2
      have et2 : ∀ t ∈ us, H9 t.1 = some (.tup [.int (t.2.2.length : Nat), .ref t.2.1]) := fun t ht => et t (pm.mem_iff.mp ht)
      have hul : us.length ≤ 5000 := by
        have h1 := pm2.length_eq
        rw [List.length_map] at h1
        omega
      have g10 : Gr H9 (upd H9 Du0 (.lst (us.map ((fun x => x.1) ∘ fun t : Addr × (Addr × List Str) => (V.ref t.1, t.2))))) := Gr.new nDu
      have eU : (upd H9 Du0 (.lst (us.map ((fun x => x.1) ∘ fun t : Addr × (Addr × List Str) => (V.ref t.1, t.2))))) Du0 = some (.lst (us.map fun t => V.ref t.1)) := upd_same
      generalize upd H9 Du0 (.lst (us.map ((fun x => x.1) ∘ fun t : Addr × (Addr × List Str) => (V.ref t.1, t.2)))) = H10 at g10 eU
      have g0 := g9.trans g10
      refine ⟨Du0, rfl, ⟨_, .inl (.inl eU)⟩, fun Du nD2 => lc_list (K := K) (xs := us.map fun t : Addr × (Addr × List Str) => V.ref t.1) (fun i H11 => Gr H10 H11 ∧ H11 Du = some (.lst ((us.take i).map fun t => V.ref t.2.1))) ⟨Gr.new nD2, upd_same⟩ (fun i H11 _ h => .inl (.inl (h.1.lst eU))) (fun i x H11 hx h => ?_) (fun H11 h => ?_)⟩
      · obtain ⟨g11, eD2⟩ := h
        obtain ⟨t, ht, rfl⟩ := get_map hx
        have hi : i < us.length := (List.getElem?_eq_some_iff.mp ht).1
        refine ⟨rfl, yesIf ?_⟩
        refine ⟨_, rfl, t.1, _, 1, .ref t.2.1, rfl, rfl, .inl (.inl ((g10.trans g11).tup (et2 t (List.mem_of_getElem? ht)))), atI_nat (j := 1) rfl, _, eD2, ?_, g11.mut nD2, ?_⟩
        · rw [List.length_map, List.length_take]
          exact big _ (by omega)
        · rw [upd_same, take_map ht]
      · obtain ⟨g11, eD2⟩ := h
        rw [List.length_map, List.take_length] at eD2
        exact q Du H11 (us.map (·.2)) (g0.trans g11) (g0.free nD2) (by rw [List.map_map]; exact eD2) pm2 eq2
abbrev nLLeast : List Str := ["_law_names_here", "_law_rows", "_law_good", "_law_found", "_law_one_here", "_law_other_here"]
theorem scLLeast : FnScope nLLeast ["_law_names_here", "_law_rows"] (defScope s_law_least) := ⟨rfl, rfl, rfl, by decide +kernel, rfl, by decide +kernel, by decide +kernel⟩
theorem ok_lleast (F : FnP K "_law_least" s_law_least f fd) (CB : Calls P w K mg base CX0 1 "_law_box" (spBox K)) (CR : Calls P w K mg base CX0 1 "_law_ranked" (spLRanked K)) (CA : Calls P w K mg base CX0 2 "_law_meets_all" (spLAll K))
    (CW : Calls P w K mg base CX0 1 "_law_within" (spLWithin K)) : FnOk P w K mg base CX0 3 f fd ["_law_names_here", "_law_rows"] (spLLeast K) := by
  refine F.ok scLLeast (fun vs H Q E h => ?_) (fun cdv A outer s H vs Q E hr h => ?_)
  · obtain ⟨a, b, ns, ps, rfl, _⟩ := h
    rfl
  · obtain ⟨a, b, ns, ps, rfl, hA, nms, few, hB, hin, q⟩ := h
    have big : ∀ n : Nat, n ≤ 5000 → n < sizeLine := fun n hn => by rw [sizeLine_eq]; omega
    refine ⟨_, PSs.nox (pss_cons (ps_setLc (i := 2) (own := [("_law_one_here", 4)]) (g := gName 4) rfl scLLeast.nd rfl rfl (sw_true rfl rfl rfl (by decide +kernel)) (pi_list (pe_k CR hr (by decide) (by rfl) (pa_cons (pe_k CB hr (by decide) (by rfl) (pa_cons (pv 0) pa_nil)) pa_nil))) (blkOk_by (N := nLLeast) (sc := defScope s_law_least) (by decide +kernel)) (fun _ _ _ _ _ => pg_name (i := 4) scLLeast.nd rfl (.inl rfl))
          (fun _ _ _ _ _ => pts_one (pt_val (pe_k CA hr (by decide) (by rfl) (pa_cons (pv 4) (pa_cons (pv 1) pa_nil))))) (fun _ _ _ _ _ => pv 4))
      (pss_cons (ps_set (i := 3) scLLeast.nd rfl (.inl rfl) (pe_lst pa_nil))
      (pss_cons (ps_for PassesOwn.never rfl (pi_list (pv 2)) (pg_name (i := 4) scLLeast.nd rfl (.inr rfl))
        (pss_one (ps_if (pt_cmpR (op_eqD (hu64 hr)) (pe_lc (own := [("_law_other_here", 5)]) (g := gName 5) rfl scLLeast.nd (pi_list (pv 3)) (blkOk_by (N := nLLeast) (sc := defScope s_law_least) (by decide +kernel)) (fun _ _ _ _ _ => pg_name (i := 5) scLLeast.nd rfl (.inl rfl)) (fun _ _ _ _ _ => pts_one (pt_val (pe_k CW hr (by decide) (by rfl) (pa_cons (pv 5) (pa_cons (pv 4) pa_nil)))))
            (fun _ _ _ _ _ => pv 5)) (pe_lst pa_nil) (nomark _)) (pss_one (ps_expr (pe_bm PySem.F.plainAttrs_list PySem.F.slot_list_append PySem.F.type_list_append mt_append (pv 3) (pa_cons (pv 4) pa_nil)))) pss_nil)))
      (pss_one (ps_ret (pv 3)))))), ?_⟩
    refine ⟨_, rfl, a, ns, rfl, hA, few, fun Bx H1 bs g1 TB eb => ?_⟩
    have bl : bs.length ≤ 256 := by
      have h1 := congrArg List.length eb
      rw [List.length_map, box_len, srt_len] at h1
      rw [h1]
      exact Nat.pow_le_pow_right (by omega) few
    have bnm : ∀ q ∈ bs, Nms q.2 := fun q hq => by
      have h1 : q.2 ∈ box (srt ns) := by rw [← eb]; exact List.mem_map.mpr ⟨q, hq, rfl⟩
      exact fun y hy => nms y (srt_mem.mp ((box_sub q.2).mp h1 |>.subset hy))
    refine ⟨Bx, bs, rfl, .inl (.inl TB.at_), fun q0 hq0 => .inl (.inl (TB.own q0 hq0).2.2), by omega, fun Rk H2 ds g2 nRk eRk pm er => ?_⟩
    have g12 := g1.trans g2
    have own2 : ∀ q ∈ ds, H q.1 = none ∧ H2 q.1 = some (.lst (q.2.map V.str)) := fun q0 hq0 => ⟨(TB.own q0 (pm.mem_iff.mp hq0)).1, g2.lst (TB.own q0 (pm.mem_iff.mp hq0)).2.2⟩
    have dnm : ∀ q ∈ ds, Nms q.2 := fun q0 hq0 => bnm q0 (pm.mem_iff.mp hq0)
    have dnd : (ds.map (·.1)).Nodup := ((pm.map (·.1)).nodup_iff).mpr TB.nd
    have dl : ds.length ≤ 256 := by rw [pm.length_eq]; exact bl
    rw [eb] at er
    refine ⟨Rk, rfl, ⟨_, .inl (.inl eRk)⟩, fun D nD => lc_list (K := K) (xs := ds.map fun q : Addr × List Str => V.ref q.1) (fun i H3 => Gr H2 H3 ∧ H3 D = some (.lst (((ds.take i).filter fun q => mtAll q.2 (ps.map (·.2))).map fun q => V.ref q.1))) ⟨Gr.new nD, upd_same⟩ (fun i H3 _ h => .inl (.inl (h.1.lst eRk))) (fun i x H3 hx h => ?_) (fun H3 h => ?_)⟩
    · obtain ⟨g3, eD⟩ := h
      obtain ⟨d0, hd0, rfl⟩ := get_map hx
      have hi : i < ds.length := (List.getElem?_eq_some_iff.mp hd0).1
      refine ⟨rfl, ?_⟩
      refine ⟨_, rfl, _, rfl, d0.1, b, d0.2, ps, rfl, .inl (.inl (g3.lst (own2 d0 (List.mem_of_getElem? hd0)).2)), (g12.trans g3).seq hB, fun q0 hq0 => (g12.trans g3).seq (hin q0 hq0), _, rfl, ?_⟩
      have tk : (ds.take (i + 1)).filter (fun q => mtAll q.2 (ps.map (·.2))) = (ds.take i).filter (fun q => mtAll q.2 (ps.map (·.2))) ++ (if mtAll d0.2 (ps.map (·.2)) = true then [d0] else []) := by
        rw [List.take_add_one, hd0, List.filter_append]
        congr 1
        show List.filter _ [d0] = _
        rw [List.filter_cons]
        rfl
      cases e : mtAll d0.2 (ps.map (·.2)) with
      | true =>
        refine iteT ⟨_, rfl, _, eD, ?_, g3.mut nD, ?_⟩
        · rw [List.length_map]
          refine Nat.lt_of_le_of_lt (List.length_filter_le _ _) ?_
          rw [List.length_take]
          exact big _ (by omega)
        · rw [upd_same, tk, e, List.map_append]
          rfl
      | false =>
        refine iteF ⟨g3, ?_⟩
        rw [tk, e]
        simp only [Bool.false_eq_true, if_false, List.append_nil]
        exact eD
    · obtain ⟨g3, eD⟩ := h
      rw [List.length_map, List.take_length] at eD
      have gnd : ((ds.filter fun q => mtAll q.2 (ps.map (·.2))).map (·.1)).Nodup := dnd.sublist (List.filter_sublist.map _)
      have gown : ∀ q ∈ ds.filter (fun q => mtAll q.2 (ps.map (·.2))), H q.1 = none ∧ H3 q.1 = some (.lst (q.2.map V.str)) ∧ Nms q.2 := fun q0 hq0 => ⟨(own2 q0 (List.mem_filter.mp hq0).1).1, g3.lst (own2 q0 (List.mem_filter.mp hq0).1).2, dnm q0 (List.mem_filter.mp hq0).1⟩
      have gsn : (ds.filter fun q => mtAll q.2 (ps.map (·.2))).map (·.2) = (rkd (box (srt ns))).filter fun s => mtAll s (ps.map (·.2)) := by
        rw [← er, List.filter_map]
        rfl
      have gl : (ds.filter fun q => mtAll q.2 (ps.map (·.2))).length ≤ 256 := Nat.le_trans (List.length_filter_le _ _) dl
      generalize (ds.filter fun q => mtAll q.2 (ps.map (·.2))) = gs at eD gnd gown gsn gl
      have g03 := g12.trans g3
      refine ⟨Nat.zero_le _, fun B nB => ?_⟩
      have eB0 : (upd H3 B (.lst [])) B = some (.lst []) := upd_same
      have gB0 : Gr H3 (upd H3 B (.lst [])) := Gr.new nB
      have nBH : H B = none := g03.free nB
      generalize upd H3 B (.lst []) = H4 at gB0 eB0
      refine ⟨_, rfl, D, rfl, ⟨_, .inl (.inl (gB0.lst eD))⟩, keep_loop (K := K) (jo := 5) (jf := 3) (gB0.lst eD) (ne_of_none eD nB) (fun q hq => (gown q hq).2) (by omega) nB gB0 eB0 (show 4 < 6 by decide) (show 5 < 6 by decide) rfl (by decide) (by decide) (by decide) (fun v H5 kps g5 eB sub km => ?_)⟩
      refine ⟨_, rfl, q B H5 kps (g03.trans g5) ⟨nBH, eB, fun q0 hq0 => ?_, gnd.sublist (sub.map _)⟩ ?_⟩
      · obtain ⟨h1, h2, _⟩ := gown q0 (sub.subset hq0)
        exact ⟨h1, ne_of_none h2 nB, g5.lst h2⟩
      · rw [km, gsn, lleast_eq]
end
end K1
namespace K1
open PySem PySem.Spec PyProof.Rows L2 Gr GxR Srx Skx Dcx
section
variable {P : Program} {w : World} {K : PySem.W.Frag} {mg : Str → Option Value} {base : Heap} {f : Addr} {fd : FuncData}
theorem scNumbered : FnScope ["_law_rows", "_law_number"] ["_law_rows"] (defScope s_law_numbered) := ⟨rfl, rfl, rfl, by decide +kernel, rfl, by decide +kernel, by decide +kernel⟩
theorem ok_numbered (F : FnP K "_law_numbered" s_law_numbered f fd) (gR : mg "range" = none) (gL : mg "len" = none) (gS : mg "sorted" = none) : FnOk P w K mg base CX0 1 f fd ["_law_rows"] (spNumbered K) := by
  refine F.ok scNumbered (fun vs H Q E h => ?_) (fun cdv A outer s H vs Q E hr h => ?_)
  · obtain ⟨a, ps, rfl, _⟩ := h
    rfl
  · obtain ⟨a, ps, rfl, hA, hin, few, q⟩ := h
    refine ⟨_, PSs.nox (pss_one (ps_ret (pe_lc (own := [("_law_number", 1)]) (g := gName 1) (tt := tYes) rfl scNumbered.nd (pi_range1 (by rfl) gR (pa_cons (pe_callB call_len_seq (by rfl) gL boot_len (pa_cons (pv 0) pa_nil)) pa_nil)) (blkOk_by (N := ["_law_rows", "_law_number"]) (sc := defScope s_law_numbered) (by decide +kernel)) (fun _ _ _ _ _ => pg_name (i := 1) scNumbered.nd rfl (.inl rfl)) (fun _ _ _ _ _ => pts_nil)
        (fun _ _ _ _ _ => pe_tup (pa_cons (pv 1) (pa_cons (pe_callB (r := rSortedD K fun x : Str => PyData.str x) (cr_sortedD Ord.strs (hu64 hr)) (by rfl) gS boot_sorted (pa_cons (pe_ix (r := rIxL K) ix_list (pv 0) (pv 1) (fun _ _ => rfl)) pa_nil)) pa_nil)))))), ?_⟩
    refine ⟨_, rfl, a, _, rfl, .inl hA, _, rfl, ?_, ?_, fun D nD => lc_data (K := K) (n := (((ps.map fun q : Addr × List Str => V.ref q.1).length : Nat) : Int).toNat) (fun i : Nat => .tuple [.int i, dS (srt ((ps.map (·.2)).getD i []))]) (by rw [Int.toNat_natCast, List.length_map]; exact few) (Gr.refl H) nD (fun v => rfl) (fun k H4 Q' hk g4 hx hq => ?_) (fun H2 g2 d => ?_)⟩
    · rw [List.length_map]
      omega
    · rw [List.length_map]
      omega
    · rw [Int.toNat_natCast, List.length_map] at hk
      have hk2 : ps[k]? = some ps[k] := List.getElem?_eq_getElem hk
      have h1 : (ps.map fun q => V.ref q.1)[k]? = some (.ref ps[k].1) := by rw [List.getElem?_map, hk2]; rfl
      have h2 : (ps.map (·.2)).getD k [] = ps[k].2 := by rw [List.getD_eq_getElem?_getD, List.getElem?_map, hk2]; rfl
      have hi := g4.seq (hin ps[k] (List.getElem_mem hk))
      have e0 : ((0 : Int) + (k : Nat)) = ((k : Nat) : Int) := Int.zero_add _
      rw [e0]
      obtain ⟨xs, ex⟩ := hx
      refine ⟨_, rfl, _, rfl, _, rfl, a, _, _, _, rfl, rfl, g4.seq hA, atI_nat h1, ?_⟩
      refine sortedT (K := K) (xs := ps[k].2) hi fun so nso => ⟨(by show 2 ≤ sizeLine; rw [sizeLine_eq]; omega), fun t nt => hq _ _ ((Gr.new nso).trans (Gr.new nt)) ?_⟩
      have eso : (upd H4 so (.lst ((srt ps[k].2).map V.str))) so = some (.lst ((srt ps[k].2).map V.str)) := upd_same
      have nDs : D ≠ so := ne_of_none ex nso
      have nDt : D ≠ t := ne_of_none ((Gr.new nso).lst ex) nt
      have nst : so ≠ t := ne_of_none eso nt
      rw [h2]
      refine .tup (xs := [.int (k : Nat), .ref so]) (.inl (.inl ?_)) (.cons (.int _) (.cons (dp_dS (.inl (.inl ?_))) .nil))
      · rw [mask_at nDt.symm, upd_same]
      · rw [mask_at nDs.symm, upd_ne nst]
        exact eso
    · refine q _ H2 g2 ?_
      rw [Int.toNat_natCast, List.length_map] at d
      unfold numD
      rw [List.length_map]
      exact d
end
end K1
namespace K1
open PySem PySem.Spec PyProof.Rows L2 Gr GxR Srx Skx Dcx
section
variable {P : Program} {w : World} {K : PySem.W.Frag} {mg : Str → Option Value} {base : Heap} {f : Addr} {fd : FuncData}
abbrev nPared : List Str := ["_law_one_here", "_law_rows", "_law_left_here", "_law_name", "_law_less", "_law_other_here"]
theorem scPared : FnScope nPared ["_law_one_here", "_law_rows"] (defScope s_law_pared) := ⟨rfl, rfl, rfl, by decide +kernel, rfl, by decide +kernel, by decide +kernel⟩
theorem ok_pared (F : FnP K "_law_pared" s_law_pared f fd) (CA : Calls P w K mg base CX0 2 "_law_meets_all" (spLAll K)) (gLi : mg "list" = none) (gRv : mg "reversed" = none) : FnOk P w K mg base CX0 3 f fd ["_law_one_here", "_law_rows"] (spPared K) := by
  refine F.ok scPared (fun vs H Q E h => ?_) (fun cdv A outer s H vs Q E hr h => ?_)
  · obtain ⟨a, b, xs, ps, rfl, _⟩ := h
    rfl
  · obtain ⟨a, b, xs, ps, rfl, hA, few, hB, hin, q⟩ := h
    have big : ∀ n : Nat, n ≤ 2000 → n < sizeLine := fun n hn => by rw [sizeLine_eq]; omega
    refine ⟨_, PSs.nox (pss_cons (ps_set (i := 2) scPared.nd rfl (.inl rfl) (pe_callTy call_list_of (by rfl) gLi boot_list (pa_cons (pv 0) pa_nil)))
      (pss_cons (ps_for PassesOwn.never rfl (pi_reversed (by rfl) gRv (pa_cons (pv 0) pa_nil)) (pg_name (i := 3) scPared.nd rfl (.inr rfl))
        (pss_cons (ps_setLc (i := 4) (own := [("_law_other_here", 5)]) (g := gName 5) rfl scPared.nd rfl rfl (sw_true rfl rfl rfl (by decide +kernel)) (pi_list (pv 2)) (blkOk_by (N := nPared) (sc := defScope s_law_pared) (by decide +kernel)) (fun _ _ _ _ _ => pg_name (i := 5) scPared.nd rfl (.inl rfl)) (fun _ _ _ _ _ => pts_one (pt_cmpR op_ne (pv 5) (pv 3) (nomark _))) (fun _ _ _ _ _ => pv 5))
        (pss_one (ps_if (pt_val (pe_k CA hr (by decide) (by rfl) (pa_cons (pv 4) (pa_cons (pv 1) pa_nil)))) (pss_one (ps_set (i := 2) scPared.nd rfl (.inl rfl) (pv 4))) pss_nil))))
      (pss_one (ps_ret (pv 2))))), ?_⟩
    refine ⟨_, rfl, a, _, rfl, .inl hA, fun L0 nL => ?_⟩
    have g1 : Gr H (upd H L0 (.lst (xs.map V.str))) := Gr.new nL
    have e1 : (upd H L0 (.lst (xs.map V.str))) L0 = some (.lst (xs.map V.str)) := upd_same
    generalize upd H L0 (.lst (xs.map V.str)) = H1 at g1 e1
    refine ⟨_, rfl, a, _, rfl, g1.seq hA, for_rev (K := K) (fun i σ H2 => Gr H H2 ∧ ∃ (L : Addr) (v3 v4 : Option V), H L = none ∧ H2 L = some (.lst (((xs.reverse.take i).foldl (pareStep (ps.map (·.2))) xs).map V.str)) ∧ σ = [some (.ref a), some (.ref b), some (.ref L), v3, v4, none]) ⟨g1, L0, none, none, nL, e1, rfl⟩ (fun i σ H2 _ h => h.1.seq hA) (fun i x σ H2 hx h => ?_) (fun σ H2 h => ?_)⟩
    · obtain ⟨g2, L, v3, v4, nL2, eL, rfl⟩ := h
      rw [← List.map_reverse] at hx
      obtain ⟨n, hn, rfl⟩ := get_map hx
      have ll : ((xs.reverse.take i).foldl (pareStep (ps.map (·.2))) xs).length ≤ 1000 := Nat.le_trans (pare_len _ _ _) few
      have nx : (xs.reverse.take (i + 1)).foldl (pareStep (ps.map (·.2))) xs = pareStep (ps.map (·.2)) ((xs.reverse.take i).foldl (pareStep (ps.map (·.2))) xs) n := by
        rw [List.take_add_one, hn, List.foldl_append]
        rfl
      generalize (xs.reverse.take i).foldl (pareStep (ps.map (·.2))) xs = left at eL ll nx
      refine ⟨_, rfl, L, rfl, ⟨_, .inl (.inl eL)⟩, fun D nD => lc_list (K := K) (xs := left.map V.str) (fun k H3 => Gr H2 H3 ∧ H3 D = some (.lst (((left.take k).filter fun y => decide (y ≠ n)).map V.str))) ⟨Gr.new nD, upd_same⟩ (fun k H3 _ h => .inl (.inl (h.1.lst eL))) (fun k x H3 hx2 h => ?_) (fun H3 h => ?_)⟩
      · obtain ⟨g3, eD⟩ := h
        obtain ⟨y, hy, rfl⟩ := get_map hx2
        have hk : k < left.length := (List.getElem?_eq_some_iff.mp hy).1
        refine ⟨rfl, ?_⟩
        refine ⟨_, rfl, _, rfl, rfl, _, rfl, ?_⟩
        have ed : (!decide (V.str y = V.str n)) = decide (y ≠ n) := by
          by_cases e : y = n
          · rw [e]; simp
          · rw [decide_eq_false (fun z => e (by injection z)), decide_eq_true e]; rfl
        rw [ed]
        have tk : (left.take (k + 1)).filter (fun y => decide (y ≠ n)) = (left.take k).filter (fun y => decide (y ≠ n)) ++ (if decide (y ≠ n) = true then [y] else []) := by
          rw [List.take_add_one, hy, List.filter_append]
          congr 1
          show List.filter _ [y] = _
          rw [List.filter_cons]
          rfl
        cases e : decide (y ≠ n) with
        | true =>
          refine iteT ⟨_, rfl, _, eD, ?_, g3.mut nD, ?_⟩
          · rw [List.length_map]
            refine Nat.lt_of_le_of_lt (List.length_filter_le _ _) ?_
            rw [List.length_take]
            exact big _ (by omega)
          · rw [upd_same, tk, e, List.map_append]
            rfl
        | false =>
          refine iteF ⟨g3, ?_⟩
          rw [tk, e]
          simp only [Bool.false_eq_true, if_false, List.append_nil]
          exact eD
      · obtain ⟨g3, eD⟩ := h
        rw [List.length_map, List.take_length] at eD
        have g03 := g2.trans g3
        refine ⟨_, rfl, _, rfl, D, b, _, ps, rfl, .inl (.inl eD), g03.seq hB, fun q0 hq0 => g03.seq (hin q0 hq0), _, rfl, ?_⟩
        cases em : mtAll (left.filter fun y => decide (y ≠ n)) (ps.map (·.2)) with
        | true =>
          refine iteT ⟨_, rfl, g03, D, _, _, g2.free nD, ?_, rfl⟩
          rw [nx]
          unfold pareStep
          rw [if_pos em]
          exact eD
        | false =>
          refine iteF ⟨g03, L, _, _, nL2, ?_, rfl⟩
          rw [nx]
          unfold pareStep
          rw [if_neg (by rw [em]; exact Bool.false_ne_true)]
          exact g3.lst eL
    · obtain ⟨g2, L, v3, v4, nL2, eL, rfl⟩ := h
      rw [List.length_map, ← List.length_reverse, List.take_length] at eL
      exact ⟨_, rfl, q L H2 g2 nL2 eL⟩
end
end K1
namespace K1
open PySem PySem.Spec PyProof.Rows L2 Gr GxR Srx Skx Dcx
section
variable {P : Program} {w : World} {K : PySem.W.Frag} {mg : Str → Option Value} {base : Heap} {f : Addr} {fd : FuncData}
abbrev nLRows : List Str := ["_law_rows", "_law_found", "_law_one_here", "_law_other_here", "_law_row_here"]
theorem scLRows : FnScope nLRows ["_law_rows"] (defScope s_law_least_rows13) := ⟨rfl, rfl, rfl, by decide +kernel, rfl, by decide +kernel, by decide +kernel⟩
theorem ok_lrows (F : FnP K "_law_least_rows" s_law_least_rows13 f fd) (CR : Calls P w K mg base CX0 1 "_law_ranked" (spLRanked K)) (CW : Calls P w K mg base CX0 1 "_law_within" (spLWithin K)) (gS : mg "sorted" = none) : FnOk P w K mg base CX0 2 f fd ["_law_rows"] (spLRows K) := by
  refine F.ok scLRows (fun vs H Q E h => ?_) (fun cdv A outer s H vs Q E hr h => ?_)
  · obtain ⟨a, ps, rfl, _⟩ := h
    rfl
  · obtain ⟨a, ps, rfl, hA, hin, few, q⟩ := h
    refine ⟨_, PSs.nox (pss_cons (ps_set (i := 1) scLRows.nd rfl (.inl rfl) (pe_lst pa_nil))
      (pss_cons (ps_for PassesOwn.never rfl (pi_list (pe_k CR hr (by decide) (by rfl) (pa_cons (pe_lc (own := [("_law_row_here", 4)]) (g := gName 4) (tt := tYes) rfl scLRows.nd (pi_list (pv 0)) (blkOk_by (N := nLRows) (sc := defScope s_law_least_rows13) (by decide +kernel)) (fun _ _ _ _ _ => pg_name (i := 4) scLRows.nd rfl (.inl rfl)) (fun _ _ _ _ _ => pts_nil)
          (fun _ _ _ _ _ => pe_callB (r := rSortedD K fun x : Str => PyData.str x) (cr_sortedD Ord.strs (hu64 hr)) (by rfl) gS boot_sorted (pa_cons (pv 4) pa_nil))) pa_nil))) (pg_name (i := 2) scLRows.nd rfl (.inr rfl))
        (pss_one (ps_if (pt_cmpR (op_eqD (hu64 hr)) (pe_lc (own := [("_law_other_here", 3)]) (g := gName 3) rfl scLRows.nd (pi_list (pv 1)) (blkOk_by (N := nLRows) (sc := defScope s_law_least_rows13) (by decide +kernel)) (fun _ _ _ _ _ => pg_name (i := 3) scLRows.nd rfl (.inl rfl)) (fun _ _ _ _ _ => pts_one (pt_val (pe_k CW hr (by decide) (by rfl) (pa_cons (pv 3) (pa_cons (pv 2) pa_nil)))))
            (fun _ _ _ _ _ => pv 3)) (pe_lst pa_nil) (nomark _)) (pss_one (ps_expr (pe_bm PySem.F.plainAttrs_list PySem.F.slot_list_append PySem.F.type_list_append mt_append (pv 1) (pa_cons (pv 2) pa_nil)))) pss_nil)))
      (pss_one (ps_ret (pv 1))))), ?_⟩
    refine ⟨Nat.zero_le _, fun B nB => ?_⟩
    have eB0 : (upd H B (.lst [])) B = some (.lst []) := upd_same
    have gB0 : Gr H (upd H B (.lst [])) := Gr.new nB
    generalize upd H B (.lst []) = H1 at gB0 eB0
    refine ⟨_, rfl, a, rfl, ⟨_, gB0.seq hA⟩, fun D nD => lc_fresh (K := K) (H := H1) srt (ps0 := ps) (gB0.seq hA) (small1000 few) (Gr.refl H1) nD (fun v => rfl) (fun q0 hq0 H4 Q' g4 h4 => ⟨_, rfl, sortedS_texts (xs := q0.2) (g4.seq (gB0.seq (hin q0 hq0).1)) h4⟩) (fun H2 hs g2 T2 e2 => ?_)⟩
    have g02 := gB0.trans g2
    have hsl : hs.length = ps.length := by
      have := congrArg List.length e2
      rw [List.length_map, List.length_map] at this
      exact this
    have hnm : ∀ q ∈ hs, Nms q.2 := fun q0 hq0 => by
      have h1 : q0.2 ∈ ps.map (fun q => srt q.2) := by rw [← e2]; exact List.mem_map.mpr ⟨q0, hq0, rfl⟩
      obtain ⟨z, hz, ez⟩ := List.mem_map.mp h1
      rw [← ez]
      exact fun y hy => (hin z hz).2 y (srt_mem.mp hy)
    refine ⟨D, hs, rfl, .inl (.inl T2.at_), fun q0 hq0 => .inl (.inl (T2.own q0 hq0).2.2), by omega, fun Rk H3 ds g3 nR eR pm er => ?_⟩
    have dm : ∀ q ∈ ds, q ∈ hs := fun q0 hq0 => pm.mem_iff.mp hq0
    have qB : ∀ q ∈ hs, q.1 ≠ B := fun q0 hq0 => (ne_of_none eB0 (T2.own q0 hq0).1).symm
    have g03 := g02.trans g3
    have own3 : ∀ q ∈ ds, mask B H3 q.1 = some (.lst (q.2.map V.str)) := fun q0 hq0 => by
      rw [mask_at (qB q0 (dm q0 hq0))]
      exact g3.lst (T2.own q0 (dm q0 hq0)).2.2
    have dnd : (ds.map (·.1)).Nodup := ((pm.map (·.1)).nodup_iff).mpr T2.nd
    refine ⟨Rk, rfl, ⟨_, .inl (.inl eR)⟩, keep_loop (K := K) (H3 := mask B H3) (jo := 3) (jf := 1) eR (ne_of_none (g2.lst eB0) nR).symm (fun q0 hq0 => ⟨own3 q0 hq0, hnm q0 (dm q0 hq0)⟩) (by rw [pm.length_eq]; omega) (mask_self B H3) (gr_unmask B H3) (g3.lst (g2.lst eB0)) (show 2 < 5 by decide) (show 3 < 5 by decide) rfl (by decide) (by decide) (by decide) (fun v H5 kps g5 eB sub km => ?_)⟩
    refine ⟨_, rfl, q B H5 kps ((gr_masked nB g03).trans g5) ⟨nB, eB, fun q0 hq0 => ?_, dnd.sublist (sub.map _)⟩ ?_⟩
    · have m0 := sub.subset hq0
      exact ⟨gB0.free (T2.own q0 (dm q0 m0)).1, qB q0 (dm q0 m0), g5.lst (own3 q0 m0)⟩
    · rw [km, er, e2, least_eq, List.map_map]
      rfl
end
end K1
namespace K1
open PySem PySem.Spec PyProof.Rows L2 Gr GxR Srx Skx Dcx
section
variable {P : Program} {w : World} {K : PySem.W.Frag} {mg : Str → Option Value} {base : Heap} {f : Addr} {fd : FuncData} {p : He.Defn} {T : Addr} {R : ErN}
theorem scNamesFrom : FnScope ["thing"] ["thing"] (defScope s_names_from) := ⟨rfl, rfl, rfl, by decide +kernel, rfl, by decide +kernel, by decide +kernel⟩
theorem ok_names_from (F : FnP K "names_from" s_names_from f fd) (cR : Calls P w K mg base (L2.CX P w) 2 "rising" (spRising K T R.name)) (EC : ErrC K mg "BadRow" R.row) (gI : mg "isinstance" = none) (gL : mg "list" = none) :
    FnOk P w K mg base (L2.CX P w) 3 f fd ["thing"] (spNamesFrom K T R) := by
  refine F.ok scNamesFrom (fun vs H Q E h => ?_) (fun cdv A outer s H vs Q E hr h => ?_)
  · obtain ⟨v, rfl, _⟩ := h
    rfl
  · obtain ⟨v, rfl, hT, h⟩ := h
    refine ⟨_, pss_cons (ps_if (pt_not (pt_val (pe_callB call_isi (by rfl) gI (by decide +kernel) (pa_cons (pv 0) (pa_cons (pe_bltn (v := .ty "list") (by rfl) gL (by decide +kernel) rfl) pa_nil)))))
        (pss_one (ps_raise rfl (takes_of rfl rfl rfl rfl) (SkE.pmk_own1 PySem.F.excBase_ValueError EC.xC EC.gC EC.kC (raises_own EC.bC EC.tC) (by rfl) pe_str))) pss_nil)
      (pss_one (ps_ret (pe_f cR hr (by decide) (paE (takes_of rfl rfl rfl rfl)) (by rfl) (pa_cons (pv 0) pa_nil)))), ?_⟩
    rcases h with ⟨xs, ⟨a, rfl, ha, nm, few⟩, q⟩ | ⟨⟨a, vls, rfl, ha, th, few, bad⟩, q⟩ | ⟨⟨t, ty, kt⟩, q⟩
    · refine ⟨_, rfl, _, _, _, _, true, rfl, .ty _, .base (.lst ha), kit_ty (by decide +kernel), _, rfl, ?_⟩
      refine iteF ⟨_, rfl, a, _, rfl, .inl (.inl ha), nms_things nm, by rw [List.length_map]; exact few, hT, .inl ⟨xs, rfl, nms_all.mpr nm, q⟩⟩
    · refine ⟨_, rfl, _, _, _, _, true, rfl, .ty _, .base (.lst ha), kit_ty (by decide +kernel), _, rfl, ?_⟩
      refine iteF ⟨_, rfl, a, _, rfl, .inl (.inl ha), th, few, hT, .inr ⟨bad, q⟩⟩
    · refine ⟨_, rfl, _, _, _, _, false, rfl, .ty _, ty, kit_ty kt, _, rfl, ?_⟩
      exact iteT (q H (Gr.refl H))
theorem scRowFrom : FnScope ["thing", "names"] ["thing"] (defScope s_row_from) := ⟨rfl, rfl, rfl, by decide +kernel, rfl, by decide +kernel, by decide +kernel⟩
theorem ok_row_from (F : FnP K "row_from" s_row_from f fd) (cN : Calls P w K mg base (L2.CX P w) 3 "names_from" (spNamesFrom K T R)) (EC : ErrC K mg "BadRow" R.row) (gL : mg "len" = none) :
    FnOk P w K mg base (L2.CX P w) 4 f fd ["thing"] (spRowFrom K T R) := by
  refine F.ok scRowFrom (fun vs H Q E h => ?_) (fun cdv A outer s H vs Q E hr h => ?_)
  · obtain ⟨v, rfl, _⟩ := h
    rfl
  · obtain ⟨v, rfl, hT, h⟩ := h
    refine ⟨_, pss_cons (ps_set (i := 1) scRowFrom.nd rfl (.inl rfl) (pe_f cN hr (by decide) (paE (takes_of rfl rfl rfl rfl)) (by rfl) (pa_cons (pv 0) pa_nil)))
      (pss_cons (ps_if (pt_cmpR op_ne (pe_callB call_len_seq (by rfl) gL boot_len (pa_cons (pv 1) pa_nil)) (pe_callB call_len_seq (by rfl) gL boot_len (pa_cons (pv 0) pa_nil)) (nomark _))
        (pss_one (ps_raise rfl (takes_of rfl rfl rfl rfl) (SkE.pmk_own1 PySem.F.excBase_ValueError EC.xC EC.gC EC.kC (raises_own EC.bC EC.tC) (by rfl) pe_str))) pss_nil)
      (pss_one (ps_ret (pv 1)))), ?_⟩
    refine ⟨_, rfl, _, rfl, hT, ?_⟩
    rcases h with ⟨xs, hk, nd, q⟩ | ⟨xs, hk, nd, q⟩ | ⟨hb, q⟩ | ⟨hb, q⟩
    · refine .inl ⟨xs, hk, fun p H2 g np ep => ?_⟩
      obtain ⟨a, rfl, ha, nm, few⟩ := hk.gr g
      refine ⟨_, rfl, p, _, rfl, .inl (.inl (.inl ep)), _, rfl, a, _, rfl, .inl (.inl (.inl ha)), rfl, _, rfl, ?_⟩
      rw [List.length_map, List.length_map, once_full nd]
      refine iteNS (by simp) ⟨_, rfl, q p H2 g np ep⟩
    · refine .inl ⟨xs, hk, fun p H2 g np ep => ?_⟩
      obtain ⟨a, rfl, ha, nm, few⟩ := hk.gr g
      refine ⟨_, rfl, p, _, rfl, .inl (.inl (.inl ep)), _, rfl, a, _, rfl, .inl (.inl (.inl ha)), rfl, _, rfl, ?_⟩
      rw [List.length_map, List.length_map]
      have ne := once_twice nd
      rw [decide_eq_false (show ¬ (V.int ((once xs).length : Nat) = V.int (xs.length : Nat)) from fun z => ne (by injection z with z; omega))]
      exact iteT (q H2 g)
    · exact .inr (.inl ⟨hb, q⟩)
    · exact .inr (.inr ⟨hb, q⟩)
end
end K1
namespace K1
open PySem PySem.Spec PyProof.Rows L2 Gr GxR Srx Skx Dcx
section
variable {P : Program} {w : World} {K : PySem.W.Frag} {mg : Str → Option Value} {base : Heap} {f : Addr} {fd : FuncData} {p : He.Defn} {N : TabN} {R : ErN}
abbrev nGrown : List Str := ["sets", "row", "names", "found", "one", "name"]
theorem scGrown : FnScope nGrown ["sets", "row"] (defScope s_grown) := ⟨rfl, rfl, rfl, by decide +kernel, rfl, by decide +kernel, by decide +kernel⟩
theorem ok_grown (F : FnP K "grown" s_grown f fd) (cR : Calls P w K mg base (L2.CX P w) 4 "row_from" (spRowFrom K N.i R)) (cM : Calls P w K mg base CX0 1 "meets_sets" (spMeets K N.m)) (cL : Calls P w K mg base CX0 5 "least_of" (spLeast K N.l N.w)) :
    FnOk P w K mg base CX0 6 f fd ["sets", "row"] (spGrown K N) := by
  refine F.ok scGrown (fun vs H Q E h => ?_) (fun cdv A outer s H vs Q E hr h => ?_)
  · obtain ⟨a, v, ps, r, rfl, _⟩ := h
    rfl
  · obtain ⟨a, v, ps, r, rfl, lA, hp, few, hR, nd, rl, hN, q⟩ := h
    refine ⟨_, PSs.nox (pss_cons (ps_set (i := 2) scGrown.nd rfl (.inl rfl) (pe_f cR hr (by decide) paL (by rfl) (pa_cons (pv 1) pa_nil)))
      (pss_cons (ps_set (i := 3) scGrown.nd rfl (.inl rfl) (pe_lst pa_nil))
      (pss_cons (ps_for PassesOwn.never rfl (pi_list (pv 0)) (pg_name (i := 4) scGrown.nd rfl (.inr rfl))
        (pss_one (ps_if (pt_val (pe_k cM hr (by decide) (by rfl) (pa_cons (pv 4) (pa_cons (pv 2) pa_nil))))
          (pss_one (ps_expr (pe_bm PySem.F.plainAttrs_list PySem.F.slot_list_append PySem.F.type_list_append mt_append (pv 3) (pa_cons (pv 4) pa_nil))))
          (pss_one (ps_expr (pe_bm PySem.F.plainAttrs_list PySem.F.slot_list_extend PySem.F.type_list_extend mt_extend (pv 3) (pa_cons (pe_lc (own := [("name", 5)]) (g := gName 5) (tt := tYes) (te := tLst (StX.tStar K (tVar 4) (tCons (tVar 5) tNil))) rfl scGrown.nd (pi_list (pv 2)) (blkOk_by (N := nGrown) (sc := defScope s_grown) (by decide +kernel))
              (fun _ _ _ _ _ => pg_name (i := 5) scGrown.nd rfl (.inl rfl)) (fun _ _ _ _ _ => pts_nil) (fun _ _ _ _ _ => pe_lst (StX.pa_star (pv 4) (pa_cons (pv 5) pa_nil)))) pa_nil)))))))
      (pss_one (ps_ret (pe_k cL hr (by decide) (by rfl) (pa_cons (pv 3) pa_nil))))))), ?_⟩
    refine ⟨_, rfl, _, rfl, hN.i, .inl ⟨r, hR, nd, fun nm H1 g1 nnm enm => ?_⟩⟩
    have onl : (once r).length ≤ 12 := Nat.le_trans once_len rl
    refine ⟨Nat.zero_le _, fun S nS => ?_⟩
    have g2 : Gr H (upd H1 S (.lst [])) := g1.trans (Gr.new nS)
    have nSH : H S = none := g1.free nS
    have eS : (upd H1 S (.lst [])) S = some (.lst []) := upd_same
    have em2 : (upd H1 S (.lst [])) nm = some (.lst ((once r).map V.str)) := (Gr.new nS).lst enm
    have nmS : nm ≠ S := ne_of_none enm nS
    generalize upd H1 S (.lst []) = H2 at g2 eS em2
    refine ⟨_, rfl, a, rfl, ⟨_, .inl (.inl (lA.gr g2).at_)⟩, for_list (K := K) (xs := ps.map fun q : Addr × List Str => V.ref q.1) (fun i σ H3 => Gr H H3 ∧ H3 nm = some (.lst ((once r).map V.str)) ∧ ∃ (ss : List (Addr × List Str)) (v4 : Option V), H3 S = some (.lst (ss.map fun q => V.ref q.1)) ∧ (∀ q ∈ ss, q.1 ≠ S ∧ q.2.length ≤ 101 ∧ H3 q.1 = some (.lst (q.2.map V.str))) ∧ ss.map (·.2) = found ((ps.take i).map (·.2)) (once r) ∧ ss.length ≤ i * 12 ∧
        σ = [some (.ref a), some v, some (.ref nm), some (.ref S), v4, none]) ⟨g2, em2, [], none, eS, fun _ z => absurd z List.not_mem_nil, rfl, Nat.zero_le _, rfl⟩ (fun i σ H3 _ h => .inl (.inl (lA.gr h.1).at_)) (fun i x σ H3 hx h => ?_) (fun σ H3 h => ?_)⟩
    · obtain ⟨g3, em3, ss, v4, eS3, own, es, sl, rfl⟩ := h
      obtain ⟨p0, hp0, rfl⟩ := get_map hx
      have mp := List.mem_of_getElem? hp0
      have hi : i < ps.length := (List.getElem?_eq_some_iff.mp hp0).1
      have sz : ss.length ≤ 60000 - 12 := by omega
      have ePp := (lA.gr g3).own p0 mp
      have npS : p0.1 ≠ S := ne_of_none (lA.own p0 mp) nSH
      refine ⟨_, rfl, _, rfl, p0.1, nm, p0.2, once r, rfl, .inl (.inl ePp), .inl (.inl em3), g3.tabG hN.m, fun H4 g4 => ⟨_, rfl, ?_⟩⟩
      show if mt p0.2 (once r) = true then _ else _
      cases em : mt p0.2 (once r) with
      | true =>
        refine iteT ⟨_, rfl, .inl ⟨rfl, _, .inl (.inl (g4.lst eS3))⟩, _, rfl, S, _, _, rfl, rfl, g4.lst eS3, ?_, ?_⟩
        · rw [List.length_map]
          exact small60 (by omega)
        · refine ⟨(g3.trans g4).mut nSH, ?_, ss ++ [p0], _, ?_, fun q hq => ?_, ?_, ?_, rfl⟩
          · rw [upd_ne nmS]
            exact g4.lst em3
          · rw [upd_same, List.map_append]
            rfl
          · rcases List.mem_append.mp hq with hq | hq
            · obtain ⟨h1, h2, h3⟩ := own q hq
              exact ⟨h1, h2, by rw [upd_ne h1]; exact g4.lst h3⟩
            · rw [List.mem_singleton.mp hq]
              exact ⟨npS, Nat.le_succ_of_le (hp p0 mp).2, by rw [upd_ne npS]; exact g4.lst ePp⟩
          · rw [List.map_append, es, take_map hp0, found_snoc, em]
            rfl
          · rw [List.length_append, List.length_singleton]
            omega
      | false =>
        refine iteF ⟨_, rfl, .inl ⟨rfl, _, .inl (.inl (g4.lst eS3))⟩, _, rfl, nm, rfl, ⟨_, .inl (.inl (g4.lst em3))⟩, fun D nD => lc_newT (K := K) (xs := once r) (fun x => p0.2 ++ [x]) (.inl (.inl (g4.lst em3))) (small1000 (by omega)) nD (fun v => rfl) (fun x hx H5 Q' g5 hq => ?_) (fun H5 cs g5 T5 ec => ?_)⟩
        · refine ⟨_, rfl, p0.1, p0.2.map V.str, rfl, .inr (.inl (.inl ((g4.trans g5).lst ePp))), _, rfl, ?_, fun l nl => ?_⟩
          · rw [List.length_append, List.length_map, List.length_singleton]
            have := (hp p0 mp).2
            exact Nat.le_of_lt (small1000 (by omega))
          · have z := hq H5 l (Gr.refl H5) nl
            rw [List.map_append] at z
            exact z
        · have g45 := g4.trans g5
          have cl : cs.length ≤ 12 := by
            have h1 := congrArg List.length ec
            rw [List.length_map, List.length_map] at h1
            omega
          have SD : S ≠ D := ne_of_none (g4.lst eS3) nD
          refine ⟨S, D, _, _, rfl, rfl, g45.lst eS3, T5.at_, ?_, ?_⟩
          · rw [List.length_map, List.length_map]
            exact Nat.le_of_lt (small60 (by omega))
          · refine ⟨(g3.trans g45).mut nSH, ?_, ss ++ cs, _, ?_, fun q hq => ?_, ?_, ?_, rfl⟩
            · rw [upd_ne nmS]
              exact g45.lst em3
            · rw [upd_same, List.map_append]
            · rcases List.mem_append.mp hq with hq | hq
              · obtain ⟨h1, h2, h3⟩ := own q hq
                exact ⟨h1, h2, by rw [upd_ne h1]; exact g45.lst h3⟩
              · obtain ⟨h1, h2, h3⟩ := T5.own q hq
                have h4 : q.1 ≠ S := (ne_of_none (g4.lst eS3) h1).symm
                refine ⟨h4, ?_, by rw [upd_ne h4]; exact h3⟩
                have h5 : q.2 ∈ (once r).map (fun x => p0.2 ++ [x]) := by rw [← ec]; exact List.mem_map.mpr ⟨q, hq, rfl⟩
                obtain ⟨x, _, e3⟩ := List.mem_map.mp h5
                rw [← e3, List.length_append, List.length_singleton]
                exact Nat.succ_le_succ (hp p0 mp).2
            · rw [List.map_append, es, ec, take_map hp0, found_snoc, em]
              rfl
            · rw [List.length_append]
              omega
    · obtain ⟨g3, em3, ss, v4, eS3, own, es, sl, rfl⟩ := h
      rw [List.length_map, List.take_length] at es
      rw [List.length_map] at sl
      refine ⟨_, rfl, S, ss, rfl, .inl (.inl eS3), fun q0 hq0 => ⟨.inl (.inl (own q0 hq0).2.2), Nat.le_trans (own q0 hq0).2.1 (by decide)⟩, by omega, g3.tabG hN.l, g3.tabG hN.w, fun p H4 ks g4 T4 e4 => q p H4 ks (g3.trans g4) (T4.from g3) ?_⟩
      have ra : RisAll (ps.map (·.2)) := by
        intro x hx
        obtain ⟨q0, hq0, rfl⟩ := List.mem_map.mp hx
        exact (hp q0 hq0).1
      rw [e4, es, found_once ra, cand_once ra]
end
end K1
namespace K1
open PySem PySem.Spec PyProof.Rows L2 Gr GxR Srx Skx Dcx
section
variable {P : Program} {w : World} {K : PySem.W.Frag} {mg : Str → Option Value} {base : Heap} {f C : Addr} {fd : FuncData} {p : He.Defn} {N : TabN} {R : ErN}
theorem scInit : FnScope ["self"] ["self"] (defScope m_init) := ⟨rfl, rfl, rfl, by decide +kernel, rfl, by decide +kernel, by decide +kernel⟩
theorem ok_init (F : FnM K "__init__" "Book.__init__" m_init f fd) (BC : BkC K mg C) : FnOk P w K mg base CX0 1 f fd ["self"] (spInit C) := by
  refine F.ok scInit (fun vs H Q E h => ?_) (fun cdv A outer s H vs Q E hr h => ?_)
  · obtain ⟨b, dx, rfl, _⟩ := h
    rfl
  · obtain ⟨b, dx, rfl, hb, k⟩ := h
    refine ⟨_, PSs.nox (pss_cons (ps_fld (pv 0) pe_dnewK rfl) (pss_one (ps_fld (pv 0) pe_int rfl))), ?_⟩
    intro d hd
    have nbd : b ≠ d := ne_of_none hb hd
    refine ⟨_, rfl, b, C, dx, [], rfl, (by rw [upd_ne nbd]; exact hb), BC.cl, BC.nR, (by show 0 < 1000; decide), _, rfl, b, C, dx, _, rfl, upd_same, BC.cl, BC.nN, (by show 1 < 1000; decide), ?_⟩
    refine k d _ hd ⟨fun c o hc e n => ?_, fun c ps e => ⟨ps, ?_, fun h => h⟩, fun c o hc e => ?_⟩ ⟨⟨dx, upd_same⟩, by rw [upd_ne nbd.symm, upd_ne nbd.symm, upd_same]; rfl, fun e he => absurd he List.not_mem_nil⟩
    · rw [upd_ne hc, upd_ne hc, upd_ne (ne_of_none e hd)]
      exact e
    · have hc : c ≠ b := fun z => by rw [z, hb] at e; cases e
      rw [upd_ne hc, upd_ne hc, upd_ne (ne_of_none e hd)]
      exact e
    · exact ⟨_, by rw [hc, upd_same]⟩
theorem scBSets : FnScope ["self"] ["self"] (defScope m_sets) := ⟨rfl, rfl, rfl, by decide +kernel, rfl, by decide +kernel, by decide +kernel⟩
theorem ok_bsets (F : FnM K "_sets" "Book._sets" m_sets f fd) (BC : BkC K mg C) (g_list : mg "list" = none) : FnOk P w K mg base CX0 1 f fd ["self"] (spBSets C) := by
  refine F.ok scBSets (fun vs H Q E h => ?_) (fun cdv A outer s H vs Q E hr h => ?_)
  · obtain ⟨b, d, tb, n, rfl, _⟩ := h
    rfl
  · obtain ⟨b, d, tb, n, rfl, B, q⟩ := h
    refine ⟨_, PSs.nox (pss_one (ps_ret (LVals.pe_listVals rfl (pe_fld (pv 0) rfl) (by rfl) g_list boot_list))), ?_⟩
    obtain ⟨dx, eb⟩ := B.ob
    refine ⟨_, rfl, b, C, dx, _, _, rfl, eb, BC.cl, BC.nR, bfl_rows d n, d, kvB tb, rfl, B.dc, fun p np => ?_⟩
    have z := q p np
    rw [show (kvB tb).map (·.2) = tb.map fun e => V.ref e.2.1 from by unfold kvB; rw [List.map_map]; rfl]
    exact z
abbrev nBNames : List Str := ["self", "row", "name"]
theorem scBNames : FnScope nBNames ["self"] (defScope m_names) := ⟨rfl, rfl, rfl, by decide +kernel, rfl, by decide +kernel, by decide +kernel⟩
theorem ok_bnames (F : FnM K "names" "Book.names" m_names f fd) (BC : BkC K mg C) (cSets : MCalls P w K mg base CX0 1 C "_sets" (spBSets C)) (g_sorted : mg "sorted" = none) : FnOk P w K mg base CX0 2 f fd ["self"] (spBNames C) := by
  refine F.ok scBNames (fun vs H Q E h => ?_) (fun cdv A outer s H vs Q E hr h => ?_)
  · obtain ⟨b, d, tb, n, rfl, _⟩ := h
    rfl
  · obtain ⟨b, d, tb, n, rfl, B, T, q⟩ := h
    refine ⟨_, PSs.nox (pss_one (ps_ret (pe_callB (Srx.cr_sortedTx rfl (hu64 hr)) (by rfl) g_sorted boot_sorted (pa_cons (Sc2.pe_sc2 (own := [("row", 1), ("name", 2)]) (g := gName 1) (tt := tYes) (g1 := gName 2) (tt1 := tYes) (vs1 := [2]) (wi1 := iList K (tVar 1)) (te := tVar 2) rfl scBNames.nd (pi_list (pe_m0 cSets BC.cl hr (by decide) pa0 (pv 0))) (blkOk_by (N := nBNames) (sc := defScope m_names) (by decide +kernel)) (by decide) (fun _ _ _ _ _ => (pg_name (i := 1) scBNames.nd rfl (.inl rfl))) (fun _ _ _ _ _ => pts_nil) (fun _ _ _ _ _ => (pi_list (pv 1))) (fun _ _ _ _ _ => (pg_name (i := 2) scBNames.nd rfl (.inl rfl))) (fun _ _ _ _ _ => pts_nil) (fun _ _ _ _ _ => (pv 2))) pa_nil)))), ?_⟩
    refine ⟨_, rfl, b, d, tb, n, rfl, B, b, d, tb, n, rfl, B, fun L nL => ⟨L, rfl, ⟨_, .inl (.inl upd_same)⟩, fun D nD => ?_⟩⟩
    have g1 : Gr H (upd H L (.lst (tb.map fun e => V.ref e.2.1))) := Gr.new nL
    have B1 := B.gr g1
    have eL : (upd H L (.lst (tb.map fun e => V.ref e.2.1))) L = some (.lst (tb.map fun e => V.ref e.2.1)) := upd_same
    generalize upd H L (.lst (tb.map fun e => V.ref e.2.1)) = H1 at g1 B1 eL nD
    refine sc2_rows (K := K) (ps := tb.map fun e => (e.2.1, e.2.2)) (by rw [List.map_map]; exact .inl (.inl eL)) (fun q hq => ?_) nD ?_ ?_ (fun _ => rfl) (fun _ _ => rfl) (fun _ => rfl) (fun _ _ => rfl)
    · obtain ⟨e, he, rfl⟩ := List.mem_map.mp hq
      exact .inl (.inl (B1.own e he))
    · have h1 := T.flat
      rw [List.map_map]
      exact Nat.le_trans h1 (by decide)
    · refine ⟨D, _, rfl, upd_same, fun p np => ?_⟩
      refine q p _ (g1.trans ((Gr.new nD).trans (Gr.new np))) ((g1.trans (Gr.new nD)).free np) ?_
      rw [upd_same, List.map_map]
      rfl
end
end K1
namespace K1
open PySem PySem.Spec PyProof.Rows L2 Gr GxR Srx Skx Dcx
section
variable {P : Program} {w : World} {K : PySem.W.Frag} {mg : Str → Option Value} {base : Heap} {f C : Addr} {fd : FuncData} {p : He.Defn} {N : TabN} {R : ErN}
abbrev nPut : List Str := ["self", "row", "names", "number"]
theorem scPut : FnScope nPut ["self", "row"] (defScope m_put) := ⟨rfl, rfl, rfl, by decide +kernel, rfl, by decide +kernel, by decide +kernel⟩
theorem ok_put (F : FnM K "put" "Book.put" m_put f fd) (BC : BkC K mg C) (cRow : Calls P w K mg base (L2.CX P w) 4 "row_from" (spRowFrom K N.i R)) (cRis : Calls P w K mg base (L2.CX P w) 2 "rising" (spRising K N.i R.name))
    (cNames : MCalls P w K mg base CX0 2 C "names" (spBNames C)) (eMany : ErrC K mg "TooMany" R.many) (g_len : mg "len" = none) (gMR : ∃ t, mg "MOST_ROWS_books" = some (.int 30 t)) (gMN : ∃ t, mg "MOST_NAMES_books" = some (.int 12 t)) :
    FnOk P w K mg base (L2.CX P w) 5 f fd ["self", "row"] (spPut K C N R) := by
  obtain ⟨tR, gMR⟩ := gMR
  obtain ⟨tN, gMN⟩ := gMN
  refine F.ok scPut (fun vs H Q E h => ?_) (fun cdv A outer s H vs Q E hr h => ?_)
  · obtain ⟨b, d, tb, n, v, rfl, _⟩ := h
    rfl
  · obtain ⟨b, d, tb, n, v, rfl, B, T, hN, h⟩ := h
    refine ⟨_, pss_cons (ps_set (i := 2) scPut.nd rfl (.inl rfl) (pe_f cRow hr (by decide) (paE (takes_of rfl rfl rfl rfl)) (by rfl) (pa_cons (pv 1) pa_nil))) (pss_cons (ps_if (pt_cmpR op_ge (pe_callB call_lenD (by rfl) g_len PySem.boot_len (pa_cons (pe_fld (pv 0) rfl) pa_nil)) (pe_glob (v := .int 30) (by rfl) gMR ⟨_, rfl⟩) (nomark _)) (pss_one (ps_raise rfl (takes_of rfl rfl rfl rfl) (SkE.pmk_own1 PySem.F.excBase_ValueError eMany.xC eMany.gC eMany.kC (raises_own eMany.bC eMany.tC) (by rfl) (pe_joined (.cons pe_str (.cons (pe_fmt (pe_glob (v := .int 30) (by rfl) gMR ⟨_, rfl⟩)) (.cons pe_str .nil))))))) (pss_nil)) (pss_cons (ps_if (pt_cmpR op_gt (pe_callB call_len_seq (by rfl) g_len boot_len (pa_cons (pe_f cRis hr (by decide) (paE (takes_of rfl rfl rfl rfl)) (by rfl) (pa_cons (pe_op op_cat (pe_m0 cNames BC.cl hr (by decide) pa0 (pv 0)) (pv 2)) pa_nil)) pa_nil)) (pe_glob (v := .int 12) (by rfl) gMN ⟨_, rfl⟩) (nomark _)) (pss_one (ps_raise rfl (takes_of rfl rfl rfl rfl) (SkE.pmk_own1 PySem.F.excBase_ValueError eMany.xC eMany.gC eMany.kC (raises_own eMany.bC eMany.tC) (by rfl) (pe_joined (.cons pe_str (.cons (pe_fmt (pe_glob (v := .int 12) (by rfl) gMN ⟨_, rfl⟩)) (.cons pe_str .nil))))))) (pss_nil)) (pss_cons (ps_set (i := 3) scPut.nd rfl (.inl rfl) (pe_fld (pv 0) rfl)) (pss_cons (ps_dput (hu_of hr) (pe_fld (pv 0) rfl) (pv 3) (pv 2) rfl) (pss_cons (ps_fld (pv 0) (pe_op op_add (pv 3) pe_int) rfl) (pss_one (ps_ret (pv 3)))))))), ?_⟩
    refine ⟨_, rfl, _, rfl, hN.s.i, ?_⟩
    have h : (∃ xs, HOk H v xs ∧ xs.length ≤ 100 ∧ xs.Nodup ∧ ((tb.length < 30 ∧ (allN (rws tb ++ [xs])).length ≤ 12 ∧ ∀ p H', GrX (fun a => a = b ∨ a = d) H H' → H p = none → Bk C H' b d (tb ++ [(n, p, once xs)]) (n + 1) → Q (.int n) H') ∨
        ((30 ≤ tb.length ∨ 12 < (allN (rws tb ++ [xs])).length) ∧ ∀ H', Gr H H' → E (.ref R.many) none H'))) ∨
        (∃ xs, HOk H v xs ∧ ¬ xs.Nodup ∧ ∀ H', Gr H H' → E (.ref R.row) none H') ∨ (HBadN K H v ∧ ∀ H', Gr H H' → E (.ref R.name) none H') ∨ (HBadR K H v ∧ ∀ H', Gr H H' → E (.ref R.row) none H') := by
      rcases h with ⟨xs, hk, few, nd, q⟩ | ⟨xs, hk, few, nd, q⟩ | h | h | h
      · exact .inl ⟨xs, hk, few, nd, .inl q⟩
      · exact .inl ⟨xs, hk, few, nd, .inr q⟩
      · exact .inr (.inl h)
      · exact .inr (.inr (.inl h))
      · exact .inr (.inr (.inr h))
    rcases h with ⟨xs, hk, few, nd, h⟩ | ⟨xs, hk, nd, q⟩ | ⟨hb, q⟩ | ⟨hb, q⟩
    rotate_left
    · exact .inr (.inl ⟨xs, hk, nd, q⟩)
    · exact .inr (.inr (.inl ⟨hb, q⟩))
    · exact .inr (.inr (.inr ⟨hb, q⟩))
    · refine .inl ⟨xs, hk, nd, fun nm H1 g1 nnm enm => ?_⟩
      have nm1 : Nms xs := hk.choose_spec.2.2.1
      have B1 := B.gr g1
      obtain ⟨dx, eb1⟩ := B1.ob
      refine ⟨_, rfl, b, C, dx, _, _, rfl, eb1, BC.cl, BC.nR, bfl_rows d n, d, _, rfl, B1.dc, _, _, rfl, rfl, _, rfl, ?_⟩
      rw [kvB_len]
      by_cases h30 : tb.length < 30
      · rw [decide_eq_false (show ¬ (tb.length : Int) ≥ 30 by omega)]
        refine iteF ?_
        refine ⟨_, rfl, b, d, tb, n, rfl, B1, b, d, tb, n, rfl, B1, T, fun L H2 g2 nL eL => ?_⟩
        have an12 := T.nms
        refine ⟨_, rfl, _, _, _, _, rfl, rfl, eL, g2.lst enm, ?_, fun c nc => ?_⟩
        · rw [List.length_map, List.length_map]
          have := once_len (xs := xs)
          exact Nat.le_of_lt (small1000 (by omega))
        have g3 : Gr H2 (upd H2 c (.lst ((allN (rws tb)).map V.str ++ (once xs).map V.str))) := Gr.new nc
        have ec : (upd H2 c (.lst ((allN (rws tb)).map V.str ++ (once xs).map V.str))) c = some (.lst ((allN (rws tb) ++ once xs).map V.str)) := by
          rw [upd_same, List.map_append]
        generalize upd H2 c (.lst ((allN (rws tb)).map V.str ++ (once xs).map V.str)) = H3 at g3 ec
        have nmA : Nms (allN (rws tb) ++ once xs) := fun y hy => (List.mem_append.mp hy).elim (T.nmsN y) (once_nms nm1 y)
        have g03 := (g1.trans g2).trans g3
        refine ⟨c, _, rfl, .inl (.inl ec), nms_things nmA, ?_, g03.tabG hN.s.i, .inl ⟨_, rfl, nms_all.mpr nmA, fun r H4 g4 nr er => ?_⟩⟩
        · rw [List.length_map, List.length_append]
          have := once_len (xs := xs)
          omega
        refine ⟨r, _, rfl, .inl (.inl (.inl er)), _, _, rfl, rfl, _, rfl, ?_⟩
        rw [List.length_map, once_two]
        have g04 := g03.trans g4
        by_cases h12 : (allN (rws tb ++ [xs])).length ≤ 12
        · rw [decide_eq_false (show ¬ ((allN (rws tb ++ [xs])).length : Int) > 12 by omega)]
          refine iteF ?_
          have B4 := B.gr g04
          obtain ⟨dy, eb4⟩ := B4.ob
          have enm4 : H4 nm = some (.lst ((once xs).map V.str)) := ((g2.trans g3).trans g4).lst enm
          have nbd := B.ne
          refine ⟨_, rfl, b, C, dy, _, _, rfl, eb4, BC.cl, BC.nN, bfl_next d n, ?_⟩
          refine ⟨_, rfl, _, rfl, b, C, dy, _, _, rfl, eb4, BC.cl, BC.nR, bfl_rows d n, _, rfl, d, _, rfl, DPut.k (k := Sum.inl n) B4.dc (by rw [kvB_len]; exact small1000 (by omega)), ?_⟩
          refine ⟨_, rfl, _, _, rfl, rfl, _, rfl, b, C, dy, _, rfl, (by rw [upd_ne nbd]; exact eb4), BC.cl, BC.nN, (by rw [bfl_eq]; show 2 < 1000; decide), _, rfl, ?_⟩
          rw [kvB_put T.fresh nm (once xs), bfl_put]
          rcases h with ⟨_, _, q⟩ | ⟨h, _⟩
          · refine q nm _ ?_ nnm ⟨⟨dy, upd_same⟩, by rw [upd_ne nbd.symm, upd_same], fun e he => ?_⟩
            · obtain ⟨dz, eb⟩ := B.ob
              refine ((g04.x _).put (.inl (.inr rfl)) fun ps z => ?_).put (.inl (.inl rfl)) fun ps z => ?_
              · rw [B.dc] at z; cases z
              · rw [eb] at z; cases z
            · rcases List.mem_append.mp he with he | he
              · obtain ⟨h1, h2⟩ := B.neb he
                rw [upd_ne h1, upd_ne h2]
                exact B4.own e he
              · rw [List.mem_singleton.mp he]
                obtain ⟨dz, eb⟩ := B.ob
                show upd (upd H4 d _) b _ nm = _
                rw [upd_ne (ne_of_none eb nnm).symm, upd_ne (ne_of_none B.dc nnm).symm]
                exact enm4
          · omega
        · rw [decide_eq_true (show ((allN (rws tb ++ [xs])).length : Int) > 12 by omega)]
          refine iteT ?_
          rcases h with ⟨_, h, _⟩ | ⟨_, q⟩
          · exact absurd h h12
          · refine ⟨_, rfl, by rw [sizeLine_eq]; decide +kernel, .inr ⟨_, rfl, by decide, _, rfl, by rw [sizeLine_eq]; decide +kernel, _, rfl, by rw [sizeLine_eq]; decide +kernel, q _ g04⟩⟩
      · rw [decide_eq_true (show (tb.length : Int) ≥ 30 by omega)]
        refine iteT ?_
        rcases h with ⟨h, _, _⟩ | ⟨_, q⟩
        · exact absurd h h30
        · refine ⟨_, rfl, by rw [sizeLine_eq]; decide +kernel, .inr ⟨_, rfl, by decide, _, rfl, by rw [sizeLine_eq]; decide +kernel, _, rfl, by rw [sizeLine_eq]; decide +kernel, q _ g1⟩⟩
end
end K1
namespace K1
open PySem PySem.Spec PyProof.Rows L2 Gr GxR Srx Skx Dcx
section
variable {P : Program} {w : World} {K : PySem.W.Frag} {mg : Str → Option Value} {base : Heap} {f C : Addr} {fd : FuncData} {p : He.Defn} {N : TabN} {R : ErN}
theorem scTake : FnScope ["self", "number"] ["self", "number"] (defScope m_take) := ⟨rfl, rfl, rfl, by decide +kernel, rfl, by decide +kernel, by decide +kernel⟩
theorem ok_take (F : FnM K "take" "Book.take" m_take f fd) (BC : BkC K mg C) (eNo : ErrC K mg "NoRow" R.no) (g_isinstance : mg "isinstance" = none) (g_int : mg "int" = none) (g_bool : mg "bool" = none) :
    FnOk P w K mg base (L2.CX P w) 1 f fd ["self", "number"] (spTake K C R) := by
  refine F.ok scTake (fun vs H Q E h => ?_) (fun cdv A outer s H vs Q E hr h => ?_)
  · obtain ⟨b, d, tb, n, v, rfl, _⟩ := h
    rfl
  · obtain ⟨b, d, tb, n, v, rfl, B, T, h⟩ := h
    refine ⟨_, pss_cons (ps_if (PW.pt (pw_or (pt_not (pt_val (pe_callB call_isi (by rfl) g_isinstance (by decide +kernel) (pa_cons (pv 1) (pa_cons (pe_bltn (v := .ty "int") (by rfl) g_int (by decide +kernel) rfl) pa_nil))))) (pw_or (pt_val (pe_callB call_isi (by rfl) g_isinstance (by decide +kernel) (pa_cons (pv 1) (pa_cons (pe_bltn (v := .ty "bool") (by rfl) g_bool (by decide +kernel) rfl) pa_nil)))) (pw_or1 (pt_cmp (pc_dnotin (hu_of hr) (pv 1) (pe_fld (pv 0) rfl))))))) (pss_one (ps_raise rfl (takes_of rfl rfl rfl rfl) (SkE.pmk_own1 PySem.F.excBase_ValueError eNo.xC eNo.gC eNo.kC (raises_own eNo.bC eNo.tC) (by rfl) pe_str))) (pss_nil)) (pss_one (ps_ddel (pe_fld (pv 0) rfl) (pv 1))), ?_⟩
    obtain ⟨dx, eb⟩ := B.ob
    rcases h with ⟨k, rfl, hk, q⟩ | ⟨⟨k, rfl, hk⟩ | ⟨t, ty, kt⟩, q⟩
    · refine ⟨_, rfl, _, _, _, _, true, rfl, .ty _, .base (.int k), kit_ty (by decide +kernel), _, rfl, ?_⟩
      refine iteF ⟨_, rfl, _, _, _, _, false, rfl, .ty _, .base (.int k), kit_ty (by decide +kernel), _, rfl, ?_⟩
      refine iteF ⟨_, rfl, _, rfl, b, C, dx, _, _, rfl, eb, BC.cl, BC.nR, bfl_rows d n, d, _, rfl, DGet.k (k := Sum.inl k) B.dc, _, rfl, ?_⟩
      rw [kvB_in, decide_eq_true hk]
      refine iteF ⟨_, rfl, b, C, dx, _, _, rfl, eb, BC.cl, BC.nR, bfl_rows d n, _, rfl, d, _, Sum.inl k, rfl, B.dc, rfl, (by rw [kvB_in, decide_eq_true hk]), ?_⟩
      rw [kvB_drop]
      have nbd := B.ne
      refine q _ (((Gr.refl H).x _).put (.inl rfl) fun ps z => ?_) ⟨⟨dx, by rw [upd_ne nbd]; exact eb⟩, upd_same, fun e he => ?_⟩
      · rw [B.dc] at z; cases z
      · have he := (List.mem_filter.mp he).1
        rw [upd_ne (B.neb he).2]
        exact B.own e he
    · refine ⟨_, rfl, _, _, _, _, true, rfl, .ty _, .base (.int k), kit_ty (by decide +kernel), _, rfl, ?_⟩
      refine iteF ⟨_, rfl, _, _, _, _, false, rfl, .ty _, .base (.int k), kit_ty (by decide +kernel), _, rfl, ?_⟩
      refine iteF ⟨_, rfl, _, rfl, b, C, dx, _, _, rfl, eb, BC.cl, BC.nR, bfl_rows d n, d, _, rfl, DGet.k (k := Sum.inl k) B.dc, _, rfl, ?_⟩
      rw [kvB_in, decide_eq_false hk]
      exact iteT (q H (Gr.refl H))
    · rcases kt with kt | ⟨kt, kb⟩
      · refine ⟨_, rfl, _, _, _, _, false, rfl, .ty _, ty, kit_ty kt, _, rfl, ?_⟩
        exact iteT (q H (Gr.refl H))
      · refine ⟨_, rfl, _, _, _, _, true, rfl, .ty _, ty, kit_ty kt, _, rfl, ?_⟩
        refine iteF ⟨_, rfl, _, _, _, _, true, rfl, .ty _, ty, kit_ty kb, _, rfl, ?_⟩
        exact iteT (q H (Gr.refl H))
abbrev nBRows : List Str := ["self", "number", "row"]
theorem scBRows : FnScope nBRows ["self"] (defScope m_rows) := ⟨rfl, rfl, rfl, by decide +kernel, rfl, by decide +kernel, by decide +kernel⟩
theorem ok_brows (F : FnM K "rows" "Book.rows" m_rows f fd) (BC : BkC K mg C) (g_list : mg "list" = none) : FnOk P w K mg base CX0 1 f fd ["self"] (spBRows C) := by
  refine F.ok scBRows (fun vs H Q E h => ?_) (fun cdv A outer s H vs Q E hr h => ?_)
  · obtain ⟨b, d, tb, n, rfl, _⟩ := h
    rfl
  · obtain ⟨b, d, tb, n, rfl, B, T, q⟩ := h
    refine ⟨_, PSs.nox (pss_one (ps_ret (pe_lock (pe_lc (own := [("number", 1), ("row", 2)]) (g := gTup K 2 (gCons (gName 1) (gCons (gName 2) gNil))) (tt := tYes) rfl scBRows.nd (pi_items (pe_fld (pv 0) rfl)) (blkOk_by (N := nBRows) (sc := defScope m_rows) (by decide +kernel)) (fun _ _ _ _ _ => (pg_tup rfl (pgs_cons (pg_name (i := 1) scBRows.nd rfl (.inl rfl)) (pgs_cons (pg_name (i := 2) scBRows.nd rfl (.inl rfl)) pgs_nil)))) (fun _ _ _ _ _ => pts_nil) (fun _ _ _ _ _ => (pe_tup (pa_cons (pv 1) (pa_cons (pe_callTy (r := rListOf K) call_list_of (by rfl) g_list boot_list (pa_cons (pv 2) pa_nil)) pa_nil)))))))), ?_⟩
    obtain ⟨dx, eb⟩ := B.ob
    have nbd := B.ne
    refine ⟨d, _, B.dc, trivial, fun od => ?_⟩
    have eL : (upd H d (.frz od (.dK (kvB tb)))) d = some (.frz od (.dK (kvB tb))) := upd_same
    have oL : ∀ e ∈ tb, (upd H d (.frz od (.dK (kvB tb)))) e.2.1 = some (.lst (e.2.2.map V.str)) := fun e he => by rw [upd_ne (B.neb he).2]; exact B.own e he
    have freeL : ∀ x, (upd H d (.frz od (.dK (kvB tb)))) x = none → H x = none := fun x hx => by
      by_cases h : x = d
      · rw [h, upd_same] at hx; cases hx
      · rw [upd_ne h] at hx; exact hx
    refine ⟨_, rfl, b, C, dx, _, _, rfl, (by rw [upd_ne nbd]; exact eb), BC.cl, BC.nR, bfl_rows d n, d, od, kvB tb, rfl, eL, fun D nD => ?_⟩
    have hback : ∀ H', Gr (upd H d (.frz od (.dK (kvB tb)))) H' → Gr H (upd H' d (.dK (kvB tb))) := fun H' g => gr_lock B.dc (fun ps z => nomatch z) g
    generalize upd H d (.frz od (.dK (kvB tb))) = HL at eL oL freeL nD hback
    refine lc_it (walk_items (d := d) (o := od) (kvs := kvB tb)) (Qd := _) (fun i H2 => Gr HL H2 ∧ ∃ rs : List Pr1, rs.map (fun r => (r.k, r.r)) = nr (tb.take i) ∧ H2 D = some (.lst (rs.map fun r => V.ref r.t)) ∧ ∀ r ∈ rs, HL r.t = none ∧ HL r.l = none ∧ r.t ≠ D ∧ r.l ≠ D ∧ H2 r.t = some (.tup [.int r.k, .ref r.l]) ∧ H2 r.l = some (.lst (r.r.map V.str)))
      ⟨Gr.new nD, [], rfl, upd_same, fun _ z => absurd z List.not_mem_nil⟩ (fun i H2 _ h => h.1.at_ _ _ eL notbl_frz) (fun i x H2 H3 hi h y => ?_) (fun H2 h => ?_)
    · obtain ⟨g2, rs, er, eD, own⟩ := h
      obtain ⟨TT, ky, vv, rfl, nT, rfl, hk, hv⟩ := y
      rw [kvB_len] at hi
      have hx : tb[i]? = some tb[i] := List.getElem?_eq_getElem hi
      generalize tb[i] = e0 at hx
      have m0 := List.mem_of_getElem? hx
      have hkv : (kvB tb)[i]? = some ((Sum.inl e0.1 : Key), V.ref e0.2.1) := by
        unfold kvB
        rw [List.getElem?_map, hx]
        rfl
      have hk : Option.map (fun kv : Key × V => kV kv.1) (kvB tb)[i]? = some ky := hk
      have hv : Option.map Prod.snd (kvB tb)[i]? = some vv := hv
      rw [hkv] at hk hv
      obtain rfl : V.int e0.1 = ky := Option.some.inj hk
      obtain rfl : V.ref e0.2.1 = vv := Option.some.inj hv
      have g3 : Gr H2 (upd H2 TT (.tup [.int e0.1, .ref e0.2.1])) := Gr.new nT
      refine ⟨TT, _, rfl, .inl (.inl upd_same), rfl, _, _, rfl, _, _, rfl, rfl, rfl, yesIf ?_⟩
      have eD3 := g3.lst eD
      have own3 : ∀ r ∈ rs, HL r.t = none ∧ HL r.l = none ∧ r.t ≠ D ∧ r.l ≠ D ∧ (upd H2 TT (.tup [.int e0.1, .ref e0.2.1])) r.t = some (.tup [.int r.k, .ref r.l]) ∧ (upd H2 TT (.tup [.int e0.1, .ref e0.2.1])) r.l = some (.lst (r.r.map V.str)) := fun r hr => by
        obtain ⟨h1, h2, h3, h4, h5, h6⟩ := own r hr
        exact ⟨h1, h2, h3, h4, g3.tup h5, g3.lst h6⟩
      have gL3 := g2.trans g3
      generalize upd H2 TT (.tup [.int e0.1, .ref e0.2.1]) = H3 at g3 eD3 own3 gL3
      refine ⟨_, rfl, _, rfl, e0.2.1, e0.2.2.map V.str, rfl, .inl (.inl (.inl (gL3.lst (oL e0 m0)))), fun l nl => ⟨(by show 2 ≤ sizeLine; decide), fun t nt => ?_⟩⟩
      have lt : l ≠ t := ne_of_none (show (upd H3 l (.lst (e0.2.2.map V.str))) l = some _ from upd_same) nt
      have gl : Gr H3 (upd (upd H3 l (.lst (e0.2.2.map V.str))) t (.tup [.int e0.1, .ref l])) := (Gr.new nl).trans (Gr.new nt)
      have nt3 : H3 t = none := (Gr.new nl).free nt
      refine ⟨_, gl.lst eD3, ?_, (gL3.trans gl).mut nD, rs ++ [⟨t, e0.1, l, e0.2.2⟩], ?_, ?_, fun r hr => ?_⟩
      · rw [List.length_map]
        have h1 := congrArg List.length er
        rw [List.length_map] at h1
        unfold nr at h1
        rw [List.length_map, List.length_take] at h1
        have := T.few
        exact small1000 (by omega)
      · rw [List.map_append, er]
        unfold nr
        rw [take_map hx]
        rfl
      · rw [upd_same, List.map_append]
        rfl
      · have lD : l ≠ D := (ne_of_none eD3 nl).symm
        have tD : t ≠ D := (ne_of_none eD3 nt3).symm
        rcases List.mem_append.mp hr with hr | hr
        · obtain ⟨h1, h2, h3, h4, h5, h6⟩ := own3 r hr
          exact ⟨h1, h2, h3, h4, by rw [upd_ne h3]; exact gl.tup h5, by rw [upd_ne h4]; exact gl.lst h6⟩
        · rw [List.mem_singleton.mp hr]
          refine ⟨gL3.free nt3, gL3.free nl, tD, lD, by rw [upd_ne tD, upd_same], by rw [upd_ne lD, upd_ne lt, upd_same]⟩
    · obtain ⟨g2, rs, er, eD, own⟩ := h
      rw [kvB_len, List.take_length] at er
      have nDd : D ≠ d := (ne_of_none eL nD).symm
      refine ⟨g2.at_ _ _ eL notbl_frz, q D _ rs (hback H2 g2) ⟨freeL D nD, by rw [upd_ne nDd]; exact eD, fun r hr => ?_⟩ er⟩
      obtain ⟨h1, h2, h3, h4, h5, h6⟩ := own r hr
      exact ⟨freeL _ h1, freeL _ h2, h3, h4, by rw [upd_ne (ne_of_none eL h1).symm]; exact h5, by rw [upd_ne (ne_of_none eL h2).symm]; exact h6⟩
theorem scBLR : FnScope ["self"] ["self"] (defScope m_least_rows) := ⟨rfl, rfl, rfl, by decide +kernel, rfl, by decide +kernel, by decide +kernel⟩
theorem ok_bleastrows (F : FnM K "least_rows" "Book.least_rows" m_least_rows f fd) (BC : BkC K mg C) (cSets : MCalls P w K mg base CX0 1 C "_sets" (spBSets C)) (cLO : Calls P w K mg base CX0 5 "least_of" (spLeast K N.l N.w)) : FnOk P w K mg base CX0 6 f fd ["self"] (spBLeastRows C N) := by
  refine F.ok scBLR (fun vs H Q E h => ?_) (fun cdv A outer s H vs Q E hr h => ?_)
  · obtain ⟨b, d, tb, n, rfl, _⟩ := h
    rfl
  · obtain ⟨b, d, tb, n, rfl, B, T, hN, q⟩ := h
    refine ⟨_, PSs.nox (pss_one (ps_ret (pe_k cLO hr (by decide) (by rfl) (pa_cons (pe_m0 cSets BC.cl hr (by decide) pa0 (pv 0)) pa_nil)))), ?_⟩
    refine ⟨_, rfl, b, d, tb, n, rfl, B, b, d, tb, n, rfl, B, fun L nL => ?_⟩
    have g1 : Gr H (upd H L (.lst (tb.map fun e => V.ref e.2.1))) := Gr.new nL
    refine ⟨L, tb.map fun e => (e.2.1, e.2.2), rfl, .inl (.inl (by rw [upd_same, List.map_map]; rfl)), fun q0 hq0 => ?_, ?_, g1.tabG hN.s.l, g1.tabG hN.s.w, fun p H2 ks g2 T2 e2 => q p H2 ks (g1.trans g2) (T2.from g1) ?_⟩
    · obtain ⟨e, he, rfl⟩ := List.mem_map.mp hq0
      exact ⟨.inl (.inl ((B.gr g1).own e he)), Nat.le_trans (T.rlen (rws_mem he)).2.2 (by decide)⟩
    · rw [List.length_map]
      have := T.few
      omega
    · rw [e2]
      rw [show (tb.map fun e => (e.2.1, e.2.2)).map (fun x => x.2) = rws tb from by rw [List.map_map]; rfl]
      rw [once_all fun r hr => (T.rlen hr).1]
abbrev nBLe : List Str := ["self", "sets", "row"]
theorem scBLe : FnScope nBLe ["self"] (defScope m_least) := ⟨rfl, rfl, rfl, by decide +kernel, rfl, by decide +kernel, by decide +kernel⟩
theorem ok_bleast (F : FnM K "least" "Book.least" m_least f fd) (BC : BkC K mg C) (cLR : MCalls P w K mg base CX0 6 C "least_rows" (spBLeastRows C N)) (cGr : Calls P w K mg base CX0 6 "grown" (spGrown K N)) : FnOk P w K mg base CX0 7 f fd ["self"] (spBLeast C N) := by
  refine F.ok scBLe (fun vs H Q E h => ?_) (fun cdv A outer s H vs Q E hr h => ?_)
  · obtain ⟨b, d, tb, n, rfl, _⟩ := h
    rfl
  · obtain ⟨b, d, tb, n, rfl, B, T, hN, q⟩ := h
    refine ⟨_, PSs.nox (pss_cons (ps_set (i := 1) scBLe.nd rfl (.inl rfl) (pe_lst (pa_cons (pe_lst pa_nil) pa_nil))) (pss_cons (ps_for PassesOwn.never rfl (pi_list (pe_m0 cLR BC.cl hr (by decide) pa0 (pv 0))) (pg_name (i := 2) scBLe.nd rfl (.inl rfl)) (pss_one (ps_set (i := 1) scBLe.nd rfl (.inl rfl) (pe_k cGr hr (by decide) (by rfl) (pa_cons (pv 1) (pa_cons (pv 2) pa_nil)))))) (pss_one (ps_ret (pv 1))))), ?_⟩
    have one : 1 ≤ sizeLine := by rw [sizeLine_eq]; omega
    refine ⟨Nat.zero_le _, fun e0 ne0 => ⟨one, fun A0 nA0 => ?_⟩⟩
    have T0 := Told.one ne0 nA0
    have g3 : Gr H (upd (upd H e0 (.lst [])) A0 (.lst [V.ref e0])) := (Gr.new ne0).trans (Gr.new nA0)
    generalize upd (upd H e0 (.lst [])) A0 (.lst [V.ref e0]) = H1 at g3 T0
    refine ⟨_, rfl, b, d, tb, n, rfl, B.gr g3, b, d, tb, n, rfl, B.gr g3, T, hN.gr g3, fun L H2 ks g2 T2 e2 => ?_⟩
    have Lin : ∀ r ∈ ks.map (·.2), Ris r ∧ Nms r ∧ r.length ≤ 12 ∧ ∀ y ∈ r, y ∈ allN (rws tb) := by
      intro r hr
      rw [e2] at hr
      have m1 := least_sub (fun x hx => (T.rlen hx).1) hr
      exact ⟨(T.rlen m1).1, (T.rlen m1).2.1, (T.rlen m1).2.2, row_in m1⟩
    refine ⟨L, rfl, ⟨_, .inl (.inl T2.at_)⟩, for_list (K := K) (xs := ks.map fun q : Addr × List Str => V.ref q.1) (fun i σ H3 => Gr H2 H3 ∧ ∃ (A : Addr) (as : List (Addr × List Str)) (v2 : Option V), Told H H3 A as ∧ as.map (·.2) = grown ((ks.map (·.2)).take i) ∧ σ = [some (.ref b), some (.ref A), v2]) ⟨Gr.refl H2, A0, _, none, (T0.gr g2), rfl, rfl⟩ (fun i σ H3 _ h => .inl (.inl (h.1.lst T2.at_))) (fun i x σ H3 hx h => ?_) (fun σ H3 h => ?_)⟩
    · obtain ⟨g23, A, as, v2, TA, ea, rfl⟩ := h
      obtain ⟨k0, hk0, rfl⟩ := get_map hx
      have mk := List.mem_of_getElem? hk0
      obtain ⟨rR, rN, rl, rin⟩ := Lin k0.2 (List.mem_map.mpr ⟨k0, mk, rfl⟩)
      have hin : ∀ r ∈ (ks.map (·.2)).take i, ∀ y ∈ r, y ∈ allN (rws tb) := fun r hr => (Lin r (List.mem_of_mem_take hr)).2.2.2
      have gl := grown_len (ris_allN _) hin
      have as2 : as.length ≤ 4096 := by
        have h1 := congrArg List.length ea
        rw [List.length_map] at h1
        rw [h1]
        exact Nat.le_trans gl (Nat.pow_le_pow_right (by decide) T.nms : 2 ^ _ ≤ 2 ^ 12)
      have g03 := (g3.trans g2).trans g23
      refine ⟨_, rfl, _, rfl, A, .ref k0.1, as, k0.2, rfl, TA.ll, fun q0 hq0 => ?_, by omega, ⟨k0.1, rfl, g23.lst (T2.own k0 mk).2.2, rN, by omega⟩, rR.nodup, rl, (hN.s.gr g03), fun p H4 ps g4 T4 e4 => ⟨g23.trans g4, p, ps, _, T4.from g03, ?_, rfl⟩⟩
      · have m1 : q0.2 ∈ grown ((ks.map (·.2)).take i) := by rw [← ea]; exact List.mem_map.mpr ⟨q0, hq0, rfl⟩
        obtain ⟨h1, h2, h3⟩ := grown_in (ris_allN _) hin m1
        have := T.nms
        exact ⟨h1, by omega⟩
      · rw [e4, ea, ← grown_snoc, ← List.map_take, ← List.map_take, take_map hk0]
    · obtain ⟨g23, A, as, v2, TA, ea, rfl⟩ := h
      rw [List.length_map, List.take_of_length_le (by rw [List.length_map]; exact Nat.le_refl _)] at ea
      refine ⟨_, rfl, q A H3 as ((g3.trans g2).trans g23) TA ?_⟩
      rw [ea, e2]
      have z := grown_least_rows (rws tb)
      rw [once_all fun r hr => (T.rlen hr).1] at z
      exact z
theorem scBFe : FnScope ["self", "sets"] ["self"] (defScope m_fewest) := ⟨rfl, rfl, rfl, by decide +kernel, rfl, by decide +kernel, by decide +kernel⟩
theorem ok_bfewest (F : FnM K "fewest" "Book.fewest" m_fewest f fd) (BC : BkC K mg C) (cLe : MCalls P w K mg base CX0 7 C "least" (spBLeast C N)) (g_len : mg "len" = none) : FnOk P w K mg base CX0 8 f fd ["self"] (spBFewest C N) := by
  refine F.ok scBFe (fun vs H Q E h => ?_) (fun cdv A outer s H vs Q E hr h => ?_)
  · obtain ⟨b, d, tb, n, rfl, _⟩ := h
    rfl
  · obtain ⟨b, d, tb, n, rfl, B, T, hN, q⟩ := h
    refine ⟨_, PSs.nox (pss_cons (ps_set (i := 1) scBFe.nd rfl (.inl rfl) (pe_m0 cLe BC.cl hr (by decide) pa0 (pv 0))) (pss_one (ps_ret (pe_ifExp (pt_truth (pv 1) (by intro _; rfl)) (pe_callB call_len_seq (by rfl) g_len boot_len (pa_cons (pe_ix ix_list (pv 1) pe_int (fun _ _ => rfl)) pa_nil)) pe_non)))), ?_⟩
    refine ⟨_, rfl, b, d, tb, n, rfl, B, b, d, tb, n, rfl, B, T, hN, fun L H2 ks g2 T2 e2 => ?_⟩
    have z := q H2 g2
    unfold fewV at z
    rw [← e2] at z
    refine ⟨_, rfl, _, .inl ⟨_, .inl (.inl T2.at_), rfl⟩, ?_⟩
    cases ks with
    | nil => exact iteF z
    | cons k0 r =>
      refine iteT ⟨_, rfl, L, _, _, _, rfl, rfl, .inl (.inl T2.at_), atI_nat (j := 0) (v := V.ref k0.1) rfl, k0.1, _, rfl, .inl (.inl (.inl (T2.own k0 List.mem_cons_self).2.2)), ?_⟩
      rw [List.length_map]
      exact z
end
end K1
namespace K1
open PySem PySem.Spec PyProof.Rows L2 Gr GxR Srx Skx Dcx
section
variable {P : Program} {w : World} {K : PySem.W.Frag} {mg : Str → Option Value} {base : Heap} {f C : Addr} {fd : FuncData} {p : He.Defn} {N : TabN} {R : ErN}
abbrev nMetBy : List Str := ["self", "one", "row"]
theorem scMetBy : FnScope nMetBy ["self", "one"] (defScope m_met_by) := ⟨rfl, rfl, rfl, by decide +kernel, rfl, by decide +kernel, by decide +kernel⟩
theorem ok_metby (F : FnM K "_met_by" "Book._met_by" m_met_by (He.fAd K p) fd) (TB : Tb K base mg p) (eT : (He.cT K p).2 = N.b) (BC : BkC K mg C) (cSets : MCalls P w K mg base CX0 1 C "_sets" (spBSets C)) (cMe : Calls P w K mg base CX0 1 "meets_sets" (spMeets K N.m)) (g_all : mg "all" = none) :
    FnOk P w K mg base CX0 4 (He.fAd K p) fd ["self", "one"] (spBMetBy K C N) := by
  refine okC F scMetBy (fun vs H Q E h => ?_) (fun A outer s H vs Q E hr h => ?_)
  · obtain ⟨b, d, tb, n, a, xs, rfl, _⟩ := h
    rfl
  · obtain ⟨b, d, tb, n, a, xs, rfl, B, T, hN, ha, q⟩ := h
    have hT : TabG H (He.cT K p).2 := eT ▸ hN.b
    refine ⟨_, PSs.nox (pss_one (ps_ret (Gx.pe_all (own := [("row", 2)]) (gt := gName 2) (tt := tYes) hr rfl scMetBy.nd (by rfl) g_all TB rfl (blkOk_by (N := nMetBy) (sc := defScope m_met_by) (by decide +kernel)) (Gx.gxs_by (by decide +kernel)) (pi_list (pe_m0 cSets BC.cl hr (by decide) pa0 (pv 0))) (fun _ _ _ _ _ _ => (pg_name (i := 2) scMetBy.nd rfl (.inl rfl))) (fun _ _ _ _ _ _ => pts_nil) (fun _ _ _ _ _ _ => (pe_k cMe (Gx.room_gx hr _) (by decide) (by rfl) (pa_cons (pv 1) (pa_cons (pv 2) pa_nil))))))), ?_⟩
    refine ⟨_, rfl, b, d, tb, n, rfl, B, b, d, tb, n, rfl, B, fun L nL => ⟨L, rfl, ⟨_, .inl (.inl upd_same)⟩, ?_⟩⟩
    have g1 : Gr H (upd H L (.lst (tb.map fun e => V.ref e.2.1))) := Gr.new nL
    have eL : (upd H L (.lst (tb.map fun e => V.ref e.2.1))) L = some (.lst (tb.map fun e => V.ref e.2.1)) := upd_same
    generalize upd H L (.lst (tb.map fun e => V.ref e.2.1)) = H1 at g1 eL
    refine Gx.gx_list (xs := tb.map fun e : Int × Addr × List Str => V.ref e.2.1) (g1.tabG hT) (fun i H2 => Gr H1 H2 ∧ mtAll xs ((rws tb).take i) = true) (fun H2 t2 => ⟨Gr.tabbed (g1.tabG hT) t2, rfl⟩) (fun i H2 _ h => .inl (.inl (h.1.lst eL))) (fun i x H2 Nx nx hx h => ?_) (fun H2 h => ?_)
    · obtain ⟨g2, hn⟩ := h
      obtain ⟨e0, he0, rfl⟩ := get_map hx
      have m0 := List.mem_of_getElem? he0
      have g02 := g1.trans g2
      have etk : mtAll xs ((rws tb).take (i + 1)) = (mtAll xs ((rws tb).take i) && mt xs e0.2.2) := by
        unfold mtAll rws
        rw [← List.map_take, take_map he0, List.all_append, ← List.map_take]
        simp
      refine ⟨rfl, yesIf ?_⟩
      refine ⟨_, rfl, _, rfl, a, e0.2.1, xs, e0.2.2, rfl, .inl (.inl (g02.lst ha)), .inl (.inl ((B.gr g02).own e0 m0)), g02.tabG hN.s.m, fun H3 g3 => ⟨_, rfl, fun e => ?_, fun e => nx _ ⟨g2.trans g3, ?_⟩⟩⟩
      · have z := q H3 (g02.trans g3)
        rw [show mtAll xs (rws tb) = false from by
          rw [Bool.eq_false_iff]
          intro hh
          have := List.all_eq_true.mp hh _ (rws_mem m0)
          rw [show mt xs e0.2.2 = false from e] at this
          cases this] at z
        exact z
      · rw [etk, hn, show mt xs e0.2.2 = true from Bool.ne_false_iff.mp e]
        rfl
    · have hn := h.2
      rw [List.length_map, show (rws tb).take tb.length = rws tb from List.take_of_length_le (by unfold rws; rw [List.length_map]; exact Nat.le_refl _)] at hn
      have z := q H2 (g1.trans h.1)
      rw [hn] at z
      exact z
theorem scBMe : FnScope ["self", "names"] ["self", "names"] (defScope m_meets) := ⟨rfl, rfl, rfl, by decide +kernel, rfl, by decide +kernel, by decide +kernel⟩
theorem ok_bmeets (F : FnM K "meets" "Book.meets" m_meets f fd) (BC : BkC K mg C) (cNF : Calls P w K mg base (L2.CX P w) 3 "names_from" (spNamesFrom K N.i R)) (cMB : MCalls P w K mg base CX0 4 C "_met_by" (spBMetBy K C N)) :
    FnOk P w K mg base (L2.CX P w) 5 f fd ["self", "names"] (spBMeets K C N R) := by
  refine F.ok scBMe (fun vs H Q E h => ?_) (fun cdv A outer s H vs Q E hr h => ?_)
  · obtain ⟨b, d, tb, n, v, rfl, _⟩ := h
    rfl
  · obtain ⟨b, d, tb, n, v, rfl, B, T, hN, h⟩ := h
    refine ⟨_, pss_one (ps_ret (pe_m cMB BC.cl hr (by decide) pa0 (pv 0) (pa_cons (pe_f cNF hr (by decide) (paE (takes_of rfl rfl rfl rfl)) (by rfl) (pa_cons (pv 1) pa_nil)) pa_nil))), ?_⟩
    refine ⟨_, rfl, b, d, tb, n, rfl, B, _, rfl, _, rfl, hN.s.i, ?_⟩
    rcases h with ⟨xs, hk, q⟩ | ⟨hb, q⟩ | ⟨hb, q⟩
    · refine .inl ⟨xs, hk, fun p H1 g1 np ep => ⟨b, d, tb, n, p, once xs, rfl, B.gr g1, T, hN.gr g1, ep, fun H2 g2 => ?_⟩⟩
      rw [mtAll_once_l]
      exact q H2 (g1.trans g2)
    · exact .inr (.inl ⟨hb, q⟩)
    · exact .inr (.inr ⟨hb, q⟩)
theorem scBMg : FnScope ["self", "names", "asked"] ["self", "names"] (defScope m_meeting) := ⟨rfl, rfl, rfl, by decide +kernel, rfl, by decide +kernel, by decide +kernel⟩
theorem ok_bmeeting (F : FnM K "_meeting" "Book._meeting" m_meeting f fd) (BC : BkC K mg C) (cNF : Calls P w K mg base (L2.CX P w) 3 "names_from" (spNamesFrom K N.i R)) (cMB : MCalls P w K mg base CX0 4 C "_met_by" (spBMetBy K C N)) (eMeet : ErrC K mg "NoMeet" R.meet) :
    FnOk P w K mg base (L2.CX P w) 5 f fd ["self", "names"] (spBMeeting K C N R) := by
  refine F.ok scBMg (fun vs H Q E h => ?_) (fun cdv A outer s H vs Q E hr h => ?_)
  · obtain ⟨b, d, tb, n, v, rfl, _⟩ := h
    rfl
  · obtain ⟨b, d, tb, n, v, rfl, B, T, hN, h⟩ := h
    refine ⟨_, pss_cons (ps_set (i := 2) scBMg.nd rfl (.inl rfl) (pe_f cNF hr (by decide) (paE (takes_of rfl rfl rfl rfl)) (by rfl) (pa_cons (pv 1) pa_nil))) (pss_cons (ps_if (pt_not (pt_val (pe_m cMB BC.cl hr (by decide) pa0 (pv 0) (pa_cons (pv 2) pa_nil)))) (pss_one (ps_raise rfl (takes_of rfl rfl rfl rfl) (SkE.pmk_own1 PySem.F.excBase_ValueError eMeet.xC eMeet.gC eMeet.kC (raises_own eMeet.bC eMeet.tC) (by rfl) pe_str))) (pss_nil)) (pss_one (ps_ret (pv 2)))), ?_⟩
    refine ⟨_, rfl, _, rfl, hN.s.i, ?_⟩
    rcases h with ⟨xs, hk, hm, q⟩ | ⟨xs, hk, hm, q⟩ | ⟨hb, q⟩ | ⟨hb, q⟩
    · refine .inl ⟨xs, hk, fun p H1 g1 np ep => ⟨_, rfl, b, d, tb, n, rfl, B.gr g1, _, rfl, b, d, tb, n, p, once xs, rfl, B.gr g1, T, hN.gr g1, ep, fun H2 g2 => ⟨_, rfl, ?_⟩⟩⟩
      rw [mtAll_once_l, hm]
      exact iteF ⟨_, rfl, q p H2 (g1.trans g2) np (g2.lst ep)⟩
    · refine .inl ⟨xs, hk, fun p H1 g1 np ep => ⟨_, rfl, b, d, tb, n, rfl, B.gr g1, _, rfl, b, d, tb, n, p, once xs, rfl, B.gr g1, T, hN.gr g1, ep, fun H2 g2 => ⟨_, rfl, ?_⟩⟩⟩
      rw [mtAll_once_l, hm]
      exact iteT (q H2 (g1.trans g2))
    · exact .inr (.inl ⟨hb, q⟩)
    · exact .inr (.inr ⟨hb, q⟩)
end
end K1
namespace K1
open PySem PySem.Spec PyProof.Rows L2 Gr GxR Srx Skx Dcx
section
variable {P : Program} {w : World} {K : PySem.W.Frag} {mg : Str → Option Value} {base : Heap} {f C : Addr} {fd : FuncData} {p : He.Defn} {N : TabN} {R : ErN}
theorem scNameFrom : FnScope ["thing"] ["thing"] (defScope s_name_from) := ⟨rfl, rfl, rfl, by decide +kernel, rfl, by decide +kernel, by decide +kernel⟩
theorem ok_name_from (F : FnP K "name_from" s_name_from f fd) (cIs : Calls P w K mg base CX0 1 "is_name" (spIsName K N.i)) (eName : ErrC K mg "BadName" R.name) (gM : ∃ t, mg "MOST_LETTERS" = some (.int 8 t)) : FnOk P w K mg base (L2.CX P w) 2 f fd ["thing"] (spNameFrom K N.i R) := by
  obtain ⟨tM, gM⟩ := gM
  refine F.ok scNameFrom (fun vs H Q E h => ?_) (fun cdv A outer s H vs Q E hr h => ?_)
  · obtain ⟨v, rfl, _⟩ := h
    rfl
  · obtain ⟨v, rfl, th, hT, h⟩ := h
    refine ⟨_, pss_cons (ps_if (pt_not (pt_val (pe_k cIs hr (by decide) (by rfl) (pa_cons (pv 0) pa_nil)))) (pss_one (ps_raise rfl (takes_of rfl rfl rfl rfl) (SkE.pmk_own1 PySem.F.excBase_ValueError eName.xC eName.gC eName.kC (raises_own eName.bC eName.tC) (by rfl) (pe_joined (.cons pe_str (.cons (pe_fmt (pe_glob (v := .int 8) (by rfl) gM ⟨_, rfl⟩)) (.cons pe_str .nil))))))) (pss_nil)) (pss_one (ps_ret (pv 0))), ?_⟩
    refine ⟨_, rfl, v, rfl, th, hT, fun H1 g1 => ⟨_, rfl, ?_⟩⟩
    rcases h with ⟨e, q⟩ | ⟨e, q⟩
    · rw [e]
      exact iteF ⟨_, rfl, q H1 g1⟩
    · rw [e]
      refine iteT ⟨_, rfl, by rw [sizeLine_eq]; decide +kernel, .inr ⟨_, rfl, by decide, _, rfl, by rw [sizeLine_eq]; decide +kernel, _, rfl, by rw [sizeLine_eq]; decide +kernel, q _ g1⟩⟩
abbrev nBookOf : List Str := ["rows", "book", "row"]
theorem scBookOf : FnScope nBookOf ["rows"] (defScope s_book_of) := ⟨rfl, rfl, rfl, by decide +kernel, rfl, by decide +kernel, by decide +kernel⟩
theorem ok_book_of (F : FnP K "_book_of" s_book_of f fd) (BC : BkC K mg C) (cMk : MkB P w K mg base C) (cPut : MCalls P w K mg base (L2.CX P w) 5 C "put" (spPut K C N R)) : FnOk P w K mg base (L2.CX P w) 6 f fd ["rows"] (spBookOf C N R) := by
  refine F.ok scBookOf (fun vs H Q E h => ?_) (fun cdv A outer s H vs Q E hr h => ?_)
  · obtain ⟨a, ps, rfl, _⟩ := h
    rfl
  · obtain ⟨a, ps, rfl, lA, hrow, few, hN, h⟩ := h
    refine ⟨_, pss_cons (ps_set (i := 1) scBookOf.nd rfl (.inl rfl) (pe_new cMk BC hr (by decide) (by rfl))) (pss_cons (ps_for (passes_of rfl) rfl (pi_list (pv 0)) (pg_name (i := 2) scBookOf.nd rfl (.inl rfl)) (pss_one (ps_expr (pe_m cPut BC.cl hr (by decide) (paE (takes_of rfl rfl rfl rfl)) (pv 1) (pa_cons (pv 2) pa_nil))))) (pss_one (ps_ret (pv 1)))), ?_⟩
    intro b d H1 g1 nb ndd B1
    refine ⟨_, rfl, a, rfl, ⟨_, .inl (.inl (lA.gr g1).at_)⟩, for_list (K := K) (xs := ps.map fun q : Addr × List Str => V.ref q.1) (fun i σ H2 => Gr H H2 ∧ ∃ (tb : Tb1) (v : Option V), NewB C H H2 b d tb ((ps.take i).map (·.2)) ∧ σ = [some (.ref a), some (.ref b), v]) ⟨g1, [], none, ⟨nb, ndd, B1, Tok.nil, rfl, fun _ z => absurd z List.not_mem_nil⟩, rfl⟩ (fun i σ H2 _ h => .inl (.inl (lA.gr h.1).at_)) (fun i x σ H2 hx h => ?_) (fun σ H2 h => ?_)⟩
    · obtain ⟨g2, tb, v, NB, rfl⟩ := h
      obtain ⟨q0, hq0, rfl⟩ := get_map hx
      have m0 := List.mem_of_getElem? hq0
      have hi : i < ps.length := (List.getElem?_eq_some_iff.mp hq0).1
      obtain ⟨rn, rd, rl⟩ := hrow q0.2 (List.mem_map.mpr ⟨q0, m0, rfl⟩)
      have el := (lA.gr g2).own q0 m0
      have len : ((ps.take i).map (·.2)).length = i := by rw [List.length_map, List.length_take]; omega
      have tlen : tb.length = i := by
        have h1 := congrArg List.length NB.rows
        unfold nr numd at h1
        rw [List.length_map, List.length_mapIdx, List.length_map, len] at h1
        exact h1
      have eN : allN (rws tb ++ [q0.2]) = allN ((ps.take (i + 1)).map (·.2)) := by
        rw [NB.rws, ← allN_once, ← List.map_singleton (f := once), ← List.map_append, allN_map_once, take_map hq0]
      refine ⟨_, rfl, b, d, tb, _, rfl, NB.bk, _, rfl, b, d, tb, _, .ref q0.1, rfl, NB.bk, NB.ok, hN.gr g2, ?_⟩
      by_cases hok : tb.length < 30 ∧ (allN (rws tb ++ [q0.2])).length ≤ 12
      · refine .inl ⟨q0.2, ⟨q0.1, rfl, el, rn, by omega⟩, rl, rd, hok.1, hok.2, fun p H4 g4 np B4 => ⟨GrX.young g2 g4 (fun z hz => ?_), tb ++ [((((ps.take i).map (·.2)).length : Int), p, once q0.2)], _, ⟨nb, ndd, ?_, ?_, ?_, fun e he => (List.mem_append.mp he).elim (NB.fresh e) fun he => by rw [List.mem_singleton.mp he]; exact g2.free np⟩, rfl⟩⟩
        · rcases hz with rfl | rfl
          · exact nb
          · exact ndd
        · rw [take_map hq0, List.length_append]
          exact B4
        · rw [take_map hq0, List.length_append]
          exact NB.ok.put rn hok.1 hok.2 p
        · rw [nr_snoc, NB.rows, take_map hq0, List.map_append]
          show _ = numd (_ ++ [once q0.2])
          rw [numd_snoc, List.length_map (f := once)]
      · refine .inr (.inl ⟨q0.2, ⟨q0.1, rfl, el, rn, by omega⟩, rl, rd, by omega, fun H4 g4 => ?_⟩)
        rcases h with ⟨RO, _⟩ | ⟨_, q⟩
        · refine absurd ⟨?_, ?_⟩ hok
          · have := RO.few
            rw [List.length_map] at this
            omega
          · rw [eN]
            exact Nat.le_trans (allN_mono fun r hr => ((List.take_sublist (i + 1) ps).map _).subset hr) RO.wide
        · exact q H4 (g2.trans g4)
    · obtain ⟨g2, tb, v, NB, rfl⟩ := h
      rw [List.length_map, List.take_length] at NB
      rcases h with ⟨_, q⟩ | ⟨nRO, _⟩
      · exact ⟨_, rfl, q b d H2 tb g2 NB⟩
      · refine absurd ⟨hrow, ?_, ?_⟩ nRO
        · have h1 := NB.ok.few
          have h2 := congrArg List.length NB.rows
          unfold nr numd at h2
          rw [List.length_map, List.length_mapIdx, List.length_map] at h2
          omega
        · have h1 := NB.ok.nms
          rw [NB.rws, allN_map_once] at h1
          exact h1
end
end K1
namespace K1
open PySem PySem.Spec PyProof.Rows L2 Gr GxR Srx Skx Dcx
section
variable {P : Program} {w : World} {K : PySem.W.Frag} {mg : Str → Option Value} {base : Heap} {f C : Addr} {fd : FuncData} {p : He.Defn} {N : TabN} {R : ErN}
abbrev nStruck : List Str := ["self", "name", "gone", "row", "one"]
theorem scStruck : FnScope nStruck ["self", "name"] (defScope m_struck) := ⟨rfl, rfl, rfl, by decide +kernel, rfl, by decide +kernel, by decide +kernel⟩
theorem ok_struck (F : FnM K "struck" "Book.struck" m_struck f fd) (BC : BkC K mg C) (cNm : Calls P w K mg base (L2.CX P w) 2 "name_from" (spNameFrom K N.i R)) (cBO : Calls P w K mg base (L2.CX P w) 6 "_book_of" (spBookOf C N R)) (cSets : MCalls P w K mg base CX0 1 C "_sets" (spBSets C)) :
    FnOk P w K mg base (L2.CX P w) 7 f fd ["self", "name"] (spStruck K C N R strike) := by
  refine F.ok scStruck (fun vs H Q E h => ?_) (fun cdv A outer s H vs Q E hr h => ?_)
  · obtain ⟨b, d, tb, n, v, rfl, _⟩ := h
    rfl
  · obtain ⟨b, d, tb, n, v, rfl, B, T, hN, th, h⟩ := h
    refine ⟨_, pss_cons (ps_set (i := 2) scStruck.nd rfl (.inr rfl) (pe_f cNm hr (by decide) (paE (takes_of rfl rfl rfl rfl)) (by rfl) (pa_cons (pv 1) pa_nil)))
      (pss_one (ps_ret (pe_f cBO hr (by decide) (paE (takes_of rfl rfl rfl rfl)) (by rfl) (pa_cons (pe_lc (own := [("row", 3)]) (g := gName 3) (tt := tYes) rfl scStruck.nd (pi_list (pe_m0 cSets BC.cl hr (by decide) pa0 (pv 0))) (blkOk_by (N := nStruck) (sc := defScope m_struck) (by decide +kernel))
        (fun _ _ _ _ _ => pg_name (i := 3) scStruck.nd rfl (.inl rfl)) (fun _ _ _ _ _ => pts_nil)
        (fun _ _ _ _ _ => pe_lc (own := [("one", 4)]) (g := gName 4) (wi := iList K (tVar 3)) rfl scStruck.nd (pi_list (pv 3)) (blkOk_by (N := nStruck) (sc := relS (stScope2 m_struck) (defScope m_struck)) (by decide +kernel))
          (fun _ _ _ _ _ => pg_name (i := 4) scStruck.nd rfl (.inl rfl)) (fun _ _ _ _ _ => pts_one (pt_cmpR op_ne (pv 4) (pv 2) (nomark _))) (fun _ _ _ _ _ => pv 4))) pa_nil)))), ?_⟩
    refine ⟨_, rfl, v, rfl, th, hN.s.i, ?_⟩
    rcases h with ⟨x, rfl, nx, q⟩ | ⟨e, q⟩
    rotate_left
    · exact .inr ⟨e, q⟩
    refine .inl ⟨nx, fun H1 g1 => ?_⟩
    have B1 := B.gr g1
    refine ⟨_, rfl, b, d, tb, n, rfl, B1, b, d, tb, n, rfl, B1, fun L nL => ⟨L, rfl, ⟨_, .inl (.inl upd_same)⟩, fun D nD => ?_⟩⟩
    have g2 : Gr H1 (upd H1 L (.lst (tb.map fun e => V.ref e.2.1))) := Gr.new nL
    have eL : (upd H1 L (.lst (tb.map fun e => V.ref e.2.1))) L = some (.lst ((tb.map fun e => (e.2.1, e.2.2)).map fun q => V.ref q.1)) := by
      rw [upd_same, List.map_map]
      rfl
    have B2 := B1.gr g2
    generalize upd H1 L (.lst (tb.map fun e => V.ref e.2.1)) = H2 at g2 eL B2 nD
    have few := T.few
    refine lc_fresh3 (K := K) (ps0 := tb.map fun e => (e.2.1, e.2.2)) (fun r => r.filter fun y => decide (y ≠ x)) (.inl (.inl eL)) ?_ nD (fun _ => rfl) (fun q0 hq0 H4 Q' g4 hq => ?_) (fun H3 ps g3 T3 e3 => ?_)
    · rw [List.length_map]
      exact small1000 (by omega)
    · obtain ⟨e, he, rfl⟩ := List.mem_map.mp hq0
      have rl := (T.rlen (rws_mem he)).2.2
      refine ⟨_, rfl, e.2.1, rfl, ⟨_, .inl (.inl ((B2.gr g4).own e he))⟩, fun D2 nD2 => lc_filtT (K := K) (fun y => decide (y ≠ x)) (.inl (.inl ((B2.gr g4).own e he))) (small1000 (by omega)) nD2 (fun _ => rfl) (fun _ => rfl) (fun y hy H5 Qb g5 hb => ?_) (fun H5 g5 e5 => hq D2 H5 g5 nD2 e5)⟩
      refine ⟨_, rfl, _, rfl, rfl, _, rfl, ?_⟩
      rw [ne_strB]
      exact hb H5 (Gr.refl H5)
    · have e3' : ps.map (·.2) = strike x (rws tb) := by
        rw [e3, ← tb_map]
        unfold strike
        simp only [List.map_map, Function.comp_def]
      have RO : RowsOk (ps.map (·.2)) := by
        rw [e3']
        refine rows_facts T (by rw [strike, List.length_map, rws_len]; exact few) fun r hr => ?_
        obtain ⟨r0, h0, rfl⟩ := List.mem_map.mp hr
        exact ⟨r0, h0, List.filter_sublist⟩
      have pl : ps.length ≤ 1000 := by
        have h1 := RO.few
        rw [List.length_map] at h1
        omega
      refine ⟨D, ps, rfl, T3.ll, fun r hr => RO.row r hr, pl, hN.gr ((g1.trans g2).trans g3), .inl ⟨RO, fun b' d' H' tb' g' NB => ?_⟩⟩
      have g0 := (g1.trans g2).trans g3
      rw [e3'] at NB
      exact q b' d' H' tb' (g0.trans g') (NB.from g0)
abbrev nWithout : List Str := ["self", "name", "gone", "row"]
theorem scWithout : FnScope nWithout ["self", "name"] (defScope m_without) := ⟨rfl, rfl, rfl, by decide +kernel, rfl, by decide +kernel, by decide +kernel⟩
theorem ok_without (F : FnM K "without" "Book.without" m_without f fd) (BC : BkC K mg C) (cNm : Calls P w K mg base (L2.CX P w) 2 "name_from" (spNameFrom K N.i R)) (cBO : Calls P w K mg base (L2.CX P w) 6 "_book_of" (spBookOf C N R)) (cSets : MCalls P w K mg base CX0 1 C "_sets" (spBSets C)) :
    FnOk P w K mg base (L2.CX P w) 7 f fd ["self", "name"] (spStruck K C N R away) := by
  refine F.ok scWithout (fun vs H Q E h => ?_) (fun cdv A outer s H vs Q E hr h => ?_)
  · obtain ⟨b, d, tb, n, v, rfl, _⟩ := h
    rfl
  · obtain ⟨b, d, tb, n, v, rfl, B, T, hN, th, h⟩ := h
    refine ⟨_, pss_cons (ps_set (i := 2) scWithout.nd rfl (.inr rfl) (pe_f cNm hr (by decide) (paE (takes_of rfl rfl rfl rfl)) (by rfl) (pa_cons (pv 1) pa_nil))) (pss_one (ps_ret (pe_f cBO hr (by decide) (paE (takes_of rfl rfl rfl rfl)) (by rfl) (pa_cons (pe_lc (own := [("row", 3)]) (g := gName 3) rfl scWithout.nd (pi_list (pe_m0 cSets BC.cl hr (by decide) pa0 (pv 0))) (blkOk_by (N := nWithout) (sc := defScope m_without) (by decide +kernel)) (fun _ _ _ _ _ => (pg_name (i := 3) scWithout.nd rfl (.inl rfl))) (fun _ _ _ _ _ => pts_one (pt_cmpR (r := rIn K true) op_notIn_seq (pv 2) (pv 3) rfl)) (fun _ _ _ _ _ => (pv 3))) pa_nil)))), ?_⟩
    refine ⟨_, rfl, v, rfl, th, hN.s.i, ?_⟩
    rcases h with ⟨x, rfl, nx, q⟩ | ⟨e, q⟩
    rotate_left
    · exact .inr ⟨e, q⟩
    refine .inl ⟨nx, fun H1 g1 => ?_⟩
    have B1 := B.gr g1
    have few := T.few
    refine ⟨_, rfl, b, d, tb, n, rfl, B1, b, d, tb, n, rfl, B1, fun L nL => ⟨L, rfl, ⟨_, .inl (.inl upd_same)⟩, fun D nD => ?_⟩⟩
    have g2 : Gr H1 (upd H1 L (.lst (tb.map fun e => V.ref e.2.1))) := Gr.new nL
    have eL : (upd H1 L (.lst (tb.map fun e => V.ref e.2.1))) L = some (.lst ((tb.map fun e => (e.2.1, e.2.2)).map fun q => V.ref q.1)) := by
      rw [upd_same, List.map_map]
      rfl
    have B2 := B1.gr g2
    generalize upd H1 L (.lst (tb.map fun e => V.ref e.2.1)) = H2 at g2 eL B2 nD
    refine lc_filtL (K := K) (ps := tb.map fun e => (e.2.1, e.2.2)) (fun q => !q.2.contains x) (.inl (.inl eL)) ?_ nD (fun _ => rfl) (fun _ => rfl) (fun q0 hq0 H4 Qb g4 hb => ?_) (fun H3 g3 e3 => ?_)
    · rw [List.length_map]
      exact small1000 (by omega)
    · obtain ⟨e, he, rfl⟩ := List.mem_map.mp hq0
      refine ⟨_, rfl, _, rfl, e.2.1, _, rfl, .inl (.inl (.inl ((B2.gr g4).own e he))), rfl, flat_str e.2.2, _, rfl, ?_⟩
      rw [inV_str]
      exact hb H4 (Gr.refl H4)
    · have g0 := (g1.trans g2).trans g3
      have e4 : (((tb.map fun e => (e.2.1, e.2.2)).filter fun q => !q.2.contains x).map (·.2)) = away x (rws tb) := by
        unfold away
        rw [← tb_map, List.filter_map (f := fun q : Addr × List Str => q.2)]
        rfl
      have RO : RowsOk (((tb.map fun e => (e.2.1, e.2.2)).filter fun q => !q.2.contains x).map (·.2)) := by
        rw [e4]
        refine rows_facts T (Nat.le_trans (List.length_filter_le _ _) (by rw [rws_len]; exact few)) fun r hr => ⟨r, (List.mem_filter.mp hr).1, List.Sublist.refl _⟩
      have pl := RO.few
      rw [List.length_map] at pl
      refine ⟨D, _, rfl, ⟨e3, fun q0 hq0 => ?_⟩, fun r hr => RO.row r hr, by omega, hN.gr g0, .inl ⟨RO, fun b' d' H' tb' g' NB => ?_⟩⟩
      · obtain ⟨e, he, rfl⟩ := List.mem_map.mp (List.mem_filter.mp hq0).1
        exact (B2.gr g3).own e he
      · rw [e4] at NB
        exact q b' d' H' tb' (g0.trans g') (NB.from g0)
theorem scJoined : FnScope ["self", "other"] ["self", "other"] (defScope m_joined) := ⟨rfl, rfl, rfl, by decide +kernel, rfl, by decide +kernel, by decide +kernel⟩
theorem ok_joined (F : FnM K "joined" "Book.joined" m_joined f fd) (BC : BkC K mg C) (cBO : Calls P w K mg base (L2.CX P w) 6 "_book_of" (spBookOf C N R)) (cSets : MCalls P w K mg base CX0 1 C "_sets" (spBSets C)) :
    FnOk P w K mg base (L2.CX P w) 7 f fd ["self", "other"] (spJoined K C N R fun A B => A ++ B) := by
  refine F.ok scJoined (fun vs H Q E h => ?_) (fun cdv A outer s H vs Q E hr h => ?_)
  · obtain ⟨b, d, tb, n, b2, d2, tb2, n2, rfl, _⟩ := h
    rfl
  · obtain ⟨b, d, tb, n, b2, d2, tb2, n2, rfl, B, T, B2, T2, hN, h⟩ := h
    refine ⟨_, pss_one (ps_ret (pe_f cBO hr (by decide) (paE (takes_of rfl rfl rfl rfl)) (by rfl) (pa_cons (pe_op op_cat (pe_m0 cSets BC.cl hr (by decide) pa0 (pv 0)) (pe_m0 cSets BC.cl hr (by decide) pa0 (pv 1))) pa_nil))), ?_⟩
    have few := T.few
    have few2 := T2.few
    refine ⟨_, rfl, b, d, tb, n, rfl, B, b, d, tb, n, rfl, B, fun L nL => ?_⟩
    have g1 : Gr H (upd H L (.lst (tb.map fun e => V.ref e.2.1))) := Gr.new nL
    have eL : (upd H L (.lst (tb.map fun e => V.ref e.2.1))) L = some (.lst (tb.map fun e => V.ref e.2.1)) := upd_same
    generalize upd H L (.lst (tb.map fun e => V.ref e.2.1)) = H1 at g1 eL
    refine ⟨_, rfl, b2, d2, tb2, n2, rfl, B2.gr g1, b2, d2, tb2, n2, rfl, B2.gr g1, fun L2 nL2 => ?_⟩
    have g2 : Gr H1 (upd H1 L2 (.lst (tb2.map fun e => V.ref e.2.1))) := Gr.new nL2
    have eL2 : (upd H1 L2 (.lst (tb2.map fun e => V.ref e.2.1))) L2 = some (.lst (tb2.map fun e => V.ref e.2.1)) := upd_same
    generalize upd H1 L2 (.lst (tb2.map fun e => V.ref e.2.1)) = H2 at g2 eL2
    refine ⟨_, _, _, _, rfl, rfl, g2.lst eL, eL2, ?_, fun D nD => ?_⟩
    · rw [List.length_map, List.length_map]
      exact Nat.le_of_lt (small1000 (by omega))
    have g3 : Gr H2 (upd H2 D (.lst ((tb.map fun e => V.ref e.2.1) ++ tb2.map fun e => V.ref e.2.1))) := Gr.new nD
    have eD : (upd H2 D (.lst ((tb.map fun e => V.ref e.2.1) ++ tb2.map fun e => V.ref e.2.1))) D = some (.lst (((tb ++ tb2).map fun e => (e.2.1, e.2.2)).map fun q => V.ref q.1)) := by
      rw [upd_same, List.map_map, ← List.map_append]
      rfl
    generalize upd H2 D (.lst ((tb.map fun e => V.ref e.2.1) ++ tb2.map fun e => V.ref e.2.1)) = H3 at g3 eD
    have g0 := (g1.trans g2).trans g3
    have er : ((tb ++ tb2).map fun e => (e.2.1, e.2.2)).map (·.2) = rws tb ++ rws tb2 := by
      rw [tb_map]
      unfold rws
      rw [List.map_append]
    refine ⟨D, _, rfl, ⟨eD, fun q0 hq0 => ?_⟩, fun r hr => ?_, ?_, hN.gr g0, ?_⟩
    · obtain ⟨e, he, rfl⟩ := List.mem_map.mp hq0
      rcases List.mem_append.mp he with he | he
      · exact (B.gr g0).own e he
      · exact (B2.gr g0).own e he
    · rw [er] at hr
      rcases List.mem_append.mp hr with hr | hr
      · have := T.rlen hr
        exact ⟨this.2.1, this.1.nodup, by omega⟩
      · have := T2.rlen hr
        exact ⟨this.2.1, this.1.nodup, by omega⟩
    · rw [List.length_map, List.length_append]
      omega
    · rw [er]
      rcases h with ⟨RO, q⟩ | ⟨nRO, q⟩
      · exact .inl ⟨RO, fun b' d' H' tb' g' NB => q b' d' H' tb' (g0.trans g') (NB.from g0)⟩
      · exact .inr ⟨nRO, fun H' g' => q H' (g0.trans g')⟩
abbrev nCrossed : List Str := ["self", "other", "row", "theirs"]
theorem scCrossed : FnScope nCrossed ["self", "other"] (defScope m_crossed) := ⟨rfl, rfl, rfl, by decide +kernel, rfl, by decide +kernel, by decide +kernel⟩
theorem ok_crossed (F : FnM K "crossed" "Book.crossed" m_crossed f fd) (BC : BkC K mg C) (cBO : Calls P w K mg base (L2.CX P w) 6 "_book_of" (spBookOf C N R)) (cRis : Calls P w K mg base (L2.CX P w) 2 "rising" (spRising K N.i R.name)) (cSets : MCalls P w K mg base CX0 1 C "_sets" (spBSets C)) :
    FnOk P w K mg base (L2.CX P w) 7 f fd ["self", "other"] (spJoined K C N R unions) := by
  refine F.ok scCrossed (fun vs H Q E h => ?_) (fun cdv A outer s H vs Q E hr h => ?_)
  · obtain ⟨b, d, tb, n, b2, d2, tb2, n2, rfl, _⟩ := h
    rfl
  · obtain ⟨b, d, tb, n, b2, d2, tb2, n2, rfl, B, T, B2, T2, hN, h⟩ := h
    refine ⟨_, pss_one (ps_ret (pe_f cBO hr (by decide) (paE (takes_of rfl rfl rfl rfl)) (by rfl) (pa_cons (pe_lc2 (own := [("row", 2), ("theirs", 3)]) (g := gName 2) (tt := tYes) (g1 := gName 3) (tt1 := tYes) (vs1 := [3]) (wi1 := iList K (tM C (spBSets C) (fun _ => E0) (tVar 1) tNil)) rfl scCrossed.nd (pi_list (pe_m0 cSets BC.cl hr (by decide) pa0 (pv 0))) (blkOk_by (N := nCrossed) (sc := defScope m_crossed) (by decide +kernel)) (by decide)
        (fun _ _ _ _ _ => pg_name (i := 2) scCrossed.nd rfl (.inl rfl)) (fun _ _ _ _ _ => pts_nil) (fun _ _ _ _ _ => pi_list (pe_m0 cSets BC.cl hr (by decide) pa0 (pv 1))) (fun _ _ _ _ _ => pg_name (i := 3) scCrossed.nd rfl (.inl rfl)) (fun _ _ _ _ _ => pts_nil)
        (fun _ _ _ _ _ => pe_f cRis hr (by decide) paL (by rfl) (pa_cons (pe_op op_cat (pv 2) (pv 3)) pa_nil))) pa_nil))), ?_⟩
    have few := T.few
    have few2 := T2.few
    refine ⟨_, rfl, b, d, tb, n, rfl, B, b, d, tb, n, rfl, B, fun L nL => ⟨L, rfl, ⟨_, .inl (.inl upd_same)⟩, fun D nD => ?_⟩⟩
    have g1 : Gr H (upd H L (.lst (tb.map fun e => V.ref e.2.1))) := Gr.new nL
    have eL : (upd H L (.lst (tb.map fun e => V.ref e.2.1))) L = some (.lst ((tb.map fun e => (e.2.1, e.2.2)).map fun q => V.ref q.1)) := by
      rw [upd_same, List.map_map]
      rfl
    generalize upd H L (.lst (tb.map fun e => V.ref e.2.1)) = H1 at g1 eL nD
    refine lc2_new (K := K) (ps := tb.map fun e => (e.2.1, e.2.2)) (qs := tb2.map fun e => (e.2.1, e.2.2)) (fun x y => once (x ++ y)) (.inl (.inl eL)) ?_ nD (fun q0 hq0 H3 Rr g3 hc => ?_) (fun q0 hq0 u0 hu0 H5 Q' g5 hq => ?_) (fun H2 rs g2 T3 e3 => ?_) (fun _ => rfl) (fun _ _ => rfl)
    · rw [List.length_map, List.length_map]
      exact small1000 (Nat.le_trans (Nat.mul_le_mul few few2) (by decide))
    · have B3 := B2.gr (g1.trans g3)
      exact ⟨_, rfl, b2, d2, tb2, n2, rfl, B3, b2, d2, tb2, n2, rfl, B3, fun c nc => ⟨c, rfl, ⟨_, .inl (.inl upd_same)⟩, hc c _ (Gr.new nc) nc (by rw [upd_same, List.map_map]; rfl)⟩⟩
    · obtain ⟨e, he, rfl⟩ := List.mem_map.mp hq0
      obtain ⟨u, hu, rfl⟩ := List.mem_map.mp hu0
      have g05 := g1.trans g5
      obtain ⟨_, en, el⟩ := T.rlen (rws_mem he)
      obtain ⟨_, un, ul⟩ := T2.rlen (rws_mem hu)
      refine ⟨_, rfl, _, rfl, _, _, _, _, rfl, rfl, (B.gr g05).own e he, (B2.gr g05).own u hu, ?_, fun c nc => ?_⟩
      · rw [List.length_map, List.length_map]
        exact Nat.le_of_lt (small1000 (by omega))
      have g6 : Gr H5 (upd H5 c (.lst (e.2.2.map V.str ++ u.2.2.map V.str))) := Gr.new nc
      have ec : (upd H5 c (.lst (e.2.2.map V.str ++ u.2.2.map V.str))) c = some (.lst ((e.2.2 ++ u.2.2).map V.str)) := by
        rw [upd_same, List.map_append]
      generalize upd H5 c (.lst (e.2.2.map V.str ++ u.2.2.map V.str)) = H6 at g6 ec
      have nm : Nms (e.2.2 ++ u.2.2) := fun y hy => (List.mem_append.mp hy).elim (en y) (un y)
      refine ⟨c, _, rfl, .inl (.inl ec), nms_things nm, ?_, (g05.trans g6).tabG hN.s.i, .inl ⟨_, rfl, nms_all.mpr nm, fun l H7 g7 nl el7 => hq l H7 (g6.trans g7) (g6.free nl) el7⟩⟩
      rw [List.length_map, List.length_append]
      omega
    · have er : rs.map (·.2) = unions (rws tb) (rws tb2) := by
        rw [e3]
        unfold unions
        rw [← tb_map tb, ← tb_map tb2]
        simp only [List.flatMap_map, List.map_map, Function.comp_def]
      have g0 := g1.trans g2
      refine ⟨D, rs, rfl, T3.ll, fun r hr => ?_, ?_, hN.gr g0, ?_⟩
      · rw [er] at hr
        obtain ⟨x, hx, y, hy, rfl⟩ := unions_mem.mp hr
        obtain ⟨_, en, el⟩ := T.rlen hx
        obtain ⟨_, un, ul⟩ := T2.rlen hy
        refine ⟨once_nms fun z hz => (List.mem_append.mp hz).elim (en z) (un z), (ris_once _).nodup, ?_⟩
        have := once_len (xs := x ++ y)
        rw [List.length_append] at this
        omega
      · have h1 := congrArg List.length e3
        rw [List.length_map] at h1
        rw [h1, flat_len]
        rw [List.length_map, List.length_map]
        exact Nat.le_trans (Nat.mul_le_mul few few2) (by decide)
      · rw [er]
        rcases h with ⟨RO, q⟩ | ⟨nRO, q⟩
        · exact .inl ⟨RO, fun b' d' H' tb' g' NB => q b' d' H' tb' (g0.trans g') (NB.from g0)⟩
        · exact .inr ⟨nRO, fun H' g' => q H' (g0.trans g')⟩
end
end K1
namespace K1
open PySem PySem.Spec PyProof.Rows L2 Gr GxR Srx Skx Dcx
section
variable {P : Program} {w : World} {K : PySem.W.Frag} {mg : Str → Option Value} {base : Heap} {f C : Addr} {fd : FuncData} {p : He.Defn} {N : TabN} {R : ErN}
abbrev nBPared : List Str := ["self", "names", "asked", "kept", "name", "rest", "one"]
theorem scBPared : FnScope nBPared ["self", "names"] (defScope m_pared) := ⟨rfl, rfl, rfl, by decide +kernel, rfl, by decide +kernel, by decide +kernel⟩
theorem ok_bpared (F : FnM K "pared" "Book.pared" m_pared f fd) (BC : BkC K mg C) (cMg : MCalls P w K mg base (L2.CX P w) 5 C "_meeting" (spBMeeting K C N R)) (cMB : MCalls P w K mg base CX0 4 C "_met_by" (spBMetBy K C N)) (g_reversed : mg "reversed" = none) :
    FnOk P w K mg base (L2.CX P w) 6 f fd ["self", "names"] (spBPared K C N R) := by
  refine F.ok scBPared (fun vs H Q E h => ?_) (fun cdv A outer s H vs Q E hr h => ?_)
  · obtain ⟨b, d, tb, n, v, rfl, _⟩ := h
    rfl
  · obtain ⟨b, d, tb, n, v, rfl, B, T, hN, h⟩ := h
    refine ⟨_, pss_cons (ps_set (i := 2) scBPared.nd rfl (.inl rfl) (pe_m cMg BC.cl hr (by decide) (paE (takes_of rfl rfl rfl rfl)) (pv 0) (pa_cons (pv 1) pa_nil))) (pss_cons (ps_set (i := 3) scBPared.nd rfl (.inl rfl) (pv 2)) (pss_cons (ps_for (passes_of rfl) rfl (pi_reversed (by rfl) g_reversed (pa_cons (pv 2) pa_nil)) (pg_name (i := 4) scBPared.nd rfl (.inr rfl)) (pss_cons (ps_setLc (i := 5) (own := [("one", 6)]) (g := gName 6) rfl scBPared.nd rfl rfl (sw_true rfl rfl rfl (by decide +kernel)) (pi_list (pv 3)) (blkOk_by (N := nBPared) (sc := defScope m_pared) (by decide +kernel)) (fun _ _ _ _ _ => (pg_name (i := 6) scBPared.nd rfl (.inl rfl))) (fun _ _ _ _ _ => pts_one (pt_cmpR op_ne (pv 6) (pv 4) (nomark _))) (fun _ _ _ _ _ => (pv 6))) (pss_one (ps_if (pt_val (pe_m cMB BC.cl hr (by decide) pa0 (pv 0) (pa_cons (pv 5) pa_nil))) (pss_one (ps_set (i := 3) scBPared.nd rfl (.inl rfl) (pv 5))) (pss_nil))))) (pss_one (ps_ret (pv 3))))), ?_⟩
    refine ⟨_, rfl, b, d, tb, n, rfl, B, _, rfl, b, d, tb, n, v, rfl, B, T, hN, ?_⟩
    rcases h with ⟨xs, hk, hm, q⟩ | ⟨xs, hk, hm, q⟩ | ⟨hb, q⟩ | ⟨hb, q⟩
    rotate_left
    · exact .inr (.inl ⟨xs, hk, hm, q⟩)
    · exact .inr (.inr (.inl ⟨hb, q⟩))
    · exact .inr (.inr (.inr ⟨hb, q⟩))
    obtain ⟨_, _, _, nmx, fewx⟩ := id hk
    refine .inl ⟨xs, hk, hm, fun a H1 g1 na ea => ?_⟩
    have al : (once xs).length ≤ 1000 := Nat.le_trans once_len fewx
    refine ⟨_, rfl, ?_⟩
    refine ⟨_, rfl, a, _, rfl, .inl (.inl ea), for_rev (K := K) (xs := (once xs).map V.str) (fun i σ H2 => Gr H1 H2 ∧ ∃ (k : Addr) (v4 v5 : Option V), H k = none ∧ H2 k = some (.lst (((once xs).reverse.take i).foldl (pareStep (rws tb)) (once xs) |>.map V.str)) ∧ σ = [some (.ref b), some v, some (.ref a), some (.ref k), v4, v5, none]) ⟨Gr.refl H1, a, none, none, na, ea, rfl⟩ (fun i σ H2 _ h => .inl (.inl (h.1.lst ea))) (fun i x σ H2 hx h => ?_) (fun σ H2 h => ?_)⟩
    · obtain ⟨g2, k, v4, v5, nk, ek, rfl⟩ := h
      rw [← List.map_reverse] at hx
      obtain ⟨x0, hx0, rfl⟩ := get_map hx
      generalize hleft : ((once xs).reverse.take i).foldl (pareStep (rws tb)) (once xs) = left at ek
      have ll : left.length ≤ 1000 := by rw [← hleft]; exact Nat.le_trans (pare_len _ _ _) al
      have estep : ((once xs).reverse.take (i + 1)).foldl (pareStep (rws tb)) (once xs) = pareStep (rws tb) left x0 := by
        rw [List.take_add_one, hx0, List.foldl_append, hleft]
        rfl
      refine ⟨_, rfl, k, rfl, ⟨_, .inl (.inl ek)⟩, fun D nD => lc_filtT (K := K) (fun y => decide (y ≠ x0)) (.inl (.inl ek)) (small1000 ll) nD (fun _ => rfl) (fun _ => rfl) (fun y hy H5 Qb g5 hb => ?_) (fun H3 g3 e3 => ?_)⟩
      · refine ⟨_, rfl, _, rfl, rfl, _, rfl, ?_⟩
        rw [ne_strB]
        exact hb H5 (Gr.refl H5)
      · have g03 := (g1.trans g2).trans g3
        refine ⟨_, rfl, b, d, tb, n, rfl, B.gr g03, _, rfl, b, d, tb, n, D, _, rfl, B.gr g03, T, hN.gr g03, e3, fun H4 g4 => ⟨_, rfl, ?_⟩⟩
        cases em : mtAll (left.filter fun y => decide (y ≠ x0)) (rws tb) with
        | true =>
          refine iteT ⟨_, rfl, g2.trans (g3.trans g4), D, _, _, (g1.trans g2).free nD, ?_, rfl⟩
          rw [estep, pareStep, if_pos em]
          exact g4.lst e3
        | false =>
          refine iteF ⟨g2.trans (g3.trans g4), k, _, _, nk, ?_, rfl⟩
          rw [estep, pareStep, if_neg (by rw [em]; exact Bool.false_ne_true)]
          exact (g3.trans g4).lst ek
    · obtain ⟨g2, k, v4, v5, nk, ek, rfl⟩ := h
      rw [List.length_map, List.take_of_length_le (by rw [List.length_reverse]; exact Nat.le_refl _)] at ek
      exact ⟨_, rfl, q k H2 (g1.trans g2) nk ek⟩
abbrev nFirst : List Str := ["self", "name", "asked", "number", "row", "one"]
theorem scFirst : FnScope nFirst ["self", "name", "asked"] (defScope m_first_own) := ⟨rfl, rfl, rfl, by decide +kernel, rfl, by decide +kernel, by decide +kernel⟩
theorem ok_first_own (F : FnM K "_first_own" "Book._first_own" m_first_own f fd) (BC : BkC K mg C) : FnOk P w K mg base CX0 1 f fd ["self", "name", "asked"] (spFirstOwn K C) := by
  refine F.ok scFirst (fun vs H Q E h => ?_) (fun cdv A outer s H vs Q E hr h => ?_)
  · obtain ⟨b, d, tb, n, x, a, asked, rfl, _⟩ := h
    rfl
  · obtain ⟨b, d, tb, n, x, a, asked, rfl, B, T, ha, nma, nx, al, q⟩ := h
    refine ⟨_, PSs.nox (pss_cons (ps_lock (ps_for PassesOwn.never rfl (pi_items (pe_fld (pv 0) rfl)) (pg_tup rfl (pgs_cons (pg_name (i := 3) scFirst.nd rfl (.inl rfl)) (pgs_cons (pg_name (i := 4) scFirst.nd rfl (.inr rfl)) pgs_nil))) (pss_one (ps_if (pt_cmpR (op_eqD (hu64 hr)) (pe_lc (own := [("one", 5)]) (g := gName 5) rfl scFirst.nd (pi_list (pv 2)) (blkOk_by (N := nFirst) (sc := defScope m_first_own) (by decide +kernel)) (fun _ _ _ _ _ => (pg_name (i := 5) scFirst.nd rfl (.inl rfl))) (fun _ _ _ _ _ => pts_one (pt_cmpR (r := rIn K false) op_in_seq (pv 5) (pv 4) rfl)) (fun _ _ _ _ _ => (pv 5))) (pe_lst (pa_cons (pv 1) pa_nil)) (nomark _)) (pss_one (ps_ret (pv 3))) (pss_nil))))) (pss_one (ps_ret pe_non))), ?_⟩
    obtain ⟨dx, eb⟩ := B.ob
    have nbd := B.ne
    have nad : a ≠ d := ne_of ha B.dc (by intro z; cases z)
    refine ⟨d, _, B.dc, trivial, fun od => ?_⟩
    have eL : (upd H d (.frz od (.dK (kvB tb)))) d = some (.frz od (.dK (kvB tb))) := upd_same
    have oL : ∀ e ∈ tb, (upd H d (.frz od (.dK (kvB tb)))) e.2.1 = some (.lst (e.2.2.map V.str)) := fun e he => by rw [upd_ne (B.neb he).2]; exact B.own e he
    have aL : (upd H d (.frz od (.dK (kvB tb)))) a = some (.lst (asked.map V.str)) := by rw [upd_ne nad]; exact ha
    refine ⟨_, rfl, b, C, dx, _, _, rfl, (by rw [upd_ne nbd]; exact eb), BC.cl, BC.nR, bfl_rows d n, d, od, kvB tb, rfl, eL, ?_⟩
    have hback : ∀ H', Gr (upd H d (.frz od (.dK (kvB tb)))) H' → Gr H (upd H' d (.dK (kvB tb))) := fun H' g => gr_lock B.dc (fun ps z => nomatch z) g
    generalize upd H d (.frz od (.dK (kvB tb))) = HL at eL oL aL hback
    refine for_it (walk_items (d := d) (o := od) (kvs := kvB tb)) (fun i σ H2 => Gr HL H2 ∧ (tb.take i).find? (fun e => decide (asked.filter e.2.2.contains = [x])) = none ∧ ∃ v3 v4, σ = [some (.ref b), some (.str x), some (.ref a), v3, v4, none]) ⟨Gr.refl HL, rfl, none, none, rfl⟩ (fun i σ H2 _ h => h.1.at_ _ _ eL notbl_frz) (fun i xx σ H2 H3 hi h y => ?_) (fun σ H2 h => ?_)
    · obtain ⟨g2, hn, v3, v4, rfl⟩ := h
      obtain ⟨TT, ky, vv, rfl, nT, rfl, hk, hv⟩ := y
      rw [kvB_len] at hi
      have hx : tb[i]? = some tb[i] := List.getElem?_eq_getElem hi
      generalize tb[i] = e0 at hx
      have m0 := List.mem_of_getElem? hx
      have hkv : (kvB tb)[i]? = some ((Sum.inl e0.1 : Key), V.ref e0.2.1) := by
        unfold kvB
        rw [List.getElem?_map, hx]
        rfl
      have hk : Option.map (fun kv : Key × V => kV kv.1) (kvB tb)[i]? = some ky := hk
      have hv : Option.map Prod.snd (kvB tb)[i]? = some vv := hv
      rw [hkv] at hk hv
      obtain rfl : V.int e0.1 = ky := Option.some.inj hk
      obtain rfl : V.ref e0.2.1 = vv := Option.some.inj hv
      have g3 : Gr HL (upd H2 TT (.tup [.int e0.1, .ref e0.2.1])) := g2.trans (Gr.new nT)
      refine ⟨TT, _, rfl, .inl (.inl upd_same), rfl, _, _, rfl, _, _, rfl, rfl, ?_⟩
      generalize upd H2 TT (.tup [.int e0.1, .ref e0.2.1]) = H3 at g3
      refine ⟨_, rfl, a, rfl, ⟨_, .inl (.inl (g3.lst aL))⟩, fun D nD => lc_filtT (K := K) e0.2.2.contains (.inl (.inl (g3.lst aL))) (small1000 al) nD (fun _ => rfl) (fun _ => rfl) (fun y hy H5 Qb g5 hb => ?_) (fun H4 g4 e4 => ?_)⟩
      · refine ⟨_, rfl, _, rfl, e0.2.1, _, rfl, .inl (.inl (.inl ((g3.trans g5).lst (oL e0 m0)))), rfl, flat_str e0.2.2, _, rfl, ?_⟩
        rw [inV_str]
        exact hb H5 (Gr.refl H5)
      · refine ⟨_, rfl, (by show 1 ≤ sizeLine; rw [sizeLine_eq]; omega), fun D2 nD2 => ?_⟩
        have g5 : Gr H4 (upd H4 D2 (.lst [V.str x])) := Gr.new nD2
        have e5 : (upd H4 D2 (.lst [V.str x])) D2 = some (.lst ([x].map V.str)) := upd_same
        generalize upd H4 D2 (.lst [V.str x]) = H5 at g5 e5
        have nmf : Nms (asked.filter e0.2.2.contains) := fun y hy => nma y (List.mem_filter.mp hy).1
        refine ⟨_, _, dp_dS (.inl (.inl (g5.lst e4))), dp_dS (.inl (.inl e5)), shaped_dS nmf, shaped_dS (fun y hy => by rw [List.mem_singleton.mp hy]; exact nx), _, rfl, ?_⟩
        rw [eqv_dS]
        have g05 := (g3.trans g4).trans g5
        by_cases hh : asked.filter e0.2.2.contains = [x]
        · rw [decide_eq_true hh]
          have hf := find_done hx hn (decide_eq_true hh)
          have z := q _ (hback H5 g05)
          unfold firstOwn at z
          rw [hf] at z
          exact iteT ⟨_, rfl, g05.at_ _ _ eL notbl_frz, z⟩
        · rw [decide_eq_false hh]
          refine iteF ⟨g05, ?_, _, _, rfl⟩
          rw [find_snoc hx hn, if_neg]
          rw [decide_eq_false hh]
          exact Bool.false_ne_true
    · obtain ⟨g2, hn, v3, v4, rfl⟩ := h
      rw [kvB_len, List.take_length] at hn
      have z := q _ (hback H2 g2)
      unfold firstOwn at z
      rw [hn] at z
      exact ⟨g2.at_ _ _ eL notbl_frz, z⟩
end
end K1
namespace K1
open PySem PySem.Spec PyProof.Rows L2 Gr GxR Srx Skx Dcx
section
variable {P : Program} {w : World} {K : PySem.W.Frag} {mg : Str → Option Value} {base : Heap} {f C : Addr} {fd : FuncData} {p : He.Defn} {N : TabN} {R : ErN}
abbrev nOwn : List Str := ["self", "names", "asked", "told", "name", "_", "number"]
theorem scOwn : FnScope nOwn ["self", "names"] (defScope m_own) := ⟨rfl, rfl, rfl, by decide +kernel, rfl, by decide +kernel, by decide +kernel⟩
theorem ok_own (F : FnM K "own" "Book.own" m_own (He.fAd K p) fd) (TB : Tb K base mg p) (eT : (He.cT K p).2 = N.o) (BC : BkC K mg C) (cMg : MCalls P w K mg base (L2.CX P w) 5 C "_meeting" (spBMeeting K C N R)) (cFO : MCalls P w K mg base CX0 1 C "_first_own" (spFirstOwn K C)) (eMeet : ErrC K mg "NoMeet" R.meet) (g_any : mg "any" = none) :
    FnOk P w K mg base (L2.CX P w) 6 (He.fAd K p) fd ["self", "names"] (spBOwn K C N R) := by
  refine okC F scOwn (fun vs H Q E h => ?_) (fun A outer s H vs Q E hr h => ?_)
  · obtain ⟨b, d, tb, n, v, rfl, _⟩ := h
    rfl
  · obtain ⟨b, d, tb, n, v, rfl, B, T, hN, h⟩ := h
    have hT : TabG H (He.cT K p).2 := eT ▸ hN.o
    refine ⟨_, pss_cons (ps_set (i := 2) scOwn.nd rfl (.inr rfl) (pe_m cMg BC.cl hr (by decide) (paE (takes_of rfl rfl rfl rfl)) (pv 0) (pa_cons (pv 1) pa_nil))) (pss_cons (ps_setLc (i := 3) (own := [("name", 4)]) (g := gName 4) (tt := tYes) rfl scOwn.nd rfl rfl (sw_true rfl rfl rfl (by decide +kernel)) (pi_list (pv 2)) (blkOk_by (N := nOwn) (sc := defScope m_own) (by decide +kernel)) (fun _ _ _ _ _ => (pg_name (i := 4) scOwn.nd rfl (.inl rfl))) (fun _ _ _ _ _ => pts_nil) (fun _ _ _ _ _ => (pe_tup (pa_cons (pv 4) (pa_cons (pe_m cFO BC.cl hr (by decide) pa0 (pv 0) (pa_cons (pv 4) (pa_cons (pv 2) pa_nil))) pa_nil))))) (pss_cons (ps_if (pt_val (Gx.pe_any (own := [("_", 5), ("number", 6)]) (gt := gTup K 2 (gCons (gName 5) (gCons (gName 6) gNil))) (tt := tYes) hr rfl scOwn.nd (by rfl) g_any TB rfl (blkOk_by (N := nOwn) (sc := defScope m_own) (by decide +kernel)) (Gx.gxs_by (by decide +kernel)) (pi_list (pv 3)) (fun _ _ _ _ _ _ => (pg_tup rfl (pgs_cons (pg_name (i := 5) scOwn.nd rfl (.inl rfl)) (pgs_cons (pg_name (i := 6) scOwn.nd rfl (.inl rfl)) pgs_nil)))) (fun _ _ _ _ _ _ => pts_nil) (fun _ _ _ _ _ _ => (pe_cmpR op_isN (pv 6) pe_non (nomark _))))) (pss_one (ps_raise rfl (takes_of rfl rfl rfl rfl) (SkE.pmk_own1 PySem.F.excBase_ValueError eMeet.xC eMeet.gC eMeet.kC (raises_own eMeet.bC eMeet.tC) (by rfl) pe_str))) (pss_nil)) (pss_one (ps_ret (pv 3))))), ?_⟩
    refine ⟨_, rfl, b, d, tb, n, rfl, B, _, rfl, b, d, tb, n, v, rfl, B, T, hN, ?_⟩
    have h : (∃ xs, HOk H v xs ∧ mtAll xs (rws tb) = true ∧ (((∀ x ∈ once xs, (firstOwn tb (once xs) x).isSome = true) ∧
        ∀ p H' (ts : List (Addr × Str × Int)), Gr H H' → H p = none → H' p = some (.lst (ts.map fun t => V.ref t.1)) → (∀ t ∈ ts, H t.1 = none ∧ t.1 ≠ p ∧ H' t.1 = some (.tup [.str t.2.1, .int t.2.2])) → ts.map (·.2) = (once xs).map (fun x => (x, (firstOwn tb (once xs) x).getD 0)) → Q (.ref p) H') ∨
        ((∃ x ∈ once xs, firstOwn tb (once xs) x = none) ∧ ∀ H', Gr H H' → E (.ref R.meet) none H'))) ∨ (∃ xs, HOk H v xs ∧ mtAll xs (rws tb) = false ∧ ∀ H', Gr H H' → E (.ref R.meet) none H') ∨
        (HBadN K H v ∧ ∀ H', Gr H H' → E (.ref R.name) none H') ∨ (HBadR K H v ∧ ∀ H', Gr H H' → E (.ref R.row) none H') := by
      rcases h with ⟨xs, hk, hm, a1, q⟩ | ⟨xs, hk, hm, q⟩ | h | h
      · exact .inl ⟨xs, hk, hm, .inl ⟨a1, q⟩⟩
      · cases em : mtAll xs (rws tb) with
        | true =>
          rcases hm with hm | hm
          · rw [em] at hm; cases hm
          · exact .inl ⟨xs, hk, em, .inr ⟨hm, q⟩⟩
        | false => exact .inr (.inl ⟨xs, hk, em, q⟩)
      · exact .inr (.inr (.inl h))
      · exact .inr (.inr (.inr h))
    rcases h with ⟨xs, hk, hm, h⟩ | ⟨xs, hk, hm, q⟩ | ⟨hb, q⟩ | ⟨hb, q⟩
    rotate_left
    · exact .inr (.inl ⟨xs, hk, hm, q⟩)
    · exact .inr (.inr (.inl ⟨hb, q⟩))
    · exact .inr (.inr (.inr ⟨hb, q⟩))
    obtain ⟨_, _, _, nmx, fewx⟩ := id hk
    refine .inl ⟨xs, hk, hm, fun a H1 g1 na ea => ?_⟩
    have al : (once xs).length ≤ 1000 := Nat.le_trans once_len fewx
    have nmo := once_nms nmx
    generalize once xs = ask at h ea al nmo
    refine ⟨_, rfl, a, rfl, ⟨_, .inl (.inl ea)⟩, fun D nD => lc_list (K := K) (xs := ask.map V.str) (fun i H2 => Gr H1 H2 ∧ ∃ ts : List (Addr × Str × V), H2 D = some (.lst (ts.map fun t => V.ref t.1)) ∧ (∀ t ∈ ts, H1 t.1 = none ∧ t.1 ≠ D ∧ H2 t.1 = some (.tup [.str t.2.1, t.2.2])) ∧ ts.map (·.2) = (ask.take i).map (fun x => (x, ownV (firstOwn tb ask x)))) ⟨Gr.new nD, [], upd_same, fun _ z => absurd z List.not_mem_nil, rfl⟩ (fun i H2 _ h => .inl (.inl (h.1.lst ea))) (fun i x H2 hx h2 => ?_) (fun H2 h2 => ?_)⟩
    · obtain ⟨g2, ts, eD, own, et⟩ := h2
      obtain ⟨x0, hx0, rfl⟩ := get_map hx
      have m0 := List.mem_of_getElem? hx0
      have hi : i < ask.length := (List.getElem?_eq_some_iff.mp hx0).1
      refine ⟨rfl, yesIf ?_⟩
      refine ⟨_, rfl, _, rfl, b, d, tb, n, rfl, B.gr (g1.trans g2), _, rfl, _, rfl, b, d, tb, n, x0, a, ask, rfl, B.gr (g1.trans g2), T, g2.lst ea, nmo, nmo x0 m0, al, fun H3 g3 => ⟨(by show 2 ≤ sizeLine; decide), fun t nt => ?_⟩⟩
      have tD : t ≠ D := (ne_of_none (g3.lst eD) nt).symm
      have g4 : Gr H3 (upd H3 t (.tup [.str x0, ownV (firstOwn tb ask x0)])) := Gr.new nt
      have et4 : (upd H3 t (.tup [.str x0, ownV (firstOwn tb ask x0)])) t = some (.tup [.str x0, ownV (firstOwn tb ask x0)]) := upd_same
      generalize upd H3 t (.tup [.str x0, ownV (firstOwn tb ask x0)]) = H4 at g4 et4
      refine ⟨_, (g3.trans g4).lst eD, ?_, (g2.trans (g3.trans g4)).mut nD, ts ++ [(t, x0, ownV (firstOwn tb ask x0))], ?_, fun u hu => ?_, ?_⟩
      · rw [List.length_map]
        have h1 := congrArg List.length et
        rw [List.length_map, List.length_map, List.length_take] at h1
        exact small1000 (by omega)
      · rw [upd_same, List.map_append]
        rfl
      · rcases List.mem_append.mp hu with hu | hu
        · obtain ⟨h1, h2, h3⟩ := own u hu
          exact ⟨h1, h2, by rw [upd_ne h2]; exact (g3.trans g4).tup h3⟩
        · rw [List.mem_singleton.mp hu]
          exact ⟨(g2.trans g3).free nt, tD, by rw [upd_ne tD]; exact et4⟩
      · rw [List.map_append, et, take_map hx0]
        rfl
    · obtain ⟨g2, ts, eD, own, et⟩ := h2
      rw [List.length_map, List.take_length] at et
      have g02 := g1.trans g2
      have tsl : ts.length = ask.length := by
        have h1 := congrArg List.length et
        rw [List.length_map, List.length_map] at h1
        exact h1
      refine ⟨_, rfl, D, rfl, ⟨_, .inl (.inl eD)⟩, Gx.gx_list (xs := ts.map fun t : Addr × Str × V => V.ref t.1) (g02.tabG hT) (fun i H3 => Gr H2 H3 ∧ ∀ t ∈ ts.take i, t.2.2 ≠ .non) (fun H3 t3 => ⟨Gr.tabbed (g02.tabG hT) t3, fun _ z => absurd z List.not_mem_nil⟩) (fun i H3 _ h3 => .inl (.inl (h3.1.lst eD))) (fun i x H3 Nx nx hx h3 => ?_) (fun H3 h3 => ?_)⟩
      · obtain ⟨g3, hn⟩ := h3
        obtain ⟨t0, ht0, rfl⟩ := get_map hx
        have mt0 := List.mem_of_getElem? ht0
        obtain ⟨_, _, et0⟩ := own t0 mt0
        refine ⟨t0.1, _, rfl, .inl (.inl (g3.tup et0)), rfl, _, _, rfl, _, _, rfl, rfl, rfl, yesIf ?_⟩
        refine ⟨_, rfl, rfl, _, rfl, fun e => ?_, fun e => nx _ ⟨g3, fun t ht => ?_⟩⟩
        · have e : t0.2.2 = V.non := of_decide_eq_true e
          rcases h with ⟨all, _⟩ | ⟨_, qE⟩
          · exfalso
            have m1 : t0.2 ∈ ask.map (fun x => (x, ownV (firstOwn tb ask x))) := by rw [← et]; exact List.mem_map.mpr ⟨t0, mt0, rfl⟩
            obtain ⟨x1, hx1, e1⟩ := List.mem_map.mp m1
            have := all x1 hx1
            rw [← e1] at e
            cases ef : firstOwn tb ask x1 with
            | none => rw [ef] at this; cases this
            | some k =>
              have e : ownV (firstOwn tb ask x1) = V.non := e
              rw [ef] at e; cases e
          · exact ⟨_, rfl, iteT (qE _ (g02.trans g3))⟩
        · rw [List.take_add_one, ht0] at ht
          rcases List.mem_append.mp ht with ht | ht
          · exact hn t ht
          · rw [List.mem_singleton.mp ht]
            exact fun z => e (decide_eq_true z)
      · obtain ⟨g3, hn⟩ := h3
        rw [List.length_map, List.take_length] at hn
        refine ⟨_, rfl, iteF ?_⟩
        have some_ : ∀ x ∈ ask, (firstOwn tb ask x).isSome = true := by
          intro x hx
          have m1 : (x, ownV (firstOwn tb ask x)) ∈ ts.map (·.2) := by rw [et]; exact List.mem_map.mpr ⟨x, hx, rfl⟩
          obtain ⟨t, ht, e1⟩ := List.mem_map.mp m1
          have := hn t ht
          rw [e1] at this
          cases ef : firstOwn tb ask x with
          | none => rw [ef] at this; exact absurd rfl this
          | some k => rfl
        rcases h with ⟨_, q⟩ | ⟨⟨x, hx, e⟩, _⟩
        · refine ⟨_, rfl, q D H3 (ts.map fun t => (t.1, t.2.1, match t.2.2 with | .int k => k | _ => 0)) (g02.trans g3) (g1.free nD) (by rw [List.map_map]; exact g3.lst eD) (fun t ht => ?_) ?_⟩
          · obtain ⟨u, hu, rfl⟩ := List.mem_map.mp ht
            obtain ⟨h1, h2, h3⟩ := own u hu
            refine ⟨g1.free h1, h2, ?_⟩
            have m1 : u.2 ∈ ask.map (fun x => (x, ownV (firstOwn tb ask x))) := by rw [← et]; exact List.mem_map.mpr ⟨u, hu, rfl⟩
            obtain ⟨x1, hx1, e1⟩ := List.mem_map.mp m1
            have s1 := some_ x1 hx1
            cases ef : firstOwn tb ask x1 with
            | none => rw [ef] at s1; cases s1
            | some k =>
              have e2 : u.2.2 = .int k := by rw [← e1, ef]; rfl
              have := g3.tup h3
              rw [e2] at this
              rw [e2]
              exact this
          · rw [List.map_map]
            have e5 : ts.map (fun t => (t.2.1, match t.2.2 with | .int k => k | _ => (0 : Int))) = (ts.map (·.2)).map (fun z => (z.1, match z.2 with | .int k => k | _ => (0 : Int))) := by
              rw [List.map_map]
              rfl
            refine Eq.trans (show _ = ts.map (fun t => (t.2.1, match t.2.2 with | .int k => k | _ => (0 : Int))) from rfl) ?_
            rw [e5, et, List.map_map]
            refine List.map_congr_left fun x hx => ?_
            have s1 := some_ x hx
            cases ef : firstOwn tb ask x with
            | none => rw [ef] at s1; cases s1
            | some k =>
              show (x, _) = _
              simp only [Function.comp, ef]
              rfl
        · have := some_ x hx
          rw [e] at this
          cases this
abbrev nNeeded : List Str := ["self", "row"]
theorem scBNeeded : FnScope ["self", "row"] ["self"] (defScope m_needed) := ⟨rfl, rfl, rfl, by decide +kernel, rfl, by decide +kernel, by decide +kernel⟩
theorem ok_bneeded (F : FnM K "needed" "Book.needed" m_needed f fd) (BC : BkC K mg C) (cLR : MCalls P w K mg base CX0 6 C "least_rows" (spBLeastRows C N)) (g_len : mg "len" = none) : FnOk P w K mg base CX0 7 f fd ["self"] (spBNeeded C N) := by
  refine F.ok scBNeeded (fun vs H Q E h => ?_) (fun cdv A outer s H vs Q E hr h => ?_)
  · obtain ⟨b, d, tb, n, rfl, _⟩ := h
    rfl
  · obtain ⟨b, d, tb, n, rfl, B, T, hN, q⟩ := h
    refine ⟨_, PSs.nox (pss_one (ps_ret (pe_lc (own := [("row", 1)]) (g := gName 1) rfl scBNeeded.nd (pi_list (pe_m0 cLR BC.cl hr (by decide) pa0 (pv 0))) (blkOk_by (N := nNeeded) (sc := defScope m_needed) (by decide +kernel)) (fun _ _ _ _ _ => (pg_name (i := 1) scBNeeded.nd rfl (.inl rfl))) (fun _ _ _ _ _ => pts_one (pt_cmpR op_eq (pe_callB (r := rLenQ K) call_len_seq (by rfl) g_len boot_len (pa_cons (pv 1) pa_nil)) pe_int (nomark _))) (fun _ _ _ _ _ => (pe_ix (r := rIxL K) ix_list (pv 1) pe_int (fun _ _ => rfl)))))), ?_⟩
    refine ⟨_, rfl, b, d, tb, n, rfl, B, b, d, tb, n, rfl, B, T, hN, fun L H1 ks g1 T1 e1 => ⟨L, rfl, ⟨_, .inl (.inl T1.at_)⟩, fun D nD => ?_⟩⟩
    have kl : ks.length ≤ 30 := by
      have h1 := congrArg List.length e1
      rw [List.length_map] at h1
      have h2 := least_len (rws tb)
      have h3 := T.few
      rw [rws_len] at h2
      omega
    refine lc_list (K := K) (xs := ks.map fun q : Addr × List Str => V.ref q.1) (fun i H2 => Gr H1 H2 ∧ H2 D = some (.lst (((ks.take i).flatMap fun q => if q.2.length = 1 then q.2 else []).map V.str)) ∧ ((ks.take i).flatMap fun q => if q.2.length = 1 then q.2 else []).length ≤ i) ⟨Gr.new nD, upd_same, Nat.le_refl _⟩ (fun i H2 _ h => .inl (.inl (h.1.lst T1.at_))) (fun i x H2 hx h => ?_) (fun H2 h => ?_)
    · obtain ⟨g2, eD, le⟩ := h
      obtain ⟨k0, hk0, rfl⟩ := get_map hx
      have hi : i < ks.length := (List.getElem?_eq_some_iff.mp hk0).1
      have ek := g2.lst (T1.own k0 (List.mem_of_getElem? hk0)).2.2
      have etk : ((ks.take (i + 1)).flatMap fun q => if q.2.length = 1 then q.2 else []) = ((ks.take i).flatMap fun q => if q.2.length = 1 then q.2 else []) ++ (if k0.2.length = 1 then k0.2 else []) := by
        rw [List.take_add_one, hk0, List.flatMap_append]
        simp
      refine ⟨rfl, ⟨_, rfl, k0.1, _, rfl, .inl (.inl (.inl ek)), rfl, _, rfl, ?_⟩⟩
      rw [List.length_map]
      by_cases h1 : k0.2.length = 1
      · rw [decide_eq_true (show V.int (k0.2.length : Nat) = V.int 1 by rw [h1]; rfl)]
        obtain ⟨y, ey⟩ := List.length_eq_one_iff.mp h1
        refine iteT ⟨_, rfl, k0.1, _, _, _, rfl, rfl, .inl (.inl ek), (by rw [ey]; exact at_zero y []), _, eD, ?_, g2.mut nD, ?_, ?_⟩
        · rw [List.length_map]
          exact small1000 (by omega)
        · rw [upd_same, etk, if_pos h1, ey, List.map_append]
          rfl
        · rw [etk, if_pos h1, List.length_append, h1]
          omega
      · rw [decide_eq_false (show ¬ V.int (k0.2.length : Nat) = V.int 1 from fun z => h1 (by injection z with z; omega))]
        refine iteF ⟨g2, ?_, ?_⟩
        · rw [etk, if_neg h1, List.append_nil]
          exact eD
        · rw [etk, if_neg h1, List.append_nil]
          omega
    · obtain ⟨g2, eD, le⟩ := h
      rw [List.length_map, List.take_length] at eD
      refine q D H2 (g1.trans g2) (g1.free nD) ?_
      rw [eD]
      have e9 : needB (rws tb) = ks.flatMap fun q => if q.2.length = 1 then q.2 else [] := by
        unfold needB
        rw [← e1, List.flatMap_map]
      rw [e9]
end
end K1
namespace K1
open PySem PySem.Spec PyProof.Rows L2 Gr GxR Srx Skx Dcx
section
variable {P : Program} {w : World} {K : PySem.W.Frag} {mg : Str → Option Value} {base : Heap} {f C : Addr} {fd : FuncData} {p : He.Defn} {N : TabN} {R : ErN}
def idleB (rows : List (List Str)) : List Str := (allN rows).filter fun y => decide (y ∉ (least rows).flatten)
def spBIdle (C : Addr) (N : TabN) : Sp := fun vs H Q _ => ∃ b d tb n, vs = [.ref b] ∧ Bk C H b d tb n ∧ Tok tb n ∧ N.G H ∧ (allN (rws tb)).length ≤ 7 ∧ ∀ p H', Gr H H' → H p = none → H' p = some (.lst ((idleB (rws tb)).map V.str)) → Q (.ref p) H'
abbrev nIdle : List Str := ["self", "row", "name"]
theorem scIdle : FnScope nIdle ["self"] (defScope m_idle) := ⟨rfl, rfl, rfl, by decide +kernel, rfl, by decide +kernel, by decide +kernel⟩
theorem ok_idle (F : FnM K "idle" "Book.idle" m_idle f fd) (BC : BkC K mg C) (cNa : MCalls P w K mg base CX0 2 C "names" (spBNames C)) (cLR : MCalls P w K mg base CX0 6 C "least_rows" (spBLeastRows C N)) (g_sorted : mg "sorted" = none) (g_set : mg "set" = none) : FnOk P w K mg base CX0 7 f fd ["self"] (spBIdle C N) := by
  refine F.ok scIdle (fun vs H Q E h => ?_) (fun cdv A outer s H vs Q E hr h => ?_)
  · obtain ⟨b, d, tb, n, rfl, _⟩ := h
    rfl
  · obtain ⟨b, d, tb, n, rfl, B, T, hN, few, q⟩ := h
    refine ⟨_, PSs.nox (pss_one (ps_ret (pe_callB (Srx.cr_sortedTx rfl (hu64 hr)) (by rfl) g_sorted boot_sorted (pa_cons (pe_op Sd.op_subTx (pe_callTy (Srx.cr_setTx rfl) (by rfl) g_set boot_set (pa_cons (pe_m0 cNa BC.cl hr (by decide) pa0 (pv 0)) pa_nil)) (Sc2.pe_sc2 (own := [("row", 1), ("name", 2)]) (g := gName 1) (tt := tYes) (g1 := gName 2) (tt1 := tYes) (vs1 := [2]) (wi1 := iList K (tVar 1)) (te := tVar 2) rfl scIdle.nd (pi_list (pe_m0 cLR BC.cl hr (by decide) pa0 (pv 0))) (blkOk_by (N := nIdle) (sc := defScope m_idle) (by decide +kernel)) (by decide) (fun _ _ _ _ _ => (pg_name (i := 1) scIdle.nd rfl (.inl rfl))) (fun _ _ _ _ _ => pts_nil) (fun _ _ _ _ _ => (pi_list (pv 1))) (fun _ _ _ _ _ => (pg_name (i := 2) scIdle.nd rfl (.inl rfl))) (fun _ _ _ _ _ => pts_nil) (fun _ _ _ _ _ => (pv 2)))) pa_nil)))), ?_⟩
    refine ⟨_, rfl, b, d, tb, n, rfl, B, b, d, tb, n, rfl, B, T, fun a H1 g1 na ea => ⟨a, _, rfl, .inl (.inl ea), by omega, fun S nS => ?_⟩⟩
    have ndA : (allN (rws tb)).Nodup := (ris_allN _).nodup
    rw [Sx.dd_id ndA]
    generalize hU : upd H1 S _ = H2
    have g2 : Gr H1 H2 := hU ▸ Gr.new nS
    have eS : H2 S = some (SetTx w S (allN (rws tb))) := by rw [← hU]; exact upd_same
    have g02 := g1.trans g2
    refine ⟨_, rfl, b, d, tb, n, rfl, B.gr g02, b, d, tb, n, rfl, B.gr g02, T, hN.gr g02, fun L H3 ks g3 TL eL => ⟨L, rfl, ⟨_, .inl (.inl TL.at_)⟩, fun D nD => ?_⟩⟩
    have Lin : ∀ r ∈ ks.map (·.2), r.length ≤ 12 := by
      intro r hr
      rw [eL] at hr
      have m1 := least_sub (fun x hx => (T.rlen hx).1) hr
      exact (T.rlen m1).2.2
    have kl : ks.length ≤ 30 := by
      have h1 := congrArg List.length eL
      rw [List.length_map] at h1
      have h2 := least_len (rws tb)
      have h3 := T.few
      rw [rws_len] at h2
      omega
    refine sc2_rows (K := K) (ps := ks) (.inl (.inl TL.at_)) (fun q hq => .inl (.inl (TL.own q hq).2.2)) nD ?_ ?_ (fun _ => rfl) (fun _ _ => rfl) (fun _ => rfl) (fun _ _ => rfl)
    · have h1 := flatten_len Lin
      rw [List.length_map] at h1
      omega
    generalize hU4 : upd H3 D _ = H4
    have g4 : Gr H3 H4 := hU4 ▸ Gr.new nD
    have eD : H4 D = some (SetTx w D (Sx.dd (ks.map (·.2)).flatten)) := by rw [← hU4]; exact upd_same
    have eS4 : H4 S = some (SetTx w S (allN (rws tb))) := (g3.trans g4).at_ _ _ eS fun _ z => nomatch z
    refine ⟨S, D, _, _, rfl, rfl, eS4, eD, few, fun u nu => ?_⟩
    refine ⟨u, _, rfl, upd_same, fun p np => ?_⟩
    have g04 := (g02.trans g3).trans g4
    refine q p _ ((g04.trans (Gr.new nu)).trans (Gr.new np)) ((g04.trans (Gr.new nu)).free np) ?_
    rw [upd_same]
    have e9 : srt ((allN (rws tb)).filter fun x => decide (x ∉ Sx.dd (ks.map (·.2)).flatten)) = idleB (rws tb) := by
      rw [srt_id ((ris_filter _ (ris_allN _)).sorted)]
      unfold idleB
      rw [← eL]
      refine List.filter_congr fun y _ => ?_
      rw [decide_eq_decide]
      exact not_congr Sx.dd_mem
    rw [e9]
end
end K1
namespace K1
open PySem PySem.Spec PyProof.Rows L2 Gr GxR Srx Skx Dcx
section
variable {P : Program} {w : World} {K : PySem.W.Frag} {mg : Str → Option Value} {base : Heap} {f C : Addr} {fd : FuncData} {p : He.Defn} {N : TabN} {R : ErN}
theorem scLine : FnScope ["row"] ["row"] (defScope s_line_of) := ⟨rfl, rfl, rfl, by decide +kernel, rfl, by decide +kernel, by decide +kernel⟩
abbrev nLine : List Str := ["row"]
def spLine (K : PySem.W.Frag) : Sp := fun vs H Q _ => ∃ (a : Addr) (xs : List Str), vs = [.ref a] ∧ SqL K H a (xs.map V.str) ∧ Nms xs ∧ xs.length ≤ 12 ∧ Q (.str (lineS xs)) H
theorem ok_line (F : FnP K "_line_of" s_line_of f fd) (gE : ∃ t, mg "EMPTY_ROW" = some (.str "-" t)) : FnOk P w K mg base CX0 1 f fd ["row"] (spLine K) := by
  obtain ⟨tE, gE⟩ := gE
  refine F.ok scLine (fun vs H Q E h => ?_) (fun cdv A outer s H vs Q E hr h => ?_)
  · obtain ⟨a, xs, rfl, _⟩ := h
    rfl
  · obtain ⟨a, xs, rfl, hA, nm, len, q⟩ := h
    refine ⟨_, PSs.nox (pss_one (ps_ret (pe_ifExp (pt_truth (pv 0) (by intro _; rfl)) (pe_joinK (K := K) rfl pe_str (pv 0)) (pe_glob (v := .str "-") (by rfl) gE ⟨_, rfl⟩)))), ?_⟩
    have len1 : (" " : Str).length = 1 := by decide +kernel
    have hs := sum_le 8 xs fun x hx => nm_len (nm x hx)
    refine ⟨_, rfl, !xs.isEmpty, ?_, ?_⟩
    · exact .inl ⟨_, hA, by cases xs <;> rfl⟩
    cases xs with
    | nil => exact iteF (by unfold lineS at q; rw [if_pos rfl] at q; exact q)
    | cons y ys =>
      refine iteT ⟨⟨_, rfl⟩, _, rfl, _, a, y :: ys, rfl, rfl, .inl hA, by rw [len1]; omega, ?_⟩
      unfold lineS at q
      rw [if_neg (List.cons_ne_nil _ _)] at q
      exact q
abbrev nTextOf : List Str := ["book", "_", "row"]
theorem scTextOf : FnScope nTextOf ["book"] (defScope s_text_of) := ⟨rfl, rfl, rfl, by decide +kernel, rfl, by decide +kernel, by decide +kernel⟩
def spTextOf (C : Addr) : Sp := fun vs H Q _ => ∃ b d tb n, vs = [.ref b] ∧ Bk C H b d tb n ∧ Tok tb n ∧ ∀ H', Gr H H' → Q (.str (textS (rws tb))) H'
theorem ok_text_of (F : FnP K "text_of" s_text_of f fd) (BC : BkC K mg C) (cR : MCalls P w K mg base CX0 1 C "rows" (spBRows C)) (cL : Calls P w K mg base CX0 1 "_line_of" (spLine K)) : FnOk P w K mg base CX0 2 f fd ["book"] (spTextOf C) := by
  refine F.ok scTextOf (fun vs H Q E h => ?_) (fun cdv A outer s H vs Q E hr h => ?_)
  · obtain ⟨b, d, tb, n, rfl, _⟩ := h
    rfl
  · obtain ⟨b, d, tb, n, rfl, B, T, q⟩ := h
    refine ⟨_, PSs.nox (pss_one (ps_ret (pe_joinK (K := K) rfl pe_str (pe_lc (own := [("_", 1), ("row", 2)]) (g := gTup K 2 (gCons (gName 1) (gCons (gName 2) gNil))) (tt := tYes) rfl scTextOf.nd (pi_list (pe_m0 cR BC.cl hr (by decide) pa0 (pv 0))) (blkOk_by (N := nTextOf) (sc := defScope s_text_of) (by decide +kernel)) (fun _ _ _ _ _ => (pg_tup rfl (pgs_cons (pg_name (i := 1) scTextOf.nd rfl (.inl rfl)) (pgs_cons (pg_name (i := 2) scTextOf.nd rfl (.inl rfl)) pgs_nil)))) (fun _ _ _ _ _ => pts_nil) (fun _ _ _ _ _ => (pe_k cL hr (by decide) (by rfl) (pa_cons (pv 2) pa_nil))))))), ?_⟩
    refine ⟨⟨_, rfl⟩, ?_⟩
    refine ⟨_, rfl, b, d, tb, n, rfl, B, b, d, tb, n, rfl, B, T, fun P1 H1 rs g1 TP er => ⟨P1, rfl, ⟨_, .inl (.inl TP.due.at_)⟩, fun D nD => ?_⟩⟩
    have DP := TP.due
    have rl : rs.length = tb.length := by
      have h1 := congrArg List.length er
      unfold nr at h1
      rw [List.length_map, List.length_map] at h1
      exact h1
    have few := T.few
    have rin : ∀ r ∈ rs, Nms r.r ∧ r.r.length ≤ 12 := fun r hr => by
      have h1 : (r.k, r.r) ∈ nr tb := by rw [← er]; exact List.mem_map.mpr ⟨r, hr, rfl⟩
      obtain ⟨e, he, z⟩ := List.mem_map.mp h1
      have z2 : e.2.2 = r.r := congrArg Prod.snd z
      obtain ⟨h2, h3, h4⟩ := T.rlen (List.mem_map.mpr ⟨e, he, z2⟩)
      exact ⟨h3, h4⟩
    refine lc_list (K := K) (xs := rs.map fun r => V.ref r.t) (fun i H2 => Gr H1 H2 ∧ H2 D = some (.lst (((rs.take i).map fun r => lineS r.r).map V.str))) ⟨Gr.new nD, upd_same⟩ (fun i H2 _ h => .inl (.inl (h.1.lst DP.at_))) (fun i x H2 hx h => ?_) (fun H2 h => ?_)
    · obtain ⟨g2, e2⟩ := h
      obtain ⟨r0, hr0, rfl⟩ := get_map hx
      have mr := List.mem_of_getElem? hr0
      have hi : i < rs.length := (List.getElem?_eq_some_iff.mp hr0).1
      obtain ⟨h1, h2⟩ := DP.own r0 mr
      refine ⟨r0.t, _, rfl, .inl (.inl (g2.tup h1)), rfl, _, _, rfl, _, _, rfl, rfl, rfl, yesIf ?_⟩
      refine ⟨_, rfl, r0.l, r0.r, rfl, .inl (.inl (g2.lst h2)), (rin r0 mr).1, (rin r0 mr).2, _, e2, ?_, g2.mut nD, ?_⟩
      · rw [List.length_map, List.length_map, List.length_take]
        exact small1000 (by omega)
      · rw [upd_same, take_map hr0, List.map_append]
        rfl
    · obtain ⟨g2, e2⟩ := h
      rw [List.length_map, List.take_length] at e2
      refine ⟨_, D, rs.map fun r => lineS r.r, rfl, rfl, .inl (.inl (.inl e2)), ?_, ?_⟩
      · have h1 := sum_le 120 (rs.map fun r => lineS r.r) fun x hx => by
          obtain ⟨r, hr, rfl⟩ := List.mem_map.mp hx
          exact lineS_len (rin r hr).1 (rin r hr).2
        have h2 : ("\n" : Str).length = 1 := by decide +kernel
        rw [List.length_map] at h1
        rw [h2, List.length_map]
        omega
      · have e3 : (rs.map fun r => lineS r.r) = (rws tb).map lineS := by
          rw [rws_nr, ← er, List.map_map, List.map_map]
          rfl
        rw [e3]
        exact q _ (g1.trans g2)
end
end K1
end
section
set_option maxHeartbeats 8000000
namespace K1
open PySem PySem.Spec PyProof.Rows L2 Gr GxR Srx Skx Dcx
section
variable {P : Program} {w : World} {K : PySem.W.Frag} {mg : Str → Option Value} {base : Heap} {f C M : Addr} {fd : FuncData} {N : TabN} {R : ErN}
/-! ### _law_own -/
abbrev nLOwn : List Str := ["_law_one_here", "_law_table", "_law_found", "_law_name", "_law_some", "_law_k", "_law_other_here"]
theorem scLOwn : FnScope nLOwn ["_law_one_here", "_law_table"] (defScope s_law_own_x) := ⟨rfl, rfl, rfl, by decide +kernel, rfl, by decide +kernel, by decide +kernel⟩
/-- told pairs of a name and a number -/
structure OwnP (H : Hp) (p : Addr) (ts : List (Addr × Str × Int)) : Prop where
  at_ : H p = some (.lst (ts.map fun t => V.ref t.1))
  own : ∀ t ∈ ts, H t.1 = some (.tup [.str t.2.1, .int t.2.2])
def spLOwn (K : PySem.W.Frag) : Sp := fun vs H Q _ => ∃ (a t : Addr) (xs : List Str) (tt : Tb1), vs = [.ref a, .ref t] ∧ SqL K H a (xs.map V.str) ∧ Nms xs ∧ xs.length ≤ 1000 ∧ Tbl H t tt ∧ (nums tt).Pairwise (· < ·) ∧ tt.length ≤ 50 ∧ (∀ x ∈ xs, (firstOwn tt xs x).isSome = true) ∧
  ∀ p H' ts, Gr H H' → H p = none → OwnP H' p ts → (∀ t ∈ ts, H t.1 = none) → ts.map (·.2) = xs.map (fun x => (x, (firstOwn tt xs x).getD 0)) → Q (.ref p) H'
theorem ok_lown (F : FnP K "_law_own" s_law_own_x f fd) (g_list : mg "list" = none) (g_sorted : mg "sorted" = none) : FnOk P w K mg base CX0 1 f fd ["_law_one_here", "_law_table"] (spLOwn K) := by
  refine F.ok scLOwn (fun vs H Q E h => ?_) (fun cdv A outer s H vs Q E hr h => ?_)
  · obtain ⟨a, t, xs, tt, rfl, _⟩ := h
    rfl
  · obtain ⟨a, t, xs, tt, rfl, hA, nms, few, tT, pw, lt, all, q⟩ := h
    refine ⟨_, PSs.nox (pss_cons (ps_set (i := 2) scLOwn.nd rfl (.inl rfl) (pe_lst pa_nil)) (pss_cons (ps_for PassesOwn.never rfl (pi_list (pv 0)) (pg_name (i := 3) scLOwn.nd rfl (.inr rfl)) (pss_cons (ps_setLc (i := 4) (own := [("_law_k", 5)]) (g := gName 5) rfl scLOwn.nd rfl rfl (sw_true rfl rfl rfl (by decide +kernel)) (pi_list (pe_callB cr_sorted (by rfl) g_sorted boot_sorted (pa_cons (pe_callTy (call_list_dK rfl) (by rfl) g_list boot_list (pa_cons (pv 1) pa_nil)) pa_nil))) (blkOk_by (N := nLOwn) (sc := defScope s_law_own_x) (by decide +kernel)) (fun _ _ _ _ _ => (pg_name (i := 5) scLOwn.nd rfl (.inr rfl))) (fun _ _ _ _ _ => pts_one (pt_cmpR (r := rEqD K) (op_eqD (hu64 hr)) (pe_lc (own := [("_law_other_here", 6)]) (g := gName 6) (wi := iList K (tVar 0)) rfl scLOwn.nd (pi_list (pv 0)) (blkOk_by (N := nLOwn) (sc := relS _ (defScope s_law_own_x)) (by decide +kernel)) (fun _ _ _ _ _ => (pg_name (i := 6) scLOwn.nd rfl (.inl rfl))) (fun _ _ _ _ _ => pts_one (pt_cmpR (r := rIn K false) op_in_seq (pv 6) (pe_dget (hu_of hr) (pv 1) (pv 5) (fun _ _ => rfl)) rfl)) (fun _ _ _ _ _ => (pv 6))) (pe_lst (pa_cons (pv 3) pa_nil)) (nomark _))) (fun _ _ _ _ _ => (pv 5))) (pss_one (ps_expr (pe_bm PySem.F.plainAttrs_list PySem.F.slot_list_append PySem.F.type_list_append mt_append (pv 2) (pa_cons (pe_tup (pa_cons (pv 3) (pa_cons (pe_ix ix_list (pv 4) pe_int (fun _ _ => rfl)) pa_nil))) pa_nil)))))) (pss_one (ps_ret (pv 2))))), ?_⟩
    have ndn := pw_nodup pw
    refine ⟨Nat.zero_le _, fun F nF => ?_⟩
    have g0 : Gr H (upd H F (.lst [])) := Gr.new nF
    refine ⟨_, rfl, a, rfl, ⟨_, g0.seq hA⟩, for_list (K := K) (xs := xs.map V.str) (fun i σ H1 => Gr H H1 ∧ (∃ ts, OwnP H1 F ts ∧ (∀ t ∈ ts, H t.1 = none) ∧ ts.map (·.2) = (xs.take i).map fun x => (x, (firstOwn tt xs x).getD 0)) ∧ ∃ v3 v4, σ = [some (.ref a), some (.ref t), some (.ref F), v3, v4, none, none])
      ⟨g0, ⟨[], ⟨upd_same, fun _ z => absurd z List.not_mem_nil⟩, fun _ z => absurd z List.not_mem_nil, rfl⟩, none, none, rfl⟩ (fun i σ H1 _ h => h.1.seq hA) (fun i x σ H1 hx h => ?_) (fun σ H1 h => ?_)⟩
    · obtain ⟨g1, ⟨ts, OP, nts, em⟩, v3, v4, rfl⟩ := h
      obtain ⟨x0, hx0, rfl⟩ := get_map hx
      have mx := List.mem_of_getElem? hx0
      have hi : i < xs.length := (List.getElem?_eq_some_iff.mp hx0).1
      have T1 := tT.gr g1
      refine ⟨_, rfl, t, _, rfl, T1.at_, fun l nl => ?_⟩
      rw [kvB_keys]
      have g2 : Gr H1 (upd H1 l (.lst ((nums tt).map V.int))) := Gr.new nl
      have el : (upd H1 l (.lst ((nums tt).map V.int))) l = some (.lst ((nums tt).map V.int)) := upd_same
      generalize upd H1 l (.lst ((nums tt).map V.int)) = H2 at g2 el
      refine sortedI (K := K) (.inl (.inl el)) pw (by unfold nums; rw [List.length_map]; omega) fun l2 nl2 => ⟨l2, rfl, ⟨_, .inl (.inl upd_same)⟩, fun D nD => ?_⟩
      have g3 : Gr H2 (upd H2 l2 (.lst ((nums tt).map V.int))) := Gr.new nl2
      have el2 : (upd H2 l2 (.lst ((nums tt).map V.int))) l2 = some (.lst (tt.map fun e => V.int e.1)) := by rw [upd_same]; unfold nums; rw [List.map_map]; rfl
      generalize upd H2 l2 (.lst ((nums tt).map V.int)) = H3 at g3 el2 nD
      have g13 := g2.trans g3
      refine lc_filtG (K := K) (fun e : Int × Addr × List Str => V.int e.1) (fun e => decide (xs.filter e.2.2.contains = [x0])) (.inl (.inl el2)) (small1000 (by omega)) nD (fun _ => rfl) (fun _ => rfl) (fun e he H4 Qb g4 hq => ?_) (fun H4 g4 e4 => ?_)
      · refine ⟨_, rfl, a, rfl, ⟨_, (((g1.trans g13).trans g4).seq hA)⟩, fun D2 nD2 => lc_filtT (K := K) (fun y => e.2.2.contains y) (((g1.trans g13).trans g4).seq hA) (small1000 few) nD2 (fun _ => rfl) (fun _ => rfl) (fun y hy H5 Qb2 g5 hq2 => ?_) (fun H5 g5 e5 => ?_)⟩
        · have g15 := (g13.trans g4).trans g5
          have z : DGet H5 t (V.int e.1) _ := DGet.k (k := Sum.inl e.1) (T1.gr g15).at_
          rw [kvB_get ndn he] at z
          refine ⟨_, rfl, _, rfl, _, rfl, t, _, rfl, z, e.2.1, _, rfl, .inl (.inl (.inl ((T1.gr g15).own e he))), rfl, flat_str _, _, rfl, ?_⟩
          rw [inV_str]
          exact hq2 _ (Gr.refl _)
        · refine ⟨_, rfl, (by show 1 ≤ sizeLine; rw [sizeLine_eq]; omega), fun l3 nl3 => ?_⟩
          have g6 : Gr H5 (upd H5 l3 (.lst (([x0] : List Str).map V.str))) := Gr.new nl3
          refine ⟨_, _, dp_dS (.inl (.inl (g6.lst e5))), dp_dS (xs := [x0]) (.inl (.inl upd_same)), shaped_dS (fun y hy => nms y (List.mem_filter.mp hy).1), shaped_dS (fun y hy => by rw [List.mem_singleton.mp hy]; exact nms _ mx), _, rfl, ?_⟩
          rw [eqv_dS]
          exact hq _ (g5.trans g6)
      · have g14 := g13.trans g4
        have e4' : H4 D = some (.lst ((tt.filter fun e => decide (xs.filter e.2.2.contains = [x0])).map fun e => V.int e.1)) := e4
        have sm := all x0 mx
        have hd : ∃ r, (tt.filter fun e => decide (xs.filter e.2.2.contains = [x0])).map (fun e => V.int e.1) = V.int ((firstOwn tt xs x0).getD 0) :: r := by
          unfold firstOwn at sm ⊢
          rw [← List.head?_filter] at sm ⊢
          cases ef : tt.filter fun e => decide (xs.filter e.2.2.contains = [x0]) with
          | nil => rw [ef] at sm; cases sm
          | cons e r => exact ⟨_, rfl⟩
        obtain ⟨r, er⟩ := hd
        rw [er] at e4'
        refine ⟨_, rfl, .inl ⟨rfl, _, .inl (.inl (g14.lst OP.at_))⟩, _, rfl, _, rfl, D, _, _, _, rfl, rfl, .inl (.inl e4'), (show atI _ ((0 : Nat) : Int) = some (V.int ((firstOwn tt xs x0).getD 0)) from atI_nat rfl), (by show 2 ≤ sizeLine; rw [sizeLine_eq]; omega), fun p np => ?_⟩
        have g5 : Gr H4 (upd H4 p (.tup [.str x0, .int ((firstOwn tt xs x0).getD 0)])) := Gr.new np
        have e5 : (upd H4 p (.tup [.str x0, .int ((firstOwn tt xs x0).getD 0)])) p = some (.tup [.str x0, .int ((firstOwn tt xs x0).getD 0)]) := upd_same
        generalize upd H4 p (.tup [.str x0, .int ((firstOwn tt xs x0).getD 0)]) = H5 at g5 e5
        have g15 := g14.trans g5
        have pF : p ≠ F := (ne_of_none (g14.lst OP.at_) np).symm
        have hl : ts.length = min i xs.length := by
          have h1 := congrArg List.length em
          rw [List.length_map, List.length_map, List.length_take] at h1
          exact h1
        refine ⟨F, _, _, rfl, rfl, g15.lst OP.at_, ?_, (g1.trans g15).mut nF, ⟨ts ++ [(p, x0, (firstOwn tt xs x0).getD 0)], ⟨?_, fun z hz => ?_⟩, fun z hz => ?_, ?_⟩, _, _, rfl⟩
        · rw [List.length_map]
          exact small1000 (by omega)
        · rw [upd_same, List.map_append]
          rfl
        · rcases List.mem_append.mp hz with hz | hz
          · have h1 := OP.own z hz
            rw [upd_ne (ne_of h1 OP.at_ (by intro z; cases z))]
            exact g15.tup h1
          · rw [List.mem_singleton.mp hz, upd_ne pF]
            exact e5
        · rcases List.mem_append.mp hz with hz | hz
          · exact nts z hz
          · rw [List.mem_singleton.mp hz]
            exact (g1.trans g14).free np
        · rw [List.map_append, em, take_map hx0]
          rfl
    · obtain ⟨g1, ⟨ts, OP, nts, em⟩, v3, v4, rfl⟩ := h
      rw [List.length_map, List.take_length] at em
      exact ⟨_, rfl, q F H1 ts g1 nF OP nts em⟩
end
end K1
end
section
set_option maxHeartbeats 8000000
namespace K1
open PySem PySem.Spec PyProof.Rows L2 Gr GxR Srx Skx Dcx
section
variable {P : Program} {w : World} {K : PySem.W.Frag} {mg : Str → Option Value} {base : Heap} {f C M : Addr} {fd : FuncData} {N : TabN} {R : ErN}
structure E13b (P : Program) (w : World) (K : PySem.W.Frag) (mg : Str → Option Value) (base : Heap) (C : Addr) (N : TabN) (R : ErN) : Prop where
  bc : BkC K mg C
  own : MCalls P w K mg base (L2.CX P w) 6 C "own" (spBOwn K C N R)
  pared : MCalls P w K mg base (L2.CX P w) 6 C "pared" (spBPared K C N R)
  lpared : Calls P w K mg base CX0 3 "_law_pared" (spPared K)
  lown : Calls P w K mg base CX0 1 "_law_own" (spLOwn K)
  gM : mg "NoMeet" = some (.ref R.meet)
  em : PySem.W.exmOne K (.ref R.meet) (.ref R.meet) = some true
  gLi : mg "list" = none
  gS : mg "sorted" = none
abbrev nNoth : List Str := ["_law_book", "_law_table"]
theorem scNoth : FnScope nNoth ["_law_book", "_law_table"] (defScope s_law_nothing_x) := ⟨rfl, rfl, rfl, by decide +kernel, rfl, by decide +kernel, by decide +kernel⟩
def spNoth (C : Addr) (N : TabN) : Sp := fun vs H Q _ => ∃ (b d t : Addr) (tb tt : Tb1) (n : Int), vs = [.ref b, .ref t] ∧ Bk C H b d tb n ∧ Tok tb n ∧ Tbl H t tt ∧ tb.length = tt.length ∧ N.G H ∧ ∀ H', Gr H H' → Q (.bl true) H'
theorem ok_noth (F : FnP K "_law_nothing" s_law_nothing_x f fd) (G : E13b P w K mg base C N R) : FnOk P w K mg base CX0 7 f fd ["_law_book", "_law_table"] (spNoth C N) := by
  refine F.ok scNoth (fun vs H Q E h => ?_) (fun cdv A outer s H vs Q E hr h => ?_)
  · obtain ⟨b, d, t, tb, tt, n, rfl, _⟩ := h
    rfl
  · obtain ⟨b, d, t, tb, tt, n, rfl, B, T, tT, len, hN, q⟩ := h
    refine ⟨_, PSs.nox (pss_one (ps_try_only rfl rfl ⟨rfl, by decide, .inl G.gM⟩ takes0 (fun W pn xe tk _ => pss_one (ps_ret (pe_and (pe_cmpR (r := rEqD K) (op_eqD (hu64 hr)) (pe_m G.own G.bc.cl hr (by decide) (paT tk) (pv 0) (pa_cons (pe_lst pa_nil) pa_nil)) (pe_lst pa_nil) (nomark _)) (pe_one (pe_cmpR (op_eqE (hu1x (k := 6) hr.un)) (pv 1) pe_dnewK (nomark _)))))) (fun a oe cls d pn hz hf => pss_one (ps_ret (pe_cmpR (op_neE (hu1x (k := 6) hr.un)) (pv 1) pe_dnewK (nomark _)))))), ?_⟩
    refine ⟨_, rfl, b, d, tb, n, rfl, B, Nat.zero_le _, fun l nl => ?_⟩
    have g1 : Gr H (upd H l (.lst (([] : List Str).map V.str))) := Gr.new nl
    have el : (upd H l (.lst (([] : List Str).map V.str))) l = some (.lst (([] : List Str).map V.str)) := upd_same
    rw [show upd H l (.lst []) = upd H l (.lst (([] : List Str).map V.str)) from rfl]
    generalize upd H l (.lst (([] : List Str).map V.str)) = H1 at g1 el
    have hok : HOk H1 (.ref l) [] := ⟨l, rfl, el, fun _ z => absurd z List.not_mem_nil, Nat.zero_le _⟩
    have emt : mtAll [] (rws tb) = tt.isEmpty := by rw [mtAll_nil, rws_isEmpty, isEmpty_len len]
    refine ⟨b, d, tb, n, _, rfl, B.gr g1, T, hN.gr g1, ?_⟩
    cases ht : tt.isEmpty with
    | true =>
      rw [ht] at emt
      refine .inl ⟨[], hok, emt, fun x hx => absurd (once_mem.mp hx) List.not_mem_nil, fun p H2 ts g2 np ep own et => ?_⟩
      have et : ts = [] := List.map_eq_nil_iff.mp (et.trans (by rw [show once [] = ([] : List Str) from by decide +kernel]; rfl))
      subst et
      refine ⟨Nat.zero_le _, fun l2 nl2 => ?_⟩
      have g3 : Gr H2 (upd H2 l2 (.lst [])) := Gr.new nl2
      refine ⟨.list [], .list [], .lst (.inl (.inl (g3.lst ep))) .nil, .lst (.inl (.inl upd_same)) .nil, rfl, rfl, _, rfl, ?_⟩
      refine iteT ⟨_, rfl, fun m nm => ?_⟩
      have g4 := ((g1.trans g2).trans g3).trans (Gr.new (o := .dK []) nm)
      refine ⟨t, m, _, rfl, rfl, (tT.gr g4).at_, upd_same, ?_⟩
      rw [kvB_empty, ht]
      exact q _ g4
    | false =>
      rw [ht] at emt
      refine .inr (.inl ⟨[], hok, .inl emt, fun H2 g2 => ⟨true, G.em, fun _ z nz => ⟨_, rfl, fun m nm => ?_⟩, fun z => nomatch z⟩⟩)
      have g4 := (g1.trans g2).trans (Gr.new (o := .dK []) nm)
      refine ⟨t, m, _, rfl, rfl, (tT.gr g4).at_, upd_same, ?_⟩
      rw [kvB_empty, ht]
      exact q _ g4
/-! ### what is held -/
structure HelD where
  p : Addr
  x : V
  y : V
  d : PyData
/-- at L: the pairs held, each twice the same data; X: what may change -/
structure HeldL (K : PySem.W.Frag) (X : Addr → Prop) (H : Hp) (L : Addr) (hs : List HelD) : Prop where
  all : ∀ z, X z → ∃ o, H z = some o
  mem : X L
  at_ : H L = some (.lst (hs.map fun h => V.ref h.p))
  own : ∀ h ∈ hs, hide X H h.p = some (.tup [h.x, h.y]) ∧ Dp K (hide X H) h.x h.d ∧ Dp K (hide X H) h.y h.d ∧ SeqAt.shaped h.d = true
theorem gr_hide {X : Addr → Prop} {H H' : Hp} (g : Gr H H') : Gr (hide X H) (hide X H') :=
  ⟨fun b o e n => by
    obtain ⟨x, e⟩ := hide_out e
    rw [hide_in x]
    exact g.at_ b o e n, fun b ps e => by
    obtain ⟨x, e⟩ := hide_out e
    obtain ⟨p, e1, k⟩ := g.tab b ps e
    exact ⟨p, by rw [hide_in x]; exact e1, k⟩⟩
theorem shaped_refl {d : PyData} (h : SeqAt.shaped d = true) : PyData.eqv d d = true := by
  have h : (PyData.canLay0 d && decide (PyData.depth d ≤ 64)) = true := h
  rw [Bool.and_eq_true] at h
  exact SeqAt.eqv_refl d h.1
theorem HeldL.gr {K : PySem.W.Frag} {X : Addr → Prop} {H H' : Hp} {L : Addr} {hs : List HelD} (T : HeldL K X H L hs) (g : Gr H H') : HeldL K X H' L hs :=
  ⟨fun z hz => by
    obtain ⟨o, e⟩ := T.all z hz
    exact (g.x fun _ => False).has e, T.mem, g.lst T.at_, fun h hh => by
    obtain ⟨h1, h2, h3, h4⟩ := T.own h hh
    have g2 := gr_hide (X := X) g
    exact ⟨g2.tup h1, dp_gr g2 _ _ h2, dp_gr g2 _ _ h3, h4⟩⟩
theorem hide_updX {X : Addr → Prop} {H : Hp} {L : Addr} {o : HO} (h : X L) : hide X (upd H L o) = hide X H := by
  funext z
  unfold hide
  by_cases hz : X z
  · rw [if_pos hz, if_pos hz]
  · rw [if_neg hz, if_neg hz, upd_ne fun e => hz (by rw [e]; exact h)]
/-- one more -/
theorem HeldL.add {K : PySem.W.Frag} {X : Addr → Prop} {H : Hp} {L p : Addr} {hs : List HelD} {x y : V} {d : PyData} (T : HeldL K X H L hs) (hp : hide X H p = some (.tup [x, y])) (hx : Dp K (hide X H) x d) (hy : Dp K (hide X H) y d)
    (s1 : SeqAt.shaped d = true) : HeldL K X (upd H L (.lst ((hs.map fun h => V.ref h.p) ++ [.ref p]))) L (hs ++ [⟨p, x, y, d⟩]) :=
  ⟨fun z hz => by
    by_cases h : z = L
    · exact ⟨_, by rw [h]; exact upd_same⟩
    · rw [upd_ne h]; exact T.all z hz, T.mem, by rw [upd_same, List.map_append]; rfl, fun h hh => by
    rw [hide_updX T.mem]
    rcases List.mem_append.mp hh with hh | hh
    · exact T.own h hh
    · rw [List.mem_singleton.mp hh]
      exact ⟨hp, hx, hy, s1⟩⟩
theorem HeldL.out {K : PySem.W.Frag} {X : Addr → Prop} {H : Hp} {L : Addr} {hs : List HelD} (T : HeldL K X H L hs) {b : Addr} (h : H b = none) : ¬ X b := new_out T.all h
theorem HeldL.nt {K : PySem.W.Frag} {X : Addr → Prop} {H : Hp} {L : Addr} {hs : List HelD} (T : HeldL K X H L hs) : ∀ ps, H L ≠ some (.tbl ps) := fun ps e => by
  rw [T.at_] at e
  cases e
/-- what a look promises: True, and no more than k more held -/
def HeldQ (K : PySem.W.Frag) (X : Addr → Prop) (H : Hp) (L : Addr) (hs : List HelD) (k : Nat) (Q : VK) : Prop := ∀ H' hs', GrX (fun z => z = L) H H' → HeldL K X H' L hs' → hs'.length ≤ hs.length + k → Q (.bl true) H'
theorem cut_mapG {α : Type} (g : α → V) (xs : List α) (lo hi : Option Int) : ∃ zs : List α, cutV (xs.map g) lo hi = zs.map g ∧ (∀ z ∈ zs, z ∈ xs) ∧ zs.length ≤ xs.length := by
  refine ⟨(xs.drop (HT.sIx (xs.map g).length 0 lo)).take (HT.sIx (xs.map g).length (xs.map g).length hi - HT.sIx (xs.map g).length 0 lo), ?_, fun z hz => List.mem_of_mem_drop (List.mem_of_mem_take hz), ?_⟩
  · unfold cutV
    rw [List.map_take, List.map_drop]
  · rw [List.length_take, List.length_drop]
    omega
theorem pareStep_congr {A B : List (List Str)} (h : ∀ x, mtAll x A = mtAll x B) (l : List Str) (n : Str) : pareStep A l n = pareStep B l n := by
  unfold pareStep
  rw [h]
theorem pared_congr {A B : List (List Str)} (h : ∀ x, mtAll x A = mtAll x B) (x : List Str) : pared A x = pared B x := by
  unfold pared
  have e : pareStep A = pareStep B := by
    funext l n
    exact pareStep_congr h l n
  rw [e]
/-! ### _law_left -/
abbrev nLeft : List Str := ["_law_book", "_law_names_here", "_law_rows", "_law_due", "_law_held"]
theorem scLeft : FnScope nLeft ["_law_book", "_law_names_here", "_law_rows", "_law_due", "_law_held"] (defScope s_law_left_x) := ⟨rfl, rfl, rfl, by decide +kernel, rfl, by decide +kernel, by decide +kernel⟩
def spLeft (K : PySem.W.Frag) (C : Addr) (N : TabN) : Sp := fun vs H Q _ => ∃ (b d a r Du L : Addr) (tb : Tb1) (n : Int) (nm : List Str) (ps us : List (Addr × List Str)) (X : Addr → Prop) (hs : List HelD), vs = [.ref b, .ref a, .ref r, .ref Du, .ref L] ∧ Bk C H b d tb n ∧ Tok tb n ∧ N.G H ∧
  SqL K H a (nm.map V.str) ∧ Nm5 nm ∧ LQ K H r ps ∧ (∀ x, mtAll x (rws tb) = mtAll x (ps.map (·.2))) ∧ H Du = some (.lst (us.map fun q => V.ref q.1)) ∧ us.isEmpty = !mtAll nm (rws tb) ∧ HeldL K X H L hs ∧ hs.length ≤ 5000 ∧ HeldQ K X H L hs 1 Q
theorem ok_left (F : FnP K "_law_left" s_law_left_x f fd) (G : E13b P w K mg base C N R) : FnOk P w K mg base CX0 7 f fd ["_law_book", "_law_names_here", "_law_rows", "_law_due", "_law_held"] (spLeft K C N) := by
  have g_list := G.gLi
  have g_sorted := G.gS
  refine F.ok scLeft (fun vs H Q E h => ?_) (fun cdv A outer s H vs Q E hr h => ?_)
  · obtain ⟨b, d, a, r, Du, L, tb, n, nm, ps, us, X, hs, rfl, _⟩ := h
    rfl
  · obtain ⟨b, d, a, r, Du, L, tb, n, nm, ps, us, X, hs, rfl, B, T, hN, hA, N5, LQr, mts, eDu, eus, HL, few, q⟩ := h
    refine ⟨_, PSs.nox (pss_cons (ps_if (pt_cmpR (op_eqNil (hu64 hr)) (pv 3) (pe_lst pa_nil) (nomark _)) (pss_cons (ps_try_only rfl rfl ⟨rfl, by decide, .inl G.gM⟩ takes0 (fun W pn xe tk _ => pss_one (ps_expr (pe_m G.pared G.bc.cl hr (by decide) (paT tk) (pv 0) (pa_cons (pe_callTy (r := rListOf K) call_list_of (by rfl) g_list boot_list (pa_cons (pv 1) pa_nil)) pa_nil)))) (fun a oe cls d pn hz hf => pss_one (ps_ret pe_bl))) (pss_one (ps_ret pe_bl))) (pss_nil)) (pss_cons (ps_expr (pe_bm PySem.F.plainAttrs_list PySem.F.slot_list_append PySem.F.type_list_append mt_append (pv 4) (pa_cons (pe_tup (pa_cons (pe_m G.pared G.bc.cl hr (by decide) paL (pv 0) (pa_cons (pe_callTy call_list_of (by rfl) g_list boot_list (pa_cons (pv 1) pa_nil)) pa_nil)) (pa_cons (pe_k G.lpared hr (by decide) (by rfl) (pa_cons (pe_callB (cr_sortedD Ord.strs (hu64 hr)) (by rfl) g_sorted boot_sorted (pa_cons (pv 1) pa_nil)) (pa_cons (pv 2) pa_nil))) pa_nil))) pa_nil))) (pss_one (ps_ret (pe_cmpR (op_eqD (hu64 hr)) (pe_ix ix_tup (pe_ix ix_list (pv 4) (pe_un un_neg pe_int) (fun _ _ => rfl)) pe_int (fun _ _ => rfl)) (pe_ix ix_tup (pe_ix ix_list (pv 4) (pe_un un_neg pe_int) (fun _ _ => rfl)) pe_int (fun _ _ => rfl)) (nomark _)))))), ?_⟩
    have fin : ∀ H', Gr H H' → Q (.bl true) H' := fun H' g => q H' hs (g.x _) (HL.gr g) (Nat.le_add_right _ _)
    have hok : ∀ {H1 : Hp} {l : Addr}, H1 l = some (.lst (nm.map V.str)) → HOk H1 (.ref l) nm := fun e => ⟨_, rfl, e, N5.nms, by have := N5.few; omega⟩
    refine ⟨_, rfl, Nat.zero_le _, fun l nl => ?_⟩
    have g1 : Gr H (upd H l (.lst [])) := Gr.new nl
    refine ⟨Du, l, _, rfl, rfl, g1.lst eDu, upd_same, _, rfl, ?_⟩
    generalize upd H l (.lst []) = H1 at g1
    rw [show (us.map fun q => V.ref q.1).isEmpty = us.isEmpty by cases us <;> rfl, eus]
    cases em : mtAll nm (rws tb) with
    | false =>
      refine iteT ⟨_, rfl, b, d, tb, n, rfl, B.gr g1, _, rfl, a, _, rfl, .inl (g1.seq hA), fun l2 nl2 => ?_⟩
      have g2 : Gr H1 (upd H1 l2 (.lst (nm.map V.str))) := Gr.new nl2
      have e2 : (upd H1 l2 (.lst (nm.map V.str))) l2 = some (.lst (nm.map V.str)) := upd_same
      generalize upd H1 l2 (.lst (nm.map V.str)) = H2 at g2 e2
      have g12 := g1.trans g2
      exact ⟨b, d, tb, n, _, rfl, B.gr g12, T, hN.gr g12, .inr (.inl ⟨nm, hok e2, em, fun H3 g3 => ⟨true, G.em, fun _ z nz => fin _ (g12.trans g3), fun z => nomatch z⟩⟩)⟩
    | true =>
      refine iteF ⟨_, rfl, .inl ⟨rfl, _, .inl (.inl (g1.lst HL.at_))⟩, _, rfl, b, d, tb, n, rfl, B.gr g1, _, rfl, a, _, rfl, .inl (g1.seq hA), fun l2 nl2 => ?_⟩
      have g2 : Gr H1 (upd H1 l2 (.lst (nm.map V.str))) := Gr.new nl2
      have e2 : (upd H1 l2 (.lst (nm.map V.str))) l2 = some (.lst (nm.map V.str)) := upd_same
      generalize upd H1 l2 (.lst (nm.map V.str)) = H2 at g2 e2
      have g12 := g1.trans g2
      refine ⟨b, d, tb, n, _, rfl, B.gr g12, T, hN.gr g12, .inl ⟨nm, hok e2, em, fun p1 H3 g3 np1 e3 => ?_⟩⟩
      have g13 := g12.trans g3
      refine ⟨_, rfl, sortedT (K := K) (g13.seq hA) fun l3 nl3 => ?_⟩
      have g4 : Gr H3 (upd H3 l3 (.lst ((srt nm).map V.str))) := Gr.new nl3
      have e4 : (upd H3 l3 (.lst ((srt nm).map V.str))) l3 = some (.lst ((srt nm).map V.str)) := upd_same
      generalize upd H3 l3 (.lst ((srt nm).map V.str)) = H4 at g4 e4
      have g14 := g13.trans g4
      refine ⟨_, rfl, l3, r, srt nm, ps, rfl, .inl (.inl e4), by rw [srt_len]; have := N5.few; omega, (LQr.gr g14).at_, (LQr.gr g14).own, fun p2 H5 g5 np2 e5 => ?_⟩
      have g15 := g14.trans g5
      refine ⟨(by show 2 ≤ sizeLine; rw [sizeLine_eq]; omega), fun pt npt => ?_⟩
      have g6 : Gr H5 (upd H5 pt (.tup [.ref p1, .ref p2])) := Gr.new npt
      have e6 : (upd H5 pt (.tup [.ref p1, .ref p2])) pt = some (.tup [.ref p1, .ref p2]) := upd_same
      generalize upd H5 pt (.tup [.ref p1, .ref p2]) = H6 at g6 e6
      have g16 := g15.trans g6
      have HL6 := HL.gr g16
      have same : pared (ps.map (·.2)) (srt nm) = pared (rws tb) (once nm) := by
        rw [pared_congr (fun x => (mts x).symm), once_same N5.nd fun y => Iff.rfl]
      rw [same] at e5
      generalize hpr : pared (rws tb) (once nm) = pr at e3 e5
      have prn : Nms pr := fun y hy => by
        rw [← hpr] at hy
        exact once_nms N5.nms y ((pared_lst (ris_once nm) (by rw [mtAll_once_l]; exact em)).2 y hy)
      have o1 := HL.out (g12.free np1)
      have o2 := HL.out (g14.free np2)
      have ot := HL.out (g15.free npt)
      have f1 : hide X H6 p1 = some (.lst (pr.map V.str)) := by rw [hide_in o1]; exact ((g4.trans g5).trans g6).lst e3
      have f2 : hide X H6 p2 = some (.lst (pr.map V.str)) := by rw [hide_in o2]; exact g6.lst e5
      have HL7 := HL6.add (p := pt) (x := .ref p1) (y := .ref p2) (d := dS pr) (by rw [hide_in ot]; exact e6) (dp_dS (.inl (.inl f1))) (dp_dS (.inl (.inl f2))) (shaped_dS prn)
      have sz : (hs.map fun h => V.ref h.p).length < sizeLine := by rw [List.length_map, sizeLine_eq]; omega
      refine ⟨L, _, _, rfl, rfl, HL6.at_, sz, ?_⟩
      have gx : GrX (fun z => z = L) H (upd H6 L (.lst ((hs.map fun h => V.ref h.p) ++ [.ref pt]))) := (g16.x _).put (.inl rfl) HL.nt
      generalize upd H6 L (.lst ((hs.map fun h => V.ref h.p) ++ [.ref pt])) = H7 at HL7 gx
      obtain ⟨k1, k2, k3, k4⟩ := HL7.own _ (List.mem_append_right _ (List.mem_singleton.mpr rfl))
      have un := gr_unhide X H7
      have at7 : H7 L = some (.lst ((hs.map fun h => V.ref h.p) ++ [.ref pt])) := by rw [HL7.at_, List.map_append]; rfl
      refine ⟨_, rfl, _, rfl, L, _, _, _, rfl, rfl, .inl (.inl at7), atI_last _ _, pt, _, _, _, rfl, rfl, .inl (.inl (un.tup k1)), rfl, ?_⟩
      refine ⟨_, rfl, _, rfl, L, _, _, _, rfl, rfl, .inl (.inl at7), atI_last _ _, pt, _, _, _, rfl, rfl, .inl (.inl (un.tup k1)), rfl, ?_⟩
      refine ⟨_, _, dp_gr un _ _ k2, dp_gr un _ _ k3, k4, k4, ?_⟩
      rw [shaped_refl k4]
      exact q H7 _ gx HL7 (by rw [List.length_append]; exact Nat.le_refl _)
end
end K1
end
section
set_option maxHeartbeats 8000000
namespace K1
open PySem PySem.Spec PyProof.Rows L2 Gr GxR Srx Skx Dcx
section
variable {P : Program} {w : World} {K : PySem.W.Frag} {mg : Str → Option Value} {base : Heap} {f C M : Addr} {fd : FuncData} {N : TabN} {R : ErN}
/-- all that a look takes: a book, its table, the names, the least sets, what is held -/
structure Look (K : PySem.W.Frag) (C : Addr) (N : TabN) (nm : List Str) (X : Addr → Prop) (H : Hp) (b d t a Du L : Addr) (tb tt : Tb1) (n : Int) (us : List (Addr × List Str)) (hs : List HelD) : Prop where
  sd : Sd13 C nm H b d t tb tt n
  tg : N.G H
  at_ : SqL K H a (nm.map V.str)
  na : ¬ X a
  n5 : Nm5 nm
  few : tt.length ≤ 20
  rb : ∀ e ∈ tb, ¬ X e.2.1
  rt : ∀ e ∈ tt, ¬ X e.2.1
  du : H Du = some (.lst (us.map fun q => V.ref q.1))
  ndu : ¬ X Du
  ul : ∀ u ∈ us, H u.1 = some (.lst (u.2.map V.str)) ∧ ¬ X u.1
  ug : us.map (·.2) = grown (rws tb)
  hl : HeldL K X H L hs
section
variable {nm : List Str} {X : Addr → Prop} {H H' : Hp} {b d t a Du L : Addr} {tb tt : Tb1} {n : Int} {us : List (Addr × List Str)} {hs hs' : List HelD}
theorem Look.gr (S : Look K C N nm X H b d t a Du L tb tt n us hs) (g : Gr H H') : Look K C N nm X H' b d t a Du L tb tt n us hs :=
  ⟨S.sd.gr g, S.tg.gr g, g.seq S.at_, S.na, S.n5, S.few, S.rb, S.rt, g.lst S.du, S.ndu, fun u hu => ⟨g.lst (S.ul u hu).1, (S.ul u hu).2⟩, S.ug, S.hl.gr g⟩
theorem Sd13.keep (S : Sd13 C nm H b d t tb tt n) (rb : ∀ e ∈ tb, ¬ X e.2.1) (rt : ∀ e ∈ tt, ¬ X e.2.1) (hl : HeldL K X H L hs) (g : GrX (fun z => z = L) H H') : Sd13 C nm H' b d t tb tt n := by
  obtain ⟨dx, eb⟩ := S.bk.ob
  have hL := hl.at_
  have n1 : ¬ b = L := fun z => by rw [z, hL] at eb; cases eb
  have n2 : ¬ d = L := fun z => by have := S.bk.dc; rw [z, hL] at this; cases this
  have n3 : ¬ t = L := fun z => by have := S.tbl.at_; rw [z, hL] at this; cases this
  have off : ∀ {z : Addr}, ¬ X z → ¬ z = L := fun h e => h (by rw [e]; exact hl.mem)
  refine ⟨S.bk.grx g n1 n2 fun e he => off (rb e he), S.ok, ⟨g.at_ _ _ n3 S.tbl.at_ (fun _ z => nomatch z), fun e he => g.lst (off (rt e he)) (S.tbl.own e he)⟩, S.eq, S.row⟩
theorem Look.keep (S : Look K C N nm X H b d t a Du L tb tt n us hs) (g : GrX (fun z => z = L) H H') (hl : HeldL K X H' L hs') : Look K C N nm X H' b d t a Du L tb tt n us hs' := by
  have off : ∀ {z : Addr}, ¬ X z → ¬ z = L := fun h e => h (by rw [e]; exact S.hl.mem)
  exact ⟨S.sd.keep S.rb S.rt S.hl g, S.tg.grx g, g.seq (off S.na) S.at_, S.na, S.n5, S.few, S.rb, S.rt, g.lst (off S.ndu) S.du, S.ndu, fun u hu => ⟨g.lst (off (S.ul u hu).2) (S.ul u hu).1, (S.ul u hu).2⟩, S.ug, hl⟩
/-- the first own row, by the table -/
theorem Sd13.first (S : Sd13 C nm H b d t tb tt n) (xs : List Str) (x : Str) : firstOwn tt xs x = firstOwn tb xs x := by
  have gen : ∀ tb : Tb1, firstOwn tb xs x = ((nr tb).find? fun z => decide (xs.filter z.2.contains = [x])).map (·.1) := fun tb => by
    unfold firstOwn nr
    rw [List.find?_map, Option.map_map]
    rfl
  rw [gen, gen, S.eq, List.find?_map, Option.map_map]
  have e : ((fun z : Int × List Str => decide (xs.filter z.2.contains = [x])) ∘ fun z : Int × List Str => (z.1, srt z.2)) = fun z => decide (xs.filter z.2.contains = [x]) := by
    funext z
    have h : ∀ y, (srt z.2).contains y = z.2.contains y := fun y => by
      rw [Bool.eq_iff_iff, List.contains_iff_mem, List.contains_iff_mem]
      exact srt_mem
    show decide (xs.filter (srt z.2).contains = [x]) = _
    rw [show xs.filter (srt z.2).contains = xs.filter z.2.contains from List.filter_congr fun y _ => h y]
  rw [e]
  rfl
end
theorem cut_first {α : Type} (g : α → V) (xs : List α) : ∃ zs : List α, cutV (xs.map g) none (some 1) = zs.map g ∧ (∀ z ∈ zs, z ∈ xs) ∧ zs.length ≤ 1 := by
  refine ⟨(xs.drop (HT.sIx (xs.map g).length 0 none)).take (HT.sIx (xs.map g).length (xs.map g).length (some 1) - HT.sIx (xs.map g).length 0 none), ?_, fun z hz => List.mem_of_mem_drop (List.mem_of_mem_take hz), ?_⟩
  · unfold cutV
    rw [List.map_take, List.map_drop]
  · rw [List.length_take, show (some (1 : Int)) = some ((1 : Nat) : Int) from rfl, HT.sIx_nat]
    omega
theorem cut_last {α : Type} (g : α → V) (xs : List α) : ∃ zs : List α, cutV (xs.map g) (some (-1)) none = zs.map g ∧ (∀ z ∈ zs, z ∈ xs) ∧ zs.length ≤ 1 := by
  refine ⟨(xs.drop (HT.sIx (xs.map g).length 0 (some (-1)))).take (HT.sIx (xs.map g).length (xs.map g).length none - HT.sIx (xs.map g).length 0 (some (-1))), ?_, fun z hz => List.mem_of_mem_drop (List.mem_of_mem_take hz), ?_⟩
  · unfold cutV
    rw [List.map_take, List.map_drop]
  · rw [List.length_take, HT.sIx_none]
    have e : HT.sIx (xs.map g).length 0 (some (-1)) = ((-1 : Int) + ((xs.map g).length : Nat)).toNat := rfl
    rw [e]
    omega
abbrev nOwned : List Str := ["_law_book", "_law_table", "_law_due", "_law_held", "_law_one_here"]
theorem scOwned : FnScope nOwned ["_law_book", "_law_table", "_law_due", "_law_held"] (defScope s_law_owned_x) := ⟨rfl, rfl, rfl, by decide +kernel, rfl, by decide +kernel, by decide +kernel⟩
def spOwned (K : PySem.W.Frag) (C : Addr) (N : TabN) : Sp := fun vs H Q _ => ∃ (nm : List Str) (X : Addr → Prop) (b d t a Du L : Addr) (tb tt : Tb1) (n : Int) (us : List (Addr × List Str)) (hs : List HelD), vs = [.ref b, .ref t, .ref Du, .ref L] ∧ Look K C N nm X H b d t a Du L tb tt n us hs ∧ hs.length ≤ 5000 ∧ HeldQ K X H L hs 2 Q
theorem ok_owned (F : FnP K "_law_owned" s_law_owned_x f fd) (G : E13b P w K mg base C N R) : FnOk P w K mg base CX0 7 f fd ["_law_book", "_law_table", "_law_due", "_law_held"] (spOwned K C N) := by
  have g_list := G.gLi
  refine F.ok scOwned (fun vs H Q E h => ?_) (fun cdv A outer s H vs Q E hr h => ?_)
  · obtain ⟨nm, X, b, d, t, a, Du, L, tb, tt, n, us, hs, rfl, _⟩ := h
    rfl
  · obtain ⟨nm, X, b, d, t, a, Du, L, tb, tt, n, us, hs, rfl, S, few, q⟩ := h
    refine ⟨_, PSs.nox (pss_cons (ps_for PassesOwn.never rfl (pi_list (pe_op op_cat (pe_slice sl_list (pv 2) po_none (po_some pe_int)) (pe_slice sl_list (pv 2) (po_some (pe_un un_neg pe_int)) po_none))) (pg_name (i := 4) scOwned.nd rfl (.inl rfl)) (pss_cons (ps_expr (pe_bm PySem.F.plainAttrs_list PySem.F.slot_list_append PySem.F.type_list_append mt_append (pv 3) (pa_cons (pe_tup (pa_cons (pe_m G.own G.bc.cl hr (by decide) paL (pv 0) (pa_cons (pe_callTy call_list_of (by rfl) g_list boot_list (pa_cons (pv 4) pa_nil)) pa_nil)) (pa_cons (pe_k G.lown hr (by decide) (by rfl) (pa_cons (pv 4) (pa_cons (pv 1) pa_nil))) pa_nil))) pa_nil))) (pss_one (ps_if (pt_cmpR (op_neD (hu64 hr)) (pe_ix ix_tup (pe_ix ix_list (pv 3) (pe_un un_neg pe_int) (fun _ _ => rfl)) pe_int (fun _ _ => rfl)) (pe_ix ix_tup (pe_ix ix_list (pv 3) (pe_un un_neg pe_int) (fun _ _ => rfl)) pe_int (fun _ _ => rfl)) (nomark _)) (pss_one (ps_ret pe_bl)) (pss_nil))))) (pss_one (ps_ret pe_bl))), ?_⟩
    have T := S.sd.ok
    have fewt := S.few
    have lb := S.sd.len
    have usL : us.length ≤ 4096 := by
      have h1 := congrArg List.length S.ug
      rw [List.length_map] at h1
      have := T.grown.1
      omega
    obtain ⟨z1, ez1, m1, l1⟩ := cut_first (fun q : Addr × List Str => V.ref q.1) us
    obtain ⟨z2, ez2, m2, l2⟩ := cut_last (fun q : Addr × List Str => V.ref q.1) us
    refine ⟨_, rfl, _, rfl, Du, _, rfl, .inl (.inl S.du), fun p1 np1 => ?_⟩
    rw [ez1]
    have g1 : Gr H (upd H p1 (.lst (z1.map fun q => V.ref q.1))) := Gr.new np1
    have e1 : (upd H p1 (.lst (z1.map fun q => V.ref q.1))) p1 = some (.lst (z1.map fun q => V.ref q.1)) := upd_same
    generalize upd H p1 (.lst (z1.map fun q => V.ref q.1)) = H1 at g1 e1
    refine ⟨_, rfl, _, rfl, _, rfl, Du, _, rfl, .inl (.inl (g1.lst S.du)), fun p2 np2 => ?_⟩
    rw [ez2]
    have g2 : Gr H1 (upd H1 p2 (.lst (z2.map fun q => V.ref q.1))) := Gr.new np2
    have e2 : (upd H1 p2 (.lst (z2.map fun q => V.ref q.1))) p2 = some (.lst (z2.map fun q => V.ref q.1)) := upd_same
    generalize upd H1 p2 (.lst (z2.map fun q => V.ref q.1)) = H2 at g2 e2
    refine ⟨p1, p2, _, _, rfl, rfl, g2.lst e1, e2, by rw [List.length_map, List.length_map]; exact Nat.le_of_lt (small1000 (by omega)), fun p3 np3 => ?_⟩
    rw [← List.map_append]
    have g3 : Gr H2 (upd H2 p3 (.lst ((z1 ++ z2).map fun q => V.ref q.1))) := Gr.new np3
    have e3 : (upd H2 p3 (.lst ((z1 ++ z2).map fun q => V.ref q.1))) p3 = some (.lst ((z1 ++ z2).map fun q => V.ref q.1)) := upd_same
    generalize upd H2 p3 (.lst ((z1 ++ z2).map fun q => V.ref q.1)) = H3 at g3 e3
    have g03 := (g1.trans g2).trans g3
    have mz : ∀ z ∈ z1 ++ z2, z ∈ us := fun z hz => (List.mem_append.mp hz).elim (m1 z) (m2 z)
    have lz : (z1 ++ z2).length ≤ 2 := by rw [List.length_append]; omega
    generalize z1 ++ z2 = zs at e3 mz lz
    have S3 := S.gr g03
    have n3 : ¬ X p3 := S.hl.out ((g1.trans g2).free np3)
    refine ⟨p3, rfl, ⟨_, .inl (.inl e3)⟩, for_list (K := K) (xs := zs.map fun q => V.ref q.1) (fun i σ H4 => GrX (fun z => z = L) H3 H4 ∧ H4 p3 = some (.lst (zs.map fun q => V.ref q.1)) ∧ (∃ hs', Look K C N nm X H4 b d t a Du L tb tt n us hs' ∧ hs'.length ≤ hs.length + i) ∧ ∃ v4, σ = [some (.ref b), some (.ref t), some (.ref Du), some (.ref L), v4])
      ⟨GrX.refl _ _, e3, ⟨hs, S3, Nat.le_refl _⟩, none, rfl⟩ (fun i σ H4 _ h => .inl (.inl h.2.1)) (fun i x σ H4 hx h => ?_) (fun σ H4 h => ?_)⟩
    · obtain ⟨gx4, e4, ⟨hs4, S4, len4⟩, v4, rfl⟩ := h
      obtain ⟨u0, hu0, rfl⟩ := get_map hx
      have mu := mz u0 (List.mem_of_getElem? hu0)
      have hi : i < zs.length := (List.getElem?_eq_some_iff.mp hu0).1
      have umem : u0.2 ∈ grown (rws tb) := by rw [← S.ug]; exact List.mem_map.mpr ⟨u0, mu, rfl⟩
      have lst0 := grown_mem.mp umem
      obtain ⟨rs0, nm0, ln0⟩ := T.grown.2 u0.2 umem
      have once0 := once_ris rs0
      have some0 := (own_lst rs0 lst0.2.1).mpr lst0
      have eu := (S4.ul u0 mu).1
      refine ⟨_, rfl, .inl ⟨rfl, _, .inl (.inl S4.hl.at_)⟩, _, rfl, b, d, tb, n, rfl, S4.sd.bk, _, rfl, u0.1, _, rfl, .inl (.inl (.inl eu)), fun l nl => ?_⟩
      have g5 : Gr H4 (upd H4 l (.lst (u0.2.map V.str))) := Gr.new nl
      have e5 : (upd H4 l (.lst (u0.2.map V.str))) l = some (.lst (u0.2.map V.str)) := upd_same
      generalize upd H4 l (.lst (u0.2.map V.str)) = H5 at g5 e5
      have S5 := S4.gr g5
      refine ⟨b, d, tb, n, _, rfl, S5.sd.bk, T, S5.tg, .inl ⟨u0.2, ⟨l, rfl, e5, nm0, by omega⟩, lst0.2.1, by rw [once0]; exact some0, fun q1 H6 ts g6 nq1 eq1 ow1 et1 => ?_⟩⟩
      rw [once0] at et1
      have S6 := S5.gr g6
      refine ⟨_, rfl, _, rfl, u0.1, t, u0.2, tt, rfl, .inl (.inl (S6.ul u0 mu).1), nm0, by omega, S6.sd.tbl, S6.sd.pw, by omega, fun x hx => by rw [S.sd.first]; exact some0 x hx, fun q2 H7 ts2 g7 nq2 OP2 nts2 et2 => ?_⟩
      have et2 : ts2.map (·.2) = u0.2.map fun x => (x, (firstOwn tb u0.2 x).getD 0) := by
        rw [et2]
        exact List.map_congr_left fun x _ => by rw [S.sd.first]
      refine ⟨(by show 2 ≤ sizeLine; rw [sizeLine_eq]; omega), fun pt npt => ?_⟩
      have g8 : Gr H7 (upd H7 pt (.tup [.ref q1, .ref q2])) := Gr.new npt
      have e8 : (upd H7 pt (.tup [.ref q1, .ref q2])) pt = some (.tup [.ref q1, .ref q2]) := upd_same
      generalize upd H7 pt (.tup [.ref q1, .ref q2]) = H8 at g8 e8
      have g68 := g7.trans g8
      have S8 := S6.gr g68
      have HL4 := S4.hl
      have o1 := HL4.out (g5.free nq1)
      have o2 := HL4.out ((g5.trans g6).free nq2)
      have ot := HL4.out (((g5.trans g6).trans g7).free npt)
      have un := gr_unhide X H8
      have D1 : Dp K (hide X H8) (.ref q1) (sisD (ts.map (·.2))) := dp_sis (by rw [hide_in o1]; exact g68.lst eq1) fun t' ht' => by
        obtain ⟨h1, h2, h3⟩ := ow1 t' ht'
        rw [hide_in (HL4.out (g5.free h1))]
        exact g68.tup h3
      have D2 : Dp K (hide X H8) (.ref q2) (sisD (ts.map (·.2))) := by
        rw [et1, ← et2]
        exact dp_sis (by rw [hide_in o2]; exact g8.lst OP2.at_) fun t' ht' => by
          rw [hide_in (HL4.out ((g5.trans g6).free (nts2 t' ht')))]
          exact g8.tup (OP2.own t' ht')
      have sh : SeqAt.shaped (sisD (ts.map (·.2))) = true := sisD_sh fun z hz => by
        rw [et1] at hz
        obtain ⟨x, hx, rfl⟩ := List.mem_map.mp hz
        exact nm0 x hx
      have HL9 := S8.hl.add (p := pt) (x := .ref q1) (y := .ref q2) (by rw [hide_in ot]; exact e8) D1 D2 sh
      have sz : (hs4.map fun h => V.ref h.p).length < sizeLine := by rw [List.length_map, sizeLine_eq]; omega
      have gx9 : GrX (fun z => z = L) H4 (upd H8 L (.lst ((hs4.map fun h => V.ref h.p) ++ [.ref pt]))) := ((((g5.trans g6).trans g68)).x _).put (.inl rfl) HL4.nt
      refine ⟨L, _, _, rfl, rfl, S8.hl.at_, sz, ?_⟩
      generalize upd H8 L (.lst ((hs4.map fun h => V.ref h.p) ++ [.ref pt])) = H9 at HL9 gx9
      have S9 := S4.keep gx9 HL9
      obtain ⟨k1, k2, k3, k4⟩ := HL9.own _ (List.mem_append_right _ (List.mem_singleton.mpr rfl))
      have un9 := gr_unhide X H9
      have at9 : H9 L = some (.lst ((hs4.map fun h => V.ref h.p) ++ [.ref pt])) := by rw [HL9.at_, List.map_append]; rfl
      refine ⟨_, rfl, _, rfl, L, _, _, _, rfl, rfl, .inl (.inl at9), atI_last _ _, pt, _, _, _, rfl, rfl, .inl (.inl (un9.tup k1)), rfl, ?_⟩
      refine ⟨_, rfl, _, rfl, L, _, _, _, rfl, rfl, .inl (.inl at9), atI_last _ _, pt, _, _, _, rfl, rfl, .inl (.inl (un9.tup k1)), rfl, ?_⟩
      refine ⟨_, _, dp_gr un9 _ _ k2, dp_gr un9 _ _ k3, k4, k4, _, rfl, ?_⟩
      rw [shaped_refl k4]
      refine iteF ⟨gx4.trans gx9, gx9.lst (fun z => n3 (by rw [z]; exact HL4.mem)) e4, ⟨_, S9, by rw [List.length_append]; show hs4.length + 1 ≤ _; omega⟩, _, rfl⟩
    · obtain ⟨gx4, e4, ⟨hs4, S4, len4⟩, v4, rfl⟩ := h
      rw [List.length_map] at len4
      exact q H4 hs4 ((g03.x _).trans gx4) S4.hl (by omega)
end
end K1
end
section
set_option maxHeartbeats 8000000
namespace K1
open PySem PySem.Spec PyProof.Rows L2 Gr GxR Srx Skx Dcx
section
variable {P : Program} {w : World} {K : PySem.W.Frag} {mg : Str → Option Value} {base : Heap} {f C M : Addr} {fd : FuncData} {N : TabN} {R : ErN}
/-- [table[n] for n in sorted(list(table))] -/
theorem rows_te {K : PySem.W.Frag} {σ : L2.St} {i j : Nat} {H : Hp} {Q : VK} {t : Addr} {tt : Tb1} (T : Tbl H t tt) (pw : (nums tt).Pairwise (· < ·)) (few : tt.length ≤ 60)
    (q : ∀ D H', Gr H H' → H D = none → H' D = some (.lst (tt.map fun e => V.ref e.2.1)) → Q (.ref D) H')
    (hi0 : σ[i]? = some (some (.ref t)) := by rfl) (hw : ∀ v, wipe ((wipe σ [j]).set j (some v)) [j] = wipe σ [j] := by intro _; rfl) (hi : ∀ v : V, ((wipe σ [j]).set j (some v))[i]? = some (some (.ref t)) := by intro _; rfl) (hj : ∀ v : V, ((wipe σ [j]).set j (some v))[j]? = some (some v) := by intro _; rfl) :
    tLc (iList K (tCB (rSorted K) (tCons (tCB rListD (tCons (tVar i) tNil)) tNil))) (gName j) tYes (tDGet (tVar i) (tVar j)) [j] σ H Q := by
  have ndn := pw_nodup pw
  refine ⟨_, hi0, t, _, rfl, T.at_, fun l nl => ?_⟩
  rw [kvB_keys]
  have g1 : Gr H (upd H l (.lst ((nums tt).map V.int))) := Gr.new nl
  have el : (upd H l (.lst ((nums tt).map V.int))) l = some (.lst ((nums tt).map V.int)) := upd_same
  generalize upd H l (.lst ((nums tt).map V.int)) = H1 at g1 el
  refine sortedI (K := K) (.inl (.inl el)) pw (by unfold nums; rw [List.length_map]; omega) fun l2 nl2 => ⟨l2, rfl, ⟨_, .inl (.inl upd_same)⟩, fun D nD => ?_⟩
  have g2 : Gr H1 (upd H1 l2 (.lst ((nums tt).map V.int))) := Gr.new nl2
  have el2 : (upd H1 l2 (.lst ((nums tt).map V.int))) l2 = some (.lst (tt.map fun e => V.int e.1)) := by rw [upd_same]; unfold nums; rw [List.map_map]; rfl
  generalize upd H1 l2 (.lst ((nums tt).map V.int)) = H2 at g2 el2 nD
  have g02 := g1.trans g2
  refine lc_mapW (K := K) (fun e : Int × Addr × List Str => V.int e.1) (fun e => V.ref e.2.1) (.inl (.inl el2)) (small1000 (by omega)) nD hw (fun e he H4 Q' g4 hq => ?_) (fun H3 g3 e3 => q D H3 (g02.trans g3) (g02.free nD) e3)
  have z : DGet H4 t (V.int e.1) _ := DGet.k (k := Sum.inl e.1) (T.gr (g02.trans g4)).at_
  rw [kvB_get ndn he] at z
  exact ⟨_, hi _, _, hj _, t, _, rfl, z, hq _ (Gr.refl _)⟩
/-- the same, stored -/
theorem rows_ts {K : PySem.W.Frag} {σ : L2.St} {i j o : Nat} {vs : List Nat} {H : Hp} {D : Ends} {u : TS} {t : Addr} {tt : Tb1} (T : Tbl H t tt) (pw : (nums tt).Pairwise (· < ·)) (few : tt.length ≤ 60)
    (q : ∀ A H', Gr H H' → H A = none → H' A = some (.lst (tt.map fun e => V.ref e.2.1)) → u D (σ.set o (some (.ref A))) H')
    (hv : vs = [j] := by rfl) (hi0 : σ[i]? = some (some (.ref t)) := by rfl) (hw : ∀ v, wipe ((wipe σ [j]).set j (some v)) [j] = wipe σ [j] := by intro _; rfl) (hi : ∀ v : V, ((wipe σ [j]).set j (some v))[i]? = some (some (.ref t)) := by intro _; rfl) (hj : ∀ v : V, ((wipe σ [j]).set j (some v))[j]? = some (some v) := by intro _; rfl) :
    tSeq (tAsg (tLc (iList K (tCB (rSorted K) (tCons (tCB rListD (tCons (tVar i) tNil)) tNil))) (gName j) tYes (tDGet (tVar i) (tVar j)) vs) (gName o)) u D σ H := by
  subst hv
  exact rows_te (Q := fun x H1 => gName o x σ H1 (u D)) T pw few q hi0 hw hi hj
structure E13d (P : Program) (w : World) (K : PySem.W.Frag) (mg : Str → Option Value) (base : Heap) (C : Addr) (N : TabN) (R : ErN) : Prop where
  bc : BkC K mg C
  joined : MCalls P w K mg base (L2.CX P w) 7 C "joined" (spJoined K C N R (fun A B => A ++ B))
  crossed : MCalls P w K mg base (L2.CX P w) 7 C "crossed" (spJoined K C N R unions)
  rows : MCalls P w K mg base CX0 1 C "rows" (spBRows C)
  numd : Calls P w K mg base CX0 1 "_law_numbered" (spNumbered K)
  gL : mg "len" = none
  gLi : mg "list" = none
  gS : mg "sorted" = none
theorem rowsOk5 {nm : List Str} (N5 : Nm5 nm) {rows : List (List Str)} (h : ∀ r ∈ rows, r.Nodup ∧ ∀ y ∈ r, y ∈ nm) (len : rows.length ≤ 30) : RowsOk rows := by
  have few := N5.few
  refine ⟨fun r hr => ?_, len, ?_⟩
  · obtain ⟨h1, h2⟩ := h r hr
    have h3 := (sublist_of (ris_srt N5.nd) (ris_srt h1) fun y hy => srt_mem.mpr (h2 y (srt_mem.mp hy))).length_le
    rw [srt_len, srt_len] at h3
    exact ⟨fun y hy => N5.nms y (h2 y hy), h1, by omega⟩
  · have h3 := (sublist_of (ris_srt N5.nd) (ris_allN rows) fun y hy => by
      obtain ⟨r, hr, hy⟩ := allN_iff.mp hy
      exact srt_mem.mpr ((h r hr).2 y hy)).length_le
    rw [srt_len] at h3
    omega
section
variable {nm : List Str} {H : Hp} {b d t : Addr} {tb tt : Tb1} {n : Int}
theorem Sd13.rowB (S : Sd13 C nm H b d t tb tt n) : ∀ r ∈ K1.rws tb, r.Nodup ∧ ∀ y ∈ r, y ∈ nm := fun r hr => by
  rw [S.rws] at hr
  obtain ⟨r0, h0, rfl⟩ := List.mem_map.mp hr
  obtain ⟨h1, h2⟩ := S.row r0 h0
  exact ⟨(ris_srt h1).nodup, fun y hy => h2 y (srt_mem.mp hy)⟩
theorem Sd13.onceB (S : Sd13 C nm H b d t tb tt n) : (K1.rws tb).map once = (K1.rws tt).map srt := by
  rw [once_all fun r hr => (S.ok.rlen hr).1, S.rws]
end
/-- the law's own rows of two books crossed -/
def wideL (A B : List (List Str)) : List (List Str) := A.flatMap fun r => B.map fun m => r ++ m.filter fun y => decide (y ∉ r)
theorem wide_eq {A B : List (List Str)} (hA : ∀ r ∈ A, r.Nodup) (hB : ∀ r ∈ B, r.Nodup) : (wideL A B).map srt = (unions (A.map srt) (B.map srt)).map once := by
  unfold wideL unions
  rw [List.map_flatMap, List.map_flatMap, List.flatMap_map]
  refine congrArg List.flatten (List.map_congr_left fun r hr => ?_)
  rw [List.map_map, List.map_map, List.map_map]
  refine List.map_congr_left fun m hm => ?_
  show srt (r ++ m.filter fun y => decide (y ∉ r)) = once (once (srt r ++ srt m))
  rw [once_ris (ris_once _)]
  refine (once_same ?_ fun y => ?_).symm
  · refine List.nodup_append.mpr ⟨hA r hr, (hB m hm).sublist List.filter_sublist, fun a ha b hb z => ?_⟩
    subst z
    have := (List.mem_filter.mp hb).2
    rw [decide_eq_true_eq] at this
    exact this ha
  · rw [List.mem_append, List.mem_append, srt_mem, srt_mem, List.mem_filter, decide_eq_true_eq]
    constructor
    · rintro (h | h)
      · exact .inl h
      · by_cases h2 : y ∈ r
        · exact .inl h2
        · exact .inr ⟨h, h2⟩
    · rintro (h | ⟨h, _⟩)
      · exact .inl h
      · exact .inr h
theorem tb_rows2 (tt : Tb1) : (tt.map fun e => (e.2.1, e.2.2)).map (·.2) = rws tt := tb_rows tt
theorem tb_refs (tt : Tb1) : (tt.map fun e => V.ref e.2.1) = (tt.map fun e => (e.2.1, e.2.2)).map fun q : Addr × List Str => V.ref q.1 := by
  rw [List.map_map]
  rfl
abbrev nTwo : List Str := ["_law_book", "_law_table", "_law_other_here", "_law_beside", "_law_rows", "_law_number", "_law_others", "_law_wide", "_law_row_here", "_law_name", "_law_more"]
theorem scTwo : FnScope nTwo ["_law_book", "_law_table", "_law_other_here", "_law_beside"] (defScope s_law_two_x) := ⟨rfl, rfl, rfl, by decide +kernel, rfl, by decide +kernel, by decide +kernel⟩
def spTwo (C : Addr) (N : TabN) : Sp := fun vs H Q _ => ∃ (nm : List Str) (b d t b2 d2 t2 : Addr) (tb tt tb2 tt2 : Tb1) (n n2 : Int), vs = [.ref b, .ref t, .ref b2, .ref t2] ∧ Sd13 C nm H b d t tb tt n ∧ Sd13 C nm H b2 d2 t2 tb2 tt2 n2 ∧ Nm5 nm ∧ N.G H ∧ tt.length ≤ 20 ∧ tt2.length ≤ 20 ∧ ∀ H', Gr H H' → Q (.bl true) H'
theorem ok_two (F : FnP K "_law_two" s_law_two_x f fd) (G : E13d P w K mg base C N R) : FnOk P w K mg base CX0 8 f fd ["_law_book", "_law_table", "_law_other_here", "_law_beside"] (spTwo C N) := by
  have g_len := G.gL
  have g_list := G.gLi
  have g_sorted := G.gS
  refine F.ok scTwo (fun vs H Q E h => ?_) (fun cdv A outer s H vs Q E hr h => ?_)
  · obtain ⟨nm, b, d, t, b2, d2, t2, tb, tt, tb2, tt2, n, n2, rfl, _⟩ := h
    rfl
  · obtain ⟨nm, b, d, t, b2, d2, t2, tb, tt, tb2, tt2, n, n2, rfl, S, S2, N5, hN, few, few2, q⟩ := h
    refine ⟨_, PSs.nox (pss_cons (ps_setLc (i := 4) (own := [("_law_number", 5)]) (g := gName 5) (tt := tYes) rfl scTwo.nd rfl rfl (sw_true rfl rfl rfl (by decide +kernel)) (pi_list (pe_callB cr_sorted (by rfl) g_sorted boot_sorted (pa_cons (pe_callTy (call_list_dK rfl) (by rfl) g_list boot_list (pa_cons (pv 1) pa_nil)) pa_nil))) (blkOk_by (N := nTwo) (sc := defScope s_law_two_x) (by decide +kernel)) (fun _ _ _ _ _ => (pg_name (i := 5) scTwo.nd rfl (.inl rfl))) (fun _ _ _ _ _ => pts_nil) (fun _ _ _ _ _ => (pe_dget (hu_of hr) (pv 1) (pv 5) (fun _ _ => rfl)))) (pss_cons (ps_setLc (i := 6) (own := [("_law_number", 5)]) (g := gName 5) (tt := tYes) rfl scTwo.nd rfl rfl (sw_true rfl rfl rfl (by decide +kernel)) (pi_list (pe_callB cr_sorted (by rfl) g_sorted boot_sorted (pa_cons (pe_callTy (call_list_dK rfl) (by rfl) g_list boot_list (pa_cons (pv 3) pa_nil)) pa_nil))) (blkOk_by (N := nTwo) (sc := defScope s_law_two_x) (by decide +kernel)) (fun _ _ _ _ _ => (pg_name (i := 5) scTwo.nd rfl (.inl rfl))) (fun _ _ _ _ _ => pts_nil) (fun _ _ _ _ _ => (pe_dget (hu_of hr) (pv 3) (pv 5) (fun _ _ => rfl)))) (pss_cons (ps_if (pt_cmpR op_gt (pe_op op_add (pe_callB call_len_seq (by rfl) g_len boot_len (pa_cons (pv 4) pa_nil)) (pe_callB call_len_seq (by rfl) g_len boot_len (pa_cons (pv 6) pa_nil))) pe_int (nomark _)) (pss_one (ps_ret pe_bl)) (pss_nil)) (pss_cons (ps_if (pt_cmpR (op_neD (hu64 hr)) (pe_m0 G.rows G.bc.cl hr (by decide) pa0 (pe_m G.joined G.bc.cl hr (by decide) paL (pv 0) (pa_cons (pv 2) pa_nil))) (pe_k G.numd hr (by decide) (by rfl) (pa_cons (pe_op op_cat (pv 4) (pv 6)) pa_nil)) (nomark _)) (pss_one (ps_ret pe_bl)) (pss_nil)) (pss_cons (ps_if (pt_cmpR op_gt (pe_op op_mul (pe_callB call_len_seq (by rfl) g_len boot_len (pa_cons (pv 4) pa_nil)) (pe_callB call_len_seq (by rfl) g_len boot_len (pa_cons (pv 6) pa_nil))) pe_int (nomark _)) (pss_one (ps_ret pe_bl)) (pss_nil)) (pss_cons (ps_set (i := 7) scTwo.nd rfl (.inl rfl) (pe_lst pa_nil)) (pss_cons (ps_for PassesOwn.never rfl (pi_list (pv 4)) (pg_name (i := 8) scTwo.nd rfl (.inr rfl)) (pss_one (ps_set (i := 7) scTwo.nd rfl (.inl rfl) (pe_op op_cat (pv 7) (pe_lc (own := [("_law_more", 10)]) (g := gName 10) (tt := tYes) rfl scTwo.nd (pi_list (pv 6)) (blkOk_by (N := nTwo) (sc := defScope s_law_two_x) (by decide +kernel)) (fun _ _ _ _ _ => (pg_name (i := 10) scTwo.nd rfl (.inl rfl))) (fun _ _ _ _ _ => pts_nil) (fun _ _ _ _ _ => (pe_op op_cat (pv 8) (pe_lc (own := [("_law_name", 9)]) (g := gName 9) (wi := iList K (tVar 10)) rfl scTwo.nd (pi_list (pv 10)) (blkOk_by (N := nTwo) (sc := relS _ (defScope s_law_two_x)) (by decide +kernel)) (fun _ _ _ _ _ => (pg_name (i := 9) scTwo.nd rfl (.inl rfl))) (fun _ _ _ _ _ => pts_one (pt_cmpR (r := rIn K true) op_notIn_seq (pv 9) (pv 8) rfl)) (fun _ _ _ _ _ => (pv 9)))))))))) (pss_one (ps_ret (pe_cmpR (op_eqD (hu64 hr)) (pe_m0 G.rows G.bc.cl hr (by decide) pa0 (pe_m G.crossed G.bc.cl hr (by decide) paL (pv 0) (pa_cons (pv 2) pa_nil))) (pe_k G.numd hr (by decide) (by rfl) (pa_cons (pv 7) pa_nil)) (nomark _))))))))))), ?_⟩
    refine rows_ts S.tbl S.pw (by omega) fun Rw H1 g1 nRw eRw => ?_
    refine rows_ts (S2.tbl.gr g1) S2.pw (by omega) fun Ot H2 g2 nOt eOt => ?_
    have g02 := g1.trans g2
    have eRw2 := g2.lst eRw
    rw [tb_refs] at eRw2 eOt
    have r1 : (rws tt).length = tt.length := rws_len tt
    have r2 : (rws tt2).length = tt2.length := rws_len tt2
    have L1 : LQ K H2 Rw (tt.map fun e => (e.2.1, e.2.2)) := ⟨.inl (.inl eRw2), fun q hq => (S.gr g02).lq q hq⟩
    have L2 : LQ K H2 Ot (tt2.map fun e => (e.2.1, e.2.2)) := ⟨.inl (.inl eOt), fun q hq => (S2.gr g02).lq q hq⟩
    refine ⟨_, rfl, Rw, _, rfl, .inl (.inl (.inl eRw2)), _, rfl, Ot, _, rfl, .inl (.inl (.inl eOt)), _, _, rfl, rfl, _, _, rfl, rfl, _, rfl, ?_⟩
    rw [List.length_map, List.length_map, List.length_map, List.length_map]
    by_cases big : 30 < tt.length + tt2.length
    · rw [decide_eq_true (by omega)]
      exact iteT (q _ g02)
    rw [decide_eq_false (by omega)]
    refine iteF ?_
    -- joined
    have J1 : RowsOk (rws tb ++ rws tb2) := rowsOk5 N5 (fun r hr => (List.mem_append.mp hr).elim (S.rowB r) (S2.rowB r)) (by rw [List.length_append, S.rws, S2.rws, List.length_map, List.length_map, r1, r2]; omega)
    have Sx := S.gr g02
    have Sy := S2.gr g02
    refine ⟨_, rfl, b, d, tb, n, rfl, Sx.bk, _, rfl, b, d, tb, n, b2, d2, tb2, n2, rfl, Sx.bk, Sx.ok, Sy.bk, Sy.ok, hN.gr g02, .inl ⟨J1, fun b' d' H3 tb' g3 NB => ?_⟩⟩
    refine ⟨b', d', tb', _, rfl, NB.bk, b', d', tb', _, rfl, NB.bk, NB.ok, fun p H4 rs g4 TP er => ?_⟩
    have g24 := g3.trans g4
    have eRw4 := g24.lst eRw2
    have eOt4 := g24.lst eOt
    refine ⟨_, rfl, _, rfl, Rw, Ot, _, _, rfl, rfl, eRw4, eOt4, by rw [List.length_map, List.length_map, List.length_map, List.length_map]; exact Nat.le_of_lt (small1000 (by omega)), fun Cc nC => ?_⟩
    rw [← List.map_append]
    have g5 : Gr H4 (upd H4 Cc (.lst (((tt.map fun e => (e.2.1, e.2.2)) ++ tt2.map fun e => (e.2.1, e.2.2)).map fun q : Addr × List Str => V.ref q.1))) := Gr.new nC
    have e5 : (upd H4 Cc (.lst (((tt.map fun e => (e.2.1, e.2.2)) ++ tt2.map fun e => (e.2.1, e.2.2)).map fun q : Addr × List Str => V.ref q.1))) Cc = some (.lst (((tt.map fun e => (e.2.1, e.2.2)) ++ tt2.map fun e => (e.2.1, e.2.2)).map fun q : Addr × List Str => V.ref q.1)) := upd_same
    generalize upd H4 Cc (.lst (((tt.map fun e => (e.2.1, e.2.2)) ++ tt2.map fun e => (e.2.1, e.2.2)).map fun q : Addr × List Str => V.ref q.1)) = H5 at g5 e5
    have g25 := g24.trans g5
    refine ⟨Cc, _, rfl, .inl (.inl e5), fun q hq => (List.mem_append.mp hq).elim ((L1.gr g25).own q) ((L2.gr g25).own q), by rw [List.length_append, List.length_map, List.length_map]; omega, fun v H6 g6 dv => ?_⟩
    have g56 := g5.trans g6
    have dl := (TP.due.gr g56).dp (K := K)
    rw [er] at dl
    have sameJ : numD (((tt.map fun e => (e.2.1, e.2.2)) ++ tt2.map fun e => (e.2.1, e.2.2)).map (·.2)) = pairsD (nr tb') := by
      rw [numD_eq, NB.rows, List.map_append, tb_rows2, tb_rows2, List.map_append, List.map_append, S.onceB, S2.onceB]
    rw [sameJ] at dv
    have shJ := shaped_pairs NB.ok.nmsRows
    refine ⟨_, _, dl, dv, shJ, shJ, _, rfl, ?_⟩
    rw [eqv_pairs, decide_eq_true rfl]
    refine iteF ?_
    have g26 := g25.trans g6
    have g06 := g02.trans g26
    have L16 := L1.gr g26
    have L26 := L2.gr g26
    have eRw6 := g26.lst eRw2
    have eOt6 := g26.lst eOt
    refine ⟨_, rfl, Rw, _, rfl, .inl (.inl (.inl eRw6)), _, rfl, Ot, _, rfl, .inl (.inl (.inl eOt6)), _, _, rfl, rfl, .inl ?_, _, _, rfl, rfl, _, rfl, ?_⟩
    · rw [List.length_map, List.length_map]
      constructor <;> omega
    rw [List.length_map, List.length_map, List.length_map, List.length_map]
    have em : ((tt.length : Nat) : Int) * ((tt2.length : Nat) : Int) = ((tt.length * tt2.length : Nat) : Int) := by push_cast; rfl
    rw [em]
    by_cases big2 : 30 < tt.length * tt2.length
    · rw [decide_eq_true (by omega)]
      exact iteT (q _ g06)
    rw [decide_eq_false (by omega)]
    refine iteF ?_
    -- the rows crossed by the law's own look
    refine ⟨Nat.zero_le _, fun W0 nW0 => ?_⟩
    have g7 : Gr H6 (upd H6 W0 (.lst (([] : List (Addr × List Str)).map fun q => V.ref q.1))) := Gr.new nW0
    have e7 : (upd H6 W0 (.lst (([] : List (Addr × List Str)).map fun q => V.ref q.1))) W0 = some (.lst (([] : List (Addr × List Str)).map fun q => V.ref q.1)) := upd_same
    rw [show upd H6 W0 (.lst []) = upd H6 W0 (.lst (([] : List (Addr × List Str)).map fun q => V.ref q.1)) from rfl]
    generalize upd H6 W0 (.lst (([] : List (Addr × List Str)).map fun q => V.ref q.1)) = H7 at g7 e7
    have eRw7 := g7.lst eRw6
    have eOt7 := g7.lst eOt6
    have L17 := L16.gr g7
    have L27 := L26.gr g7
    have flen : ∀ A : List (List Str), (A.flatMap fun r => (rws tt2).map fun m => r ++ m.filter fun y => decide (y ∉ r)).length = A.length * tt2.length := fun A => by rw [flat_len (fun r m : List Str => r ++ m.filter fun y => decide (y ∉ r)) (rws tt2) A, r2]
    refine ⟨_, rfl, Rw, rfl, ⟨_, .inl (.inl eRw7)⟩, for_list (K := K) (xs := (tt.map fun e => (e.2.1, e.2.2)).map fun q : Addr × List Str => V.ref q.1) (fun i σ H8 => Gr H7 H8 ∧ (∃ Wd ks, LL H8 Wd ks ∧ ks.map (·.2) = wideL ((rws tt).take i) (rws tt2) ∧ ∃ v8, σ = [some (.ref b), some (.ref t), some (.ref b2), some (.ref t2), some (.ref Rw), none, some (.ref Ot), some (.ref Wd), v8, none, none]))
      ⟨Gr.refl _, W0, [], ⟨e7, fun _ z => absurd z List.not_mem_nil⟩, rfl, none, rfl⟩ (fun i σ H8 _ h => .inl (.inl (h.1.lst eRw7))) (fun i x σ H8 hx h => ?_) (fun σ H8 h => ?_)⟩
    · obtain ⟨g8, Wd, ks, LW, ek, v8, rfl⟩ := h
      obtain ⟨q0, hq0, rfl⟩ := get_map hx
      have mq := List.mem_of_getElem? hq0
      have hi : i < tt.length := by have := (List.getElem?_eq_some_iff.mp hq0).1; rw [List.length_map] at this; exact this
      have q0r : (rws tt)[i]? = some q0.2 := by rw [← tb_rows2, List.getElem?_map, hq0]; rfl
      have ow := (L17.gr g8).own q0 mq
      have kl : ks.length = i * tt2.length := by
        have h1 := congrArg List.length ek
        unfold wideL at h1
        rw [List.length_map, flen, List.length_take, r1, Nat.min_eq_left (by omega)] at h1
        exact h1
      have ml : i * tt2.length + tt2.length ≤ 400 := by
        have h1 : (i + 1) * tt2.length ≤ 20 * 20 := Nat.mul_le_mul (by omega) few2
        rw [Nat.succ_mul] at h1
        omega
      obtain ⟨er0, hr0, e0⟩ := List.mem_map.mp mq
      have ow0 : H8 q0.1 = some (.lst (q0.2.map V.str)) := by
        have h1 := ((S.gr g06).tbl.gr (g7.trans g8)).own er0 hr0
        rw [← e0]
        exact h1
      refine ⟨_, rfl, _, rfl, Ot, rfl, ⟨_, .inl (.inl (g8.lst eOt7))⟩, fun D nD => lc_fresh3 (K := K) (ps0 := tt2.map fun e => (e.2.1, e.2.2)) (fun m => q0.2 ++ m.filter fun y => decide (y ∉ q0.2)) (.inl (.inl (g8.lst eOt7))) (small1000 (by rw [List.length_map]; omega)) nD (fun _ => rfl) (fun u0 hu0 H9 Q' g9 hq => ?_) (fun H9 rs9 g9 TD ed => ?_)⟩
      · have ou := (L27.gr (g8.trans g9)).own u0 hu0
        obtain ⟨eu0, hu1, e1⟩ := List.mem_map.mp hu0
        have ul : u0.2.length ≤ 5 := (S2.nmsR N5 u0.2 (by rw [← e1]; exact List.mem_map.mpr ⟨eu0, hu1, rfl⟩)).2
        have ql : q0.2.length ≤ 5 := (S.nmsR N5 q0.2 (by rw [← e0]; exact List.mem_map.mpr ⟨er0, hr0, rfl⟩)).2
        refine ⟨_, rfl, _, rfl, u0.1, rfl, ⟨_, ou⟩, fun D2 nD2 => lc_filtT (K := K) (fun y => decide (y ∉ q0.2)) ou (small1000 (by omega)) nD2 (fun _ => rfl) (fun _ => rfl) (fun y hy H10 Qb g10 hq2 => ?_) (fun H10 g10 e10 => ?_)⟩
        · refine ⟨_, rfl, _, rfl, q0.1, _, rfl, .inl (.inl (.inl ((g9.trans g10).lst ow0))), rfl, flat_str _, _, rfl, ?_⟩
          rw [inV_str]
          rw [show (if true = true then !q0.2.contains y else q0.2.contains y) = decide (y ∉ q0.2) by
            rw [if_pos rfl, List.contains_eq_mem]
            exact (decide_not).symm]
          exact hq2 _ (Gr.refl _)
        · have h1 := List.length_filter_le (fun y => decide (y ∉ q0.2)) u0.2
          refine ⟨q0.1, D2, _, _, rfl, rfl, (g9.trans g10).lst ow0, e10, by rw [List.length_map, List.length_map]; exact Nat.le_of_lt (small1000 (by omega)), fun l nl => ?_⟩
          rw [← List.map_append]
          exact hq l _ (g10.trans (Gr.new nl)) (g10.free nl) upd_same
      · have dl : rs9.length = tt2.length := by
          have h1 := congrArg List.length ed
          rw [List.length_map, List.length_map, List.length_map] at h1
          exact h1
        refine ⟨Wd, D, _, _, rfl, rfl, g9.lst LW.at_, TD.at_, by rw [List.length_map, List.length_map]; exact Nat.le_of_lt (small1000 (by omega)), fun p np => ?_⟩
        rw [← List.map_append]
        have g10 : Gr H9 (upd H9 p (.lst ((ks ++ rs9).map fun q => V.ref q.1))) := Gr.new np
        refine ⟨(g8.trans g9).trans g10, p, ks ++ rs9, ⟨upd_same, fun z hz => ?_⟩, ?_, _, rfl⟩
        · rcases List.mem_append.mp hz with hz | hz
          · exact g10.lst (g9.lst (LW.own z hz))
          · exact g10.lst (TD.own z hz).2.2
        · unfold wideL at ek ⊢
          have tk : (rws tt).take (i + 1) = (rws tt).take i ++ [q0.2] := by rw [List.take_add_one, q0r]; rfl
          have em2 : ((tt2.map fun e => (e.2.1, e.2.2)).map fun q : Addr × List Str => q0.2 ++ q.2.filter fun y => decide (y ∉ q0.2)) = (rws tt2).map fun m => q0.2 ++ m.filter fun y => decide (y ∉ q0.2) := by
            unfold rws
            rw [List.map_map, List.map_map]
            rfl
          rw [List.map_append, ek, ed, tk, List.flatMap_append, List.flatMap_singleton, em2]
    · obtain ⟨g8, Wd, ks, LW, ek, v8, rfl⟩ := h
      rw [List.length_map, List.length_map, show (rws tt).take tt.length = rws tt from List.take_of_length_le (Nat.le_of_eq r1)] at ek
      have kl : ks.length = tt.length * tt2.length := by
        have h1 := congrArg List.length ek
        unfold wideL at h1
        rw [List.length_map, flen, r1] at h1
        exact h1
      have g08 := (g06.trans g7).trans g8
      have X1 := S.gr g08
      have X2 := S2.gr g08
      have ul : (unions (rws tb) (rws tb2)).length = tt.length * tt2.length := by rw [unions_len, S.rws, S2.rws, List.length_map, List.length_map, r1, r2]
      have J2 : RowsOk (unions (rws tb) (rws tb2)) := rowsOk5 N5 (fun r hr => by
        obtain ⟨x, hx, y, hy, rfl⟩ := unions_mem.mp hr
        refine ⟨(ris_once _).nodup, fun z hz => ?_⟩
        exact (List.mem_append.mp (once_mem.mp hz)).elim ((S.rowB x hx).2 z) ((S2.rowB y hy).2 z)) (by rw [ul]; omega)
      refine ⟨_, rfl, b, d, tb, n, rfl, X1.bk, _, rfl, b, d, tb, n, b2, d2, tb2, n2, rfl, X1.bk, X1.ok, X2.bk, X2.ok, hN.gr g08, .inl ⟨J2, fun b' d' H9 tb' g9 NB => ?_⟩⟩
      refine ⟨b', d', tb', _, rfl, NB.bk, b', d', tb', _, rfl, NB.bk, NB.ok, fun p H10 rs g10 TP er => ?_⟩
      have g810 := g9.trans g10
      refine ⟨_, rfl, Wd, ks, rfl, .inl (.inl (g810.lst LW.at_)), fun q hq => .inl (.inl (g810.lst (LW.own q hq))), by rw [kl]; omega, fun v H11 g11 dv => ?_⟩
      have dl := (TP.due.gr g11).dp (K := K)
      rw [er] at dl
      have sameJ : numD (ks.map (·.2)) = pairsD (nr tb') := by
        rw [numD_eq, NB.rows, ek, wide_eq (fun r hr => (S.row r hr).1) (fun r hr => (S2.row r hr).1), S.rws, S2.rws]
      rw [sameJ] at dv
      have shJ := shaped_pairs NB.ok.nmsRows
      refine ⟨_, _, dl, dv, shJ, shJ, ?_⟩
      rw [eqv_pairs, decide_eq_true rfl]
      exact q _ ((g08.trans g810).trans g11)
end
end K1
end
section
set_option maxHeartbeats 8000000
namespace K1
open PySem PySem.Spec PyProof.Rows L2 Gr GxR Srx Skx Dcx
section
variable {P : Program} {w : World} {K : PySem.W.Frag} {mg : Str → Option Value} {base : Heap} {f C M : Addr} {fd : FuncData} {N : TabN} {R : ErN}
structure E13e (P : Program) (w : World) (K : PySem.W.Frag) (mg : Str → Option Value) (base : Heap) (C : Addr) (N : TabN) (R : ErN) : Prop where
  d : E13d P w K mg base C N R
  struck : MCalls P w K mg base (L2.CX P w) 7 C "struck" (spStruck K C N R strike)
  without : MCalls P w K mg base (L2.CX P w) 7 C "without" (spStruck K C N R away)
  lrows : MCalls P w K mg base CX0 6 C "least_rows" (spBLeastRows C N)
  llrows : Calls P w K mg base CX0 2 "_law_least_rows" (spLRows K)
  sets : Calls P w K mg base CX0 1 "_law_sets" spSets
  noth : Calls P w K mg base CX0 7 "_law_nothing" (spNoth C N)
  left : Calls P w K mg base CX0 7 "_law_left" (spLeft K C N)
  owned : Calls P w K mg base CX0 7 "_law_owned" (spOwned K C N)
section
variable {nm : List Str} {H : Hp} {b d t : Addr} {tb tt : Tb1} {n : Int}
theorem srt_once {r : List Str} (h : r.Nodup) : srt r = once r := (once_same h fun _ => Iff.rfl).symm
theorem map_srt_once {rows : List (List Str)} (h : ∀ r ∈ rows, r.Nodup) : rows.map srt = rows.map once := List.map_congr_left fun r hr => srt_once (h r hr)
theorem Sd13.rwsO (S : Sd13 C nm H b d t tb tt n) : K1.rws tb = (K1.rws tt).map once := by rw [S.rws, map_srt_once fun r hr => (S.row r hr).1]
/-- where all names meet all rows, there is a least set -/
theorem Sd13.some (S : Sd13 C nm H b d t tb tt n) {us : List (Addr × List Str)} (hu : us.map (·.2) = K1.grown (K1.rws tb)) : us.isEmpty = !mtAll nm (K1.rws tb) := by
  cases e : mtAll nm (K1.rws tb) with
  | true =>
    have h1 := (pared_lst (ris_once nm) (show mtAll (once nm) (K1.rws tb) = true by rw [mtAll_once_l]; exact e)).1
    have h2 := grown_mem.mpr h1
    cases us with
    | nil =>
      rw [← hu] at h2
      exact absurd h2 List.not_mem_nil
    | cons _ _ => rfl
  | false =>
    cases us with
    | nil => rfl
    | cons u r =>
      have h1 : u.2 ∈ K1.grown (K1.rws tb) := by rw [← hu]; exact List.mem_cons_self
      have h2 := grown_mem.mp h1
      have h3 : mtAll nm (K1.rws tb) = true := mtAll_iff.mpr fun r hr => by
        obtain ⟨y, y1, y2⟩ := mtAll_iff.mp h2.2.1 r hr
        exact ⟨y, (S.rowB r hr).2 y y2, y2⟩
      rw [e] at h3
      cases h3
end
abbrev nOne : List Str := ["_law_book", "_law_way", "_law_names_here", "_law_name", "_law_table", "_law_due", "_law_held", "_law_rows", "_law_number", "_law_one_here", "_law_row_here"]
theorem scOne : FnScope nOne ["_law_book", "_law_way", "_law_names_here", "_law_name", "_law_table", "_law_due", "_law_held"] (defScope s_law_one_x) := ⟨rfl, rfl, rfl, by decide +kernel, rfl, by decide +kernel, by decide +kernel⟩
def spOne (K : PySem.W.Frag) (C : Addr) (N : TabN) : Sp := fun vs H Q _ => ∃ (nm : List Str) (X : Addr → Prop) (b d t a Du L : Addr) (tb tt : Tb1) (n way : Int) (x : Str) (us : List (Addr × List Str)) (hs : List HelD), vs = [.ref b, .int way, .ref a, .str x, .ref t, .ref Du, .ref L] ∧ Look K C N nm X H b d t a Du L tb tt n us hs ∧ x ∈ nm ∧ hs.length ≤ 5000 ∧ HeldQ K X H L hs 2 Q
theorem ok_one (F : FnP K "_law_one" s_law_one_x f fd) (G : E13e P w K mg base C N R) : FnOk P w K mg base CX0 8 f fd ["_law_book", "_law_way", "_law_names_here", "_law_name", "_law_table", "_law_due", "_law_held"] (spOne K C N) := by
  have g_len := G.d.gL
  have g_list := G.d.gLi
  have g_sorted := G.d.gS
  refine F.ok scOne (fun vs H Q E h => ?_) (fun cdv A outer s H vs Q E hr h => ?_)
  · obtain ⟨nm, X, b, d, t, a, Du, L, tb, tt, n, way, x, us, hs, rfl, _⟩ := h
    rfl
  · obtain ⟨nm, X, b, d, t, a, Du, L, tb, tt, n, way, x, us, hs, rfl, S, hx, few, q⟩ := h
    refine ⟨_, PSs.nox (pss_cons (ps_setLc (i := 7) (own := [("_law_number", 8)]) (g := gName 8) (tt := tYes) rfl scOne.nd rfl rfl (sw_true rfl rfl rfl (by decide +kernel)) (pi_list (pe_callB cr_sorted (by rfl) g_sorted boot_sorted (pa_cons (pe_callTy (call_list_dK rfl) (by rfl) g_list boot_list (pa_cons (pv 4) pa_nil)) pa_nil))) (blkOk_by (N := nOne) (sc := defScope s_law_one_x) (by decide +kernel)) (fun _ _ _ _ _ => (pg_name (i := 8) scOne.nd rfl (.inl rfl))) (fun _ _ _ _ _ => pts_nil) (fun _ _ _ _ _ => (pe_dget (hu_of hr) (pv 4) (pv 8) (fun _ _ => rfl)))) (pss_cons (ps_if (pt_cmpR op_eq (pv 1) pe_int (nomark _)) (pss_one (ps_ret (pe_cmpR (op_eqD (hu64 hr)) (pe_m0 G.d.rows G.d.bc.cl hr (by decide) pa0 (pe_m G.struck G.d.bc.cl hr (by decide) paL (pv 0) (pa_cons (pv 3) pa_nil))) (pe_k G.d.numd hr (by decide) (by rfl) (pa_cons (pe_lc (own := [("_law_row_here", 10)]) (g := gName 10) (tt := tYes) rfl scOne.nd (pi_list (pv 7)) (blkOk_by (N := nOne) (sc := defScope s_law_one_x) (by decide +kernel)) (fun _ _ _ _ _ => (pg_name (i := 10) scOne.nd rfl (.inl rfl))) (fun _ _ _ _ _ => pts_nil) (fun _ _ _ _ _ => (pe_lc (own := [("_law_one_here", 9)]) (g := gName 9) (wi := iList K (tVar 10)) rfl scOne.nd (pi_list (pv 10)) (blkOk_by (N := nOne) (sc := relS _ (defScope s_law_one_x)) (by decide +kernel)) (fun _ _ _ _ _ => (pg_name (i := 9) scOne.nd rfl (.inl rfl))) (fun _ _ _ _ _ => pts_one (pt_cmpR op_ne (pv 9) (pv 3) (nomark _))) (fun _ _ _ _ _ => (pv 9))))) pa_nil)) (nomark _)))) (pss_nil)) (pss_cons (ps_if (pt_cmpR op_eq (pv 1) pe_int (nomark _)) (pss_one (ps_ret (pe_cmpR (op_eqD (hu64 hr)) (pe_m0 G.d.rows G.d.bc.cl hr (by decide) pa0 (pe_m G.without G.d.bc.cl hr (by decide) paL (pv 0) (pa_cons (pv 3) pa_nil))) (pe_k G.d.numd hr (by decide) (by rfl) (pa_cons (pe_lc (own := [("_law_row_here", 10)]) (g := gName 10) rfl scOne.nd (pi_list (pv 7)) (blkOk_by (N := nOne) (sc := defScope s_law_one_x) (by decide +kernel)) (fun _ _ _ _ _ => (pg_name (i := 10) scOne.nd rfl (.inl rfl))) (fun _ _ _ _ _ => pts_one (pt_cmpR (r := rIn K true) op_notIn_seq (pv 3) (pv 10) rfl)) (fun _ _ _ _ _ => (pv 10))) pa_nil)) (nomark _)))) (pss_nil)) (pss_cons (ps_if (pt_cmpR op_eq (pv 1) pe_int (nomark _)) (pss_cons (ps_expr (pe_bm PySem.F.plainAttrs_list PySem.F.slot_list_append PySem.F.type_list_append mt_append (pv 6) (pa_cons (pe_tup (pa_cons (pe_m0 G.lrows G.d.bc.cl hr (by decide) pa0 (pv 0)) (pa_cons (pe_k G.llrows hr (by decide) (by rfl) (pa_cons (pv 7) pa_nil)) pa_nil))) pa_nil))) (pss_one (ps_ret (pe_k G.sets hr (by decide) (by rfl) (pa_cons (pe_ix ix_tup (pe_ix ix_list (pv 6) (pe_un un_neg pe_int) (fun _ _ => rfl)) pe_int (fun _ _ => rfl)) (pa_cons (pe_ix ix_tup (pe_ix ix_list (pv 6) (pe_un un_neg pe_int) (fun _ _ => rfl)) pe_int (fun _ _ => rfl)) pa_nil)))))) (pss_nil)) (pss_cons (ps_if (pt_cmpR op_eq (pv 1) pe_int (nomark _)) (pss_one (ps_ret (pe_k G.noth hr (by decide) (by rfl) (pa_cons (pv 0) (pa_cons (pv 4) pa_nil))))) (pss_nil)) (pss_cons (ps_if (pt_cmpR op_eq (pv 1) pe_int (nomark _)) (pss_one (ps_ret (pe_k G.left hr (by decide) (by rfl) (pa_cons (pv 0) (pa_cons (pv 2) (pa_cons (pv 7) (pa_cons (pv 5) (pa_cons (pv 6) pa_nil)))))))) (pss_nil)) (pss_one (ps_ret (pe_k G.owned hr (by decide) (by rfl) (pa_cons (pv 0) (pa_cons (pv 4) (pa_cons (pv 5) (pa_cons (pv 6) pa_nil))))))))))))), ?_⟩
    refine rows_ts S.sd.tbl S.sd.pw (by have := S.few; omega) fun Rw H1 g1 nRw eRw => ?_
    have fewt := S.few
    have S1 := S.gr g1
    have r1 : (rws tt).length = tt.length := rws_len tt
    rw [tb_refs] at eRw
    have L1 : LQ K H1 Rw (tt.map fun e => (e.2.1, e.2.2)) := ⟨.inl (.inl eRw), fun q hq => S1.sd.lq q hq⟩
    have nmx := S.n5.nms x hx
    have fin : ∀ H', Gr H1 H' → Q (.bl true) H' := fun H' g => q H' hs ((g1.trans g).x _) (S.hl.gr (g1.trans g)) (Nat.le_add_right _ _)
    have thx : Thing K H1 (.str x) := thing_str (by have := nm_len nmx; rw [sizeLine_eq]; omega)
    have ndT : ∀ r ∈ rws tt, r.Nodup := fun r hr => (S.sd.row r hr).1
    refine ⟨_, rfl, rfl, _, rfl, ite2 (fun w0 => ?_) (fun w0 => ?_)⟩
    · -- struck
      refine ⟨_, rfl, b, d, tb, n, rfl, S1.sd.bk, _, rfl, b, d, tb, n, _, rfl, S1.sd.bk, S1.sd.ok, S1.tg, thx, .inl ⟨x, rfl, nmx, fun b' d' H2 tb' g2 NB => ?_⟩⟩
      refine ⟨b', d', tb', _, rfl, NB.bk, b', d', tb', _, rfl, NB.bk, NB.ok, fun p H3 rs g3 TP er => ?_⟩
      have g13 := g2.trans g3
      have eRw3 := g13.lst eRw
      refine ⟨_, rfl, Rw, rfl, ⟨_, .inl (.inl eRw3)⟩, fun D nD => lc_fresh3 (K := K) (ps0 := tt.map fun e => (e.2.1, e.2.2)) (fun m => m.filter fun y => decide (y ≠ x)) (.inl (.inl eRw3)) (small1000 (by rw [List.length_map]; omega)) nD (fun _ => rfl) (fun u0 hu0 H4 Q' g4 hq => ?_) (fun H4 rs4 g4 TD ed => ?_)⟩
      · have ou := (L1.gr (g13.trans g4)).own u0 hu0
        obtain ⟨eu0, hu1, e1⟩ := List.mem_map.mp hu0
        have ul : u0.2.length ≤ 5 := (S.sd.nmsR S.n5 u0.2 (by rw [← e1]; exact List.mem_map.mpr ⟨eu0, hu1, rfl⟩)).2
        refine ⟨_, rfl, u0.1, rfl, ⟨_, ou⟩, fun D2 nD2 => lc_filtT (K := K) (fun y => decide (y ≠ x)) ou (small1000 (by omega)) nD2 (fun _ => rfl) (fun _ => rfl) (fun y hy H5 Qb g5 hq2 => ?_) (fun H5 g5 e5 => hq D2 H5 g5 nD2 e5)⟩
        refine ⟨_, rfl, _, rfl, rfl, _, rfl, ?_⟩
        rw [ne_strB]
        exact hq2 _ (Gr.refl _)
      · have rl : rs4.length = tt.length := by
          have h1 := congrArg List.length ed
          rw [List.length_map, List.length_map, List.length_map] at h1
          exact h1
        refine ⟨D, rs4, rfl, .inl (.inl TD.at_), fun q hq => .inl (.inl (TD.own q hq).2.2), by omega, fun v H5 g5 dv => ?_⟩
        have dl := (TP.due.gr (g4.trans g5)).dp (K := K)
        rw [er] at dl
        have ed2 : rs4.map (·.2) = strike x (rws tt) := by
          rw [ed]
          unfold strike rws
          rw [List.map_map, List.map_map]
          rfl
        have same : numD (rs4.map (·.2)) = pairsD (nr tb') := by
          rw [numD_eq, NB.rows, ed2, S.sd.rwsO, strike_once, map_srt_once]
          intro r hr
          obtain ⟨r0, h0, rfl⟩ := List.mem_map.mp hr
          exact (ndT r0 h0).sublist List.filter_sublist
        rw [same] at dv
        have sh := shaped_pairs NB.ok.nmsRows
        refine ⟨_, _, dl, dv, sh, sh, ?_⟩
        rw [eqv_pairs, decide_eq_true rfl]
        exact fin _ ((g13.trans g4).trans g5)
    refine ⟨_, rfl, rfl, _, rfl, ite2 (fun w1 => ?_) (fun w1 => ?_)⟩
    · -- without
      refine ⟨_, rfl, b, d, tb, n, rfl, S1.sd.bk, _, rfl, b, d, tb, n, _, rfl, S1.sd.bk, S1.sd.ok, S1.tg, thx, .inl ⟨x, rfl, nmx, fun b' d' H2 tb' g2 NB => ?_⟩⟩
      refine ⟨b', d', tb', _, rfl, NB.bk, b', d', tb', _, rfl, NB.bk, NB.ok, fun p H3 rs g3 TP er => ?_⟩
      have g13 := g2.trans g3
      have eRw3 := g13.lst eRw
      refine ⟨_, rfl, Rw, rfl, ⟨_, .inl (.inl eRw3)⟩, fun D nD => lc_filtL (K := K) (ps := tt.map fun e => (e.2.1, e.2.2)) (fun q => !q.2.contains x) (.inl (.inl eRw3)) (small1000 (by rw [List.length_map]; omega)) nD (fun _ => rfl) (fun _ => rfl) (fun u0 hu0 H4 Qb g4 hq => ?_) (fun H4 g4 e4 => ?_)⟩
      · have ou := (L1.gr (g13.trans g4)).own u0 hu0
        refine ⟨_, rfl, _, rfl, u0.1, _, rfl, .inl ou, rfl, flat_str _, _, rfl, ?_⟩
        rw [inV_str, if_pos rfl]
        exact hq _ (Gr.refl _)
      · have fl := List.length_filter_le (fun q : Addr × List Str => !q.2.contains x) (tt.map fun e => (e.2.1, e.2.2))
        rw [List.length_map] at fl
        refine ⟨D, _, rfl, .inl (.inl e4), fun q hq => (L1.gr (g13.trans g4)).own q (List.mem_filter.mp hq).1, by omega, fun v H5 g5 dv => ?_⟩
        have dl := (TP.due.gr (g4.trans g5)).dp (K := K)
        rw [er] at dl
        have ed2 : ((tt.map fun e => (e.2.1, e.2.2)).filter fun q : Addr × List Str => !q.2.contains x).map (·.2) = away x (rws tt) := by
          unfold away
          rw [← tb_rows2 tt]
          have gen : ∀ l : List (Addr × List Str), (l.filter fun q => !q.2.contains x).map (·.2) = (l.map (·.2)).filter fun r => !r.contains x := fun l => by
            rw [List.filter_map]
            rfl
          exact gen _
        have same : numD (((tt.map fun e => (e.2.1, e.2.2)).filter fun q : Addr × List Str => !q.2.contains x).map (·.2)) = pairsD (nr tb') := by
          rw [numD_eq, NB.rows, ed2, S.sd.rwsO, away_once, map_srt_once]
          intro r hr
          exact ndT r (away_mem.mp hr).1
        rw [same] at dv
        have sh := shaped_pairs NB.ok.nmsRows
        refine ⟨_, _, dl, dv, sh, sh, ?_⟩
        rw [eqv_pairs, decide_eq_true rfl]
        exact fin _ ((g13.trans g4).trans g5)
    refine ⟨_, rfl, rfl, _, rfl, ite2 (fun w2 => ?_) (fun w2 => ?_)⟩
    · -- the least rows, held
      refine ⟨_, rfl, .inl ⟨rfl, _, .inl (.inl S1.hl.at_)⟩, _, rfl, b, d, tb, n, rfl, S1.sd.bk, b, d, tb, n, rfl, S1.sd.bk, S1.sd.ok, S1.tg, fun p1 H2 ks g2 TL ek => ?_⟩
      have L12 := L1.gr g2
      refine ⟨_, rfl, Rw, tt.map fun e => (e.2.1, e.2.2), rfl, L12.at_, fun q hq => ⟨L12.own q hq, ?_⟩, by rw [List.length_map]; omega, fun p2 H3 ks2 g3 TL2 ek2 => ?_⟩
      · obtain ⟨e0, he0, rfl⟩ := List.mem_map.mp hq
        exact (S.sd.nmsR S.n5 e0.2.2 (List.mem_map.mpr ⟨e0, he0, rfl⟩)).1
      rw [tb_rows2, ← S.sd.rws] at ek2
      refine ⟨(by show 2 ≤ sizeLine; rw [sizeLine_eq]; omega), fun pt npt => ?_⟩
      have g4 : Gr H3 (upd H3 pt (.tup [.ref p1, .ref p2])) := Gr.new npt
      have e4 : (upd H3 pt (.tup [.ref p1, .ref p2])) pt = some (.tup [.ref p1, .ref p2]) := upd_same
      generalize upd H3 pt (.tup [.ref p1, .ref p2]) = H4 at g4 e4
      have g14 := (g2.trans g3).trans g4
      have g34 := g3.trans g4
      have HL1 := S1.hl
      have o1 := HL1.out TL.new
      have o2 := HL1.out (g2.free TL2.new)
      have ot := HL1.out ((g2.trans g3).free npt)
      have fin1 : ∀ r ∈ least (rws tb), Nms r ∧ r.length ≤ 12 := fun r hr => by
        have m1 := least_sub (fun x hx => (S.sd.ok.rlen hx).1) hr
        exact (S.sd.ok.rlen m1).2
      have kN : ∀ xs ∈ ks.map (·.2), Nms xs := fun xs hxs => (fin1 xs (by rw [← ek]; exact hxs)).1
      have D1 : Dp K (hide X H4) (.ref p1) (dSS (ks.map (·.2))) := dp_dSS (.inl (.inl (by rw [hide_in o1]; exact g34.lst TL.at_))) fun q hq => by
        obtain ⟨h1, _, h3⟩ := TL.own q hq
        exact .inl (.inl (by rw [hide_in (HL1.out h1)]; exact g34.lst h3))
      have D2 : Dp K (hide X H4) (.ref p2) (dSS (ks.map (·.2))) := by
        rw [ek, ← ek2]
        exact dp_dSS (.inl (.inl (by rw [hide_in o2]; exact g4.lst TL2.at_))) fun q hq => by
          obtain ⟨h1, _, h3⟩ := TL2.own q hq
          exact .inl (.inl (by rw [hide_in (HL1.out (g2.free h1))]; exact g4.lst h3))
      have HL5 := (HL1.gr g14).add (p := pt) (x := .ref p1) (y := .ref p2) (by rw [hide_in ot]; exact e4) D1 D2 (shaped_dSS kN)
      have sz : (hs.map fun h => V.ref h.p).length < sizeLine := by rw [List.length_map, sizeLine_eq]; omega
      have gx5 : GrX (fun z => z = L) H (upd H4 L (.lst ((hs.map fun h => V.ref h.p) ++ [.ref pt]))) := ((g1.trans g14).x _).put (.inl rfl) S.hl.nt
      have offL : ∀ {z : Addr}, ¬ X z → ¬ z = L := fun h e => h (by rw [e]; exact HL1.mem)
      refine ⟨L, _, _, rfl, rfl, (HL1.gr g14).at_, sz, ?_⟩
      have LL1 : LL (upd H4 L (.lst ((hs.map fun h => V.ref h.p) ++ [.ref pt]))) p1 ks := ⟨by rw [upd_ne (offL o1)]; exact g34.lst TL.at_, fun q hq => by
        obtain ⟨h1, _, h3⟩ := TL.own q hq
        rw [upd_ne (offL (HL1.out h1))]
        exact g34.lst h3⟩
      have LL2 : LL (upd H4 L (.lst ((hs.map fun h => V.ref h.p) ++ [.ref pt]))) p2 ks2 := ⟨by rw [upd_ne (offL o2)]; exact g4.lst TL2.at_, fun q hq => by
        obtain ⟨h1, _, h3⟩ := TL2.own q hq
        rw [upd_ne (offL (HL1.out (g2.free h1)))]
        exact g4.lst h3⟩
      generalize upd H4 L (.lst ((hs.map fun h => V.ref h.p) ++ [.ref pt])) = H5 at HL5 gx5 LL1 LL2
      obtain ⟨k1, _, _, _⟩ := HL5.own _ (List.mem_append_right _ (List.mem_singleton.mpr rfl))
      have un := gr_unhide X H5
      have at5 : H5 L = some (.lst ((hs.map fun h => V.ref h.p) ++ [.ref pt])) := by rw [HL5.at_, List.map_append]; rfl
      refine ⟨_, rfl, _, rfl, L, _, _, _, rfl, rfl, .inl (.inl at5), atI_last _ _, pt, _, _, _, rfl, rfl, .inl (.inl (un.tup k1)), rfl, ?_⟩
      refine ⟨_, rfl, _, rfl, L, _, _, _, rfl, rfl, .inl (.inl at5), atI_last _ _, pt, _, _, _, rfl, rfl, .inl (.inl (un.tup k1)), rfl, ?_⟩
      refine ⟨p1, p2, ks, ks2, rfl, LL1, LL2, ek.trans ek2.symm, ⟨?_, fun xs hxs => ?_⟩, fun H' g => q H' _ (gx5.then g) (HL5.gr g) (by rw [List.length_append]; show hs.length + 1 ≤ _; omega)⟩
      · rw [ek]
        have h1 := least_len (rws tb)
        rw [rws_len, S.sd.len] at h1
        omega
      · obtain ⟨h1, h2⟩ := fin1 xs (by rw [← ek]; exact hxs)
        exact ⟨h1, by omega⟩
    refine ⟨_, rfl, rfl, _, rfl, ite2 (fun w3 => ?_) (fun w3 => ?_)⟩
    · exact ⟨_, rfl, _, rfl, b, d, t, tb, tt, n, rfl, S1.sd.bk, S1.sd.ok, S1.sd.tbl, S1.sd.len, S1.tg, fun H' g => fin H' g⟩
    refine ⟨_, rfl, rfl, _, rfl, ite2 (fun w4 => ?_) (fun w4 => ?_)⟩
    · refine ⟨_, rfl, _, rfl, _, rfl, _, rfl, _, rfl, b, d, a, Rw, Du, L, tb, n, nm, _, us, X, hs, rfl, S1.sd.bk, S1.sd.ok, S1.tg, S1.at_, S.n5, L1, fun y => ?_, S1.du, S.sd.some S.ug, S1.hl, few, fun H' hs' gx hl le => q H' hs' ((g1.x _).trans gx) hl (by omega)⟩
      rw [tb_rows2]
      exact S.sd.mt y
    · exact ⟨_, rfl, _, rfl, _, rfl, _, rfl, nm, X, b, d, t, a, Du, L, tb, tt, n, us, hs, rfl, S1, few, fun H' hs' gx hl le => q H' hs' ((g1.x _).trans gx) hl le⟩
end
end K1
end
section
set_option maxHeartbeats 8000000
namespace K1
open PySem PySem.Spec PyProof.Rows L2 Gr GxR Srx Skx Dcx
section
variable {P : Program} {w : World} {K : PySem.W.Frag} {mg : Str → Option Value} {base : Heap} {f C M : Addr} {fd : FuncData} {N : TabN} {R : ErN}
structure E13f (P : Program) (w : World) (K : PySem.W.Frag) (mg : Str → Option Value) (base : Heap) (C : Addr) (N : TabN) (R : ErN) : Prop where
  bc : BkC K mg C
  names : MCalls P w K mg base CX0 2 C "names" (spBNames C)
  meets : MCalls P w K mg base (L2.CX P w) 5 C "meets" (spBMeets K C N R)
  all : Calls P w K mg base CX0 2 "_law_meets_all" (spLAll K)
  fewest : MCalls P w K mg base CX0 8 C "fewest" (spBFewest C N)
  needed : MCalls P w K mg base CX0 7 C "needed" (spBNeeded C N)
  idle : MCalls P w K mg base CX0 7 C "idle" (spBIdle C N)
  text : Calls P w K mg base CX0 2 "text_of" (spTextOf C)
  gL : mg "len" = none
  gLi : mg "list" = none
  gS : mg "sorted" = none
theorem ris_ext {a b : List Str} (ha : Ris a) (hb : Ris b) (h : ∀ y, y ∈ a ↔ y ∈ b) : a = b := wi_anti ha hb (wi_iff.mpr fun y hy => (h y).mp hy) (wi_iff.mpr fun y hy => (h y).mpr hy)
theorem some_in {α : Type} {g : α → List Str} {l : List α} {y : Str} : (!(l.filter fun q => (g q).contains y).isEmpty) = true ↔ ∃ q ∈ l, y ∈ g q := by
  cases e : l.filter fun q => (g q).contains y with
  | nil =>
    have h := List.filter_eq_nil_iff.mp e
    refine ⟨fun z => (nomatch z), fun ⟨q, hq, hy⟩ => absurd (List.contains_iff_mem.mpr hy) (h q hq)⟩
  | cons q r =>
    have h : q ∈ l.filter fun q => (g q).contains y := by rw [e]; exact List.mem_cons_self
    obtain ⟨h1, h2⟩ := List.mem_filter.mp h
    exact ⟨fun _ => ⟨q, h1, List.contains_iff_mem.mp h2⟩, fun _ => rfl⟩
theorem none_out {α : Type} {g : α → List Str} {l : List α} {y : Str} : (l.filter fun q => !(g q).contains y).isEmpty = true ↔ ∀ q ∈ l, y ∈ g q := by
  rw [List.isEmpty_iff, List.filter_eq_nil_iff]
  refine forall_congr' fun q => imp_congr_right fun _ => ?_
  rw [Bool.not_eq_true', Bool.not_eq_false, List.contains_iff_mem]
theorem none_in {α : Type} {g : α → List Str} {l : List α} {y : Str} : (l.filter fun q => (g q).contains y).isEmpty = true ↔ ∀ q ∈ l, y ∉ g q := by
  rw [List.isEmpty_iff, List.filter_eq_nil_iff]
  refine forall_congr' fun q => imp_congr_right fun _ => ?_
  rw [List.contains_iff_mem]
theorem need_mem {rows : List (List Str)} (hr : RisAll rows) {y : Str} : y ∈ needB rows ↔ (∃ x, Lst rows x) ∧ ∀ x, Lst rows x → y ∈ x := by
  rw [needB_mem, needed_iff, least_mem hr]
  constructor
  · rintro ⟨h1, h2⟩
    refine ⟨fun h => ?_, [y], h1, fun z hz => List.mem_singleton.mp hz⟩
    have := h2 [] h rfl
    cases this
  · rintro ⟨h0, r, h1, h2⟩
    have e : r = [y] := by
      cases r with
      | nil => exact absurd h1 h0
      | cons a l =>
        have ea := h2 a List.mem_cons_self
        cases l with
        | nil => rw [ea]
        | cons c l =>
          have ec := h2 c (List.mem_cons_of_mem _ List.mem_cons_self)
          have := (List.pairwise_cons.mp (hr _ h1)).1 c List.mem_cons_self
          exact absurd (ea.trans ec.symm) this.2
    rw [← e]
    refine ⟨h1, fun z hz hw => ?_⟩
    rw [e] at hw ⊢
    rcases (wi_one (hr z hz)).mp hw with e2 | e2
    · exact absurd (by rw [← e2]; exact hz) h0
    · exact e2
section
variable {nm : List Str} {H : Hp} {b d t : Addr} {tb tt : Tb1} {n : Int} {us : List (Addr × List Str)}
theorem Sd13.there (S : Sd13 C nm H b d t tb tt n) (N5 : Nm5 nm) : ((srt nm).filter fun y => !((tt.map fun e => (e.2.1, e.2.2)).filter fun q : Addr × List Str => q.2.contains y).isEmpty) = allN (K1.rws tb) := by
  refine ris_ext (ris_sub List.filter_sublist (ris_srt N5.nd)) (ris_allN _) fun y => ?_
  rw [List.mem_filter, some_in (g := fun q : Addr × List Str => q.2), allN_iff, srt_mem, S.rws]
  constructor
  · rintro ⟨_, q, hq, hy⟩
    obtain ⟨e, he, rfl⟩ := List.mem_map.mp hq
    exact ⟨_, List.mem_map.mpr ⟨e.2.2, List.mem_map.mpr ⟨e, he, rfl⟩, rfl⟩, srt_mem.mpr hy⟩
  · rintro ⟨r, hr, hy⟩
    obtain ⟨r0, h0, rfl⟩ := List.mem_map.mp hr
    obtain ⟨e, he, rfl⟩ := List.mem_map.mp h0
    have hy := srt_mem.mp hy
    exact ⟨(S.row e.2.2 h0).2 y hy, (e.2.1, e.2.2), List.mem_map.mpr ⟨e, he, rfl⟩, hy⟩
theorem Sd13.lst (S : Sd13 C nm H b d t tb tt n) (ug : us.map (·.2) = K1.grown (K1.rws tb)) {x : List Str} : Lst (K1.rws tb) x ↔ ∃ u ∈ us, u.2 = x := by
  rw [← grown_mem, ← ug, List.mem_map]
theorem Sd13.need (S : Sd13 C nm H b d t tb tt n) (ug : us.map (·.2) = K1.grown (K1.rws tb)) : needB (K1.rws tb) = if us.isEmpty = true then [] else (allN (K1.rws tb)).filter fun y => (us.filter fun u => !u.2.contains y).isEmpty := by
  have hr : RisAll (K1.rws tb) := fun r hr => (S.ok.rlen hr).1
  cases us with
  | nil =>
    rw [if_pos (show ([] : List (Addr × List Str)).isEmpty = true from rfl)]
    refine List.eq_nil_iff_forall_not_mem.mpr fun y hy => ?_
    obtain ⟨⟨x, hx⟩, _⟩ := (need_mem hr).mp hy
    obtain ⟨u, hu, _⟩ := (S.lst ug).mp hx
    cases hu
  | cons u0 ur =>
    rw [if_neg (by intro z; cases z)]
    refine ris_ext (ris_needB _) (ris_sub List.filter_sublist (ris_allN _)) fun y => ?_
    rw [need_mem hr, List.mem_filter, none_out (g := fun u : Addr × List Str => u.2)]
    constructor
    · rintro ⟨_, h2⟩
      have all : ∀ u ∈ u0 :: ur, y ∈ u.2 := fun u hu => h2 _ ((S.lst ug).mpr ⟨u, hu, rfl⟩)
      refine ⟨?_, all⟩
      have l0 : Lst (K1.rws tb) u0.2 := (S.lst ug).mpr ⟨u0, List.mem_cons_self, rfl⟩
      obtain ⟨r, hr, hy, _⟩ := (lst_own.mp l0).2.2 y (all u0 List.mem_cons_self)
      exact allN_iff.mpr ⟨r, hr, hy⟩
    · rintro ⟨_, h2⟩
      refine ⟨⟨u0.2, (S.lst ug).mpr ⟨u0, List.mem_cons_self, rfl⟩⟩, fun x hx => ?_⟩
      obtain ⟨u, hu, rfl⟩ := (S.lst ug).mp hx
      exact h2 u hu
theorem Sd13.idle (S : Sd13 C nm H b d t tb tt n) (ug : us.map (·.2) = K1.grown (K1.rws tb)) : idleB (K1.rws tb) = (allN (K1.rws tb)).filter fun y => (us.filter fun u => u.2.contains y).isEmpty := by
  unfold idleB
  refine List.filter_congr fun y _ => ?_
  rw [Bool.eq_iff_iff, none_in (g := fun u : Addr × List Str => u.2), decide_eq_true_eq]
  have h := used_iff (rows := K1.rws tb) (y := y)
  rw [once_all fun r hr => (S.ok.rlen hr).1] at h
  rw [List.mem_flatten, show (∃ l, l ∈ least (K1.rws tb) ∧ y ∈ l) ↔ ∃ x, Lst (K1.rws tb) x ∧ y ∈ x from h.symm]
  constructor
  · intro h1 u hu hy
    exact h1 ⟨u.2, (S.lst ug).mpr ⟨u, hu, rfl⟩, hy⟩
  · rintro h1 ⟨x, hx, hy⟩
    obtain ⟨u, hu, rfl⟩ := (S.lst ug).mp hx
    exact h1 u hu hy
theorem line_srt (r : List Str) : lineS (srt r) = if r = [] then ("-" : Str) else Txt.join " " (srt r) := by
  unfold lineS
  have e : srt r = [] ↔ r = [] := by
    rw [← List.length_eq_zero_iff, srt_len, List.length_eq_zero_iff]
  by_cases h : r = []
  · rw [if_pos h, if_pos (e.mpr h)]
  · rw [if_neg h, if_neg fun z => h (e.mp z)]
end
abbrev nOther : List Str := ["_law_book", "_law_way", "_law_names_here", "_law_name", "_law_table", "_law_due", "_law_rows", "_law_number", "_law_there", "_law_one_here", "_law_row_here", "_law_other_here", "_law_least_here", "_law_lines"]
theorem scOther : FnScope nOther ["_law_book", "_law_way", "_law_names_here", "_law_name", "_law_table", "_law_due"] (defScope s_law_other_x) := ⟨rfl, rfl, rfl, by decide +kernel, rfl, by decide +kernel, by decide +kernel⟩
def spOther (K : PySem.W.Frag) (C : Addr) (N : TabN) : Sp := fun vs H Q _ => ∃ (nm : List Str) (X : Addr → Prop) (b d t a Du L : Addr) (tb tt : Tb1) (n way : Int) (x : Str) (us : List (Addr × List Str)) (hs : List HelD), vs = [.ref b, .int way, .ref a, .str x, .ref t, .ref Du] ∧ Look K C N nm X H b d t a Du L tb tt n us hs ∧ x ∈ nm ∧ ∀ H', Gr H H' → Q (.bl true) H'
theorem ok_other (F : FnP K "_law_other" s_law_other_x f fd) (G : E13f P w K mg base C N R) : FnOk P w K mg base CX0 9 f fd ["_law_book", "_law_way", "_law_names_here", "_law_name", "_law_table", "_law_due"] (spOther K C N) := by
  have g_len := G.gL
  have g_list := G.gLi
  have g_sorted := G.gS
  refine F.ok scOther (fun vs H Q E h => ?_) (fun cdv A outer s H vs Q E hr h => ?_)
  · obtain ⟨nm, X, b, d, t, a, Du, L, tb, tt, n, way, x, us, hs, rfl, _⟩ := h
    rfl
  · obtain ⟨nm, X, b, d, t, a, Du, L, tb, tt, n, way, x, us, hs, rfl, S, hx, q⟩ := h
    refine ⟨_, PSs.nox (pss_cons (ps_set (i := 6) scOther.nd rfl (.inr rfl) (pe_lc (own := [("_law_number", 7)]) (g := gName 7) (tt := tYes) rfl scOther.nd (pi_list (pe_callB cr_sorted (by rfl) g_sorted boot_sorted (pa_cons (pe_callTy (call_list_dK rfl) (by rfl) g_list boot_list (pa_cons (pv 4) pa_nil)) pa_nil))) (blkOk_by (N := nOther) (sc := defScope s_law_other_x) (by decide +kernel)) (fun _ _ _ _ _ => (pg_name (i := 7) scOther.nd rfl (.inl rfl))) (fun _ _ _ _ _ => pts_nil) (fun _ _ _ _ _ => (pe_dget (hu_of hr) (pv 4) (pv 7) (fun _ _ => rfl))))) (pss_cons (ps_setLc (i := 8) (own := [("_law_one_here", 9)]) (g := gName 9) rfl scOther.nd rfl rfl (sw_true rfl rfl rfl (by decide +kernel)) (pi_list (pe_callB (cr_sortedD Ord.strs (hu64 hr)) (by rfl) g_sorted boot_sorted (pa_cons (pv 2) pa_nil))) (blkOk_by (N := nOther) (sc := defScope s_law_other_x) (by decide +kernel)) (fun _ _ _ _ _ => (pg_name (i := 9) scOther.nd rfl (.inr rfl))) (fun _ _ _ _ _ => pts_one (pt_cmpR (op_neNil (hu64 hr)) (pe_lc (own := [("_law_row_here", 10)]) (g := gName 10) (wi := iList K (tVar 6)) rfl scOther.nd (pi_list (pv 6)) (blkOk_by (N := nOther) (sc := relS _ (defScope s_law_other_x)) (by decide +kernel)) (fun _ _ _ _ _ => (pg_name (i := 10) scOther.nd rfl (.inl rfl))) (fun _ _ _ _ _ => pts_one (pt_cmpR (r := rIn K false) op_in_seq (pv 9) (pv 10) rfl)) (fun _ _ _ _ _ => (pv 10))) (pe_lst pa_nil) (nomark _))) (fun _ _ _ _ _ => (pv 9))) (pss_cons (ps_if (pt_cmpR op_eq (pv 1) pe_int (nomark _)) (pss_one (ps_ret (pe_cmpR (op_eqD (hu64 hr)) (pe_m0 G.names G.bc.cl hr (by decide) pa0 (pv 0)) (pv 8) (nomark _)))) (pss_nil)) (pss_cons (ps_if (pt_cmpR op_eq (pv 1) pe_int (nomark _)) (pss_cons (ps_setLc (i := 9) (own := [("_law_other_here", 11)]) (g := gName 11) rfl scOther.nd rfl rfl (sw_true rfl rfl rfl (by decide +kernel)) (pi_list (pv 2)) (blkOk_by (N := nOther) (sc := defScope s_law_other_x) (by decide +kernel)) (fun _ _ _ _ _ => (pg_name (i := 11) scOther.nd rfl (.inl rfl))) (fun _ _ _ _ _ => pts_one (pt_cmpR op_ne (pv 11) (pv 3) (nomark _))) (fun _ _ _ _ _ => (pv 11))) (pss_one (ps_ret (pe_cmpR op_eq (pe_m G.meets G.bc.cl hr (by decide) paL (pv 0) (pa_cons (pe_callTy call_list_of (by rfl) g_list boot_list (pa_cons (pv 9) pa_nil)) pa_nil)) (pe_k G.all hr (by decide) (by rfl) (pa_cons (pv 9) (pa_cons (pv 6) pa_nil))) (nomark _))))) (pss_nil)) (pss_cons (ps_if (pt_cmpR op_eq (pv 1) pe_int (nomark _)) (pss_one (ps_ret (pe_cmpR op_eq (pe_m0 G.fewest G.bc.cl hr (by decide) pa0 (pv 0)) (pe_ifExp (pt_cmpR (op_neNil (hu64 hr)) (pv 5) (pe_lst pa_nil) (nomark _)) (pe_callB call_len_seq (by rfl) g_len boot_len (pa_cons (pe_ix ix_list (pv 5) pe_int (fun _ _ => rfl)) pa_nil)) pe_non) (nomark _)))) (pss_nil)) (pss_cons (ps_if (pt_cmpR op_eq (pv 1) pe_int (nomark _)) (pss_cons (ps_setLc (i := 12) (own := [("_law_one_here", 9)]) (g := gName 9) rfl scOther.nd rfl rfl (sw_true rfl rfl rfl (by decide +kernel)) (pi_list (pv 8)) (blkOk_by (N := nOther) (sc := defScope s_law_other_x) (by decide +kernel)) (fun _ _ _ _ _ => (pg_name (i := 9) scOther.nd rfl (.inr rfl))) (fun _ _ _ _ _ => pts_one (pt_cmpR (op_eqNil (hu64 hr)) (pe_lc (own := [("_law_other_here", 11)]) (g := gName 11) (wi := iList K (tVar 5)) rfl scOther.nd (pi_list (pv 5)) (blkOk_by (N := nOther) (sc := relS _ (defScope s_law_other_x)) (by decide +kernel)) (fun _ _ _ _ _ => (pg_name (i := 11) scOther.nd rfl (.inl rfl))) (fun _ _ _ _ _ => pts_one (pt_cmpR (r := rIn K true) op_notIn_seq (pv 9) (pv 11) rfl)) (fun _ _ _ _ _ => (pv 11))) (pe_lst pa_nil) (nomark _))) (fun _ _ _ _ _ => (pv 9))) (pss_one (ps_ret (pe_cmpR (op_eqD (hu64 hr)) (pe_m0 G.needed G.bc.cl hr (by decide) pa0 (pv 0)) (pe_ifExp (pt_cmpR (op_neNil (hu64 hr)) (pv 5) (pe_lst pa_nil) (nomark _)) (pv 12) (pe_lst pa_nil)) (nomark _))))) (pss_nil)) (pss_cons (ps_if (pt_cmpR op_eq (pv 1) pe_int (nomark _)) (pss_one (ps_ret (pe_cmpR (op_eqD (hu64 hr)) (pe_m0 G.idle G.bc.cl hr (by decide) pa0 (pv 0)) (pe_lc (own := [("_law_one_here", 9)]) (g := gName 9) rfl scOther.nd (pi_list (pv 8)) (blkOk_by (N := nOther) (sc := defScope s_law_other_x) (by decide +kernel)) (fun _ _ _ _ _ => (pg_name (i := 9) scOther.nd rfl (.inr rfl))) (fun _ _ _ _ _ => pts_one (pt_cmpR (op_eqNil (hu64 hr)) (pe_lc (own := [("_law_other_here", 11)]) (g := gName 11) (wi := iList K (tVar 5)) rfl scOther.nd (pi_list (pv 5)) (blkOk_by (N := nOther) (sc := relS _ (defScope s_law_other_x)) (by decide +kernel)) (fun _ _ _ _ _ => (pg_name (i := 11) scOther.nd rfl (.inl rfl))) (fun _ _ _ _ _ => pts_one (pt_cmpR (r := rIn K false) op_in_seq (pv 9) (pv 11) rfl)) (fun _ _ _ _ _ => (pv 11))) (pe_lst pa_nil) (nomark _))) (fun _ _ _ _ _ => (pv 9))) (nomark _)))) (pss_nil)) (pss_cons (ps_setLc (i := 13) (own := [("_law_row_here", 10)]) (g := gName 10) (tt := tYes) rfl scOther.nd rfl rfl (sw_true rfl rfl rfl (by decide +kernel)) (pi_list (pv 6)) (blkOk_by (N := nOther) (sc := defScope s_law_other_x) (by decide +kernel)) (fun _ _ _ _ _ => (pg_name (i := 10) scOther.nd rfl (.inl rfl))) (fun _ _ _ _ _ => pts_nil) (fun _ _ _ _ _ => (pe_ifExp (pt_cmpR (op_neNil (hu64 hr)) (pv 10) (pe_lst pa_nil) (nomark _)) (pe_joinK (K := K) rfl pe_str (pe_callB (r := rSortedD K fun x : Str => PyData.str x) (cr_sortedD Ord.strs (hu64 hr)) (by rfl) g_sorted boot_sorted (pa_cons (pv 10) pa_nil))) pe_str))) (pss_one (ps_ret (pe_cmpR op_eq (pe_k G.text hr (by decide) (by rfl) (pa_cons (pv 0) pa_nil)) (pe_joinK (K := K) rfl pe_str (pv 13)) (nomark _)))))))))))), ?_⟩
    refine rows_ts S.sd.tbl S.sd.pw (by have := S.few; omega) fun Rw H1 g1 nRw eRw => ?_
    have fewt := S.few
    have S1 := S.gr g1
    have N5 := S.n5
    have n5 := N5.few
    have sd := S.sd
    rw [tb_refs] at eRw
    have L1 : LQ K H1 Rw (tt.map fun e => (e.2.1, e.2.2)) := ⟨.inl (.inl eRw), fun q hq => S1.sd.lq q hq⟩
    have fewP : (tt.map fun e => (e.2.1, e.2.2)).length < sizeLine := small1000 (by rw [List.length_map]; omega)
    have nmA : Nms (allN (rws tb)) := sd.ok.nmsN
    have lA : (allN (rws tb)).length ≤ 5 := by
      rw [← sd.there N5]
      have h1 := List.length_filter_le (fun y => !((tt.map fun e => (e.2.1, e.2.2)).filter fun q : Addr × List Str => q.2.contains y).isEmpty) (srt nm)
      rw [srt_len] at h1
      omega
    have usL : us.length ≤ 4096 := by
      have h1 := congrArg List.length S.ug
      rw [List.length_map] at h1
      have := sd.ok.grown.1
      omega
    -- the names that are there
    refine ⟨_, rfl, sortedT (K := K) S1.at_ fun l nl => ⟨l, rfl, ⟨_, .inl (.inl upd_same)⟩, fun Th nTh => ?_⟩⟩
    have g2 : Gr H1 (upd H1 l (.lst ((srt nm).map V.str))) := Gr.new nl
    have el : (upd H1 l (.lst ((srt nm).map V.str))) l = some (.lst ((srt nm).map V.str)) := upd_same
    generalize upd H1 l (.lst ((srt nm).map V.str)) = H2 at g2 el nTh
    refine lc_filtT (K := K) (fun y => !((tt.map fun e => (e.2.1, e.2.2)).filter fun q : Addr × List Str => q.2.contains y).isEmpty) (.inl (.inl el)) (small1000 (by rw [srt_len]; omega)) nTh (fun _ => rfl) (fun _ => rfl) (fun y hy H4 Qb g4 hq => ?_) (fun H3 g3 eTh => ?_)
    · have L4 := L1.gr (g2.trans g4)
      refine ⟨_, rfl, Rw, rfl, ⟨_, L4.at_⟩, fun D nD => lc_filtL (K := K) (ps := tt.map fun e => (e.2.1, e.2.2)) (fun q => q.2.contains y) L4.at_ fewP nD (fun _ => rfl) (fun _ => rfl) (fun u0 hu0 H5 Qb5 g5 hq5 => ?_) (fun H5 g5 e5 => ?_)⟩
      · refine ⟨_, rfl, _, rfl, u0.1, _, rfl, .inl ((L4.gr g5).own u0 hu0), rfl, flat_str _, _, rfl, ?_⟩
        rw [inV_str]
        exact hq5 _ (Gr.refl _)
      · refine ⟨Nat.zero_le _, fun l5 nl5 => ⟨D, l5, _, rfl, rfl, (Gr.new nl5).lst e5, upd_same, _, rfl, ?_⟩⟩
        rw [show (((tt.map fun e => (e.2.1, e.2.2)).filter fun q : Addr × List Str => q.2.contains y).map fun q => V.ref q.1).isEmpty = ((tt.map fun e => (e.2.1, e.2.2)).filter fun q : Addr × List Str => q.2.contains y).isEmpty from List.isEmpty_map]
        exact hq _ (g5.trans (Gr.new nl5))
    rw [sd.there N5] at eTh
    have g13 := g2.trans g3
    have S3 := S1.gr g13
    have L3 := L1.gr g13
    have fin : ∀ H', Gr H3 H' → Q (.bl true) H' := fun H' g => q H' ((g1.trans g13).trans g)
    have dS_eq : ∀ {H9 : Hp} {x y : Addr} {xs ys : List Str}, H9 x = some (.lst (xs.map V.str)) → H9 y = some (.lst (ys.map V.str)) → Nms xs → xs = ys → Gr H3 H9 → rEqD K (.ref x) (.ref y) H9 Q := fun {H9 x y xs ys} h1 h2 nx e g => by
      subst e
      refine ⟨_, _, dp_dS (.inl (.inl h1)), dp_dS (.inl (.inl h2)), shaped_dS nx, shaped_dS nx, ?_⟩
      rw [eqv_dS, decide_eq_true rfl]
      exact fin _ g
    refine ⟨_, rfl, rfl, _, rfl, ite2 (fun w6 => ?_) (fun w6 => ?_)⟩
    · refine ⟨_, rfl, b, d, tb, n, rfl, S3.sd.bk, b, d, tb, n, rfl, S3.sd.bk, sd.ok, fun p H4 g4 np e4 => ⟨_, rfl, dS_eq e4 (g4.lst eTh) nmA rfl g4⟩⟩
    refine ⟨_, rfl, rfl, _, rfl, ite2 (fun w7 => ?_) (fun w7 => ?_)⟩
    · refine ⟨_, rfl, a, rfl, ⟨_, S3.at_⟩, fun D nD => lc_filtT (K := K) (fun y => decide (y ≠ x)) S3.at_ (small1000 (by omega)) nD (fun _ => rfl) (fun _ => rfl) (fun y hy H5 Qb g5 hq2 => ?_) (fun H4 g4 e4 => ?_)⟩
      · refine ⟨_, rfl, _, rfl, rfl, _, rfl, ?_⟩
        rw [ne_strB]
        exact hq2 _ (Gr.refl _)
      generalize hone : (nm.filter fun y => decide (y ≠ x)) = one at e4
      have onm : Nms one := fun y hy => by rw [← hone] at hy; exact N5.nms y (List.mem_filter.mp hy).1
      have ol : one.length ≤ 5 := by
        rw [← hone]
        have := List.length_filter_le (fun y => decide (y ≠ x)) nm
        omega
      refine ⟨_, rfl, b, d, tb, n, rfl, (S3.gr g4).sd.bk, _, rfl, D, _, rfl, .inl (.inl (.inl e4)), fun l4 nl4 => ?_⟩
      have g5 : Gr H4 (upd H4 l4 (.lst (one.map V.str))) := Gr.new nl4
      have e5 : (upd H4 l4 (.lst (one.map V.str))) l4 = some (.lst (one.map V.str)) := upd_same
      generalize upd H4 l4 (.lst (one.map V.str)) = H5 at g5 e5
      have S5 := S3.gr (g4.trans g5)
      refine ⟨b, d, tb, n, _, rfl, S5.sd.bk, sd.ok, S5.tg, .inl ⟨one, ⟨l4, rfl, e5, onm, by omega⟩, fun H6 g6 => ?_⟩⟩
      have g36 := (g4.trans g5).trans g6
      have L6 := L3.gr g36
      refine ⟨_, rfl, _, rfl, D, Rw, one, _, rfl, .inl (.inl ((g5.trans g6).lst e4)), L6.at_, L6.own, rfl, ?_⟩
      rw [tb_rows2, sd.mt, decide_eq_true rfl]
      exact fin _ g36
    refine ⟨_, rfl, rfl, _, rfl, ite2 (fun w8 => ?_) (fun w8 => ?_)⟩
    · refine ⟨_, rfl, b, d, tb, n, rfl, S3.sd.bk, b, d, tb, n, rfl, S3.sd.bk, sd.ok, S3.tg, fun H4 g4 => ?_⟩
      refine ⟨_, rfl, Nat.zero_le _, fun l4 nl4 => ?_⟩
      have g5 : Gr H4 (upd H4 l4 (.lst [])) := Gr.new nl4
      have e5 : (upd H4 l4 (.lst [])) l4 = some (.lst []) := upd_same
      generalize upd H4 l4 (.lst []) = H5 at g5 e5
      have g35 := g4.trans g5
      refine ⟨Du, l4, _, rfl, rfl, g35.lst S3.du, e5, _, rfl, ?_⟩
      have ug := S.ug
      cases us with
      | nil =>
        have e9 : fewV (rws tb) = .non := by
          unfold fewV
          rw [← ug]
          rfl
        rw [e9]
        exact iteF ⟨rfl, fin _ g35⟩
      | cons u0 ur =>
        have e9 : fewV (rws tb) = .int ((u0.2.length : Nat) : Int) := by
          unfold fewV
          rw [← ug]
          rfl
        rw [e9]
        refine iteT ⟨_, rfl, Du, _, _, _, rfl, rfl, .inl (.inl (g35.lst S3.du)), (show atI _ ((0 : Nat) : Int) = some (V.ref u0.1) from atI_nat rfl), u0.1, _, rfl, .inl (.inl (.inl (g35.lst (S3.ul u0 List.mem_cons_self).1))), rfl, ?_⟩
        rw [List.length_map, decide_eq_true rfl]
        exact fin _ g35
    -- a look through the least sets, by a name
    refine ⟨_, rfl, rfl, _, rfl, ite2 (fun w9 => ?_) (fun w9 => ?_)⟩
    · refine ⟨_, rfl, Th, rfl, ⟨_, .inl (.inl eTh)⟩, fun D nD => lc_filtT (K := K) (fun y => (us.filter fun u => !u.2.contains y).isEmpty) (.inl (.inl eTh)) (small1000 (by omega)) nD (fun _ => rfl) (fun _ => rfl) (fun y hy H4 Qb g4 hq => ?_) (fun H4 g4 e4 => ?_)⟩
      · have S4 := S3.gr g4
        refine ⟨_, rfl, Du, rfl, ⟨_, .inl (.inl S4.du)⟩, fun D5 nD5 => lc_filtL (K := K) (ps := us) (fun q => !q.2.contains y) (.inl (.inl S4.du)) (by rw [sizeLine_eq]; omega) nD5 (fun _ => rfl) (fun _ => rfl) (fun u0 hu0 H5 Qb5 g5 hq5 => ?_) (fun H5 g5 e5 => ?_)⟩
        · refine ⟨_, rfl, _, rfl, u0.1, _, rfl, .inl (.inl (.inl ((S4.gr g5).ul u0 hu0).1)), rfl, flat_str _, _, rfl, ?_⟩
          rw [inV_str, if_pos rfl]
          exact hq5 _ (Gr.refl _)
        · refine ⟨Nat.zero_le _, fun l5 nl5 => ⟨D5, l5, _, rfl, rfl, (Gr.new nl5).lst e5, upd_same, _, rfl, ?_⟩⟩
          rw [show ((us.filter fun q : Addr × List Str => !q.2.contains y).map fun q => V.ref q.1).isEmpty = (us.filter fun q : Addr × List Str => !q.2.contains y).isEmpty from List.isEmpty_map]
          exact hq _ (g5.trans (Gr.new nl5))
      have S4 := S3.gr g4
      refine ⟨_, rfl, b, d, tb, n, rfl, S4.sd.bk, b, d, tb, n, rfl, S4.sd.bk, sd.ok, S4.tg, fun p H5 g5 np e5 => ?_⟩
      refine ⟨_, rfl, Nat.zero_le _, fun l6 nl6 => ?_⟩
      have g6 : Gr H5 (upd H5 l6 (.lst [])) := Gr.new nl6
      have e6 : (upd H5 l6 (.lst [])) l6 = some (.lst []) := upd_same
      generalize upd H5 l6 (.lst []) = H6 at g6 e6
      have g36 := (g4.trans g5).trans g6
      refine ⟨Du, l6, _, rfl, rfl, g36.lst S3.du, e6, _, rfl, ?_⟩
      rw [show (us.map fun q => V.ref q.1).isEmpty = us.isEmpty from List.isEmpty_map]
      have nE := sd.need S.ug
      have nmN : Nms (needB (rws tb)) := fun y hy => by
        rw [nE] at hy
        split at hy
        · cases hy
        · exact nmA y (List.mem_filter.mp hy).1
      cases eu : us.isEmpty with
      | true =>
        rw [eu, if_pos rfl] at nE
        refine iteF ⟨Nat.zero_le _, fun l7 nl7 => ?_⟩
        exact dS_eq ((g6.trans (Gr.new nl7)).lst e5) (ys := []) upd_same nmN nE (g36.trans (Gr.new nl7))
      | false =>
        rw [eu, if_neg Bool.false_ne_true] at nE
        exact iteT ⟨_, rfl, dS_eq (g6.lst e5) ((g5.trans g6).lst e4) nmN nE g36⟩
    refine ⟨_, rfl, rfl, _, rfl, ite2 (fun w10 => ?_) (fun w10 => ?_)⟩
    · refine ⟨_, rfl, b, d, tb, n, rfl, S3.sd.bk, b, d, tb, n, rfl, S3.sd.bk, sd.ok, S3.tg, by omega, fun p H4 g4 np e4 => ?_⟩
      have S4 := S3.gr g4
      have eTh4 := g4.lst eTh
      refine ⟨_, rfl, Th, rfl, ⟨_, .inl (.inl eTh4)⟩, fun D nD => lc_filtT (K := K) (fun y => (us.filter fun u => u.2.contains y).isEmpty) (.inl (.inl eTh4)) (small1000 (by omega)) nD (fun _ => rfl) (fun _ => rfl) (fun y hy H5 Qb g5 hq => ?_) (fun H5 g5 e5 => ?_)⟩
      · have S5 := S4.gr g5
        refine ⟨_, rfl, Du, rfl, ⟨_, .inl (.inl S5.du)⟩, fun D5 nD5 => lc_filtL (K := K) (ps := us) (fun q => q.2.contains y) (.inl (.inl S5.du)) (by rw [sizeLine_eq]; omega) nD5 (fun _ => rfl) (fun _ => rfl) (fun u0 hu0 H6 Qb6 g6 hq6 => ?_) (fun H6 g6 e6 => ?_)⟩
        · refine ⟨_, rfl, _, rfl, u0.1, _, rfl, .inl (.inl (.inl ((S5.gr g6).ul u0 hu0).1)), rfl, flat_str _, _, rfl, ?_⟩
          rw [inV_str]
          exact hq6 _ (Gr.refl _)
        · refine ⟨Nat.zero_le _, fun l7 nl7 => ⟨D5, l7, _, rfl, rfl, (Gr.new nl7).lst e6, upd_same, _, rfl, ?_⟩⟩
          rw [show ((us.filter fun q : Addr × List Str => q.2.contains y).map fun q => V.ref q.1).isEmpty = (us.filter fun q : Addr × List Str => q.2.contains y).isEmpty from List.isEmpty_map]
          exact hq _ (g6.trans (Gr.new nl7))
      have iE := sd.idle S.ug
      have nmI : Nms (idleB (rws tb)) := fun y hy => by
        rw [iE] at hy
        exact nmA y (List.mem_filter.mp hy).1
      exact dS_eq (g5.lst e4) e5 nmI iE (g4.trans g5)
    -- the text
    refine ⟨_, rfl, Rw, rfl, ⟨_, L3.at_⟩, fun D nD => lc_mapW (K := K) (fun q : Addr × List Str => V.ref q.1) (fun q => V.str (lineS (srt q.2))) L3.at_ fewP nD (fun _ => rfl) (fun u0 hu0 H4 Q' g4 hq => ?_) (fun H4 g4 e4 => ?_)⟩
    · have L4 := L3.gr g4
      obtain ⟨e0, he0, ee⟩ := List.mem_map.mp hu0
      have m0 : u0.2 ∈ rws tt := by rw [← ee]; exact List.mem_map.mpr ⟨e0, he0, rfl⟩
      obtain ⟨rn, rl⟩ := sd.nmsR N5 u0.2 m0
      have ou : H4 u0.1 = some (.lst (u0.2.map V.str)) := by
        rw [← ee]
        exact (S3.gr g4).sd.tbl.own e0 he0
      refine ⟨_, rfl, Nat.zero_le _, fun l5 nl5 => ⟨u0.1, l5, _, rfl, rfl, (Gr.new nl5).lst ou, upd_same, _, rfl, ?_⟩⟩
      have g5 : Gr H4 (upd H4 l5 (.lst [])) := Gr.new nl5
      have hq := hq
      rw [line_srt] at hq
      cases er : u0.2 with
      | nil =>
        rw [er, if_pos rfl] at hq
        exact iteF (hq _ g5)
      | cons y0 yr =>
        refine iteT ⟨⟨_, rfl⟩, _, rfl, sortedT (K := K) (xs := y0 :: yr) (.inl (.inl (by rw [← er]; exact g5.lst ou))) fun l6 nl6 => ?_⟩
        have g6 := g5.trans (Gr.new (o := .lst ((srt (y0 :: yr)).map V.str)) nl6)
        have sr : Nms (srt (y0 :: yr)) := nms_srt (by rw [← er]; exact rn)
        have h1 := sum_le 8 (srt (y0 :: yr)) fun z hz => nm_len (sr z hz)
        have h2 : (srt (y0 :: yr)).length ≤ 5 := by rw [srt_len, ← er]; exact rl
        have h3 : (" " : Str).length = 1 := by decide +kernel
        refine ⟨_, l6, srt (y0 :: yr), rfl, rfl, .inl (.inl (.inl upd_same)), by rw [h3]; omega, ?_⟩
        rw [er, if_neg (List.cons_ne_nil _ _)] at hq
        exact hq _ g6
    have S4 := S3.gr g4
    refine ⟨_, rfl, b, d, tb, n, rfl, S4.sd.bk, sd.ok, fun H5 g5 => ?_⟩
    have e4' : H4 D = some (.lst (((rws tb).map lineS).map V.str)) := by
      rw [e4, sd.rws]
      unfold rws
      rw [List.map_map, List.map_map, List.map_map, List.map_map]
      rfl
    refine ⟨⟨_, rfl⟩, _, rfl, _, D, (rws tb).map lineS, rfl, rfl, .inl (.inl (.inl (g5.lst e4'))), ?_, rfl, ?_⟩
    · have h1 := sum_le 120 ((rws tb).map lineS) fun z hz => by
        obtain ⟨r, hr, rfl⟩ := List.mem_map.mp hz
        obtain ⟨_, h2, h3⟩ := sd.ok.rlen hr
        exact lineS_len h2 h3
      have h2 : ("\n" : Str).length = 1 := by decide +kernel
      have h3 : (rws tb).length ≤ 20 := by rw [rws_len, sd.len]; exact fewt
      rw [List.length_map] at h1
      rw [h2, List.length_map]
      omega
    · show Q (.bl (decide (V.str (textS (rws tb)) = V.str (textS (rws tb))))) _
      rw [decide_eq_true rfl]
      exact fin _ (g4.trans g5)
end
end K1
end
section
set_option maxHeartbeats 8000000
namespace K1
open PySem PySem.Spec PyProof.Rows L2 Gr GxR Srx Skx Dcx
section
variable {P : Program} {w : World} {K : PySem.W.Frag} {mg : Str → Option Value} {base : Heap} {f C M : Addr} {fd : FuncData} {N : TabN} {R : ErN}
structure E13g (P : Program) (w : World) (K : PySem.W.Frag) (mg : Str → Option Value) (base : Heap) (C : Addr) (N : TabN) (R : ErN) : Prop where
  one : Calls P w K mg base CX0 8 "_law_one" (spOne K C N)
  other : Calls P w K mg base CX0 9 "_law_other" (spOther K C N)
  gL : mg "len" = none
  gR : mg "range" = none
abbrev nAsked13 : List Str := ["_law_book", "_law_names_here", "_law_turn", "_law_table", "_law_due", "_law_held", "_law_name", "_law_k", "_law_way"]
theorem scAsked13 : FnScope nAsked13 ["_law_book", "_law_names_here", "_law_turn", "_law_table", "_law_due", "_law_held"] (defScope s_law_asked_x) := ⟨rfl, rfl, rfl, by decide +kernel, rfl, by decide +kernel, by decide +kernel⟩
def spAsked13 (K : PySem.W.Frag) (C : Addr) (N : TabN) : Sp := fun vs H Q _ => ∃ (nm : List Str) (X : Addr → Prop) (b d t a Du L : Addr) (tb tt : Tb1) (n turn : Int) (us : List (Addr × List Str)) (hs : List HelD), vs = [.ref b, .ref a, .int turn, .ref t, .ref Du, .ref L] ∧ Look K C N nm X H b d t a Du L tb tt n us hs ∧ hs.length ≤ 4000 ∧ HeldQ K X H L hs 24 Q
theorem ok_asked13 (F : FnP K "_law_asked" s_law_asked_x f fd) (G : E13g P w K mg base C N R) : FnOk P w K mg base CX0 10 f fd ["_law_book", "_law_names_here", "_law_turn", "_law_table", "_law_due", "_law_held"] (spAsked13 K C N) := by
  have g_len := G.gL
  have g_range := G.gR
  refine F.ok scAsked13 (fun vs H Q E h => ?_) (fun cdv A outer s H vs Q E hr h => ?_)
  · obtain ⟨nm, X, b, d, t, a, Du, L, tb, tt, n, turn, us, hs, rfl, _⟩ := h
    rfl
  · obtain ⟨nm, X, b, d, t, a, Du, L, tb, tt, n, turn, us, hs, rfl, S, few, q⟩ := h
    refine ⟨_, PSs.nox (pss_cons (ps_set (i := 6) scAsked13.nd rfl (.inl rfl) (pe_ix ix_list (pv 1) (pe_op op_mod (pe_op op_fdiv (pv 2) pe_int) (pe_callB call_len_seq (by rfl) g_len boot_len (pa_cons (pv 1) pa_nil))) (fun _ _ => rfl))) (pss_cons (ps_for PassesOwn.never rfl (pi_range1 (by rfl) g_range (pa_cons pe_int pa_nil)) (pg_name (i := 7) scAsked13.nd rfl (.inl rfl)) (pss_cons (ps_set (i := 8) scAsked13.nd rfl (.inl rfl) (pe_op op_mod (pe_op op_add (pe_op op_fdiv (pv 2) pe_int) (pe_op op_mul (pe_ix ix_list (pe_lst (pa_cons pe_int (pa_cons pe_int (pa_cons pe_int (pa_cons pe_int pa_nil))))) (pe_op op_mod (pv 2) pe_int) (fun _ _ => rfl)) (pv 7))) pe_int)) (pss_cons (ps_if (PW.pt (pw_and (pt_cmpR op_lt (pv 8) pe_int (nomark _)) (pw_and1 (pt_not (pt_val (pe_k G.one hr (by decide) (by rfl) (pa_cons (pv 0) (pa_cons (pv 8) (pa_cons (pv 1) (pa_cons (pv 6) (pa_cons (pv 3) (pa_cons (pv 4) (pa_cons (pv 5) pa_nil))))))))))))) (pss_one (ps_ret pe_bl)) (pss_nil)) (pss_one (ps_if (PW.pt (pw_and (pt_cmpR op_gt (pv 8) pe_int (nomark _)) (pw_and1 (pt_not (pt_val (pe_k G.other hr (by decide) (by rfl) (pa_cons (pv 0) (pa_cons (pv 8) (pa_cons (pv 1) (pa_cons (pv 6) (pa_cons (pv 3) (pa_cons (pv 4) pa_nil)))))))))))) (pss_one (ps_ret pe_bl)) (pss_nil)))))) (pss_one (ps_ret pe_bl)))), ?_⟩
    have N5 := S.n5
    have npos : 0 < nm.length := List.length_pos_iff.mpr N5.ne
    obtain ⟨vx, hv, mv⟩ := atI_mod (xs := nm.map V.str) (c := turn / 48) (n := nm.length) (by rw [List.length_map]) npos
    obtain ⟨x, hx, rfl⟩ := List.mem_map.mp mv
    refine ⟨_, rfl, _, rfl, _, _, rfl, rfl, ⟨by decide, by decide⟩, _, rfl, a, _, rfl, .inl S.at_, _, _, rfl, rfl, (by rw [List.length_map]; omega), a, _, _, _, rfl, rfl, S.at_, (by rw [List.length_map]; exact hv), ?_⟩
    refine ⟨_, rfl, by decide, by decide, for_range (lo := 0) (fun i σ H1 => GrX (fun z => z = L) H H1 ∧ (∃ hs1, Look K C N nm X H1 b d t a Du L tb tt n us hs1 ∧ hs1.length ≤ hs.length + 2 * i) ∧ ∃ v7 v8, σ = [some (.ref b), some (.ref a), some (.int turn), some (.ref t), some (.ref Du), some (.ref L), some (.str x), v7, v8])
      ⟨GrX.refl _ _, ⟨hs, S, Nat.le_refl _⟩, none, none, rfl⟩ (fun i σ H1 hi h => ?_) (fun σ H1 h => ?_)⟩
    · obtain ⟨gx, ⟨hs1, S1, l1⟩, v7, v8, rfl⟩ := h
      have hi : i < 12 := hi
      obtain ⟨vm, hm, mm⟩ := atI_mod (xs := [V.int 1, .int 5, .int 7, .int 11]) (c := turn) (n := 4) rfl (by decide)
      obtain ⟨k0, rfl, kb⟩ : ∃ k0 : Int, vm = .int k0 ∧ 0 ≤ k0 ∧ k0 ≤ 11 := by
        simp only [List.mem_cons, List.not_mem_nil, or_false] at mm
        rcases mm with rfl | rfl | rfl | rfl <;> exact ⟨_, rfl, by decide, by decide⟩
      refine ⟨_, rfl, _, _, rfl, rfl, ⟨by decide, by decide⟩, (by show 4 ≤ sizeLine; rw [sizeLine_eq]; omega), fun l nl => ?_⟩
      have g2 : Gr H1 (upd H1 l (.lst [.int 1, .int 5, .int 7, .int 11])) := Gr.new nl
      have el : (upd H1 l (.lst [.int 1, .int 5, .int 7, .int 11])) l = some (.lst [.int 1, .int 5, .int 7, .int 11]) := upd_same
      generalize upd H1 l (.lst [.int 1, .int 5, .int 7, .int 11]) = H2 at g2 el
      refine ⟨_, rfl, _, _, rfl, rfl, (by show (0 : Int) < 4; decide), l, _, _, _, rfl, rfl, .inl (.inl el), hm, _, rfl, _, _, rfl, rfl, .inl ⟨by omega, by omega⟩, _, _, rfl, rfl, _, _, rfl, rfl, (by show (0 : Int) < 12; decide), ?_⟩
      show gName 8 (V.int ((turn / 4 + k0 * (0 + (i : Int))) % 12)) _ _ _
      generalize (turn / 4 + k0 * (0 + (i : Int))) % 12 = way
      have S2 := S1.gr g2
      have gx2 := gx.then g2
      refine ⟨_, rfl, _, _, rfl, rfl, _, rfl, ?_⟩
      by_cases w6 : way < 6
      · rw [decide_eq_true w6]
        refine iteT ⟨_, rfl, _, rfl, _, rfl, _, rfl, _, rfl, _, rfl, _, rfl, nm, X, b, d, t, a, Du, L, tb, tt, n, way, x, us, hs1, rfl, S2, hx, by omega, fun H3 hs3 gx3 hl3 le3 => ⟨_, rfl, iteF ?_⟩⟩
        have S3 := S2.keep gx3 hl3
        refine ⟨_, rfl, _, _, rfl, rfl, _, rfl, ?_⟩
        rw [decide_eq_false (by omega)]
        exact iteF (iteF ⟨gx2.trans gx3, ⟨hs3, S3, by omega⟩, _, _, rfl⟩)
      · rw [decide_eq_false w6]
        refine iteF (iteF ⟨_, rfl, _, _, rfl, rfl, _, rfl, ?_⟩)
        rw [decide_eq_true (by omega)]
        exact iteT ⟨_, rfl, _, rfl, _, rfl, _, rfl, _, rfl, _, rfl, nm, X, b, d, t, a, Du, L, tb, tt, n, way, x, us, hs1, rfl, S2, hx, fun H3 g3 => ⟨_, rfl, iteF ⟨gx2.then g3, ⟨hs1, S2.gr g3, by omega⟩, _, _, rfl⟩⟩⟩
    · obtain ⟨gx, ⟨hs1, S1, l1⟩, v7, v8, rfl⟩ := h
      exact q H1 hs1 gx S1.hl l1
/-- the same without the least sets -/
structure Look0 (K : PySem.W.Frag) (C : Addr) (N : TabN) (nm : List Str) (X : Addr → Prop) (H : Hp) (b d t a L : Addr) (tb tt : Tb1) (n : Int) (hs : List HelD) : Prop where
  sd : Sd13 C nm H b d t tb tt n
  tg : N.G H
  at_ : SqL K H a (nm.map V.str)
  na : ¬ X a
  n5 : Nm5 nm
  few : tt.length ≤ 20
  rb : ∀ e ∈ tb, ¬ X e.2.1
  rt : ∀ e ∈ tt, ¬ X e.2.1
  hl : HeldL K X H L hs
section
variable {nm : List Str} {X : Addr → Prop} {H H' : Hp} {b d t a L : Addr} {tb tt : Tb1} {n : Int} {hs hs' : List HelD}
theorem Look0.gr (S : Look0 K C N nm X H b d t a L tb tt n hs) (g : Gr H H') : Look0 K C N nm X H' b d t a L tb tt n hs :=
  ⟨S.sd.gr g, S.tg.gr g, g.seq S.at_, S.na, S.n5, S.few, S.rb, S.rt, S.hl.gr g⟩
theorem Look0.keep (S : Look0 K C N nm X H b d t a L tb tt n hs) (g : GrX (fun z => z = L) H H') (hl : HeldL K X H' L hs') : Look0 K C N nm X H' b d t a L tb tt n hs' := by
  have off : ∀ {z : Addr}, ¬ X z → ¬ z = L := fun h e => h (by rw [e]; exact S.hl.mem)
  exact ⟨S.sd.keep S.rb S.rt S.hl g, S.tg.grx g, g.seq (off S.na) S.at_, S.na, S.n5, S.few, S.rb, S.rt, hl⟩
end
structure E13r (P : Program) (w : World) (K : PySem.W.Frag) (mg : Str → Option Value) (base : Heap) (C : Addr) (N : TabN) (R : ErN) : Prop where
  bc : BkC K mg C
  asked : Calls P w K mg base CX0 10 "_law_asked" (spAsked13 K C N)
  lleast : Calls P w K mg base CX0 3 "_law_least" (spLLeast K)
  least : MCalls P w K mg base CX0 7 C "least" (spBLeast C N)
  rows : MCalls P w K mg base CX0 1 C "rows" (spBRows C)
  sets : Calls P w K mg base CX0 1 "_law_sets" spSets
  gLi : mg "list" = none
  gS : mg "sorted" = none
abbrev nRight13 : List Str := ["_law_book", "_law_table", "_law_names_here", "_law_held", "_law_turn", "_law_numbers", "_law_due", "_law_number", "_law_ahead", "_law_found", "_law_told"]
theorem scRight13 : FnScope nRight13 ["_law_book", "_law_table", "_law_names_here", "_law_held", "_law_turn"] (defScope s_law_right_x) := ⟨rfl, rfl, rfl, by decide +kernel, rfl, by decide +kernel, by decide +kernel⟩
def spRight13 (K : PySem.W.Frag) (C : Addr) (N : TabN) : Sp := fun vs H Q _ => ∃ (nm : List Str) (X : Addr → Prop) (b d t a L : Addr) (tb tt : Tb1) (n turn : Int) (hs : List HelD), vs = [.ref b, .ref t, .ref a, .ref L, .int turn] ∧ Look0 K C N nm X H b d t a L tb tt n hs ∧ hs.length ≤ 3000 ∧ HeldQ K X H L hs 25 Q
theorem ok_right13 (F : FnP K "_law_right" s_law_right_x f fd) (G : E13r P w K mg base C N R) : FnOk P w K mg base CX0 11 f fd ["_law_book", "_law_table", "_law_names_here", "_law_held", "_law_turn"] (spRight13 K C N) := by
  have g_list := G.gLi
  have g_sorted := G.gS
  refine F.ok scRight13 (fun vs H Q E h => ?_) (fun cdv A outer s H vs Q E hr h => ?_)
  · obtain ⟨nm, X, b, d, t, a, L, tb, tt, n, turn, hs, rfl, _⟩ := h
    rfl
  · obtain ⟨nm, X, b, d, t, a, L, tb, tt, n, turn, hs, rfl, S, few, q⟩ := h
    refine ⟨_, PSs.nox (pss_cons (ps_set (i := 5) scRight13.nd rfl (.inl rfl) (pe_callB cr_sorted (by rfl) g_sorted boot_sorted (pa_cons (pe_callTy (call_list_dK rfl) (by rfl) g_list boot_list (pa_cons (pv 1) pa_nil)) pa_nil))) (pss_cons (ps_set (i := 6) scRight13.nd rfl (.inl rfl) (pe_k G.lleast hr (by decide) (by rfl) (pa_cons (pv 2) (pa_cons (pe_lc (own := [("_law_number", 7)]) (g := gName 7) (tt := tYes) rfl scRight13.nd (pi_list (pv 5)) (blkOk_by (N := nRight13) (sc := defScope s_law_right_x) (by decide +kernel)) (fun _ _ _ _ _ => (pg_name (i := 7) scRight13.nd rfl (.inl rfl))) (fun _ _ _ _ _ => pts_nil) (fun _ _ _ _ _ => (pe_dget (hu_of hr) (pv 1) (pv 7) (fun _ _ => rfl)))) pa_nil)))) (pss_cons (ps_set (i := 8) scRight13.nd rfl (.inl rfl) (pe_cmpR op_eq (pe_op op_mod (pe_op op_fdiv (pv 4) pe_int) pe_int) pe_int (nomark _))) (C8.pss_cut (ps_if (PW.pt (pw_and (pt_val (pv 8)) (pw_and1 (pt_not (pt_val (pe_k G.asked hr (by decide) (by rfl) (pa_cons (pv 0) (pa_cons (pv 2) (pa_cons (pe_op op_fdiv (pv 4) pe_int) (pa_cons (pv 1) (pa_cons (pv 6) (pa_cons (pv 3) pa_nil)))))))))))) (pss_one (ps_ret pe_bl)) (pss_nil)) (pss_cons (ps_set (i := 9) scRight13.nd rfl (.inl rfl) (pe_m0 G.least G.bc.cl hr (by decide) pa0 (pv 0))) (pss_cons (ps_if (PW.pt (pw_or (pt_not (pt_val (pe_k G.sets hr (by decide) (by rfl) (pa_cons (pv 9) (pa_cons (pv 6) pa_nil))))) (pw_or1 (pt_cmpR (op_neD (hu64 hr)) (pe_m0 G.rows G.bc.cl hr (by decide) pa0 (pv 0)) (pe_lc (own := [("_law_number", 7)]) (g := gName 7) (tt := tYes) rfl scRight13.nd (pi_list (pv 5)) (blkOk_by (N := nRight13) (sc := defScope s_law_right_x) (by decide +kernel)) (fun _ _ _ _ _ => (pg_name (i := 7) scRight13.nd rfl (.inl rfl))) (fun _ _ _ _ _ => pts_nil) (fun _ _ _ _ _ => (pe_tup (pa_cons (pv 7) (pa_cons (pe_callB (r := rSortedD K fun x : Str => PyData.str x) (cr_sortedD Ord.strs (hu64 hr)) (by rfl) g_sorted boot_sorted (pa_cons (pe_dget (hu_of hr) (pv 1) (pv 7) (fun _ _ => rfl)) pa_nil)) pa_nil))))) (nomark _))))) (pss_one (ps_ret pe_bl)) (pss_nil)) (pss_cons (ps_expr (pe_bm PySem.F.plainAttrs_list PySem.F.slot_list_append PySem.F.type_list_append mt_append (pv 3) (pa_cons (pe_tup (pa_cons (pv 9) (pa_cons (pv 6) pa_nil))) pa_nil))) (pss_cons (ps_set (i := 10) scRight13.nd rfl (.inl rfl) (pe_m0 G.least G.bc.cl hr (by decide) pa0 (pv 0))) (pss_cons (ps_expr (pe_bm PySem.F.plainAttrs_list PySem.F.slot_list_append PySem.F.type_list_append mt_append (pv 10) (pa_cons (pe_lst (pa_cons pe_str pa_nil)) pa_nil))) (pss_cons (ps_if (pt_not (pt_val (pe_k G.sets hr (by decide) (by rfl) (pa_cons (pe_m0 G.least G.bc.cl hr (by decide) pa0 (pv 0)) (pa_cons (pv 6) pa_nil))))) (pss_one (ps_ret pe_bl)) (pss_nil)) (pss_one (ps_ret (pe_or (pv 8) (pe_one (pe_k G.asked hr (by decide) (by rfl) (pa_cons (pv 0) (pa_cons (pv 2) (pa_cons (pe_op op_fdiv (pv 4) pe_int) (pa_cons (pv 1) (pa_cons (pv 6) (pa_cons (pv 3) pa_nil))))))))))))))))))))), ?_⟩
    have N5 := S.n5
    have n5 := N5.few
    have fewt := S.few
    have pw := S.sd.pw
    have ndn := pw_nodup pw
    -- the numbers
    refine ⟨_, rfl, t, _, rfl, S.sd.tbl.at_, fun l nl => ?_⟩
    rw [kvB_keys]
    have g1 : Gr H (upd H l (.lst ((nums tt).map V.int))) := Gr.new nl
    have el : (upd H l (.lst ((nums tt).map V.int))) l = some (.lst ((nums tt).map V.int)) := upd_same
    generalize upd H l (.lst ((nums tt).map V.int)) = H1 at g1 el
    refine sortedI (K := K) (.inl (.inl el)) pw (by unfold nums; rw [List.length_map]; omega) fun Nu nNu => ?_
    have g2 : Gr H1 (upd H1 Nu (.lst ((nums tt).map V.int))) := Gr.new nNu
    have eNu : (upd H1 Nu (.lst ((nums tt).map V.int))) Nu = some (.lst (tt.map fun e => V.int e.1)) := by rw [upd_same]; unfold nums; rw [List.map_map]; rfl
    generalize upd H1 Nu (.lst ((nums tt).map V.int)) = H2 at g2 eNu
    have g02 := g1.trans g2
    have S2 := S.gr g02
    have oNu : ¬ X Nu := S.hl.out (g1.free nNu)
    -- the least sets by the law's own look
    refine ⟨_, rfl, _, rfl, Nu, rfl, ⟨_, .inl (.inl eNu)⟩, fun Rw nRw => lc_mapW (K := K) (fun e : Int × Addr × List Str => V.int e.1) (fun e => V.ref e.2.1) (.inl (.inl eNu)) (small1000 (by omega)) nRw (fun _ => rfl) (fun e he H4 Q' g4 hq => ?_) (fun H3 g3 eRw => ?_)⟩
    · have z : DGet H4 t (V.int e.1) _ := DGet.k (k := Sum.inl e.1) (S2.sd.tbl.gr g4).at_
      rw [kvB_get ndn he] at z
      exact ⟨_, rfl, _, rfl, t, _, rfl, z, hq _ (Gr.refl _)⟩
    rw [tb_refs] at eRw
    have S3 := S2.gr g3
    refine ⟨a, Rw, nm, tt.map fun e => (e.2.1, e.2.2), rfl, S3.at_, N5.nms, by omega, .inl (.inl eRw), fun q hq => S3.sd.lq q hq, fun Du H4 us g4 TL eu => ?_⟩
    have ug : us.map (·.2) = grown (rws tb) := by
      rw [eu, tb_rows2, S.sd.grown, grown_eq (ris_srt N5.nd) (rws tt) fun r hr y hy => srt_mem.mpr ((S.sd.row r hr).2 y hy)]
    have g34 := g3.trans g4
    have g04 := g02.trans g34
    have S4 := S.gr g04
    have o4 : ∀ {z : Addr}, H3 z = none → ¬ X z := fun h => S.hl.out ((g02.trans g3).free h)
    have K4 : Look K C N nm X H4 b d t a Du L tb tt n us hs := ⟨S4.sd, S4.tg, S4.at_, S4.na, N5, fewt, S4.rb, S4.rt, TL.at_, o4 TL.new, fun u hu => ⟨(TL.own u hu).2.2, o4 (TL.own u hu).1⟩, ug, S4.hl⟩
    have eNu4 := g34.lst eNu
    have fitG : Fit (grown (rws tb)) := by
      obtain ⟨h1, h2⟩ := S.sd.ok.grown
      refine ⟨?_, fun xs hxs => ?_⟩
      · have h3 : (grown (rws tb)).length ≤ 2 ^ (srt nm).length := grown_len (ris_srt N5.nd) fun r hr y hy => srt_mem.mpr ((S.sd.rowB r hr).2 y hy)
        rw [srt_len] at h3
        have h4 : 2 ^ nm.length ≤ 2 ^ 5 := Nat.pow_le_pow_right (by decide) n5
        omega
      · obtain ⟨_, h4, h5⟩ := h2 xs hxs
        exact ⟨h4, by omega⟩
    have nmG : ∀ xs ∈ grown (rws tb), Nms xs := fun xs hxs => (fitG.2 xs hxs).1
    -- asked ahead, or not
    refine ⟨_, rfl, _, _, rfl, rfl, ⟨by decide, by decide⟩, _, _, rfl, rfl, (by show (0 : Int) < 2; decide), rfl, ?_⟩
    show gName 8 (V.bl (decide (V.int (turn / 7 % 2) = V.int 1))) _ _ _
    generalize decide (V.int (turn / 7 % 2) = V.int 1) = ah
    let σR : L2.St := [some (.ref b), some (.ref t), some (.ref a), some (.ref L), some (.int turn), some (.ref Nu), some (.ref Du), none, some (.bl ah), none, none]
    refine ⟨fun σ' H' => ∃ hs', GrX (fun z => z = L) H H' ∧ Look K C N nm X H' b d t a Du L tb tt n us hs' ∧ hs'.length ≤ hs.length + (if ah = true then 24 else 0) ∧ H' Nu = some (.lst (tt.map fun e => V.int e.1)) ∧ σ' = σR, ?_, fun σ' H5 hm => ?_⟩
    · refine ⟨_, rfl, _, rfl, ?_⟩
      cases ah with
      | false => exact iteF (iteF ⟨hs, g04.x _, K4, Nat.le_refl _, eNu4, rfl⟩)
      | true =>
        refine iteT ⟨_, rfl, _, rfl, _, rfl, _, _, rfl, rfl, ⟨by decide, by decide⟩, _, rfl, _, rfl, _, rfl, nm, X, b, d, t, a, Du, L, tb, tt, n, _, us, hs, rfl, K4, by omega, fun H5 hs5 gx5 hl5 le5 => ⟨_, rfl, iteF ?_⟩⟩
        exact ⟨hs5, (g04.x _).trans gx5, K4.keep gx5 hl5, by rw [if_pos rfl]; omega, gx5.lst (fun z => oNu (by rw [z]; exact S.hl.mem)) eNu4, rfl⟩
    obtain ⟨hs5, gx5, K5, le5, eNu5, rfl⟩ := hm
    have lim5 : hs5.length ≤ hs.length + 24 := by
      split at le5 <;> omega
    have LLdue : ∀ {H9 : Hp}, Look K C N nm X H9 b d t a Du L tb tt n us hs5 → LL H9 Du us := fun k => ⟨k.du, fun u hu => (k.ul u hu).1⟩
    -- the least sets told
    refine ⟨_, rfl, b, d, tb, n, rfl, K5.sd.bk, b, d, tb, n, rfl, K5.sd.bk, K5.sd.ok, K5.tg, fun Fo H6 fs g6 TF ef => ?_⟩
    have K6 := K5.gr g6
    refine ⟨_, rfl, _, rfl, Fo, Du, fs, us, rfl, ⟨TF.at_, fun q hq => (TF.own q hq).2.2⟩, LLdue K6, ef.trans ug.symm, by rw [ef]; exact fitG, fun H7 g7 => ⟨_, rfl, iteF ?_⟩⟩
    have K7 := K6.gr g7
    refine ⟨_, rfl, b, d, tb, n, rfl, K7.sd.bk, b, d, tb, n, rfl, K7.sd.bk, K7.sd.ok, fun P1 H8 rs g8 TP er => ?_⟩
    have K8 := K7.gr g8
    have g58 := (g6.trans g7).trans g8
    have eNu8 := g58.lst eNu5
    refine ⟨_, rfl, Nu, rfl, ⟨_, .inl (.inl eNu8)⟩, fun D nD => lc_list (K := K) (xs := tt.map fun e => V.int e.1) (fun i H9 => Gr H8 H9 ∧ ∃ r2 : List Pr1, DueP H9 D r2 ∧ r2.map (fun r => (r.k, r.r)) = (tt.take i).map fun e => (e.1, srt e.2.2)) ⟨Gr.new nD, [], ⟨upd_same, fun _ z => absurd z List.not_mem_nil⟩, rfl⟩ (fun i H9 _ h => .inl (.inl (h.1.lst eNu8))) (fun i x H9 hx h => ?_) (fun H9 h => ?_)⟩
    · obtain ⟨g9, r2, DP, em⟩ := h
      obtain ⟨e0, he0, rfl⟩ := get_map hx
      have me := List.mem_of_getElem? he0
      have hi : i < tt.length := (List.getElem?_eq_some_iff.mp he0).1
      have z : DGet H9 t (V.int e0.1) _ := DGet.k (k := Sum.inl e0.1) (K8.sd.tbl.gr g9).at_
      rw [kvB_get ndn me] at z
      refine ⟨rfl, yesIf ⟨_, rfl, _, rfl, _, rfl, t, _, rfl, z, sortedT (K := K) (.inl (.inl ((K8.sd.tbl.gr g9).own e0 me))) fun l2 nl2 => ⟨(by show 2 ≤ sizeLine; rw [sizeLine_eq]; omega), fun p2 np2 => ?_⟩⟩⟩
      have ga : Gr H9 (upd H9 l2 (.lst ((srt e0.2.2).map V.str))) := Gr.new nl2
      have ea : (upd H9 l2 (.lst ((srt e0.2.2).map V.str))) l2 = some (.lst ((srt e0.2.2).map V.str)) := upd_same
      generalize upd H9 l2 (.lst ((srt e0.2.2).map V.str)) = Ha at ga ea np2
      have gb : Gr Ha (upd Ha p2 (.tup [.int e0.1, .ref l2])) := Gr.new np2
      have eb : (upd Ha p2 (.tup [.int e0.1, .ref l2])) p2 = some (.tup [.int e0.1, .ref l2]) := upd_same
      generalize upd Ha p2 (.tup [.int e0.1, .ref l2]) = Hb at gb eb
      have gab := ga.trans gb
      have lD : l2 ≠ D := (ne_of_none DP.at_ nl2).symm
      have pD : p2 ≠ D := (ne_of_none (ga.lst DP.at_) np2).symm
      have rl : r2.length = i := by
        have h1 := congrArg List.length em
        rw [List.length_map, List.length_map, List.length_take] at h1
        omega
      refine ⟨_, gab.lst DP.at_, ?_, (g9.trans gab).mut nD, r2 ++ [⟨p2, e0.1, l2, srt e0.2.2⟩], ⟨?_, fun r hr => ?_⟩, ?_⟩
      · rw [List.length_map]
        exact small1000 (by omega)
      · rw [upd_same, List.map_append]
        rfl
      · rcases List.mem_append.mp hr with hr | hr
        · obtain ⟨h1, h2⟩ := DP.own r hr
          have rD : r.l ≠ D := fun z => by
            have := (DP.at_)
            rw [← z, h2] at this
            injection this with this
            injection this with this
            have h9 := congrArg List.length this
            rw [List.length_map, List.length_map] at h9
            cases hrr : r.r with
            | nil =>
              rw [hrr] at h9
              have : r2 = [] := List.length_eq_zero_iff.mp h9.symm
              rw [this] at hr
              cases hr
            | cons y ys =>
              rw [hrr] at this
              cases hr2 : r2 with
              | nil => rw [hr2] at this; cases this
              | cons q qs => rw [hr2] at this; injection this with this; cases this
          exact ⟨by rw [upd_ne (ne_of h1 DP.at_ (by intro z; cases z))]; exact gab.tup h1, by rw [upd_ne rD]; exact gab.lst h2⟩
        · rw [List.mem_singleton.mp hr]
          exact ⟨by rw [upd_ne pD]; exact eb, by rw [upd_ne lD]; exact gb.lst ea⟩
      · rw [List.map_append, em, take_map he0]
        rfl
    · obtain ⟨g9, r2, DP, em⟩ := h
      rw [List.length_map, List.take_length] at em
      have K9 := K8.gr g9
      have er2 : r2.map (fun r => (r.k, r.r)) = nr tb := by
        rw [em, S.sd.eq]
        unfold nr
        rw [List.map_map]
        rfl
      have d1 := (TP.due.gr g9).dp (K := K)
      have d2 := DP.dp (K := K)
      rw [er] at d1
      rw [er2] at d2
      have sh := shaped_pairs S.sd.ok.nmsRows
      refine ⟨_, _, d1, d2, sh, sh, _, rfl, ?_⟩
      rw [eqv_pairs, decide_eq_true rfl]
      refine iteF ?_
      -- held
      refine ⟨_, rfl, .inl ⟨rfl, _, .inl (.inl K9.hl.at_)⟩, _, rfl, _, rfl, (by show 2 ≤ sizeLine; rw [sizeLine_eq]; omega), fun pt npt => ?_⟩
      have g10 : Gr H9 (upd H9 pt (.tup [.ref Fo, .ref Du])) := Gr.new npt
      have e10 : (upd H9 pt (.tup [.ref Fo, .ref Du])) pt = some (.tup [.ref Fo, .ref Du]) := upd_same
      generalize upd H9 pt (.tup [.ref Fo, .ref Du]) = H10 at g10 e10
      have K10 := K9.gr g10
      have g610 := ((g7.trans g8).trans g9).trans g10
      have oF := K5.hl.out TF.new
      have ot := K9.hl.out npt
      have D1 : Dp K (hide X H10) (.ref Fo) (dSS (us.map (·.2))) := by
        rw [ug, ← ef]
        exact dp_dSS (.inl (.inl (by rw [hide_in oF]; exact g610.lst TF.at_))) fun q hq => by
          obtain ⟨h1, _, h3⟩ := TF.own q hq
          exact .inl (.inl (by rw [hide_in (K5.hl.out h1)]; exact g610.lst h3))
      have D2 : Dp K (hide X H10) (.ref Du) (dSS (us.map (·.2))) := dp_dSS (.inl (.inl (by rw [hide_in K10.ndu]; exact K10.du))) fun q hq => by
        obtain ⟨h1, h2⟩ := K10.ul q hq
        exact .inl (.inl (by rw [hide_in h2]; exact h1))
      have HL11 := K10.hl.add (p := pt) (x := .ref Fo) (y := .ref Du) (by rw [hide_in ot]; exact e10) D1 D2 (shaped_dSS fun xs hxs => nmG xs (by rw [← ug]; exact hxs))
      have sz : (hs5.map fun h => V.ref h.p).length < sizeLine := by rw [List.length_map, sizeLine_eq]; omega
      have gx11 : GrX (fun z => z = L) H5 (upd H10 L (.lst ((hs5.map fun h => V.ref h.p) ++ [.ref pt]))) := (((g58.trans g9).trans g10).x _).put (.inl rfl) K5.hl.nt
      refine ⟨L, _, _, rfl, rfl, K10.hl.at_, sz, ?_⟩
      generalize upd H10 L (.lst ((hs5.map fun h => V.ref h.p) ++ [.ref pt])) = H11 at HL11 gx11
      have K11 := K5.keep gx11 HL11
      -- told once more, changed
      refine ⟨_, rfl, b, d, tb, n, rfl, K11.sd.bk, b, d, tb, n, rfl, K11.sd.bk, K11.sd.ok, K11.tg, fun To H12 ts g12 TT et => ?_⟩
      have K12 := K11.gr g12
      refine ⟨_, rfl, .inl ⟨rfl, _, .inl (.inl TT.at_)⟩, (by show 1 ≤ sizeLine; rw [sizeLine_eq]; omega), fun lz nlz => ?_⟩
      have g13 : Gr H12 (upd H12 lz (.lst [.str "z"])) := Gr.new nlz
      generalize upd H12 lz (.lst [.str "z"]) = H13 at g13
      have tsl : ts.length ≤ 1000 := by
        have h1 := congrArg List.length et
        rw [List.length_map] at h1
        have := fitG.1
        omega
      refine ⟨To, _, _, rfl, rfl, g13.lst TT.at_, small1000 (by rw [List.length_map]; omega), ?_⟩
      have g14 : Gr H11 (upd H13 To (.lst ((ts.map fun q => V.ref q.1) ++ [.ref lz]))) := (g12.trans g13).mut TT.new
      generalize upd H13 To (.lst ((ts.map fun q => V.ref q.1) ++ [.ref lz])) = H14 at g14
      have K14 := K11.gr g14
      refine ⟨_, rfl, b, d, tb, n, rfl, K14.sd.bk, b, d, tb, n, rfl, K14.sd.bk, K14.sd.ok, K14.tg, fun Un H15 ws g15 TU ew => ?_⟩
      have K15 := K14.gr g15
      refine ⟨_, rfl, Un, Du, ws, us, rfl, ⟨TU.at_, fun q hq => (TU.own q hq).2.2⟩, ⟨K15.du, fun u hu => (K15.ul u hu).1⟩, ew.trans ug.symm, by rw [ew]; exact fitG, fun H16 g16 => ⟨_, rfl, iteF ?_⟩⟩
      have K16 := K15.gr g16
      have gx16 : GrX (fun z => z = L) H H16 := ((gx5.trans gx11).then g14).then (g15.trans g16)
      have len11 : (hs5 ++ [(⟨pt, .ref Fo, .ref Du, dSS (us.map (·.2))⟩ : HelD)]).length = hs5.length + 1 := by rw [List.length_append]; rfl
      refine ⟨_, rfl, _, rfl, ?_⟩
      cases ah with
      | true =>
        rw [if_pos rfl] at le5
        exact iteT (q H16 _ gx16 K16.hl (by rw [len11]; omega))
      | false =>
        rw [if_neg Bool.false_ne_true] at le5
        exact iteF ⟨_, rfl, _, rfl, _, rfl, _, _, rfl, rfl, ⟨by decide, by decide⟩, _, rfl, _, rfl, _, rfl, nm, X, b, d, t, a, Du, L, tb, tt, n, _, us, _, rfl, K16, by rw [len11]; omega, fun H17 hs17 gx17 hl17 le17 => q H17 hs17 (gx16.trans gx17) hl17 (by rw [len11] at le17; omega)⟩
end
end K1
end
section
set_option maxHeartbeats 8000000
namespace K1
open PySem PySem.Spec PyProof.Rows L2 Gr GxR Srx Skx Dcx
section
variable {P : Program} {w : World} {K : PySem.W.Frag} {mg : Str → Option Value} {base : Heap} {f C M : Addr} {fd : FuncData} {N : TabN} {R : ErN}
/-- one of two, by a side -/
def sid (s : Bool) : Int := if s then 1 else 0
theorem at_sid {f : Bool → Addr} (s : Bool) : atI [V.ref (f false), V.ref (f true)] (sid s) = some (V.ref (f s)) := by
  cases s with
  | false => exact atI_nat (j := 0) rfl
  | true => exact atI_nat (j := 1) rfl
theorem at_sidI {f : Bool → Int} (s : Bool) : atI [V.int (f false), V.int (f true)] (sid s) = some (V.int (f s)) := by
  cases s with
  | false => exact atI_nat (j := 0) rfl
  | true => exact atI_nat (j := 1) rfl
theorem sid_of (c : Int) : ∃ s : Bool, c % 2 = sid s := by
  have h : c % 2 = 0 ∨ c % 2 = 1 := by omega
  rcases h with h | h
  · exact ⟨false, h⟩
  · exact ⟨true, h⟩
theorem sid_not (s : Bool) : 1 - sid s = sid (!s) := by cases s <;> rfl
/-- two books, two tables -/
structure Both13 (K : PySem.W.Frag) (C : Addr) (N : TabN) (nm : List Str) (X : Addr → Prop) (H : Hp) (Lb Lt L a : Addr) (b d t : Bool → Addr) (tb tt : Bool → Tb1) (n : Bool → Int) (hs : List HelD) : Prop where
  side : ∀ s, Look0 K C N nm X H (b s) (d s) (t s) a L (tb s) (tt s) (n s) hs
  eb : H Lb = some (.lst [.ref (b false), .ref (b true)])
  et : H Lt = some (.lst [.ref (t false), .ref (t true)])
  nb : Lb ≠ L
  nt : Lt ≠ L
section
variable {nm : List Str} {X : Addr → Prop} {H H' : Hp} {Lb Lt L a : Addr} {b d t : Bool → Addr} {tb tt : Bool → Tb1} {n : Bool → Int} {hs hs' : List HelD}
theorem Both13.gr (S : Both13 K C N nm X H Lb Lt L a b d t tb tt n hs) (g : Gr H H') : Both13 K C N nm X H' Lb Lt L a b d t tb tt n hs :=
  ⟨fun s => (S.side s).gr g, g.lst S.eb, g.lst S.et, S.nb, S.nt⟩
theorem Both13.keep (S : Both13 K C N nm X H Lb Lt L a b d t tb tt n hs) (g : GrX (fun z => z = L) H H') (hl : HeldL K X H' L hs') : Both13 K C N nm X H' Lb Lt L a b d t tb tt n hs' :=
  ⟨fun s => (S.side s).keep g hl, g.lst S.nb S.eb, g.lst S.nt S.et, S.nb, S.nt⟩
end
structure E13h (P : Program) (w : World) (K : PySem.W.Frag) (mg : Str → Option Value) (base : Heap) (C : Addr) (N : TabN) (R : ErN) : Prop where
  two : Calls P w K mg base CX0 8 "_law_two" (spTwo C N)
  right : Calls P w K mg base CX0 11 "_law_right" (spRight13 K C N)
abbrev nAllR : List Str := ["_law_books", "_law_tables", "_law_names_here", "_law_held", "_law_cell", "_law_k", "_law_side", "_law_book", "_law_other_here", "_law_table"]
theorem scAllR : FnScope nAllR ["_law_books", "_law_tables", "_law_names_here", "_law_held", "_law_cell"] (defScope s_law_all_right_x) := ⟨rfl, rfl, rfl, by decide +kernel, rfl, by decide +kernel, by decide +kernel⟩
def spAllR (K : PySem.W.Frag) (C : Addr) (N : TabN) : Sp := fun vs H Q _ => ∃ (nm : List Str) (X : Addr → Prop) (Lb Lt L a : Addr) (b d t : Bool → Addr) (tb tt : Bool → Tb1) (n : Bool → Int) (cell : Int) (hs : List HelD), vs = [.ref Lb, .ref Lt, .ref a, .ref L, .int cell] ∧ Both13 K C N nm X H Lb Lt L a b d t tb tt n hs ∧ hs.length ≤ 2900 ∧ HeldQ K X H L hs 100 Q
theorem ok_allr (F : FnP K "_law_all_right" s_law_all_right_x f fd) (G : E13h P w K mg base C N R) : FnOk P w K mg base CX0 12 f fd ["_law_books", "_law_tables", "_law_names_here", "_law_held", "_law_cell"] (spAllR K C N) := by
  refine F.ok scAllR (fun vs H Q E h => ?_) (fun cdv A outer s H vs Q E hr h => ?_)
  · obtain ⟨nm, X, Lb, Lt, L, a, b, d, t, tb, tt, n, cell, hs, rfl, _⟩ := h
    rfl
  · obtain ⟨nm, X, Lb, Lt, L, a, b, d, t, tb, tt, n, cell, hs, rfl, S, few, q⟩ := h
    refine ⟨_, PSs.nox (pss_cons (ps_for PassesOwn.never rfl (pi_list (pe_ix ix_list (pe_lst (pa_cons (pe_lst (pa_cons pe_int (pa_cons pe_int (pa_cons pe_int (pa_cons pe_int pa_nil))))) (pa_cons (pe_lst (pa_cons pe_int (pa_cons pe_int (pa_cons pe_int (pa_cons pe_int pa_nil))))) pa_nil))) (pe_op op_mod (pe_op op_fdiv (pv 4) pe_int) pe_int) (fun _ _ => rfl))) (pg_name (i := 5) scAllR.nd rfl (.inl rfl)) (pss_cons (ps_set (i := 6) scAllR.nd rfl (.inl rfl) (pe_op op_mod (pe_op op_add (pe_op op_fdiv (pv 4) pe_int) (pv 5)) pe_int)) (pss_cons (ps_set (i := 7) scAllR.nd rfl (.inl rfl) (pe_ix ix_list (pv 0) (pv 6) (fun _ _ => rfl))) (pss_cons (ps_set (i := 8) scAllR.nd rfl (.inl rfl) (pe_ix ix_list (pv 0) (pe_op op_sub pe_int (pv 6)) (fun _ _ => rfl))) (pss_cons (ps_set (i := 9) scAllR.nd rfl (.inl rfl) (pe_ix ix_list (pv 1) (pv 6) (fun _ _ => rfl))) (pss_cons (ps_if (PW.pt (pw_and (pt_cmpR op_lt (pv 5) pe_int (nomark _)) (pw_and1 (pt_not (pt_val (pe_k G.two hr (by decide) (by rfl) (pa_cons (pv 7) (pa_cons (pv 9) (pa_cons (pv 8) (pa_cons (pe_ix ix_list (pv 1) (pe_op op_sub pe_int (pv 6)) (fun _ _ => rfl)) pa_nil)))))))))) (pss_one (ps_ret pe_bl)) (pss_nil)) (pss_one (ps_if (PW.pt (pw_and (pt_cmpR op_gt (pv 5) pe_int (nomark _)) (pw_and1 (pt_not (pt_val (pe_k G.right hr (by decide) (by rfl) (pa_cons (pv 7) (pa_cons (pv 9) (pa_cons (pv 2) (pa_cons (pv 3) (pa_cons (pe_op op_add (pv 4) (pv 5)) pa_nil))))))))))) (pss_one (ps_ret pe_bl)) (pss_nil))))))))) (pss_one (ps_ret (pe_or (pe_cmpR op_gt (pe_op op_mod (pv 4) pe_int) pe_int (nomark _)) (pe_one (pe_k G.two hr (by decide) (by rfl) (pa_cons (pe_ix ix_list (pv 0) pe_int (fun _ _ => rfl)) (pa_cons (pe_ix ix_list (pv 1) pe_int (fun _ _ => rfl)) (pa_cons (pe_ix ix_list (pv 0) pe_int (fun _ _ => rfl)) (pa_cons (pe_ix ix_list (pv 1) pe_int (fun _ _ => rfl)) pa_nil)))))))))), ?_⟩
    have h4 : 4 ≤ sizeLine := by rw [sizeLine_eq]; omega
    refine ⟨h4, fun l1 n1 => ?_⟩
    have g1 : Gr H (upd H l1 (.lst (([0, 1, 2, 3] : List Int).map V.int))) := Gr.new n1
    have e1 : (upd H l1 (.lst (([0, 1, 2, 3] : List Int).map V.int))) l1 = some (.lst (([0, 1, 2, 3] : List Int).map V.int)) := upd_same
    rw [show upd H l1 (.lst [.int 0, .int 1, .int 2, .int 3]) = upd H l1 (.lst (([0, 1, 2, 3] : List Int).map V.int)) from rfl]
    generalize upd H l1 (.lst (([0, 1, 2, 3] : List Int).map V.int)) = H1 at g1 e1
    refine ⟨h4, fun l2 n2 => ?_⟩
    have g2 : Gr H1 (upd H1 l2 (.lst (([2, 0, 3, 1] : List Int).map V.int))) := Gr.new n2
    have e2 : (upd H1 l2 (.lst (([2, 0, 3, 1] : List Int).map V.int))) l2 = some (.lst (([2, 0, 3, 1] : List Int).map V.int)) := upd_same
    rw [show upd H1 l2 (.lst [.int 2, .int 0, .int 3, .int 1]) = upd H1 l2 (.lst (([2, 0, 3, 1] : List Int).map V.int)) from rfl]
    generalize upd H1 l2 (.lst (([2, 0, 3, 1] : List Int).map V.int)) = H2 at g2 e2
    refine ⟨(by show 2 ≤ sizeLine; omega), fun l3 n3 => ?_⟩
    have g3 : Gr H2 (upd H2 l3 (.lst [.ref l1, .ref l2])) := Gr.new n3
    have e3 : (upd H2 l3 (.lst [.ref l1, .ref l2])) l3 = some (.lst [.ref l1, .ref l2]) := upd_same
    generalize upd H2 l3 (.lst [.ref l1, .ref l2]) = H3 at g3 e3
    have g03 := (g1.trans g2).trans g3
    obtain ⟨vl, hl, ml⟩ := atI_mod (xs := [V.ref l1, .ref l2]) (c := cell / 4) (n := 2) rfl (by decide)
    obtain ⟨kl, ks, rfl, ek, kb, k4, ok⟩ : ∃ (kl : Addr) (ks : List Int), vl = .ref kl ∧ H3 kl = some (.lst (ks.map V.int)) ∧ (∀ k ∈ ks, 0 ≤ k ∧ k ≤ 3) ∧ ks.length = 4 ∧ ¬ X kl := by
      have o1 : ¬ X l1 := (S.side false).hl.out n1
      have o2 : ¬ X l2 := (S.side false).hl.out (g1.free n2)
      simp only [List.mem_cons, List.not_mem_nil, or_false] at ml
      rcases ml with rfl | rfl
      · exact ⟨l1, _, rfl, (g2.trans g3).lst e1, by decide, rfl, o1⟩
      · exact ⟨l2, _, rfl, g3.lst e2, by decide, rfl, o2⟩
    have mL := (S.side false).hl.mem
    refine ⟨_, rfl, _, _, rfl, rfl, ⟨by decide, by decide⟩, _, _, rfl, rfl, (by show (0 : Int) < 2; decide), l3, _, _, _, rfl, rfl, .inl (.inl e3), hl, kl, rfl, ⟨_, .inl (.inl ek)⟩, ?_⟩
    have S3 := S.gr g03
    refine for_list (K := K) (xs := ks.map V.int) (fun i σ H4 => GrX (fun z => z = L) H H4 ∧ H4 kl = some (.lst (ks.map V.int)) ∧ (∃ hs4, Both13 K C N nm X H4 Lb Lt L a b d t tb tt n hs4 ∧ hs4.length ≤ hs.length + 25 * i) ∧ ∃ v5 v6 v7 v8 v9, σ = [some (.ref Lb), some (.ref Lt), some (.ref a), some (.ref L), some (.int cell), v5, v6, v7, v8, v9])
      ⟨g03.x _, ek, ⟨hs, S3, Nat.le_refl _⟩, none, none, none, none, none, rfl⟩ (fun i σ H4 _ h => .inl (.inl h.2.1)) (fun i x σ H4 hx h => ?_) (fun σ H4 h => ?_)
    · obtain ⟨gx4, ek4, ⟨hs4, S4, le4⟩, v5, v6, v7, v8, v9, rfl⟩ := h
      obtain ⟨k0, hk0, rfl⟩ := get_map hx
      have hi : i < 4 := by have := (List.getElem?_eq_some_iff.mp hk0).1; omega
      obtain ⟨kb0, kb3⟩ := kb k0 (List.mem_of_getElem? hk0)
      obtain ⟨s, es⟩ := sid_of (cell / 2 + k0)
      have A := S4.side s
      have B := S4.side (!s)
      have es1 : atI [V.ref (b false), V.ref (b true)] ((cell / 2 + k0) % 2) = some (V.ref (b s)) := by rw [es]; exact at_sid s
      have es2 : atI [V.ref (b false), V.ref (b true)] (1 - (cell / 2 + k0) % 2) = some (V.ref (b (!s))) := by rw [es, sid_not]; exact at_sid (!s)
      have es3 : atI [V.ref (t false), V.ref (t true)] ((cell / 2 + k0) % 2) = some (V.ref (t s)) := by rw [es]; exact at_sid s
      have es4 : atI [V.ref (t false), V.ref (t true)] (1 - (cell / 2 + k0) % 2) = some (V.ref (t (!s))) := by rw [es, sid_not]; exact at_sid (!s)
      refine ⟨_, rfl, _, _, rfl, rfl, ⟨by decide, by decide⟩, _, rfl, _, _, rfl, rfl, _, _, rfl, rfl, (by show (0 : Int) < 2; decide), ?_⟩
      refine ⟨_, rfl, _, rfl, Lb, _, _, _, rfl, rfl, .inl (.inl S4.eb), es1, ?_⟩
      refine ⟨_, rfl, _, rfl, _, _, rfl, rfl, Lb, _, _, _, rfl, rfl, .inl (.inl S4.eb), es2, ?_⟩
      refine ⟨_, rfl, _, rfl, Lt, _, _, _, rfl, rfl, .inl (.inl S4.et), es3, ?_⟩
      refine ⟨_, rfl, _, _, rfl, rfl, _, rfl, ?_⟩
      by_cases w2 : k0 < 2
      · rw [decide_eq_true w2]
        refine iteT ⟨_, rfl, _, rfl, _, rfl, _, rfl, _, rfl, _, _, rfl, rfl, Lt, _, _, _, rfl, rfl, .inl (.inl S4.et), es4, ?_⟩
        refine ⟨nm, b s, d s, t s, b (!s), d (!s), t (!s), tb s, tt s, tb (!s), tt (!s), n s, n (!s), rfl, A.sd, B.sd, A.n5, A.tg, A.few, B.few, fun H5 g5 => ⟨_, rfl, iteF ⟨_, rfl, _, _, rfl, rfl, _, rfl, ?_⟩⟩⟩
        rw [decide_eq_false (by omega)]
        exact iteF (iteF ⟨gx4.then g5, g5.lst ek4, ⟨hs4, S4.gr g5, by omega⟩, _, _, _, _, _, rfl⟩)
      · rw [decide_eq_false w2]
        refine iteF (iteF ⟨_, rfl, _, _, rfl, rfl, _, rfl, ?_⟩)
        rw [decide_eq_true (by omega)]
        refine iteT ⟨_, rfl, _, rfl, _, rfl, _, rfl, _, rfl, _, rfl, _, _, rfl, rfl, nm, X, b s, d s, t s, a, L, tb s, tt s, n s, _, hs4, rfl, A, by omega, fun H5 hs5 gx5 hl5 le5 => ⟨_, rfl, iteF ?_⟩⟩
        exact ⟨gx4.trans gx5, gx5.lst (fun z => ok (by rw [z]; exact mL)) ek4, ⟨hs5, S4.keep gx5 hl5, by omega⟩, _, _, _, _, _, rfl⟩
    · obtain ⟨gx4, ek4, ⟨hs4, S4, le4⟩, v5, v6, v7, v8, v9, rfl⟩ := h
      rw [List.length_map, k4] at le4
      have A := S4.side false
      refine ⟨_, rfl, _, _, rfl, rfl, (by show (0 : Int) < 3; decide), _, _, rfl, rfl, _, rfl, ?_⟩
      by_cases c3 : 0 < cell % 3
      · rw [decide_eq_true c3]
        exact iteT (q H4 hs4 gx4 A.hl (by omega))
      · rw [decide_eq_false c3]
        have z0 : atI [V.ref (b false), V.ref (b true)] 0 = some (V.ref (b false)) := at_sid false
        have z1 : atI [V.ref (t false), V.ref (t true)] 0 = some (V.ref (t false)) := at_sid false
        exact iteF ⟨_, rfl, Lb, _, _, _, rfl, rfl, .inl (.inl S4.eb), z0, _, rfl, Lt, _, _, _, rfl, rfl, .inl (.inl S4.et), z1, _, rfl, Lb, _, _, _, rfl, rfl, .inl (.inl S4.eb), z0, _, rfl, Lt, _, _, _, rfl, rfl, .inl (.inl S4.et), z1,
          nm, b false, d false, t false, b false, d false, t false, tb false, tt false, tb false, tt false, n false, n false, rfl, A.sd, A.sd, A.n5, A.tg, A.few, A.few, fun H5 g5 => q H5 hs4 (gx4.then g5) (A.hl.gr g5) (by omega)⟩
end
end K1
end
section
set_option maxHeartbeats 8000000
namespace K1
open PySem PySem.Spec PyProof.Rows L2 Gr GxR Srx Skx Dcx
section
variable {P : Program} {w : World} {K : PySem.W.Frag} {mg : Str → Option Value} {base : Heap} {f C M : Addr} {fd : FuncData} {N : TabN} {R : ErN}
/-- what a deed on one side may change -/
def chg (b d t Lb Lt Lc : Addr) : Addr → Prop := fun z => z = b ∨ z = d ∨ z = t ∨ z = Lb ∨ z = Lt ∨ z = Lc
abbrev nAnew : List Str := ["_law_tables", "_law_counts", "_law_side", "_law_rows", "_law_number"]
theorem scAnew : FnScope nAnew ["_law_tables", "_law_counts", "_law_side", "_law_rows"] (defScope s_law_anew_x) := ⟨rfl, rfl, rfl, by decide +kernel, rfl, by decide +kernel, by decide +kernel⟩
abbrev nPut13 : List Str := ["_law_books", "_law_tables", "_law_counts", "_law_side", "_law_row_here", "_law_handed", "_law_found"]
theorem scPut13 : FnScope nPut13 ["_law_books", "_law_tables", "_law_counts", "_law_side", "_law_row_here"] (defScope s_law_put_x) := ⟨rfl, rfl, rfl, by decide +kernel, rfl, by decide +kernel, by decide +kernel⟩
/-- rows numbered from 0 on, as a table -/
def ttOf (ps : List (Addr × List Str)) : Tb1 := ps.mapIdx fun i q => ((i : Int), q.1, q.2)
theorem ttOf_snoc (ps : List (Addr × List Str)) (q : Addr × List Str) : ttOf (ps ++ [q]) = ttOf ps ++ [((ps.length : Int), q.1, q.2)] := by
  unfold ttOf
  rw [List.mapIdx_concat]
theorem ttOf_len (ps : List (Addr × List Str)) : (ttOf ps).length = ps.length := List.length_mapIdx
theorem ttOf_nr (ps : List (Addr × List Str)) : nr (ttOf ps) = numd (ps.map (·.2)) := by
  induction ps using snoc_ind with
  | h0 => rfl
  | h1 xs x ih => rw [ttOf_snoc, nr_snoc, ih, List.map_append, show [x].map (·.2) = [x.2] from rfl, numd_snoc, List.length_map]
theorem ttOf_rws (ps : List (Addr × List Str)) : rws (ttOf ps) = ps.map (·.2) := rws_numd (ttOf_nr ps)
theorem ttOf_lt {ps : List (Addr × List Str)} : ∀ k ∈ nums (ttOf ps), k < (ps.length : Int) := by
  induction ps using snoc_ind with
  | h0 => exact fun _ z => absurd z List.not_mem_nil
  | h1 xs x ih =>
    intro k hk
    rw [ttOf_snoc] at hk
    unfold nums at hk
    rw [List.map_append] at hk
    rw [List.length_append, List.length_singleton]
    rcases List.mem_append.mp hk with h | h
    · have := ih k h
      omega
    · rw [List.mem_singleton.mp h]
      show (xs.length : Int) < _
      omega
theorem ttOf_mem {ps : List (Addr × List Str)} : ∀ e ∈ ttOf ps, (e.2.1, e.2.2) ∈ ps := by
  induction ps using snoc_ind with
  | h0 => exact fun _ z => absurd z List.not_mem_nil
  | h1 xs x ih =>
    intro e he
    rw [ttOf_snoc] at he
    rcases List.mem_append.mp he with h | h
    · exact List.mem_append_left _ (ih e h)
    · rw [List.mem_singleton.mp h]
      exact List.mem_append_right _ (List.mem_singleton.mpr rfl)
theorem ttOf_merge (ps : List (Addr × List Str)) : mergeK [] (kvB (ttOf ps)) = kvB (ttOf ps) := by
  induction ps using snoc_ind with
  | h0 => rfl
  | h1 xs x ih =>
    have h : kvB (ttOf (xs ++ [x])) = kvB (ttOf xs) ++ [((Sum.inl (xs.length : Int) : Key), V.ref x.1)] := by
      rw [ttOf_snoc]
      unfold kvB
      rw [List.map_append]
      rfl
    have n : (xs.length : Int) ∉ nums (ttOf xs) := fun z => by
      have := ttOf_lt _ z
      omega
    have m : mergeK [] (kvB (ttOf (xs ++ [x]))) = putK (mergeK [] (kvB (ttOf xs))) (Sum.inl (xs.length : Int) : Key) (V.ref x.1) := by
      rw [h]
      unfold mergeK
      rw [List.foldl_append]
      rfl
    rw [m, ih, kvB_put n x.1 x.2, ttOf_snoc]
def upB {α : Type} (f : Bool → α) (s : Bool) (x : α) : Bool → α := fun z => if z = s then x else f z
theorem upB_ref {f : Bool → Addr} (s : Bool) (x : Addr) : ∃ j, ixN ([V.ref (f false), V.ref (f true)] : List V).length (sid s) = some j ∧ ([V.ref (f false), V.ref (f true)] : List V).set j (.ref x) = [V.ref (upB f s x false), V.ref (upB f s x true)] := by
  cases s with
  | false => exact ⟨0, rfl, rfl⟩
  | true => exact ⟨1, rfl, rfl⟩
theorem upB_int {f : Bool → Int} (s : Bool) (x : Int) : ∃ j, ixN ([V.int (f false), V.int (f true)] : List V).length (sid s) = some j ∧ ([V.int (f false), V.int (f true)] : List V).set j (.int x) = [V.int (upB f s x false), V.int (upB f s x true)] := by
  cases s with
  | false => exact ⟨0, rfl, rfl⟩
  | true => exact ⟨1, rfl, rfl⟩
def spAnew : Sp := fun vs H Q _ => ∃ (Lt Lc r : Addr) (t : Bool → Addr) (n : Bool → Int) (s : Bool) (ps : List (Addr × List Str)), vs = [.ref Lt, .ref Lc, .int (sid s), .ref r] ∧ H Lt = some (.lst [.ref (t false), .ref (t true)]) ∧ H Lc = some (.lst [.int (n false), .int (n true)]) ∧ Lt ≠ Lc ∧ r ≠ Lt ∧ LL H r ps ∧ ps.length ≤ 100 ∧ (∀ q ∈ ps, q.1 ≠ Lt ∧ q.1 ≠ Lc) ∧
  ∀ (t' : Addr) (H' : Hp), GrX (fun z => z = Lt ∨ z = Lc) H H' → H t' = none → H' Lt = some (.lst [.ref (upB t s t' false), .ref (upB t s t' true)]) → H' Lc = some (.lst [.int (upB n s ps.length false), .int (upB n s ps.length true)]) → Tbl H' t' (ttOf ps) → Q .non H'
theorem ok_anew (F : FnP K "_law_anew" s_law_anew_x f fd) (g_len : mg "len" = none) (g_range : mg "range" = none) (g_dict : mg "dict" = none) : FnOk P w K mg base CX0 1 f fd ["_law_tables", "_law_counts", "_law_side", "_law_rows"] spAnew := by
  refine F.ok scAnew (fun vs H Q E h => ?_) (fun cdv A outer s0 H vs Q E hr h => ?_)
  · obtain ⟨Lt, Lc, r, t, n, s, ps, rfl, _⟩ := h
    rfl
  · obtain ⟨Lt, Lc, r, t, n, s, ps, rfl, et, ec, ntc, nrt, LQr, few, off, q⟩ := h
    refine ⟨_, PSs.nox (pss_cons (ps_asg (pe_callTy (call_dictP rfl) (by rfl) g_dict (by decide +kernel) (pa_cons (pe_lc (own := [("_law_number", 4)]) (g := gName 4) (tt := tYes) rfl scAnew.nd (pi_range1 (by rfl) g_range (pa_cons (pe_callB call_len_seq (by rfl) g_len boot_len (pa_cons (pv 3) pa_nil)) pa_nil)) (blkOk_by (N := nAnew) (sc := defScope s_law_anew_x) (by decide +kernel)) (fun _ _ _ _ _ => (pg_name (i := 4) scAnew.nd rfl (.inl rfl))) (fun _ _ _ _ _ => pts_nil) (fun _ _ _ _ _ => (pe_tup (pa_cons (pv 4) (pa_cons (pe_ix (r := rIxL K) ix_list (pv 3) (pv 4) (fun _ _ => rfl)) pa_nil))))) pa_nil)) (pg_sub (pv 0) (pv 2) set_list)) (pss_one (ps_asg (pe_callB call_len_seq (by rfl) g_len boot_len (pa_cons (pv 3) pa_nil)) (pg_sub (pv 1) (pv 2) set_list)))), ?_⟩
    have eR := LQr.at_
    refine ⟨_, rfl, r, _, rfl, .inl (.inl (.inl eR)), _, rfl, (by rw [List.length_map]; omega), (by rw [List.length_map]; omega), fun D nD => ?_⟩
    refine lc_range (lo := 0) (n := ((ps.map fun q : Addr × List Str => V.ref q.1).length : Int).toNat) (fun i H2 => Gr H H2 ∧ ∃ ts : List (Addr × (Int × Addr × List Str)), H2 D = some (.lst (ts.map fun t => V.ref t.1)) ∧ (∀ t ∈ ts, H2 t.1 = some (.tup [.int t.2.1, .ref t.2.2.1])) ∧ ts.map (·.2) = ttOf (ps.take i)) ⟨Gr.new nD, [], upd_same, fun _ z => absurd z List.not_mem_nil, rfl⟩ (fun i H2 hi h => ?_) (fun H2 h => ?_)
    · obtain ⟨g2, ts, eD, eT, em⟩ := h
      rw [Int.toNat_natCast, List.length_map] at hi
      have hk2 : ps[i]? = some ps[i] := List.getElem?_eq_getElem hi
      have h1 : (ps.map fun q : Addr × List Str => V.ref q.1)[i]? = some (.ref ps[i].1) := by rw [List.getElem?_map, hk2]; rfl
      rw [show ((0 : Int) + (i : Nat)) = ((i : Nat) : Int) from Int.zero_add _]
      have tl : ts.length = i := by
        have h1 := congrArg List.length em
        rw [List.length_map, ttOf_len, List.length_take] at h1
        omega
      refine ⟨rfl, yesIf ⟨_, rfl, _, rfl, _, rfl, r, _, _, _, rfl, rfl, .inl (.inl (g2.lst eR)), atI_nat h1, (by show 2 ≤ sizeLine; rw [sizeLine_eq]; omega), fun p np => ⟨_, (Gr.new np).lst eD, ?_, (g2.trans (Gr.new np)).mut nD, ts ++ [(p, ((i : Int), ps[i].1, ps[i].2))], ?_, fun z hz => ?_, ?_⟩⟩⟩
      · rw [List.length_map]
        exact small1000 (by omega)
      · rw [upd_same, List.map_append]
        rfl
      · have nDt : D ≠ p := ne_of_none eD np
        rcases List.mem_append.mp hz with hz | hz
        · have h1 := eT z hz
          rw [upd_ne (ne_of h1 eD (by intro z; cases z)), upd_ne (ne_of_none h1 np)]
          exact h1
        · rw [List.mem_singleton.mp hz]
          show upd _ _ _ p = _
          rw [upd_ne nDt.symm, upd_same]
      · have l1 : (ps.take i).length = i := by rw [List.length_take]; omega
        rw [List.map_append, em, List.take_add_one, hk2]
        show _ = ttOf (ps.take i ++ [ps[i]])
        rw [ttOf_snoc, l1]
        rfl
    · obtain ⟨g2, ts, eD, eT, em⟩ := h
      rw [Int.toNat_natCast, List.length_map, List.take_length] at em
      refine ⟨D, ts.map (fun t => t.1), kvB (ttOf ps), rfl, .inl (.inl (by rw [List.map_map]; exact eD)), ?_, fun t' nt' => ?_⟩
      · rw [← em]
        unfold kvB
        rw [List.map_map]
        clear eD em
        induction ts with
        | nil => exact .nil
        | cons t l ih => exact .cons (.inl (.inl (eT t List.mem_cons_self))) (ih fun z hz => eT z (List.mem_cons_of_mem _ hz))
      rw [ttOf_merge]
      have g3 : Gr H2 (upd H2 t' (.dK (kvB (ttOf ps)))) := Gr.new nt'
      have e3 : (upd H2 t' (.dK (kvB (ttOf ps)))) t' = some (.dK (kvB (ttOf ps))) := upd_same
      generalize upd H2 t' (.dK (kvB (ttOf ps))) = H3 at g3 e3
      have g03 := g2.trans g3
      obtain ⟨j, ej, es⟩ := upB_ref (f := t) s t'
      refine ⟨_, rfl, _, rfl, Lt, _, _, j, rfl, rfl, g03.lst et, ej, ?_⟩
      rw [es]
      have x4 : GrX (fun z => z = Lt ∨ z = Lc) H (upd H3 Lt (.lst [.ref (upB t s t' false), .ref (upB t s t' true)])) := (g03.x _).put (.inl (.inl rfl)) (fun ps z => by rw [et] at z; cases z)
      have o4 : ∀ z, z ≠ Lt → (upd H3 Lt (.lst [.ref (upB t s t' false), .ref (upB t s t' true)])) z = H3 z := fun z hz => upd_ne hz
      have e4 : (upd H3 Lt (.lst [.ref (upB t s t' false), .ref (upB t s t' true)])) Lt = some (.lst [.ref (upB t s t' false), .ref (upB t s t' true)]) := upd_same
      generalize upd H3 Lt (.lst [.ref (upB t s t' false), .ref (upB t s t' true)]) = H4 at x4 o4 e4
      refine ⟨_, rfl, r, _, rfl, .inl (.inl (.inl ((o4 r nrt).trans (g03.lst eR)))), ?_⟩
      rw [List.length_map]
      obtain ⟨j, ej, es⟩ := upB_int (f := n) s (ps.length : Int)
      refine ⟨_, rfl, _, rfl, Lc, _, _, j, rfl, rfl, (o4 Lc ntc.symm).trans (g03.lst ec), ej, ?_⟩
      rw [es]
      have nt1 : t' ≠ Lt := (ne_of_none (g2.lst et) nt').symm
      have nt2 : t' ≠ Lc := (ne_of_none (g2.lst ec) nt').symm
      refine q t' _ (x4.put (.inl (.inr rfl)) (fun ps z => by rw [ec] at z; cases z)) (g2.free nt') ((upd_ne ntc).trans e4) upd_same ⟨?_, fun e he => ?_⟩
      · rw [upd_ne nt2, o4 _ nt1]
        exact e3
      · have m := ttOf_mem e he
        have o := off _ m
        rw [upd_ne o.2, o4 _ o.1]
        exact g03.lst (LQr.own _ m)
end
end K1
end
section
set_option maxHeartbeats 8000000
namespace K1
open PySem PySem.Spec PyProof.Rows L2 Gr GxR Srx Skx Dcx
/-- the lists that change while the law runs -/
def hid (Lb Lt Lc L : Addr) : Addr → Prop := fun z => z = Lb ∨ z = Lt ∨ z = Lc ∨ z = L
/-- all that the law has -/
structure Full13 (K : PySem.W.Frag) (C : Addr) (N : TabN) (nm : List Str) (H : Hp) (Lb Lt Lc L a : Addr) (b d t : Bool → Addr) (tb tt : Bool → Tb1) (n : Bool → Int) (hs : List HelD) (m : Nat) : Prop where
  two : Both13 K C N nm (hid Lb Lt Lc L) H Lb Lt L a b d t tb tt n hs
  ec : H Lc = some (.lst [.int (n false), .int (n true)])
  nbt : Lb ≠ Lt
  nbc : Lb ≠ Lc
  ntc : Lt ≠ Lc
  nc : Lc ≠ L
  ab : ∀ s, b (!s) ≠ b s
  ad : ∀ s, d (!s) ≠ d s
  at2 : ∀ s, t (!s) ≠ t s
  adt : ∀ s s', d s ≠ t s'
  len : ∀ s, (tt s).length ≤ m
section
variable {K : PySem.W.Frag} {C : Addr} {N : TabN} {nm : List Str} {H H' : Hp} {Lb Lt Lc L a : Addr} {b d t : Bool → Addr} {tb tt : Bool → Tb1} {n : Bool → Int} {hs hs' : List HelD} {m : Nat}
theorem Full13.gr (S : Full13 K C N nm H Lb Lt Lc L a b d t tb tt n hs m) (g : Gr H H') : Full13 K C N nm H' Lb Lt Lc L a b d t tb tt n hs m :=
  ⟨S.two.gr g, g.lst S.ec, S.nbt, S.nbc, S.ntc, S.nc, S.ab, S.ad, S.at2, S.adt, S.len⟩
theorem Full13.keep (S : Full13 K C N nm H Lb Lt Lc L a b d t tb tt n hs m) (g : GrX (fun z => z = L) H H') (hl : HeldL K (hid Lb Lt Lc L) H' L hs') : Full13 K C N nm H' Lb Lt Lc L a b d t tb tt n hs' m :=
  ⟨S.two.keep g hl, g.lst S.nc S.ec, S.nbt, S.nbc, S.ntc, S.nc, S.ab, S.ad, S.at2, S.adt, S.len⟩
theorem upB_at {α : Type} (f : Bool → α) (s : Bool) (x : α) : upB f s x s = x := if_pos rfl
theorem upB_not {α : Type} (f : Bool → α) (s : Bool) (x : α) : upB f s x (!s) = f (!s) := if_neg (by cases s <;> decide)
/-- no list is a book's, its rows' or a table's -/
theorem Full13.off (S : Full13 K C N nm H Lb Lt Lc L a b d t tb tt n hs m) (s : Bool) {z : Addr} {xs : List V} (hz : H z = some (.lst xs)) (x : ¬ hid Lb Lt Lc L z) : ¬ chg (b s) (d s) (t s) Lb Lt Lc z := by
  have U := S.two.side s
  obtain ⟨dx, eb⟩ := U.sd.bk.ob
  rintro (rfl | rfl | rfl | h | h | h)
  · rw [eb] at hz; cases hz
  · rw [U.sd.bk.dc] at hz; cases hz
  · rw [U.sd.tbl.at_] at hz; cases hz
  · exact x (.inl h)
  · exact x (.inr (.inl h))
  · exact x (.inr (.inr (.inl h)))
theorem Full13.sqs (S : Full13 K C N nm H Lb Lt Lc L a b d t tb tt n hs m) (s : Bool) (g : GrX (chg (b s) (d s) (t s) Lb Lt Lc) H H') : Sqs (hide (hid Lb Lt Lc L) H) (hide (hid Lb Lt Lc L) H') := by
  have U := S.two.side s
  obtain ⟨dx, eb⟩ := U.sd.bk.ob
  refine ⟨fun z o e n1 n2 n3 => ?_⟩
  obtain ⟨x, e⟩ := hide_out e
  rw [hide_in x]
  refine g.at_ z o ?_ e n1
  rintro (rfl | rfl | rfl | h | h | h)
  · rw [eb] at e; exact n2 _ _ _ (Option.some.inj e).symm
  · rw [U.sd.bk.dc] at e; exact n3 _ (Option.some.inj e).symm
  · rw [U.sd.tbl.at_] at e; exact n3 _ (Option.some.inj e).symm
  · exact x (.inl h)
  · exact x (.inr (.inl h))
  · exact x (.inr (.inr (.inl h)))
/-- one side anew -/
theorem Full13.upd (S : Full13 K C N nm H Lb Lt Lc L a b d t tb tt n hs m) (s : Bool) (g : GrX (chg (b s) (d s) (t s) Lb Lt Lc) H H') {b' d' t' : Addr} {tb' tt' : Tb1} {n' : Int} {k : Nat} (V' : Sd13 C nm H' b' d' t' tb' tt' n')
    (hb : b' = b s ∨ H b' = none) (hd : d' = d s ∨ H d' = none) (ht : t' = t s ∨ H t' = none) (ndt : d' ≠ t') (eb : H' Lb = some (.lst [.ref (upB b s b' false), .ref (upB b s b' true)])) (et : H' Lt = some (.lst [.ref (upB t s t' false), .ref (upB t s t' true)])) (ec : H' Lc = some (.lst [.int (upB n s n' false), .int (upB n s n' true)]))
    (rb : ∀ e ∈ tb', ¬ hid Lb Lt Lc L e.2.1) (rt : ∀ e ∈ tt', ¬ hid Lb Lt Lc L e.2.1) (hm : m ≤ k) (hk : tt'.length ≤ k) (k20 : k ≤ 20) :
    Full13 K C N nm H' Lb Lt Lc L a (upB b s b') (upB d s d') (upB t s t') (upB tb s tb') (upB tt s tt') (upB n s n') hs k := by
  have U := S.two.side s
  have W := S.two.side (!s)
  obtain ⟨dx, ebs⟩ := U.sd.bk.ob
  obtain ⟨dx2, ebn⟩ := W.sd.bk.ob
  have sq := S.sqs s g
  have hl' : HeldL K (hid Lb Lt Lc L) H' L hs := by
    refine ⟨fun z hz => ?_, U.hl.mem, g.lst ?_ U.hl.at_, fun h hh => ?_⟩
    · obtain ⟨o, e⟩ := U.hl.all z hz
      exact g.has e
    · have e := U.hl.at_
      rintro (h | h | h | h | h | h)
      · rw [h, ebs] at e; cases e
      · rw [h, U.sd.bk.dc] at e; cases e
      · rw [h, U.sd.tbl.at_] at e; cases e
      · exact S.two.nb h.symm
      · exact S.two.nt h.symm
      · exact S.nc h.symm
    · obtain ⟨h1, h2, h3, h4⟩ := U.hl.own h hh
      exact ⟨sq.at_ _ _ h1 (fun _ z => nomatch z) (fun _ _ _ z => nomatch z) (fun _ z => nomatch z), sq.dp h2, sq.dp h3, h4⟩
  have at' : SqL K H' a (nm.map V.str) := by
    rcases U.at_ with (h | ⟨o, h⟩) | h
    · exact .inl (.inl (g.lst (S.off s h U.na) h))
    · refine .inl (.inr ⟨o, g.at_ _ _ ?_ h (fun _ z => nomatch z)⟩)
      rintro (z | z | z | z | z | z)
      · rw [z, ebs] at h; cases h
      · rw [z, U.sd.bk.dc] at h; cases h
      · rw [z, U.sd.tbl.at_] at h; cases h
      · exact U.na (.inl z)
      · exact U.na (.inr (.inl z))
      · exact U.na (.inr (.inr (.inl z)))
    · exact .inr h
  have tg' := U.tg.grx g
  have off1 : ¬ chg (b s) (d s) (t s) Lb Lt Lc (b (!s)) := by
    rintro (h | h | h | h | h | h)
    · exact S.ab s h
    · rw [h, U.sd.bk.dc] at ebn; cases ebn
    · rw [h, U.sd.tbl.at_] at ebn; cases ebn
    · rw [h, S.two.eb] at ebn; cases ebn
    · rw [h, S.two.et] at ebn; cases ebn
    · rw [h, S.ec] at ebn; cases ebn
  have off2 : ¬ chg (b s) (d s) (t s) Lb Lt Lc (d (!s)) := by
    have e := W.sd.bk.dc
    rintro (h | h | h | h | h | h)
    · rw [h, ebs] at e; cases e
    · exact S.ad s h
    · exact S.adt _ _ h
    · rw [h, S.two.eb] at e; cases e
    · rw [h, S.two.et] at e; cases e
    · rw [h, S.ec] at e; cases e
  have off3 : ¬ chg (b s) (d s) (t s) Lb Lt Lc (t (!s)) := by
    have e := W.sd.tbl.at_
    rintro (h | h | h | h | h | h)
    · rw [h, ebs] at e; cases e
    · exact S.adt _ _ h.symm
    · exact S.at2 s h
    · rw [h, S.two.eb] at e; cases e
    · rw [h, S.two.et] at e; cases e
    · rw [h, S.ec] at e; cases e
  have W' : Sd13 C nm H' (b (!s)) (d (!s)) (t (!s)) (tb (!s)) (tt (!s)) (n (!s)) :=
    ⟨W.sd.bk.grx g off1 off2 fun e he => S.off s (W.sd.bk.own e he) (W.rb e he), W.sd.ok, ⟨g.at_ _ _ off3 W.sd.tbl.at_ (fun _ z => nomatch z), fun e he => g.lst (S.off s (W.sd.tbl.own e he) (W.rt e he)) (W.sd.tbl.own e he)⟩, W.sd.eq, W.sd.row⟩
  have any : ∀ {P : Bool → Prop}, P s → P (!s) → ∀ z, P z := fun {P} h1 h2 z => by
    cases s <;> cases z <;> assumption
  have nn : (!(!s)) = s := by cases s <;> rfl
  refine ⟨⟨any ?_ ?_, eb, et, S.two.nb, S.two.nt⟩, ec, S.nbt, S.nbc, S.ntc, S.nc, any ?_ ?_, any ?_ ?_, any ?_ ?_, any (any ?_ ?_) (any ?_ ?_), any ?_ ?_⟩
  · rw [upB_at, upB_at, upB_at, upB_at, upB_at, upB_at]
    exact ⟨V', tg', at', U.na, U.n5, by omega, rb, rt, hl'⟩
  · rw [upB_not, upB_not, upB_not, upB_not, upB_not, upB_not]
    exact ⟨W', tg', at', U.na, U.n5, W.few, W.rb, W.rt, hl'⟩
  · rw [upB_at, upB_not]
    rcases hb with h | h
    · rw [h]; exact S.ab s
    · exact ne_of_none ebn h
  · rw [nn, upB_at, upB_not]
    rcases hb with h | h
    · rw [h]; exact (S.ab s).symm
    · exact (ne_of_none ebn h).symm
  · rw [upB_at, upB_not]
    rcases hd with h | h
    · rw [h]; exact S.ad s
    · exact ne_of_none W.sd.bk.dc h
  · rw [nn, upB_at, upB_not]
    rcases hd with h | h
    · rw [h]; exact (S.ad s).symm
    · exact (ne_of_none W.sd.bk.dc h).symm
  · rw [upB_at, upB_not]
    rcases ht with h | h
    · rw [h]; exact S.at2 s
    · exact ne_of_none W.sd.tbl.at_ h
  · rw [nn, upB_at, upB_not]
    rcases ht with h | h
    · rw [h]; exact (S.at2 s).symm
    · exact (ne_of_none W.sd.tbl.at_ h).symm
  · rw [upB_at, upB_at]; exact ndt
  · rw [upB_at, upB_not]
    rcases hd with h | h
    · rw [h]; exact S.adt _ _
    · exact (ne_of_none W.sd.tbl.at_ h).symm
  · rw [upB_at, upB_not]
    rcases ht with h | h
    · rw [h]; exact S.adt _ _
    · exact ne_of_none W.sd.bk.dc h
  · rw [upB_not, upB_not]; exact S.adt _ _
  · rw [upB_at]; exact hk
  · rw [upB_not]; exact Nat.le_trans (S.len _) hm
end
end K1
end
section
set_option maxHeartbeats 8000000
namespace K1
open PySem PySem.Spec PyProof.Rows L2 Gr GxR Srx Skx Dcx
section
variable {P : Program} {w : World} {K : PySem.W.Frag} {mg : Str → Option Value} {base : Heap} {f C M : Addr} {fd : FuncData} {N : TabN} {R : ErN}
/-- what a deed leaves -/
def FullQ (K : PySem.W.Frag) (C : Addr) (N : TabN) (nm : List Str) (H : Hp) (Lb Lt Lc L a : Addr) (hs : List HelD) (m : Nat) (Q : VK) : Prop :=
  ∀ H' b d t tb tt n, Sqs (hide (hid Lb Lt Lc L) H) (hide (hid Lb Lt Lc L) H') → Full13 K C N nm H' Lb Lt Lc L a b d t tb tt n hs m → Q (.bl true) H'
def spPut13 (K : PySem.W.Frag) (C : Addr) (N : TabN) : Sp := fun vs H Q _ => ∃ (Lb Lt Lc L a r : Addr) (b d t : Bool → Addr) (tb tt : Bool → Tb1) (n : Bool → Int) (hs : List HelD) (m : Nat) (nm xs : List Str) (s : Bool), vs = [.ref Lb, .ref Lt, .ref Lc, .int (sid s), .ref r] ∧ Full13 K C N nm H Lb Lt Lc L a b d t tb tt n hs m ∧ m ≤ 19 ∧
  H r = some (.lst (xs.map V.str)) ∧ ¬ hid Lb Lt Lc L r ∧ xs.Nodup ∧ (∀ y ∈ xs, y ∈ nm) ∧ FullQ K C N nm H Lb Lt Lc L a hs (m + 1) Q
structure E13k (P : Program) (w : World) (K : PySem.W.Frag) (mg : Str → Option Value) (base : Heap) (C : Addr) (N : TabN) (R : ErN) : Prop where
  bc : BkC K mg C
  put : MCalls P w K mg base (L2.CX P w) 5 C "put" (spPut K C N R)
  gLi : mg "list" = none
theorem ok_put13 (F : FnP K "_law_put" s_law_put_x f fd) (G : E13k P w K mg base C N R) : FnOk P w K mg base CX0 6 f fd ["_law_books", "_law_tables", "_law_counts", "_law_side", "_law_row_here"] (spPut13 K C N) := by
  have g_list := G.gLi
  refine F.ok scPut13 (fun vs H Q E h => ?_) (fun cdv A outer s0 H vs Q E hr h => ?_)
  · obtain ⟨Lb, Lt, Lc, L, a, r, b, d, t, tb, tt, n, hs, m, nm, xs, s, rfl, _⟩ := h
    rfl
  · obtain ⟨Lb, Lt, Lc, L, a, r, b, d, t, tb, tt, n, hs, m, nm, xs, s, rfl, S, hm, er, xr, nd, sub, q⟩ := h
    refine ⟨_, PSs.nox (pss_cons (ps_set (i := 5) scPut13.nd rfl (.inl rfl) (pe_callTy call_list_of (by rfl) g_list boot_list (pa_cons (pv 4) pa_nil))) (pss_cons (ps_set (i := 6) scPut13.nd rfl (.inl rfl) (pe_m G.put G.bc.cl hr (by decide) paL (pe_ix ix_list (pv 0) (pv 3) (fun _ _ => rfl)) (pa_cons (pv 5) pa_nil))) (pss_cons (ps_expr (pe_bm PySem.F.plainAttrs_list PySem.F.slot_list_append PySem.F.type_list_append mt_append (pv 5) (pa_cons pe_str pa_nil))) (pss_cons (ps_dput (hu_of hr) (pe_ix ix_list (pv 1) (pv 3) (fun _ _ => rfl)) (pe_ix ix_list (pv 2) (pv 3) (fun _ _ => rfl)) (pv 4) rfl) (pss_cons (ps_asg (pe_op op_add (pe_ix ix_list (pv 2) (pv 3) (fun _ _ => rfl)) pe_int) (pg_sub (pv 2) (pv 3) set_list)) (pss_one (ps_ret (pe_cmpR op_eq (pv 6) (pe_op op_sub (pe_ix ix_list (pv 2) (pv 3) (fun _ _ => rfl)) pe_int) (nomark _))))))))), ?_⟩
    have U := S.two.side s
    have N5 := U.n5
    have n5 := N5.few
    have xl : xs.length ≤ 5 := by
      have h3 := (sublist_of (ris_srt N5.nd) (ris_srt nd) fun y hy => srt_mem.mpr (sub y (srt_mem.mp hy))).length_le
      rw [srt_len, srt_len] at h3
      omega
    have xnm : Nms xs := fun y hy => N5.nms y (sub y hy)
    have tl := U.sd.len
    refine ⟨_, rfl, r, _, rfl, .inl (.inl (.inl er)), fun l nl => ?_⟩
    have g2 : Gr H (upd H l (.lst (xs.map V.str))) := Gr.new nl
    have el : (upd H l (.lst (xs.map V.str))) l = some (.lst (xs.map V.str)) := upd_same
    generalize upd H l (.lst (xs.map V.str)) = H2 at g2 el
    have S2 := S.gr g2
    have U2 := S2.two.side s
    obtain ⟨dx, ebs⟩ := U.sd.bk.ob
    have few : (tb s).length < 30 := by
      have := S.len s
      omega
    have wide := (rowsOk5 N5 (rows := rws (tb s) ++ [xs]) (fun z hz => by
      rcases List.mem_append.mp hz with hz | hz
      · exact U.sd.rowB z hz
      · rw [List.mem_singleton.mp hz]
        exact ⟨nd, sub⟩) (by unfold rws; rw [List.length_append, List.length_map, List.length_singleton]; omega)).wide
    refine ⟨_, rfl, _, rfl, Lb, _, _, _, rfl, rfl, .inl (.inl S2.two.eb), at_sid s, b s, d s, tb s, n s, rfl, U2.sd.bk, _, rfl, b s, d s, tb s, n s, _, rfl, U2.sd.bk, U.sd.ok, U2.tg, .inl ⟨xs, ⟨l, rfl, el, xnm, by omega⟩, by omega, nd, few, wide, fun p H3 g3 np B3 => ?_⟩⟩
    have sq := U2.sd.bk.off g3 fun z hz => hz
    have el3 := sq.lst el
    have er3 := sq.lst (g2.lst er)
    have ec3 := sq.lst S2.ec
    have et3 := sq.lst S2.two.et
    have eb3 := sq.lst S2.two.eb
    have kb : t s ≠ b s := ne_of U.sd.tbl.at_ ebs (by intro z; cases z)
    have kd : t s ≠ d s := (S.adt s s).symm
    have etb3 : H3 (t s) = some (.dK (kvB (tt s))) := g3.at_ _ _ (fun z => z.elim kb kd) U2.sd.tbl.at_ fun _ z => nomatch z
    have ntX : ∀ z, chg (b s) (d s) (t s) Lb Lt Lc z → ∀ ps, H z ≠ some (.tbl ps) := by
      rintro z (rfl | rfl | rfl | rfl | rfl | rfl) ps e
      · rw [ebs] at e; cases e
      · rw [U.sd.bk.dc] at e; cases e
      · rw [U.sd.tbl.at_] at e; cases e
      · rw [S.two.eb] at e; cases e
      · rw [S.two.et] at e; cases e
      · rw [S.ec] at e; cases e
    have ntX2 : ∀ z, chg (b s) (d s) (t s) Lb Lt Lc z → ∀ ps, H2 z ≠ some (.tbl ps) := by
      have ⟨dx2, ebs2⟩ := U2.sd.bk.ob
      rintro z (rfl | rfl | rfl | rfl | rfl | rfl) ps e
      · rw [ebs2] at e; cases e
      · rw [U2.sd.bk.dc] at e; cases e
      · rw [U2.sd.tbl.at_] at e; cases e
      · rw [S2.two.eb] at e; cases e
      · rw [S2.two.et] at e; cases e
      · rw [S2.ec] at e; cases e
    refine ⟨_, rfl, .inl ⟨rfl, _, .inl (.inl el3)⟩, l, _, _, rfl, rfl, el3, ?_, ?_⟩
    · rw [List.length_map]
      exact small1000 (by omega)
    have off := S.off s er xr
    have nl3 : ∀ {z : Addr} {o : HO}, H z = some o → z ≠ l := fun e => ne_of_none e nl
    have pl : l ≠ p := ne_of_none el np
    have gz3 : GrX (chg (b s) (d s) (t s) Lb Lt Lc) H H3 := (g2.x _).trans (g3.mono (fun z hz => hz.elim .inl fun e => .inr (.inl e)) fun z o hz _ e ps e2 => ntX2 z hz ps (by rw [e, e2]))
    have gz4 : GrX (chg (b s) (d s) (t s) Lb Lt Lc) H (upd H3 l (.lst (xs.map V.str ++ [V.str (Str.ofString "z")]))) := gz3.put (.inr nl) fun ps e => by rw [nl] at e; cases e
    have gy4 : GrX (fun z => z = l ∨ z = t s ∨ z = Lc) H3 (upd H3 l (.lst (xs.map V.str ++ [V.str (Str.ofString "z")]))) := (GrX.refl _ H3).put (.inl (.inl rfl)) fun ps e => by rw [el3] at e; cases e
    have o4 : ∀ z, z ≠ l → (upd H3 l (.lst (xs.map V.str ++ [V.str (Str.ofString "z")]))) z = H3 z := fun z hz => upd_ne hz
    generalize upd H3 l (.lst (xs.map V.str ++ [V.str (Str.ofString "z")])) = H4 at gz4 gy4 o4
    have er4 := (o4 r (nl3 er)).trans er3
    have ec4 := (o4 Lc (nl3 S.ec)).trans ec3
    have et4 := (o4 Lt (nl3 S.two.et)).trans et3
    have eb4 := (o4 Lb (nl3 S.two.eb)).trans eb3
    have etb4 := (o4 (t s) (nl3 U.sd.tbl.at_)).trans etb3
    have nfr : n s ∉ nums (tt s) := by rw [← U.sd.nums]; exact U.sd.ok.fresh
    refine ⟨_, rfl, _, rfl, _, rfl, Lt, _, _, _, rfl, rfl, .inl (.inl et4), at_sid s, _, rfl, _, rfl, Lc, _, _, _, rfl, rfl, .inl (.inl ec4), at_sidI s, t s, _, rfl, DPut.k (k := Sum.inl (n s)) etb4 (by rw [kvB_len]; exact small1000 (by omega)), ?_⟩
    rw [kvB_put nfr r xs]
    have gz6 : GrX (chg (b s) (d s) (t s) Lb Lt Lc) H (upd H4 (t s) (.dK (kvB (tt s ++ [(n s, r, xs)])))) := gz4.put (.inl (.inr (.inr (.inl rfl)))) (ntX _ (.inr (.inr (.inl rfl))))
    have gy6 : GrX (fun z => z = l ∨ z = t s ∨ z = Lc) H3 (upd H4 (t s) (.dK (kvB (tt s ++ [(n s, r, xs)])))) := gy4.put (.inl (.inr (.inl rfl))) fun ps e => by rw [etb3] at e; cases e
    have e6 : (upd H4 (t s) (.dK (kvB (tt s ++ [(n s, r, xs)])))) (t s) = some (.dK (kvB (tt s ++ [(n s, r, xs)]))) := upd_same
    have o6 : ∀ z, z ≠ t s → (upd H4 (t s) (.dK (kvB (tt s ++ [(n s, r, xs)])))) z = H4 z := fun z hz => upd_ne hz
    generalize upd H4 (t s) (.dK (kvB (tt s ++ [(n s, r, xs)]))) = H6 at gz6 gy6 e6 o6
    have kl : ∀ {z : Addr} {ys : List V}, H4 z = some (.lst ys) → z ≠ t s := fun e => ne_of e etb4 (by intro z; cases z)
    have ec6 := (o6 Lc (kl ec4)).trans ec4
    have et6 := (o6 Lt (kl et4)).trans et4
    have eb6 := (o6 Lb (kl eb4)).trans eb4
    have er6 := (o6 r (kl er4)).trans er4
    obtain ⟨j, ej, es⟩ := upB_int (f := n) s (n s + 1)
    refine ⟨_, rfl, _, rfl, Lc, _, _, _, rfl, rfl, .inl (.inl ec6), at_sidI s, _, _, rfl, rfl, _, rfl, _, rfl, Lc, _, _, j, rfl, rfl, ec6, ej, ?_⟩
    rw [es]
    have tc : t s ≠ Lc := ne_of U.sd.tbl.at_ S.ec (by intro z; cases z)
    have rc : r ≠ Lc := fun z => off (.inr (.inr (.inr (.inr (.inr z)))))
    have gz7 : GrX (chg (b s) (d s) (t s) Lb Lt Lc) H (upd H6 Lc (.lst [.int (upB n s (n s + 1) false), .int (upB n s (n s + 1) true)])) := gz6.put (.inl (.inr (.inr (.inr (.inr (.inr rfl)))))) (ntX _ (.inr (.inr (.inr (.inr (.inr rfl))))))
    have gy7 : GrX (fun z => z = l ∨ z = t s ∨ z = Lc) H3 (upd H6 Lc (.lst [.int (upB n s (n s + 1) false), .int (upB n s (n s + 1) true)])) := gy6.put (.inl (.inr (.inr rfl))) fun ps e => by rw [ec3] at e; cases e
    have e7 : (upd H6 Lc (.lst [.int (upB n s (n s + 1) false), .int (upB n s (n s + 1) true)])) Lc = some (.lst [.int (upB n s (n s + 1) false), .int (upB n s (n s + 1) true)]) := upd_same
    have o7 : ∀ z, z ≠ Lc → (upd H6 Lc (.lst [.int (upB n s (n s + 1) false), .int (upB n s (n s + 1) true)])) z = H6 z := fun z hz => upd_ne hz
    generalize upd H6 Lc (.lst [.int (upB n s (n s + 1) false), .int (upB n s (n s + 1) true)]) = H7 at gz7 gy7 e7 o7
    refine ⟨_, rfl, _, rfl, _, rfl, Lc, _, _, _, rfl, rfl, .inl (.inl e7), at_sidI s, _, _, rfl, rfl, ?_⟩
    rw [upB_at]
    have e1 : n s + 1 - 1 = n s := by omega
    have B7 : Bk C H7 (b s) (d s) (tb s ++ [(n s, p, once xs)]) (n s + 1) := by
      obtain ⟨dx3, ebs3⟩ := B3.ob
      refine B3.grx gy7 (fun z => z.elim (nl3 ebs) fun z => z.elim kb.symm fun z => by rw [z, ec3] at ebs3; cases ebs3) (fun z => z.elim (nl3 U.sd.bk.dc) fun z => z.elim kd.symm fun z => by have h1 := B3.dc; rw [z, ec3] at h1; cases h1) fun e he z => ?_
      rcases z with z | z | z
      · rcases List.mem_append.mp he with he | he
        · exact nl3 (U.sd.bk.own e he) z
        · rw [List.mem_singleton.mp he] at z
          exact pl z.symm
      · have h1 := B3.own e he
        rw [z, etb3] at h1; cases h1
      · have h1 := B3.own e he
        rw [z, ec3] at h1
        generalize e.2.2 = ys at h1
        cases ys with
        | nil => cases h1
        | cons y yr => injection (Option.some.inj h1) with h1; injection h1 with h1 _; cases h1
    have T7 : Tbl H7 (t s) (tt s ++ [(n s, r, xs)]) := ⟨(o7 _ tc).trans e6, fun e he => by
      rcases List.mem_append.mp he with he | he
      · have h1 := U.sd.tbl.own e he
        exact gz7.lst (S.off s h1 (U.rt e he)) h1
      · rw [List.mem_singleton.mp he]
        exact (o7 r rc).trans er6⟩
    have sd7 : Sd13 C nm H7 (b s) (d s) (t s) (tb s ++ [(n s, p, once xs)]) (tt s ++ [(n s, r, xs)]) (n s + 1) := ⟨B7, U.sd.ok.put xnm few wide p, T7, by rw [nr_snoc, nr_snoc, List.map_append, U.sd.eq, once_srt nd]; rfl, fun z hz => by
      rw [rws_snoc] at hz
      rcases List.mem_append.mp hz with hz | hz
      · exact U.sd.row z hz
      · rw [List.mem_singleton.mp hz]
        exact ⟨nd, sub⟩⟩
    have ups : ∀ {α : Type} (f : Bool → α), upB f s (f s) = f := fun f => by
      funext z
      unfold upB
      split
      · rename_i e; rw [e]
      · rfl
    have q7 := q H7 _ _ _ _ _ _ (S.sqs s gz7) (S.upd s gz7 sd7 (.inl rfl) (.inl rfl) (.inl rfl) kd.symm (by rw [ups]; exact (o7 _ S.nbc).trans eb6) (by rw [ups]; exact (o7 _ S.ntc).trans et6) e7 (fun e he => ?_) (fun e he => ?_) (Nat.le_succ m) ?_ (by omega))
    · show rEq (V.int (n s)) (V.int (n s + 1 - 1)) H7 Q
      rw [e1]
      refine ⟨rfl, ?_⟩
      rw [decide_eq_true rfl]
      exact q7
    · rcases List.mem_append.mp he with he | he
      · exact U.rb e he
      · rw [List.mem_singleton.mp he]
        exact U.hl.out (g2.free np)
    · rcases List.mem_append.mp he with he | he
      · exact U.rt e he
      · rw [List.mem_singleton.mp he]
        exact xr
    · rw [List.length_append, List.length_singleton]
      exact Nat.succ_le_succ (S.len s)
end
end K1
end
section
set_option maxHeartbeats 8000000
namespace K1
open PySem PySem.Spec PyProof.Rows L2 Gr GxR Srx Skx Dcx
section
variable {P : Program} {w : World} {K : PySem.W.Frag} {mg : Str → Option Value} {base : Heap} {f C M : Addr} {fd : FuncData} {N : TabN} {R : ErN}
theorem rows_tg {K : PySem.W.Frag} {σ : L2.St} {j : Nat} {H : Hp} {Q : VK} {te : TE} {t : Addr} {tt : Tb1} (T : Tbl H t tt) (pw : (nums tt).Pairwise (· < ·)) (few : tt.length ≤ 60)
    (h1 : ∀ (Q' : VK), Q' (.ref t) H → te σ H Q') (h2 : ∀ (v : V) (H' : Hp) (Q' : VK), Gr H H' → Q' (.ref t) H' → te ((wipe σ [j]).set j (some v)) H' Q')
    (q : ∀ D H', Gr H H' → H D = none → H' D = some (.lst (tt.map fun e => V.ref e.2.1)) → Q (.ref D) H')
    (hw : ∀ v, wipe ((wipe σ [j]).set j (some v)) [j] = wipe σ [j] := by intro _; rfl) (hj : ∀ v : V, ((wipe σ [j]).set j (some v))[j]? = some (some v) := by intro _; rfl) :
    tLc (iList K (tCB (rSorted K) (tCons (tCB rListD (tCons te tNil)) tNil))) (gName j) tYes (tDGet te (tVar j)) [j] σ H Q := by
  have ndn := pw_nodup pw
  refine h1 _ ⟨t, _, rfl, T.at_, fun l nl => ?_⟩
  rw [kvB_keys]
  have g1 : Gr H (upd H l (.lst ((nums tt).map V.int))) := Gr.new nl
  have el : (upd H l (.lst ((nums tt).map V.int))) l = some (.lst ((nums tt).map V.int)) := upd_same
  generalize upd H l (.lst ((nums tt).map V.int)) = H1 at g1 el
  refine sortedI (K := K) (.inl (.inl el)) pw (by unfold nums; rw [List.length_map]; omega) fun l2 nl2 => ⟨l2, rfl, ⟨_, .inl (.inl upd_same)⟩, fun D nD => ?_⟩
  have g2 : Gr H1 (upd H1 l2 (.lst ((nums tt).map V.int))) := Gr.new nl2
  have el2 : (upd H1 l2 (.lst ((nums tt).map V.int))) l2 = some (.lst (tt.map fun e => V.int e.1)) := by rw [upd_same]; unfold nums; rw [List.map_map]; rfl
  generalize upd H1 l2 (.lst ((nums tt).map V.int)) = H2 at g2 el2 nD
  have g02 := g1.trans g2
  refine lc_mapW (K := K) (fun e : Int × Addr × List Str => V.int e.1) (fun e => V.ref e.2.1) (.inl (.inl el2)) (small1000 (by omega)) nD hw (fun e he H4 Q' g4 hq => ?_) (fun H3 g3 e3 => q D H3 (g02.trans g3) (g02.free nD) e3)
  have z : DGet H4 t (V.int e.1) _ := DGet.k (k := Sum.inl e.1) (T.gr (g02.trans g4)).at_
  rw [kvB_get ndn he] at z
  exact h2 _ _ _ (g02.trans g4) ⟨_, hj _, t, _, rfl, z, hq _ (Gr.refl _)⟩
theorem rows_tgs {K : PySem.W.Frag} {σ : L2.St} {j o : Nat} {vs : List Nat} {H : Hp} {D : Ends} {u : TS} {te : TE} {t : Addr} {tt : Tb1} (T : Tbl H t tt) (pw : (nums tt).Pairwise (· < ·)) (few : tt.length ≤ 60)
    (h1 : ∀ (Q' : VK), Q' (.ref t) H → te σ H Q') (h2 : ∀ (v : V) (H' : Hp) (Q' : VK), Gr H H' → Q' (.ref t) H' → te ((wipe σ [j]).set j (some v)) H' Q')
    (q : ∀ A H', Gr H H' → H A = none → H' A = some (.lst (tt.map fun e => V.ref e.2.1)) → u D (σ.set o (some (.ref A))) H')
    (hv : vs = [j] := by rfl) (hw : ∀ v, wipe ((wipe σ [j]).set j (some v)) [j] = wipe σ [j] := by intro _; rfl) (hj : ∀ v : V, ((wipe σ [j]).set j (some v))[j]? = some (some v) := by intro _; rfl) :
    tSeq (tAsg (tLc (iList K (tCB (rSorted K) (tCons (tCB rListD (tCons te tNil)) tNil))) (gName j) tYes (tDGet te (tVar j)) vs) (gName o)) u D σ H := by
  subst hv
  exact rows_tg (Q := fun x H1 => gName o x σ H1 (u D)) T pw few h1 h2 q hw hj
section
variable {nm : List Str} {H H' : Hp} {Lb Lt Lc L a : Addr} {b d t : Bool → Addr} {tb tt : Bool → Tb1} {n : Bool → Int} {hs hs' : List HelD} {m : Nat}
theorem Full13.nto (S : Full13 K C N nm H Lb Lt Lc L a b d t tb tt n hs m) (s : Bool) : ∀ z, chg (b s) (d s) (t s) Lb Lt Lc z → ∃ o, H z = some o ∧ NoTbl o := by
  have U := S.two.side s
  obtain ⟨dx, eb⟩ := U.sd.bk.ob
  rintro z (rfl | rfl | rfl | rfl | rfl | rfl)
  · exact ⟨_, eb, fun _ z => nomatch z⟩
  · exact ⟨_, U.sd.bk.dc, fun _ z => nomatch z⟩
  · exact ⟨_, U.sd.tbl.at_, fun _ z => nomatch z⟩
  · exact ⟨_, S.two.eb, fun _ z => nomatch z⟩
  · exact ⟨_, S.two.et, fun _ z => nomatch z⟩
  · exact ⟨_, S.ec, fun _ z => nomatch z⟩
theorem FullQ.gr {Q : VK} (q : FullQ K C N nm H Lb Lt Lc L a hs m Q) (g : Gr H H') : FullQ K C N nm H' Lb Lt Lc L a hs m Q := fun H2 b d t tb tt n sq F => q H2 b d t tb tt n ((Sqs.gr (gr_hide g)).trans sq) F
theorem nr_dropW (tb : Tb1) (k : Int) : nr (tb.filter fun e => decide (e.1 ≠ k)) = (nr tb).filter fun z => decide (z.1 ≠ k) := by
  unfold nr
  rw [List.filter_map]
  rfl
theorem set_lb (S : Full13 K C N nm H Lb Lt Lc L a b d t tb tt n hs m) {b' d' : Addr} {tb' : Tb1} {rows : List (List Str)} {H3 : Hp} (g3 : Gr H H3) (NB : NewB C H H3 b' d' tb' rows) (o : HO) : GrX (fun z => z = Lb) H (upd H3 Lb o) ∧ Bk C (upd H3 Lb o) b' d' tb' rows.length ∧ (upd H3 Lb o) Lb = some o := by
  have eb := S.two.eb
  refine ⟨(g3.x _).put (.inl rfl) (fun ps z => by rw [eb] at z; cases z), NB.bk.grx (X := fun z => z = Lb) ((GrX.refl _ H3).put (.inl rfl) fun ps z => by rw [g3.lst eb] at z; cases z) (ne_of_none eb NB.nb).symm (ne_of_none eb NB.ndd).symm (fun e he => (ne_of_none eb (NB.fresh e he)).symm), upd_same⟩
theorem anew_end (S : Full13 K C N nm H Lb Lt Lc L a b d t tb tt n hs m) (s : Bool) {Q : VK} {E : XK} (q : FullQ K C N nm H Lb Lt Lc L a hs (m + 1) Q) {b' d' r : Addr} {tb' : Tb1} {rows : List (List Str)} {H3 H4 : Hp} {ps : List (Addr × List Str)} (NB : NewB C H H3 b' d' tb' rows) (g4 : GrX (fun z => z = Lb) H H4) (B4 : Bk C H4 b' d' tb' rows.length) (e4 : H4 Lb = some (.lst [.ref (upB b s b' false), .ref (upB b s b' true)]))
    (LLr : LL H4 r ps) (nr : r ≠ Lt) (off : ∀ q ∈ ps, ¬ hid Lb Lt Lc L q.1) (er : rows.map once = (ps.map (·.2)).map srt) (row : ∀ r ∈ ps.map (·.2), r.Nodup ∧ ∀ y ∈ r, y ∈ nm) (len : ps.length ≤ m + 1) (h19 : m ≤ 19) (Q' : VK) (hq : ∀ H', Q (.bl true) H' → Q' .non H') :
    spAnew [.ref Lt, .ref Lc, .int (sid s), .ref r] H4 Q' E := by
  have U := S.two.side s
  have et4 := g4.lst (fun z => S.nbt z.symm) S.two.et
  have ec4 := g4.lst (fun z => S.nbc z.symm) S.ec
  refine ⟨Lt, Lc, r, t, n, s, ps, rfl, et4, ec4, S.ntc, nr, LLr, by omega, fun z hz => ⟨fun e => off z hz (.inr (.inl e)), fun e => off z hz (.inr (.inr (.inl e)))⟩, fun t' H' gx nt' e1 e2 T => hq H' ?_⟩
  have nt0 := S.nto s
  have G1 : GrX (chg (b s) (d s) (t s) Lb Lt Lc) H H4 := g4.mono (fun z e => .inr (.inr (.inr (.inl e)))) fun z o hz _ e => by
    obtain ⟨o', e2, n2⟩ := nt0 z hz
    rw [e2] at e
    rw [← Option.some.inj e]
    exact n2
  have G2 : GrX (chg (b s) (d s) (t s) Lb Lt Lc) H4 H' := gx.mono (fun z e => .inr (.inr (.inr (.inr e)))) fun z o hz _ e => by
    by_cases h : z = Lb
    · rw [h, e4] at e
      rw [← Option.some.inj e]
      exact fun _ z => nomatch z
    · obtain ⟨o', e2, n2⟩ := nt0 z hz
      rw [g4.at_ z o' h e2 n2] at e
      rw [← Option.some.inj e]
      exact n2
  have G := G1.trans G2
  have rl : rows.length = ps.length := by
    have h1 := congrArg List.length er
    rw [List.length_map, List.length_map, List.length_map] at h1
    exact h1
  obtain ⟨dx, ob4⟩ := B4.ob
  have offr : ∀ e ∈ tb', ¬ hid Lb Lt Lc L e.2.1 := fun e he => U.hl.out (NB.fresh e he)
  have B' : Bk C H' b' d' tb' (ps.length : Int) := by
    rw [← rl]
    refine B4.grx gx (fun z => ?_) (fun z => ?_) fun e he z => z.elim (fun z => offr e he (.inr (.inl z))) fun z => offr e he (.inr (.inr (.inl z)))
    · rcases z with z | z
      · rw [z, et4] at ob4; cases ob4
      · rw [z, ec4] at ob4; cases ob4
    · have h1 := B4.dc
      rcases z with z | z
      · rw [z, et4] at h1; cases h1
      · rw [z, ec4] at h1; cases h1
  have sd' : Sd13 C nm H' b' d' t' tb' (ttOf ps) (ps.length : Int) := ⟨B', rl ▸ NB.ok, T, by
    rw [NB.rows, ttOf_nr, er]
    have gen : ∀ l : List (List Str), numd (l.map srt) = (numd l).map fun z => (z.1, srt z.2) := fun l => by
      induction l using snoc_ind with
      | h0 => rfl
      | h1 xs x ih => rw [List.map_append, show [x].map srt = [srt x] from rfl, numd_snoc, numd_snoc, ih, List.map_append, List.length_map]; rfl
    exact gen _, fun z hz => row z (ttOf_rws ps ▸ hz)⟩
  refine q H' _ _ _ _ _ _ (S.sqs s G) (S.upd s G sd' (.inr NB.nb) (.inr NB.ndd) (.inr (g4.free nt')) (ne_of_none B4.dc nt') (gx.lst (fun z => z.elim S.nbt S.nbc) e4) e1 e2 offr (fun e he => off _ (ttOf_mem e he)) (Nat.le_succ m) ?_ (by omega))
  rw [ttOf_len]
  exact len
end
structure E13l (P : Program) (w : World) (K : PySem.W.Frag) (mg : Str → Option Value) (base : Heap) (C : Addr) (N : TabN) (R : ErN) : Prop where
  bc : BkC K mg C
  take : MCalls P w K mg base (L2.CX P w) 1 C "take" (spTake K C R)
  struck : MCalls P w K mg base (L2.CX P w) 7 C "struck" (spStruck K C N R strike)
  without : MCalls P w K mg base (L2.CX P w) 7 C "without" (spStruck K C N R away)
  joined : MCalls P w K mg base (L2.CX P w) 7 C "joined" (spJoined K C N R (fun A B => A ++ B))
  put : Calls P w K mg base CX0 6 "_law_put" (spPut13 K C N)
  row : Calls P w K mg base CX0 1 "_law_row" (spRow K)
  anew : Calls P w K mg base CX0 1 "_law_anew" spAnew
  gL : mg "len" = none
  gLi : mg "list" = none
  gS : mg "sorted" = none
abbrev nDeed : List Str := ["_law_books", "_law_tables", "_law_counts", "_law_names_here", "_law_cell", "_law_side", "_law_more", "_law_name", "_law_rows", "_law_way", "_law_number", "_law_other_here", "_law_row_here", "_law_others"]
theorem scDeed : FnScope nDeed ["_law_books", "_law_tables", "_law_counts", "_law_names_here", "_law_cell"] (defScope s_law_deed_x) := ⟨rfl, rfl, rfl, by decide +kernel, rfl, by decide +kernel, by decide +kernel⟩
def spDeed (K : PySem.W.Frag) (C : Addr) (N : TabN) : Sp := fun vs H Q _ => ∃ (Lb Lt Lc L a : Addr) (b d t : Bool → Addr) (tb tt : Bool → Tb1) (n : Bool → Int) (hs : List HelD) (m : Nat) (nm : List Str) (cell : Int), vs = [.ref Lb, .ref Lt, .ref Lc, .ref a, .int cell] ∧ Full13 K C N nm H Lb Lt Lc L a b d t tb tt n hs m ∧ 8 ≤ m ∧ m ≤ 19 ∧ FullQ K C N nm H Lb Lt Lc L a hs (m + 1) Q
theorem ok_deed (F : FnP K "_law_deed" s_law_deed_x f fd) (G : E13l P w K mg base C N R) : FnOk P w K mg base CX0 8 f fd ["_law_books", "_law_tables", "_law_counts", "_law_names_here", "_law_cell"] (spDeed K C N) := by
  have g_list := G.gLi
  have g_len := G.gL
  have g_sorted := G.gS
  refine F.ok scDeed (fun vs H Q E h => ?_) (fun cdv A outer s0 H vs Q E hr h => ?_)
  · obtain ⟨Lb, Lt, Lc, L, a, b, d, t, tb, tt, n, hs, m, nm, cell, rfl, _⟩ := h
    rfl
  · obtain ⟨Lb, Lt, Lc, L, a, b, d, t, tb, tt, n, hs, m, nm, cell, rfl, S, h8, h19, q⟩ := h
    refine ⟨_, PSs.nox (pss_cons (ps_set (i := 5) scDeed.nd rfl (.inr rfl) (pe_op op_mod (pv 4) pe_int)) (pss_cons (ps_set (i := 6) scDeed.nd rfl (.inl rfl) (pe_op op_fdiv (pv 4) pe_int)) (pss_cons (ps_set (i := 7) scDeed.nd rfl (.inr rfl) (pe_ix ix_list (pv 3) (pe_op op_mod (pv 6) (pe_callB call_len_seq (by rfl) g_len boot_len (pa_cons (pv 3) pa_nil))) (fun _ _ => rfl))) (pss_cons (ps_setLc (i := 8) (own := [("_law_number", 10)]) (g := gName 10) (tt := tYes) rfl scDeed.nd rfl rfl (sw_true rfl rfl rfl (by decide +kernel)) (pi_list (pe_callB cr_sorted (by rfl) g_sorted boot_sorted (pa_cons (pe_callTy (call_list_dK rfl) (by rfl) g_list boot_list (pa_cons (pe_ix ix_list (pv 1) (pv 5) (fun _ _ => rfl)) pa_nil)) pa_nil))) (blkOk_by (N := nDeed) (sc := defScope s_law_deed_x) (by decide +kernel)) (fun _ _ _ _ _ => (pg_name (i := 10) scDeed.nd rfl (.inl rfl))) (fun _ _ _ _ _ => pts_nil) (fun _ _ _ _ _ => (pe_dget (hu_of hr) (pe_ix (r := rIxL K) ix_list (pv 1) (pv 5) (fun _ _ => rfl)) (pv 10) (fun _ _ => rfl)))) (pss_cons (ps_set (i := 9) scDeed.nd rfl (.inl rfl) (pe_op op_mod (pe_op op_fdiv (pv 4) pe_int) pe_int)) (C8.pss_cut (ps_if (PW.pt (pw_and (pt_cmpR op_eq (pv 9) pe_int (nomark _)) (pw_and1 (pt_cmpR (op_neNil (hu64 hr)) (pv 8) (pe_lst pa_nil) (nomark _))))) (pss_cons (ps_set (i := 10) scDeed.nd rfl (.inl rfl) (pe_ix ix_list (pe_callB cr_sorted (by rfl) g_sorted boot_sorted (pa_cons (pe_callTy (call_list_dK rfl) (by rfl) g_list boot_list (pa_cons (pe_ix ix_list (pv 1) (pv 5) (fun _ _ => rfl)) pa_nil)) pa_nil)) (pe_op op_mod (pv 6) (pe_callB call_len_seq (by rfl) g_len boot_len (pa_cons (pv 8) pa_nil))) (fun _ _ => rfl))) (pss_cons (ps_expr (pe_dpop1 (pe_ix ix_list (pv 1) (pv 5) (fun _ _ => rfl)) (pv 10) ⟨rfl, rfl, rfl, rfl⟩)) (pss_one (ps_ret (pe_cmpR op_isN (pe_m G.take G.bc.cl hr (by decide) paL (pe_ix ix_list (pv 0) (pv 5) (fun _ _ => rfl)) (pa_cons (pv 10) pa_nil)) pe_non (nomark _)))))) (pss_nil)) (C8.pss_cut (ps_if (pt_cmpR op_eq (pv 9) pe_int (nomark _)) (pss_cons (ps_asg (pe_m G.struck G.bc.cl hr (by decide) paL (pe_ix ix_list (pv 0) (pv 5) (fun _ _ => rfl)) (pa_cons (pv 7) pa_nil)) (pg_sub (pv 0) (pv 5) set_list)) (pss_cons (ps_expr (pe_k G.anew hr (by decide) (by rfl) (pa_cons (pv 1) (pa_cons (pv 2) (pa_cons (pv 5) (pa_cons (pe_lc (own := [("_law_row_here", 12)]) (g := gName 12) (tt := tYes) rfl scDeed.nd (pi_list (pv 8)) (blkOk_by (N := nDeed) (sc := defScope s_law_deed_x) (by decide +kernel)) (fun _ _ _ _ _ => (pg_name (i := 12) scDeed.nd rfl (.inl rfl))) (fun _ _ _ _ _ => pts_nil) (fun _ _ _ _ _ => (pe_lc (own := [("_law_other_here", 11)]) (g := gName 11) (wi := iList K (tVar 12)) rfl scDeed.nd (pi_list (pv 12)) (blkOk_by (N := nDeed) (sc := relS _ (defScope s_law_deed_x)) (by decide +kernel)) (fun _ _ _ _ _ => (pg_name (i := 11) scDeed.nd rfl (.inl rfl))) (fun _ _ _ _ _ => pts_one (pt_cmpR op_ne (pv 11) (pv 7) (nomark _))) (fun _ _ _ _ _ => (pv 11))))) pa_nil)))))) (pss_one (ps_ret pe_bl)))) (pss_nil)) (C8.pss_cut (ps_if (pt_cmpR op_eq (pv 9) pe_int (nomark _)) (pss_cons (ps_asg (pe_m G.without G.bc.cl hr (by decide) paL (pe_ix ix_list (pv 0) (pv 5) (fun _ _ => rfl)) (pa_cons (pv 7) pa_nil)) (pg_sub (pv 0) (pv 5) set_list)) (pss_cons (ps_expr (pe_k G.anew hr (by decide) (by rfl) (pa_cons (pv 1) (pa_cons (pv 2) (pa_cons (pv 5) (pa_cons (pe_lc (own := [("_law_row_here", 12)]) (g := gName 12) rfl scDeed.nd (pi_list (pv 8)) (blkOk_by (N := nDeed) (sc := defScope s_law_deed_x) (by decide +kernel)) (fun _ _ _ _ _ => (pg_name (i := 12) scDeed.nd rfl (.inl rfl))) (fun _ _ _ _ _ => pts_one (pt_cmpR (r := rIn K true) op_notIn_seq (pv 7) (pv 12) rfl)) (fun _ _ _ _ _ => (pv 12))) pa_nil)))))) (pss_one (ps_ret pe_bl)))) (pss_nil)) (pss_cons (ps_setLc (i := 13) (own := [("_law_number", 10)]) (g := gName 10) (tt := tYes) rfl scDeed.nd rfl rfl (sw_true rfl rfl rfl (by decide +kernel)) (pi_list (pe_callB cr_sorted (by rfl) g_sorted boot_sorted (pa_cons (pe_callTy (call_list_dK rfl) (by rfl) g_list boot_list (pa_cons (pe_ix ix_list (pv 1) (pe_op op_sub pe_int (pv 5)) (fun _ _ => rfl)) pa_nil)) pa_nil))) (blkOk_by (N := nDeed) (sc := defScope s_law_deed_x) (by decide +kernel)) (fun _ _ _ _ _ => (pg_name (i := 10) scDeed.nd rfl (.inl rfl))) (fun _ _ _ _ _ => pts_nil) (fun _ _ _ _ _ => (pe_dget (hu_of hr) (pe_ix (r := rIxL K) ix_list (pv 1) (pe_op op_sub pe_int (pv 5)) (fun _ _ => rfl)) (pv 10) (fun _ _ => rfl)))) (C8.pss_cut (ps_if (PW.pt (pw_and (pt_cmpR op_eq (pv 9) pe_int (nomark _)) (pw_and1 (pt_cmpR op_lt (pe_op op_add (pe_callB call_len_seq (by rfl) g_len boot_len (pa_cons (pv 8) pa_nil)) (pe_callB call_len_seq (by rfl) g_len boot_len (pa_cons (pv 13) pa_nil))) pe_int (nomark _))))) (pss_cons (ps_asg (pe_m G.joined G.bc.cl hr (by decide) paL (pe_ix ix_list (pv 0) (pv 5) (fun _ _ => rfl)) (pa_cons (pe_ix ix_list (pv 0) (pe_op op_sub pe_int (pv 5)) (fun _ _ => rfl)) pa_nil)) (pg_sub (pv 0) (pv 5) set_list)) (pss_cons (ps_expr (pe_k G.anew hr (by decide) (by rfl) (pa_cons (pv 1) (pa_cons (pv 2) (pa_cons (pv 5) (pa_cons (pe_op op_cat (pv 8) (pv 13)) pa_nil)))))) (pss_one (ps_ret pe_bl)))) (pss_nil)) (pss_one (ps_ret (pe_k G.put hr (by decide) (by rfl) (pa_cons (pv 0) (pa_cons (pv 1) (pa_cons (pv 2) (pa_cons (pv 5) (pa_cons (pe_k G.row hr (by decide) (by rfl) (pa_cons (pv 3) (pa_cons (pv 6) pa_nil))) pa_nil)))))))))))))))))), ?_⟩
    have N5 := (S.two.side false).n5
    have eA := (S.two.side false).at_
    have npos : 0 < nm.length := List.length_pos_iff.mpr N5.ne
    have n5 := N5.few
    obtain ⟨s, es⟩ := sid_of cell
    obtain ⟨vx, hv, mv⟩ := atI_mod (xs := nm.map V.str) (c := cell / 18) (n := nm.length) (by rw [List.length_map]) npos
    obtain ⟨x, hx, rfl⟩ := List.mem_map.mp mv
    have nmx := N5.nms x hx
    refine ⟨_, rfl, _, _, rfl, rfl, (by show (0 : Int) < 2; decide), ?_⟩
    show gName 5 (V.int (cell % 2)) _ _ _
    rw [es]
    refine ⟨_, rfl, _, _, rfl, rfl, ⟨by decide, by decide⟩, ?_⟩
    refine ⟨_, rfl, _, rfl, _, rfl, a, _, rfl, .inl eA, _, _, rfl, rfl, (by rw [List.length_map]; omega), a, _, _, _, rfl, rfl, eA, (by rw [List.length_map]; exact hv), ?_⟩
    have U := S.two.side s
    have fewt := S.len s
    have r1 : (rws (tt s)).length = (tt s).length := rws_len _
    refine rows_tgs (te := tOp (rIxL K) (tVar 1) (tVar 5)) (K := K) (j := 10) (o := 8) (t := t s) U.sd.tbl U.sd.pw (by omega) (fun Q' hq => ?_) (fun v H' Q' g hq => ?_) (fun Rw H1 g1 nRw eRw => ?_)
    · exact ⟨_, rfl, _, rfl, Lt, _, _, _, rfl, rfl, .inl (.inl S.two.et), at_sid s, hq⟩
    · exact ⟨_, rfl, _, rfl, Lt, _, _, _, rfl, rfl, .inl (.inl (g.lst S.two.et)), at_sid s, hq⟩
    refine ⟨_, rfl, _, _, rfl, rfl, ⟨by decide, by decide⟩, _, _, rfl, rfl, (by show (0 : Int) < 9; decide), ?_⟩
    show gName 9 (V.int (cell / 2 % 9)) _ _ _
    generalize cell / 2 % 9 = way
    have S1 := S.gr g1
    have q1 := q.gr g1
    have nl : Lt ≠ Rw := ne_of_none S.two.et nRw
    have oRw : ¬ hid Lb Lt Lc L Rw := U.hl.out nRw
    have ndT : ∀ r ∈ rws (tt s), r.Nodup := fun r hr => (U.sd.row r hr).1
    clear q S U
    have U := S1.two.side s
    have eRw0 := eRw
    rw [tb_refs] at eRw
    have L1 : LL H1 Rw ((tt s).map fun e => (e.2.1, e.2.2)) := ⟨eRw, fun q hq => by
      obtain ⟨e, he, rfl⟩ := List.mem_map.mp hq
      exact U.sd.tbl.own e he⟩
    have offT : ∀ q ∈ (tt s).map fun e => (e.2.1, e.2.2), ¬ hid Lb Lt Lc L q.1 := fun q hq => by
      obtain ⟨e, he, rfl⟩ := List.mem_map.mp hq
      exact U.rt e he
    have rowT : ∀ r ∈ ((tt s).map fun e => (e.2.1, e.2.2)).map (·.2), r.Nodup ∧ ∀ y ∈ r, y ∈ nm := by
      rw [tb_rows2]
      exact U.sd.row
    have thx : ∀ {H : Hp}, Thing K H (.str x) := thing_str (by have := nm_len nmx; rw [sizeLine_eq]; omega)
    let σ1 : L2.St := [some (.ref Lb), some (.ref Lt), some (.ref Lc), some (.ref a), some (.int cell), some (.int (sid s)), some (.int (cell / 18)), some (.str x), some (.ref Rw), some (.int way), none, none, none, none]
    -- taken
    refine ⟨fun σ' H' => Gr H1 H' ∧ σ' = σ1, ?_, fun σ' H2 hm => ?_⟩
    · refine ⟨_, rfl, rfl, _, rfl, ?_⟩
      refine ite2 (fun _ => ?_) (fun _ => iteF ⟨Gr.refl _, rfl⟩)
      refine ⟨_, rfl, Nat.zero_le _, fun e0 ne0 => ?_⟩
      have g2 : Gr H1 (upd H1 e0 (.lst [])) := Gr.new ne0
      have ee : (upd H1 e0 (.lst [])) e0 = some (.lst []) := upd_same
      generalize upd H1 e0 (.lst []) = H2 at g2 ee
      refine ⟨Rw, e0, _, rfl, rfl, g2.lst eRw, ee, _, rfl, ?_⟩
      cases htt : tt s with
      | nil => exact iteF ⟨g2, rfl⟩
      | cons x0 xr =>
        refine iteT ?_
        have pos : 0 < (tt s).length := by rw [htt]; exact Nat.succ_pos _
        clear htt
        have S2 := S1.gr g2
        have U2 := S2.two.side s
        refine ⟨_, rfl, _, rfl, Lt, _, _, _, rfl, rfl, .inl (.inl S2.two.et), at_sid s, t s, _, rfl, U2.sd.tbl.at_, fun l nl => ?_⟩
        rw [kvB_keys]
        have g3 : Gr H2 (upd H2 l (.lst ((nums (tt s)).map V.int))) := Gr.new nl
        have el : (upd H2 l (.lst ((nums (tt s)).map V.int))) l = some (.lst ((nums (tt s)).map V.int)) := upd_same
        generalize upd H2 l (.lst ((nums (tt s)).map V.int)) = H3 at g3 el
        have few1 : (nums (tt s)).length = (tt s).length := List.length_map _
        refine sortedI (K := K) (.inl (.inl el)) U.sd.pw (by omega) fun l2 nl2 => ?_
        have g4 : Gr H3 (upd H3 l2 (.lst ((nums (tt s)).map V.int))) := Gr.new nl2
        have el2 : (upd H3 l2 (.lst ((nums (tt s)).map V.int))) l2 = some (.lst ((nums (tt s)).map V.int)) := upd_same
        generalize upd H3 l2 (.lst ((nums (tt s)).map V.int)) = H4 at g4 el2
        have g14 := (g2.trans g3).trans g4
        have S4 := S1.gr g14
        have U4 := S4.two.side s
        obtain ⟨v, hv, mv⟩ := atI_mod (xs := (nums (tt s)).map V.int) (c := cell / 18) (n := (tt s).length) (by rw [List.length_map]; exact few1) pos
        obtain ⟨k, hk, rfl⟩ := List.mem_map.mp mv
        have hkb : k ∈ nums (tb s) := U.sd.nums ▸ hk
        obtain ⟨e, he, ek⟩ := List.mem_map.mp hk
        refine ⟨_, rfl, _, rfl, Rw, _, rfl, .inl (.inl (.inl (g14.lst eRw))), _, _, rfl, rfl, ?_, l2, _, _, _, rfl, rfl, .inl (.inl el2), (by rw [List.length_map, List.length_map]; exact hv), ?_⟩
        · rw [List.length_map, List.length_map]
          show (0 : Int) < (tt s).length
          omega
        have hval : valV (kvB (tt s)) (Sum.inl k : Key) = some (V.ref e.2.1) := by rw [← ek]; exact kvB_get (pw_nodup U.sd.pw) he
        refine ⟨_, rfl, _, rfl, Lt, _, _, _, rfl, rfl, .inl (.inl S4.two.et), at_sid s, t s, rfl, .inl ⟨_, .inl U4.sd.tbl.at_⟩, _, rfl, _, Sum.inl k, _, U4.sd.tbl.at_, rfl, hval, ?_⟩
        rw [kvB_drop]
        have gx5 : GrX (chg (b s) (d s) (t s) Lb Lt Lc) H4 (upd H4 (t s) (.dK (kvB ((tt s).filter fun e => decide (e.1 ≠ k))))) := (GrX.refl _ H4).put (.inl (.inr (.inr (.inl rfl)))) (fun ps z => by rw [U4.sd.tbl.at_] at z; cases z)
        have gt5 : GrX (fun z => z = t s) H4 (upd H4 (t s) (.dK (kvB ((tt s).filter fun e => decide (e.1 ≠ k))))) := (GrX.refl _ H4).put (.inl rfl) fun ps e => by rw [U4.sd.tbl.at_] at e; cases e
        have et5 : (upd H4 (t s) (.dK (kvB ((tt s).filter fun e => decide (e.1 ≠ k))))) (t s) = some (.dK (kvB ((tt s).filter fun e => decide (e.1 ≠ k)))) := upd_same
        generalize upd H4 (t s) (.dK (kvB ((tt s).filter fun e => decide (e.1 ≠ k)))) = H5 at gx5 et5 gt5
        obtain ⟨dx4, ob4⟩ := U4.sd.bk.ob
        have kt : ∀ {z : Addr} {ys : List V}, H4 z = some (.lst ys) → ¬ z = t s := fun e => ne_of e U4.sd.tbl.at_ (by intro z; cases z)
        have B5 : Bk C H5 (b s) (d s) (tb s) (n s) := U4.sd.bk.grx gt5 (ne_of ob4 U4.sd.tbl.at_ (by intro z; cases z)) (S4.adt s s) fun e he => kt (U4.sd.bk.own e he)
        refine ⟨_, rfl, _, rfl, Lb, _, _, _, rfl, rfl, .inl (.inl (gt5.lst (kt S4.two.eb) S4.two.eb)), at_sid s, b s, d s, tb s, n s, rfl, B5, _, rfl, b s, d s, tb s, n s, _, rfl, B5, U.sd.ok, .inl ⟨k, rfl, hkb, fun H6 g6 B6 => ?_⟩⟩
        refine ⟨rfl, ?_⟩
        have nt0 := S4.nto s
        have gx6 : GrX (chg (b s) (d s) (t s) Lb Lt Lc) H4 H6 := gx5.trans (g6.mono (fun z hz => .inr (.inl hz)) fun z o hz _ e => by
          by_cases h : z = t s
          · rw [h, et5] at e
            rw [← Option.some.inj e]
            exact fun _ z => nomatch z
          · obtain ⟨o', e2, n2⟩ := nt0 z hz
            rw [gt5.at_ z o' h e2 n2] at e
            rw [← Option.some.inj e]
            exact n2)
        have kd : ∀ {z : Addr} {ys : List V}, H4 z = some (.lst ys) → ¬ z = d s := fun e => ne_of e U4.sd.bk.dc (by intro z; cases z)
        have keep : ∀ {z : Addr} {ys : List V}, H4 z = some (.lst ys) → H6 z = some (.lst ys) := fun e => g6.lst (kd e) (gt5.lst (kt e) e)
        have T6 : Tbl H6 (t s) ((tt s).filter fun e => decide (e.1 ≠ k)) := ⟨g6.at_ _ _ (S4.adt s s).symm et5 (fun _ z => nomatch z), fun e he => keep (U4.sd.tbl.own e (List.mem_filter.mp he).1)⟩
        have sd6 : Sd13 C nm H6 (b s) (d s) (t s) ((tb s).filter fun e => decide (e.1 ≠ k)) ((tt s).filter fun e => decide (e.1 ≠ k)) (n s) := ⟨B6, U.sd.ok.take k, T6, by
          rw [nr_dropW, nr_dropW, U.sd.eq, List.filter_map]
          rfl, fun z hz => by
          obtain ⟨e, he, rfl⟩ := List.mem_map.mp hz
          exact U.sd.row _ (rws_mem (List.mem_filter.mp he).1)⟩
        have ups : ∀ {α : Type} (f : Bool → α), upB f s (f s) = f := fun f => by
          funext z
          unfold upB
          split
          · rename_i e; rw [e]
          · rfl
        have fl := List.length_filter_le (fun e : Int × Addr × List Str => decide (e.1 ≠ k)) (tt s)
        exact (q1.gr g14) H6 _ _ _ _ _ _ (S4.sqs s gx6) (S4.upd s gx6 sd6 (.inl rfl) (.inl rfl) (.inl rfl) (S4.adt s s) (by rw [ups]; exact keep S4.two.eb) (by rw [ups]; exact keep S4.two.et) (by rw [ups]; exact keep S4.ec) (fun e he => U.rb e (List.mem_filter.mp he).1) (fun e he => U.rt e (List.mem_filter.mp he).1) (Nat.le_succ m) (by omega) (by omega))
    obtain ⟨g2, rfl⟩ := hm
    have eRw2 := g2.lst eRw
    -- struck
    refine ⟨fun σ' H' => Gr H1 H' ∧ σ' = σ1, ?_, fun σ' H3 hm => ?_⟩
    · refine ⟨_, rfl, rfl, _, rfl, ?_⟩
      refine ite2 (fun _ => ?_) (fun _ => ⟨g2, rfl⟩)
      have S2 := S1.gr g2
      have U2 := S2.two.side s
      refine ⟨_, rfl, _, rfl, Lb, _, _, _, rfl, rfl, .inl (.inl S2.two.eb), at_sid s, b s, d s, tb s, n s, rfl, U2.sd.bk, _, rfl, b s, d s, tb s, n s, _, rfl, U2.sd.bk, U2.sd.ok, U2.tg, thx, .inl ⟨x, rfl, nmx, fun b' d' H3 tb' g3 NB => ?_⟩⟩
      obtain ⟨j, ej, ej2⟩ := upB_ref (f := b) s b'
      refine ⟨_, rfl, _, rfl, Lb, _, _, j, rfl, rfl, g3.lst S2.two.eb, ej, ?_⟩
      rw [ej2]
      obtain ⟨gx4, B4, e4⟩ := set_lb S2 g3 NB (.lst [V.ref (upB b s b' false), V.ref (upB b s b' true)])
      generalize upd H3 Lb (.lst [V.ref (upB b s b' false), V.ref (upB b s b' true)]) = H4 at gx4 B4 e4
      have eRw4 := gx4.lst (fun z => oRw (.inl z)) eRw2
      have et4 := gx4.lst (fun z => S1.nbt z.symm) S2.two.et
      have own4 : ∀ q ∈ (tt s).map fun e => (e.2.1, e.2.2), H4 q.1 = some (.lst (q.2.map V.str)) := fun q hq => gx4.lst (fun z => offT q hq (.inl z)) (g2.lst (L1.own q hq))
      refine ⟨_, rfl, _, rfl, _, rfl, _, rfl, Rw, rfl, ⟨_, .inl (.inl eRw4)⟩, fun D nD => lc_fresh3 (K := K) (ps0 := (tt s).map fun e => (e.2.1, e.2.2)) (fun m => m.filter fun y => decide (y ≠ x)) (.inl (.inl eRw4)) (small1000 (by rw [List.length_map]; omega)) nD (fun _ => rfl) (fun u0 hu0 H5 Q' g5 hq => ?_) (fun H5 rs4 g5 TD ed => ?_)⟩
      · have ou : SqL K H5 u0.1 (u0.2.map V.str) := .inl (.inl (g5.lst (own4 u0 hu0)))
        obtain ⟨eu0, hu1, e1⟩ := List.mem_map.mp hu0
        have ul : u0.2.length ≤ 5 := (U.sd.nmsR N5 u0.2 (by rw [← e1]; exact List.mem_map.mpr ⟨eu0, hu1, rfl⟩)).2
        refine ⟨_, rfl, u0.1, rfl, ⟨_, ou⟩, fun D2 nD2 => lc_filtT (K := K) (fun y => decide (y ≠ x)) ou (small1000 (by omega)) nD2 (fun _ => rfl) (fun _ => rfl) (fun y hy H5 Qb g5 hq2 => ?_) (fun H5 g5 e5 => hq D2 H5 g5 nD2 e5)⟩
        refine ⟨_, rfl, _, rfl, rfl, _, rfl, ?_⟩
        rw [ne_strB]
        exact hq2 _ (Gr.refl _)
      · have ed2 : rs4.map (·.2) = strike x (rws (tt s)) := by
          rw [ed]
          unfold strike rws
          rw [List.map_map, List.map_map]
          rfl
        have rl : rs4.length = (tt s).length := by
          have h1 := congrArg List.length ed
          rw [List.length_map, List.length_map, List.length_map] at h1
          exact h1
        have st : ∀ r ∈ strike x (rws (tt s)), r.Nodup ∧ ∀ y ∈ r, y ∈ nm := fun r hr => by
          obtain ⟨r0, h0, rfl⟩ := List.mem_map.mp hr
          exact ⟨(ndT r0 h0).sublist List.filter_sublist, fun y hy => (U.sd.row r0 h0).2 y (List.mem_filter.mp hy).1⟩
        show spAnew [V.ref Lt, V.ref Lc, V.int (sid s), V.ref D] H5 (fun _ H' => Q (.bl true) H') E0
        refine anew_end S2 s (q1.gr g2) NB (gx4.then g5) (B4.gr g5) (g5.lst e4) ⟨TD.at_, fun q hq => (TD.own q hq).2.2⟩ (ne_of_none et4 nD).symm (fun q hq => U2.hl.out (gx4.free (TD.own q hq).1)) (by
          rw [ed2, U.sd.rwsO, strike_once, map_srt_once]
          exact fun r hr => (st r hr).1) (by rw [ed2]; exact st) (by omega) h19 _ ?_
        exact fun H' h => h
    obtain ⟨g3, rfl⟩ := hm
    have eRw3 := g3.lst eRw
    clear eRw2 g2
    -- without
    refine ⟨fun σ' H' => Gr H1 H' ∧ σ' = σ1, ?_, fun σ' H2 hm => ?_⟩
    · refine ⟨_, rfl, rfl, _, rfl, ?_⟩
      refine ite2 (fun _ => ?_) (fun _ => ⟨g3, rfl⟩)
      have S2 := S1.gr g3
      have U2 := S2.two.side s
      refine ⟨_, rfl, _, rfl, Lb, _, _, _, rfl, rfl, .inl (.inl S2.two.eb), at_sid s, b s, d s, tb s, n s, rfl, U2.sd.bk, _, rfl, b s, d s, tb s, n s, _, rfl, U2.sd.bk, U2.sd.ok, U2.tg, thx, .inl ⟨x, rfl, nmx, fun b' d' H3 tb' g4 NB => ?_⟩⟩
      obtain ⟨j, ej, ej2⟩ := upB_ref (f := b) s b'
      refine ⟨_, rfl, _, rfl, Lb, _, _, j, rfl, rfl, g4.lst S2.two.eb, ej, ?_⟩
      rw [ej2]
      obtain ⟨gx4, B4, e4⟩ := set_lb S2 g4 NB (.lst [V.ref (upB b s b' false), V.ref (upB b s b' true)])
      generalize upd H3 Lb (.lst [V.ref (upB b s b' false), V.ref (upB b s b' true)]) = H4 at gx4 B4 e4
      have eRw4 := gx4.lst (fun z => oRw (.inl z)) eRw3
      have et4 := gx4.lst (fun z => S1.nbt z.symm) S2.two.et
      have own4 : ∀ q ∈ (tt s).map fun e => (e.2.1, e.2.2), H4 q.1 = some (.lst (q.2.map V.str)) := fun q hq => gx4.lst (fun z => offT q hq (.inl z)) (g3.lst (L1.own q hq))
      refine ⟨_, rfl, _, rfl, _, rfl, _, rfl, Rw, rfl, ⟨_, .inl (.inl eRw4)⟩, fun D nD => lc_filtL (K := K) (ps := (tt s).map fun e => (e.2.1, e.2.2)) (fun q => !q.2.contains x) (.inl (.inl eRw4)) (small1000 (by rw [List.length_map]; omega)) nD (fun _ => rfl) (fun _ => rfl) (fun u0 hu0 H5 Qb g5 hq => ?_) (fun H5 g5 e5 => ?_)⟩
      · refine ⟨_, rfl, _, rfl, u0.1, _, rfl, .inl (.inl (.inl (g5.lst (own4 u0 hu0)))), rfl, flat_str _, _, rfl, ?_⟩
        rw [inV_str, if_pos rfl]
        exact hq _ (Gr.refl _)
      · have fl := List.length_filter_le (fun q : Addr × List Str => !q.2.contains x) ((tt s).map fun e => (e.2.1, e.2.2))
        rw [List.length_map] at fl
        have ed2 : (((tt s).map fun e => (e.2.1, e.2.2)).filter fun q : Addr × List Str => !q.2.contains x).map (·.2) = away x (rws (tt s)) := by
          unfold away
          rw [← tb_rows2 (tt s)]
          have gen : ∀ l : List (Addr × List Str), (l.filter fun q => !q.2.contains x).map (·.2) = (l.map (·.2)).filter fun r => !r.contains x := fun l => by
            rw [List.filter_map]
            rfl
          exact gen _
        show spAnew [V.ref Lt, V.ref Lc, V.int (sid s), V.ref D] H5 (fun _ H' => Q (.bl true) H') E0
        refine anew_end S2 s (q1.gr g3) NB (gx4.then g5) (B4.gr g5) (g5.lst e4) ⟨e5, fun q hq => g5.lst (own4 q (List.mem_filter.mp hq).1)⟩ (ne_of_none et4 nD).symm (fun q hq => offT q (List.mem_filter.mp hq).1) (by
          rw [ed2, U.sd.rwsO, away_once, map_srt_once]
          exact fun r hr => ndT r (away_mem.mp hr).1) (by rw [ed2]; exact fun r hr => U.sd.row r (away_mem.mp hr).1) (by omega) h19 _ ?_
        exact fun H' h => h
    obtain ⟨g2, rfl⟩ := hm
    clear eRw3 g3
    have S2 := S1.gr g2
    have W := S2.two.side (!s)
    have feww := S1.len (!s)
    refine rows_tgs (te := tOp (rIxL K) (tVar 1) (tOp (rI0 fun i j => V.int (i - j)) (tC (V.int 1)) (tVar 5))) (K := K) (j := 10) (o := 13) (t := t (!s)) W.sd.tbl W.sd.pw (by omega) (fun Q' hq => ?_) (fun v H' Q' g hq => ?_) (fun Ot H3 g3 nOt eOt => ?_)
    · exact ⟨_, rfl, _, rfl, _, _, rfl, rfl, Lt, _, _, _, rfl, rfl, .inl (.inl S2.two.et), (by rw [sid_not]; exact at_sid (!s)), hq⟩
    · exact ⟨_, rfl, _, rfl, _, _, rfl, rfl, Lt, _, _, _, rfl, rfl, .inl (.inl (g.lst S2.two.et)), (by rw [sid_not]; exact at_sid (!s)), hq⟩
    rw [tb_refs] at eOt
    have oOt : ¬ hid Lb Lt Lc L Ot := W.hl.out nOt
    have g13 := g2.trans g3
    clear S2 W
    have S3 := S1.gr g13
    have U3 := S3.two.side s
    have W3 := S3.two.side (!s)
    have eRw3 := g13.lst eRw
    let σ2 : L2.St := [some (.ref Lb), some (.ref Lt), some (.ref Lc), some (.ref a), some (.int cell), some (.int (sid s)), some (.int (cell / 18)), some (.str x), some (.ref Rw), some (.int way), none, none, none, some (.ref Ot)]
    -- joined
    refine ⟨fun σ' H' => Gr H1 H' ∧ σ' = σ2, ?_, fun σ' H4 hm => ?_⟩
    · refine ⟨_, rfl, rfl, _, rfl, ?_⟩
      refine ite2 (fun _ => ?_) (fun _ => iteF ⟨g13, rfl⟩)
      refine ⟨_, rfl, Rw, _, rfl, .inl (.inl (.inl eRw3)), _, rfl, Ot, _, rfl, .inl (.inl (.inl eOt)), _, _, rfl, rfl, _, _, rfl, rfl, _, rfl, ?_⟩
      rw [List.length_map, List.length_map, List.length_map, List.length_map]
      by_cases small : (tt s).length + (tt (!s)).length < 9
      case neg =>
        rw [decide_eq_false (by omega)]
        exact iteF ⟨g13, rfl⟩
      rw [decide_eq_true (by omega)]
      refine iteT ?_
      have r1 := rws_len (tt s)
      have r2 := rws_len (tt (!s))
      have J1 : RowsOk (rws (tb s) ++ rws (tb (!s))) := rowsOk5 N5 (fun r hr => (List.mem_append.mp hr).elim (U3.sd.rowB r) (W3.sd.rowB r)) (by rw [List.length_append, U3.sd.rws, W3.sd.rws, List.length_map, List.length_map, r1, r2]; omega)
      refine ⟨_, rfl, _, rfl, Lb, _, _, _, rfl, rfl, .inl (.inl S3.two.eb), at_sid s, b s, d s, tb s, n s, rfl, U3.sd.bk, _, rfl, _, rfl, _, _, rfl, rfl, Lb, _, _, _, rfl, rfl, .inl (.inl S3.two.eb), (by rw [sid_not]; exact at_sid (!s)), b s, d s, tb s, n s, b (!s), d (!s), tb (!s), n (!s), rfl, U3.sd.bk, U3.sd.ok, W3.sd.bk, W3.sd.ok, U3.tg, .inl ⟨J1, fun b' d' H4 tb' g4 NB => ?_⟩⟩
      obtain ⟨j, ej, ej2⟩ := upB_ref (f := b) s b'
      refine ⟨_, rfl, _, rfl, Lb, _, _, j, rfl, rfl, g4.lst S3.two.eb, ej, ?_⟩
      rw [ej2]
      obtain ⟨gx5, B5, e5⟩ := set_lb S3 g4 NB (.lst [V.ref (upB b s b' false), V.ref (upB b s b' true)])
      generalize upd H4 Lb (.lst [V.ref (upB b s b' false), V.ref (upB b s b' true)]) = H5 at gx5 B5 e5
      have eRw5 := gx5.lst (fun z => oRw (.inl z)) eRw3
      have eOt5 := gx5.lst (fun z => oOt (.inl z)) eOt
      have et5 := gx5.lst (fun z => S1.nbt z.symm) S3.two.et
      refine ⟨_, rfl, _, rfl, _, rfl, _, rfl, _, rfl, Rw, Ot, _, _, rfl, rfl, eRw5, eOt5, by rw [List.length_map, List.length_map, List.length_map, List.length_map]; exact Nat.le_of_lt (small1000 (by omega)), fun Cc nC => ?_⟩
      rw [← List.map_append]
      have g6 : Gr H5 (upd H5 Cc (.lst ((((tt s).map fun e => (e.2.1, e.2.2)) ++ (tt (!s)).map fun e => (e.2.1, e.2.2)).map fun q : Addr × List Str => V.ref q.1))) := Gr.new nC
      have e6 : (upd H5 Cc (.lst ((((tt s).map fun e => (e.2.1, e.2.2)) ++ (tt (!s)).map fun e => (e.2.1, e.2.2)).map fun q : Addr × List Str => V.ref q.1))) Cc = some (.lst ((((tt s).map fun e => (e.2.1, e.2.2)) ++ (tt (!s)).map fun e => (e.2.1, e.2.2)).map fun q : Addr × List Str => V.ref q.1)) := upd_same
      generalize upd H5 Cc (.lst ((((tt s).map fun e => (e.2.1, e.2.2)) ++ (tt (!s)).map fun e => (e.2.1, e.2.2)).map fun q : Addr × List Str => V.ref q.1)) = H6 at g6 e6
      have both : ∀ q ∈ (((tt s).map fun e => (e.2.1, e.2.2)) ++ (tt (!s)).map fun e => (e.2.1, e.2.2)), ¬ hid Lb Lt Lc L q.1 ∧ H3 q.1 = some (.lst (q.2.map V.str)) := fun q hq => by
        rcases List.mem_append.mp hq with hq | hq
        · obtain ⟨e, he, rfl⟩ := List.mem_map.mp hq
          exact ⟨U3.rt e he, U3.sd.tbl.own e he⟩
        · obtain ⟨e, he, rfl⟩ := List.mem_map.mp hq
          exact ⟨W3.rt e he, W3.sd.tbl.own e he⟩
      show spAnew [V.ref Lt, V.ref Lc, V.int (sid s), V.ref Cc] H6 (fun _ H' => Q (.bl true) H') E0
      refine anew_end S3 s (q1.gr g13) NB (gx5.then g6) (B5.gr g6) (g6.lst e5) ⟨e6, fun q hq => g6.lst (gx5.lst (fun z => (both q hq).1 (.inl z)) (both q hq).2)⟩ (ne_of_none et5 nC).symm (fun q hq => (both q hq).1) (by
        rw [List.map_append, List.map_append (f := (fun x : Addr × List Str => x.2)), tb_rows2, tb_rows2, List.map_append, U3.sd.onceB, W3.sd.onceB]) (by
        rw [List.map_append, tb_rows2, tb_rows2]
        exact fun r hr => (List.mem_append.mp hr).elim (U3.sd.row r) (W3.sd.row r)) (by rw [List.length_append, List.length_map, List.length_map]; omega) h19 _ ?_
      exact fun H' h => h
    obtain ⟨g4, rfl⟩ := hm
    -- put
    have S4 := S1.gr g4
    have U4 := S4.two.side s
    refine ⟨_, rfl, _, rfl, _, rfl, _, rfl, _, rfl, _, rfl, a, _, nm, rfl, U4.at_, N5.ne, N5.nd, N5.nms, by omega, fun r H5 ys g5 nr5 er5 ynd yin ylen => ?_⟩
    exact ⟨Lb, Lt, Lc, L, a, r, b, d, t, tb, tt, n, hs, m, nm, ys, s, rfl, S4.gr g5, h19, er5, U4.hl.out nr5, ynd, yin, q1.gr (g4.trans g5)⟩
end
end K1
end
section
set_option maxHeartbeats 8000000
namespace K1
open PySem PySem.Spec PyProof.Rows L2 Gr GxR Srx Skx Dcx
theorem cut5 (xs : List Str) : cutV (xs.map V.str) none (some 5) = (xs.take 5).map V.str := by
  unfold cutV
  rw [HT.sIx_none, List.drop_zero, show (some (5 : Int)) = some ((5 : Nat) : Int) from rfl, HT.sIx_nat, Nat.sub_zero, List.map_take, List.length_map]
  by_cases h : 5 ≤ xs.length
  · rw [Nat.min_eq_left h]
  · rw [Nat.min_eq_right (by omega), List.take_of_length_le (by rw [List.length_map]; omega), List.take_of_length_le (by rw [List.length_map]; omega)]
theorem cut_ints28 (ns : List Int) : ∃ zs : List Int, cutV (ns.map V.int) (some 2) (some 8) = zs.map V.int ∧ zs.length ≤ 6 := by
  refine ⟨(ns.take (min 8 ns.length)).drop (min 2 ns.length) |>.take 6, ?_, by rw [List.length_take]; omega⟩
  unfold cutV
  rw [show (some (2 : Int)) = some ((2 : Nat) : Int) from rfl, show (some (8 : Int)) = some ((8 : Nat) : Int) from rfl, HT.sIx_nat, HT.sIx_nat, List.length_map, ← List.map_drop, ← List.map_take]
  congr 1
  rw [List.drop_take, List.take_take]
  by_cases h : 8 ≤ ns.length
  · rw [Nat.min_eq_left h, Nat.min_eq_left (by omega : 2 ≤ ns.length)]
    rfl
  · rw [Nat.min_eq_right (by omega : ns.length ≤ 8)]
    congr 1
    omega
section
variable {P : Program} {w : World} {K : PySem.W.Frag} {mg : Str → Option Value} {base : Heap} {f C M : Addr} {fd : FuncData} {N : TabN} {R : ErN}
structure E13m (P : Program) (w : World) (K : PySem.W.Frag) (mg : Str → Option Value) (base : Heap) (C : Addr) (N : TabN) (R : ErN) : Prop where
  bc : BkC K mg C
  mkb : MkB P w K mg base C
  lnames : Calls P w K mg base CX0 2 "_law_names" (spNames K)
  deed : Calls P w K mg base CX0 8 "_law_deed" (spDeed K C N)
  allr : Calls P w K mg base CX0 12 "_law_all_right" (spAllR K C N)
  gA : mg "all" = none
abbrev nLaw13 : List Str := ["_law_script", "_law_names_here", "_law_books", "_law_tables", "_law_counts", "_law_held", "_law_cell", "_law_found", "_law_due"]
theorem scLaw13 : FnScope nLaw13 ["_law_script"] (defScope s_law_x) := ⟨rfl, rfl, rfl, by decide +kernel, rfl, by decide +kernel, by decide +kernel⟩
theorem ok_law13 (F : FnP K "law" s_law_x f fd) (G : E13m P w K mg base C N R) : FnOk P w K mg base CX0 13 f fd ["_law_script"] (spLawG K N) := by
  have g_all := G.gA
  refine F.ok scLaw13 (fun vs H Q E h => ?_) (fun cdv A outer s H vs Q E hr h => ?_)
  · obtain ⟨a, ns, rfl, _⟩ := h
    rfl
  · obtain ⟨a, ns, rfl, hS, hN, q⟩ := h
    refine ⟨_, PSs.nox (pss_cons (ps_set (i := 1) scLaw13.nd rfl (.inl rfl) (pe_slice sl_list (pe_k G.lnames hr (by decide) (by rfl) (pa_cons (pv 0) pa_nil)) po_none (po_some pe_int))) (pss_cons (ps_set (i := 2) scLaw13.nd rfl (.inl rfl) (pe_lst (pa_cons (pe_new G.mkb G.bc hr (by decide) (by rfl)) (pa_cons (pe_new G.mkb G.bc hr (by decide) (by rfl)) pa_nil)))) (pss_cons (ps_set (i := 3) scLaw13.nd rfl (.inl rfl) (pe_lst (pa_cons pe_dnewK (pa_cons pe_dnewK pa_nil)))) (pss_cons (ps_set (i := 4) scLaw13.nd rfl (.inl rfl) (pe_lst (pa_cons pe_int (pa_cons pe_int pa_nil)))) (pss_cons (ps_set (i := 5) scLaw13.nd rfl (.inl rfl) (pe_lst pa_nil)) (pss_cons (ps_for PassesOwn.never rfl (pi_list (pe_slice sl_list (pv 0) (po_some pe_int) (po_some pe_int))) (pg_name (i := 6) scLaw13.nd rfl (.inl rfl)) (pss_cons (ps_if (pt_not (pt_val (pe_k G.deed hr (by decide) (by rfl) (pa_cons (pv 2) (pa_cons (pv 3) (pa_cons (pv 4) (pa_cons (pv 1) (pa_cons (pv 6) pa_nil)))))))) (pss_one (ps_ret pe_bl)) (pss_nil)) (pss_one (ps_if (pt_not (pt_val (pe_k G.allr hr (by decide) (by rfl) (pa_cons (pv 2) (pa_cons (pv 3) (pa_cons (pv 1) (pa_cons (pv 5) (pa_cons (pv 6) pa_nil)))))))) (pss_one (ps_ret pe_bl)) (pss_nil))))) (pss_one (ps_ret (pe_callB (cr_all rfl) (by rfl) g_all (by decide +kernel) (pa_cons (pe_lc (own := [("_law_found", 7), ("_law_due", 8)]) (g := gTup K 2 (gCons (gName 7) (gCons (gName 8) gNil))) (tt := tYes) rfl scLaw13.nd (pi_list (pv 5)) (blkOk_by (N := nLaw13) (sc := defScope s_law_x) (by decide +kernel)) (fun _ _ _ _ _ => (pg_tup rfl (pgs_cons (pg_name (i := 7) scLaw13.nd rfl (.inl rfl)) (pgs_cons (pg_name (i := 8) scLaw13.nd rfl (.inl rfl)) pgs_nil)))) (fun _ _ _ _ _ => pts_nil) (fun _ _ _ _ _ => (pe_cmpR (r := rEqD K) (op_eqD (hu64 hr)) (pv 7) (pv 8) (nomark _)))) pa_nil)))))))))), ?_⟩
    have two : 2 ≤ sizeLine := by rw [sizeLine_eq]; omega
    refine ⟨_, rfl, a, ns, rfl, hS, fun Nn H1 g1 nN eN => ?_⟩
    obtain ⟨nms0, nnd0, nne0, nlen0⟩ := names_ok (ns.getD 0 0)
    generalize names (ns.getD 0 0) = nm0 at nms0 nnd0 nne0 nlen0 eN
    refine ⟨_, rfl, Nn, _, rfl, .inl (.inl eN), fun Nm nNm => ?_⟩
    rw [cut5]
    have g2 : Gr H1 (upd H1 Nm (.lst ((nm0.take 5).map V.str))) := Gr.new nNm
    have eNm : (upd H1 Nm (.lst ((nm0.take 5).map V.str))) Nm = some (.lst ((nm0.take 5).map V.str)) := upd_same
    generalize upd H1 Nm (.lst ((nm0.take 5).map V.str)) = H2 at g2 eNm
    have ne5 : nm0.take 5 ≠ [] := fun e => nne0 (by
      cases nm0 with
      | nil => rfl
      | cons y r => cases e)
    have N5 : Nm5 (nm0.take 5) := ⟨fun y hy => nms0 y (List.mem_of_mem_take hy), nnd0.sublist (List.take_sublist _ _), ne5, by rw [List.length_take]; omega⟩
    generalize nm0.take 5 = nm at eNm N5
    intro b0 d0 H3 g3 nb0 nd0 B0 b1 d1 H4 g4 nb1 nd1 B1
    refine ⟨two, fun Bs nBs => ?_⟩
    have g5 : Gr H4 (upd H4 Bs (.lst [.ref b0, .ref b1])) := Gr.new nBs
    have eBs : (upd H4 Bs (.lst [.ref b0, .ref b1])) Bs = some (.lst [.ref b0, .ref b1]) := upd_same
    generalize upd H4 Bs (.lst [.ref b0, .ref b1]) = H5 at g5 eBs
    intro t0 nt0
    have g6 : Gr H5 (upd H5 t0 (.dK [])) := Gr.new nt0
    have et0 : (upd H5 t0 (.dK [])) t0 = some (.dK []) := upd_same
    generalize upd H5 t0 (.dK []) = H6 at g6 et0
    intro t1 nt1
    have g7 : Gr H6 (upd H6 t1 (.dK [])) := Gr.new nt1
    have et1 : (upd H6 t1 (.dK [])) t1 = some (.dK []) := upd_same
    generalize upd H6 t1 (.dK []) = H7 at g7 et1
    refine ⟨two, fun Ts nTs => ?_⟩
    have g8 : Gr H7 (upd H7 Ts (.lst [.ref t0, .ref t1])) := Gr.new nTs
    have eTs : (upd H7 Ts (.lst [.ref t0, .ref t1])) Ts = some (.lst [.ref t0, .ref t1]) := upd_same
    generalize upd H7 Ts (.lst [.ref t0, .ref t1]) = H8 at g8 eTs
    refine ⟨two, fun Cs nCs => ?_⟩
    have g9 : Gr H8 (upd H8 Cs (.lst [.int 0, .int 0])) := Gr.new nCs
    have eCs : (upd H8 Cs (.lst [.int 0, .int 0])) Cs = some (.lst [.int 0, .int 0]) := upd_same
    generalize upd H8 Cs (.lst [.int 0, .int 0]) = H9 at g9 eCs
    refine ⟨Nat.zero_le _, fun He nHe => ?_⟩
    have g10 : Gr H9 (upd H9 He (.lst [])) := Gr.new nHe
    have eHe : (upd H9 He (.lst [])) He = some (.lst []) := upd_same
    generalize upd H9 He (.lst []) = HA at g10 eHe
    have k8 : Gr H8 HA := g9.trans g10
    have k7 : Gr H7 HA := g8.trans k8
    have k6 : Gr H6 HA := g7.trans k7
    have k5 : Gr H5 HA := g6.trans k6
    have k4 : Gr H4 HA := g5.trans k5
    have k3 : Gr H3 HA := g4.trans k4
    have k2 : Gr H2 HA := g3.trans k3
    have k0 : Gr H HA := (g1.trans g2).trans k2
    have kB : Gr H5 H8 := (g6.trans g7).trans g8
    have cBT : Bs ≠ Ts := ne_of_none (((g6.trans g7)).lst eBs) nTs
    have cBC : Bs ≠ Cs := ne_of_none (kB.lst eBs) nCs
    have cTC : Ts ≠ Cs := ne_of_none eTs nCs
    have cBL : Bs ≠ He := ne_of_none ((kB.trans g9).lst eBs) nHe
    have cTL : Ts ≠ He := ne_of_none (g9.lst eTs) nHe
    have cCL : Cs ≠ He := ne_of_none eCs nHe
    have eNmA := k2.lst eNm
    have nmB : Nm ≠ Bs := ne_of_none ((g3.trans g4).lst eNm) nBs
    have k25 := (g3.trans g4).trans g5
    have nmT : Nm ≠ Ts := ne_of_none ((k25.trans (g6.trans g7)).lst eNm) nTs
    have nmC : Nm ≠ Cs := ne_of_none ((k25.trans kB).lst eNm) nCs
    have nmL : Nm ≠ He := ne_of_none (((k25.trans kB).trans g9).lst eNm) nHe
    have A0 : Sd13 C nm HA b0 d0 t0 [] [] 0 := ⟨B0.gr k3, Tok.nil, ⟨k6.at_ _ _ et0 (fun _ z => nomatch z), fun _ z => absurd z List.not_mem_nil⟩, rfl, fun _ z => absurd z List.not_mem_nil⟩
    have A1 : Sd13 C nm HA b1 d1 t1 [] [] 0 := ⟨B1.gr k4, Tok.nil, ⟨k7.at_ _ _ et1 (fun _ z => nomatch z), fun _ z => absurd z List.not_mem_nil⟩, rfl, fun _ z => absurd z List.not_mem_nil⟩
    have bb : b0 ≠ b1 := let ⟨_, e⟩ := B0.ob; ne_of_none e nb1
    have dd : d0 ≠ d1 := ne_of_none B0.dc nd1
    have tt01 : t0 ≠ t1 := ne_of_none et0 nt1
    have d0t0 : d0 ≠ t0 := ne_of_none (B0.gr (g4.trans g5)).dc nt0
    have d0t1 : d0 ≠ t1 := ne_of_none (B0.gr ((g4.trans g5).trans g6)).dc nt1
    have d1t0 : d1 ≠ t0 := ne_of_none (B1.gr g5).dc nt0
    have d1t1 : d1 ≠ t1 := ne_of_none (B1.gr (g5.trans g6)).dc nt1
    have hl0 : HeldL K (hid Bs Ts Cs He) HA He [] := ⟨by
      rintro z (rfl | rfl | rfl | rfl)
      · exact ⟨_, k5.lst eBs⟩
      · exact ⟨_, k8.lst eTs⟩
      · exact ⟨_, g10.lst eCs⟩
      · exact ⟨_, eHe⟩, .inr (.inr (.inr rfl)), eHe, fun _ z => absurd z List.not_mem_nil⟩
    have oNm : ¬ hid Bs Ts Cs He Nm := by
      rintro (z | z | z | z)
      · exact nmB z
      · exact nmT z
      · exact nmC z
      · exact nmL z
    have F0 : Full13 K C N nm HA Bs Ts Cs He Nm (fun s => if s then b1 else b0) (fun s => if s then d1 else d0) (fun s => if s then t1 else t0) (fun _ => []) (fun _ => []) (fun _ => 0) [] 8 := by
      refine ⟨⟨fun s => ?_, k5.lst eBs, k8.lst eTs, cBL, cTL⟩, g10.lst eCs, cBT, cBC, cTC, cCL, ?_, ?_, ?_, ?_, fun _ => Nat.zero_le _⟩
      · cases s
        · exact ⟨A0, hN.gr k0, .inl (.inl eNmA), oNm, N5, Nat.zero_le _, fun _ z => absurd z List.not_mem_nil, fun _ z => absurd z List.not_mem_nil, hl0⟩
        · exact ⟨A1, hN.gr k0, .inl (.inl eNmA), oNm, N5, Nat.zero_le _, fun _ z => absurd z List.not_mem_nil, fun _ z => absurd z List.not_mem_nil, hl0⟩
      · intro s; cases s; exact bb.symm; exact bb
      · intro s; cases s; exact dd.symm; exact dd
      · intro s; cases s; exact tt01.symm; exact tt01
      · intro s s'; cases s <;> cases s'; exact d0t0; exact d0t1; exact d1t0; exact d1t1
    refine ⟨_, rfl, _, rfl, _, rfl, a, _, rfl, k0.seq hS, fun Sl nSl => ?_⟩
    obtain ⟨zs, ez, lz⟩ := cut_ints28 ns
    rw [ez]
    have gS : Gr HA (upd HA Sl (.lst (zs.map V.int))) := Gr.new nSl
    have eSl : (upd HA Sl (.lst (zs.map V.int))) Sl = some (.lst (zs.map V.int)) := upd_same
    generalize upd HA Sl (.lst (zs.map V.int)) = HB at gS eSl
    have oSl : ¬ hid Bs Ts Cs He Sl := hl0.out nSl
    have F1 := F0.gr gS
    refine ⟨Sl, rfl, ⟨_, .inl (.inl eSl)⟩, for_list (K := K) (xs := zs.map V.int) (fun i σ H' => ∃ b d t tb tt n hs v6, Full13 K C N nm H' Bs Ts Cs He Nm b d t tb tt n hs (8 + i) ∧ hs.length ≤ 100 * i ∧ H' Sl = some (.lst (zs.map V.int)) ∧ σ = [some (.ref a), some (.ref Nm), some (.ref Bs), some (.ref Ts), some (.ref Cs), some (.ref He), v6, none, none])
      ⟨_, _, _, _, _, _, _, none, F1, Nat.le_refl _, eSl, rfl⟩ (fun i σ H' _ h => ?_) (fun i x σ H' hx h => ?_) (fun σ H' h => ?_)⟩
    · obtain ⟨_, _, _, _, _, _, _, _, _, _, e, _⟩ := h
      exact .inl (.inl e)
    · obtain ⟨b, d, t, tb, tt, n, hs, v6, S, hl, eS, rfl⟩ := h
      obtain ⟨cell, hc, rfl⟩ := get_map hx
      have hi : i < zs.length := (List.getElem?_eq_some_iff.mp hc).1
      refine ⟨_, rfl, _, rfl, _, rfl, _, rfl, _, rfl, Bs, Ts, Cs, He, Nm, b, d, t, tb, tt, n, hs, 8 + i, nm, cell, rfl, S, by omega, by omega, fun H2 b d t tb tt n sq S2 => ⟨_, rfl, iteF ?_⟩⟩
      have eS2 : H2 Sl = some (.lst (zs.map V.int)) := by
        have h1 := sq.lst (a := Sl) (xs := zs.map V.int) (by rw [hide_in oSl]; exact eS)
        rwa [hide_in oSl] at h1
      refine ⟨_, rfl, _, rfl, _, rfl, _, rfl, _, rfl, nm, _, Bs, Ts, He, Nm, b, d, t, tb, tt, n, cell, hs, rfl, S2.two, by omega, fun H3 hs3 gx hl3 le3 => ⟨_, rfl, iteF ?_⟩⟩
      exact ⟨b, d, t, tb, tt, n, hs3, _, S2.keep gx hl3, by omega, gx.lst (fun z => oSl (by rw [z]; exact hl0.mem)) eS2, rfl⟩
    · obtain ⟨b, d, t, tb, tt, n, hs, v6, S, hl, eS, rfl⟩ := h
      have HD := (S.two.side false).hl
      rw [List.length_map] at hl
      refine ⟨_, rfl, He, rfl, ⟨_, .inl (.inl HD.at_)⟩, fun D nD => ?_⟩
      refine lc_list (K := K) (xs := hs.map fun h : HelD => V.ref h.p) (fun i Hx => Gr H' Hx ∧ Hx D = some (.lst ((List.replicate i true).map V.bl))) ⟨Gr.new nD, upd_same⟩ (fun i Hx _ h => .inl (.inl (h.1.lst HD.at_))) (fun i x Hx hx h => ?_) (fun Hx h => ?_)
      · obtain ⟨gx, eD⟩ := h
        obtain ⟨h0, hh0, rfl⟩ := get_map hx
        have hi : i < hs.length := (List.getElem?_eq_some_iff.mp hh0).1
        obtain ⟨e1, e2, e3, e4⟩ := HD.own h0 (List.mem_of_getElem? hh0)
        have gu := (gr_unhide (hid Bs Ts Cs He) H').trans gx
        refine ⟨h0.p, _, rfl, .inl (.inl (gu.tup e1)), rfl, _, _, rfl, _, _, rfl, rfl, rfl, yesIf ?_⟩
        refine ⟨_, rfl, _, rfl, h0.d, h0.d, gu.dp e2, gu.dp e3, e4, e4, _, eD, ?_, gx.mut nD, ?_⟩
        · rw [List.length_map, List.length_replicate]
          exact small1000 (by omega)
        · rw [shaped_refl e4, upd_same, List.replicate_succ', List.map_append]
          rfl
      · obtain ⟨gx, eD⟩ := h
        refine ⟨D, _, rfl, .inl (.inl eD), ?_⟩
        rw [show (List.replicate _ true).all id = true from by rw [List.all_replicate]; simp]
        exact q Hx
end
end K1
end
section
set_option maxHeartbeats 0
namespace K1
open PySem PySem.Spec PyProof.Rows L2 GxR Gr
def fn : List He.DefD := [
  ⟨("is_name", none), "is_name", "is_name", defArgs sIsName, defBody sIsName, defScope sIsName, [], []⟩,
  ⟨("_once_each", none), "_once_each", "_once_each", defArgs sOnce, defBody sOnce, defScope sOnce, [], []⟩,
  ⟨("within", none), "within", "within", defArgs sWithin, defBody sWithin, defScope sWithin, [], []⟩,
  ⟨("meets", none), "meets", "meets", defArgs sMeets, defBody sMeets, defScope sMeets, [], []⟩,
  ⟨("_rank", none), "_rank", "_rank", defArgs sRank, defBody sRank, defScope sRank, [], []⟩,
  ⟨("ranked", none), "ranked", "ranked", defArgs sRanked, defBody sRanked, defScope sRanked, [], []⟩,
  ⟨("least_of", none), "least_of", "least_of", defArgs sLeast, defBody sLeast, defScope sLeast, [], []⟩,
  ⟨("rising", none), "rising", "rising", defArgs sRising, defBody sRising, defScope sRising, [], []⟩,
  ⟨("names_from", none), "names_from", "names_from", defArgs s_names_from, defBody s_names_from, defScope s_names_from, [], []⟩,
  ⟨("row_from", none), "row_from", "row_from", defArgs s_row_from, defBody s_row_from, defScope s_row_from, [], []⟩,
  ⟨("grown", none), "grown", "grown", defArgs s_grown, defBody s_grown, defScope s_grown, [], []⟩,
  ⟨("_law_draw", none), "_law_draw", "_law_draw", defArgs sDraw, defBody sDraw, defScope sDraw, [], []⟩,
  ⟨("_law_names", none), "_law_names", "_law_names", defArgs sNames, defBody sNames, defScope sNames, [], []⟩,
  ⟨("_law_row", none), "_law_row", "_law_row", defArgs sRow, defBody sRow, defScope sRow, [], []⟩,
  ⟨("_law_meets", none), "_law_meets", "_law_meets", defArgs sLMeets, defBody sLMeets, defScope sLMeets, [], []⟩,
  ⟨("_law_meets_all", none), "_law_meets_all", "_law_meets_all", defArgs sLAll, defBody sLAll, defScope sLAll, [], []⟩,
  ⟨("_law_within", none), "_law_within", "_law_within", defArgs sLWithin, defBody sLWithin, defScope sLWithin, [], []⟩,
  ⟨("_law_sets", none), "_law_sets", "_law_sets", defArgs sSets, defBody sSets, defScope sSets, [], []⟩,
  ⟨("_law_box", none), "_law_box", "_law_box", defArgs s_law_box, defBody s_law_box, defScope s_law_box, [], []⟩,
  ⟨("_law_ranked", none), "_law_ranked", "_law_ranked", defArgs s_law_ranked, defBody s_law_ranked, defScope s_law_ranked, [], []⟩,
  ⟨("_law_least", none), "_law_least", "_law_least", defArgs s_law_least, defBody s_law_least, defScope s_law_least, [], []⟩,
  ⟨("name_from", none), "name_from", "name_from", defArgs s_name_from, defBody s_name_from, defScope s_name_from, [], []⟩,
  ⟨("Book", some "__init__"), "__init__", "Book.__init__", defArgs m_init, defBody m_init, defScope m_init, [], []⟩,
  ⟨("Book", some "_sets"), "_sets", "Book._sets", defArgs m_sets, defBody m_sets, defScope m_sets, [], []⟩,
  ⟨("Book", some "names"), "names", "Book.names", defArgs m_names, defBody m_names, defScope m_names, [], []⟩,
  ⟨("Book", some "put"), "put", "Book.put", defArgs m_put, defBody m_put, defScope m_put, [], []⟩,
  ⟨("Book", some "take"), "take", "Book.take", defArgs m_take, defBody m_take, defScope m_take, [], []⟩,
  ⟨("Book", some "rows"), "rows", "Book.rows", defArgs m_rows, defBody m_rows, defScope m_rows, [], []⟩,
  ⟨("Book", some "least_rows"), "least_rows", "Book.least_rows", defArgs m_least_rows, defBody m_least_rows, defScope m_least_rows, [], []⟩,
  ⟨("Book", some "least"), "least", "Book.least", defArgs m_least, defBody m_least, defScope m_least, [], []⟩,
  ⟨("Book", some "fewest"), "fewest", "Book.fewest", defArgs m_fewest, defBody m_fewest, defScope m_fewest, [], []⟩,
  ⟨("Book", some "_met_by"), "_met_by", "Book._met_by", defArgs m_met_by, defBody m_met_by, defScope m_met_by, [], []⟩,
  ⟨("Book", some "meets"), "meets", "Book.meets", defArgs m_meets, defBody m_meets, defScope m_meets, [], []⟩,
  ⟨("Book", some "_meeting"), "_meeting", "Book._meeting", defArgs m_meeting, defBody m_meeting, defScope m_meeting, [], []⟩,
  ⟨("_book_of", none), "_book_of", "_book_of", defArgs s_book_of, defBody s_book_of, defScope s_book_of, [], []⟩,
  ⟨("Book", some "struck"), "struck", "Book.struck", defArgs m_struck, defBody m_struck, defScope m_struck, [], []⟩,
  ⟨("Book", some "without"), "without", "Book.without", defArgs m_without, defBody m_without, defScope m_without, [], []⟩,
  ⟨("Book", some "joined"), "joined", "Book.joined", defArgs m_joined, defBody m_joined, defScope m_joined, [], []⟩,
  ⟨("Book", some "crossed"), "crossed", "Book.crossed", defArgs m_crossed, defBody m_crossed, defScope m_crossed, [], []⟩,
  ⟨("Book", some "pared"), "pared", "Book.pared", defArgs m_pared, defBody m_pared, defScope m_pared, [], []⟩,
  ⟨("Book", some "_first_own"), "_first_own", "Book._first_own", defArgs m_first_own, defBody m_first_own, defScope m_first_own, [], []⟩,
  ⟨("Book", some "own"), "own", "Book.own", defArgs m_own, defBody m_own, defScope m_own, [], []⟩,
  ⟨("Book", some "needed"), "needed", "Book.needed", defArgs m_needed, defBody m_needed, defScope m_needed, [], []⟩,
  ⟨("_law_numbered", none), "_law_numbered", "_law_numbered", defArgs s_law_numbered, defBody s_law_numbered, defScope s_law_numbered, [], []⟩,
  ⟨("Book", some "idle"), "idle", "Book.idle", defArgs m_idle, defBody m_idle, defScope m_idle, [], []⟩,
  ⟨("_line_of", none), "_line_of", "_line_of", defArgs s_line_of, defBody s_line_of, defScope s_line_of, [], []⟩,
  ⟨("text_of", none), "text_of", "text_of", defArgs s_text_of, defBody s_text_of, defScope s_text_of, [], []⟩,
  ⟨("_law_pared", none), "_law_pared", "_law_pared", defArgs s_law_pared, defBody s_law_pared, defScope s_law_pared, [], []⟩,
  ⟨("_law_least_rows", none), "_law_least_rows", "_law_least_rows", defArgs s_law_least_rows13, defBody s_law_least_rows13, defScope s_law_least_rows13, [], []⟩,
  ⟨("_law_own", none), "_law_own", "_law_own", defArgs s_law_own_x, defBody s_law_own_x, defScope s_law_own_x, [], []⟩,
  ⟨("_law_nothing", none), "_law_nothing", "_law_nothing", defArgs s_law_nothing_x, defBody s_law_nothing_x, defScope s_law_nothing_x, [], []⟩,
  ⟨("_law_left", none), "_law_left", "_law_left", defArgs s_law_left_x, defBody s_law_left_x, defScope s_law_left_x, [], []⟩,
  ⟨("_law_owned", none), "_law_owned", "_law_owned", defArgs s_law_owned_x, defBody s_law_owned_x, defScope s_law_owned_x, [], []⟩,
  ⟨("_law_two", none), "_law_two", "_law_two", defArgs s_law_two_x, defBody s_law_two_x, defScope s_law_two_x, [], []⟩,
  ⟨("_law_one", none), "_law_one", "_law_one", defArgs s_law_one_x, defBody s_law_one_x, defScope s_law_one_x, [], []⟩,
  ⟨("_law_other", none), "_law_other", "_law_other", defArgs s_law_other_x, defBody s_law_other_x, defScope s_law_other_x, [], []⟩,
  ⟨("_law_asked", none), "_law_asked", "_law_asked", defArgs s_law_asked_x, defBody s_law_asked_x, defScope s_law_asked_x, [], []⟩,
  ⟨("_law_right", none), "_law_right", "_law_right", defArgs s_law_right_x, defBody s_law_right_x, defScope s_law_right_x, [], []⟩,
  ⟨("_law_all_right", none), "_law_all_right", "_law_all_right", defArgs s_law_all_right_x, defBody s_law_all_right_x, defScope s_law_all_right_x, [], []⟩,
  ⟨("_law_anew", none), "_law_anew", "_law_anew", defArgs s_law_anew_x, defBody s_law_anew_x, defScope s_law_anew_x, [], []⟩,
  ⟨("_law_put", none), "_law_put", "_law_put", defArgs s_law_put_x, defBody s_law_put_x, defScope s_law_put_x, [], []⟩,
  ⟨("_law_deed", none), "_law_deed", "_law_deed", defArgs s_law_deed_x, defBody s_law_deed_x, defScope s_law_deed_x, [], []⟩,
  ⟨("law", none), "law", "law", defArgs s_law_x, defBody s_law_x, defScope s_law_x, [], []⟩]
def globs : List Str := [("is_name" : Str), ("_once_each" : Str), ("within" : Str), ("meets" : Str), ("_rank" : Str), ("ranked" : Str), ("least_of" : Str), ("rising" : Str), ("names_from" : Str), ("row_from" : Str), ("grown" : Str), ("_law_draw" : Str), ("_law_names" : Str), ("_law_row" : Str), ("_law_meets" : Str), ("_law_meets_all" : Str), ("_law_within" : Str), ("_law_sets" : Str), ("_law_box" : Str), ("_law_ranked" : Str), ("_law_least" : Str), ("name_from" : Str), ("_book_of" : Str), ("_law_numbered" : Str), ("_line_of" : Str), ("text_of" : Str), ("_law_pared" : Str), ("_law_least_rows" : Str), ("_law_own" : Str), ("_law_nothing" : Str), ("_law_left" : Str), ("_law_owned" : Str), ("_law_two" : Str), ("_law_one" : Str), ("_law_other" : Str), ("_law_asked" : Str), ("_law_right" : Str), ("_law_all_right" : Str), ("_law_anew" : Str), ("_law_put" : Str), ("_law_deed" : Str), ("law" : Str), ("MeetError" : Str), ("BadName" : Str), ("BadRow" : Str), ("NoRow" : Str), ("TooMany" : Str), ("NoMeet" : Str), ("meets_sets" : Str), ("Book" : Str)]
def frees : List Str := [("len" : Str), ("isinstance" : Str), ("bool" : Str), ("all" : Str), ("any" : Str), ("str" : Str), ("list" : Str), ("tuple" : Str), ("set" : Str), ("sorted" : Str), ("zip" : Str), ("range" : Str), ("enumerate" : Str), ("ValueError" : Str), ("int" : Str), ("min" : Str), ("dict" : Str), ("reversed" : Str)]
def fx : List He.Fa := [.int "MOST_LETTERS" 8, .int "MOST_ROWS_books" 30, .int "MOST_NAMES_books" 12, .str "EMPTY_ROW" "-", .exc "BadName", .exc "BadRow", .exc "TooMany", .exc "NoMeet", .exc "NoRow", .exm "NoMeet" "NoMeet" true, .cls "Book", .noat "Book" "_rows", .noat "Book" "_next_number", .mkr "Book", .meth "Book" "_sets", .meth "Book" "names", .meth "Book" "put", .meth "Book" "take", .meth "Book" "rows", .meth "Book" "least_rows", .meth "Book" "least", .meth "Book" "fewest", .meth "Book" "_met_by", .meth "Book" "meets", .meth "Book" "_meeting", .meth "Book" "struck", .meth "Book" "without", .meth "Book" "joined", .meth "Book" "crossed", .meth "Book" "pared", .meth "Book" "_first_own", .meth "Book" "own", .meth "Book" "needed", .meth "Book" "idle"]
def fa : List He.Fa := globs.map He.Fa.glo ++ (frees.map He.Fa.free ++ fx)
def ts : List He.Tab := []
def tf : List He.Defn := [("is_name", none), ("within", none), ("meets", none), ("least_of", none), ("Book", some "_met_by"), ("Book", some "own")]
def ex (K : PySem.W.Frag) : Bool := decide (He.ga K "meets_sets" = He.ga K "meets")
abbrev R : PySem.W.OpenRow := PySem.W.OpenLaw.row PySem.Challenge.rw_meetrows_k13_whole_deeds
abbrev hk : PySem.W.Hook := He.hookX 4 fa fn ts tf ex
def ob (s : PySem.W.SharedT) : He.AlX := He.obsX 4 fa fn ts tf ex (HandSHeadRun.getT s)
theorem ob_eq (s : PySem.W.SharedT) : ob s = hk.obs s.abs := He.obsX_eq (HandSHeadRun.getT_eq s)
def loose : List Str := [("MeetError" : Str), ("BadName" : Str), ("BadRow" : Str), ("NoRow" : Str), ("TooMany" : Str), ("NoMeet" : Str), ("MOST_LETTERS" : Str), ("is_name" : Str), ("rising" : Str), ("within" : Str), ("meets" : Str), ("meets_sets" : Str), ("ranked" : Str), ("least_of" : Str), ("_once_each" : Str), ("_rank" : Str), ("name_from" : Str), ("names_from" : Str), ("row_from" : Str), ("grown" : Str), ("MOST_ROWS_books" : Str), ("MOST_NAMES_books" : Str), ("Book" : Str), ("_book_of" : Str), ("EMPTY_ROW" : Str), ("text_of" : Str), ("_line_of" : Str), ("_law_draw" : Str), ("_law_names" : Str), ("_law_row" : Str), ("_law_meets" : Str), ("_law_meets_all" : Str), ("_law_within" : Str), ("_law_sets" : Str), ("_law_box" : Str), ("_law_ranked" : Str), ("_law_least" : Str), ("_law_put" : Str), ("_law_anew" : Str), ("_law_deed" : Str), ("_law_numbered" : Str), ("_law_least_rows" : Str), ("_law_pared" : Str), ("_law_own" : Str), ("_law_nothing" : Str), ("_law_left" : Str), ("_law_owned" : Str), ("_law_two" : Str), ("_law_one" : Str), ("_law_other" : Str), ("_law_asked" : Str), ("_law_right" : Str), ("_law_all_right" : Str)]
theorem run (w : World) : HandSHeadRun.RunEq R (PySem.W.view R.prog [60]) hk ob 8000 loose w := by
  intro os
  kernel_rfl
theorem facts {w : World} {K : PySem.W.Frag} {h : Heap} {mg : Str → Option Value} {f : Addr} (X : K.In h) (G : h.Ns mainGlobals mg) (hfa : mg ("law" : Str) = some (.ref f)) (c : He.SaysX fa fn ts tf ex w h K) :
    LamX.LawAtS PySem.Challenge.rw_meetrows_k13_whole_deeds w K CX0 13 63 "_law_script" mg f h := by
  have cd := c.t.d
  have gl : ∀ x ∈ globs, mg x = some (.ref (He.ga K x)) := fun x hx => He.glo_ok X G (He.SaysD.facts cd (List.mem_append_left _ (List.mem_map.mpr ⟨x, hx, rfl⟩)))
  have fr : ∀ x ∈ frees, mg x = none := fun x hx => He.free_ok X G (He.SaysD.facts cd (List.mem_append_right _ (List.mem_append_left _ (List.mem_map.mpr ⟨x, hx, rfl⟩))))
  have xf : ∀ x ∈ fx, x.ok K = true := fun x hx => He.SaysD.facts cd (List.mem_append_right _ (List.mem_append_right _ hx))
  have gM : ∃ t, mg "MOST_LETTERS" = some (.int 8 t) := He.int_ok X G (xf (.int "MOST_LETTERS" 8) List.mem_cons_self)
  have gI_MOST_ROWS_books : ∃ t, mg "MOST_ROWS_books" = some (.int 30 t) := He.int_ok X G (xf (.int "MOST_ROWS_books" 30) (List.mem_cons_of_mem _ List.mem_cons_self))
  have gI_MOST_NAMES_books : ∃ t, mg "MOST_NAMES_books" = some (.int 12 t) := He.int_ok X G (xf (.int "MOST_NAMES_books" 12) (List.mem_cons_of_mem _ (List.mem_cons_of_mem _ List.mem_cons_self)))
  have gS_EMPTY_ROW : ∃ t, mg "EMPTY_ROW" = some (.str "-" t) := He.str_ok X G (xf (.str "EMPTY_ROW" "-") (List.mem_cons_of_mem _ (List.mem_cons_of_mem _ (List.mem_cons_of_mem _ List.mem_cons_self))))
  have e_BadName := He.exc_ok (xf (.exc "BadName") (List.mem_cons_of_mem _ (List.mem_cons_of_mem _ (List.mem_cons_of_mem _ (List.mem_cons_of_mem _ List.mem_cons_self)))))
  have EC_BadName : ErrC K mg "BadName" (He.ga K "BadName") := ⟨gl "BadName" (by decide), e_BadName.1, e_BadName.2.1, e_BadName.2.2.1, e_BadName.2.2.2⟩
  have e_BadRow := He.exc_ok (xf (.exc "BadRow") (List.mem_cons_of_mem _ (List.mem_cons_of_mem _ (List.mem_cons_of_mem _ (List.mem_cons_of_mem _ (List.mem_cons_of_mem _ List.mem_cons_self))))))
  have EC_BadRow : ErrC K mg "BadRow" (He.ga K "BadRow") := ⟨gl "BadRow" (by decide), e_BadRow.1, e_BadRow.2.1, e_BadRow.2.2.1, e_BadRow.2.2.2⟩
  have e_TooMany := He.exc_ok (xf (.exc "TooMany") (List.mem_cons_of_mem _ (List.mem_cons_of_mem _ (List.mem_cons_of_mem _ (List.mem_cons_of_mem _ (List.mem_cons_of_mem _ (List.mem_cons_of_mem _ List.mem_cons_self)))))))
  have EC_TooMany : ErrC K mg "TooMany" (He.ga K "TooMany") := ⟨gl "TooMany" (by decide), e_TooMany.1, e_TooMany.2.1, e_TooMany.2.2.1, e_TooMany.2.2.2⟩
  have e_NoMeet := He.exc_ok (xf (.exc "NoMeet") (List.mem_cons_of_mem _ (List.mem_cons_of_mem _ (List.mem_cons_of_mem _ (List.mem_cons_of_mem _ (List.mem_cons_of_mem _ (List.mem_cons_of_mem _ (List.mem_cons_of_mem _ List.mem_cons_self))))))))
  have EC_NoMeet : ErrC K mg "NoMeet" (He.ga K "NoMeet") := ⟨gl "NoMeet" (by decide), e_NoMeet.1, e_NoMeet.2.1, e_NoMeet.2.2.1, e_NoMeet.2.2.2⟩
  have e_NoRow := He.exc_ok (xf (.exc "NoRow") (List.mem_cons_of_mem _ (List.mem_cons_of_mem _ (List.mem_cons_of_mem _ (List.mem_cons_of_mem _ (List.mem_cons_of_mem _ (List.mem_cons_of_mem _ (List.mem_cons_of_mem _ (List.mem_cons_of_mem _ List.mem_cons_self)))))))))
  have EC_NoRow : ErrC K mg "NoRow" (He.ga K "NoRow") := ⟨gl "NoRow" (by decide), e_NoRow.1, e_NoRow.2.1, e_NoRow.2.2.1, e_NoRow.2.2.2⟩
  have cl : Cls K (He.ga K "Book") := He.cls_ok (xf (.cls "Book") (List.mem_cons_of_mem _ (List.mem_cons_of_mem _ (List.mem_cons_of_mem _ (List.mem_cons_of_mem _ (List.mem_cons_of_mem _ (List.mem_cons_of_mem _ (List.mem_cons_of_mem _ (List.mem_cons_of_mem _ (List.mem_cons_of_mem _ (List.mem_cons_of_mem _ List.mem_cons_self)))))))))))
  have nR : NoAttr K (He.ga K "Book") "_rows" := He.noat_ok (xf (.noat "Book" "_rows") (List.mem_cons_of_mem _ (List.mem_cons_of_mem _ (List.mem_cons_of_mem _ (List.mem_cons_of_mem _ (List.mem_cons_of_mem _ (List.mem_cons_of_mem _ (List.mem_cons_of_mem _ (List.mem_cons_of_mem _ (List.mem_cons_of_mem _ (List.mem_cons_of_mem _ (List.mem_cons_of_mem _ List.mem_cons_self))))))))))))
  have nN : NoAttr K (He.ga K "Book") "_next_number" := He.noat_ok (xf (.noat "Book" "_next_number") (List.mem_cons_of_mem _ (List.mem_cons_of_mem _ (List.mem_cons_of_mem _ (List.mem_cons_of_mem _ (List.mem_cons_of_mem _ (List.mem_cons_of_mem _ (List.mem_cons_of_mem _ (List.mem_cons_of_mem _ (List.mem_cons_of_mem _ (List.mem_cons_of_mem _ (List.mem_cons_of_mem _ (List.mem_cons_of_mem _ List.mem_cons_self)))))))))))))
  have mk : Mk K (He.ga K "Book") (He.ma K (He.ga K "Book") "__init__") := He.mkr_ok (xf (.mkr "Book") (List.mem_cons_of_mem _ (List.mem_cons_of_mem _ (List.mem_cons_of_mem _ (List.mem_cons_of_mem _ (List.mem_cons_of_mem _ (List.mem_cons_of_mem _ (List.mem_cons_of_mem _ (List.mem_cons_of_mem _ (List.mem_cons_of_mem _ (List.mem_cons_of_mem _ (List.mem_cons_of_mem _ (List.mem_cons_of_mem _ (List.mem_cons_of_mem _ List.mem_cons_self))))))))))))))
  have BC : BkC K mg (He.ga K "Book") := ⟨cl, nR, nN, gl "Book" (by decide)⟩
  have alq : He.ga K "meets_sets" = He.ga K "meets" := of_decide_eq_true c.more
  let RR : ErN := ⟨He.ga K "BadName", He.ga K "BadRow", He.ga K "NoRow", He.ga K "TooMany", He.ga K "NoMeet", He.ga K "Unread"⟩
  let NN : TabN := ⟨(He.cT K ("is_name", none)).2, (He.cT K ("within", none)).2, (He.cT K ("meets", none)).2, (He.cT K ("least_of", none)).2, (He.cT K ("Book", some "_met_by")).2, (He.cT K ("Book", some "own")).2⟩
  obtain ⟨fd0, F_is_name⟩ := cd.def_ 0 (d := ⟨("is_name", none), "is_name", "is_name", defArgs sIsName, defBody sIsName, defScope sIsName, [], []⟩) rfl
  obtain ⟨fd1, F__once_each⟩ := cd.def_ 1 (d := ⟨("_once_each", none), "_once_each", "_once_each", defArgs sOnce, defBody sOnce, defScope sOnce, [], []⟩) rfl
  obtain ⟨fd2, F_within⟩ := cd.def_ 2 (d := ⟨("within", none), "within", "within", defArgs sWithin, defBody sWithin, defScope sWithin, [], []⟩) rfl
  obtain ⟨fd3, F_meets⟩ := cd.def_ 3 (d := ⟨("meets", none), "meets", "meets", defArgs sMeets, defBody sMeets, defScope sMeets, [], []⟩) rfl
  obtain ⟨fd4, F__rank⟩ := cd.def_ 4 (d := ⟨("_rank", none), "_rank", "_rank", defArgs sRank, defBody sRank, defScope sRank, [], []⟩) rfl
  obtain ⟨fd5, F_ranked⟩ := cd.def_ 5 (d := ⟨("ranked", none), "ranked", "ranked", defArgs sRanked, defBody sRanked, defScope sRanked, [], []⟩) rfl
  obtain ⟨fd6, F_least_of⟩ := cd.def_ 6 (d := ⟨("least_of", none), "least_of", "least_of", defArgs sLeast, defBody sLeast, defScope sLeast, [], []⟩) rfl
  obtain ⟨fd7, F_rising⟩ := cd.def_ 7 (d := ⟨("rising", none), "rising", "rising", defArgs sRising, defBody sRising, defScope sRising, [], []⟩) rfl
  obtain ⟨fd8, F_names_from⟩ := cd.def_ 8 (d := ⟨("names_from", none), "names_from", "names_from", defArgs s_names_from, defBody s_names_from, defScope s_names_from, [], []⟩) rfl
  obtain ⟨fd9, F_row_from⟩ := cd.def_ 9 (d := ⟨("row_from", none), "row_from", "row_from", defArgs s_row_from, defBody s_row_from, defScope s_row_from, [], []⟩) rfl
  obtain ⟨fd10, F_grown⟩ := cd.def_ 10 (d := ⟨("grown", none), "grown", "grown", defArgs s_grown, defBody s_grown, defScope s_grown, [], []⟩) rfl
  obtain ⟨fd11, F__law_draw⟩ := cd.def_ 11 (d := ⟨("_law_draw", none), "_law_draw", "_law_draw", defArgs sDraw, defBody sDraw, defScope sDraw, [], []⟩) rfl
  obtain ⟨fd12, F__law_names⟩ := cd.def_ 12 (d := ⟨("_law_names", none), "_law_names", "_law_names", defArgs sNames, defBody sNames, defScope sNames, [], []⟩) rfl
  obtain ⟨fd13, F__law_row⟩ := cd.def_ 13 (d := ⟨("_law_row", none), "_law_row", "_law_row", defArgs sRow, defBody sRow, defScope sRow, [], []⟩) rfl
  obtain ⟨fd14, F__law_meets⟩ := cd.def_ 14 (d := ⟨("_law_meets", none), "_law_meets", "_law_meets", defArgs sLMeets, defBody sLMeets, defScope sLMeets, [], []⟩) rfl
  obtain ⟨fd15, F__law_meets_all⟩ := cd.def_ 15 (d := ⟨("_law_meets_all", none), "_law_meets_all", "_law_meets_all", defArgs sLAll, defBody sLAll, defScope sLAll, [], []⟩) rfl
  obtain ⟨fd16, F__law_within⟩ := cd.def_ 16 (d := ⟨("_law_within", none), "_law_within", "_law_within", defArgs sLWithin, defBody sLWithin, defScope sLWithin, [], []⟩) rfl
  obtain ⟨fd17, F__law_sets⟩ := cd.def_ 17 (d := ⟨("_law_sets", none), "_law_sets", "_law_sets", defArgs sSets, defBody sSets, defScope sSets, [], []⟩) rfl
  obtain ⟨fd18, F__law_box⟩ := cd.def_ 18 (d := ⟨("_law_box", none), "_law_box", "_law_box", defArgs s_law_box, defBody s_law_box, defScope s_law_box, [], []⟩) rfl
  obtain ⟨fd19, F__law_ranked⟩ := cd.def_ 19 (d := ⟨("_law_ranked", none), "_law_ranked", "_law_ranked", defArgs s_law_ranked, defBody s_law_ranked, defScope s_law_ranked, [], []⟩) rfl
  obtain ⟨fd20, F__law_least⟩ := cd.def_ 20 (d := ⟨("_law_least", none), "_law_least", "_law_least", defArgs s_law_least, defBody s_law_least, defScope s_law_least, [], []⟩) rfl
  obtain ⟨fd21, F_name_from⟩ := cd.def_ 21 (d := ⟨("name_from", none), "name_from", "name_from", defArgs s_name_from, defBody s_name_from, defScope s_name_from, [], []⟩) rfl
  obtain ⟨fd22, F_Book___init__⟩ := cd.def_ 22 (d := ⟨("Book", some "__init__"), "__init__", "Book.__init__", defArgs m_init, defBody m_init, defScope m_init, [], []⟩) rfl
  obtain ⟨fd23, F_Book__sets⟩ := cd.def_ 23 (d := ⟨("Book", some "_sets"), "_sets", "Book._sets", defArgs m_sets, defBody m_sets, defScope m_sets, [], []⟩) rfl
  obtain ⟨fd24, F_Book_names⟩ := cd.def_ 24 (d := ⟨("Book", some "names"), "names", "Book.names", defArgs m_names, defBody m_names, defScope m_names, [], []⟩) rfl
  obtain ⟨fd25, F_Book_put⟩ := cd.def_ 25 (d := ⟨("Book", some "put"), "put", "Book.put", defArgs m_put, defBody m_put, defScope m_put, [], []⟩) rfl
  obtain ⟨fd26, F_Book_take⟩ := cd.def_ 26 (d := ⟨("Book", some "take"), "take", "Book.take", defArgs m_take, defBody m_take, defScope m_take, [], []⟩) rfl
  obtain ⟨fd27, F_Book_rows⟩ := cd.def_ 27 (d := ⟨("Book", some "rows"), "rows", "Book.rows", defArgs m_rows, defBody m_rows, defScope m_rows, [], []⟩) rfl
  obtain ⟨fd28, F_Book_least_rows⟩ := cd.def_ 28 (d := ⟨("Book", some "least_rows"), "least_rows", "Book.least_rows", defArgs m_least_rows, defBody m_least_rows, defScope m_least_rows, [], []⟩) rfl
  obtain ⟨fd29, F_Book_least⟩ := cd.def_ 29 (d := ⟨("Book", some "least"), "least", "Book.least", defArgs m_least, defBody m_least, defScope m_least, [], []⟩) rfl
  obtain ⟨fd30, F_Book_fewest⟩ := cd.def_ 30 (d := ⟨("Book", some "fewest"), "fewest", "Book.fewest", defArgs m_fewest, defBody m_fewest, defScope m_fewest, [], []⟩) rfl
  obtain ⟨fd31, F_Book__met_by⟩ := cd.def_ 31 (d := ⟨("Book", some "_met_by"), "_met_by", "Book._met_by", defArgs m_met_by, defBody m_met_by, defScope m_met_by, [], []⟩) rfl
  obtain ⟨fd32, F_Book_meets⟩ := cd.def_ 32 (d := ⟨("Book", some "meets"), "meets", "Book.meets", defArgs m_meets, defBody m_meets, defScope m_meets, [], []⟩) rfl
  obtain ⟨fd33, F_Book__meeting⟩ := cd.def_ 33 (d := ⟨("Book", some "_meeting"), "_meeting", "Book._meeting", defArgs m_meeting, defBody m_meeting, defScope m_meeting, [], []⟩) rfl
  obtain ⟨fd34, F__book_of⟩ := cd.def_ 34 (d := ⟨("_book_of", none), "_book_of", "_book_of", defArgs s_book_of, defBody s_book_of, defScope s_book_of, [], []⟩) rfl
  obtain ⟨fd35, F_Book_struck⟩ := cd.def_ 35 (d := ⟨("Book", some "struck"), "struck", "Book.struck", defArgs m_struck, defBody m_struck, defScope m_struck, [], []⟩) rfl
  obtain ⟨fd36, F_Book_without⟩ := cd.def_ 36 (d := ⟨("Book", some "without"), "without", "Book.without", defArgs m_without, defBody m_without, defScope m_without, [], []⟩) rfl
  obtain ⟨fd37, F_Book_joined⟩ := cd.def_ 37 (d := ⟨("Book", some "joined"), "joined", "Book.joined", defArgs m_joined, defBody m_joined, defScope m_joined, [], []⟩) rfl
  obtain ⟨fd38, F_Book_crossed⟩ := cd.def_ 38 (d := ⟨("Book", some "crossed"), "crossed", "Book.crossed", defArgs m_crossed, defBody m_crossed, defScope m_crossed, [], []⟩) rfl
  obtain ⟨fd39, F_Book_pared⟩ := cd.def_ 39 (d := ⟨("Book", some "pared"), "pared", "Book.pared", defArgs m_pared, defBody m_pared, defScope m_pared, [], []⟩) rfl
  obtain ⟨fd40, F_Book__first_own⟩ := cd.def_ 40 (d := ⟨("Book", some "_first_own"), "_first_own", "Book._first_own", defArgs m_first_own, defBody m_first_own, defScope m_first_own, [], []⟩) rfl
  obtain ⟨fd41, F_Book_own⟩ := cd.def_ 41 (d := ⟨("Book", some "own"), "own", "Book.own", defArgs m_own, defBody m_own, defScope m_own, [], []⟩) rfl
  obtain ⟨fd42, F_Book_needed⟩ := cd.def_ 42 (d := ⟨("Book", some "needed"), "needed", "Book.needed", defArgs m_needed, defBody m_needed, defScope m_needed, [], []⟩) rfl
  obtain ⟨fd43, F__law_numbered⟩ := cd.def_ 43 (d := ⟨("_law_numbered", none), "_law_numbered", "_law_numbered", defArgs s_law_numbered, defBody s_law_numbered, defScope s_law_numbered, [], []⟩) rfl
  obtain ⟨fd44, F_Book_idle⟩ := cd.def_ 44 (d := ⟨("Book", some "idle"), "idle", "Book.idle", defArgs m_idle, defBody m_idle, defScope m_idle, [], []⟩) rfl
  obtain ⟨fd45, F__line_of⟩ := cd.def_ 45 (d := ⟨("_line_of", none), "_line_of", "_line_of", defArgs s_line_of, defBody s_line_of, defScope s_line_of, [], []⟩) rfl
  obtain ⟨fd46, F_text_of⟩ := cd.def_ 46 (d := ⟨("text_of", none), "text_of", "text_of", defArgs s_text_of, defBody s_text_of, defScope s_text_of, [], []⟩) rfl
  obtain ⟨fd47, F__law_pared⟩ := cd.def_ 47 (d := ⟨("_law_pared", none), "_law_pared", "_law_pared", defArgs s_law_pared, defBody s_law_pared, defScope s_law_pared, [], []⟩) rfl
  obtain ⟨fd48, F__law_least_rows⟩ := cd.def_ 48 (d := ⟨("_law_least_rows", none), "_law_least_rows", "_law_least_rows", defArgs s_law_least_rows13, defBody s_law_least_rows13, defScope s_law_least_rows13, [], []⟩) rfl
  obtain ⟨fd49, F__law_own⟩ := cd.def_ 49 (d := ⟨("_law_own", none), "_law_own", "_law_own", defArgs s_law_own_x, defBody s_law_own_x, defScope s_law_own_x, [], []⟩) rfl
  obtain ⟨fd50, F__law_nothing⟩ := cd.def_ 50 (d := ⟨("_law_nothing", none), "_law_nothing", "_law_nothing", defArgs s_law_nothing_x, defBody s_law_nothing_x, defScope s_law_nothing_x, [], []⟩) rfl
  obtain ⟨fd51, F__law_left⟩ := cd.def_ 51 (d := ⟨("_law_left", none), "_law_left", "_law_left", defArgs s_law_left_x, defBody s_law_left_x, defScope s_law_left_x, [], []⟩) rfl
  obtain ⟨fd52, F__law_owned⟩ := cd.def_ 52 (d := ⟨("_law_owned", none), "_law_owned", "_law_owned", defArgs s_law_owned_x, defBody s_law_owned_x, defScope s_law_owned_x, [], []⟩) rfl
  obtain ⟨fd53, F__law_two⟩ := cd.def_ 53 (d := ⟨("_law_two", none), "_law_two", "_law_two", defArgs s_law_two_x, defBody s_law_two_x, defScope s_law_two_x, [], []⟩) rfl
  obtain ⟨fd54, F__law_one⟩ := cd.def_ 54 (d := ⟨("_law_one", none), "_law_one", "_law_one", defArgs s_law_one_x, defBody s_law_one_x, defScope s_law_one_x, [], []⟩) rfl
  obtain ⟨fd55, F__law_other⟩ := cd.def_ 55 (d := ⟨("_law_other", none), "_law_other", "_law_other", defArgs s_law_other_x, defBody s_law_other_x, defScope s_law_other_x, [], []⟩) rfl
  obtain ⟨fd56, F__law_asked⟩ := cd.def_ 56 (d := ⟨("_law_asked", none), "_law_asked", "_law_asked", defArgs s_law_asked_x, defBody s_law_asked_x, defScope s_law_asked_x, [], []⟩) rfl
  obtain ⟨fd57, F__law_right⟩ := cd.def_ 57 (d := ⟨("_law_right", none), "_law_right", "_law_right", defArgs s_law_right_x, defBody s_law_right_x, defScope s_law_right_x, [], []⟩) rfl
  obtain ⟨fd58, F__law_all_right⟩ := cd.def_ 58 (d := ⟨("_law_all_right", none), "_law_all_right", "_law_all_right", defArgs s_law_all_right_x, defBody s_law_all_right_x, defScope s_law_all_right_x, [], []⟩) rfl
  obtain ⟨fd59, F__law_anew⟩ := cd.def_ 59 (d := ⟨("_law_anew", none), "_law_anew", "_law_anew", defArgs s_law_anew_x, defBody s_law_anew_x, defScope s_law_anew_x, [], []⟩) rfl
  obtain ⟨fd60, F__law_put⟩ := cd.def_ 60 (d := ⟨("_law_put", none), "_law_put", "_law_put", defArgs s_law_put_x, defBody s_law_put_x, defScope s_law_put_x, [], []⟩) rfl
  obtain ⟨fd61, F__law_deed⟩ := cd.def_ 61 (d := ⟨("_law_deed", none), "_law_deed", "_law_deed", defArgs s_law_deed_x, defBody s_law_deed_x, defScope s_law_deed_x, [], []⟩) rfl
  obtain ⟨fd62, F_law⟩ := cd.def_ 62 (d := ⟨("law", none), "law", "law", defArgs s_law_x, defBody s_law_x, defScope s_law_x, [], []⟩) rfl
  have e := hfa.symm.trans (gl "law" (by decide))
  have ef : f = He.ga K "law" := by injection e with e; injection e
  subst ef
  have b := FunD.bindsA (ps := ["_law_script"]) F_law fun _ _ _ _ _ _ us hl => match us, hl with | [_], _ => rfl
  have xM := He.exm_ok (xf (.exm "NoMeet" "NoMeet" true) (List.mem_cons_of_mem _ (List.mem_cons_of_mem _ (List.mem_cons_of_mem _ (List.mem_cons_of_mem _ (List.mem_cons_of_mem _ (List.mem_cons_of_mem _ (List.mem_cons_of_mem _ (List.mem_cons_of_mem _ (List.mem_cons_of_mem _ List.mem_cons_self))))))))))
  refine ⟨fd62, tf.map (He.cT K), spLawG K NN, fun p hp => ?_, fun p hp => ?_, fun p hp => ?_, fun s v => b s [v] rfl, fun H a ns hl hb ht hS => ?_, fun base hB gB hT => ?_⟩
  · obtain ⟨d, hd, rfl⟩ := List.mem_map.mp hp
    exact c.empty d hd
  · obtain ⟨d, hd, rfl⟩ := List.mem_map.mp hp
    exact c.out d hd
  · obtain ⟨d, hd, rfl⟩ := List.mem_map.mp hp
    exact PySem.W.codeHd_of_K X (c.hd d hd)
  · have tg : ∀ d ∈ tf, TabG H (He.cT K d).2 := fun d hd => ⟨#[], ht _ (List.mem_map.mpr ⟨d, hd, rfl⟩), trivial⟩
    exact ⟨a, ns, rfl, hS, ⟨⟨tg ("is_name", none) (by decide), tg ("within", none) (by decide), tg ("meets", none) (by decide), tg ("least_of", none) (by decide)⟩, tg ("Book", some "_met_by") (by decide), tg ("Book", some "own") (by decide)⟩, fun _ => rfl⟩
  · have tb : ∀ d ∈ tf, Tb K base mg d := fun d hd => have z := hT _ (List.mem_map.mpr ⟨d, hd, rfl⟩); ⟨z.code, z.bm, z.gP⟩
    have G_is_name : FnOk PySem.Challenge.rw_meetrows_k13_whole_deeds.prog w K mg base CX0 1 _ _ ["thing"] (spIsName K (He.cT K ("is_name", none)).2) := ok_isname F_is_name (tb _ (by decide)) (fr "all" (by decide)) (fr "isinstance" (by decide)) (fr "str" (by decide)) (fr "len" (by decide)) gM
    have B_is_name : Binds K _ ["thing"] [] := F_is_name.bindsN fun _ _ _ _ _ _ us hl => match us, hl with | [_], _ => rfl
    have C_is_name : Calls PySem.Challenge.rw_meetrows_k13_whole_deeds.prog w K mg base CX0 1 "is_name" (spIsName K (He.cT K ("is_name", none)).2) := ⟨_, _, _, G_is_name, gl "is_name" (by decide), F_is_name.kp, B_is_name⟩
    have G__once_each : FnOk PySem.Challenge.rw_meetrows_k13_whole_deeds.prog w K mg base CX0 1 _ _ ["names"] (spOnce K) := ok_once F__once_each (fr "sorted" (by decide)) (fr "set" (by decide))
    have B__once_each : Binds K _ ["names"] [] := F__once_each.bindsN fun _ _ _ _ _ _ us hl => match us, hl with | [_], _ => rfl
    have C__once_each : Calls PySem.Challenge.rw_meetrows_k13_whole_deeds.prog w K mg base CX0 1 "_once_each" (spOnce K) := ⟨_, _, _, G__once_each, gl "_once_each" (by decide), F__once_each.kp, B__once_each⟩
    have G_within : FnOk PySem.Challenge.rw_meetrows_k13_whole_deeds.prog w K mg base CX0 1 _ _ ["one", "other"] (spWithin K (He.cT K ("within", none)).2) := ok_within F_within (tb _ (by decide)) (fr "all" (by decide))
    have B_within : Binds K _ ["one", "other"] [] := F_within.bindsN fun _ _ _ _ _ _ us hl => match us, hl with | [_, _], _ => rfl
    have C_within : Calls PySem.Challenge.rw_meetrows_k13_whole_deeds.prog w K mg base CX0 1 "within" (spWithin K (He.cT K ("within", none)).2) := ⟨_, _, _, G_within, gl "within" (by decide), F_within.kp, B_within⟩
    have G_meets : FnOk PySem.Challenge.rw_meetrows_k13_whole_deeds.prog w K mg base CX0 1 _ _ ["one", "other"] (spMeets K (He.cT K ("meets", none)).2) := ok_meets F_meets (tb _ (by decide)) (fr "any" (by decide))
    have B_meets : Binds K _ ["one", "other"] [] := F_meets.bindsN fun _ _ _ _ _ _ us hl => match us, hl with | [_, _], _ => rfl
    have C_meets : Calls PySem.Challenge.rw_meetrows_k13_whole_deeds.prog w K mg base CX0 1 "meets" (spMeets K (He.cT K ("meets", none)).2) := ⟨_, _, _, G_meets, gl "meets" (by decide), F_meets.kp, B_meets⟩
    have C_meets_sets : Calls PySem.Challenge.rw_meetrows_k13_whole_deeds.prog w K mg base CX0 1 "meets_sets" (spMeets K (He.cT K ("meets", none)).2) := ⟨_, _, _, G_meets, (gl "meets_sets" (by decide)).trans (congrArg (fun z => some (Value.ref z)) alq), F_meets.kp, B_meets⟩
    have G__rank : FnOk PySem.Challenge.rw_meetrows_k13_whole_deeds.prog w K mg base CX0 1 _ _ ["one"] (spRank K) := ok_rank F__rank (fr "len" (by decide))
    have B__rank : Binds K _ ["one"] [] := F__rank.bindsN fun _ _ _ _ _ _ us hl => match us, hl with | [_], _ => rfl
    have C__rank : Calls PySem.Challenge.rw_meetrows_k13_whole_deeds.prog w K mg base CX0 1 "_rank" (spRank K) := ⟨_, _, _, G__rank, gl "_rank" (by decide), F__rank.kp, B__rank⟩
    have G_ranked : FnOk PySem.Challenge.rw_meetrows_k13_whole_deeds.prog w K mg base CX0 4 _ _ ["sets"] (spRanked K) := ok_ranked F_ranked F__rank (gl "_rank" (by decide)) (fr "sorted" (by decide)) (fr "list" (by decide)) (fr "len" (by decide))
    have B_ranked : Binds K _ ["sets"] [] := F_ranked.bindsN fun _ _ _ _ _ _ us hl => match us, hl with | [_], _ => rfl
    have C_ranked : Calls PySem.Challenge.rw_meetrows_k13_whole_deeds.prog w K mg base CX0 4 "ranked" (spRanked K) := ⟨_, _, _, G_ranked, gl "ranked" (by decide), F_ranked.kp, B_ranked⟩
    have G_least_of : FnOk PySem.Challenge.rw_meetrows_k13_whole_deeds.prog w K mg base CX0 5 _ _ ["sets"] (spLeast K (He.cT K ("least_of", none)).2 (He.cT K ("within", none)).2) := ok_least F_least_of (tb _ (by decide)) G_ranked B_ranked F_ranked.kp (gl "ranked" (by decide)) G__once_each B__once_each F__once_each.kp (gl "_once_each" (by decide)) G_within B_within F_within.kp (gl "within" (by decide)) (fr "any" (by decide)) (fr "tuple" (by decide)) (fr "list" (by decide))
    have B_least_of : Binds K _ ["sets"] [] := F_least_of.bindsN fun _ _ _ _ _ _ us hl => match us, hl with | [_], _ => rfl
    have C_least_of : Calls PySem.Challenge.rw_meetrows_k13_whole_deeds.prog w K mg base CX0 5 "least_of" (spLeast K (He.cT K ("least_of", none)).2 (He.cT K ("within", none)).2) := ⟨_, _, _, G_least_of, gl "least_of" (by decide), F_least_of.kp, B_least_of⟩
    have G_rising : FnOk PySem.Challenge.rw_meetrows_k13_whole_deeds.prog w K mg base (L2.CX PySem.Challenge.rw_meetrows_k13_whole_deeds.prog w) 2 _ _ ["names"] (spRising K (He.cT K ("is_name", none)).2 (He.ga K "BadName")) := ok_rising F_rising G_is_name B_is_name F_is_name.kp (gl "is_name" (by decide)) G__once_each B__once_each F__once_each.kp (gl "_once_each" (by decide)) EC_BadName (fr "enumerate" (by decide)) gM
    have B_rising : Binds K _ ["names"] [] := F_rising.bindsN fun _ _ _ _ _ _ us hl => match us, hl with | [_], _ => rfl
    have C_rising : Calls PySem.Challenge.rw_meetrows_k13_whole_deeds.prog w K mg base (L2.CX PySem.Challenge.rw_meetrows_k13_whole_deeds.prog w) 2 "rising" (spRising K (He.cT K ("is_name", none)).2 (He.ga K "BadName")) := ⟨_, _, _, G_rising, gl "rising" (by decide), F_rising.kp, B_rising⟩
    have G_names_from : FnOk PySem.Challenge.rw_meetrows_k13_whole_deeds.prog w K mg base (L2.CX PySem.Challenge.rw_meetrows_k13_whole_deeds.prog w) 3 _ _ ["thing"] (spNamesFrom K NN.i RR) := ok_names_from F_names_from C_rising EC_BadRow (fr "isinstance" (by decide)) (fr "list" (by decide))
    have B_names_from : Binds K _ ["thing"] [] := F_names_from.bindsN fun _ _ _ _ _ _ us hl => match us, hl with | [_], _ => rfl
    have C_names_from : Calls PySem.Challenge.rw_meetrows_k13_whole_deeds.prog w K mg base (L2.CX PySem.Challenge.rw_meetrows_k13_whole_deeds.prog w) 3 "names_from" (spNamesFrom K NN.i RR) := ⟨_, _, _, G_names_from, gl "names_from" (by decide), F_names_from.kp, B_names_from⟩
    have G_row_from : FnOk PySem.Challenge.rw_meetrows_k13_whole_deeds.prog w K mg base (L2.CX PySem.Challenge.rw_meetrows_k13_whole_deeds.prog w) 4 _ _ ["thing"] (spRowFrom K NN.i RR) := ok_row_from F_row_from C_names_from EC_BadRow (fr "len" (by decide))
    have B_row_from : Binds K _ ["thing"] [] := F_row_from.bindsN fun _ _ _ _ _ _ us hl => match us, hl with | [_], _ => rfl
    have C_row_from : Calls PySem.Challenge.rw_meetrows_k13_whole_deeds.prog w K mg base (L2.CX PySem.Challenge.rw_meetrows_k13_whole_deeds.prog w) 4 "row_from" (spRowFrom K NN.i RR) := ⟨_, _, _, G_row_from, gl "row_from" (by decide), F_row_from.kp, B_row_from⟩
    have G_grown : FnOk PySem.Challenge.rw_meetrows_k13_whole_deeds.prog w K mg base CX0 6 _ _ ["sets", "row"] (spGrown K NN) := ok_grown F_grown C_row_from C_meets_sets C_least_of
    have B_grown : Binds K _ ["sets", "row"] [] := F_grown.bindsN fun _ _ _ _ _ _ us hl => match us, hl with | [_, _], _ => rfl
    have C_grown : Calls PySem.Challenge.rw_meetrows_k13_whole_deeds.prog w K mg base CX0 6 "grown" (spGrown K NN) := ⟨_, _, _, G_grown, gl "grown" (by decide), F_grown.kp, B_grown⟩
    have G__law_draw : FnOk PySem.Challenge.rw_meetrows_k13_whole_deeds.prog w K mg base CX0 1 _ _ ["_law_script", "_law_k"] (spDraw K) := ok_draw F__law_draw (fr "len" (by decide))
    have B__law_draw : Binds K _ ["_law_script", "_law_k"] [] := F__law_draw.bindsN fun _ _ _ _ _ _ us hl => match us, hl with | [_, _], _ => rfl
    have C__law_draw : Calls PySem.Challenge.rw_meetrows_k13_whole_deeds.prog w K mg base CX0 1 "_law_draw" (spDraw K) := ⟨_, _, _, G__law_draw, gl "_law_draw" (by decide), F__law_draw.kp, B__law_draw⟩
    have G__law_names : FnOk PySem.Challenge.rw_meetrows_k13_whole_deeds.prog w K mg base CX0 2 _ _ ["_law_script"] (spNames K) := ok_names F__law_names G__law_draw B__law_draw F__law_draw.kp (gl "_law_draw" (by decide)) (fr "range" (by decide))
    have B__law_names : Binds K _ ["_law_script"] [] := F__law_names.bindsN fun _ _ _ _ _ _ us hl => match us, hl with | [_], _ => rfl
    have C__law_names : Calls PySem.Challenge.rw_meetrows_k13_whole_deeds.prog w K mg base CX0 2 "_law_names" (spNames K) := ⟨_, _, _, G__law_names, gl "_law_names" (by decide), F__law_names.kp, B__law_names⟩
    have G__law_row : FnOk PySem.Challenge.rw_meetrows_k13_whole_deeds.prog w K mg base CX0 1 _ _ ["_law_names_here", "_law_cell"] (spRow K) := ok_row F__law_row (fr "len" (by decide))
    have B__law_row : Binds K _ ["_law_names_here", "_law_cell"] [] := F__law_row.bindsN fun _ _ _ _ _ _ us hl => match us, hl with | [_, _], _ => rfl
    have C__law_row : Calls PySem.Challenge.rw_meetrows_k13_whole_deeds.prog w K mg base CX0 1 "_law_row" (spRow K) := ⟨_, _, _, G__law_row, gl "_law_row" (by decide), F__law_row.kp, B__law_row⟩
    have G__law_meets : FnOk PySem.Challenge.rw_meetrows_k13_whole_deeds.prog w K mg base CX0 1 _ _ ["_law_one_here", "_law_row_here"] (spLMeets K) := ok_lmeets F__law_meets
    have B__law_meets : Binds K _ ["_law_one_here", "_law_row_here"] [] := F__law_meets.bindsN fun _ _ _ _ _ _ us hl => match us, hl with | [_, _], _ => rfl
    have C__law_meets : Calls PySem.Challenge.rw_meetrows_k13_whole_deeds.prog w K mg base CX0 1 "_law_meets" (spLMeets K) := ⟨_, _, _, G__law_meets, gl "_law_meets" (by decide), F__law_meets.kp, B__law_meets⟩
    have G__law_meets_all : FnOk PySem.Challenge.rw_meetrows_k13_whole_deeds.prog w K mg base CX0 2 _ _ ["_law_one_here", "_law_rows"] (spLAll K) := ok_lall F__law_meets_all C__law_meets
    have B__law_meets_all : Binds K _ ["_law_one_here", "_law_rows"] [] := F__law_meets_all.bindsN fun _ _ _ _ _ _ us hl => match us, hl with | [_, _], _ => rfl
    have C__law_meets_all : Calls PySem.Challenge.rw_meetrows_k13_whole_deeds.prog w K mg base CX0 2 "_law_meets_all" (spLAll K) := ⟨_, _, _, G__law_meets_all, gl "_law_meets_all" (by decide), F__law_meets_all.kp, B__law_meets_all⟩
    have G__law_within : FnOk PySem.Challenge.rw_meetrows_k13_whole_deeds.prog w K mg base CX0 1 _ _ ["_law_one_here", "_law_other_here"] (spLWithin K) := ok_lwithin F__law_within
    have B__law_within : Binds K _ ["_law_one_here", "_law_other_here"] [] := F__law_within.bindsN fun _ _ _ _ _ _ us hl => match us, hl with | [_, _], _ => rfl
    have C__law_within : Calls PySem.Challenge.rw_meetrows_k13_whole_deeds.prog w K mg base CX0 1 "_law_within" (spLWithin K) := ⟨_, _, _, G__law_within, gl "_law_within" (by decide), F__law_within.kp, B__law_within⟩
    have G__law_sets : FnOk PySem.Challenge.rw_meetrows_k13_whole_deeds.prog w K mg base CX0 1 _ _ ["_law_found", "_law_due"] (spSets) := ok_sets F__law_sets (fr "isinstance" (by decide)) (fr "list" (by decide)) (fr "len" (by decide)) (fr "zip" (by decide)) (fr "all" (by decide)) (fr "str" (by decide))
    have B__law_sets : Binds K _ ["_law_found", "_law_due"] [] := F__law_sets.bindsN fun _ _ _ _ _ _ us hl => match us, hl with | [_, _], _ => rfl
    have C__law_sets : Calls PySem.Challenge.rw_meetrows_k13_whole_deeds.prog w K mg base CX0 1 "_law_sets" (spSets) := ⟨_, _, _, G__law_sets, gl "_law_sets" (by decide), F__law_sets.kp, B__law_sets⟩
    have G__law_box : FnOk PySem.Challenge.rw_meetrows_k13_whole_deeds.prog w K mg base CX0 1 _ _ ["_law_names_here"] (spBox K) := ok_box F__law_box (fr "sorted" (by decide))
    have B__law_box : Binds K _ ["_law_names_here"] [] := F__law_box.bindsN fun _ _ _ _ _ _ us hl => match us, hl with | [_], _ => rfl
    have C__law_box : Calls PySem.Challenge.rw_meetrows_k13_whole_deeds.prog w K mg base CX0 1 "_law_box" (spBox K) := ⟨_, _, _, G__law_box, gl "_law_box" (by decide), F__law_box.kp, B__law_box⟩
    have G__law_ranked : FnOk PySem.Challenge.rw_meetrows_k13_whole_deeds.prog w K mg base CX0 1 _ _ ["_law_sets_here"] (spLRanked K) := ok_lranked F__law_ranked (fr "sorted" (by decide)) (fr "len" (by decide))
    have B__law_ranked : Binds K _ ["_law_sets_here"] [] := F__law_ranked.bindsN fun _ _ _ _ _ _ us hl => match us, hl with | [_], _ => rfl
    have C__law_ranked : Calls PySem.Challenge.rw_meetrows_k13_whole_deeds.prog w K mg base CX0 1 "_law_ranked" (spLRanked K) := ⟨_, _, _, G__law_ranked, gl "_law_ranked" (by decide), F__law_ranked.kp, B__law_ranked⟩
    have G__law_least : FnOk PySem.Challenge.rw_meetrows_k13_whole_deeds.prog w K mg base CX0 3 _ _ ["_law_names_here", "_law_rows"] (spLLeast K) := ok_lleast F__law_least C__law_box C__law_ranked C__law_meets_all C__law_within
    have B__law_least : Binds K _ ["_law_names_here", "_law_rows"] [] := F__law_least.bindsN fun _ _ _ _ _ _ us hl => match us, hl with | [_, _], _ => rfl
    have C__law_least : Calls PySem.Challenge.rw_meetrows_k13_whole_deeds.prog w K mg base CX0 3 "_law_least" (spLLeast K) := ⟨_, _, _, G__law_least, gl "_law_least" (by decide), F__law_least.kp, B__law_least⟩
    have G_name_from : FnOk PySem.Challenge.rw_meetrows_k13_whole_deeds.prog w K mg base (L2.CX PySem.Challenge.rw_meetrows_k13_whole_deeds.prog w) 2 _ _ ["thing"] (spNameFrom K NN.i RR) := ok_name_from F_name_from C_is_name EC_BadName gM
    have B_name_from : Binds K _ ["thing"] [] := F_name_from.bindsN fun _ _ _ _ _ _ us hl => match us, hl with | [_], _ => rfl
    have C_name_from : Calls PySem.Challenge.rw_meetrows_k13_whole_deeds.prog w K mg base (L2.CX PySem.Challenge.rw_meetrows_k13_whole_deeds.prog w) 2 "name_from" (spNameFrom K NN.i RR) := ⟨_, _, _, G_name_from, gl "name_from" (by decide), F_name_from.kp, B_name_from⟩
    have G_Book___init__ : FnOk PySem.Challenge.rw_meetrows_k13_whole_deeds.prog w K mg base CX0 1 _ _ ["self"] (spInit (He.ga K "Book")) := ok_init F_Book___init__ BC
    have B_Book___init__ : Binds K _ ["self"] [] := F_Book___init__.bindsN fun _ _ _ _ _ _ us hl => match us, hl with | [_], _ => rfl
    have CMK : MkB PySem.Challenge.rw_meetrows_k13_whole_deeds.prog w K mg base (He.ga K "Book") := ⟨_, _, _, G_Book___init__, mk, B_Book___init__⟩
    have G_Book__sets : FnOk PySem.Challenge.rw_meetrows_k13_whole_deeds.prog w K mg base CX0 1 _ _ ["self"] (spBSets (He.ga K "Book")) := ok_bsets F_Book__sets BC (fr "list" (by decide))
    have B_Book__sets : Binds K _ ["self"] [] := F_Book__sets.bindsN fun _ _ _ _ _ _ us hl => match us, hl with | [_], _ => rfl
    have C_Book__sets : MCalls PySem.Challenge.rw_meetrows_k13_whole_deeds.prog w K mg base CX0 1 (He.ga K "Book") "_sets" (spBSets (He.ga K "Book")) := ⟨_, _, _, G_Book__sets, (He.meth_ok (xf (.meth "Book" "_sets") (List.mem_cons_of_mem _ (List.mem_cons_of_mem _ (List.mem_cons_of_mem _ (List.mem_cons_of_mem _ (List.mem_cons_of_mem _ (List.mem_cons_of_mem _ (List.mem_cons_of_mem _ (List.mem_cons_of_mem _ (List.mem_cons_of_mem _ (List.mem_cons_of_mem _ (List.mem_cons_of_mem _ (List.mem_cons_of_mem _ (List.mem_cons_of_mem _ (List.mem_cons_of_mem _ List.mem_cons_self)))))))))))))))), B_Book__sets⟩
    have G_Book_names : FnOk PySem.Challenge.rw_meetrows_k13_whole_deeds.prog w K mg base CX0 2 _ _ ["self"] (spBNames (He.ga K "Book")) := ok_bnames F_Book_names BC C_Book__sets (fr "sorted" (by decide))
    have B_Book_names : Binds K _ ["self"] [] := F_Book_names.bindsN fun _ _ _ _ _ _ us hl => match us, hl with | [_], _ => rfl
    have C_Book_names : MCalls PySem.Challenge.rw_meetrows_k13_whole_deeds.prog w K mg base CX0 2 (He.ga K "Book") "names" (spBNames (He.ga K "Book")) := ⟨_, _, _, G_Book_names, (He.meth_ok (xf (.meth "Book" "names") (List.mem_cons_of_mem _ (List.mem_cons_of_mem _ (List.mem_cons_of_mem _ (List.mem_cons_of_mem _ (List.mem_cons_of_mem _ (List.mem_cons_of_mem _ (List.mem_cons_of_mem _ (List.mem_cons_of_mem _ (List.mem_cons_of_mem _ (List.mem_cons_of_mem _ (List.mem_cons_of_mem _ (List.mem_cons_of_mem _ (List.mem_cons_of_mem _ (List.mem_cons_of_mem _ (List.mem_cons_of_mem _ List.mem_cons_self))))))))))))))))), B_Book_names⟩
    have G_Book_put : FnOk PySem.Challenge.rw_meetrows_k13_whole_deeds.prog w K mg base (L2.CX PySem.Challenge.rw_meetrows_k13_whole_deeds.prog w) 5 _ _ ["self", "row"] (spPut K (He.ga K "Book") NN RR) := ok_put F_Book_put BC C_row_from C_rising C_Book_names EC_TooMany (fr "len" (by decide)) gI_MOST_ROWS_books gI_MOST_NAMES_books
    have B_Book_put : Binds K _ ["self", "row"] [] := F_Book_put.bindsN fun _ _ _ _ _ _ us hl => match us, hl with | [_, _], _ => rfl
    have C_Book_put : MCalls PySem.Challenge.rw_meetrows_k13_whole_deeds.prog w K mg base (L2.CX PySem.Challenge.rw_meetrows_k13_whole_deeds.prog w) 5 (He.ga K "Book") "put" (spPut K (He.ga K "Book") NN RR) := ⟨_, _, _, G_Book_put, (He.meth_ok (xf (.meth "Book" "put") (List.mem_cons_of_mem _ (List.mem_cons_of_mem _ (List.mem_cons_of_mem _ (List.mem_cons_of_mem _ (List.mem_cons_of_mem _ (List.mem_cons_of_mem _ (List.mem_cons_of_mem _ (List.mem_cons_of_mem _ (List.mem_cons_of_mem _ (List.mem_cons_of_mem _ (List.mem_cons_of_mem _ (List.mem_cons_of_mem _ (List.mem_cons_of_mem _ (List.mem_cons_of_mem _ (List.mem_cons_of_mem _ (List.mem_cons_of_mem _ List.mem_cons_self)))))))))))))))))), B_Book_put⟩
    have G_Book_take : FnOk PySem.Challenge.rw_meetrows_k13_whole_deeds.prog w K mg base (L2.CX PySem.Challenge.rw_meetrows_k13_whole_deeds.prog w) 1 _ _ ["self", "number"] (spTake K (He.ga K "Book") RR) := ok_take F_Book_take BC EC_NoRow (fr "isinstance" (by decide)) (fr "int" (by decide)) (fr "bool" (by decide))
    have B_Book_take : Binds K _ ["self", "number"] [] := F_Book_take.bindsN fun _ _ _ _ _ _ us hl => match us, hl with | [_, _], _ => rfl
    have C_Book_take : MCalls PySem.Challenge.rw_meetrows_k13_whole_deeds.prog w K mg base (L2.CX PySem.Challenge.rw_meetrows_k13_whole_deeds.prog w) 1 (He.ga K "Book") "take" (spTake K (He.ga K "Book") RR) := ⟨_, _, _, G_Book_take, (He.meth_ok (xf (.meth "Book" "take") (List.mem_cons_of_mem _ (List.mem_cons_of_mem _ (List.mem_cons_of_mem _ (List.mem_cons_of_mem _ (List.mem_cons_of_mem _ (List.mem_cons_of_mem _ (List.mem_cons_of_mem _ (List.mem_cons_of_mem _ (List.mem_cons_of_mem _ (List.mem_cons_of_mem _ (List.mem_cons_of_mem _ (List.mem_cons_of_mem _ (List.mem_cons_of_mem _ (List.mem_cons_of_mem _ (List.mem_cons_of_mem _ (List.mem_cons_of_mem _ (List.mem_cons_of_mem _ List.mem_cons_self))))))))))))))))))), B_Book_take⟩
    have G_Book_rows : FnOk PySem.Challenge.rw_meetrows_k13_whole_deeds.prog w K mg base CX0 1 _ _ ["self"] (spBRows (He.ga K "Book")) := ok_brows F_Book_rows BC (fr "list" (by decide))
    have B_Book_rows : Binds K _ ["self"] [] := F_Book_rows.bindsN fun _ _ _ _ _ _ us hl => match us, hl with | [_], _ => rfl
    have C_Book_rows : MCalls PySem.Challenge.rw_meetrows_k13_whole_deeds.prog w K mg base CX0 1 (He.ga K "Book") "rows" (spBRows (He.ga K "Book")) := ⟨_, _, _, G_Book_rows, (He.meth_ok (xf (.meth "Book" "rows") (List.mem_cons_of_mem _ (List.mem_cons_of_mem _ (List.mem_cons_of_mem _ (List.mem_cons_of_mem _ (List.mem_cons_of_mem _ (List.mem_cons_of_mem _ (List.mem_cons_of_mem _ (List.mem_cons_of_mem _ (List.mem_cons_of_mem _ (List.mem_cons_of_mem _ (List.mem_cons_of_mem _ (List.mem_cons_of_mem _ (List.mem_cons_of_mem _ (List.mem_cons_of_mem _ (List.mem_cons_of_mem _ (List.mem_cons_of_mem _ (List.mem_cons_of_mem _ (List.mem_cons_of_mem _ List.mem_cons_self)))))))))))))))))))), B_Book_rows⟩
    have G_Book_least_rows : FnOk PySem.Challenge.rw_meetrows_k13_whole_deeds.prog w K mg base CX0 6 _ _ ["self"] (spBLeastRows (He.ga K "Book") NN) := ok_bleastrows F_Book_least_rows BC C_Book__sets C_least_of
    have B_Book_least_rows : Binds K _ ["self"] [] := F_Book_least_rows.bindsN fun _ _ _ _ _ _ us hl => match us, hl with | [_], _ => rfl
    have C_Book_least_rows : MCalls PySem.Challenge.rw_meetrows_k13_whole_deeds.prog w K mg base CX0 6 (He.ga K "Book") "least_rows" (spBLeastRows (He.ga K "Book") NN) := ⟨_, _, _, G_Book_least_rows, (He.meth_ok (xf (.meth "Book" "least_rows") (List.mem_cons_of_mem _ (List.mem_cons_of_mem _ (List.mem_cons_of_mem _ (List.mem_cons_of_mem _ (List.mem_cons_of_mem _ (List.mem_cons_of_mem _ (List.mem_cons_of_mem _ (List.mem_cons_of_mem _ (List.mem_cons_of_mem _ (List.mem_cons_of_mem _ (List.mem_cons_of_mem _ (List.mem_cons_of_mem _ (List.mem_cons_of_mem _ (List.mem_cons_of_mem _ (List.mem_cons_of_mem _ (List.mem_cons_of_mem _ (List.mem_cons_of_mem _ (List.mem_cons_of_mem _ (List.mem_cons_of_mem _ List.mem_cons_self))))))))))))))))))))), B_Book_least_rows⟩
    have G_Book_least : FnOk PySem.Challenge.rw_meetrows_k13_whole_deeds.prog w K mg base CX0 7 _ _ ["self"] (spBLeast (He.ga K "Book") NN) := ok_bleast F_Book_least BC C_Book_least_rows C_grown
    have B_Book_least : Binds K _ ["self"] [] := F_Book_least.bindsN fun _ _ _ _ _ _ us hl => match us, hl with | [_], _ => rfl
    have C_Book_least : MCalls PySem.Challenge.rw_meetrows_k13_whole_deeds.prog w K mg base CX0 7 (He.ga K "Book") "least" (spBLeast (He.ga K "Book") NN) := ⟨_, _, _, G_Book_least, (He.meth_ok (xf (.meth "Book" "least") (List.mem_cons_of_mem _ (List.mem_cons_of_mem _ (List.mem_cons_of_mem _ (List.mem_cons_of_mem _ (List.mem_cons_of_mem _ (List.mem_cons_of_mem _ (List.mem_cons_of_mem _ (List.mem_cons_of_mem _ (List.mem_cons_of_mem _ (List.mem_cons_of_mem _ (List.mem_cons_of_mem _ (List.mem_cons_of_mem _ (List.mem_cons_of_mem _ (List.mem_cons_of_mem _ (List.mem_cons_of_mem _ (List.mem_cons_of_mem _ (List.mem_cons_of_mem _ (List.mem_cons_of_mem _ (List.mem_cons_of_mem _ (List.mem_cons_of_mem _ List.mem_cons_self)))))))))))))))))))))), B_Book_least⟩
    have G_Book_fewest : FnOk PySem.Challenge.rw_meetrows_k13_whole_deeds.prog w K mg base CX0 8 _ _ ["self"] (spBFewest (He.ga K "Book") NN) := ok_bfewest F_Book_fewest BC C_Book_least (fr "len" (by decide))
    have B_Book_fewest : Binds K _ ["self"] [] := F_Book_fewest.bindsN fun _ _ _ _ _ _ us hl => match us, hl with | [_], _ => rfl
    have C_Book_fewest : MCalls PySem.Challenge.rw_meetrows_k13_whole_deeds.prog w K mg base CX0 8 (He.ga K "Book") "fewest" (spBFewest (He.ga K "Book") NN) := ⟨_, _, _, G_Book_fewest, (He.meth_ok (xf (.meth "Book" "fewest") (List.mem_cons_of_mem _ (List.mem_cons_of_mem _ (List.mem_cons_of_mem _ (List.mem_cons_of_mem _ (List.mem_cons_of_mem _ (List.mem_cons_of_mem _ (List.mem_cons_of_mem _ (List.mem_cons_of_mem _ (List.mem_cons_of_mem _ (List.mem_cons_of_mem _ (List.mem_cons_of_mem _ (List.mem_cons_of_mem _ (List.mem_cons_of_mem _ (List.mem_cons_of_mem _ (List.mem_cons_of_mem _ (List.mem_cons_of_mem _ (List.mem_cons_of_mem _ (List.mem_cons_of_mem _ (List.mem_cons_of_mem _ (List.mem_cons_of_mem _ (List.mem_cons_of_mem _ List.mem_cons_self))))))))))))))))))))))), B_Book_fewest⟩
    have G_Book__met_by : FnOk PySem.Challenge.rw_meetrows_k13_whole_deeds.prog w K mg base CX0 4 _ _ ["self", "one"] (spBMetBy K (He.ga K "Book") NN) := ok_metby F_Book__met_by (tb _ (by decide)) rfl BC C_Book__sets C_meets_sets (fr "all" (by decide))
    have B_Book__met_by : Binds K _ ["self", "one"] [] := F_Book__met_by.bindsN fun _ _ _ _ _ _ us hl => match us, hl with | [_, _], _ => rfl
    have C_Book__met_by : MCalls PySem.Challenge.rw_meetrows_k13_whole_deeds.prog w K mg base CX0 4 (He.ga K "Book") "_met_by" (spBMetBy K (He.ga K "Book") NN) := ⟨_, _, _, G_Book__met_by, (He.meth_ok (xf (.meth "Book" "_met_by") (List.mem_cons_of_mem _ (List.mem_cons_of_mem _ (List.mem_cons_of_mem _ (List.mem_cons_of_mem _ (List.mem_cons_of_mem _ (List.mem_cons_of_mem _ (List.mem_cons_of_mem _ (List.mem_cons_of_mem _ (List.mem_cons_of_mem _ (List.mem_cons_of_mem _ (List.mem_cons_of_mem _ (List.mem_cons_of_mem _ (List.mem_cons_of_mem _ (List.mem_cons_of_mem _ (List.mem_cons_of_mem _ (List.mem_cons_of_mem _ (List.mem_cons_of_mem _ (List.mem_cons_of_mem _ (List.mem_cons_of_mem _ (List.mem_cons_of_mem _ (List.mem_cons_of_mem _ (List.mem_cons_of_mem _ List.mem_cons_self)))))))))))))))))))))))), B_Book__met_by⟩
    have G_Book_meets : FnOk PySem.Challenge.rw_meetrows_k13_whole_deeds.prog w K mg base (L2.CX PySem.Challenge.rw_meetrows_k13_whole_deeds.prog w) 5 _ _ ["self", "names"] (spBMeets K (He.ga K "Book") NN RR) := ok_bmeets F_Book_meets BC C_names_from C_Book__met_by
    have B_Book_meets : Binds K _ ["self", "names"] [] := F_Book_meets.bindsN fun _ _ _ _ _ _ us hl => match us, hl with | [_, _], _ => rfl
    have C_Book_meets : MCalls PySem.Challenge.rw_meetrows_k13_whole_deeds.prog w K mg base (L2.CX PySem.Challenge.rw_meetrows_k13_whole_deeds.prog w) 5 (He.ga K "Book") "meets" (spBMeets K (He.ga K "Book") NN RR) := ⟨_, _, _, G_Book_meets, (He.meth_ok (xf (.meth "Book" "meets") (List.mem_cons_of_mem _ (List.mem_cons_of_mem _ (List.mem_cons_of_mem _ (List.mem_cons_of_mem _ (List.mem_cons_of_mem _ (List.mem_cons_of_mem _ (List.mem_cons_of_mem _ (List.mem_cons_of_mem _ (List.mem_cons_of_mem _ (List.mem_cons_of_mem _ (List.mem_cons_of_mem _ (List.mem_cons_of_mem _ (List.mem_cons_of_mem _ (List.mem_cons_of_mem _ (List.mem_cons_of_mem _ (List.mem_cons_of_mem _ (List.mem_cons_of_mem _ (List.mem_cons_of_mem _ (List.mem_cons_of_mem _ (List.mem_cons_of_mem _ (List.mem_cons_of_mem _ (List.mem_cons_of_mem _ (List.mem_cons_of_mem _ List.mem_cons_self))))))))))))))))))))))))), B_Book_meets⟩
    have G_Book__meeting : FnOk PySem.Challenge.rw_meetrows_k13_whole_deeds.prog w K mg base (L2.CX PySem.Challenge.rw_meetrows_k13_whole_deeds.prog w) 5 _ _ ["self", "names"] (spBMeeting K (He.ga K "Book") NN RR) := ok_bmeeting F_Book__meeting BC C_names_from C_Book__met_by EC_NoMeet
    have B_Book__meeting : Binds K _ ["self", "names"] [] := F_Book__meeting.bindsN fun _ _ _ _ _ _ us hl => match us, hl with | [_, _], _ => rfl
    have C_Book__meeting : MCalls PySem.Challenge.rw_meetrows_k13_whole_deeds.prog w K mg base (L2.CX PySem.Challenge.rw_meetrows_k13_whole_deeds.prog w) 5 (He.ga K "Book") "_meeting" (spBMeeting K (He.ga K "Book") NN RR) := ⟨_, _, _, G_Book__meeting, (He.meth_ok (xf (.meth "Book" "_meeting") (List.mem_cons_of_mem _ (List.mem_cons_of_mem _ (List.mem_cons_of_mem _ (List.mem_cons_of_mem _ (List.mem_cons_of_mem _ (List.mem_cons_of_mem _ (List.mem_cons_of_mem _ (List.mem_cons_of_mem _ (List.mem_cons_of_mem _ (List.mem_cons_of_mem _ (List.mem_cons_of_mem _ (List.mem_cons_of_mem _ (List.mem_cons_of_mem _ (List.mem_cons_of_mem _ (List.mem_cons_of_mem _ (List.mem_cons_of_mem _ (List.mem_cons_of_mem _ (List.mem_cons_of_mem _ (List.mem_cons_of_mem _ (List.mem_cons_of_mem _ (List.mem_cons_of_mem _ (List.mem_cons_of_mem _ (List.mem_cons_of_mem _ (List.mem_cons_of_mem _ List.mem_cons_self)))))))))))))))))))))))))), B_Book__meeting⟩
    have G__book_of : FnOk PySem.Challenge.rw_meetrows_k13_whole_deeds.prog w K mg base (L2.CX PySem.Challenge.rw_meetrows_k13_whole_deeds.prog w) 6 _ _ ["rows"] (spBookOf (He.ga K "Book") NN RR) := ok_book_of F__book_of BC CMK C_Book_put
    have B__book_of : Binds K _ ["rows"] [] := F__book_of.bindsN fun _ _ _ _ _ _ us hl => match us, hl with | [_], _ => rfl
    have C__book_of : Calls PySem.Challenge.rw_meetrows_k13_whole_deeds.prog w K mg base (L2.CX PySem.Challenge.rw_meetrows_k13_whole_deeds.prog w) 6 "_book_of" (spBookOf (He.ga K "Book") NN RR) := ⟨_, _, _, G__book_of, gl "_book_of" (by decide), F__book_of.kp, B__book_of⟩
    have G_Book_struck : FnOk PySem.Challenge.rw_meetrows_k13_whole_deeds.prog w K mg base (L2.CX PySem.Challenge.rw_meetrows_k13_whole_deeds.prog w) 7 _ _ ["self", "name"] (spStruck K (He.ga K "Book") NN RR strike) := ok_struck F_Book_struck BC C_name_from C__book_of C_Book__sets
    have B_Book_struck : Binds K _ ["self", "name"] [] := F_Book_struck.bindsN fun _ _ _ _ _ _ us hl => match us, hl with | [_, _], _ => rfl
    have C_Book_struck : MCalls PySem.Challenge.rw_meetrows_k13_whole_deeds.prog w K mg base (L2.CX PySem.Challenge.rw_meetrows_k13_whole_deeds.prog w) 7 (He.ga K "Book") "struck" (spStruck K (He.ga K "Book") NN RR strike) := ⟨_, _, _, G_Book_struck, (He.meth_ok (xf (.meth "Book" "struck") (List.mem_cons_of_mem _ (List.mem_cons_of_mem _ (List.mem_cons_of_mem _ (List.mem_cons_of_mem _ (List.mem_cons_of_mem _ (List.mem_cons_of_mem _ (List.mem_cons_of_mem _ (List.mem_cons_of_mem _ (List.mem_cons_of_mem _ (List.mem_cons_of_mem _ (List.mem_cons_of_mem _ (List.mem_cons_of_mem _ (List.mem_cons_of_mem _ (List.mem_cons_of_mem _ (List.mem_cons_of_mem _ (List.mem_cons_of_mem _ (List.mem_cons_of_mem _ (List.mem_cons_of_mem _ (List.mem_cons_of_mem _ (List.mem_cons_of_mem _ (List.mem_cons_of_mem _ (List.mem_cons_of_mem _ (List.mem_cons_of_mem _ (List.mem_cons_of_mem _ (List.mem_cons_of_mem _ List.mem_cons_self))))))))))))))))))))))))))), B_Book_struck⟩
    have G_Book_without : FnOk PySem.Challenge.rw_meetrows_k13_whole_deeds.prog w K mg base (L2.CX PySem.Challenge.rw_meetrows_k13_whole_deeds.prog w) 7 _ _ ["self", "name"] (spStruck K (He.ga K "Book") NN RR away) := ok_without F_Book_without BC C_name_from C__book_of C_Book__sets
    have B_Book_without : Binds K _ ["self", "name"] [] := F_Book_without.bindsN fun _ _ _ _ _ _ us hl => match us, hl with | [_, _], _ => rfl
    have C_Book_without : MCalls PySem.Challenge.rw_meetrows_k13_whole_deeds.prog w K mg base (L2.CX PySem.Challenge.rw_meetrows_k13_whole_deeds.prog w) 7 (He.ga K "Book") "without" (spStruck K (He.ga K "Book") NN RR away) := ⟨_, _, _, G_Book_without, (He.meth_ok (xf (.meth "Book" "without") (List.mem_cons_of_mem _ (List.mem_cons_of_mem _ (List.mem_cons_of_mem _ (List.mem_cons_of_mem _ (List.mem_cons_of_mem _ (List.mem_cons_of_mem _ (List.mem_cons_of_mem _ (List.mem_cons_of_mem _ (List.mem_cons_of_mem _ (List.mem_cons_of_mem _ (List.mem_cons_of_mem _ (List.mem_cons_of_mem _ (List.mem_cons_of_mem _ (List.mem_cons_of_mem _ (List.mem_cons_of_mem _ (List.mem_cons_of_mem _ (List.mem_cons_of_mem _ (List.mem_cons_of_mem _ (List.mem_cons_of_mem _ (List.mem_cons_of_mem _ (List.mem_cons_of_mem _ (List.mem_cons_of_mem _ (List.mem_cons_of_mem _ (List.mem_cons_of_mem _ (List.mem_cons_of_mem _ (List.mem_cons_of_mem _ List.mem_cons_self)))))))))))))))))))))))))))), B_Book_without⟩
    have G_Book_joined : FnOk PySem.Challenge.rw_meetrows_k13_whole_deeds.prog w K mg base (L2.CX PySem.Challenge.rw_meetrows_k13_whole_deeds.prog w) 7 _ _ ["self", "other"] (spJoined K (He.ga K "Book") NN RR (fun A B => A ++ B)) := ok_joined F_Book_joined BC C__book_of C_Book__sets
    have B_Book_joined : Binds K _ ["self", "other"] [] := F_Book_joined.bindsN fun _ _ _ _ _ _ us hl => match us, hl with | [_, _], _ => rfl
    have C_Book_joined : MCalls PySem.Challenge.rw_meetrows_k13_whole_deeds.prog w K mg base (L2.CX PySem.Challenge.rw_meetrows_k13_whole_deeds.prog w) 7 (He.ga K "Book") "joined" (spJoined K (He.ga K "Book") NN RR (fun A B => A ++ B)) := ⟨_, _, _, G_Book_joined, (He.meth_ok (xf (.meth "Book" "joined") (List.mem_cons_of_mem _ (List.mem_cons_of_mem _ (List.mem_cons_of_mem _ (List.mem_cons_of_mem _ (List.mem_cons_of_mem _ (List.mem_cons_of_mem _ (List.mem_cons_of_mem _ (List.mem_cons_of_mem _ (List.mem_cons_of_mem _ (List.mem_cons_of_mem _ (List.mem_cons_of_mem _ (List.mem_cons_of_mem _ (List.mem_cons_of_mem _ (List.mem_cons_of_mem _ (List.mem_cons_of_mem _ (List.mem_cons_of_mem _ (List.mem_cons_of_mem _ (List.mem_cons_of_mem _ (List.mem_cons_of_mem _ (List.mem_cons_of_mem _ (List.mem_cons_of_mem _ (List.mem_cons_of_mem _ (List.mem_cons_of_mem _ (List.mem_cons_of_mem _ (List.mem_cons_of_mem _ (List.mem_cons_of_mem _ (List.mem_cons_of_mem _ List.mem_cons_self))))))))))))))))))))))))))))), B_Book_joined⟩
    have G_Book_crossed : FnOk PySem.Challenge.rw_meetrows_k13_whole_deeds.prog w K mg base (L2.CX PySem.Challenge.rw_meetrows_k13_whole_deeds.prog w) 7 _ _ ["self", "other"] (spJoined K (He.ga K "Book") NN RR unions) := ok_crossed F_Book_crossed BC C__book_of C_rising C_Book__sets
    have B_Book_crossed : Binds K _ ["self", "other"] [] := F_Book_crossed.bindsN fun _ _ _ _ _ _ us hl => match us, hl with | [_, _], _ => rfl
    have C_Book_crossed : MCalls PySem.Challenge.rw_meetrows_k13_whole_deeds.prog w K mg base (L2.CX PySem.Challenge.rw_meetrows_k13_whole_deeds.prog w) 7 (He.ga K "Book") "crossed" (spJoined K (He.ga K "Book") NN RR unions) := ⟨_, _, _, G_Book_crossed, (He.meth_ok (xf (.meth "Book" "crossed") (List.mem_cons_of_mem _ (List.mem_cons_of_mem _ (List.mem_cons_of_mem _ (List.mem_cons_of_mem _ (List.mem_cons_of_mem _ (List.mem_cons_of_mem _ (List.mem_cons_of_mem _ (List.mem_cons_of_mem _ (List.mem_cons_of_mem _ (List.mem_cons_of_mem _ (List.mem_cons_of_mem _ (List.mem_cons_of_mem _ (List.mem_cons_of_mem _ (List.mem_cons_of_mem _ (List.mem_cons_of_mem _ (List.mem_cons_of_mem _ (List.mem_cons_of_mem _ (List.mem_cons_of_mem _ (List.mem_cons_of_mem _ (List.mem_cons_of_mem _ (List.mem_cons_of_mem _ (List.mem_cons_of_mem _ (List.mem_cons_of_mem _ (List.mem_cons_of_mem _ (List.mem_cons_of_mem _ (List.mem_cons_of_mem _ (List.mem_cons_of_mem _ (List.mem_cons_of_mem _ List.mem_cons_self)))))))))))))))))))))))))))))), B_Book_crossed⟩
    have G_Book_pared : FnOk PySem.Challenge.rw_meetrows_k13_whole_deeds.prog w K mg base (L2.CX PySem.Challenge.rw_meetrows_k13_whole_deeds.prog w) 6 _ _ ["self", "names"] (spBPared K (He.ga K "Book") NN RR) := ok_bpared F_Book_pared BC C_Book__meeting C_Book__met_by (fr "reversed" (by decide))
    have B_Book_pared : Binds K _ ["self", "names"] [] := F_Book_pared.bindsN fun _ _ _ _ _ _ us hl => match us, hl with | [_, _], _ => rfl
    have C_Book_pared : MCalls PySem.Challenge.rw_meetrows_k13_whole_deeds.prog w K mg base (L2.CX PySem.Challenge.rw_meetrows_k13_whole_deeds.prog w) 6 (He.ga K "Book") "pared" (spBPared K (He.ga K "Book") NN RR) := ⟨_, _, _, G_Book_pared, (He.meth_ok (xf (.meth "Book" "pared") (List.mem_cons_of_mem _ (List.mem_cons_of_mem _ (List.mem_cons_of_mem _ (List.mem_cons_of_mem _ (List.mem_cons_of_mem _ (List.mem_cons_of_mem _ (List.mem_cons_of_mem _ (List.mem_cons_of_mem _ (List.mem_cons_of_mem _ (List.mem_cons_of_mem _ (List.mem_cons_of_mem _ (List.mem_cons_of_mem _ (List.mem_cons_of_mem _ (List.mem_cons_of_mem _ (List.mem_cons_of_mem _ (List.mem_cons_of_mem _ (List.mem_cons_of_mem _ (List.mem_cons_of_mem _ (List.mem_cons_of_mem _ (List.mem_cons_of_mem _ (List.mem_cons_of_mem _ (List.mem_cons_of_mem _ (List.mem_cons_of_mem _ (List.mem_cons_of_mem _ (List.mem_cons_of_mem _ (List.mem_cons_of_mem _ (List.mem_cons_of_mem _ (List.mem_cons_of_mem _ (List.mem_cons_of_mem _ List.mem_cons_self))))))))))))))))))))))))))))))), B_Book_pared⟩
    have G_Book__first_own : FnOk PySem.Challenge.rw_meetrows_k13_whole_deeds.prog w K mg base CX0 1 _ _ ["self", "name", "asked"] (spFirstOwn K (He.ga K "Book")) := ok_first_own F_Book__first_own BC
    have B_Book__first_own : Binds K _ ["self", "name", "asked"] [] := F_Book__first_own.bindsN fun _ _ _ _ _ _ us hl => match us, hl with | [_, _, _], _ => rfl
    have C_Book__first_own : MCalls PySem.Challenge.rw_meetrows_k13_whole_deeds.prog w K mg base CX0 1 (He.ga K "Book") "_first_own" (spFirstOwn K (He.ga K "Book")) := ⟨_, _, _, G_Book__first_own, (He.meth_ok (xf (.meth "Book" "_first_own") (List.mem_cons_of_mem _ (List.mem_cons_of_mem _ (List.mem_cons_of_mem _ (List.mem_cons_of_mem _ (List.mem_cons_of_mem _ (List.mem_cons_of_mem _ (List.mem_cons_of_mem _ (List.mem_cons_of_mem _ (List.mem_cons_of_mem _ (List.mem_cons_of_mem _ (List.mem_cons_of_mem _ (List.mem_cons_of_mem _ (List.mem_cons_of_mem _ (List.mem_cons_of_mem _ (List.mem_cons_of_mem _ (List.mem_cons_of_mem _ (List.mem_cons_of_mem _ (List.mem_cons_of_mem _ (List.mem_cons_of_mem _ (List.mem_cons_of_mem _ (List.mem_cons_of_mem _ (List.mem_cons_of_mem _ (List.mem_cons_of_mem _ (List.mem_cons_of_mem _ (List.mem_cons_of_mem _ (List.mem_cons_of_mem _ (List.mem_cons_of_mem _ (List.mem_cons_of_mem _ (List.mem_cons_of_mem _ (List.mem_cons_of_mem _ List.mem_cons_self)))))))))))))))))))))))))))))))), B_Book__first_own⟩
    have G_Book_own : FnOk PySem.Challenge.rw_meetrows_k13_whole_deeds.prog w K mg base (L2.CX PySem.Challenge.rw_meetrows_k13_whole_deeds.prog w) 6 _ _ ["self", "names"] (spBOwn K (He.ga K "Book") NN RR) := ok_own F_Book_own (tb _ (by decide)) rfl BC C_Book__meeting C_Book__first_own EC_NoMeet (fr "any" (by decide))
    have B_Book_own : Binds K _ ["self", "names"] [] := F_Book_own.bindsN fun _ _ _ _ _ _ us hl => match us, hl with | [_, _], _ => rfl
    have C_Book_own : MCalls PySem.Challenge.rw_meetrows_k13_whole_deeds.prog w K mg base (L2.CX PySem.Challenge.rw_meetrows_k13_whole_deeds.prog w) 6 (He.ga K "Book") "own" (spBOwn K (He.ga K "Book") NN RR) := ⟨_, _, _, G_Book_own, (He.meth_ok (xf (.meth "Book" "own") (List.mem_cons_of_mem _ (List.mem_cons_of_mem _ (List.mem_cons_of_mem _ (List.mem_cons_of_mem _ (List.mem_cons_of_mem _ (List.mem_cons_of_mem _ (List.mem_cons_of_mem _ (List.mem_cons_of_mem _ (List.mem_cons_of_mem _ (List.mem_cons_of_mem _ (List.mem_cons_of_mem _ (List.mem_cons_of_mem _ (List.mem_cons_of_mem _ (List.mem_cons_of_mem _ (List.mem_cons_of_mem _ (List.mem_cons_of_mem _ (List.mem_cons_of_mem _ (List.mem_cons_of_mem _ (List.mem_cons_of_mem _ (List.mem_cons_of_mem _ (List.mem_cons_of_mem _ (List.mem_cons_of_mem _ (List.mem_cons_of_mem _ (List.mem_cons_of_mem _ (List.mem_cons_of_mem _ (List.mem_cons_of_mem _ (List.mem_cons_of_mem _ (List.mem_cons_of_mem _ (List.mem_cons_of_mem _ (List.mem_cons_of_mem _ (List.mem_cons_of_mem _ List.mem_cons_self))))))))))))))))))))))))))))))))), B_Book_own⟩
    have G_Book_needed : FnOk PySem.Challenge.rw_meetrows_k13_whole_deeds.prog w K mg base CX0 7 _ _ ["self"] (spBNeeded (He.ga K "Book") NN) := ok_bneeded F_Book_needed BC C_Book_least_rows (fr "len" (by decide))
    have B_Book_needed : Binds K _ ["self"] [] := F_Book_needed.bindsN fun _ _ _ _ _ _ us hl => match us, hl with | [_], _ => rfl
    have C_Book_needed : MCalls PySem.Challenge.rw_meetrows_k13_whole_deeds.prog w K mg base CX0 7 (He.ga K "Book") "needed" (spBNeeded (He.ga K "Book") NN) := ⟨_, _, _, G_Book_needed, (He.meth_ok (xf (.meth "Book" "needed") (List.mem_cons_of_mem _ (List.mem_cons_of_mem _ (List.mem_cons_of_mem _ (List.mem_cons_of_mem _ (List.mem_cons_of_mem _ (List.mem_cons_of_mem _ (List.mem_cons_of_mem _ (List.mem_cons_of_mem _ (List.mem_cons_of_mem _ (List.mem_cons_of_mem _ (List.mem_cons_of_mem _ (List.mem_cons_of_mem _ (List.mem_cons_of_mem _ (List.mem_cons_of_mem _ (List.mem_cons_of_mem _ (List.mem_cons_of_mem _ (List.mem_cons_of_mem _ (List.mem_cons_of_mem _ (List.mem_cons_of_mem _ (List.mem_cons_of_mem _ (List.mem_cons_of_mem _ (List.mem_cons_of_mem _ (List.mem_cons_of_mem _ (List.mem_cons_of_mem _ (List.mem_cons_of_mem _ (List.mem_cons_of_mem _ (List.mem_cons_of_mem _ (List.mem_cons_of_mem _ (List.mem_cons_of_mem _ (List.mem_cons_of_mem _ (List.mem_cons_of_mem _ (List.mem_cons_of_mem _ List.mem_cons_self)))))))))))))))))))))))))))))))))), B_Book_needed⟩
    have G__law_numbered : FnOk PySem.Challenge.rw_meetrows_k13_whole_deeds.prog w K mg base CX0 1 _ _ ["_law_rows"] (spNumbered K) := ok_numbered F__law_numbered (fr "range" (by decide)) (fr "len" (by decide)) (fr "sorted" (by decide))
    have B__law_numbered : Binds K _ ["_law_rows"] [] := F__law_numbered.bindsN fun _ _ _ _ _ _ us hl => match us, hl with | [_], _ => rfl
    have C__law_numbered : Calls PySem.Challenge.rw_meetrows_k13_whole_deeds.prog w K mg base CX0 1 "_law_numbered" (spNumbered K) := ⟨_, _, _, G__law_numbered, gl "_law_numbered" (by decide), F__law_numbered.kp, B__law_numbered⟩
    have G_Book_idle : FnOk PySem.Challenge.rw_meetrows_k13_whole_deeds.prog w K mg base CX0 7 _ _ ["self"] (spBIdle (He.ga K "Book") NN) := ok_idle F_Book_idle BC C_Book_names C_Book_least_rows (fr "sorted" (by decide)) (fr "set" (by decide))
    have B_Book_idle : Binds K _ ["self"] [] := F_Book_idle.bindsN fun _ _ _ _ _ _ us hl => match us, hl with | [_], _ => rfl
    have C_Book_idle : MCalls PySem.Challenge.rw_meetrows_k13_whole_deeds.prog w K mg base CX0 7 (He.ga K "Book") "idle" (spBIdle (He.ga K "Book") NN) := ⟨_, _, _, G_Book_idle, (He.meth_ok (xf (.meth "Book" "idle") (List.mem_cons_of_mem _ (List.mem_cons_of_mem _ (List.mem_cons_of_mem _ (List.mem_cons_of_mem _ (List.mem_cons_of_mem _ (List.mem_cons_of_mem _ (List.mem_cons_of_mem _ (List.mem_cons_of_mem _ (List.mem_cons_of_mem _ (List.mem_cons_of_mem _ (List.mem_cons_of_mem _ (List.mem_cons_of_mem _ (List.mem_cons_of_mem _ (List.mem_cons_of_mem _ (List.mem_cons_of_mem _ (List.mem_cons_of_mem _ (List.mem_cons_of_mem _ (List.mem_cons_of_mem _ (List.mem_cons_of_mem _ (List.mem_cons_of_mem _ (List.mem_cons_of_mem _ (List.mem_cons_of_mem _ (List.mem_cons_of_mem _ (List.mem_cons_of_mem _ (List.mem_cons_of_mem _ (List.mem_cons_of_mem _ (List.mem_cons_of_mem _ (List.mem_cons_of_mem _ (List.mem_cons_of_mem _ (List.mem_cons_of_mem _ (List.mem_cons_of_mem _ (List.mem_cons_of_mem _ (List.mem_cons_of_mem _ List.mem_cons_self))))))))))))))))))))))))))))))))))), B_Book_idle⟩
    have G__line_of : FnOk PySem.Challenge.rw_meetrows_k13_whole_deeds.prog w K mg base CX0 1 _ _ ["row"] (spLine K) := ok_line F__line_of gS_EMPTY_ROW
    have B__line_of : Binds K _ ["row"] [] := F__line_of.bindsN fun _ _ _ _ _ _ us hl => match us, hl with | [_], _ => rfl
    have C__line_of : Calls PySem.Challenge.rw_meetrows_k13_whole_deeds.prog w K mg base CX0 1 "_line_of" (spLine K) := ⟨_, _, _, G__line_of, gl "_line_of" (by decide), F__line_of.kp, B__line_of⟩
    have G_text_of : FnOk PySem.Challenge.rw_meetrows_k13_whole_deeds.prog w K mg base CX0 2 _ _ ["book"] (spTextOf (He.ga K "Book")) := ok_text_of F_text_of BC C_Book_rows C__line_of
    have B_text_of : Binds K _ ["book"] [] := F_text_of.bindsN fun _ _ _ _ _ _ us hl => match us, hl with | [_], _ => rfl
    have C_text_of : Calls PySem.Challenge.rw_meetrows_k13_whole_deeds.prog w K mg base CX0 2 "text_of" (spTextOf (He.ga K "Book")) := ⟨_, _, _, G_text_of, gl "text_of" (by decide), F_text_of.kp, B_text_of⟩
    have G__law_pared : FnOk PySem.Challenge.rw_meetrows_k13_whole_deeds.prog w K mg base CX0 3 _ _ ["_law_one_here", "_law_rows"] (spPared K) := ok_pared F__law_pared C__law_meets_all (fr "list" (by decide)) (fr "reversed" (by decide))
    have B__law_pared : Binds K _ ["_law_one_here", "_law_rows"] [] := F__law_pared.bindsN fun _ _ _ _ _ _ us hl => match us, hl with | [_, _], _ => rfl
    have C__law_pared : Calls PySem.Challenge.rw_meetrows_k13_whole_deeds.prog w K mg base CX0 3 "_law_pared" (spPared K) := ⟨_, _, _, G__law_pared, gl "_law_pared" (by decide), F__law_pared.kp, B__law_pared⟩
    have G__law_least_rows : FnOk PySem.Challenge.rw_meetrows_k13_whole_deeds.prog w K mg base CX0 2 _ _ ["_law_rows"] (spLRows K) := ok_lrows F__law_least_rows C__law_ranked C__law_within (fr "sorted" (by decide))
    have B__law_least_rows : Binds K _ ["_law_rows"] [] := F__law_least_rows.bindsN fun _ _ _ _ _ _ us hl => match us, hl with | [_], _ => rfl
    have C__law_least_rows : Calls PySem.Challenge.rw_meetrows_k13_whole_deeds.prog w K mg base CX0 2 "_law_least_rows" (spLRows K) := ⟨_, _, _, G__law_least_rows, gl "_law_least_rows" (by decide), F__law_least_rows.kp, B__law_least_rows⟩
    have G__law_own : FnOk PySem.Challenge.rw_meetrows_k13_whole_deeds.prog w K mg base CX0 1 _ _ ["_law_one_here", "_law_table"] (spLOwn K) := ok_lown F__law_own (fr "list" (by decide)) (fr "sorted" (by decide))
    have B__law_own : Binds K _ ["_law_one_here", "_law_table"] [] := F__law_own.bindsN fun _ _ _ _ _ _ us hl => match us, hl with | [_, _], _ => rfl
    have C__law_own : Calls PySem.Challenge.rw_meetrows_k13_whole_deeds.prog w K mg base CX0 1 "_law_own" (spLOwn K) := ⟨_, _, _, G__law_own, gl "_law_own" (by decide), F__law_own.kp, B__law_own⟩
    have G__law_nothing : FnOk PySem.Challenge.rw_meetrows_k13_whole_deeds.prog w K mg base CX0 7 _ _ ["_law_book", "_law_table"] (spNoth (He.ga K "Book") NN) := ok_noth (R := RR) F__law_nothing ⟨BC, C_Book_own, C_Book_pared, C__law_pared, C__law_own, gl "NoMeet" (by decide), xM, (fr "list" (by decide)), (fr "sorted" (by decide))⟩
    have B__law_nothing : Binds K _ ["_law_book", "_law_table"] [] := F__law_nothing.bindsN fun _ _ _ _ _ _ us hl => match us, hl with | [_, _], _ => rfl
    have C__law_nothing : Calls PySem.Challenge.rw_meetrows_k13_whole_deeds.prog w K mg base CX0 7 "_law_nothing" (spNoth (He.ga K "Book") NN) := ⟨_, _, _, G__law_nothing, gl "_law_nothing" (by decide), F__law_nothing.kp, B__law_nothing⟩
    have G__law_left : FnOk PySem.Challenge.rw_meetrows_k13_whole_deeds.prog w K mg base CX0 7 _ _ ["_law_book", "_law_names_here", "_law_rows", "_law_due", "_law_held"] (spLeft K (He.ga K "Book") NN) := ok_left (R := RR) F__law_left ⟨BC, C_Book_own, C_Book_pared, C__law_pared, C__law_own, gl "NoMeet" (by decide), xM, (fr "list" (by decide)), (fr "sorted" (by decide))⟩
    have B__law_left : Binds K _ ["_law_book", "_law_names_here", "_law_rows", "_law_due", "_law_held"] [] := F__law_left.bindsN fun _ _ _ _ _ _ us hl => match us, hl with | [_, _, _, _, _], _ => rfl
    have C__law_left : Calls PySem.Challenge.rw_meetrows_k13_whole_deeds.prog w K mg base CX0 7 "_law_left" (spLeft K (He.ga K "Book") NN) := ⟨_, _, _, G__law_left, gl "_law_left" (by decide), F__law_left.kp, B__law_left⟩
    have G__law_owned : FnOk PySem.Challenge.rw_meetrows_k13_whole_deeds.prog w K mg base CX0 7 _ _ ["_law_book", "_law_table", "_law_due", "_law_held"] (spOwned K (He.ga K "Book") NN) := ok_owned (R := RR) F__law_owned ⟨BC, C_Book_own, C_Book_pared, C__law_pared, C__law_own, gl "NoMeet" (by decide), xM, (fr "list" (by decide)), (fr "sorted" (by decide))⟩
    have B__law_owned : Binds K _ ["_law_book", "_law_table", "_law_due", "_law_held"] [] := F__law_owned.bindsN fun _ _ _ _ _ _ us hl => match us, hl with | [_, _, _, _], _ => rfl
    have C__law_owned : Calls PySem.Challenge.rw_meetrows_k13_whole_deeds.prog w K mg base CX0 7 "_law_owned" (spOwned K (He.ga K "Book") NN) := ⟨_, _, _, G__law_owned, gl "_law_owned" (by decide), F__law_owned.kp, B__law_owned⟩
    have G__law_two : FnOk PySem.Challenge.rw_meetrows_k13_whole_deeds.prog w K mg base CX0 8 _ _ ["_law_book", "_law_table", "_law_other_here", "_law_beside"] (spTwo (He.ga K "Book") NN) := ok_two (R := RR) F__law_two ⟨BC, C_Book_joined, C_Book_crossed, C_Book_rows, C__law_numbered, (fr "len" (by decide)), (fr "list" (by decide)), (fr "sorted" (by decide))⟩
    have B__law_two : Binds K _ ["_law_book", "_law_table", "_law_other_here", "_law_beside"] [] := F__law_two.bindsN fun _ _ _ _ _ _ us hl => match us, hl with | [_, _, _, _], _ => rfl
    have C__law_two : Calls PySem.Challenge.rw_meetrows_k13_whole_deeds.prog w K mg base CX0 8 "_law_two" (spTwo (He.ga K "Book") NN) := ⟨_, _, _, G__law_two, gl "_law_two" (by decide), F__law_two.kp, B__law_two⟩
    have G__law_one : FnOk PySem.Challenge.rw_meetrows_k13_whole_deeds.prog w K mg base CX0 8 _ _ ["_law_book", "_law_way", "_law_names_here", "_law_name", "_law_table", "_law_due", "_law_held"] (spOne K (He.ga K "Book") NN) := ok_one (R := RR) F__law_one ⟨⟨BC, C_Book_joined, C_Book_crossed, C_Book_rows, C__law_numbered, (fr "len" (by decide)), (fr "list" (by decide)), (fr "sorted" (by decide))⟩, C_Book_struck, C_Book_without, C_Book_least_rows, C__law_least_rows, C__law_sets, C__law_nothing, C__law_left, C__law_owned⟩
    have B__law_one : Binds K _ ["_law_book", "_law_way", "_law_names_here", "_law_name", "_law_table", "_law_due", "_law_held"] [] := F__law_one.bindsN fun _ _ _ _ _ _ us hl => match us, hl with | [_, _, _, _, _, _, _], _ => rfl
    have C__law_one : Calls PySem.Challenge.rw_meetrows_k13_whole_deeds.prog w K mg base CX0 8 "_law_one" (spOne K (He.ga K "Book") NN) := ⟨_, _, _, G__law_one, gl "_law_one" (by decide), F__law_one.kp, B__law_one⟩
    have G__law_other : FnOk PySem.Challenge.rw_meetrows_k13_whole_deeds.prog w K mg base CX0 9 _ _ ["_law_book", "_law_way", "_law_names_here", "_law_name", "_law_table", "_law_due"] (spOther K (He.ga K "Book") NN) := ok_other (R := RR) F__law_other ⟨BC, C_Book_names, C_Book_meets, C__law_meets_all, C_Book_fewest, C_Book_needed, C_Book_idle, C_text_of, (fr "len" (by decide)), (fr "list" (by decide)), (fr "sorted" (by decide))⟩
    have B__law_other : Binds K _ ["_law_book", "_law_way", "_law_names_here", "_law_name", "_law_table", "_law_due"] [] := F__law_other.bindsN fun _ _ _ _ _ _ us hl => match us, hl with | [_, _, _, _, _, _], _ => rfl
    have C__law_other : Calls PySem.Challenge.rw_meetrows_k13_whole_deeds.prog w K mg base CX0 9 "_law_other" (spOther K (He.ga K "Book") NN) := ⟨_, _, _, G__law_other, gl "_law_other" (by decide), F__law_other.kp, B__law_other⟩
    have G__law_asked : FnOk PySem.Challenge.rw_meetrows_k13_whole_deeds.prog w K mg base CX0 10 _ _ ["_law_book", "_law_names_here", "_law_turn", "_law_table", "_law_due", "_law_held"] (spAsked13 K (He.ga K "Book") NN) := ok_asked13 (R := RR) F__law_asked ⟨C__law_one, C__law_other, (fr "len" (by decide)), (fr "range" (by decide))⟩
    have B__law_asked : Binds K _ ["_law_book", "_law_names_here", "_law_turn", "_law_table", "_law_due", "_law_held"] [] := F__law_asked.bindsN fun _ _ _ _ _ _ us hl => match us, hl with | [_, _, _, _, _, _], _ => rfl
    have C__law_asked : Calls PySem.Challenge.rw_meetrows_k13_whole_deeds.prog w K mg base CX0 10 "_law_asked" (spAsked13 K (He.ga K "Book") NN) := ⟨_, _, _, G__law_asked, gl "_law_asked" (by decide), F__law_asked.kp, B__law_asked⟩
    have G__law_right : FnOk PySem.Challenge.rw_meetrows_k13_whole_deeds.prog w K mg base CX0 11 _ _ ["_law_book", "_law_table", "_law_names_here", "_law_held", "_law_turn"] (spRight13 K (He.ga K "Book") NN) := ok_right13 (R := RR) F__law_right ⟨BC, C__law_asked, C__law_least, C_Book_least, C_Book_rows, C__law_sets, (fr "list" (by decide)), (fr "sorted" (by decide))⟩
    have B__law_right : Binds K _ ["_law_book", "_law_table", "_law_names_here", "_law_held", "_law_turn"] [] := F__law_right.bindsN fun _ _ _ _ _ _ us hl => match us, hl with | [_, _, _, _, _], _ => rfl
    have C__law_right : Calls PySem.Challenge.rw_meetrows_k13_whole_deeds.prog w K mg base CX0 11 "_law_right" (spRight13 K (He.ga K "Book") NN) := ⟨_, _, _, G__law_right, gl "_law_right" (by decide), F__law_right.kp, B__law_right⟩
    have G__law_all_right : FnOk PySem.Challenge.rw_meetrows_k13_whole_deeds.prog w K mg base CX0 12 _ _ ["_law_books", "_law_tables", "_law_names_here", "_law_held", "_law_cell"] (spAllR K (He.ga K "Book") NN) := ok_allr (R := RR) F__law_all_right ⟨C__law_two, C__law_right⟩
    have B__law_all_right : Binds K _ ["_law_books", "_law_tables", "_law_names_here", "_law_held", "_law_cell"] [] := F__law_all_right.bindsN fun _ _ _ _ _ _ us hl => match us, hl with | [_, _, _, _, _], _ => rfl
    have C__law_all_right : Calls PySem.Challenge.rw_meetrows_k13_whole_deeds.prog w K mg base CX0 12 "_law_all_right" (spAllR K (He.ga K "Book") NN) := ⟨_, _, _, G__law_all_right, gl "_law_all_right" (by decide), F__law_all_right.kp, B__law_all_right⟩
    have G__law_anew : FnOk PySem.Challenge.rw_meetrows_k13_whole_deeds.prog w K mg base CX0 1 _ _ ["_law_tables", "_law_counts", "_law_side", "_law_rows"] (spAnew) := ok_anew F__law_anew (fr "len" (by decide)) (fr "range" (by decide)) (fr "dict" (by decide))
    have B__law_anew : Binds K _ ["_law_tables", "_law_counts", "_law_side", "_law_rows"] [] := F__law_anew.bindsN fun _ _ _ _ _ _ us hl => match us, hl with | [_, _, _, _], _ => rfl
    have C__law_anew : Calls PySem.Challenge.rw_meetrows_k13_whole_deeds.prog w K mg base CX0 1 "_law_anew" (spAnew) := ⟨_, _, _, G__law_anew, gl "_law_anew" (by decide), F__law_anew.kp, B__law_anew⟩
    have G__law_put : FnOk PySem.Challenge.rw_meetrows_k13_whole_deeds.prog w K mg base CX0 6 _ _ ["_law_books", "_law_tables", "_law_counts", "_law_side", "_law_row_here"] (spPut13 K (He.ga K "Book") NN) := ok_put13 (R := RR) F__law_put ⟨BC, C_Book_put, (fr "list" (by decide))⟩
    have B__law_put : Binds K _ ["_law_books", "_law_tables", "_law_counts", "_law_side", "_law_row_here"] [] := F__law_put.bindsN fun _ _ _ _ _ _ us hl => match us, hl with | [_, _, _, _, _], _ => rfl
    have C__law_put : Calls PySem.Challenge.rw_meetrows_k13_whole_deeds.prog w K mg base CX0 6 "_law_put" (spPut13 K (He.ga K "Book") NN) := ⟨_, _, _, G__law_put, gl "_law_put" (by decide), F__law_put.kp, B__law_put⟩
    have G__law_deed : FnOk PySem.Challenge.rw_meetrows_k13_whole_deeds.prog w K mg base CX0 8 _ _ ["_law_books", "_law_tables", "_law_counts", "_law_names_here", "_law_cell"] (spDeed K (He.ga K "Book") NN) := ok_deed (R := RR) F__law_deed ⟨BC, C_Book_take, C_Book_struck, C_Book_without, C_Book_joined, C__law_put, C__law_row, C__law_anew, (fr "len" (by decide)), (fr "list" (by decide)), (fr "sorted" (by decide))⟩
    have B__law_deed : Binds K _ ["_law_books", "_law_tables", "_law_counts", "_law_names_here", "_law_cell"] [] := F__law_deed.bindsN fun _ _ _ _ _ _ us hl => match us, hl with | [_, _, _, _, _], _ => rfl
    have C__law_deed : Calls PySem.Challenge.rw_meetrows_k13_whole_deeds.prog w K mg base CX0 8 "_law_deed" (spDeed K (He.ga K "Book") NN) := ⟨_, _, _, G__law_deed, gl "_law_deed" (by decide), F__law_deed.kp, B__law_deed⟩
    exact ok_law13 (R := RR) F_law ⟨BC, CMK, C__law_names, C__law_deed, C__law_all_right, (fr "all" (by decide))⟩
end K1
open PySem PySem.W PySem.Calls PyProof.Rows
theorem PySem.Challenge.cw_meetrows_k13_whole_deeds_holds : PySem.Challenge.rw_meetrows_k13_whole_deeds.Holds := by
  w_on; o_law
  refine HandSHeadRun.head_any (r := OpenLaw.row PySem.Challenge.rw_meetrows_k13_whole_deeds) (q := view (OpenLaw.row PySem.Challenge.rw_meetrows_k13_whole_deeds).prog [60]) (H := K1.hk) (ob := K1.ob) (M := 8000) (loose := K1.loose) (d := HandSHeadRun.topDef (OpenLaw.row PySem.Challenge.rw_meetrows_k13_whole_deeds).prog 60) (kwd := []) K1.ob_eq
    (by kernel_rfl) (fun s => by kernel_rfl) K1.run (by kernel_rfl) (by kernel_rfl) (by kernel_rfl) (by rfl) (by first | assumption | decide +kernel) (by decide +kernel) ⟨rfl, rfl, rfl, rfl, rfl, by decide +kernel⟩ ?hw ?hc
  case hw => w_witness2
  case hc =>
    refine LamX.walk_ofTsE (l := PySem.Challenge.rw_meetrows_k13_whole_deeds) (n := 63) (k := 13) (x := "_law_script") (CX := fun _ => L2.CX0) rfl (by decide) (by kernel_rfl) ⟨rfl, by decide, by decide⟩ ?F (fun _ _ _ _ _ z => z)
    intro w mg fa h Y G hmg0
    obtain ⟨K, KX, c⟩ := Y
    have hmg : mg ("law" : PySem.Str) = some (.ref fa) := by
      have e : (HandSHeadRun.topDef (OpenLaw.row PySem.Challenge.rw_meetrows_k13_whole_deeds).prog 60).name = ("law" : PySem.Str) := by kernel_rfl
      rw [← e]
      exact hmg0
    exact ⟨K, KX, K1.facts KX G hmg c⟩
end
