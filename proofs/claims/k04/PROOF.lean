import PyProof.Rows.All
import Wide.All
import OpenK.AllK
import Wide.FinOn
import HandS.ForMost
import HandS.Set
import HandS.SetFor
import HandS.More
import HandS.Wide
import HandS.IsInst
import HandS.WordsDict
import HandS.FStr
import HandS.TupAny
import HandS.WordsList
import PySem.Challenge.RW_soothcheck_k04_texts_of_kinds
set_option Elab.async false
set_option linter.all false
set_option maxRecDepth 100000
set_option maxHeartbeats 4000000
namespace Sc
open PySem PySem.Spec PyProof.Rows L2
/-! sets of texts: set(a list of texts), sorted of that -/
def txOf (c : Int × Value) : Str := match c.2 with | .str x _ => x | _ => Str.empty
def TxE (w : World) (c : Int × Value) : Prop := ∃ x tk, c.2 = Value.str x tk ∧ c.1 = hashStr w x
/-- a set of texts stands at a: which, how many; it can be walked -/
def TxSet (w : World) (h : Heap) (a : Addr) (S : Str → Bool) (n : Nat) : Prop :=
  ∃ ob cs ver tb, h.get? a = some ob ∧ ob.ExactSet ∧ ob.data = .set cs ver tb ∧ (∀ c ∈ cs.toList, TxE w c) ∧ (cs.toList.map txOf).Nodup ∧
    (∀ x, S x = true ↔ x ∈ cs.toList.map txOf) ∧ cs.size < scanBound ∧ tb.fits cs.size = true ∧ cs.size = n ∧ Ris tb.place.toList ∧
    (w.params.followText "set-order" = true ∨ tb.led = true)
section
variable {P : Program} {w : World} {h h' : Heap} {a : Addr} {S : Str → Bool} {n : Nat}
theorem TxSet.keep (R : TxSet w h a S n) (kp : ∀ ob, h.get? a = some ob → h'.get? a = some ob) : TxSet w h' a S n := by
  obtain ⟨ob, cs, ver, tb, hob, more⟩ := R
  exact ⟨ob, cs, ver, tb, kp ob hob, more⟩
theorem TxSet.say {S' : Str → Bool} (R : TxSet w h a S n) (same : ∀ x, S' x = S x) : TxSet w h a S' n := (funext same : S' = S) ▸ R
theorem tx_elems {l : List (Int × Value)} (g : ∀ c ∈ l, TxE w c) : ElemsOf (strKind P w) l := fun c hc => by
  obtain ⟨x, tk, h1, h2⟩ := g c hc
  refine ⟨⟨x, ?_, h2⟩, by rw [h1] <;> rfl⟩
  rw [h1]
  show Value.isStrOf x (.str x tk) = true
  simp [Value.isStrOf]
theorem tx_is {c : Int × Value} (g : TxE w c) (x : Str) : (strKind P w).is x c.2 = true ↔ txOf c = x := by
  obtain ⟨y, tk, h1, _⟩ := g
  unfold txOf
  rw [h1]
  show Value.isStrOf x (.str y tk) = true ↔ y = x
  constructor
  · intro q
    obtain ⟨t, e⟩ := Value.isStrOf_shape (x := x) (v := Value.str y tk) q
    injection e
  · rintro rfl
    simp [Value.isStrOf]
theorem tx_mem {l : List (Int × Value)} (g : ∀ c ∈ l, TxE w c) (x : Str) : x ∈ l.map txOf ↔ ∃ c ∈ l, (strKind P w).is x c.2 = true := by
  refine List.mem_map.trans ⟨fun ⟨c, hc, q⟩ => ⟨c, hc, (tx_is (g c hc) x).2 q⟩, fun ⟨c, hc, q⟩ => ⟨c, hc, (tx_is (g c hc) x).1 q⟩⟩
end
section
variable {P : Program} {w : World} {A : Around} {E : Value → Shared → Prop} {s : Shared} {a : Addr} {S : Str → Bool} {n : Nat}
theorem tx_add_tail {note : Bool → Sem Unit} (hnote : ∀ (b : Bool) (s1 : Shared) (R : Unit → Shared → Prop), R () s1 → wpAny (model P w) A (note b) R E s1)
    {ob : Obj} {cs : Array (Int × Value)} {ver : Nat} {tb : SetTable} (hob : s.heap.get? a = some ob) (ex : ob.ExactSet) (dt : ob.data = .set cs ver tb)
    {cs1 : Array (Int × Value)} {tb1 : SetTable} {S1 : Str → Bool} (gd : ∀ c ∈ cs1.toList, TxE w c) (nd : (cs1.toList.map txOf).Nodup) (mm : ∀ x, S1 x = true ↔ x ∈ cs1.toList.map txOf)
    (few : cs1.size < scanBound) (ft : tb1.fits cs1.size = true) (ri : Ris tb1.place.toList) (ld : w.params.followText "set-order" = true ∨ tb1.led = true) {dummy : Bool} {R : Option Bool → Shared → Prop}
    (fin : ∀ h', Heap.SameBut a s.heap h' → TxSet w h' a S1 cs1.size → R (some true) { s with heap := h' }) :
    wpAny (model P w) A (do
        storeSet a cs1 tb1
        if (!dummy && tb1.tooFull) = true then do
            note (relayAll tb1 cs1 (SetTable.grown cs1.size)).2.2
            storeSet a (relayAll tb1 cs1 (SetTable.grown cs1.size)).1 (relayAll tb1 cs1 (SetTable.grown cs1.size)).2.1
            pure (some true)
          else pure (some true)) R E s := by
  refine wpAny_bind (wpAny_storeSet_of hob dt ?_ (fits_of_scanBound few))
  have at1 := L2.store_at (es' := cs1) (t' := tb1) hob dt
  have sb := Heap.SameBut.update s.heap a (Obj.putSet cs1 tb1)
  by_cases hfull : (!dummy && tb1.tooFull) = true
  · rw [if_pos hfull]
    have r1 := relayAll_perm tb1 cs1 (SetTable.grown cs1.size)
    have r2 := relayAll_fits tb1 cs1 (SetTable.grown cs1.size)
    have r3 := relayAll_ris tb1 cs1 (SetTable.grown cs1.size)
    have r4 := relayAll_led tb1 cs1 (SetTable.grown cs1.size)
    generalize relayAll tb1 cs1 (SetTable.grown cs1.size) = Y at r1 r2 r3 r4 ⊢
    obtain ⟨cs2, tb2, way⟩ := Y
    dsimp only at r1 r2 r3 r4 ⊢
    have sz : cs2.size = cs1.size := by rw [← Array.length_toList, ← Array.length_toList]; exact r1.length_eq
    have few2 : cs2.size < scanBound := sz ▸ few
    refine wpAny_bind (hnote _ _ _ (wpAny_bind (wpAny_storeSet_of at1 rfl ?_ (fits_of_scanBound few2))))
    have at2 := L2.store_at (es' := cs2) (t' := tb2) at1 rfl
    refine wpAny_pure (fin _ (sb.trans (Heap.SameBut.update _ a _)) ⟨_, cs2, _, tb2, at2, ex, rfl, fun c hc => gd c (r1.mem_iff.mp hc), ?_, fun x => ?_, few2, r2, sz, r3, ?_⟩)
    · exact (r1.map txOf).nodup_iff.mpr nd
    · exact (mm x).trans (r1.map txOf).mem_iff.symm
    · exact ld.imp id fun z => r4 ▸ z
  · rw [if_neg hfull]
    exact wpAny_pure (fin _ sb ⟨_, cs1, _, tb1, at1, ex, rfl, gd, nd, mm, few, ft, rfl, ri, ld⟩)
theorem tx_add {x : Str} {tk : Tok} {Q : Bool → Shared → Prop} (R : TxSet w s.heap a S n) (room : n + 1 < scanBound)
    (fin : ∀ h', Heap.SameBut a s.heap h' → TxSet w h' a (fun y => S y || decide (y = x)) (if S x = true then n else n + 1) → Q (!S x) { s with heap := h' }) :
    wpAny (model P w) A (setAddHashed a (.str x tk) ((strKind P w).hash x)) Q E s := by
  obtain ⟨ob, cs, ver, tb, hob, ex, dt, gd, nd, mm, few, ft, sz, ri, ld⟩ := R
  have isx : (strKind P w).is x (.str x tk) = true := by
    show Value.isStrOf x (.str x tk) = true
    simp [Value.isStrOf]
  have scn : (Value.str x tk).scannable = true := rfl
  have els : ElemsOf (strKind P w) cs.toList := tx_elems gd
  unfold setAddHashed setAddHashedIn
  refine wpAny_holding (wpAny_bind (wpAny_setState_of hob dt ft ?_))
  dsimp only
  rw [byScan_of scn few els]
  simp only [↓reduceIte]
  unfold setAddByScan
  refine wpAny_bind (wpAny_bind (wpAny_rule (wpAny_bind (wpAny_setScan_of isx hob dt ft els ?_))))
  cases found : List.findIdx? (fun e => (strKind P w).is x e.2) cs.toList with
  | some j =>
    dsimp only
    obtain ⟨lt, yes, _⟩ := List.findIdx?_eq_some_iff_getElem.mp found
    have inS : S x = true := (mm x).2 ((tx_mem (P := P) (w := w) gd x).2 ⟨cs.toList[j], List.getElem_mem lt, yes⟩)
    refine wpAny_pure (wpAny_pure ?_)
    have z := fin s.heap (Heap.SameBut.refl a s.heap) ⟨ob, cs, ver, tb, hob, ex, dt, gd, nd, fun y => ?_, few, ft, by rw [if_pos inS]; exact sz, ri, ld⟩
    · rw [inS] at z
      exact z
    · rw [Bool.or_eq_true, decide_eq_true_eq, ← mm y]
      exact ⟨fun o => o.elim id fun e => e ▸ inS, .inl⟩
  | none =>
    dsimp only
    have out : x ∉ cs.toList.map txOf := fun z => by
      obtain ⟨c, hc, q⟩ := (tx_mem (P := P) (w := w) gd x).1 z
      exact absurd q (by rw [List.findIdx?_eq_none_iff.mp found c hc]; exact Bool.false_ne_true)
    have outS : S x = false := Bool.eq_false_iff.mpr fun q => out ((mm x).1 q)
    have gave : ∀ (b : Bool) {s1 : Shared} {R : Unit → Shared → Prop}, R () s1 → wpAny (model P w) A (match b with | true => rule "set.scan.the-table-gave-way" | false => pure ()) R E s1 :=
      fun b s1 R q => by cases b <;> first | exact wpAny_pure q | exact wpAny_rule q
    have l1 := layNew_perm tb cs ((strKind P w).hash x) (.str x tk)
    have l2 := layNew_fits tb cs ((strKind P w).hash x) (.str x tk)
    have l3 := layNew_ris tb cs ((strKind P w).hash x) (.str x tk) ri
    have l4 := layNew_led tb cs ((strKind P w).hash x) (.str x tk)
    generalize layNew tb cs ((strKind P w).hash x) (.str x tk) = Y at l1 l2 l3 l4 ⊢
    obtain ⟨cs1, tb1, dummy, way⟩ := Y
    dsimp only at l1 l2 l3 l4 ⊢
    rw [Array.toList_push] at l1
    have pm : cs1.toList.Perm (((strKind P w).hash x, Value.str x tk) :: cs.toList) := l1.trans (List.perm_append_singleton _ _)
    have pk : (cs1.toList.map txOf).Perm (x :: cs.toList.map txOf) := pm.map txOf
    have gd1 : ∀ c ∈ cs1.toList, TxE w c := fun c hc => (List.mem_cons.mp (pm.mem_iff.mp hc)).elim (fun z => z ▸ ⟨x, tk, rfl, rfl⟩) (gd c)
    have ndd : (cs1.toList.map txOf).Nodup := pk.nodup_iff.mpr (List.nodup_cons.mpr ⟨out, nd⟩)
    have mm1 : ∀ y, (S y || decide (y = x)) = true ↔ y ∈ cs1.toList.map txOf := fun y => by
      rw [pk.mem_iff, List.mem_cons, ← mm y, Bool.or_eq_true, decide_eq_true_eq]
      exact Or.comm
    have sz1 : cs1.size = n + 1 := by rw [← sz, ← Array.length_toList, pm.length_eq, List.length_cons, Array.length_toList]
    have few1 : cs1.size < scanBound := sz1 ▸ room
    have ld1 : w.params.followText "set-order" = true ∨ tb1.led = true := ld.imp id fun z => l4 ▸ z
    have done : ∀ h', Heap.SameBut a s.heap h' → TxSet w h' a (fun y => S y || decide (y = x)) cs1.size → Q true { s with heap := h' } := fun h' sb r => by
      have z := fin h' sb
      rw [outS] at z
      exact z (sz1 ▸ r)
    refine wpAny_bind (gave _ ?_)
    split
    · refine wpAny_bind ?_
      rw [hashByValue_scannable 8 scn]
      refine wpAny_pure (tx_add_tail (fun b s1 R q => ?_) hob ex dt gd1 ndd mm1 few1 ?_ ?_ ?_ fun h' sb r => ?_)
      · cases b <;> first | exact wpAny_pure q | exact wpAny_rule q
      · first | (split <;> first | exact l2 | exact SetTable.fits_plain_off l2) | exact l2
      · first | (split <;> exact l3) | exact l3
      · first | (split <;> exact ld1) | exact ld1
      · dsimp only
        exact wpAny_pure (done h' sb r)
    · refine wpAny_bind (wpAny_pure ?_)
      simp only [↓reduceIte]
      refine tx_add_tail (fun b s1 R q => ?_) hob ex dt gd1 ndd mm1 few1 l2 l3 ld1 fun h' sb r => ?_
      · cases b <;> first | exact wpAny_pure q | exact wpAny_rule q
      · dsimp only
        exact wpAny_pure (done h' sb r)
end

/-! the loop of update, the call set(l), sorted -/
abbrev bareSet (w : World) : Obj := { cls := .type "set", dict := none, data := .set #[] 0 (.fresh 0 0 (!w.params.followText "set-order")) }
theorem tx_bare {w : World} {h : Heap} {a : Addr} {zs : List Str} (hob : h.get? a = some (bareSet w)) : TxSet w h a (fun y => decide (y ∈ zs.take 0)) 0 := by
  refine ⟨_, #[], 0, _, hob, ⟨rfl, rfl, rfl⟩, rfl, ?_, ?_, ?_, by decide, by rfl, rfl, List.Pairwise.nil, ?_⟩
  · intro c hc
    simp at hc
  · simp
  · intro x
    simp
  · show _ ∨ (!w.params.followText "set-order") = true
    cases w.params.followText "set-order" <;> simp
section
variable {P : Program} {w : World} {A : Around} {E : Value → Shared → Prop} {s : Shared}
theorem tx_update {it : Addr} {fp wr : List Addr} {G : Array GenState → Array GenState → Prop} {n : Nat} {Pv : Nat → Value → Prop} {At : Nat → Shared → Prop} {R : Result → Shared → Prop}
    (W : WalksS P w A.in1 it fp wr G n Pv At) (d : Addr) (apart : d ∉ fp) (zs : List Str) (en : n = zs.length) (room : zs.length + 1 < scanBound) (item : ∀ i v, Pv i v → ∃ x t, zs[i]? = some x ∧ v = .str x t) :
    ∀ (left i : Nat) (s : Shared), n - i = left → i ≤ n → At i s → (∃ m, m ≤ i ∧ TxSet w s.heap d (fun y => decide (y ∈ zs.take i)) m) →
      (∀ s' m, Moved (d :: wr) G s s' → m ≤ n → TxSet w s'.heap d (fun y => decide (y ∈ zs)) m → R (.ok (.ret .none)) s') →
      codeAny (model P w) A (.builtin "set.update.loop" ⟨[.ref d, .ref it], []⟩) R s := by
  have dw : d ∉ wr := fun z => apart (W.sub _ z)
  have more : ∀ b ∈ wr, b ∈ d :: wr := fun b z => List.mem_cons_of_mem _ z
  intro left
  induction left with
  | zero =>
    intro i s el le at_ ⟨m, hm, R0⟩ go
    have ei : i = n := by omega
    subst ei
    refine codeAny_builtin PyProof.Rows.F.entry_set_update_loop ?_
    rw [Around.under_plainId PyProof.Rows.F.plain_set_update_loop _]
    show wpAny _ A.in1 (pyNext (.ref it) >>= _) _ _ s
    refine wpAny_bind (W.done s _ _ at_ fun s' mv => ?_)
    show wpAny _ A.in1 (ret Value.none) _ _ s'
    rw [show zs.take i = zs from List.take_of_length_le (by omega)] at R0
    exact wpAny_pure (go s' m (mv.mono more) hm (R0.keep fun ob e => mv.heap d ob dw e))
  | succ left ih =>
    intro i s el le at_ ⟨m, hm, R0⟩ go
    have lt : i < n := by omega
    refine codeAny_builtin PyProof.Rows.F.entry_set_update_loop ?_
    rw [Around.under_plainId PyProof.Rows.F.plain_set_update_loop _]
    show wpAny _ A.in1 (pyNext (.ref it) >>= _) _ _ s
    refine wpAny_bind (W.item i s _ _ lt at_ fun v s1 pv at1 mv => ?_)
    obtain ⟨x, t, hx, rfl⟩ := item i v pv
    have R1 : TxSet w s1.heap d (fun y => decide (y ∈ zs.take i)) m := R0.keep fun ob e => mv.heap d ob dw e
    show wpAny _ A.in1 (holding [Value.str x t] (setAdd d (.str x t)) >>= _) _ _ s1
    refine wpAny_bind (wpAny_holding ?_)
    unfold setAdd
    refine wpAny_holding (wpAny_bind ((strKind P w).pyHash (k := x) (v := .str x t) ?_ ?_))
    · show Value.isStrOf x (.str x t) = true
      simp [Value.isStrOf]
    refine tx_add (s := { s1 with toks := s1.toks + 1 }) R1 (by omega) fun h2 sb R2 => ?_
    have R3 : TxSet w h2 d (fun y => decide (y ∈ zs.take (i + 1))) (if decide (x ∈ zs.take i) = true then m else m + 1) := R2.say fun y => by
      rw [List.take_add_one, hx]
      simp [List.mem_append]
    have hm3 : (if decide (x ∈ zs.take i) = true then m else m + 1) ≤ i + 1 := by split <;> omega
    refine wpAny_pure ⟨plainId_quiet PyProof.Rows.F.plain_set_update_loop _, ih (i + 1) _ (by omega) lt (W.frame _ s1 _ _ at1 (Nat.le_succ _) fun b hb ob e => ?_) ⟨_, hm3, R3⟩ fun s3 m3 mv3 le3 R4 => ?_⟩
    · exact (sb.2 b fun z => apart (z ▸ hb)).trans e
    · refine go s3 m3 (Moved.trans W.gtrans ((mv.mono more).then_heap (Nat.le_succ _) fun b ob hb e => ?_) mv3) le3 R4
      exact (sb.2 b fun z => hb (z ▸ List.mem_cons_self)).trans e
theorem tx_item : ∀ {us : List Value} {zs : List Str}, StrsAre us zs → ∀ (i : Nat) (v : Value), us[i]? = some v → ∃ x t, zs[i]? = some x ∧ v = .str x t
  | _, _, .nil, i, v, hi => by simp at hi
  | _, _, .cons x t _, 0, v, hi => ⟨x, t, rfl, by simpa using hi.symm⟩
  | _, _, .cons _ _ rest, i + 1, v, hi => by simpa using tx_item rest i v (by simpa using hi)
/-- set(l), l a list of texts -/
theorem call_set_txs {l : Addr} {items : Array Value} (zs : List Str) {Q : Value → Shared → Prop} (calm : A.handled = none) (hl : s.heap.IsList l items) (hit : StrsAre items.toList zs) (room : zs.length + 1 < scanBound)
    (fin : ∀ (h' : Heap) (tk m : Nat), TxSet w h' s.heap.objs.size (fun y => decide (y ∈ zs)) m → m ≤ zs.length → (∀ b ob, s.heap.get? b = some ob → h'.get? b = some ob) → Q (.ref s.heap.objs.size) { s with heap := h', toks := tk }) :
    wpAny (model P w) A (call (.type "set") [.ref l]) Q E s := by
  have isz : items.size = zs.length := by
    have z := hit.length
    rw [Array.length_toList] at z
    exact z
  obtain ⟨c, tl, hmro⟩ := F.called_set.mro
  have hmade := F.called_set.made
  have hsub := F.called_set.sub
  refine wpAny_call (codeAny_of_tree ?_)
  show wpAny _ _ (callAny (.type "set") _) _ _ _
  refine wpAny_pure ⟨Code.quiet_builtin _ (by decide +kernel), codeAny_builtin F.entry_type_call ?_⟩
  rw [Around.under_plain (weight_type_call_type "set" [.ref l] []) rfl]
  have no_t := F.called_set.notType
  have can := F.called_set.canCreate
  have chk := PySem.F.typeCall_set_1 (.ref l)
  repeat (any_goals (first | assumption | wp_step))
  refine codeAny_mono (code_set_led1 (.ref l) (E := E) (Q₁ := fun obj s1 => obj = .ref s.heap.objs.size ∧ s1 = { s with heap := s.heap.push (bareSet w) }) ⟨rfl, rfl⟩) fun r s1 hr => ?_
  cases r with
  | error e => exact hr
  | ok fl =>
  cases fl with
  | next => exact hr.elim
  | brk => exact hr.elim
  | cont => exact hr.elim
  | ret obj =>
  obtain ⟨rfl, rfl⟩ := hr
  have atS : (s.heap.push (bareSet w)).get? s.heap.objs.size = some (bareSet w) := Heap.get?_push_size _ rfl
  have tyS : Shared.TypeIs { s with heap := s.heap.push (bareSet w) } (.ref s.heap.objs.size) "set" := ⟨_, atS, rfl⟩
  have ini := F.called_set.init.lookup
  have inb := F.called_set.init.bind (.ref s.heap.objs.size)
  repeat (any_goals (first | assumption | wp_step))
  refine codeAny_mono (codeAny_call_builtin (R := wants (fun r s2 => r = .none ∧ ∃ h' tk m, s2 = { s with heap := h', toks := tk } ∧ TxSet w h' s.heap.objs.size (fun y => decide (y ∈ zs)) m ∧ m ≤ zs.length ∧
      (∀ b ob, s.heap.get? b = some ob → h'.get? b = some ob)) E) F.called_set.init.plain F.entry_set_init (check_set_init_1 tyS ?_)) fun r2 s2 hr2 => ?_
  · obtain ⟨ob, hob, hc, nl, hd⟩ := hl
    obtain ⟨k1, k2, k3, k4⟩ := ob
    simp only at hc hd
    subst hc hd
    have ob1 : (s.heap.push (bareSet w)).get? l = some { cls := .type "list", dict := k2, data := .seq items nl, slots := k4 } := Heap.get?_push_of_some _ hob
    have not1 := F.sub_list_set
    have not2 := F.sub_list_frozenset
    have not3 : (Value.type "list" == Value.type "dict") = false := by decide
    have l1 : (s.heap.push (bareSet w)).IsList l items := ⟨_, ob1, rfl, nl, rfl⟩
    unfold Builtin.«set.__init__» noKeywords Builtin.Frozenset.updateFrom
    generalize hIt : pyIter = It
    wp_walk
    subst hIt
    refine wpAny_pyIter_list l1 (wpAny_bind (wpAny_runValue ?_))
    have low : l < s.heap.objs.size := Heap.lt_size hob
    have calm3 : A.in1.in1.in1.handled = none := by simp [calm]
    have one : (s.heap.push (bareSet w)).objs.size = s.heap.objs.size + 1 := Heap.size_push ..
    have n1 : l ≠ (s.heap.push (bareSet w)).objs.size := Nat.ne_of_lt (by rw [one]; exact Nat.lt_succ_of_lt low)
    have n2 : s.heap.objs.size ∉ [(s.heap.push (bareSet w)).objs.size, l] := by
      rw [List.mem_cons, List.mem_singleton, one]
      exact fun z => z.elim (Nat.ne_of_lt (Nat.lt_succ_self _)) (Nat.ne_of_gt low)
    refine tx_update ((Walks.list calm3 _ l n1 items).toS) s.heap.objs.size n2 zs isz room (fun i v hv => tx_item hit i v (by rw [Array.getElem?_toList]; exact hv)) (items.size - 0) 0 _ (by omega) (Nat.zero_le _)
      ⟨⟨_, Heap.get?_push_size _ rfl, rfl, rfl⟩, (l1.push _)⟩ ⟨0, Nat.le_refl 0, tx_bare (Heap.get?_push_of_some _ atS)⟩ ?_
    intro s3 m mv hm R3
    obtain ⟨h3, g3, d3, t3, o3⟩ := s3
    have z1 : g3 = s.gens := mv.gens
    have z2 : d3 = s.drawn := mv.drawn
    have z3 : o3 = s.os := mv.os
    subst z1 z2 z3
    show wpAny _ _ _ _ _ _
    refine wpAny_pure ?_
    show wpAny _ _ (ret Value.none) _ _ _
    refine wpAny_pure ⟨rfl, h3, t3, m, rfl, R3, isz ▸ hm, fun b ob e => ?_⟩
    have lb : b < s.heap.objs.size := Heap.lt_size e
    refine mv.heap b ob ?_ (Heap.get?_push_of_some _ (Heap.get?_push_of_some _ e))
    rw [List.mem_cons, List.mem_singleton, one]
    exact fun z => z.elim (Nat.ne_of_lt lb) (Nat.ne_of_lt (Nat.lt_succ_of_lt lb))
  · cases r2 with
    | error e => exact hr2
    | ok fl2 =>
    cases fl2 with
    | next => exact hr2.elim
    | brk => exact hr2.elim
    | cont => exact hr2.elim
    | ret r =>
    obtain ⟨rfl, h', tk, m, rfl, R2, hm, kp⟩ := hr2
    repeat (any_goals (first | assumption | wp_step))
    exact fin _ _ _ R2 hm kp

/-- sorted(d), d a set of texts -/
theorem call_sorted_txs {d : Addr} {S : Str → Bool} {n : Nat} {Q : Value → Shared → Prop} (R : TxSet w s.heap d S n) (calm : A.handled = none) (few : n < 64)
    (fin : ∀ s' p (out : Array Value) (c : Nat) (ys : List Str), (∀ b ob, s.heap.get? b = some ob → s'.heap.get? b = some ob) → s'.gens = s.gens → s'.os = s.os → s.heap.objs.size ≤ p →
      s'.heap.get? p = some (seqObj "list" out c) → StrsAre out.toList ys → sortedS ys = true → ys.Nodup → (∀ x, x ∈ ys ↔ S x = true) → ys.length = n → Q (.ref p) s') :
    wpAny (model P w) A (call (.builtin "sorted") [.ref d]) Q E s := by
  obtain ⟨ob, cs, ver, tb, hob, ex, dt, gd, nd, mm, sb, ft, sz, ri, ld⟩ := R
  refine Calls.call_function_entry PyProof.Rows.kind_sorted PyProof.Rows.plain_sorted PyProof.Rows.entry_sorted (PyProof.Rows.args_sorted1 _) ?_
  unfold Builtin.«sorted»
  refine wpAny_bind (m := checkCount "sorted" 1 1 _) (wpAny_pure ?_)
  refine wpAny_bind (collect_set (A := A.in1) calm ⟨ob, hob, ex.1, dt⟩ ft sb ri ld fun s1 us kp hz hg ho pm => ?_)
  have lu : us.length = n := by rw [pm.length_eq, List.length_map, Array.length_toList]; exact sz
  have txs : ∀ (ws : List Value), (∀ v ∈ ws, ∃ c ∈ cs.toList, v = c.2) → ∃ zs, StrsAre ws zs ∧ zs = ws.map fun v => txOf (0, v) := by
    intro ws
    induction ws with
    | nil => exact fun _ => ⟨[], .nil, rfl⟩
    | cons v ws ih =>
      intro al
      obtain ⟨zs, h1, h2⟩ := ih fun u hu => al u (List.mem_cons_of_mem _ hu)
      obtain ⟨c, hc, rfl⟩ := al v List.mem_cons_self
      obtain ⟨x, tk, e, _⟩ := gd c hc
      refine ⟨x :: zs, ?_, ?_⟩
      · rw [e]; exact .cons x tk h1
      · rw [List.map_cons, ← h2]
        unfold txOf
        rw [e]
  obtain ⟨zs, hS, ez⟩ := txs us fun v hv => by
    obtain ⟨c, hc, e⟩ := List.mem_map.mp (pm.mem_iff.mp hv)
    exact ⟨c, hc, e.symm⟩
  have pz : zs.Perm (cs.toList.map txOf) := by
    rw [ez]
    have z := pm.map fun v => txOf ((0 : Int), v)
    rw [List.map_map] at z
    exact z
  refine wpAny_bind (wpAny_newList ?_ (by rw [lu, sizeLine_eq]; omega))
  have atL : (s1.heap.push (seqObj "list" us.toArray 0)).get? s1.heap.objs.size = some (seqObj "list" us.toArray 0) := Heap.get?_push_size _ rfl
  refine wpAny_bind (wpAny_holding (wpAny_call_entry PyProof.Rows.slot_list_sort ⟨_, atL, rfl⟩ PyProof.Rows.entry_list_sort
    (list_sort_treeK strKind_oneLt atL hS.keysOf (fun u1 u2 more e => keyKind_strs (by rw [← e]; exact hS)) (by rw [lu]; exact few) fun st pp sp => ⟨_, rfl, ?_⟩) (PyProof.Rows.args_list_sort _)))
  obtain ⟨ys, g1, g2, g3⟩ := sorted_out_str hS pp sp
  obtain ⟨c, hc⟩ := PyProof.Rows.sortedHeap_at (vs := us) (out := (arrOf st).map (·.2)) atL
  have py := g2.trans pz
  refine wpAny_pure ⟨_, rfl, fin _ s1.heap.objs.size ((arrOf st).map (·.2)) c ys (fun b u e => ?_) hg ho hz hc g1 g3 (py.nodup_iff.mpr nd) (fun x => py.mem_iff.trans (mm x).symm) ?_⟩
  · have lt := Heap.lt_size (kp b u e)
    show (PyProof.Rows.sortedHeap (s1.heap.push (seqObj "list" us.toArray 0)) s1.heap.objs.size us _).get? b = some u
    rw [PyProof.Rows.sortedHeap_old (Nat.ne_of_lt lt) (by rw [size_push']; exact Nat.lt_succ_of_lt lt)]
    exact Heap.get?_push_of_some _ (kp b u e)
  · rw [py.length_eq, List.length_map, Array.length_toList]; exact sz
end
/-! as rules -/
def TxO (w : World) (a : Addr) (S : Str → Bool) (n : Nat) : HO := .ext fun h => TxSet w h a S n
section
variable {X : Cx}
def rTxSet (K : PySem.W.Frag) (w : World) : List V → Hp → VK → Prop := fun xs H Q => ∃ (l : Addr) (zs : List Str), xs = [V.ref l] ∧ SqL K H l (zs.map V.str) ∧ zs.length < 1000 ∧
  ∀ a m, H a = none → m ≤ zs.length → Q (.ref a) (upd H a (TxO w a (fun y => decide (y ∈ zs)) m))
theorem cr_txSet (hc : X.calm = true) : CallR X (.type "set") (rTxSet X.K X.w) := by
  intro pins s σ H xs us Q I r h
  obtain ⟨l, zs, rfl, hl, few, q⟩ := h
  rw [Vals.ref1 r]
  obtain ⟨its, rv, pl, hz⟩ := I.list hl
  have free : H s.heap.objs.size = none := I.hok.fresh (Nat.le_refl _)
  refine call_set_txs (P := X.prog) (w := X.w) zs (I.ok.hd hc) pl.isList rv.strs (by unfold scanBound; omega) fun h' tk m R hm kp => ?_
  have R' : ∀ H2 : Hp, ObjOk X.prog X.w H2 h' s.heap.objs.size (TxO X.w s.heap.objs.size (fun y => decide (y ∈ zs)) m) := fun H2 => by
    have ⟨ob, _, _, _, hob, _⟩ := R
    exact ⟨R, ⟨ob, hob⟩, fun h1 h2 p k => p.keep k⟩
  exact ⟨.ref s.heap.objs.size, _, I.laid (t' := tk) kp (Nat.le_refl _) (R' _), rfl, q _ m free hm⟩
def rTxSorted (w : World) : List V → Hp → VK → Prop := fun xs H Q => ∃ (d : Addr) (S : Str → Bool) (n : Nat), xs = [V.ref d] ∧ H d = some (TxO w d S n) ∧ n < 64 ∧
  ∀ (ys : List Str) (p : Addr), sortedS ys = true → ys.Nodup → (∀ x, x ∈ ys ↔ S x = true) → ys.length = n → H p = none → Q (.ref p) (upd H p (.lst (ys.map V.str)))
theorem cr_txSorted (hc : X.calm = true) : CallR X (.builtin "sorted") (rTxSorted X.w) := by
  intro pins s σ H xs us Q I r h
  obtain ⟨d, S, n, rfl, hd, few, q⟩ := h
  have R : TxSet X.w s.heap d S n := (I.hok d _ hd).1
  rw [Vals.ref1 r]
  refine call_sorted_txs (P := X.prog) R (I.ok.hd hc) few fun s' p out c ys kp hg ho hp at' hS so nd mem len => ?_
  have le : (ys.map V.str).length ≤ sizeLine := by rw [List.length_map, len, sizeLine_eq]; omega
  have free : H p = none := I.hok.fresh hp
  have J : Inv X pins σ (upd H p (.lst (ys.map V.str))) { s with heap := s'.heap, gens := s'.gens, drawn := s'.drawn, toks := s'.toks } :=
    I.call (ch := []) (Un.laid kp hp free) (I.hok.laid kp hp ⟨le, out.toList, c, vals_of_strs hS, at'⟩) (by rw [hg]; exact I.bare) (fun _ z => nomatch z)
  have e : s' = { s with heap := s'.heap, gens := s'.gens, drawn := s'.drawn, toks := s'.toks } := by
    obtain ⟨h1, h2, h3, h4, h5⟩ := s'
    cases ho
    rfl
  rw [e]
  exact ⟨.ref p, _, J, rfl, q ys p so nd mem len free⟩
end
end Sc
namespace Sc
open PySem PySem.Spec PyProof.Rows L2
/-! one sign, many times -/
def reps (c n : Nat) : Str := ⟨(List.replicate n c).toArray⟩
theorem fold_reps (c : Nat) : ∀ (n : Nat) (acc : Array Nat), (List.replicate n #[c]).foldl (· ++ ·) acc = acc ++ (List.replicate n c).toArray
  | 0, acc => by simp
  | n + 1, acc => by
    rw [List.replicate_succ, List.foldl_cons, fold_reps c n]
    apply Array.ext'
    simp [List.replicate_succ]
section
variable {X : Cx}
def rReps : V → V → Hp → VK → Prop := fun x y H Q => ∃ (c : Nat) (k : Int), x = .str ⟨#[c]⟩ ∧ y = .int k ∧ 0 ≤ k ∧ k ≤ 1000 ∧ Q (.str (reps c k.toNat)) H
theorem op_reps : OpR X (binaryOp .Mult) rReps := by
  intro pins s σ H x y v u Q I rx ry h
  obtain ⟨c, k, rfl, rfl, h0, h1, q⟩ := h
  obtain ⟨t, rfl⟩ := rx
  obtain ⟨t', rfl⟩ := ry
  have ln : (⟨#[c]⟩ : Str).length = 1 := rfl
  refine PySem.P.mul_str (by rw [decide_eq_false (by omega), decide_eq_false (by omega)]; rfl) (fun a b => ?_) (fun a b => ?_) ?_
  · rw [ln]
    have hk : k ≠ 0 := by omega
    have : 1 * k ≤ 2 ^ 63 - 1 := by omega
    have := (Int.le_ediv_iff_mul_le (a := 1) (b := 2 ^ 63 - 1) (c := k) (by omega)).mpr this
    show ¬ (1 : Int) > (2 ^ 63 - 1) / k
    omega
  · rw [ln]
    unfold Builtin.Str.tooLong
    rw [decide_eq_false]
    rw [sizeLine_eq]
    omega
  · by_cases a : k < 1
    · rw [if_pos a]
      have e : reps c k.toNat = Str.empty := by rw [show k.toNat = 0 by omega]; rfl
      rw [e] at q
      exact ⟨by decide, ⟨.str Str.empty, H, I.tok _, ⟨_, rfl⟩, q⟩⟩
    · rw [if_neg a]
      by_cases b : k = 1
      · subst b
        simp only [beq_self_eq_true, Bool.true_or, if_true]
        exact ⟨.str ⟨#[c]⟩, H, I, ⟨_, rfl⟩, q⟩
      · have e : (k == 1 || (⟨#[c]⟩ : Str).length == 0) = false := by
          rw [ln]
          simp [b]
        rw [if_neg (by rw [e]; exact Bool.false_ne_true)]
        have e2 : (⟨(List.replicate k.toNat (⟨#[c]⟩ : Str).cps).foldl (· ++ ·) #[]⟩ : Str) = reps c k.toNat := by
          unfold reps
          rw [show (⟨#[c]⟩ : Str).cps = #[c] from rfl, fold_reps]
          simp
        rw [e2]
        refine ⟨?_, ⟨.str (reps c k.toNat), H, I.tok _, ⟨_, rfl⟩, q⟩⟩
        show (reps c k.toNat).cps.size ≤ _
        unfold reps
        rw [List.size_toArray, List.length_replicate]
        first | omega | (rw [sizeLine_eq]; omega)
end

/-! ### defs that may be called, defs that stand -/
structure Cal (P : Program) (w : World) (K : PySem.W.Frag) (mg : Str → Option Value) (base : Heap) (k : Nat) (x : Str) (ps : List Str) (sp : Sp) : Prop where
  ex : ∃ f fd, FnOk P w K mg base CX0 k f fd ps sp ∧ mg x = some (.ref f) ∧ PySem.W.keepIn K (.ref f) = true ∧ Binds K fd ps []
structure Def (K : PySem.W.Frag) (mg : Str → Option Value) (x : Str) (st : Stmt) (ps : List Str) : Prop where
  ex : ∃ f fd, Fun K x x st f fd ∧ mg x = some (.ref f) ∧ Binds K fd ps []
theorem Cal.mono {P : Program} {w : World} {K : PySem.W.Frag} {mg : Str → Option Value} {base : Heap} {j k : Nat} {x : Str} {ps : List Str} {sp : Sp} (C : Cal P w K mg base j x ps sp) (h : j ≤ k) : Cal P w K mg base k x ps sp := by
  obtain ⟨f, fd, a, b⟩ := C.ex
  exact ⟨f, fd, a.mono h, b⟩
theorem Cal.imp {P : Program} {w : World} {K : PySem.W.Frag} {mg : Str → Option Value} {base : Heap} {k : Nat} {x : Str} {ps : List Str} {sp sp' : Sp} (C : Cal P w K mg base k x ps sp) (h : ∀ vs H Q E, sp' vs H Q E → sp vs H Q E) : Cal P w K mg base k x ps sp' := by
  obtain ⟨f, fd, a, b⟩ := C.ex
  exact ⟨f, fd, a.imp h, b⟩
theorem Def.never {P : Program} {w : World} {K : PySem.W.Frag} {mg : Str → Option Value} {base : Heap} {x : Str} {st : Stmt} {ps : List Str} {sp : Sp} (D : Def K mg x st ps) (no : ∀ vs H Q E, ¬ sp vs H Q E) : Cal P w K mg base 0 x ps sp := by
  obtain ⟨f, fd, F, m, b⟩ := D.ex
  exact ⟨f, fd, ⟨fun vs H Q E h => absurd h (no vs H Q E), fun A outer s H args us vs Q E _ _ _ _ h => absurd h (no vs H Q E)⟩, m, F.kp, b⟩
theorem Def.ok {P : Program} {w : World} {K : PySem.W.Frag} {mg : Str → Option Value} {base : Heap} {x : Str} {st : Stmt} {N ps : List Str} {k : Nat} {sp : Sp} (D : Def K mg x st ps) (S : FnScope N ps (defScope st)) (len : ∀ vs H Q E, sp vs H Q E → vs.length = ps.length)
    (body : ∀ (f : Addr) (cdv : Value) (A : Around) (outer : List Env) (s : Shared) (H : Hp) (vs : List V) (Q : VK) (E : XK), Room k (A.deeper (envOfC x (defScope st) s.heap.objs.size f cdv)) → sp vs H Q E →
      ∃ t, PSs (cxOf CX0 P w K mg base N x (defScope st) f cdv A outer s H E).nox (defBody st) t ∧ t { nx := fun _ H' => Q .non H', rt := Q } (start N vs) H) : Cal P w K mg base (k + 1) x ps sp := by
  obtain ⟨f, fd, F, m, b⟩ := D.ex
  exact ⟨f, fd, F.ok S len fun cdv A outer s H vs Q E hr h => body f cdv A outer s H vs Q E hr h, m, F.kp, b⟩
section
variable {X : Cx} {k : Nat} {x : Str} {ps : List Str} {sp : Sp} {e : Expr} {es : List Expr} {t : TA} {p pos : Pos}
theorem pe_cal (C : Cal X.prog X.w X.K X.mg X.base k x ps sp) (hr : Room k X.A) (ha : PA X (e :: es) t) (hg : Gl X x := by rfl) (hdb : (x == ("__debug__" : Str)) = false := by decide)
    (he : starEach (e :: es) X.env = (false, eval e X.env) :: starEach es X.env := by rfl) (hpl : (backTo pos (starEach es X.env)).any (·.1) = false := by rfl) :
    PE X (.Call (.Name x p) (e :: es) [] pos) (tCall sp [] E0 t) := by
  obtain ⟨f, fd, F, m, kp, b⟩ := C.ex
  exact pe_call F hr hg m kp b .nil pass0 ha hdb he hpl
end
/-! ### heaps -/
/-- all that was tracked, but what stands at s, is as it was -/
def Ext (s : Addr) (H H' : Hp) : Prop := ∀ b o, b ≠ s → H b = some o → H' b = some o
theorem Ext.refl (s : Addr) (H : Hp) : Ext s H H := fun _ _ _ h => h
theorem Ext.trans {s : Addr} {H H1 H2 : Hp} (a : Ext s H H1) (b : Ext s H1 H2) : Ext s H H2 := fun c o n h => b c o n (a c o n h)
theorem Ext.upd (s : Addr) (H : Hp) (o : HO) : Ext s H (upd H s o) := fun b u n h => by rw [upd_ne n]; exact h
theorem Ext.new {s p : Addr} {H : Hp} (o : HO) (hp : H p = none) : Ext s H (L2.upd H p o) := fun b u _ h => by
  rw [upd_ne (ne_of_none h hp)]; exact h
theorem Ext.same {s : Addr} {H H' : Hp} (e : Same H H') : Ext s H H' := fun b o _ h => e b o h
theorem same_new {H : Hp} {p : Addr} (h : H p = none) (o : HO) : Same H (upd H p o) := fun b u q => by rw [upd_ne (ne_of_none q h)]; exact q
theorem Ext.free {s l : Addr} {H H' : Hp} {o : HO} (e : Ext s H H') (hs : H s = some o) (hs' : ∃ o', H' s = some o') (h : H' l = none) : H l = none := by
  by_cases z : l = s
  · subst z
    obtain ⟨o', e'⟩ := hs'
    rw [e'] at h
    cases h
  · cases q : H l with
    | none => rfl
    | some u => rw [e l u z q] at h; cases h
theorem Ext.seq {K : PySem.W.Frag} {s a : Addr} {H H' : Hp} {kvs : List (Key × V)} {xs : List V} (e : Ext s H H') (hs : H s = some (.dK kvs)) (h : SqL K H a xs) : SqL K H' a xs := by
  have ne : ∀ o, (∀ q : HO.dK kvs = o, False) → H a = some o → a ≠ s := fun o hq ha z => by
    subst z; rw [hs] at ha; exact hq (Option.some.inj ha)
  rcases h with (h | ⟨o, h⟩) | h
  · exact .inl (.inl (e _ _ (ne _ (fun q => by cases q) h) h))
  · exact .inl (.inr ⟨o, e _ _ (ne _ (fun q => by cases q) h) h⟩)
  · exact .inr h
theorem Ext.tup {K : PySem.W.Frag} {s a : Addr} {H H' : Hp} {kvs : List (Key × V)} {xs : List V} (e : Ext s H H') (hs : H s = some (.dK kvs)) (h : SqT K H a xs) : SqT K H' a xs := by
  have ne : ∀ o, (∀ q : HO.dK kvs = o, False) → H a = some o → a ≠ s := fun o hq ha z => by
    subst z; rw [hs] at ha; exact hq (Option.some.inj ha)
  rcases h with (h | ⟨o, h⟩) | h
  · exact .inl (.inl (e _ _ (ne _ (fun q => by cases q) h) h))
  · exact .inl (.inr ⟨o, e _ _ (ne _ (fun q => by cases q) h) h⟩)
  · exact .inr h
theorem Same.tup {K : PySem.W.Frag} {a : Addr} {H H' : Hp} {xs : List V} (e : Same H H') (h : SqT K H a xs) : SqT K H' a xs := by
  rcases h with (h | ⟨o, h⟩) | h
  · exact .inl (.inl (e _ _ h))
  · exact .inl (.inr ⟨o, e _ _ h⟩)
  · exact .inr h
/-- tuples are kept: what a kind wants -/
def Keep (K : PySem.W.Frag) (H H' : Hp) : Prop := ∀ a xs, SqT K H a xs → SqT K H' a xs
theorem Keep.refl {K : PySem.W.Frag} (H : Hp) : Keep K H H := fun _ _ h => h
theorem Keep.trans {K : PySem.W.Frag} {H H1 H2 : Hp} (e : Keep K H H1) (f : Keep K H1 H2) : Keep K H H2 := fun _ _ h => f _ _ (e _ _ h)
theorem Ext.keep {K : PySem.W.Frag} {s : Addr} {H H' : Hp} {kvs : List (Key × V)} (e : Ext s H H') (hs : H s = some (.dK kvs)) : Keep K H H' := fun _ _ h => e.tup hs h
theorem Same.keep {K : PySem.W.Frag} {H H' : Hp} (e : Same H H') : Keep K H H' := fun _ _ h => Same.tup e h
/-- what may be stored to -/
def Soft : HO → Prop
  | .lst _ => True
  | .dK _ => True
  | _ => False
theorem Keep.upd {K : PySem.W.Frag} {H : Hp} {D : Addr} {o0 : HO} (h : H D = some o0) (t : Soft o0) (o : HO) : Keep K H (L2.upd H D o) := fun a xs q => by
  have ne : ∀ u, H a = some u → ¬ Soft u → a ≠ D := fun u e n z => by
    subst z
    rw [h] at e
    exact n (Option.some.inj e ▸ t)
  rcases q with (q | ⟨u, q⟩) | q
  · exact .inl (.inl (by rw [upd_ne (ne _ q (fun z => z))]; exact q))
  · exact .inl (.inr ⟨u, by rw [upd_ne (ne _ q (fun z => z))]; exact q⟩)
  · exact .inr q
/-- data of tuples, texts, numbers, truths, None -/
inductive Dt (K : PySem.W.Frag) (H : Hp) : V → PyData → Prop
  | non : Dt K H .non .none
  | bl (b : Bool) : Dt K H (.bl b) (.bool b)
  | int (i : Int) : Dt K H (.int i) (.int i)
  | str (x : Str) : Dt K H (.str x) (.str x)
  | tup {a : Addr} (vs : List V) {ds : List PyData} : SqT K H a vs → vs.length = ds.length → (∀ (j : Nat) (v : V) (d : PyData), vs[j]? = some v → ds[j]? = some d → Dt K H v d) → Dt K H (.ref a) (.tuple ds)
def Dts (K : PySem.W.Frag) (H : Hp) (vs : List V) (ds : List PyData) : Prop := vs.length = ds.length ∧ ∀ (j : Nat) (v : V) (d : PyData), vs[j]? = some v → ds[j]? = some d → Dt K H v d
theorem Dts.nil {K : PySem.W.Frag} {H : Hp} : Dts K H [] [] := ⟨rfl, fun j v d h => by simp at h⟩
theorem Dts.cons {K : PySem.W.Frag} {H : Hp} {v : V} {d : PyData} {vs : List V} {ds : List PyData} (h : Dt K H v d) (t : Dts K H vs ds) : Dts K H (v :: vs) (d :: ds) := ⟨congrArg (· + 1) t.1, fun j u e h1 h2 => by
  cases j with
  | zero => cases h1; cases h2; exact h
  | succ j => exact t.2 j u e h1 h2⟩
theorem Dts.head {K : PySem.W.Frag} {H : Hp} {v : V} {d : PyData} {vs : List V} {ds : List PyData} (h : Dts K H (v :: vs) (d :: ds)) : Dt K H v d := h.2 0 v d rfl rfl
theorem Dts.tail {K : PySem.W.Frag} {H : Hp} {v : V} {d : PyData} {vs : List V} {ds : List PyData} (h : Dts K H (v :: vs) (d :: ds)) : Dts K H vs ds := ⟨Nat.succ.inj h.1, fun j u e h1 h2 => h.2 (j + 1) u e h1 h2⟩
theorem Dts.at {K : PySem.W.Frag} {H : Hp} {vs : List V} {ds : List PyData} {j : Nat} {v : V} (h : Dts K H vs ds) (e : vs[j]? = some v) : ∃ d, ds[j]? = some d ∧ Dt K H v d := by
  have lt : j < ds.length := h.1 ▸ (List.getElem?_eq_some_iff.mp e).1
  exact ⟨ds[j], List.getElem?_eq_getElem lt, h.2 j v _ e (List.getElem?_eq_getElem lt)⟩
theorem Dts.snoc {K : PySem.W.Frag} {H : Hp} {v : V} {d : PyData} {vs : List V} {ds : List PyData} (t : Dts K H vs ds) (h : Dt K H v d) : Dts K H (vs ++ [v]) (ds ++ [d]) := by
  refine ⟨by rw [List.length_append, List.length_append, t.1]; rfl, fun j u e h1 h2 => ?_⟩
  by_cases lt : j < vs.length
  · rw [List.getElem?_append_left lt] at h1
    rw [List.getElem?_append_left (t.1 ▸ lt)] at h2
    exact t.2 j u e h1 h2
  · rw [List.getElem?_append_right (by omega)] at h1
    rw [List.getElem?_append_right (by have := t.1; omega)] at h2
    have z : j - vs.length = 0 := by
      have := (List.getElem?_eq_some_iff.mp h1).1
      simp at this
      omega
    rw [z] at h1
    rw [← t.1, z] at h2
    cases h1; cases h2; exact h
theorem Dts.tup {K : PySem.W.Frag} {H : Hp} {a : Addr} {vs : List V} {ds : List PyData} (t : Dts K H vs ds) (h : SqT K H a vs) : Dt K H (.ref a) (.tuple ds) := .tup vs h t.1 t.2
theorem Dt.open {K : PySem.W.Frag} {H : Hp} {v : V} {ds : List PyData} (h : Dt K H v (.tuple ds)) : ∃ a vs, v = .ref a ∧ SqT K H a vs ∧ Dts K H vs ds := by
  cases h with
  | tup vs hs hl ha => exact ⟨_, vs, rfl, hs, hl, ha⟩
theorem Keep.dt {K : PySem.W.Frag} {H H' : Hp} (e : Keep K H H') {v : V} {d : PyData} (h : Dt K H v d) : Dt K H' v d := by
  induction h with
  | non => exact .non
  | bl b => exact .bl b
  | int i => exact .int i
  | str x => exact .str x
  | tup vs hs hl _ ih => exact .tup vs (e _ _ hs) hl ih
theorem Keep.dts {K : PySem.W.Frag} {H H' : Hp} (e : Keep K H H') {vs : List V} {ds : List PyData} (h : Dts K H vs ds) : Dts K H' vs ds := ⟨h.1, fun j v d a b => e.dt (h.2 j v d a b)⟩
theorem dpAll_of {K : PySem.W.Frag} {H : Hp} : ∀ {vs : List V} {ds : List PyData}, vs.length = ds.length → (∀ (j : Nat) (v : V) (d : PyData), vs[j]? = some v → ds[j]? = some d → Dp K H v d) → DpAll K H vs ds
  | [], [], _, _ => .nil
  | v :: vs, d :: ds, hl, h => .cons (h 0 v d rfl rfl) (dpAll_of (Nat.succ.inj hl) fun j u e a b => h (j + 1) u e a b)
theorem Dt.dp {K : PySem.W.Frag} {H : Hp} {v : V} {d : PyData} (h : Dt K H v d) : Dp K H v d := by
  induction h with
  | non => exact .non
  | bl b => exact .bl b
  | int i => exact .int i
  | str x => exact .str x
  | tup vs hs hl _ ih => exact .tup hs (dpAll_of hl ih)
/-! ### a law's state -/
structure Inf where
  c : Addr
  f : Addr
  size : Int
  place : Int
  turn : Int
  odd : Int
  talk : Int
structure Mv where
  att : Int
  rest : Int
  seed : Int
def stD (i : Inf) (m : Mv) : List (Key × V) :=
  [(.inr "cells", .ref i.c), (.inr "at", .int m.att), (.inr "size", .int i.size), (.inr "place", .int i.place), (.inr "turn", .int i.turn),
   (.inr "rest", .int m.rest), (.inr "functions", .ref i.f), (.inr "odd", .int i.odd), (.inr "talk", .int i.talk), (.inr "seed", .int m.seed)]
theorem p_at (i : Inf) (m : Mv) (n : Int) : putK (stD i m) (.inr "at") (.int n) = stD i { m with att := n } := by rfl
theorem p_rest (i : Inf) (m : Mv) (n : Int) : putK (stD i m) (.inr "rest") (.int n) = stD i { m with rest := n } := by rfl
theorem p_seed (i : Inf) (m : Mv) (n : Int) : putK (stD i m) (.inr "seed") (.int n) = stD i { m with seed := n } := by rfl
theorem p_size (i : Inf) (m : Mv) (n : Int) : putK (stD i m) (.inr "size") (.int n) = stD { i with size := n } m := by rfl
theorem p_place (i : Inf) (m : Mv) (n : Int) : putK (stD i m) (.inr "place") (.int n) = stD { i with place := n } m := by rfl
theorem p_turn (i : Inf) (m : Mv) (n : Int) : putK (stD i m) (.inr "turn") (.int n) = stD { i with turn := n } m := by rfl
theorem p_talk (i : Inf) (m : Mv) (n : Int) : putK (stD i m) (.inr "talk") (.int n) = stD { i with talk := n } m := by rfl
structure Inf.Ok (i : Inf) : Prop where
  s1 : 1 ≤ i.size
  s8 : i.size ≤ 8
  p0 : 0 ≤ i.place
  p1 : i.place < i.size
  t0 : 0 ≤ i.turn
  t1 : i.turn < 26
  k0 : 0 ≤ i.talk
  k1 : i.talk ≤ 1
structure Mv.Ok (m : Mv) : Prop where
  a0 : 0 ≤ m.att
  r0 : 0 ≤ m.rest
  e0 : 0 ≤ m.seed
/-- at s stands a law's state -/
def IsS (K : PySem.W.Frag) (H : Hp) (s : Addr) (i : Inf) : Prop := ∃ (ns : List Int) (m : Mv),
  H s = some (.dK (stD i m)) ∧ SqL K H i.c (ns.map V.int) ∧ ns.length ≤ 63 ∧ i.Ok ∧ m.Ok
theorem IsS.dk {K : PySem.W.Frag} {H : Hp} {s : Addr} {i : Inf} (h : IsS K H s i) : ∃ kvs, H s = some (.dK kvs) := let ⟨_, _, h, _⟩ := h; ⟨_, h⟩
theorem IsS.same {K : PySem.W.Frag} {H H' : Hp} {s : Addr} {i : Inf} (h : IsS K H s i) (e : Same H H') : IsS K H' s i := by
  obtain ⟨ns, m, a, b, c⟩ := h
  exact ⟨ns, m, e _ _ a, Same.seq e b, c⟩
theorem IsS.keep {K : PySem.W.Frag} {H H' : Hp} {s : Addr} {i : Inf} (h : IsS K H s i) (e : Ext s H H') : Keep K H H' := by
  obtain ⟨kvs, hk⟩ := h.dk
  exact e.keep hk
theorem IsS.seq {K : PySem.W.Frag} {H H' : Hp} {s a : Addr} {i : Inf} {xs : List V} (h : IsS K H s i) (e : Ext s H H') (q : SqL K H a xs) : SqL K H' a xs := by
  obtain ⟨kvs, hk⟩ := h.dk
  exact e.seq hk q
theorem IsS.ne {K : PySem.W.Frag} {H : Hp} {s D : Addr} {i : Inf} (h : IsS K H s i) (hD : H D = none) : D ≠ s := fun z => by
  obtain ⟨kvs, hk⟩ := h.dk
  rw [z, hk] at hD
  cases hD
/-- a list that is filled at D stands beside the state -/
theorem IsS.over {K : PySem.W.Frag} {H1 H3 : Hp} {s D : Addr} {i : Inf} {o : HO} (a : IsS K H1 s i) (b : IsS K H3 s i) (x : Ext s H1 (upd H3 D o)) (n : D ≠ s) : IsS K (upd H3 D o) s i := by
  obtain ⟨ns, m, a1, a2, a3, a4, _⟩ := a
  obtain ⟨_, m3, b1, _, _, _, b5⟩ := b
  exact ⟨ns, m3, by rw [upd_ne n.symm]; exact b1, x.seq a1 a2, a3, a4, b5⟩
theorem Ext.over {H1 H3 : Hp} {s D : Addr} (x : Ext s H1 H3) (hD : H1 D = none) (o : HO) : Ext s H1 (L2.upd H3 D o) := fun b u n h => by
  rw [upd_ne (ne_of_none h hD)]
  exact x b u n h
theorem gS {H : Hp} {s : Addr} {i : Inf} {m : Mv} {k : Str} {v : V} (h : H s = some (.dK (stD i m))) (e : valV (stD i m) (.inr k) = some v) : DGet H s (.str k) (some v) := by
  rw [← e]; exact DGet.k (k := Sum.inr k) h
theorem pS {H : Hp} {s : Addr} {i i' : Inf} {m m' : Mv} {k : Str} {v : V} (h : H s = some (.dK (stD i m))) (e : putK (stD i m) (.inr k) v = stD i' m') : DPut H s (.str k) v (upd H s (.dK (stD i' m'))) := by
  rw [← e]; exact DPut.k (k := Sum.inr k) h (by show 10 < sizeLine; decide)
/-- what a drawn number promises -/
def spTaken (K : PySem.W.Frag) : Sp := fun vs H Q _ => ∃ (s : Addr) (i : Inf) (m : Int), vs = [.ref s, .int m] ∧ IsS K H s i ∧ 0 < m ∧ m.natAbs < 2 ^ 200 ∧
  ∀ (r : Int) (H' : Hp), 0 ≤ r → r < m → Ext s H H' → IsS K H' s i → Q (.int r) H'
end Sc
namespace Sc
open PySem PySem.Spec PyProof.Rows L2
/-- the state that a law begins with -/
def spBegun (K : PySem.W.Frag) : Sp := fun vs H Q _ => ∃ (c : Addr) (ns : List Int), vs = [.ref c] ∧ SqL K H c (ns.map V.int) ∧ ns.length ≤ 63 ∧
  ∀ (s : Addr) (i : Inf) (H' : Hp), Same H H' → H s = none → i.c = c → i.odd = 0 → H' i.f = some (.lst []) → H i.f = none → IsS K H' s i → Q (.ref s) H'
end Sc
namespace Sc
open PySem PySem.Spec PyProof.Rows L2
/-! ### words -/
/-- one to eight of the letters from a to z -/
def Word (z : Str) : Prop := 1 ≤ z.cps.toList.length ∧ z.cps.toList.length ≤ 8 ∧ ∀ c ∈ z.cps.toList, 97 ≤ c ∧ c ≤ 122
def talks : List Str := ["size", "at", "row", "is", "has", "get", "put", "look", "let", "each", "fold", "if", "plus", "minus", "join", "push", "name", "text", "book"]
def signAt (n : Nat) : Str := ⟨#[n]⟩
/-- the word of a number -/
def wordOf (i : Inf) (k : Int) : Str :=
  if i.talk = 1 ∧ k < 19 then talks.getD k.toNat Str.empty else reps 113 i.place.toNat ++ signAt (97 + ((k + i.turn) % 26).toNat) ++ reps 113 (i.size - i.place - 1).toNat
theorem app_list (x y : Str) : (x ++ y).cps.toList = x.cps.toList ++ y.cps.toList := Array.toList_append
theorem len_list (x : Str) : x.length = x.cps.toList.length := (Array.length_toList ..).symm
theorem reps_list (c n : Nat) : (reps c n).cps.toList = List.replicate n c := rfl
instance (z : Str) : Decidable (Word z) := by unfold Word; infer_instance
theorem talks_word : ∀ z ∈ talks, Word z := by decide +kernel
theorem word_of {i : Inf} (h : i.Ok) {k : Int} (k0 : 0 ≤ k) : Word (wordOf i k) := by
  unfold wordOf
  split
  · rename_i c
    have lt : k.toNat < talks.length := by show k.toNat < 19; omega
    rw [List.getD_eq_getElem?_getD, List.getElem?_eq_getElem lt]
    exact talks_word _ (List.getElem_mem lt)
  · obtain ⟨s1, s8, p0, p1, t0, t1, _, _⟩ := h
    refine ⟨?_, ?_, fun c hc => ?_⟩
    · rw [app_list, app_list, reps_list, reps_list, List.length_append, List.length_append, List.length_replicate, List.length_replicate]
      show 1 ≤ _ + 1 + _
      omega
    · rw [app_list, app_list, reps_list, reps_list, List.length_append, List.length_append, List.length_replicate, List.length_replicate]
      show _ + 1 + _ ≤ 8
      omega
    · rw [app_list, app_list, reps_list, reps_list, List.mem_append, List.mem_append, List.mem_replicate, List.mem_replicate] at hc
      rcases hc with (hc | hc) | hc
      · omega
      · have e : c = 97 + ((k + i.turn) % 26).toNat := List.mem_singleton.mp hc
        omega
      · omega
def spWord (K : PySem.W.Frag) : Sp := fun vs H Q _ => ∃ (s : Addr) (i : Inf) (k : Int), vs = [.ref s, .int k] ∧ IsS K H s i ∧ 0 ≤ k ∧
  ∀ (H' : Hp), Same H H' → Q (.str (wordOf i k)) H'
/-! ### kinds -/
inductive Ch where
  | num | txt
  | row (k : List Ch) | book (k : List Ch)
  | shape (fs : List (Str × List Ch))
  | letter (l : Str) | cut (l : Str) (hs : List Str)
  | any (w : Str) | wth (f : Str)
mutual
/-- a choice as Python's data -/
def pyC : Ch → PyData
  | .num => .tuple [.str "number"]
  | .txt => .tuple [.str "text"]
  | .row k => .tuple [.str "row", .tuple (pyL k)]
  | .book k => .tuple [.str "book", .tuple (pyL k)]
  | .shape fs => .tuple [.str "shape", .tuple (pyF fs)]
  | .letter l => .tuple [.str "letter", .str l]
  | .cut l hs => .tuple [.str "cut", .str l, .tuple (hs.map .str)]
  | .any w => .tuple [.str "some", .str w]
  | .wth f => .tuple [.str "with", .str f]
def pyL : List Ch → List PyData
  | [] => []
  | c :: r => pyC c :: pyL r
def pyF : List (Str × List Ch) → List PyData
  | [] => []
  | (f, k) :: r => .tuple [.str f, .tuple (pyL k)] :: pyF r
end
theorem pyL_map : ∀ k : List Ch, pyL k = k.map pyC
  | [] => rfl
  | c :: r => by rw [pyL, pyL_map r]; rfl
theorem pyF_map : ∀ fs : List (Str × List Ch), pyF fs = fs.map fun p => .tuple [.str p.1, .tuple (pyL p.2)]
  | [] => rfl
  | (f, k) :: r => by rw [pyF, pyF_map r]; rfl
/-- the value v is the kind k, the choice c -/
abbrev IsK (K : PySem.W.Frag) (H : Hp) (v : V) (k : List Ch) : Prop := Dt K H v (.tuple (pyL k))
abbrev IsC (K : PySem.W.Frag) (H : Hp) (v : V) (c : Ch) : Prop := Dt K H v (pyC c)
/-- a shape's fields: some words, ascending -/
def Fld (zs : List Str) : Prop := zs ≠ [] ∧ zs.length ≤ 26 ∧ zs.Nodup ∧ sortedS zs = true ∧ ∀ z ∈ zs, Word z
mutual
/-- what a law draws: to n deep, letters of ls -/
def okC (ls : List Str) : Nat → Ch → Prop
  | _, .num => True
  | _, .txt => True
  | n, .row k => 0 < n ∧ k ≠ [] ∧ k.length ≤ 3 ∧ okL ls (n - 1) k
  | n, .book k => 0 < n ∧ k ≠ [] ∧ k.length ≤ 3 ∧ okL ls (n - 1) k
  | n, .shape fs => 0 < n ∧ fs.length ≤ 2 ∧ Fld (fs.map (·.1)) ∧ okF ls (n - 1) fs
  | _, .letter l => l ∈ ls
  | _, _ => False
def okL (ls : List Str) : Nat → List Ch → Prop
  | _, [] => True
  | n, c :: r => okC ls n c ∧ okL ls n r
def okF (ls : List Str) : Nat → List (Str × List Ch) → Prop
  | _, [] => True
  | n, (f, k) :: r => Word f ∧ k ≠ [] ∧ k.length ≤ 3 ∧ okL ls n k ∧ okF ls n r
end
theorem okL_snoc {ls : List Str} {n : Nat} {c : Ch} (h : okC ls n c) : ∀ {k : List Ch}, okL ls n k → okL ls n (k ++ [c])
  | [], _ => ⟨h, trivial⟩
  | _ :: _, a => ⟨a.1, okL_snoc h a.2⟩
theorem okF_snoc {ls : List Str} {n : Nat} {f : Str} {l : List Ch} (w : Word f) (l0 : l ≠ []) (l3 : l.length ≤ 3) (h : okL ls n l) : ∀ {fs : List (Str × List Ch)}, okF ls n fs → okF ls n (fs ++ [(f, l)])
  | [], _ => ⟨w, l0, l3, h, trivial⟩
  | _ :: _, a => ⟨a.1, a.2.1, a.2.2.1, a.2.2.2.1, okF_snoc w l0 l3 h a.2.2.2.2⟩
/-- a drawn kind, a drawn choice, drawn fields -/
def spKind (K : PySem.W.Frag) (n : Nat) : Sp := fun vs H Q _ => ∃ (s l : Addr) (i : Inf) (d : Nat) (ls : List Str), vs = [.ref s, .int d, .ref l] ∧ IsS K H s i ∧ d < n ∧ SqL K H l (ls.map V.str) ∧ ls.length ≤ 1000 ∧
  ∀ (v : V) (H' : Hp) (k : List Ch), Ext s H H' → IsS K H' s i → IsK K H' v k → k ≠ [] → k.length ≤ 3 → okL ls d k → Q v H'
def spChoice (K : PySem.W.Frag) (n : Nat) : Sp := fun vs H Q _ => ∃ (s l : Addr) (i : Inf) (d : Nat) (ls : List Str), vs = [.ref s, .int d, .ref l] ∧ IsS K H s i ∧ d < n ∧ SqL K H l (ls.map V.str) ∧ ls.length ≤ 1000 ∧
  ∀ (v : V) (H' : Hp) (c : Ch), Ext s H H' → IsS K H' s i → IsC K H' v c → okC ls d c → Q v H'
def spFields (K : PySem.W.Frag) (n : Nat) : Sp := fun vs H Q _ => ∃ (s l : Addr) (i : Inf) (d : Nat) (ls : List Str), vs = [.ref s, .int (d + 1 : Nat), .ref l] ∧ IsS K H s i ∧ d < n ∧ SqL K H l (ls.map V.str) ∧ ls.length ≤ 1000 ∧
  ∀ (v : V) (H' : Hp) (fs : List (Str × List Ch)), Ext s H H' → IsS K H' s i → Dt K H' v (.tuple (pyF fs)) → fs.length ≤ 2 → Fld (fs.map (·.1)) → okF ls d fs → Q v H'
end Sc
namespace Sc
open PySem PySem.Spec PyProof.Rows L2
/-! ### tests that change nothing -/
theorem and_pure {t u : TT} {σ : L2.St} {H : Hp} {Q : Bool → Hp → Prop} (c1 c2 : Bool) (h1 : ∀ R : Bool → Hp → Prop, R c1 H → t σ H R) (h2 : c1 = true → ∀ R : Bool → Hp → Prop, R c2 H → u σ H R) (hT : c1 = true → c2 = true → Q true H) (hF : ¬ (c1 = true ∧ c2 = true) → Q false H) : tAnd t u σ H Q := by
  refine h1 _ (ite2 (fun a => h2 a _ ?_) fun a => hF fun z => a z.1)
  cases b : c2 with
  | true => exact hT a b
  | false => exact hF fun z => by rw [b] at z; exact Bool.false_ne_true z.2
theorem or_pure {t u : TT} {σ : L2.St} {H : Hp} {Q : Bool → Hp → Prop} (c1 c2 : Bool) (h1 : ∀ R : Bool → Hp → Prop, R c1 H → t σ H R) (h2 : c1 = false → ∀ R : Bool → Hp → Prop, R c2 H → u σ H R) (hT : (c1 = true ∨ c2 = true) → Q true H) (hF : c1 = false → c2 = false → Q false H) : tOr t u σ H Q := by
  refine h1 _ (ite2 (fun a => hT (.inl a)) fun a => h2 (Bool.eq_false_iff.mpr a) _ ?_)
  cases b : c2 with
  | true => exact hT (.inr b)
  | false => exact hF (Bool.eq_false_iff.mpr a) b
theorem eqV_str (x y : Str) : decide (V.str x = V.str y) = decide (x = y) := by
  by_cases h : x = y
  · subst h; simp
  · rw [decide_eq_false h, decide_eq_false]; exact fun z => h (V.str.inj z)
theorem eqV_int (x y : Int) : decide (V.int x = V.int y) = decide (x = y) := by
  by_cases h : x = y
  · subst h; simp
  · rw [decide_eq_false h, decide_eq_false]; exact fun z => h (V.int.inj z)
end Sc
namespace Sc
open PySem PySem.Spec PyProof.Rows L2
theorem iteNo {c A B : Prop} [Decidable c] (h : ¬ c) (b : B) : if c then A else B := by rw [if_neg h]; exact b
theorem iteYes {c A B : Prop} [Decidable c] (h : c) (a : A) : if c then A else B := by rw [if_pos h]; exact a
/-! ### values -/
inductive Vl where
  | num (n : Int) | text (t : Str)
  | row (xs : List Vl) | book (xs : List (Str × Vl)) | shape (xs : List (Str × Vl))
/-- the value x stands at v, its objects among B -/
inductive IsV (H : Hp) (B : Addr → Prop) : V → Vl → Prop
  | num (n : Int) : IsV H B (.int n) (.num n)
  | text (t : Str) : IsV H B (.str t) (.text t)
  | row {a : Addr} (vs : List V) (xs : List Vl) : B a → H a = some (.lst vs) → vs.length = xs.length → (∀ (j : Nat) (v : V) (x : Vl), vs[j]? = some v → xs[j]? = some x → IsV H B v x) → IsV H B (.ref a) (.row xs)
  | book {a : Addr} (vs : List V) (xs : List (Str × Vl)) : B a → H a = some (.dK ((xs.map fun q => Sum.inr q.1).zip vs)) → vs.length = xs.length → (xs.map (·.1)).Nodup → (∀ (j : Nat) (v : V) (q : Str × Vl), vs[j]? = some v → xs[j]? = some q → IsV H B v q.2) → IsV H B (.ref a) (.book xs)
  | shape {a : Addr} (as : List Addr) (vs : List V) (xs : List (Str × Vl)) : Fld (xs.map (·.1)) → B a → H a = some (.tup (as.map V.ref)) → as.length = xs.length → vs.length = xs.length →
      (∀ (j : Nat) (b : Addr) (v : V) (q : Str × Vl), as[j]? = some b → vs[j]? = some v → xs[j]? = some q → B b ∧ H b = some (.tup [.str q.1, v])) →
      (∀ (j : Nat) (v : V) (q : Str × Vl), vs[j]? = some v → xs[j]? = some q → IsV H B v q.2) → IsV H B (.ref a) (.shape xs)
theorem IsV.keep {H H' : Hp} {B B' : Addr → Prop} (e : ∀ a o, B a → H a = some o → B' a ∧ H' a = some o) {v : V} {x : Vl} (h : IsV H B v x) : IsV H' B' v x := by
  induction h with
  | num n => exact .num n
  | text t => exact .text t
  | row vs xs b hv hl _ ih => exact .row vs xs (e _ _ b hv).1 (e _ _ b hv).2 hl ih
  | book vs xs b hv hl nd _ ih => exact .book vs xs (e _ _ b hv).1 (e _ _ b hv).2 hl nd ih
  | shape as vs xs fld b ha hl hl2 hp _ ih => exact .shape as vs xs fld (e _ _ b ha).1 (e _ _ b ha).2 hl hl2 (fun j b v q h1 h2 h3 => let ⟨h4, h5⟩ := hp j b v q h1 h2 h3; e _ _ h4 h5) ih
/-- values one by one -/
def IsVs (H : Hp) (B : Addr → Prop) (vs : List V) (xs : List Vl) : Prop := vs.length = xs.length ∧ ∀ (j : Nat) (v : V) (x : Vl), vs[j]? = some v → xs[j]? = some x → IsV H B v x
theorem IsVs.nil {H : Hp} {B : Addr → Prop} : IsVs H B [] [] := ⟨rfl, fun j v d h => by simp at h⟩
theorem IsVs.keep {H H' : Hp} {B B' : Addr → Prop} (e : ∀ a o, B a → H a = some o → B' a ∧ H' a = some o) {vs : List V} {xs : List Vl} (h : IsVs H B vs xs) : IsVs H' B' vs xs := ⟨h.1, fun j v x a b => (h.2 j v x a b).keep e⟩
theorem IsVs.snoc {H : Hp} {B : Addr → Prop} {v : V} {d : Vl} {vs : List V} {ds : List Vl} (t : IsVs H B vs ds) (h : IsV H B v d) : IsVs H B (vs ++ [v]) (ds ++ [d]) := by
  refine ⟨by rw [List.length_append, List.length_append, t.1]; rfl, fun j u e h1 h2 => ?_⟩
  by_cases lt : j < vs.length
  · rw [List.getElem?_append_left lt] at h1
    rw [List.getElem?_append_left (t.1 ▸ lt)] at h2
    exact t.2 j u e h1 h2
  · rw [List.getElem?_append_right (by omega)] at h1
    rw [List.getElem?_append_right (by have := t.1; omega)] at h2
    have z : j - vs.length = 0 := by
      have := (List.getElem?_eq_some_iff.mp h1).1
      simp at this
      omega
    rw [z] at h1
    rw [← t.1, z] at h2
    cases h1; cases h2; exact h
/-- what a value's type is -/
def headT : Vl → String
  | .num _ => "int" | .text _ => "str" | .row _ => "list" | .book _ => "dict" | .shape _ => "tuple"
theorem IsV.ty {K : PySem.W.Frag} {H : Hp} {B : Addr → Prop} {v : V} {x : Vl} (h : IsV H B v x) : TyX K H v (.type (headT x)) := by
  cases h with
  | num n => exact .base (.int n)
  | text t => exact .base (.str t)
  | row vs xs b hv => exact .base (.lst hv)
  | book vs xs b hv => exact .base (.dK hv)
  | shape as vs xs _ b ha => exact .base (.tup ha)
/-! ### heads -/
def blank : Str := " "
/-- the head's text of fields, behind the word shape -/
def headV : Vl → Str
  | .num _ => "number" | .text _ => "text" | .row _ => "row" | .book _ => "book" | .shape xs => Txt.join " " ("shape" :: xs.map (·.1))
theorem joinL_cons (S p : List Nat) : ∀ ps : List (List Nat), ps ≠ [] → TL.joinL S (p :: ps) = p ++ (S ++ TL.joinL S ps)
  | [], h => absurd rfl h
  | _ :: _, _ => rfl
end Sc
namespace Sc
open PySem PySem.Spec PyProof.Rows L2
/-- a text of up to three signs, from the blank to ~ but the percent sign -/
def Tex (t : Str) : Prop := t.cps.toList.length ≤ 3 ∧ ∀ c ∈ t.cps.toList, 32 ≤ c ∧ c ≤ 126 ∧ c ≠ 37
def spText (K : PySem.W.Frag) : Sp := fun vs H Q _ => ∃ (s : Addr) (i : Inf), vs = [.ref s] ∧ IsS K H s i ∧
  ∀ (t : Str) (H' : Hp), Ext s H H' → IsS K H' s i → Tex t → Q (.str t) H'
def spNumber (K : PySem.W.Frag) : Sp := fun vs H Q _ => ∃ (s : Addr) (i : Inf), vs = [.ref s] ∧ IsS K H s i ∧
  ∀ (n : Int) (H' : Hp), Ext s H H' → IsS K H' s i → -10 ^ 30 < n → n < 10 ^ 30 → Q (.int n) H'
/-- a drawn value of a kind without letters -/
def spValue (K : PySem.W.Frag) (n : Nat) : Sp := fun vs H Q _ => ∃ (s : Addr) (i : Inf) (v st : V) (d : Nat) (k : List Ch), vs = [.ref s, v, st] ∧ IsS K H s i ∧ d < n ∧ IsK K H v k ∧ k ≠ [] ∧ k.length ≤ 3 ∧ okL [] d k ∧
  ∀ (r : V) (H' : Hp) (x : Vl), Ext s H H' → IsS K H' s i → IsV H' (fun a => H a = none) r x → Q r H'
theorem IsS.freed {K : PySem.W.Frag} {H H' : Hp} {s l : Addr} {i : Inf} (a : IsS K H s i) (b : IsS K H' s i) (e : Ext s H H') (h : H' l = none) : H l = none := by
  obtain ⟨k1, h1⟩ := a.dk
  obtain ⟨k2, h2⟩ := b.dk
  exact e.free h1 ⟨_, h2⟩ h
end Sc
namespace Sc
open PySem PySem.Spec PyProof.Rows L2
/-- what follows, once for all ways -/
theorem seq_with {t u : TS} {D : Ends} {σ : L2.St} {H : Hp} (F : (L2.St → Hp → Prop) → Prop) (h1 : F (u D)) (h2 : F (u D) → t { D with nx := u D } σ H) : tSeq t u D σ H := h2 h1
theorem mem_put {kvs : List (Key × V)} {k : Key} {v : V} {p : Key × V} (h : p ∈ putK kvs k v) : p = (k, v) ∨ p ∈ kvs := by
  unfold putK at h
  split at h
  · obtain ⟨q, hq, e⟩ := List.mem_map.mp h
    by_cases z : q.1 = k
    · rw [if_pos z] at e
      exact .inl (e ▸ z ▸ rfl)
    · rw [if_neg z] at e
      exact .inr (e ▸ hq)
  · rcases List.mem_append.mp h with h | h
    · exact .inr h
    · exact .inl (List.mem_singleton.mp h)
theorem nd_put {kvs : List (Key × V)} (k : Key) (v : V) (nd : (kvs.map (·.1)).Nodup) : ((putK kvs k v).map (·.1)).Nodup := by
  cases z : valV kvs k with
  | none => exact nd_putK v nd z
  | some y =>
    have e : (putK kvs k v).map (·.1) = kvs.map (·.1) := by
      unfold putK
      rw [valV_any, z, if_pos (show (some y).isSome = true from rfl), List.map_map]
      refine List.map_congr_left fun p _ => ?_
      show (if p.1 = k then (p.1, v) else p).1 = p.1
      split <;> rfl
    rw [e]
    exact nd
theorem put_len (kvs : List (Key × V)) (k : Key) (v : V) : (putK kvs k v).length ≤ kvs.length + 1 := by
  unfold putK
  split
  · rw [List.length_map]; omega
  · rw [List.length_append]; exact Nat.le_refl _
/-- a dict of texts with values, as a book -/
theorem book_of {H : Hp} {B : Addr → Prop} : ∀ kvs : List (Key × V), (∀ p ∈ kvs, ∃ t x, p.1 = Sum.inr t ∧ IsV H B p.2 x) → (kvs.map (·.1)).Nodup →
    ∃ (vs : List V) (xs : List (Str × Vl)), kvs = (xs.map fun q => Sum.inr q.1).zip vs ∧ vs.length = xs.length ∧ (xs.map (·.1)).Nodup ∧ (∀ t, t ∈ xs.map (·.1) → (Sum.inr t : Key) ∈ kvs.map (·.1)) ∧ ∀ (j : Nat) (v : V) (q : Str × Vl), vs[j]? = some v → xs[j]? = some q → IsV H B v q.2
  | [], _, _ => ⟨[], [], rfl, rfl, List.nodup_nil, fun t h => by simp at h, fun j v q h => by simp at h⟩
  | (k, v) :: r, h, nd => by
    obtain ⟨t, x, rfl, hx⟩ := h _ List.mem_cons_self
    have nd' : ((Sum.inr t : Key) :: r.map (·.1)).Nodup := nd
    obtain ⟨n1, n2⟩ := List.nodup_cons.mp nd'
    obtain ⟨vs, xs, e, hl, nd2, hm, ha⟩ := book_of r (fun p hp => h p (List.mem_cons_of_mem _ hp)) n2
    refine ⟨v :: vs, (t, x) :: xs, by rw [e]; rfl, congrArg (· + 1) hl, List.nodup_cons.mpr ⟨fun z => n1 (hm t z), nd2⟩, fun u hu => ?_, fun j v' q h1 h2 => ?_⟩
    · rcases List.mem_cons.mp hu with z | z
      · rw [z]; exact List.mem_cons_self
      · exact List.mem_cons_of_mem _ (hm u z)
    · cases j with
      | zero => cases h1; cases h2; exact hx
      | succ j => exact ha j v' q h1 h2
theorem okL_mem {ls : List Str} {n : Nat} {c : Ch} : ∀ {k : List Ch}, okL ls n k → c ∈ k → okC ls n c
  | _ :: _, h, m => by
    rcases List.mem_cons.mp m with z | z
    · rw [z]; exact h.1
    · exact okL_mem h.2 z
theorem okF_mem {ls : List Str} {n : Nat} {p : Str × List Ch} : ∀ {fs : List (Str × List Ch)}, okF ls n fs → p ∈ fs → Word p.1 ∧ p.2 ≠ [] ∧ p.2.length ≤ 3 ∧ okL ls n p.2
  | (_, _) :: _, h, m => by
    rcases List.mem_cons.mp m with z | z
    · rw [z]; exact ⟨h.1, h.2.1, h.2.2.1, h.2.2.2.1⟩
    · exact okF_mem h.2.2.2.2 z
end Sc
namespace Sc
open PySem PySem.Spec PyProof.Rows L2
section
variable {X : Cx}
/-! rules within a comprehension's block: the written part said by its name -/
theorem ix_tupK (K : PySem.W.Frag) (h : X.K = K := by rfl) : IxR X (rIxT K) := h ▸ ix_tup
theorem ix_listK (K : PySem.W.Frag) (h : X.K = K := by rfl) : IxR X (rIxL K) := h ▸ ix_list
end
end Sc
namespace Sc
open PySem PySem.Spec PyProof.Rows L2
theorem Dt.strOf {K : PySem.W.Frag} {H : Hp} {v : V} {z : Str} (h : Dt K H v (.str z)) : v = .str z := by cases h; rfl
theorem Dts.uncons {K : PySem.W.Frag} {H : Hp} {vs : List V} {d : PyData} {ds : List PyData} (h : Dts K H vs (d :: ds)) : ∃ v us, vs = v :: us ∧ Dt K H v d ∧ Dts K H us ds := by
  cases vs with
  | nil => exact absurd h.1 (by simp)
  | cons v us => exact ⟨v, us, rfl, h.head, h.tail⟩
theorem Dts.unnil {K : PySem.W.Frag} {H : Hp} {vs : List V} (h : Dts K H vs []) : vs = [] := List.length_eq_zero_iff.mp h.1
/-- a tuple of a text -/
theorem Dt.one {K : PySem.W.Frag} {H : Hp} {v : V} {z : Str} (h : Dt K H v (.tuple [.str z])) : ∃ a, v = .ref a ∧ SqT K H a [.str z] := by
  obtain ⟨a, vs, rfl, ht, hd⟩ := h.open
  obtain ⟨u, us, rfl, h1, h2⟩ := hd.uncons
  rw [h1.strOf, h2.unnil] at ht
  exact ⟨a, rfl, ht⟩
/-- a tuple of a text and more -/
theorem Dt.two {K : PySem.W.Frag} {H : Hp} {v : V} {z : Str} {d : PyData} (h : Dt K H v (.tuple [.str z, d])) : ∃ a u, v = .ref a ∧ SqT K H a [.str z, u] ∧ Dt K H u d := by
  obtain ⟨a, vs, rfl, ht, hd⟩ := h.open
  obtain ⟨u, us, rfl, h1, h2⟩ := hd.uncons
  obtain ⟨u2, us2, rfl, h3, h4⟩ := h2.uncons
  rw [h1.strOf, h4.unnil] at ht
  exact ⟨a, u2, rfl, ht, h3⟩
theorem drawn_form {d : Nat} {c : Ch} (h : okC [] d c) : c = .num ∨ c = .txt ∨ (∃ d' fs, d = d' + 1 ∧ c = .shape fs ∧ Fld (fs.map (·.1)) ∧ fs.length ≤ 2 ∧ okF [] d' fs) ∨
    ∃ (d' : Nat) (wd : Str) (kk : List Ch), d = d' + 1 ∧ (wd = "row" ∨ wd = "book") ∧ pyC c = .tuple [.str wd, .tuple (pyL kk)] ∧ kk ≠ [] ∧ kk.length ≤ 3 ∧ okL [] d' kk := by
  cases c with
  | num => exact .inl rfl
  | txt => exact .inr (.inl rfl)
  | row k =>
    obtain ⟨h0, h1, h2, h3⟩ : 0 < d ∧ k ≠ [] ∧ k.length ≤ 3 ∧ okL [] (d - 1) k := h
    exact .inr (.inr (.inr ⟨d - 1, "row", k, by omega, .inl rfl, rfl, h1, h2, h3⟩))
  | book k =>
    obtain ⟨h0, h1, h2, h3⟩ : 0 < d ∧ k ≠ [] ∧ k.length ≤ 3 ∧ okL [] (d - 1) k := h
    exact .inr (.inr (.inr ⟨d - 1, "book", k, by omega, .inr rfl, rfl, h1, h2, h3⟩))
  | shape fs =>
    obtain ⟨h0, h1, h2, h3⟩ : 0 < d ∧ fs.length ≤ 2 ∧ Fld (fs.map (·.1)) ∧ okF [] (d - 1) fs := h
    exact .inr (.inr (.inl ⟨d - 1, fs, by omega, rfl, h2, h1, h3⟩))
  | letter l => exact absurd (show l ∈ [] from h) (by simp)
  | cut l hs => exact (show False from h).elim
  | any l => exact (show False from h).elim
  | wth l => exact (show False from h).elim
end Sc
namespace Sc
open PySem PySem.Spec PyProof.Rows L2
/-! ### the names that lead pairs -/
def Names (K : PySem.W.Frag) (H : Hp) (a : Addr) (zs : List Str) : Prop := ∃ ps : List V, SqT K H a ps ∧ ps.length = zs.length ∧ ∀ (j : Nat) (p : V) (z : Str), ps[j]? = some p → zs[j]? = some z → ∃ b us, p = .ref b ∧ SqT K H b (.str z :: us)
theorem names_shape {K : PySem.W.Frag} {H : Hp} {B : Addr → Prop} {v : V} {xs : List (Str × Vl)} (h : IsV H B v (.shape xs)) : ∃ a, v = .ref a ∧ Names K H a (xs.map (·.1)) ∧ Fld (xs.map (·.1)) := by
  cases h with
  | @shape a as vs xs fld b ha hl hl2 hp hv =>
    refine ⟨a, rfl, ⟨as.map V.ref, SqT.of ha, by rw [List.length_map, List.length_map, hl], fun j p z h1 h2 => ?_⟩, fld⟩
    rw [List.getElem?_map] at h1 h2
    obtain ⟨b', h3, rfl⟩ := Option.map_eq_some_iff.mp h1
    obtain ⟨q, h4, rfl⟩ := Option.map_eq_some_iff.mp h2
    have lt : j < vs.length := by rw [hl2]; exact (List.getElem?_eq_some_iff.mp h4).1
    exact ⟨b', [vs[j]], rfl, SqT.of (hp j b' vs[j] q h3 (List.getElem?_eq_getElem lt) h4).2⟩
theorem names_kind {K : PySem.W.Frag} {H : Hp} {v : V} {fs : List (Str × List Ch)} (h : Dt K H v (.tuple (pyF fs))) : ∃ a, v = .ref a ∧ Names K H a (fs.map (·.1)) := by
  obtain ⟨a, ps, rfl, ht, hd⟩ := h.open
  refine ⟨a, rfl, ps, ht, by rw [hd.1, pyF_map, List.length_map, List.length_map], fun j p z h1 h2 => ?_⟩
  obtain ⟨d, h3, h4⟩ := hd.at h1
  rw [pyF_map, List.getElem?_map] at h3
  rw [List.getElem?_map] at h2
  obtain ⟨q, h5, rfl⟩ := Option.map_eq_some_iff.mp h3
  obtain ⟨q', h6, rfl⟩ := Option.map_eq_some_iff.mp h2
  rw [h5] at h6
  cases h6
  obtain ⟨b, u, e, hb, _⟩ := h4.two
  exact ⟨b, [u], e, hb⟩
theorem Keep.names {K : PySem.W.Frag} {H H' : Hp} {a : Addr} {zs : List Str} (e : Keep K H H') (h : Names K H a zs) : Names K H' a zs := by
  obtain ⟨ps, h1, h2, h3⟩ := h
  exact ⟨ps, e _ _ h1, h2, fun j p z g1 g2 => let ⟨b, us, e1, e2⟩ := h3 j p z g1 g2; ⟨b, us, e1, e _ _ e2⟩⟩
theorem Fld.sum {zs : List Str} (h : Fld zs) : (zs.map (·.length)).sum ≤ 208 := by
  obtain ⟨_, h26, _, _, hw⟩ := h
  have g : ∀ zs : List Str, (∀ z ∈ zs, Word z) → (zs.map (·.length)).sum ≤ zs.length * 8 := fun zs => by
    induction zs with
    | nil => exact fun _ => Nat.le_refl _
    | cons z zs ih =>
      intro h
      have := ih fun y hy => h y (List.mem_cons_of_mem _ hy)
      have := (h z List.mem_cons_self).2.1
      rw [List.map_cons, List.sum_cons, len_list, List.length_cons]
      omega
  have := g zs hw
  omega
def spShapeHead (K : PySem.W.Frag) : Sp := fun vs H Q _ => ∃ (a : Addr) (zs : List Str), vs = [.ref a] ∧ Names K H a zs ∧ zs.length ≤ 100 ∧ (zs.map (·.length)).sum ≤ 10000 ∧
  ∀ (H' : Hp), Same H H' → Q (.str (Txt.join " " ("shape" :: zs))) H'
def spHeadOf (K : PySem.W.Frag) : Sp := fun vs H Q _ => ∃ (v : V) (B : Addr → Prop) (x : Vl), vs = [v] ∧ IsV H B v x ∧
  ∀ (H' : Hp), Same H H' → Q (.str (headV x)) H'
theorem sum_le_add (zs : List Str) (n : Nat) : (zs.map (·.length)).sum + zs.length * n = (zs.map fun z => z.length + n).sum := by
  induction zs with
  | nil => simp
  | cons z zs ih =>
    rw [List.map_cons, List.map_cons, List.sum_cons, List.sum_cons, List.length_cons, ← ih, Nat.add_mul]
    omega
/-- shape, and the fields behind it -/
theorem head_text {zs : List Str} (h : zs ≠ []) : Txt.join " " ("shape" :: zs) = ("shape " : Str) ++ Txt.join " " zs := by
  refine TL.ext_tl ?_
  rw [TL.tl_append, TL.join_eq, TL.join_eq, TL.tl_join, TL.tl_join, List.map_cons, joinL_cons _ _ _ (by simpa using h), ← List.append_assoc]
  congr 1
/-! ### words that differ -/
def odds (z : Str) : Nat := (z.cps.toList.filter fun c => decide (c ≠ 113)).length
theorem talks_odds : ∀ z ∈ talks, 2 ≤ odds z := by decide +kernel
theorem talks_nodup : talks.Nodup := by decide +kernel
theorem plain_odds (p c r : Nat) : odds (reps 113 p ++ signAt c ++ reps 113 r) ≤ 1 := by
  unfold odds
  have z : ∀ n, (List.replicate n 113).filter (fun c => decide (c ≠ 113)) = [] := fun n => List.filter_eq_nil_iff.mpr fun a h => by
    rw [(List.mem_replicate.mp h).2]; decide
  rw [app_list, app_list, reps_list, reps_list, List.filter_append, List.filter_append, z, z, List.nil_append, List.append_nil]
  show ([c].filter _).length ≤ 1
  exact List.length_filter_le _ _
theorem word_inj {i : Inf} (ok : i.Ok) {a b : Int} (a0 : 0 ≤ a) (a26 : a < 26) (b0 : 0 ≤ b) (b26 : b < 26) (h : wordOf i a = wordOf i b) : a = b := by
  have tk : ∀ k : Int, 0 ≤ k → k < 19 → ∃ lt : k.toNat < talks.length, talks.getD k.toNat Str.empty = talks[k.toNat] := fun k k0 k1 => by
    have lt : k.toNat < talks.length := by show k.toNat < 19; omega
    exact ⟨lt, by rw [List.getD_eq_getElem?_getD, List.getElem?_eq_getElem lt]; rfl⟩
  unfold wordOf at h
  split at h <;> split at h
  · rename_i ca cb
    obtain ⟨la, ea⟩ := tk a a0 ca.2
    obtain ⟨lb, eb⟩ := tk b b0 cb.2
    rw [ea, eb] at h
    have := (List.getElem_inj talks_nodup).mp h
    omega
  · rename_i ca cb
    obtain ⟨la, ea⟩ := tk a a0 ca.2
    have := talks_odds _ (List.getElem_mem la)
    rw [← ea, h] at this
    exact absurd (Nat.le_trans this (plain_odds _ _ _)) (by decide)
  · rename_i ca cb
    obtain ⟨lb, eb⟩ := tk b b0 cb.2
    have := talks_odds _ (List.getElem_mem lb)
    rw [← eb, ← h] at this
    exact absurd (Nat.le_trans this (plain_odds _ _ _)) (by decide)
  · have e := congrArg (fun z : Str => z.cps.toList[i.place.toNat]?) h
    rw [app_list, app_list, app_list, app_list, reps_list, reps_list] at e
    have g : ∀ c : Nat, (List.replicate i.place.toNat 113 ++ (signAt c).cps.toList ++ List.replicate (i.size - i.place - 1).toNat 113)[i.place.toNat]? = some c := fun c => by
      rw [List.append_assoc, List.getElem?_append_right (by rw [List.length_replicate]; exact Nat.le_refl _), List.length_replicate, Nat.sub_self]
      rfl
    rw [g, g] at e
    have e2 := Option.some.inj e
    have t0 := ok.t0
    have t1 := ok.t1
    omega
end Sc
namespace Sc
open PySem PySem.Spec PyProof.Rows L2
theorem no_bool (x : Vl) : kitB (headT x) "bool" = some false := by
  cases x with
  | num _ => exact (by decide +kernel : kitB "int" "bool" = some false)
  | text _ => exact (by decide +kernel : kitB "str" "bool" = some false)
  | row _ => exact (by decide +kernel : kitB "list" "bool" = some false)
  | book _ => exact (by decide +kernel : kitB "dict" "bool" = some false)
  | shape _ => exact (by decide +kernel : kitB "tuple" "bool" = some false)
theorem joinL_len (S : List Nat) : ∀ ps : List (List Nat), (TL.joinL S ps).length ≤ (ps.map (·.length)).sum + ps.length * S.length
  | [] => Nat.zero_le _
  | [p] => by
    show p.length ≤ [p.length].sum + 1 * _
    simp
  | p :: q :: r => by
    have ih := joinL_len S (q :: r)
    rw [joinL_cons _ _ _ (by simp), List.length_append, List.length_append, List.map_cons, List.sum_cons, List.length_cons, Nat.add_mul]
    omega
theorem join_len (y : Str) (zs : List Str) : (Txt.join y zs).length ≤ (zs.map (·.length)).sum + zs.length * y.length := by
  have e : (Txt.join y zs).length = (TL.joinL (TL.tl y) (zs.map TL.tl)).length := by
    rw [len_list]
    exact congrArg List.length ((congrArg TL.tl (TL.join_eq y zs)).trans (TL.tl_join y zs))
  rw [e]
  refine Nat.le_trans (joinL_len _ _) ?_
  rw [List.map_map, List.length_map, len_list y]
  refine Nat.add_le_add_right (Nat.le_of_eq (congrArg List.sum (List.map_congr_left fun z _ => ?_))) _
  exact (len_list z).symm
end Sc
namespace Sc
open PySem PySem.Spec PyProof.Rows L2
/-! ### the texts of kinds -/
def mkS (l : List Nat) : Str := ⟨l.toArray⟩
theorem tl_mkS (l : List Nat) : TL.tl (mkS l) = l := rfl
theorem mkS_tl (z : Str) : mkS (TL.tl z) = z := TL.ext_tl rfl
def bar : List Nat := TL.tl " | "
def com : List Nat := TL.tl ", "
mutual
/-- the signs of a choice's text -/
def cC : Ch → List Nat
  | .num => TL.tl "number"
  | .txt => TL.tl "text"
  | .row k => TL.tl "row" ++ 40 :: (TL.joinL bar (cL k) ++ [41])
  | .book k => TL.tl "book" ++ 40 :: (TL.joinL bar (cL k) ++ [41])
  | .shape fs => 123 :: (TL.joinL com (cF fs) ++ [125])
  | .letter l => TL.tl l
  | .cut l hs => TL.tl l ++ 40 :: (TL.joinL com (hs.map TL.tl) ++ [41])
  | .any w => TL.tl "some" ++ 32 :: TL.tl w
  | .wth f => TL.tl "with" ++ 32 :: TL.tl f
def cL : List Ch → List (List Nat)
  | [] => []
  | c :: r => cC c :: cL r
def cF : List (Str × List Ch) → List (List Nat)
  | [] => []
  | (f, k) :: r => (TL.tl f ++ 58 :: 32 :: TL.joinL bar (cL k)) :: cF r
end
theorem cL_map : ∀ k : List Ch, cL k = k.map cC
  | [] => rfl
  | c :: r => by rw [cL, cL_map r]; rfl
theorem cF_map : ∀ fs : List (Str × List Ch), cF fs = fs.map fun p => TL.tl p.1 ++ 58 :: 32 :: TL.joinL bar (cL p.2)
  | [] => rfl
  | (f, k) :: r => by rw [cF, cF_map r]; rfl
def txC (c : Ch) : Str := mkS (cC c)
def txK (k : List Ch) : Str := mkS (TL.joinL bar (cL k))
def txF (p : Str × List Ch) : Str := mkS (TL.tl p.1 ++ 58 :: 32 :: TL.joinL bar (cL p.2))
theorem txK_join (k : List Ch) : Txt.join " | " (k.map txC) = txK k := by
  refine TL.ext_tl ?_
  rw [TL.join_eq, TL.tl_join, List.map_map]
  show TL.joinL bar (k.map cC) = TL.joinL bar (cL k)
  rw [cL_map]
mutual
/-- how deep -/
def dC : Ch → Nat
  | .row k => dL k + 1
  | .book k => dL k + 1
  | .shape fs => dF fs + 1
  | _ => 0
def dL : List Ch → Nat
  | [] => 0
  | c :: r => max (dC c) (dL r)
def dF : List (Str × List Ch) → Nat
  | [] => 0
  | (_, k) :: r => max (dL k) (dF r)
end
theorem dL_mem {c : Ch} : ∀ {k : List Ch}, c ∈ k → dC c ≤ dL k
  | d :: r, h => by
    rcases List.mem_cons.mp h with e | e
    · rw [e]; exact Nat.le_max_left _ _
    · exact Nat.le_trans (dL_mem e) (Nat.le_max_right _ _)
theorem dF_mem {p : Str × List Ch} : ∀ {fs : List (Str × List Ch)}, p ∈ fs → dL p.2 ≤ dF fs
  | (f, k) :: r, h => by
    rcases List.mem_cons.mp h with e | e
    · rw [e]; exact Nat.le_max_left _ _
    · exact Nat.le_trans (dF_mem e) (Nat.le_max_right _ _)
theorem joinL_mem (S : List Nat) {p : List Nat} : ∀ {ps : List (List Nat)}, p ∈ ps → p.length ≤ (TL.joinL S ps).length
  | [q], h => by rw [List.mem_singleton.mp h]; exact Nat.le_refl _
  | q :: r :: t, h => by
    rw [joinL_cons _ _ _ (by simp), List.length_append, List.length_append]
    rcases List.mem_cons.mp h with e | e
    · rw [e]; omega
    · have := joinL_mem S (ps := r :: t) e
      omega
theorem joinL_sum (S : List Nat) : ∀ (p : List Nat) (ps : List (List Nat)), (TL.joinL S (p :: ps)).length = p.length + ((ps.map (·.length)).sum + ps.length * S.length)
  | p, [] => by show p.length = _; simp
  | p, q :: r => by
    rw [joinL_cons _ _ _ (by simp), List.length_append, List.length_append, joinL_sum S q r, List.map_cons, List.sum_cons, List.length_cons, Nat.add_mul]
    omega
/-- what join asks of the parts' lengths -/
theorem join_room {y : Str} {zs : List Str} {n : Nat} (h : (TL.joinL (TL.tl y) (zs.map TL.tl)).length ≤ n) : (zs.map (·.length)).sum + zs.length * y.length ≤ n + y.length := by
  cases zs with
  | nil => simp
  | cons z zs =>
    rw [List.map_cons, joinL_sum] at h
    rw [List.map_cons, List.sum_cons, List.length_cons, Nat.add_mul, len_list y, len_list z]
    have e : ((zs.map TL.tl).map (·.length)).sum = (zs.map (·.length)).sum := by
      rw [List.map_map]
      exact congrArg List.sum (List.map_congr_left fun x _ => (len_list x).symm)
    rw [e, List.length_map] at h
    show z.cps.toList.length + _ + _ ≤ _
    have h' : z.cps.toList.length + ((zs.map (·.length)).sum + zs.length * y.cps.toList.length) ≤ n := h
    omega
theorem joinL_many (S : List Nat) (hS : 1 ≤ S.length) : ∀ ps : List (List Nat), ps.length ≤ (TL.joinL S ps).length + 1
  | [] => Nat.zero_le _
  | p :: ps => by
    rw [joinL_sum, List.length_cons]
    have : ps.length ≤ ps.length * S.length := Nat.le_mul_of_pos_right _ hS
    omega
/-! ### promises of what tells -/
def spTellK (K : PySem.W.Frag) (n : Nat) : Sp := fun vs H Q _ => ∃ (v : V) (k : List Ch), vs = [v] ∧ IsK K H v k ∧ dL k < n ∧ (txK k).length ≤ 1000000 ∧
  ∀ (H' : Hp), Same H H' → Q (.str (txK k)) H'
def spTellC (K : PySem.W.Frag) (n : Nat) : Sp := fun vs H Q _ => ∃ (v : V) (c : Ch), vs = [v] ∧ IsC K H v c ∧ dC c < n ∧ (txC c).length ≤ 1000000 ∧
  ∀ (H' : Hp), Same H H' → Q (.str (txC c)) H'
theorem tx_len (l : List Nat) : (mkS l).length = l.length := by rw [len_list]; rfl
/-- the word that leads a choice, what follows -/
def wdC : Ch → Str
  | .num => "number" | .txt => "text" | .row _ => "row" | .book _ => "book" | .shape _ => "shape" | .letter _ => "letter" | .cut _ _ => "cut" | .any _ => "some" | .wth _ => "with"
def restC : Ch → List PyData
  | .num => [] | .txt => []
  | .row k => [.tuple (pyL k)] | .book k => [.tuple (pyL k)]
  | .shape fs => [.tuple (pyF fs)]
  | .letter l => [.str l] | .cut l hs => [.str l, .tuple (hs.map .str)]
  | .any w => [.str w] | .wth f => [.str f]
theorem pyC_cons (c : Ch) : pyC c = .tuple (.str (wdC c) :: restC c) := by cases c <;> rfl
/-- a choice's tuple -/
theorem Dt.lead {K : PySem.W.Frag} {H : Hp} {v : V} {c : Ch} (h : Dt K H v (pyC c)) : ∃ a us, v = .ref a ∧ SqT K H a (.str (wdC c) :: us) ∧ Dts K H us (restC c) := by
  rw [pyC_cons c] at h
  obtain ⟨a, vs, rfl, ht, hd⟩ := h.open
  obtain ⟨u, us, rfl, h1, h2⟩ := hd.uncons
  rw [h1.strOf] at ht
  exact ⟨a, us, rfl, ht, h2⟩
theorem Dts.one {K : PySem.W.Frag} {H : Hp} {us : List V} {d : PyData} (h : Dts K H us [d]) : ∃ u, us = [u] ∧ Dt K H u d := by
  obtain ⟨u, us', rfl, h1, h2⟩ := h.uncons
  exact ⟨u, by rw [h2.unnil], h1⟩
/-- texts in a row -/
theorem Dts.strs {K : PySem.W.Frag} {H : Hp} : ∀ {zs : List Str} {vs : List V}, Dts K H vs (zs.map .str) → vs = zs.map V.str
  | [], vs, h => h.unnil
  | z :: zs, vs, h => by
    obtain ⟨u, us, rfl, h1, h2⟩ := Dts.uncons h
    rw [h1.strOf, Dts.strs h2]
    rfl
theorem strs_dts {K : PySem.W.Frag} {H : Hp} : ∀ zs : List Str, Dts K H (zs.map V.str) (zs.map .str)
  | [] => .nil
  | z :: zs => (strs_dts zs).cons (.str z)
theorem op_inT (K : PySem.W.Frag) {X : Cx} (h : X.K = K := by rfl) : OpR X (compareOp .In) (rIn K false) := h ▸ op_in_seq
end Sc
namespace Sc
open PySem PySem.Spec PyProof.Rows L2
theorem app_len (x y : Str) : (x ++ y).length = x.length + y.length := by
  rw [len_list, len_list, len_list, app_list, List.length_append]
theorem sizeOk {n : Nat} (h : n ≤ 2000000) : n ≤ sizeLine := by rw [sizeLine_eq]; omega
theorem txC_rb (k : List Ch) {c : Ch} (h : c = .row k ∨ c = .book k) : txC c = Str.empty ++ wdC c ++ ("(" : Str) ++ txK k ++ (")" : Str) := by
  refine TL.ext_tl ?_
  rcases h with rfl | rfl
  · show TL.tl "row" ++ 40 :: (TL.joinL bar (cL k) ++ [41]) = _
    simp only [TL.tl_append]
    show _ = TL.tl "row" ++ [40] ++ TL.joinL bar (cL k) ++ [41]
    simp only [List.append_assoc, List.cons_append, List.nil_append]
  · show TL.tl "book" ++ 40 :: (TL.joinL bar (cL k) ++ [41]) = _
    simp only [TL.tl_append]
    show _ = TL.tl "book" ++ [40] ++ TL.joinL bar (cL k) ++ [41]
    simp only [List.append_assoc, List.cons_append, List.nil_append]
theorem txF_eq (p : Str × List Ch) : txF p = Str.empty ++ p.1 ++ (": " : Str) ++ txK p.2 := by
  refine TL.ext_tl ?_
  simp only [TL.tl_append]
  show TL.tl p.1 ++ 58 :: 32 :: TL.joinL bar (cL p.2) = TL.tl p.1 ++ [58, 32] ++ TL.joinL bar (cL p.2)
  simp only [List.append_assoc, List.cons_append, List.nil_append]
theorem txC_shape (fs : List (Str × List Ch)) : txC (.shape fs) = ("{" : Str) ++ Txt.join ", " (fs.map txF) ++ ("}" : Str) := by
  refine TL.ext_tl ?_
  simp only [TL.tl_append]
  rw [TL.join_eq, TL.tl_join, List.map_map]
  show 123 :: (TL.joinL com (cF fs) ++ [125]) = [123] ++ TL.joinL com _ ++ [125]
  rw [cF_map]
  rfl
theorem txC_cut (l : Str) (hs : List Str) : txC (.cut l hs) = l ++ ("(" : Str) ++ Txt.join ", " hs ++ (")" : Str) := by
  refine TL.ext_tl ?_
  simp only [TL.tl_append]
  rw [TL.join_eq, TL.tl_join]
  show TL.tl l ++ 40 :: (TL.joinL com (hs.map TL.tl) ++ [41]) = TL.tl l ++ [40] ++ TL.joinL com (hs.map TL.tl) ++ [41]
  simp only [List.append_assoc, List.cons_append, List.nil_append]
theorem txC_any (w : Str) : txC (.any w) = Txt.join " " ["some", w] := by
  refine TL.ext_tl ?_
  rw [TL.join_eq, TL.tl_join]
  rfl
theorem txC_wth (w : Str) : txC (.wth w) = Txt.join " " ["with", w] := by
  refine TL.ext_tl ?_
  rw [TL.join_eq, TL.tl_join]
  rfl
theorem txC_num : txC .num = Txt.join " " ["number"] := by
  refine TL.ext_tl ?_
  rw [TL.join_eq, TL.tl_join]
  rfl
theorem txC_txt : txC .txt = Txt.join " " ["text"] := by
  refine TL.ext_tl ?_
  rw [TL.join_eq, TL.tl_join]
  rfl
end Sc
namespace Sc
open PySem PySem.Spec PyProof.Rows L2
/-- an f-string, its reading by a name -/
def tFs (ts : List TE) : TE := fun σ H Q => tJs ts Str.empty σ H fun out H1 => Q (.str out) H1
theorem pe_fs {X : Cx} {v1 v2 : Expr} {rest : List Expr} {ts : List TE} {pos : Pos} (h : PJ X (v1 :: v2 :: rest) ts) : PE X (.JoinedStr (v1 :: v2 :: rest) pos) (tFs ts) := pe_joined h
end Sc
namespace Sc
open PySem PySem.Spec PyProof.Rows L2
/-! ### a choice by its word -/
theorem wd_rb {c : Ch} (h : wdC c = "row" ∨ wdC c = "book") : ∃ k, c = .row k ∨ c = .book k := by
  cases c with
  | row k => exact ⟨k, .inl rfl⟩
  | book k => exact ⟨k, .inr rfl⟩
  | _ => exact absurd h (by simp only [wdC]; decide +kernel)
theorem wd_shape {c : Ch} (h : wdC c = "shape") : ∃ fs, c = .shape fs := by
  cases c with
  | shape fs => exact ⟨fs, rfl⟩
  | _ => exact absurd h (by simp only [wdC]; decide +kernel)
theorem wd_letter {c : Ch} (h : wdC c = "letter") : ∃ l, c = .letter l := by
  cases c with
  | letter l => exact ⟨l, rfl⟩
  | _ => exact absurd h (by simp only [wdC]; decide +kernel)
theorem wd_cut {c : Ch} (h : wdC c = "cut") : ∃ l hs, c = .cut l hs := by
  cases c with
  | cut l hs => exact ⟨l, hs, rfl⟩
  | _ => exact absurd h (by simp only [wdC]; decide +kernel)
theorem wd_due {c : Ch} (h : wdC c = "some" ∨ wdC c = "with") : ∃ z, c = .any z ∨ c = .wth z := by
  cases c with
  | any z => exact ⟨z, .inl rfl⟩
  | wth z => exact ⟨z, .inr rfl⟩
  | _ => exact absurd h (by simp only [wdC]; decide +kernel)
theorem wd_flat {c : Ch} (h1 : ¬ (wdC c = "row" ∨ wdC c = "book")) (h2 : wdC c ≠ "shape") (h3 : wdC c ≠ "letter") (h4 : wdC c ≠ "cut") (h5 : ¬ (wdC c = "some" ∨ wdC c = "with")) : c = .num ∨ c = .txt := by
  cases c with
  | num => exact .inl rfl
  | txt => exact .inr rfl
  | row k => exact absurd (.inl rfl) h1
  | book k => exact absurd (.inr rfl) h1
  | shape k => exact absurd rfl h2
  | letter k => exact absurd rfl h3
  | cut k _ => exact absurd rfl h4
  | any k => exact absurd (.inl rfl) h5
  | wth k => exact absurd (.inr rfl) h5
theorem txC_due {c : Ch} {z : Str} (h : c = .any z ∨ c = .wth z) : txC c = wdC c ++ (" " : Str) ++ z ∧ restC c = [.str z] := by
  rcases h with rfl | rfl
  · refine ⟨TL.ext_tl ?_, rfl⟩
    simp only [TL.tl_append]
    show TL.tl "some" ++ 32 :: TL.tl z = TL.tl "some" ++ [32] ++ TL.tl z
    simp only [List.append_assoc, List.cons_append, List.nil_append]
  · refine ⟨TL.ext_tl ?_, rfl⟩
    simp only [TL.tl_append]
    show TL.tl "with" ++ 32 :: TL.tl z = TL.tl "with" ++ [32] ++ TL.tl z
    simp only [List.append_assoc, List.cons_append, List.nil_append]
end Sc
namespace Sc
open PySem PySem.Spec PyProof.Rows L2
/-! ### letters -/
def Lett (z : Str) : Prop := 1 ≤ z.cps.toList.length ∧ z.cps.toList.length ≤ 8 ∧ ∀ c ∈ z.cps.toList, 65 ≤ c ∧ c ≤ 90
theorem upper_word {z : Str} (h : Word z) : Lett (Txt.upper z) := by
  obtain ⟨h1, h8, hc⟩ := h
  rw [upper_ascii fun c m => by have := hc c m; omega]
  have e : (⟨z.cps.map up1⟩ : Str).cps.toList = z.cps.toList.map up1 := Array.toList_map
  unfold Lett
  rw [e, List.length_map]
  refine ⟨h1, h8, fun c m => ?_⟩
  obtain ⟨d, hd, rfl⟩ := List.mem_map.mp m
  have := hc d hd
  unfold up1
  rw [if_pos this]
  omega
/-! ### dicts of texts -/
def zipK {β : Type} (xs : List (Str × β)) (vs : List V) : List (Key × V) := (xs.map fun q => Sum.inr q.1).zip vs
theorem zip_of {β : Type} {Pt : Str → Prop} {R : V → β → Prop} : ∀ kvs : List (Key × V), (∀ p ∈ kvs, ∃ t x, p.1 = Sum.inr t ∧ Pt t ∧ R p.2 x) → (kvs.map (·.1)).Nodup →
    ∃ (vs : List V) (xs : List (Str × β)), kvs = zipK xs vs ∧ vs.length = xs.length ∧ (xs.map (·.1)).Nodup ∧ (∀ t, t ∈ xs.map (·.1) → (Sum.inr t : Key) ∈ kvs.map (·.1)) ∧ ∀ (j : Nat) (v : V) (q : Str × β), vs[j]? = some v → xs[j]? = some q → Pt q.1 ∧ R v q.2
  | [], _, _ => ⟨[], [], rfl, rfl, List.nodup_nil, fun t h => by simp at h, fun j v q h => by simp at h⟩
  | (k, v) :: r, h, nd => by
    obtain ⟨t, x, rfl, ht, hx⟩ := h _ List.mem_cons_self
    have nd' : ((Sum.inr t : Key) :: r.map (·.1)).Nodup := nd
    obtain ⟨n1, n2⟩ := List.nodup_cons.mp nd'
    obtain ⟨vs, xs, e, hl, nd2, hm, ha⟩ := zip_of r (fun p hp => h p (List.mem_cons_of_mem _ hp)) n2
    refine ⟨v :: vs, (t, x) :: xs, by rw [e]; rfl, congrArg (· + 1) hl, List.nodup_cons.mpr ⟨fun z => n1 (hm t z), nd2⟩, fun u hu => ?_, fun j v' q h1 h2 => ?_⟩
    · rcases List.mem_cons.mp hu with z | z
      · rw [z]; exact List.mem_cons_self
      · exact List.mem_cons_of_mem _ (hm u z)
    · cases j with
      | zero => cases h1; cases h2; exact ⟨ht, hx⟩
      | succ j => exact ha j v' q h1 h2
theorem zipK_get {β : Type} : ∀ {xs : List (Str × β)} {vs : List V} {j : Nat} {q : Str × β} {v : V}, (xs.map (·.1)).Nodup → xs[j]? = some q → vs[j]? = some v → valV (zipK xs vs) (Sum.inr q.1) = some v
  | (t, x) :: xs, u :: us, 0, q, v, _, h1, h2 => by
    cases h1; cases h2
    exact valV_pos rfl
  | (t, x) :: xs, u :: us, j + 1, q, v, nd, h1, h2 => by
    obtain ⟨n1, n2⟩ := List.nodup_cons.mp (show (t :: xs.map (·.1)).Nodup from nd)
    refine (valV_neg fun e => n1 ?_).trans (zipK_get n2 h1 h2)
    have e2 : t = q.1 := Sum.inr.inj e
    rw [e2]
    exact List.mem_map_of_mem (List.mem_of_getElem? h1)
  | [], _, _, _, _, _, h1, _ => by simp at h1
  | _ :: _, [], _, _, _, _, _, h2 => by simp at h2
theorem zipK_keys {β : Type} : ∀ {xs : List (Str × β)} {vs : List V}, vs.length = xs.length → (zipK xs vs).map (fun kv => kV kv.1) = xs.map fun q => V.str q.1
  | [], [], _ => rfl
  | _ :: _, _ :: _, h => congrArg (_ :: ·) (zipK_keys (Nat.succ.inj h))
theorem zipK_len {β : Type} {xs : List (Str × β)} {vs : List V} (h : vs.length = xs.length) : (zipK xs vs).length = xs.length := by
  unfold zipK
  rw [List.length_zip, List.length_map, h, Nat.min_self]
/-! ### bounds -/
def IsB (K : PySem.W.Frag) (H : Hp) (b : Addr) (bs : List (Str × List Ch)) : Prop := ∃ vs : List V, H b = some (.dK (zipK bs vs)) ∧ vs.length = bs.length ∧ (bs.map (·.1)).Nodup ∧
  ∀ (j : Nat) (v : V) (q : Str × List Ch), vs[j]? = some v → bs[j]? = some q → IsK K H v q.2
theorem IsB.keep {K : PySem.W.Frag} {H H' : Hp} {b : Addr} {bs : List (Str × List Ch)} (h : IsB K H b bs) (k : Keep K H H') (e : ∀ o, H b = some o → H' b = some o) : IsB K H' b bs := by
  obtain ⟨vs, h1, h2, h3, h4⟩ := h
  exact ⟨vs, e _ h1, h2, h3, fun j v q a c => k.dt (h4 j v q a c)⟩
theorem IsB.same {K : PySem.W.Frag} {H H' : Hp} {b : Addr} {bs : List (Str × List Ch)} (h : IsB K H b bs) (e : Same H H') : IsB K H' b bs := h.keep (Same.keep e) fun o => e b o
theorem IsB.ext {K : PySem.W.Frag} {H H' : Hp} {s b : Addr} {i : Inf} {bs : List (Str × List Ch)} (h : IsB K H b bs) (S : IsS K H s i) (e : Ext s H H') (n : b ≠ s) : IsB K H' b bs := h.keep (S.keep e) fun o => e b o n
theorem IsB.at {K : PySem.W.Frag} {H : Hp} {b : Addr} {bs : List (Str × List Ch)} (h : IsB K H b bs) {j : Nat} {q : Str × List Ch} (e : bs[j]? = some q) : ∃ v, DGet H b (.str q.1) (some v) ∧ IsK K H v q.2 := by
  obtain ⟨vs, h1, h2, h3, h4⟩ := h
  have lt : j < vs.length := h2 ▸ (List.getElem?_eq_some_iff.mp e).1
  have g := zipK_get h3 e (List.getElem?_eq_getElem lt)
  exact ⟨vs[j], by rw [← g]; exact DGet.k (k := Sum.inr q.1) h1, h4 j _ q (List.getElem?_eq_getElem lt) e⟩
def okB (bs : List (Str × List Ch)) : Prop := ∀ q ∈ bs, Lett q.1 ∧ q.2 ≠ [] ∧ q.2.length ≤ 3 ∧ okL [] 1 q.2
def spBounds (K : PySem.W.Frag) : Sp := fun vs H Q _ => ∃ (s : Addr) (i : Inf) (m : Nat), vs = [.ref s, .int m] ∧ IsS K H s i ∧ m ≤ 10 ∧
  ∀ (b : Addr) (H' : Hp) (bs : List (Str × List Ch)), Ext s H H' → IsS K H' s i → H b = none → IsB K H' b bs → okB bs → bs.length ≤ m → Q (.ref b) H'
/-! ### heads of choices -/
def hdC : Ch → Str
  | .num => "number" | .txt => "text" | .row _ => "row" | .book _ => "book"
  | .shape fs => Txt.join " " ("shape" :: fs.map (·.1))
  | _ => Str.empty
/-- a choice with a head of its own -/
def hdOk : Ch → Prop
  | .num => True | .txt => True | .row _ => True | .book _ => True
  | .shape fs => Fld (fs.map (·.1))
  | _ => False
theorem hdOk_of {n : Nat} {c : Ch} (h : okC [] n c) : hdOk c := by
  cases c with
  | shape fs => exact (show 0 < n ∧ fs.length ≤ 2 ∧ Fld (fs.map (·.1)) ∧ okF [] (n - 1) fs from h).2.2.1
  | letter l => exact absurd (show l ∈ [] from h) (by simp)
  | cut l hs => exact (show False from h).elim
  | any l => exact (show False from h).elim
  | wth l => exact (show False from h).elim
  | _ => exact trivial
/-- the heads of a kind, ascending -/
def Hs (k : List Ch) (ys : List Str) : Prop := sortedS ys = true ∧ ys.Nodup ∧ ys.length ≤ k.length ∧ ∀ x, x ∈ ys ↔ x ∈ k.map hdC
def spHead (K : PySem.W.Frag) : Sp := fun vs H Q _ => ∃ (v : V) (c : Ch), vs = [v] ∧ IsC K H v c ∧ hdOk c ∧ ∀ (H' : Hp), Same H H' → Q (.str (hdC c)) H'
def headsR (bs : List (Str × List Ch)) (c : Ch) (ys : List Str) : Prop := (∃ l k, c = .letter l ∧ (l, k) ∈ bs ∧ Hs k ys) ∨ ∃ l, c = .cut l ys
def spHeads (K : PySem.W.Frag) : Sp := fun vs H Q _ => ∃ (v : V) (b : Addr) (c : Ch) (bs : List (Str × List Ch)), vs = [v, .ref b] ∧ IsC K H v c ∧ IsB K H b bs ∧ okB bs ∧ ((∃ l k, c = .letter l ∧ (l, k) ∈ bs) ∨ ∃ l hs, c = .cut l hs) ∧
  ∀ (v : V) (H' : Hp) (ys : List Str), Same H H' → Dt K H' v (.tuple (ys.map .str)) → headsR bs c ys → Q v H'
/-- a letter, or a cut of it -/
def okCut (bs : List (Str × List Ch)) (c : Ch) : Prop := ∃ l k, (l, k) ∈ bs ∧ (c = .letter l ∨ ∃ ys a m, c = .cut l ((ys.drop a).take m) ∧ Hs k ys ∧ 0 < m ∧ a + m ≤ ys.length ∧ m < ys.length)
def spCut (K : PySem.W.Frag) : Sp := fun vs H Q _ => ∃ (s b : Addr) (i : Inf) (bs : List (Str × List Ch)), vs = [.ref s, .ref b] ∧ IsS K H s i ∧ b ≠ s ∧ IsB K H b bs ∧ okB bs ∧ bs ≠ [] ∧ bs.length ≤ 10 ∧
  ∀ (v : V) (H' : Hp) (c : Ch), Ext s H H' → IsS K H' s i → IsC K H' v c → okCut bs c → Q v H'
/-- a kind with letters and, at its end, a cut -/
def okA (bs : List (Str × List Ch)) (d : Nat) (k : List Ch) : Prop := ∃ k0 cs, k = k0 ++ cs ∧ okL (bs.map (·.1)) d k0 ∧ k0 ≠ [] ∧ k0.length ≤ 3 ∧ (cs = [] ∨ ∃ c, cs = [c] ∧ okCut bs c)
def spAnyKind (K : PySem.W.Frag) (n : Nat) : Sp := fun vs H Q _ => ∃ (s b : Addr) (i : Inf) (d : Nat) (bs : List (Str × List Ch)), vs = [.ref s, .int d, .ref b] ∧ IsS K H s i ∧ d < n ∧ b ≠ s ∧ IsB K H b bs ∧ okB bs ∧ bs.length ≤ 10 ∧
  ∀ (v : V) (H' : Hp) (k : List Ch), Ext s H H' → IsS K H' s i → IsK K H' v k → okA bs d k → Q v H'
theorem Hs.few {k : List Ch} {ys : List Str} (h : Hs k ys) : ys.length ≤ k.length := h.2.2.1
end Sc
namespace Sc
open PySem PySem.Spec PyProof.Rows L2
/-! ### how long, how deep what is drawn may be -/
def wid : Nat → Nat
  | 0 => 8
  | n + 1 => 6 * wid n + 60
theorem joinL_max {S : List Nat} {B : Nat} : ∀ {ps : List (List Nat)}, (∀ p ∈ ps, p.length ≤ B) → (TL.joinL S ps).length ≤ ps.length * (B + S.length)
  | [], _ => Nat.zero_le _
  | [p], h => by
    have := h p List.mem_cons_self
    show p.length ≤ 1 * _
    omega
  | p :: q :: r, h => by
    have ih := joinL_max (S := S) (B := B) (ps := q :: r) fun x hx => h x (List.mem_cons_of_mem _ hx)
    have := h p List.mem_cons_self
    rw [joinL_cons _ _ _ (by simp), List.length_append, List.length_append, List.length_cons, Nat.add_mul]
    omega
theorem kind_len {B m : Nat} {k : List Ch} (h : ∀ p ∈ cL k, p.length ≤ B) (hk : k.length ≤ m) : (TL.joinL bar (cL k)).length ≤ m * (B + 3) := by
  refine Nat.le_trans (joinL_max h) ?_
  rw [cL_map, List.length_map]
  exact Nat.mul_le_mul_right _ hk
mutual
theorem lenC {ls : List Str} (hl : ∀ l ∈ ls, l.length ≤ 8) : ∀ {n : Nat} {c : Ch}, okC ls n c → (cC c).length ≤ wid n
  | 0, .num, _ => by decide
  | n + 1, .num, _ => Nat.le_trans (by decide : (cC .num).length ≤ 60) (Nat.le_add_left _ _)
  | 0, .txt, _ => by decide
  | n + 1, .txt, _ => Nat.le_trans (by decide : (cC .txt).length ≤ 60) (Nat.le_add_left _ _)
  | 0, .row k, h => absurd h.1 (Nat.lt_irrefl _)
  | n + 1, .row k, h => by
    have := kind_len (lenL hl (show okL ls n k from h.2.2.2)) h.2.2.1
    show (TL.tl "row" ++ 40 :: (TL.joinL bar (cL k) ++ [41])).length ≤ 6 * wid n + 60
    rw [List.length_append, List.length_cons, List.length_append]
    show 3 + (_ + 1 + 1) ≤ _
    omega
  | 0, .book k, h => absurd h.1 (Nat.lt_irrefl _)
  | n + 1, .book k, h => by
    have := kind_len (lenL hl (show okL ls n k from h.2.2.2)) h.2.2.1
    show (TL.tl "book" ++ 40 :: (TL.joinL bar (cL k) ++ [41])).length ≤ 6 * wid n + 60
    rw [List.length_append, List.length_cons, List.length_append]
    show 4 + (_ + 1 + 1) ≤ _
    omega
  | 0, .shape fs, h => absurd h.1 (Nat.lt_irrefl _)
  | n + 1, .shape fs, h => by
    have f := lenF hl (show okF ls n fs from h.2.2.2)
    have g := joinL_max (S := com) f
    rw [cF_map, List.length_map] at g
    have g2 : fs.length * (3 * wid n + 19 + com.length) ≤ 2 * (3 * wid n + 19 + 2) := Nat.mul_le_mul_right _ h.2.1
    rw [← cF_map] at g
    show (123 :: (TL.joinL com (cF fs) ++ [125])).length ≤ 6 * wid n + 60
    rw [List.length_cons, List.length_append]
    show _ + 1 + 1 ≤ _
    have : (TL.joinL com (cF fs)).length ≤ 2 * (3 * wid n + 19 + 2) := Nat.le_trans g g2
    omega
  | n, .letter l, h => by
    have := hl l h
    rw [len_list] at this
    refine Nat.le_trans this ?_
    cases n with
    | zero => exact Nat.le_refl _
    | succ n => show 8 ≤ 6 * wid n + 60; omega
  | _, .cut _ _, h => h.elim
  | _, .any _, h => h.elim
  | _, .wth _, h => h.elim
theorem lenL {ls : List Str} (hl : ∀ l ∈ ls, l.length ≤ 8) : ∀ {n : Nat} {k : List Ch}, okL ls n k → ∀ p ∈ cL k, p.length ≤ wid n
  | _, [], _, p, hp => by cases hp
  | n, c :: r, h, p, hp => by
    rcases List.mem_cons.mp hp with e | e
    · rw [e]; exact lenC hl h.1
    · exact lenL hl h.2 p e
theorem lenF {ls : List Str} (hl : ∀ l ∈ ls, l.length ≤ 8) : ∀ {n : Nat} {fs : List (Str × List Ch)}, okF ls n fs → ∀ p ∈ cF fs, p.length ≤ 3 * wid n + 19
  | _, [], _, p, hp => by cases hp
  | n, (f, k) :: r, h, p, hp => by
    rcases List.mem_cons.mp hp with e | e
    · have := kind_len (lenL hl h.2.2.2.1) h.2.2.1
      have w := h.1.2.1
      rw [e, List.length_append, List.length_cons, List.length_cons]
      show f.cps.toList.length + _ ≤ _
      omega
    · exact lenF hl h.2.2.2.2 p e
end
mutual
theorem deepC {ls : List Str} : ∀ {n : Nat} {c : Ch}, okC ls n c → dC c ≤ n
  | _, .num, _ => Nat.zero_le _
  | _, .txt, _ => Nat.zero_le _
  | 0, .row k, h => absurd h.1 (Nat.lt_irrefl _)
  | n + 1, .row k, h => Nat.succ_le_succ (deepL (show okL ls n k from h.2.2.2))
  | 0, .book k, h => absurd h.1 (Nat.lt_irrefl _)
  | n + 1, .book k, h => Nat.succ_le_succ (deepL (show okL ls n k from h.2.2.2))
  | 0, .shape fs, h => absurd h.1 (Nat.lt_irrefl _)
  | n + 1, .shape fs, h => Nat.succ_le_succ (deepF (show okF ls n fs from h.2.2.2))
  | _, .letter l, _ => Nat.zero_le _
  | _, .cut _ _, h => h.elim
  | _, .any _, h => h.elim
  | _, .wth _, h => h.elim
theorem deepL {ls : List Str} : ∀ {n : Nat} {k : List Ch}, okL ls n k → dL k ≤ n
  | _, [], _ => Nat.zero_le _
  | n, c :: r, h => Nat.max_le.mpr ⟨deepC h.1, deepL h.2⟩
theorem deepF {ls : List Str} : ∀ {n : Nat} {fs : List (Str × List Ch)}, okF ls n fs → dF fs ≤ n
  | _, [], _ => Nat.zero_le _
  | n, (_, k) :: r, h => Nat.max_le.mpr ⟨deepL h.2.2.2.1, deepF h.2.2.2.2⟩
end
end Sc
namespace Sc
open PySem PySem.Spec PyProof.Rows L2
theorem hd_len {n : Nat} {c : Ch} (h : okC [] n c) : (hdC c).length ≤ 300 := by
  cases c with
  | shape fs =>
    have fld : Fld (fs.map (·.1)) := hdOk_of h
    have := join_len " " ("shape" :: fs.map (·.1))
    have s := fld.sum
    have z := fld.2.1
    rw [List.map_cons, List.sum_cons, List.length_cons] at this
    show (Txt.join " " ("shape" :: fs.map (·.1))).length ≤ 300
    have e5 : ("shape" : Str).length = 5 := rfl
    have e1 : (" " : Str).length = 1 := rfl
    rw [e5, e1] at this
    omega
  | num => decide
  | txt => decide
  | row k => exact (by decide : ("row" : Str).length ≤ 300)
  | book k => exact (by decide : ("book" : Str).length ≤ 300)
  | letter l => exact Nat.zero_le _
  | cut l hs => exact Nat.zero_le _
  | any l => exact Nat.zero_le _
  | wth l => exact Nat.zero_le _
theorem cut_len {bs : List (Str × List Ch)} (ok : okB bs) {c : Ch} (h : okCut bs c) : (cC c).length ≤ 2000 ∧ dC c = 0 := by
  obtain ⟨l, k, hm, hc⟩ := h
  obtain ⟨lt, k0, k3, okk⟩ := ok _ hm
  have l8 : (TL.tl l).length ≤ 8 := lt.2.1
  rcases hc with rfl | ⟨ys, a, m, rfl, hs, m0, am, my⟩
  · exact ⟨Nat.le_trans l8 (by decide), rfl⟩
  · refine ⟨?_, rfl⟩
    have g : ∀ p ∈ ((ys.drop a).take m).map TL.tl, p.length ≤ 300 := fun p hp => by
      obtain ⟨y, hy, rfl⟩ := List.mem_map.mp hp
      have hy2 := (hs.2.2.2 y).mp (List.mem_of_mem_drop (List.mem_of_mem_take hy))
      obtain ⟨c, hc, rfl⟩ := List.mem_map.mp hy2
      have := hd_len (okL_mem okk hc)
      rw [len_list] at this
      exact this
    have j := joinL_max (S := com) g
    rw [List.length_map] at j
    have few := hs.2.2.1
    have k3' : k.length ≤ 3 := k3
    have tk : ((ys.drop a).take m).length ≤ 3 := by
      have := List.length_take_le' m (ys.drop a)
      rw [List.length_drop] at this
      omega
    have j2 : ((ys.drop a).take m).length * (300 + com.length) ≤ 3 * (300 + 2) := Nat.mul_le_mul_right _ tk
    show (TL.tl l ++ 40 :: (TL.joinL com (((ys.drop a).take m).map TL.tl) ++ [41])).length ≤ 2000
    rw [List.length_append, List.length_cons, List.length_append]
    show _ + (_ + 1 + 1) ≤ _
    omega
theorem names_len {bs : List (Str × List Ch)} (ok : okB bs) : ∀ l ∈ bs.map (·.1), l.length ≤ 8 := fun l hl => by
  obtain ⟨q, hq, rfl⟩ := List.mem_map.mp hl
  have := (ok q hq).1.2.1
  rw [len_list]
  exact this
theorem cL_app (a b : List Ch) : cL (a ++ b) = cL a ++ cL b := by rw [cL_map, cL_map, cL_map, List.map_append]
theorem dL_app : ∀ a b : List Ch, dL (a ++ b) = max (dL a) (dL b)
  | [], b => by show dL b = max 0 _; omega
  | c :: r, b => by
    have := dL_app r b
    show max (dC c) (dL (r ++ b)) = max (max (dC c) (dL r)) (dL b)
    omega
/-- such a kind's text, with something small behind -/
theorem any_len {bs : List (Str × List Ch)} (ok : okB bs) {d : Nat} {k : List Ch} (h : okA bs d k) : (∀ p ∈ cL k, p.length ≤ wid d + 2000) ∧ k.length ≤ 4 ∧ dL k ≤ d ∧ k ≠ [] := by
  obtain ⟨k0, cs, rfl, okk, n0, n3, hc⟩ := h
  have g := lenL (names_len ok) okk
  rcases hc with rfl | ⟨c, rfl, hc⟩
  · rw [List.append_nil]
    exact ⟨fun p hp => Nat.le_trans (g p hp) (Nat.le_add_right _ _), by omega, deepL okk, n0⟩
  · obtain ⟨h1, h2⟩ := cut_len ok hc
    refine ⟨fun p hp => ?_, by rw [List.length_append]; show _ + 1 ≤ _; omega, ?_, by simp⟩
    · rw [cL_app] at hp
      rcases List.mem_append.mp hp with e | e
      · exact Nat.le_trans (g p e) (Nat.le_add_right _ _)
      · rw [List.mem_singleton.mp e]
        exact Nat.le_trans h1 (Nat.le_add_left _ _)
    · rw [dL_app]
      have := deepL okk
      show max _ (max (dC c) 0) ≤ _
      omega
def spDue (K : PySem.W.Frag) : Sp := fun vs H Q _ => ∃ (s : Addr) (i : Inf), vs = [.ref s] ∧ IsS K H s i ∧
  ∀ (v : V) (H' : Hp) (c : Ch), Ext s H H' → IsS K H' s i → IsC K H' v c → (c = .any "row" ∨ c = .any "book" ∨ ∃ z, c = .wth z ∧ Word z) → Q v H'
end Sc
namespace Sc
open PySem PyProof.Rows L2
def top (i : Nat) : Stmt := PySem.Challenge.pw_soothcheck_k04_texts_of_kinds.main.body.getD i (.Pass ⟨0, 0, 0, 0⟩)
abbrev sShownKind : Stmt := top 1
abbrev sShownChoice : Stmt := top 2
abbrev sBegun : Stmt := top 4
abbrev sTaken : Stmt := top 5
abbrev sWord : Stmt := top 6
abbrev sKind : Stmt := top 7
abbrev sChoice : Stmt := top 8
abbrev sFields : Stmt := top 9
abbrev sBounds : Stmt := top 10
abbrev sLHeadOf : Stmt := top 11
abbrev sHeadsOf : Stmt := top 12
abbrev sTold : Stmt := top 13
abbrev sToldChoice : Stmt := top 14
abbrev sCut : Stmt := top 15
abbrev sAnyKind : Stmt := top 16
abbrev sLDue : Stmt := top 17
abbrev sLaw : Stmt := top 18
structure Tx (K : PySem.W.Frag) (mg : Str → Option Value) : Prop where
  shown_kind : Def K mg "shown_kind" sShownKind ["kind"]
  shown_choice : Def K mg "shown_choice" sShownChoice ["choice"]
  begun : Def K mg "_law_begun" sBegun ["_law_script"]
  taken : Def K mg "_law_taken" sTaken ["_law_s", "_law_most"]
  word : Def K mg "_law_word" sWord ["_law_s", "_law_k"]
  kind : Def K mg "_law_kind" sKind ["_law_s", "_law_deep", "_law_letters"]
  choice : Def K mg "_law_choice" sChoice ["_law_s", "_law_deep", "_law_letters"]
  fields : Def K mg "_law_fields" sFields ["_law_s", "_law_deep", "_law_letters"]
  bounds : Def K mg "_law_bounds" sBounds ["_law_s", "_law_most"]
  l_head_of : Def K mg "_law_head_of" sLHeadOf ["_law_choice_here"]
  heads_of : Def K mg "_law_heads_of" sHeadsOf ["_law_choice_here", "_law_bounds_here"]
  told : Def K mg "_law_told" sTold ["_law_kind_here"]
  told_choice : Def K mg "_law_told_choice" sToldChoice ["_law_choice_here"]
  cut : Def K mg "_law_cut" sCut ["_law_s", "_law_bounds_here"]
  any_kind : Def K mg "_law_any_kind" sAnyKind ["_law_s", "_law_deep", "_law_bounds_here"]
  l_due : Def K mg "_law_due" sLDue ["_law_s"]
  m_abs : mg "abs" = none
  m_int : mg "int" = none
  m_isinstance : mg "isinstance" = none
  m_len : mg "len" = none
  m_list : mg "list" = none
  m_range : mg "range" = none
  m_set : mg "set" = none
  m_sorted : mg "sorted" = none
  m_str : mg "str" = none
  m_sum : mg "sum" = none
  m_tuple : mg "tuple" = none
end Sc
namespace Sc
open PySem PyProof.Rows L2
section
variable {P : Program} {w : World} {K : PySem.W.Frag} {mg : Str → Option Value} {base : Heap}
theorem scTaken : FnScope ["_law_s", "_law_most", "_law_found"] ["_law_s", "_law_most"] (defScope sTaken) := ⟨rfl, rfl, rfl, by decide +kernel, rfl, by decide +kernel, by decide +kernel⟩
theorem c_taken (T : Tx K mg) : Cal P w K mg base 1 "_law_taken" ["_law_s", "_law_most"] (spTaken K) := by
  refine T.taken.ok scTaken (fun vs H Q E h => ?_) (fun f cdv A outer s H vs Q E hr h => ?_)
  · obtain ⟨s, i, m, rfl, _⟩ := h
    rfl
  obtain ⟨s, i, m, rfl, ⟨ns, g, hs, hc, hl, iok, ok⟩, m0, mb, q⟩ := h
  have hu := hu_of hr
  have ml := T.m_len
  refine ⟨_, pss_cons (ps_if (pt_cmpR op_eq (pe_dget hu (pv 0) pe_str (fun _ _ => rfl)) pe_int (nomark _))
      (pss_cons (ps_dput hu (pv 0) pe_str (pe_op op_add (pe_dget hu (pv 0) pe_str (fun _ _ => rfl)) pe_int) rfl)
      (pss_cons (ps_if (pt_cmpR op_gt (pe_dget hu (pv 0) pe_str (fun _ _ => rfl)) (pe_callB call_len_seq (by rfl) ml PySem.boot_len (pa_cons (pe_dget hu (pv 0) pe_str (fun _ _ => rfl)) pa_nil)) (nomark _))
        (pss_cons (ps_dput hu (pv 0) pe_str (pe_op op_mod (pe_op op_add (pe_op op_mul (pe_dget hu (pv 0) pe_str (fun _ _ => rfl)) pe_int) pe_int) pe_int) rfl)
        (pss_cons (ps_set (i := 2) scTaken.nd rfl (Or.inl rfl) (pe_op op_fdiv (pe_dget hu (pv 0) pe_str (fun _ _ => rfl)) pe_int))
        (pss_one (ps_ret (pe_ifExp (pt_cmpR op_gt (pv 1) (pe_op op_pow pe_int pe_int) (nomark _)) (pe_op op_modN (pe_op op_pow (pv 2) pe_int) (pv 1)) (pe_op op_modN (pv 2) (pv 1)))))))
        pss_nil)
      (pss_cons (ps_if (pt_cmpR op_lt (pe_ix ix_list (pe_dget hu (pv 0) pe_str (fun _ _ => rfl)) (pe_op op_sub (pe_dget hu (pv 0) pe_str (fun _ _ => rfl)) pe_int) (fun _ _ => rfl)) (pe_op op_pow pe_int pe_int) (nomark _))
        (pss_one (ps_ret (pe_op op_modN (pe_ix ix_list (pe_dget hu (pv 0) pe_str (fun _ _ => rfl)) (pe_op op_sub (pe_dget hu (pv 0) pe_str (fun _ _ => rfl)) pe_int) (fun _ _ => rfl)) (pv 1))))
        pss_nil)
      (pss_one (ps_dput hu (pv 0) pe_str (pe_ix ix_list (pe_dget hu (pv 0) pe_str (fun _ _ => rfl)) (pe_op op_sub (pe_dget hu (pv 0) pe_str (fun _ _ => rfl)) pe_int) (fun _ _ => rfl)) rfl)))))
      pss_nil)
    (pss_cons (ps_set (i := 2) scTaken.nd rfl (Or.inl rfl) (pe_op op_modN (pe_dget hu (pv 0) pe_str (fun _ _ => rfl)) (pv 1)))
    (pss_cons (ps_dput hu (pv 0) pe_str (pe_op op_fdivW (pe_dget hu (pv 0) pe_str (fun _ _ => rfl)) (pv 1)) rfl)
    (pss_one (ps_ret (pv 2))))), ?_⟩
  -- the rows behind the if, from any state
  have last : ∀ (H1 : Hp) (g1 : Mv) (v2 : Option V), H1 s = some (.dK (stD i g1)) → SqL K H1 i.c (ns.map V.int) → g1.Ok → Ext s H H1 →
      tSeq (tAsg (tOp (rI (fun _ j => j ≠ 0) fun i j => V.int (i.fmod j)) (tDGet (tVar 0) (tC (.str "rest"))) (tVar 1)) (gName 2))
        (tSeq (sDPut (tVar 0) (tC (.str "rest")) (tOp (rI CDivW fun i j => V.int (i / j)) (tDGet (tVar 0) (tC (.str "rest"))) (tVar 1))) (tRet (tVar 2)))
        { nx := fun _ H' => Q .non H', rt := Q } [some (.ref s), some (.int m), v2] H1 := fun H1 g1 v2 hs1 hc1 ok1 e1 => by
    refine ⟨_, rfl, s, _, rfl, gS hs1 rfl, _, rfl, _, _, rfl, rfl, by omega, ?_⟩
    refine ⟨_, rfl, s, _, rfl, gS hs1 rfl, _, rfl, _, _, rfl, rfl, ⟨m0, ?_⟩, _, rfl, s, _, rfl, pS hs1 (p_rest i g1 _), _, rfl, ?_⟩
    · exact Nat.lt_trans (PySem.Flt.log2_lt_of (by decide) mb) (by decide)
    have em : g1.rest.fmod m = g1.rest % m := Int.fmod_eq_emod_of_nonneg _ (by omega)
    refine q _ _ (by rw [em]; exact Int.emod_nonneg _ (by omega)) (by rw [em]; exact Int.emod_lt_of_pos _ m0) (e1.trans (Ext.upd _ _ _)) ⟨ns, _, upd_same, (Ext.upd s H1 _).seq hs1 hc1, hl, iok, ?_⟩
    exact { ok1 with r0 := Int.ediv_nonneg ok1.r0 (by omega) }
  refine ⟨_, rfl, s, _, rfl, gS hs rfl, rfl, _, rfl, ite2 (fun c1 => ?_) (fun c1 => last H g none hs hc ok (Ext.refl s H))⟩
  refine ⟨_, rfl, s, _, rfl, gS hs rfl, _, _, rfl, rfl, _, rfl, s, _, rfl, pS hs (p_at i g _), ?_⟩
  have hs1 : (upd H s (.dK (stD i { g with att := g.att + 1 }))) s = _ := upd_same
  have e1 := Ext.upd s H (.dK (stD i { g with att := g.att + 1 }))
  have hc1 := e1.seq hs hc
  have ok1 : ({ g with att := g.att + 1 } : Mv).Ok := { ok with a0 := by have := ok.a0; show 0 ≤ g.att + 1; omega }
  generalize upd H s (.dK (stD i { g with att := g.att + 1 })) = H1 at hs1 e1 hc1 ⊢
  have a1 : 1 ≤ ({ g with att := g.att + 1 } : Mv).att := by have := ok.a0; show 1 ≤ g.att + 1; omega
  generalize ({ g with att := g.att + 1 } : Mv) = g1 at hs1 ok1 a1 ⊢
  refine ⟨_, rfl, s, _, rfl, gS hs1 rfl, _, rfl, s, _, rfl, gS hs1 rfl, i.c, _, rfl, .inl hc1, _, _, rfl, rfl, _, rfl, ite2 (fun c2 => ?_) (fun c2 => ?_)⟩
  · refine ⟨_, rfl, s, _, rfl, gS hs1 rfl, _, _, rfl, rfl, .inr (by decide), _, _, rfl, rfl, _, _, rfl, rfl, (by show (0 : Int) < 2147483647; decide), _, rfl, s, _, rfl, pS hs1 (p_seed i g1 _), ?_⟩
    have s0 : 0 ≤ (g1.seed * 48271 + 11) % 2147483647 := Int.emod_nonneg _ (by decide)
    have s1 : (g1.seed * 48271 + 11) % 2147483647 < 2147483647 := Int.emod_lt_of_pos _ (by decide)
    generalize (g1.seed * 48271 + 11) % 2147483647 = sd at s0 s1 ⊢
    have hs2 : (upd H1 s (.dK (stD i { g1 with seed := sd }))) s = _ := upd_same
    have e2 := Ext.upd s H1 (.dK (stD i { g1 with seed := sd }))
    have hc2 := e2.seq hs1 hc1
    have ok2 : ({ g1 with seed := sd } : Mv).Ok := { ok1 with e0 := s0 }
    generalize upd H1 s (.dK (stD i { g1 with seed := sd })) = H2 at hs2 e2 hc2 ⊢
    refine ⟨_, rfl, s, _, rfl, gS hs2 rfl, _, _, rfl, rfl, ⟨by decide, by decide⟩, _, rfl, _, _, rfl, rfl, ⟨by decide, by decide, by decide⟩, _, _, rfl, rfl, _, rfl, ?_⟩
    have fin : ∀ x : Int, Q (.int (x.fmod m)) H2 := fun x => by
      have em : x.fmod m = x % m := Int.fmod_eq_emod_of_nonneg _ (by omega)
      rw [em]
      exact q _ _ (Int.emod_nonneg _ (by omega)) (Int.emod_lt_of_pos _ m0) (e1.trans e2) ⟨ns, _, hs2, hc2, hl, iok, ok2⟩
    refine ite2 (fun c3 => ?_) (fun c3 => ?_)
    · refine ⟨_, rfl, _, _, rfl, rfl, ⟨by decide, by decide, ?_⟩, _, rfl, _, _, rfl, rfl, by omega, fin _⟩
      show (sd / 64).natAbs < 2 ^ 64
      omega
    · exact ⟨_, rfl, _, rfl, _, _, rfl, rfl, by omega, fin _⟩
  · have hlt : g1.att - 1 < (ns.length : Int) := by
      have c2' : ¬ (((ns.map V.int).length : Nat) : Int) < g1.att := of_decide_eq_false (Bool.eq_false_iff.mpr c2)
      rw [List.length_map] at c2'
      omega
    obtain ⟨j, hj⟩ : ∃ j : Nat, g1.att - 1 = (j : Int) := ⟨(g1.att - 1).toNat, by omega⟩
    have hjl : j < ns.length := by omega
    have hat : atI (ns.map V.int) (g1.att - 1) = some (.int ns[j]) := by
      rw [hj]
      exact atI_nat (by rw [List.getElem?_map, List.getElem?_eq_getElem hjl] <;> rfl)
    refine ⟨_, rfl, s, _, rfl, gS hs1 rfl, _, rfl, s, _, rfl, gS hs1 rfl, _, _, rfl, rfl, i.c, _, _, _, rfl, rfl, hc1, hat, _, _, rfl, rfl, ⟨by decide, by decide, by decide⟩, _, _, rfl, rfl, _, rfl, ite2 (fun c3 => ?_) (fun c3 => ?_)⟩
    · have em : ns[j].fmod m = ns[j] % m := Int.fmod_eq_emod_of_nonneg _ (by omega)
      refine ⟨_, rfl, s, _, rfl, gS hs1 rfl, _, rfl, s, _, rfl, gS hs1 rfl, _, _, rfl, rfl, i.c, _, _, _, rfl, rfl, hc1, hat, _, rfl, _, _, rfl, rfl, by omega, ?_⟩
      exact q _ _ (by rw [em]; exact Int.emod_nonneg _ (by omega)) (by rw [em]; exact Int.emod_lt_of_pos _ m0) e1 ⟨ns, _, hs1, hc1, hl, iok, ok1⟩
    · refine ⟨_, rfl, s, _, rfl, gS hs1 rfl, _, rfl, s, _, rfl, gS hs1 rfl, _, _, rfl, rfl, i.c, _, _, _, rfl, rfl, hc1, hat, _, rfl, s, _, rfl, pS hs1 (p_rest i g1 _), ?_⟩
      have c3' : ¬ ns[j] < 10 ^ 18 := of_decide_eq_false (Bool.eq_false_iff.mpr c3)
      exact last _ _ none upd_same ((Ext.upd s H1 _).seq hs1 hc1) { ok1 with r0 := by show 0 ≤ ns[j]; omega } (e1.trans (Ext.upd _ _ _))
end
end Sc
namespace Sc
open PySem PyProof.Rows L2
section
variable {P : Program} {w : World} {K : PySem.W.Frag} {mg : Str → Option Value} {base : Heap}
def d9 (c fl : Addr) : List (Key × V) := [(.inr "cells", .ref c), (.inr "at", .int 0), (.inr "size", .int 1), (.inr "place", .int 0), (.inr "turn", .int 0), (.inr "rest", .int 0),
  (.inr "functions", .ref fl), (.inr "odd", .int 0), (.inr "talk", .int 0)]
theorem merge9 (c fl : Addr) : mergeK [] (d9 c fl) = d9 c fl := by kernel_rfl
theorem seed9 (c fl : Addr) (n : Int) : putK (d9 c fl) (.inr "seed") (.int n) = stD ⟨c, fl, 1, 0, 0, 0, 0⟩ ⟨0, 0, n⟩ := by rfl
theorem scBegun : FnScope ["_law_script", "_law_s", "_law_cell"] ["_law_script"] (defScope sBegun) := ⟨rfl, rfl, rfl, by decide +kernel, rfl, by decide +kernel, by decide +kernel⟩
theorem c_begun (T : Tx K mg) : Cal P w K mg base 2 "_law_begun" ["_law_script"] (spBegun K) := by
  have CT : Cal P w K mg base 1 "_law_taken" ["_law_s", "_law_most"] (spTaken K) := c_taken T
  refine T.begun.ok scBegun (fun vs H Q E h => ?_) (fun f cdv A outer s H vs Q E hr h => ?_)
  · obtain ⟨c, ns, rfl, _⟩ := h
    rfl
  obtain ⟨c, ns, rfl, hc, hl, q⟩ := h
  have hu := hu_of hr
  refine ⟨_, pss_cons (ps_set (i := 1) scBegun.nd rfl (Or.inl rfl) (pe_disp (pps_cons pe_str (pv 0) (pps_cons pe_str pe_int (pps_cons pe_str pe_int (pps_cons pe_str pe_int (pps_cons pe_str pe_int (pps_cons pe_str pe_int
        (pps_cons pe_str (pe_lst pa_nil) (pps_cons pe_str pe_int (pps_cons pe_str pe_int pps_nil))))))))) (by rfl) (by rfl) (fun z => by cases z) (by decide)))
    (pss_cons (ps_dput hu (pv 1) pe_str (pe_op op_add pe_int (pe_callB (cr_sum rfl) (by rfl) T.m_sum (by decide +kernel) (pa_cons
        (pe_lc (own := [("_law_cell", 2)]) (g := gName 2) (tt := tYes) rfl scBegun.nd (pi_list (pv 0)) (blkOk_by (N := ["_law_script", "_law_s", "_law_cell"]) (sc := defScope sBegun) (by decide +kernel))
          (fun _ _ _ _ _ => pg_name (i := 2) scBegun.nd rfl (Or.inl rfl)) (fun _ _ _ _ _ => pts_nil)
          (fun _ _ _ _ _ => pe_op op_mul pe_int (pe_callB call_abs (by rfl) T.m_abs (by decide +kernel) (pa_cons (pv 2) pa_nil)))) pa_nil))) rfl)
    (pss_cons (ps_dput hu (pv 1) pe_str (pe_op op_add pe_int (pe_cal CT hr (pa_cons (pv 1) (pa_cons pe_int pa_nil)))) rfl)
    (pss_cons (ps_dput hu (pv 1) pe_str (pe_cal CT hr (pa_cons (pv 1) (pa_cons (pe_dget hu (pv 1) pe_str (fun _ _ => rfl)) pa_nil))) rfl)
    (pss_cons (ps_dput hu (pv 1) pe_str (pe_cal CT hr (pa_cons (pv 1) (pa_cons pe_int pa_nil))) rfl)
    (pss_cons (ps_dput hu (pv 1) pe_str (pe_callTy call_int1 (by rfl) T.m_int (by decide +kernel) (pa_cons (pe_cmpR op_eq (pe_cal CT hr (pa_cons (pv 1) (pa_cons pe_int pa_nil))) pe_int (nomark _)) pa_nil)) rfl)
    (pss_one (ps_ret (pv 1)))))))), ?_⟩
  refine fun s hs0 => ⟨_, rfl, Nat.zero_le _, fun fl hfl => ⟨?_, d9 c fl, rfl, by show 9 ≤ 15; decide, ?_⟩⟩
  · rw [upd_ne (ne_of_none upd_same hfl)]
    exact upd_same
  have hfl0 : H fl = none := (same_new hs0 (.dK [])).free hfl
  have nsf : s ≠ fl := ne_of_none upd_same hfl
  have e0 : Same H (upd (upd (upd H s (.dK [])) fl (.lst [])) s (.dK (mergeK [] (d9 c fl)))) := fun b o h => by
    rw [upd_ne (ne_of_none h hs0), upd_ne (ne_of_none h hfl0), upd_ne (ne_of_none h hs0)]
    exact h
  have f0 : (upd (upd (upd H s (.dK [])) fl (.lst [])) s (.dK (mergeK [] (d9 c fl)))) fl = some (.lst []) := by rw [upd_ne nsf.symm, upd_same]
  have d0 : (upd (upd (upd H s (.dK [])) fl (.lst [])) s (.dK (mergeK [] (d9 c fl)))) s = some (.dK (d9 c fl)) := by rw [upd_same, merge9]
  generalize (upd (upd (upd H s (.dK [])) fl (.lst [])) s (.dK (mergeK [] (d9 c fl)))) = H1 at e0 f0 d0 ⊢
  refine ⟨_, rfl, c, rfl, ⟨_, Same.seq e0 hc⟩, fun D hD => lc_list (K := K) (a := c) (xs := ns.map V.int) (fun j H2 => Same H1 H2 ∧ H2 D = some (.lst ((ns.take j).map fun z => V.int (31 * (if z < 0 then -z else z))))) ⟨same_new hD _, upd_same⟩
    (fun j H2 _ h => Same.seq (e0.trans h.1) hc) ?_ ?_⟩
  · rintro j x H2 hx ⟨e2, h2⟩
    rw [List.getElem?_map] at hx
    obtain ⟨z, hz, rfl⟩ := Option.map_eq_some_iff.mp hx
    refine ⟨rfl, _, rfl, z, rfl, _, _, rfl, rfl, .inl ⟨by decide, by decide⟩, _, h2, ?_, fun b o hb => ?_, ?_⟩
    · rw [List.length_map]
      exact small1000 (Nat.le_trans (List.length_take_le' _ _) (by omega))
    · rw [upd_ne (ne_of_none hb hD)]
      exact e2 b o hb
    · rw [upd_same, List.take_add_one, hz, List.map_append]
      rfl
  rintro H2 ⟨e2, h2⟩
  refine ⟨D, ns.map fun z => 31 * (if z < 0 then -z else z), rfl, ?_, _, _, rfl, rfl, _, rfl, s, _, rfl, DPut.k (k := Sum.inr "seed") (e2 _ _ d0) (by show 9 < sizeLine; decide), ?_⟩
  · rw [List.length_map, List.take_length] at h2
    rw [List.map_map]
    exact SqL.of h2
  rw [seed9]
  have hc2 : SqL K H2 c (ns.map V.int) := Same.seq (e0.trans e2) hc
  have x3 := Ext.upd s H2 (.dK (stD ⟨c, fl, 1, 0, 0, 0, 0⟩ ⟨0, 0, 7 + (ns.map fun z => 31 * (if z < 0 then -z else z)).sum⟩))
  have hs2 : (upd H2 s (.dK (stD ⟨c, fl, 1, 0, 0, 0, 0⟩ ⟨0, 0, 7 + (ns.map fun z => 31 * (if z < 0 then -z else z)).sum⟩))) s = _ := upd_same
  have hf2 : (upd H2 s (.dK (stD ⟨c, fl, 1, 0, 0, 0, 0⟩ ⟨0, 0, 7 + (ns.map fun z => 31 * (if z < 0 then -z else z)).sum⟩))) fl = some (.lst []) := by rw [upd_ne nsf.symm]; exact e2 _ _ f0
  have x03 : Ext s H (upd H2 s (.dK (stD ⟨c, fl, 1, 0, 0, 0, 0⟩ ⟨0, 0, 7 + (ns.map fun z => 31 * (if z < 0 then -z else z)).sum⟩))) := (Ext.same (e0.trans e2)).trans x3
  have hc3 := x3.seq (e2 _ _ d0) hc2
  generalize (upd H2 s (.dK (stD ⟨c, fl, 1, 0, 0, 0, 0⟩ ⟨0, 0, 7 + (ns.map fun z => 31 * (if z < 0 then -z else z)).sum⟩))) = H3 at hs2 hf2 x03 hc3 ⊢
  have sum0 : ∀ l : List Int, 0 ≤ (l.map fun z => 31 * (if z < 0 then -z else z)).sum := fun l => by
    induction l with
    | nil => exact Int.le_refl 0
    | cons z l ih =>
      rw [List.map_cons, List.sum_cons]
      split <;> omega
  have S3 : IsS K H3 s ⟨c, fl, 1, 0, 0, 0, 0⟩ := ⟨ns, _, hs2, hc3, hl, ⟨by show (1 : Int) ≤ 1; decide, by show (1 : Int) ≤ 8; decide, by show (0 : Int) ≤ 0; decide, by show (0 : Int) < 1; decide, by show (0 : Int) ≤ 0; decide, by show (0 : Int) < 26; decide, by show (0 : Int) ≤ 0; decide, by show (0 : Int) ≤ 1; decide⟩,
    ⟨by show (0 : Int) ≤ 0; decide, by show (0 : Int) ≤ 0; decide, by have := sum0 ns; show 0 ≤ 7 + _; omega⟩⟩
  -- the four draws
  have put : ∀ {H4 : Hp} {i i' : Inf} {k : Str} {v : V}, IsS K H4 s i → (∀ m, putK (stD i m) (.inr k) v = stD i' m) → i'.c = i.c → i'.Ok → ∃ H5, DPut H4 s (.str k) v H5 ∧ IsS K H5 s i' ∧ Ext s H4 H5 := fun {H4 i i' k v} h hp hi ho => by
    obtain ⟨ns, m, a1, a2, a3, a4, a5⟩ := h
    exact ⟨_, pS a1 (hp m), ⟨ns, m, upd_same, by rw [hi]; exact (Ext.upd s H4 _).seq a1 a2, a3, ho, a5⟩, Ext.upd s H4 _⟩
  refine ⟨_, rfl, s, _, 8, rfl, S3, by decide, by decide, fun r1 H4 a1 b1 x4 S4 => ?_⟩
  obtain ⟨H5, p5, S5, x5⟩ := put (k := "size") (v := .int (1 + r1)) S4 (fun m => p_size _ m _) rfl { s1 := by show 1 ≤ 1 + r1; omega, s8 := by show 1 + r1 ≤ 8; omega, p0 := by show (0 : Int) ≤ 0; decide, p1 := by show 0 < 1 + r1; omega, t0 := by show (0 : Int) ≤ 0; decide, t1 := by show (0 : Int) < 26; decide, k0 := by show (0 : Int) ≤ 0; decide, k1 := by show (0 : Int) ≤ 1; decide }
  refine ⟨_, _, rfl, rfl, _, rfl, s, _, rfl, p5, ?_⟩
  obtain ⟨ns5, m5, h5, _⟩ := id S5
  refine ⟨_, rfl, _, rfl, s, _, rfl, gS h5 rfl, s, _, _, rfl, S5, by show 0 < 1 + r1; omega, ?_, fun r2 H6 a2 b2 x6 S6 => ?_⟩
  · show (1 + r1).natAbs < 2 ^ 200
    exact Nat.lt_trans (show (1 + r1).natAbs < 100 by omega) (by decide)
  have b2' : r2 < 1 + r1 := b2
  obtain ⟨H7, p7, S7, x7⟩ := put (k := "place") (v := .int r2) S6 (fun m => p_place _ m _) rfl { s1 := by show 1 ≤ 1 + r1; omega, s8 := by show 1 + r1 ≤ 8; omega, p0 := a2, p1 := b2, t0 := by show (0 : Int) ≤ 0; decide, t1 := by show (0 : Int) < 26; decide, k0 := by show (0 : Int) ≤ 0; decide, k1 := by show (0 : Int) ≤ 1; decide }
  refine ⟨_, rfl, s, _, rfl, p7, ?_⟩
  refine ⟨_, rfl, s, _, 26, rfl, S7, by decide, by decide, fun r3 H8 a3 b3 x8 S8 => ?_⟩
  obtain ⟨H9, p9, S9, x9⟩ := put (k := "turn") (v := .int r3) S8 (fun m => p_turn _ m _) rfl { s1 := by show 1 ≤ 1 + r1; omega, s8 := by show 1 + r1 ≤ 8; omega, p0 := a2, p1 := b2, t0 := a3, t1 := b3, k0 := by show (0 : Int) ≤ 0; decide, k1 := by show (0 : Int) ≤ 1; decide }
  refine ⟨_, rfl, s, _, rfl, p9, ?_⟩
  refine ⟨_, rfl, s, _, 9, rfl, S9, by decide, by decide, fun r4 Ha a4 b4 xa Sa => ⟨rfl, .inr ⟨_, rfl, ?_⟩⟩⟩
  obtain ⟨Hb, pb, Sb, xb⟩ := put (k := "talk") (v := .int (if decide (V.int r4 = V.int 8) = true then 1 else 0)) Sa (fun m => p_talk _ m _) rfl { s1 := by show 1 ≤ 1 + r1; omega, s8 := by show 1 + r1 ≤ 8; omega, p0 := a2, p1 := b2, t0 := a3, t1 := b3, k0 := by show (0 : Int) ≤ ite _ _ _; split <;> decide, k1 := by show ite _ _ _ ≤ (1 : Int); split <;> decide }
  refine ⟨_, rfl, s, _, rfl, pb, _, rfl, ?_⟩
  have xx := x4.trans (x5.trans (x6.trans (x7.trans (x8.trans (x9.trans (xa.trans xb))))))
  refine q s _ Hb (fun b o h => ?_) hs0 rfl rfl (xx _ _ nsf.symm hf2) hfl0 Sb
  exact (x03.trans xx) b o (ne_of_none h hs0) h
end
end Sc
namespace Sc
open PySem PyProof.Rows L2
section
variable {P : Program} {w : World} {K : PySem.W.Frag} {mg : Str → Option Value} {base : Heap}
theorem scWord : FnScope ["_law_s", "_law_k", "_law_words", "_law_sign"] ["_law_s", "_law_k"] (defScope sWord) := ⟨rfl, rfl, rfl, by decide +kernel, rfl, by decide +kernel, by decide +kernel⟩
theorem abc_at : ∀ n : Nat, n < 26 → ("abcdefghijklmnopqrstuvwxyz" : Str).cps[n]? = some (97 + n) := by decide +kernel
theorem abc_len : ("abcdefghijklmnopqrstuvwxyz" : Str).length = 26 := by decide +kernel
theorem c_word (T : Tx K mg) : Cal P w K mg base 1 "_law_word" ["_law_s", "_law_k"] (spWord K) := by
  refine T.word.ok scWord (fun vs H Q E h => ?_) (fun f cdv A outer s H vs Q E hr h => ?_)
  · obtain ⟨s, i, k, rfl, _⟩ := h
    rfl
  obtain ⟨s, i, k, rfl, ⟨ns, m, hs, hc, hl, iok, ok⟩, k0, q⟩ := h
  have hu := hu_of hr
  refine ⟨_, pss_cons (ps_if (PW.pt (pw_and (pt_cmpR op_eq (pe_dget hu (pv 0) pe_str (fun _ _ => rfl)) pe_int (nomark _)) (pw_and1 (pt_cmpR op_lt (pv 1) pe_int (nomark _)))))
      (pss_cons (ps_set (i := 2) scWord.nd rfl (Or.inl rfl) (pe_lst (pa_cons pe_str (pa_cons pe_str (pa_cons pe_str (pa_cons pe_str (pa_cons pe_str (pa_cons pe_str (pa_cons pe_str (pa_cons pe_str
          (pa_cons pe_str (pa_cons pe_str (pa_cons pe_str (pa_cons pe_str (pa_cons pe_str (pa_cons pe_str pa_nil))))))))))))))))
      (pss_one (ps_ret (pe_ix ix_list (pe_op op_cat (pv 2) (pe_lst (pa_cons pe_str (pa_cons pe_str (pa_cons pe_str (pa_cons pe_str (pa_cons pe_str pa_nil))))))) (pv 1) (fun _ _ => rfl)))))
      pss_nil)
    (pss_cons (ps_set (i := 3) scWord.nd rfl (Or.inl rfl) (pe_item_str pe_str (pe_op op_mod (pe_op op_add (pv 1) (pe_dget hu (pv 0) pe_str (fun _ _ => rfl))) pe_int) (fun _ _ => rfl)))
    (pss_one (ps_ret (pe_op op_add_str (pe_op op_add_str (pe_op op_reps pe_str (pe_dget hu (pv 0) pe_str (fun _ _ => rfl))) (pv 3))
      (pe_op op_reps pe_str (pe_op op_sub (pe_op op_sub (pe_dget hu (pv 0) pe_str (fun _ _ => rfl)) (pe_dget hu (pv 0) pe_str (fun _ _ => rfl))) pe_int)))))), ?_⟩
  have plain : ¬ (i.talk = 1 ∧ k < 19) → ∀ v2, tSeq (tAsg (tOp (fun x y H Q => ∃ z i c, x = .str z ∧ y = .int i ∧ 0 ≤ i ∧ i < 2 ^ 63 ∧ i < z.length ∧ z.cps[i.toNat]? = some c ∧ Q (.str ⟨#[c]⟩) H) (tC (.str "abcdefghijklmnopqrstuvwxyz"))
      (tOp (rI (fun _ j => 0 < j) fun i j => V.int (i % j)) (tOp (rI0 fun i j => V.int (i + j)) (tVar 1) (tDGet (tVar 0) (tC (.str "turn")))) (tC (.int 26)))) (gName 3))
      (tRet (tOp (fun x y H Q => ∃ i j, x = .str i ∧ y = .str j ∧ i.length + j.length ≤ sizeLine ∧ Q (.str (i ++ j)) H) (tOp (fun x y H Q => ∃ i j, x = .str i ∧ y = .str j ∧ i.length + j.length ≤ sizeLine ∧ Q (.str (i ++ j)) H)
        (tOp rReps (tC (.str "q")) (tDGet (tVar 0) (tC (.str "place")))) (tVar 3)) (tOp rReps (tC (.str "q")) (tOp (rI0 fun i j => V.int (i - j)) (tOp (rI0 fun i j => V.int (i - j)) (tDGet (tVar 0) (tC (.str "size"))) (tDGet (tVar 0) (tC (.str "place")))) (tC (.int 1))))))
      { nx := fun _ H' => Q .non H', rt := Q } [some (.ref s), some (.int k), v2, none] H := fun no v2 => by
    have j0 : 0 ≤ (k + i.turn) % 26 := Int.emod_nonneg _ (by decide)
    have j1 : (k + i.turn) % 26 < 26 := Int.emod_lt_of_pos _ (by decide)
    have ew : wordOf i k = reps 113 i.place.toNat ++ signAt (97 + ((k + i.turn) % 26).toNat) ++ reps 113 (i.size - i.place - 1).toNat := if_neg no
    obtain ⟨s1, s8, p0, p1, t0, t1, _, _⟩ := iok
    refine ⟨_, rfl, _, rfl, s, _, rfl, gS hs rfl, _, _, rfl, rfl, _, _, rfl, rfl, (by show (0 : Int) < 26; decide), _, _, _, rfl, rfl, j0, by omega, by rw [abc_len]; exact j1, abc_at _ (by omega), ?_⟩
    refine ⟨_, rfl, s, _, rfl, gS hs rfl, 113, _, rfl, rfl, p0, by omega, _, rfl, _, _, rfl, rfl, ?_, _, rfl, s, _, rfl, gS hs rfl, _, rfl, s, _, rfl, gS hs rfl, _, _, rfl, rfl, _, _, rfl, rfl, 113, _, rfl, rfl, by omega, by omega, _, _, rfl, rfl, ?_, ?_⟩
    · rw [len_list, len_list, reps_list, List.length_replicate]
      show _ + 1 ≤ sizeLine
      rw [sizeLine_eq]; omega
    · rw [len_list, len_list, app_list, reps_list, reps_list, List.length_append, List.length_replicate, List.length_replicate]
      show _ + 1 + _ ≤ sizeLine
      rw [sizeLine_eq]; omega
    · have z := q H (Same.refl H)
      rw [ew] at z
      exact z
  refine ⟨_, rfl, s, _, rfl, gS hs rfl, rfl, _, rfl, ite2 (fun c1 => ?_) (fun c1 => ?_)⟩
  · refine ⟨_, rfl, _, _, rfl, rfl, _, rfl, ite2 (fun c2 => ?_) (fun c2 => plain (fun z => c2 (decide_eq_true z.2)) none)⟩
    have c1' : i.talk = 1 := by
      have z := of_decide_eq_true c1
      injection z
    have c2' : k < 19 := of_decide_eq_true c2
    refine ⟨(by show 14 ≤ sizeLine; decide), fun p hp => ⟨_, rfl, (by show 5 ≤ sizeLine; decide), fun p2 hp2 => ?_⟩⟩
    refine ⟨p, p2, _, _, rfl, rfl, by rw [upd_ne (ne_of_none upd_same hp2)]; exact upd_same, upd_same, (by show 14 + 5 ≤ sizeLine; decide), fun p3 hp3 => ⟨_, rfl, p3, talks.map V.str, k, .str (wordOf i k), rfl, rfl, SqL.of upd_same, ?_, ?_⟩⟩
    · have lt : k.toNat < talks.length := by show k.toNat < 19; omega
      have e : wordOf i k = talks[k.toNat] := by
        unfold wordOf
        rw [if_pos ⟨c1', c2'⟩, List.getD_eq_getElem?_getD, List.getElem?_eq_getElem lt]
        rfl
      rw [e]
      exact at_of (j := k.toNat) (by omega) (by rw [List.getElem?_map, List.getElem?_eq_getElem lt]; rfl)
    · exact q _ (((same_new hp _).trans (same_new hp2 _)).trans (same_new hp3 _))
  · refine plain (fun z => c1 (decide_eq_true ?_)) none
    show V.int i.talk = V.int 1
    rw [z.1]
end
end Sc
namespace Sc
open PySem PyProof.Rows L2
section
variable {P : Program} {w : World} {K : PySem.W.Frag} {mg : Str → Option Value} {base : Heap}
theorem scKind : FnScope ["_law_s", "_law_deep", "_law_letters", "_law_k"] ["_law_s", "_law_deep", "_law_letters"] (defScope sKind) := ⟨rfl, rfl, rfl, by decide +kernel, rfl, by decide +kernel, by decide +kernel⟩
theorem c_kind {n lv : Nat} (T : Tx K mg) (lv1 : 1 ≤ lv) (CC : Cal P w K mg base lv "_law_choice" ["_law_s", "_law_deep", "_law_letters"] (spChoice K n)) : Cal P w K mg base (lv + 1) "_law_kind" ["_law_s", "_law_deep", "_law_letters"] (spKind K n) := by
  have CT : Cal P w K mg base 1 "_law_taken" ["_law_s", "_law_most"] (spTaken K) := c_taken T
  refine T.kind.ok scKind (fun vs H Q E h => ?_) (fun f cdv A outer s H vs Q E hr h => ?_)
  · obtain ⟨s, l, i, d, ls, rfl, _⟩ := h
    rfl
  obtain ⟨s, l, i, d, ls, rfl, S, dn, hl, hls, q⟩ := h
  have hr1 : Room 1 _ := hr.mono lv1
  refine ⟨_, pss_one (ps_ret (pe_callTy call_tuple_of (by rfl) T.m_tuple (by decide +kernel) (pa_cons
      (pe_lc (own := [("_law_k", 3)]) (g := gName 3) (tt := tYes) rfl scKind.nd (pi_range1 rfl T.m_range (pa_cons (pe_op op_add pe_int (pe_cal CT hr1 (pa_cons (pv 0) (pa_cons pe_int pa_nil)))) pa_nil))
        (blkOk_by (N := ["_law_s", "_law_deep", "_law_letters", "_law_k"]) (sc := defScope sKind) (by decide +kernel))
        (fun _ _ _ _ _ => pg_name (i := 3) scKind.nd rfl (Or.inl rfl)) (fun _ _ _ _ _ => pts_nil)
        (fun _ _ _ _ _ => pe_cal CC hr (pa_cons (pv 0) (pa_cons (pv 1) (pa_cons (pv 2) pa_nil))))) pa_nil))), ?_⟩
  refine ⟨_, rfl, s, i, 3, rfl, S, by decide, by decide, fun r H1 r0 r3 x1 S1 => ⟨_, _, rfl, rfl, _, rfl, by omega, by omega, fun D hD => ?_⟩⟩
  have nds : D ≠ s := S1.ne hD
  have hl1 : SqL K H1 l (ls.map V.str) := S.seq x1 hl
  refine lc_range (lo := 0) (n := (1 + r).toNat) (fun j H2 => Ext s H1 H2 ∧ IsS K H2 s i ∧ ∃ vs k, H2 D = some (.lst vs) ∧ Dts K H2 vs (pyL k) ∧ okL ls d k ∧ k.length = j)
    ⟨Ext.new _ hD, S1.same (same_new hD _), [], [], upd_same, .nil, trivial, rfl⟩ ?_ ?_
  · rintro j H2 hj ⟨x2, S2, us, k, hd, dp, okk, lk⟩
    refine ⟨rfl, _, rfl, _, rfl, _, rfl, s, l, i, d, ls, rfl, S2, dn, S1.seq x2 hl1, hls, fun v H3 c x3 S3 dv oc => ⟨us, x3 _ _ nds hd, ?_, ?_⟩⟩
    · rw [dp.1, pyL_map, List.length_map]
      exact small1000 (by omega)
    · have x4 : Ext s H1 (upd H3 D (.lst (us ++ [v]))) := (x2.trans x3).over hD _
      have k4 : Keep K H3 (upd H3 D (.lst (us ++ [v]))) := Keep.upd (x3 _ _ nds hd) trivial _
      refine ⟨x4, S1.over S3 x4 nds, us ++ [v], k ++ [c], upd_same, ?_, okL_snoc oc okk, by rw [List.length_append, lk]; rfl⟩
      rw [pyL_map, List.map_append, ← pyL_map]
      exact (k4.dts ((S2.keep x3).dts dp)).snoc (k4.dt dv)
  · rintro H2 ⟨x2, S2, us, k, hd, dp, okk, lk⟩
    refine ⟨D, us, rfl, .inl ⟨SqL.of hd, fun t ht => ?_⟩⟩
    refine q _ _ k (x1.trans (x2.trans (Ext.new _ ht))) (S2.same (same_new ht _)) (((Same.keep (same_new ht _)).dts dp).tup (SqT.of upd_same)) ?_ ?_ okk
    · intro z
      rw [z] at lk
      have : 0 = (1 + r).toNat := lk
      omega
    · omega
end
end Sc
namespace Sc
open PySem PyProof.Rows L2
section
variable {P : Program} {w : World} {K : PySem.W.Frag} {mg : Str → Option Value} {base : Heap}
theorem scChoice : FnScope ["_law_s", "_law_deep", "_law_letters", "_law_way"] ["_law_s", "_law_deep", "_law_letters"] (defScope sChoice) := ⟨rfl, rfl, rfl, by decide +kernel, rfl, by decide +kernel, by decide +kernel⟩
theorem c_choice {n lv : Nat} (T : Tx K mg) (lv1 : 1 ≤ lv) (CK : Cal P w K mg base lv "_law_kind" ["_law_s", "_law_deep", "_law_letters"] (spKind K n)) (CF : Cal P w K mg base lv "_law_fields" ["_law_s", "_law_deep", "_law_letters"] (spFields K n)) :
    Cal P w K mg base (lv + 1) "_law_choice" ["_law_s", "_law_deep", "_law_letters"] (spChoice K (n + 1)) := by
  have CT : Cal P w K mg base 1 "_law_taken" ["_law_s", "_law_most"] (spTaken K) := c_taken T
  refine T.choice.ok scChoice (fun vs H Q E h => ?_) (fun f cdv A outer s H vs Q E hr h => ?_)
  · obtain ⟨s, l, i, d, ls, rfl, _⟩ := h
    rfl
  obtain ⟨s, l, i, d, ls, rfl, S, dn, hl, hls, q⟩ := h
  have hr1 : Room 1 _ := hr.mono lv1
  refine ⟨_, pss_cons (ps_set (i := 3) scChoice.nd rfl (Or.inl rfl) (pe_cal CT hr1 (pa_cons (pv 0) (pa_cons pe_int pa_nil))))
    (pss_cons (ps_if (PW.pt (pw_and (pt_cmpR op_eq (pv 3) pe_int (nomark _)) (pw_and1 (pt_cmpR op_gt (pe_callB call_len_seq (by rfl) T.m_len PySem.boot_len (pa_cons (pv 2) pa_nil)) pe_int (nomark _)))))
      (pss_one (ps_ret (pe_tup (pa_cons pe_str (pa_cons (pe_ix ix_list (pv 2) (pe_cal CT hr1 (pa_cons (pv 0) (pa_cons (pe_callB call_len_seq (by rfl) T.m_len PySem.boot_len (pa_cons (pv 2) pa_nil)) pa_nil))) (fun _ _ => rfl)) pa_nil))))) pss_nil)
    (pss_cons (ps_if (PW.pt (pw_and (pt_cmpR op_gt (pv 1) pe_int (nomark _)) (pw_and1 (pt_chain op_le op_le pe_int (pv 3) pe_int))))
      (pss_one (ps_ret (pe_tup (pa_cons (pe_ix ix_list (pe_lst (pa_cons pe_str (pa_cons pe_str pa_nil))) (pe_op op_sub (pv 3) pe_int) (fun _ _ => rfl)) (pa_cons (pe_cal CK hr (pa_cons (pv 0) (pa_cons (pe_op op_sub (pv 1) pe_int) (pa_cons (pv 2) pa_nil)))) pa_nil))))) pss_nil)
    (pss_cons (ps_if (PW.pt (pw_and (pt_cmpR op_gt (pv 1) pe_int (nomark _)) (pw_and1 (pt_cmpR op_ge (pv 3) pe_int (nomark _)))))
      (pss_one (ps_ret (pe_tup (pa_cons pe_str (pa_cons (pe_cal CF hr (pa_cons (pv 0) (pa_cons (pv 1) (pa_cons (pv 2) pa_nil)))) pa_nil))))) pss_nil)
    (pss_one (ps_ret (pe_ix ix_list (pe_lst (pa_cons (pe_tup (pa_cons pe_str pa_nil)) (pa_cons (pe_tup (pa_cons pe_str pa_nil)) pa_nil))) (pe_op op_mod (pv 3) pe_int) (fun _ _ => rfl))))))), ?_⟩
  refine ⟨_, rfl, s, i, 7, rfl, S, by decide, by decide, fun r H1 r0 r7 x1 S1 => ?_⟩
  have hl1 : SqL K H1 l (ls.map V.str) := S.seq x1 hl
  -- the last row
  have last : tRet (tOp (rIxL K) (tLst (tCons (tTup (tCons (tC (.str "number")) tNil)) (tCons (tTup (tCons (tC (.str "text")) tNil)) tNil))) (tOp (rI (fun _ j => 0 < j) fun i j => V.int (i % j)) (tVar 3) (tC (.int 2))))
      { nx := fun _ H' => Q .non H', rt := Q } [some (.ref s), some (.int d), some (.ref l), some (.int r)] H1 := by
    refine ⟨(by show 1 ≤ sizeLine; decide), fun p1 hp1 => ⟨(by show 1 ≤ sizeLine; decide), fun p2 hp2 => ⟨(by show 2 ≤ sizeLine; decide), fun p3 hp3 => ?_⟩⟩⟩
    have e1 := same_new hp1 (.tup [.str "number"])
    have e2 := same_new hp2 (.tup [.str "text"])
    have e3 := same_new hp3 (.lst [.ref p1, .ref p2])
    have g1 := e3 _ _ (e2 _ _ (upd_same (H := H1) (a := p1) (o := .tup [.str "number"])))
    have g2 := e3 _ _ (upd_same (a := p2) (o := .tup [.str "text"]) (H := upd H1 p1 (.tup [.str "number"])))
    have ee := e1.trans (e2.trans e3)
    have h01 : r % 2 = 0 ∨ r % 2 = 1 := by omega
    refine ⟨_, rfl, _, _, rfl, rfl, (by show (0 : Int) < 2; decide), p3, [.ref p1, .ref p2], r % 2, (if r % 2 = 0 then .ref p1 else .ref p2), rfl, rfl, SqL.of upd_same, ?_, ?_⟩
    · rcases h01 with h | h <;> rw [h] <;> rfl
    · rcases h01 with h | h <;> rw [h]
      · exact q _ _ .num (x1.trans (Ext.same ee)) (S1.same ee) ((Dts.nil.cons (.str _)).tup (SqT.of g1)) trivial
      · exact q _ _ .txt (x1.trans (Ext.same ee)) (S1.same ee) ((Dts.nil.cons (.str _)).tup (SqT.of g2)) trivial
  have hd1 : ∀ {k : Nat}, d = k + 1 → k < n := fun h => by omega
  dsimp only [tNext, gName]
  show tAnd _ _ _ _ _
  refine and_pure (decide (V.int r = V.int 6)) (decide ((((ls.map V.str).length : Nat) : Int) > 0)) (fun R h => ⟨_, rfl, rfl, _, rfl, h⟩) (fun _ R h => ⟨_, rfl, l, _, rfl, .inl hl1, _, _, rfl, rfl, _, rfl, h⟩) (fun c1 c2 => iteT ?_) (fun _ => iteF ?_)
  · have c2' : 0 < (ls.length : Int) := by
      have z := of_decide_eq_true c2
      rw [List.length_map] at z
      exact z
    refine ⟨_, rfl, _, rfl, _, rfl, l, _, rfl, .inl hl1, s, i, ls.length, by simp, S1, c2', ?_, fun r2 H2 a2 b2 x2 S2 => ?_⟩
    · exact Nat.lt_of_le_of_lt (show (ls.length : Int).natAbs ≤ 1000 by omega) (by decide)
    have lt : r2.toNat < ls.length := by omega
    refine ⟨l, ls.map V.str, r2, .str ls[r2.toNat], rfl, rfl, S1.seq x2 hl1, at_of (j := r2.toNat) (by omega) (by rw [List.getElem?_map, List.getElem?_eq_getElem lt]; rfl), (by show 2 ≤ sizeLine; decide), fun t ht => ?_⟩
    exact q _ _ (.letter ls[r2.toNat]) (x1.trans (x2.trans (Ext.new _ ht))) (S2.same (same_new ht _)) (((Dts.nil.cons (.str _)).cons (.str _)).tup (SqT.of upd_same)) (List.getElem_mem lt)
  dsimp only [tNext, gName]
  show tAnd _ _ _ _ _
  refine and_pure (decide ((d : Int) > 0)) (decide (2 ≤ r) && decide (r ≤ 3)) (fun R h => ⟨_, rfl, _, _, rfl, rfl, _, rfl, h⟩) (fun _ R h => ⟨_, rfl, _, _, rfl, rfl, _, rfl, ?_⟩) (fun c1 c2 => iteT ?_) (fun _ => iteF ?_)
  · by_cases a : 2 ≤ r
    · rw [decide_eq_true a] at h ⊢
      exact iteT ⟨_, _, rfl, rfl, _, rfl, h⟩
    · rw [decide_eq_false a] at h ⊢
      exact iteF ⟨_, rfl, h⟩
  · have c1' : (d : Int) > 0 := of_decide_eq_true c1
    rw [Bool.and_eq_true, decide_eq_true_eq, decide_eq_true_eq] at c2
    obtain ⟨k, rfl⟩ : ∃ k : Nat, d = k + 1 := ⟨d - 1, by omega⟩
    have r23 : r = 2 ∨ r = 3 := by omega
    refine ⟨(by show 2 ≤ sizeLine; decide), fun p hp => ⟨_, rfl, _, _, rfl, rfl, p, [.str "row", .str "book"], r - 2, .str (if r = 2 then "row" else "book"), rfl, rfl, SqL.of upd_same, ?_, _, rfl, _, rfl, _, _, rfl, rfl, _, rfl, s, l, i, k, ls, ?_, S1.same (same_new hp _), hd1 rfl, Same.seq (same_new hp _) hl1, hls,
      fun v H2 kk x2 S2 dv k0 k3 ok => ⟨(by show 2 ≤ sizeLine; decide), fun t ht => ?_⟩⟩⟩
    · rcases r23 with h | h <;> rw [h] <;> rfl
    · show ([.ref s, .int (((k + 1 : Nat) : Int) - 1), .ref l] : List V) = _
      rw [show ((k + 1 : Nat) : Int) - 1 = (k : Int) by omega]
    · have ex : Ext s H (upd H2 t (.tup [.str (if r = 2 then "row" else "book"), v])) := x1.trans ((Ext.same (same_new hp _)).trans (x2.trans (Ext.new _ ht)))
      have dt : Dt K (upd H2 t (.tup [.str (if r = 2 then "row" else "book"), v])) (.ref t) (.tuple [.str (if r = 2 then "row" else "book"), .tuple (pyL kk)]) := ((Dts.nil.cons ((Same.keep (same_new ht _)).dt dv)).cons (.str _)).tup (SqT.of upd_same)
      have S3 := S2.same (same_new ht (.tup [.str (if r = 2 then "row" else "book"), v]))
      rcases r23 with h | h
      · rw [if_pos h] at ex dt S3 ⊢
        exact q _ _ (.row kk) ex S3 dt ⟨Nat.succ_pos _, k0, k3, ok⟩
      · rw [if_neg (by omega)] at ex dt S3 ⊢
        exact q _ _ (.book kk) ex S3 dt ⟨Nat.succ_pos _, k0, k3, ok⟩
  dsimp only [tNext, gName]
  show tAnd _ _ _ _ _
  refine and_pure (decide ((d : Int) > 0)) (decide (r ≥ 4)) (fun R h => ⟨_, rfl, _, _, rfl, rfl, _, rfl, h⟩) (fun _ R h => ⟨_, rfl, _, _, rfl, rfl, _, rfl, h⟩) (fun c1 c2 => iteT ?_) (fun _ => iteF last)
  have c1' : (d : Int) > 0 := of_decide_eq_true c1
  obtain ⟨k, rfl⟩ : ∃ k : Nat, d = k + 1 := ⟨d - 1, by omega⟩
  refine ⟨_, rfl, _, rfl, _, rfl, s, l, i, k, ls, rfl, S1, hd1 rfl, hl1, hls, fun v H2 fs x2 S2 dv f2 fld ok => ⟨(by show 2 ≤ sizeLine; decide), fun t ht => ?_⟩⟩
  exact q _ _ (.shape fs) (x1.trans (x2.trans (Ext.new _ ht))) (S2.same (same_new ht _)) (((Dts.nil.cons ((Same.keep (same_new ht _)).dt dv)).cons (.str _)).tup (SqT.of upd_same)) ⟨Nat.succ_pos _, f2, fld, ok⟩
end
end Sc
namespace Sc
open PySem PyProof.Rows L2
section
variable {P : Program} {w : World} {K : PySem.W.Frag} {mg : Str → Option Value} {base : Heap}
theorem scFields : FnScope ["_law_s", "_law_deep", "_law_letters", "_law_words", "_law_k", "_law_word_here"] ["_law_s", "_law_deep", "_law_letters"] (defScope sFields) := ⟨rfl, rfl, rfl, by decide +kernel, rfl, by decide +kernel, by decide +kernel⟩
theorem c_fields {n lv : Nat} (T : Tx K mg) (lv1 : 1 ≤ lv) (CK : Cal P w K mg base lv "_law_kind" ["_law_s", "_law_deep", "_law_letters"] (spKind K n)) :
    Cal P w K mg base (lv + 1) "_law_fields" ["_law_s", "_law_deep", "_law_letters"] (spFields K n) := by
  have CT : Cal P w K mg base 1 "_law_taken" ["_law_s", "_law_most"] (spTaken K) := c_taken T
  have CW : Cal P w K mg base 1 "_law_word" ["_law_s", "_law_k"] (spWord K) := c_word T
  refine T.fields.ok scFields (fun vs H Q E h => ?_) (fun f cdv A outer s H vs Q E hr h => ?_)
  · obtain ⟨s, l, i, d, ls, rfl, _⟩ := h
    rfl
  obtain ⟨s, l, i, d, ls, rfl, S, dn, hl, hls, q⟩ := h
  have hr1 : Room 1 _ := hr.mono lv1
  refine ⟨_, pss_cons (ps_set (i := 3) scFields.nd rfl (Or.inl rfl) (pe_callB (cr_txSorted rfl) (by rfl) T.m_sorted (by decide +kernel) (pa_cons (pe_callTy (cr_txSet rfl) (by rfl) T.m_set (by decide +kernel) (pa_cons
        (pe_lc (own := [("_law_k", 4)]) (g := gName 4) (tt := tYes) rfl scFields.nd (pi_range1 rfl T.m_range (pa_cons (pe_op op_add pe_int (pe_cal CT hr1 (pa_cons (pv 0) (pa_cons pe_int pa_nil)))) pa_nil))
        (blkOk_by (N := ["_law_s", "_law_deep", "_law_letters", "_law_words", "_law_k", "_law_word_here"]) (sc := defScope sFields) (by decide +kernel))
        (fun _ _ _ _ _ => pg_name (i := 4) scFields.nd rfl (Or.inl rfl)) (fun _ _ _ _ _ => pts_nil)
        (fun _ _ _ _ _ => pe_cal CW hr1 (pa_cons (pv 0) (pa_cons (pe_cal CT hr1 (pa_cons (pv 0) (pa_cons pe_int pa_nil))) pa_nil)))) pa_nil)) pa_nil)))
    (pss_one (ps_ret (pe_callTy call_tuple_of (by rfl) T.m_tuple (by decide +kernel) (pa_cons
      (pe_lc (own := [("_law_word_here", 5)]) (g := gName 5) (tt := tYes) rfl scFields.nd (pi_list (pv 3))
        (blkOk_by (N := ["_law_s", "_law_deep", "_law_letters", "_law_words", "_law_k", "_law_word_here"]) (sc := defScope sFields) (by decide +kernel))
        (fun _ _ _ _ _ => pg_name (i := 5) scFields.nd rfl (Or.inl rfl)) (fun _ _ _ _ _ => pts_nil)
        (fun _ _ _ _ _ => pe_tup (pa_cons (pv 5) (pa_cons (pe_cal CK hr (pa_cons (pv 0) (pa_cons (pe_op op_sub (pv 1) pe_int) (pa_cons (pv 2) pa_nil)))) pa_nil)))) pa_nil)))), ?_⟩
  refine ⟨_, rfl, s, i, 2, rfl, S, by decide, by decide, fun r H1 r0 r2 x1 S1 => ⟨_, _, rfl, rfl, _, rfl, by omega, by omega, fun D hD => ?_⟩⟩
  have nds : D ≠ s := S1.ne hD
  refine lc_range (lo := 0) (n := (1 + r).toNat) (fun j H2 => Ext s H1 H2 ∧ IsS K H2 s i ∧ ∃ zs : List Str, H2 D = some (.lst (zs.map V.str)) ∧ (∀ z ∈ zs, Word z) ∧ zs.length = j)
    ⟨Ext.new _ hD, S1.same (same_new hD _), [], upd_same, (fun z hz => by cases hz), rfl⟩ ?_ ?_
  · rintro j H2 hj ⟨x2, S2, zs, hd, wd, lz⟩
    refine ⟨rfl, _, rfl, _, rfl, s, i, 3, rfl, S2, by decide, by decide, fun k H3 k0 k3 x3 S3 => ⟨s, i, k, rfl, S3, k0, fun H4 e4 => ⟨zs.map V.str, e4 _ _ (x3 _ _ nds hd), ?_, ?_⟩⟩⟩
    · rw [List.length_map]
      exact small1000 (by omega)
    · have x5 : Ext s H1 (upd H4 D (.lst (zs.map V.str ++ [.str (wordOf i k)]))) := ((x2.trans x3).trans (Ext.same e4)).over hD _
      obtain ⟨_, _, _, _, _, iok, _⟩ := id S1
      refine ⟨x5, S1.over (S3.same e4) x5 nds, zs ++ [wordOf i k], by rw [upd_same, List.map_append]; rfl, fun z hz => ?_, by rw [List.length_append, lz]; rfl⟩
      rcases List.mem_append.mp hz with h | h
      · exact wd z h
      · rw [List.mem_singleton.mp h]
        exact word_of iok k0
  rintro H2 ⟨x2, S2, zs, hd, wd, lz⟩
  have lz' : zs.length = (1 + r).toNat := lz
  refine ⟨D, zs, rfl, SqL.of hd, by omega, fun a m ha hm => ⟨a, _, m, rfl, upd_same, by omega, fun ys p so nd mem len hp => ?_⟩⟩
  generalize TxO _ a (fun y => decide (y ∈ zs)) m = o3 at hp ⊢
  have e3 := (same_new ha o3).trans (same_new hp (.lst (ys.map V.str)))
  have hp3 : (upd (upd H2 a o3) p (.lst (ys.map V.str))) p = _ := upd_same
  have x3 := x1.trans (x2.trans (Ext.same e3))
  have S3 := S2.same e3
  have wy : ∀ y ∈ ys, Word y := fun y hy => wd y (of_decide_eq_true ((mem y).mp hy))
  have y0 : ys ≠ [] := fun z => by
    cases zs with
    | nil => 
      have : 0 = (1 + r).toNat := lz'
      omega
    | cons z0 zs =>
      have h := (mem z0).mpr (decide_eq_true List.mem_cons_self)
      rw [z] at h
      cases h
  have y2 : ys.length ≤ 2 := by omega
  generalize (upd (upd H2 a o3) p (.lst (ys.map V.str))) = H3 at hp3 x3 S3 ⊢
  have hl3 : SqL K H3 l (ls.map V.str) := S.seq x3 hl
  refine ⟨_, rfl, p, rfl, ⟨_, SqL.of hp3⟩, fun F hF => ?_⟩
  have nfs : F ≠ s := S3.ne hF
  refine lc_list (K := K) (a := p) (xs := ys.map V.str) (fun j H4 => Ext s H3 H4 ∧ IsS K H4 s i ∧ ∃ vs fs, H4 F = some (.lst vs) ∧ Dts K H4 vs (pyF fs) ∧ okF ls d fs ∧ fs.map (·.1) = ys.take j)
    ⟨Ext.new _ hF, S3.same (same_new hF _), [], [], upd_same, .nil, trivial, rfl⟩ (fun j H4 _ h => S3.seq h.1 (SqL.of hp3)) ?_ ?_
  · rintro j x H4 hx ⟨x4, S4, us, fs, hf, dts, okf, efs⟩
    rw [List.getElem?_map] at hx
    obtain ⟨z, hz, rfl⟩ := Option.map_eq_some_iff.mp hx
    have hlen : fs.length ≤ 2 := by
      have e := congrArg List.length efs
      rw [List.length_map, List.length_take] at e
      omega
    refine ⟨rfl, _, rfl, _, rfl, _, rfl, _, _, rfl, rfl, _, rfl, s, l, i, d, ls, ?_, S4, dn, S3.seq x4 hl3, hls, fun v H5 kk x5 S5 dv k0 k3 ok => ⟨(by show 2 ≤ sizeLine; decide), fun t ht => ⟨us, (same_new ht _) _ _ (x5 _ _ nfs hf), ?_, ?_⟩⟩⟩
    · show ([.ref s, .int (((d + 1 : Nat) : Int) - 1), .ref l] : List V) = _
      rw [show ((d + 1 : Nat) : Int) - 1 = (d : Int) by omega]
    · rw [dts.1, pyF_map, List.length_map]
      exact small1000 (by omega)
    · have e6 := same_new ht (.tup [.str z, v])
      have x7 : Ext s H3 (upd (upd H5 t (.tup [.str z, v])) F (.lst (us ++ [.ref t]))) := ((x4.trans x5).trans (Ext.same e6)).over hF _
      have k7 : Keep K (upd H5 t (.tup [.str z, v])) (upd (upd H5 t (.tup [.str z, v])) F (.lst (us ++ [.ref t]))) := Keep.upd (e6 _ _ (x5 _ _ nfs hf)) trivial _
      refine ⟨x7, S3.over (S5.same e6) x7 nfs, us ++ [.ref t], fs ++ [(z, kk)], upd_same, ?_, okF_snoc (wy z (List.mem_of_getElem? hz)) k0 k3 ok okf, ?_⟩
      · rw [pyF_map, List.map_append, ← pyF_map]
        refine (k7.dts ((Same.keep e6).dts ((S4.keep x5).dts dts))).snoc (k7.dt ?_)
        exact ((Dts.nil.cons ((Same.keep e6).dt dv)).cons (.str _)).tup (SqT.of upd_same)
      · rw [List.map_append, efs, List.take_add_one, hz]
        rfl
  rintro H4 ⟨x4, S4, us, fs, hf, dts, okf, efs⟩
  rw [List.length_map, List.take_length] at efs
  refine ⟨F, us, rfl, .inl ⟨SqL.of hf, fun t ht => ?_⟩⟩
  have e5 := same_new ht (.tup us)
  have fl2 : fs.length ≤ 2 := by
    have e := congrArg List.length efs
    rw [List.length_map] at e
    omega
  refine q _ _ fs (x3.trans (x4.trans (Ext.same e5))) (S4.same e5) (((Same.keep e5).dts dts).tup (SqT.of upd_same)) fl2 ?_ okf
  rw [efs]
  exact ⟨y0, by omega, nd, so, wy⟩
end
end Sc
namespace Sc
open PySem PyProof.Rows L2
section
variable {P : Program} {w : World} {K : PySem.W.Frag} {mg : Str → Option Value} {base : Heap}
theorem c_kinds (T : Tx K mg) : ∀ n : Nat, Cal P w K mg base (3 * n + 1) "_law_kind" ["_law_s", "_law_deep", "_law_letters"] (spKind K n)
  | 0 => (T.kind.never fun vs H Q E ⟨_, _, _, _, _, _, _, h, _⟩ => absurd h (Nat.not_lt_zero _)).mono (Nat.zero_le _)
  | n + 1 => by
    have ih := c_kinds T n
    have cf := c_fields T (by omega) ih
    have cc := c_choice T (lv := 3 * n + 1 + 1) (by omega) (ih.mono (by omega)) cf
    exact c_kind T (by omega) cc
end
end Sc
namespace Sc
open PySem PyProof.Rows L2
section
variable {P : Program} {w : World} {K : PySem.W.Frag} {mg : Str → Option Value} {base : Heap}
theorem scShownKind : FnScope ["kind", "choice"] ["kind"] (defScope sShownKind) := ⟨rfl, rfl, rfl, by decide +kernel, rfl, by decide +kernel, by decide +kernel⟩
theorem c_shown_kind {n lv : Nat} (T : Tx K mg) (CC : Cal P w K mg base lv "shown_choice" ["choice"] (spTellC K n)) : Cal P w K mg base (lv + 1) "shown_kind" ["kind"] (spTellK K n) := by
  refine T.shown_kind.ok scShownKind (fun vs H Q E h => ?_) (fun f cdv A outer s H vs Q E hr h => ?_)
  · obtain ⟨v, k, rfl, _⟩ := h
    rfl
  obtain ⟨v, k, rfl, hk, dk, lk, q⟩ := h
  refine ⟨_, pss_one (ps_ret (pe_join pe_str (pe_lc (own := [("choice", 1)]) (g := gName 1) (tt := tYes) rfl scShownKind.nd (pi_tup (pv 0)) (blkOk_by (N := ["kind", "choice"]) (sc := defScope sShownKind) (by decide +kernel))
        (fun _ _ _ _ _ => pg_name (i := 1) scShownKind.nd rfl (Or.inl rfl)) (fun _ _ _ _ _ => pts_nil) (fun _ _ _ _ _ => pe_cal CC hr (pa_cons (pv 1) pa_nil))))), ?_⟩
  obtain ⟨a, vs, rfl, ht, hd⟩ := hk.open
  unfold txK at lk
  rw [tx_len] at lk
  refine ⟨⟨_, rfl⟩, _, rfl, a, rfl, ⟨_, ht⟩, fun D hD => ?_⟩
  refine lc_tup (K := K) (a := a) (xs := vs) (fun j H2 => Same H H2 ∧ H2 D = some (.lst (((k.take j).map txC).map V.str))) ⟨same_new hD _, upd_same⟩ (fun j H2 _ h => (Same.keep h.1) _ _ ht) ?_ ?_
  · rintro j x H2 hx ⟨e2, h2⟩
    obtain ⟨d, hd1, hd2⟩ := hd.at hx
    rw [pyL_map, List.getElem?_map] at hd1
    obtain ⟨c, hc, rfl⟩ := Option.map_eq_some_iff.mp hd1
    have mc := List.mem_of_getElem? hc
    refine ⟨rfl, _, rfl, x, c, rfl, (Same.keep e2).dt hd2, Nat.lt_of_le_of_lt (dL_mem mc) dk, ?_, fun H3 e3 => ⟨_, e3 _ _ h2, ?_, fun b o hb => ?_, ?_⟩⟩
    · rw [txC, tx_len]
      exact Nat.le_trans (joinL_mem bar (by rw [cL_map]; exact List.mem_map_of_mem mc)) lk
    · rw [List.length_map, List.length_map]
      refine Nat.lt_of_le_of_lt (Nat.le_trans (List.length_take_le' _ _) (Nat.le_trans (Nat.le_of_eq (by rw [cL_map, List.length_map])) (joinL_many bar (by decide) (cL k)))) ?_
      rw [sizeLine_eq]
      omega
    · rw [upd_ne (ne_of_none hb hD)]
      exact e3 _ _ (e2 b o hb)
    · rw [upd_same, List.take_add_one, hc, List.map_append, List.map_append]
      rfl
  rintro H2 ⟨e2, h2⟩
  rw [List.take_of_length_le (by rw [hd.1, pyL_map, List.length_map]; exact Nat.le_refl _)] at h2
  refine ⟨" | ", D, k.map txC, rfl, rfl, .inl (SqL.of h2), ?_, ?_⟩
  · have e : (k.map txC).map TL.tl = cL k := by rw [List.map_map, cL_map]; rfl
    have := join_room (y := " | ") (zs := k.map txC) (n := 1000000) (by rw [e]; exact lk)
    refine Nat.le_trans this ?_
    decide
  · show Q (.str (Txt.join " | " (k.map txC))) H2
    rw [txK_join]
    exact q _ e2
theorem scShownChoice : FnScope ["choice", "word", "fields", "field", "inner"] ["choice"] (defScope sShownChoice) := ⟨rfl, rfl, rfl, by decide +kernel, rfl, by decide +kernel, by decide +kernel⟩
theorem c_shown_choice {n lv : Nat} (T : Tx K mg) (CK : Cal P w K mg base lv "shown_kind" ["kind"] (spTellK K n)) : Cal P w K mg base (lv + 1) "shown_choice" ["choice"] (spTellC K (n + 1)) := by
  refine T.shown_choice.ok scShownChoice (fun vs H Q E h => ?_) (fun f cdv A outer s H vs Q E hr h => ?_)
  · obtain ⟨v, c, rfl, _⟩ := h
    rfl
  obtain ⟨v, c, rfl, hc, dc, lc, q⟩ := h
  refine ⟨_, pss_cons (ps_set (i := 1) scShownChoice.nd rfl (Or.inl rfl) (pe_ix ix_tup (pv 0) pe_int (fun _ _ => rfl)))
    (pss_cons (ps_if (pt_cmpR op_in_seq (pv 1) (pe_tup (pa_cons pe_str (pa_cons pe_str pa_nil))) (by rfl))
      (pss_one (ps_ret (pe_fs (.cons (pe_fmt (pv 1)) (.cons pe_str (.cons (pe_fmt (pe_cal CK hr (pa_cons (pe_ix ix_tup (pv 0) pe_int (fun _ _ => rfl)) pa_nil))) (.cons pe_str .nil))))))) pss_nil)
    (pss_cons (ps_if (pt_cmpR op_eq (pv 1) pe_str (nomark _))
      (pss_cons (ps_setLc (i := 2) (own := [("field", 3), ("inner", 4)]) (g := gTup K 2 (gCons (gName 3) (gCons (gName 4) gNil))) (tt := tYes) rfl scShownChoice.nd rfl rfl (sw_true rfl rfl rfl (by decide +kernel)) (pi_tup (pe_ix ix_tup (pv 0) pe_int (fun _ _ => rfl)))
          (blkOk_by (N := ["choice", "word", "fields", "field", "inner"]) (sc := defScope sShownChoice) (by decide +kernel))
          (fun _ _ _ _ _ => pg_tup (by rfl) (pgs_cons (pg_name (i := 3) scShownChoice.nd rfl (Or.inl rfl)) (pgs_cons (pg_name (i := 4) scShownChoice.nd rfl (Or.inl rfl)) pgs_nil))) (fun _ _ _ _ _ => pts_nil)
          (fun _ _ _ _ _ => pe_fs (.cons (pe_fmt (pv 3)) (.cons pe_str (.cons (pe_fmt (pe_cal CK hr (pa_cons (pv 4) pa_nil))) .nil)))))
        (pss_one (ps_ret (pe_op op_add_str (pe_op op_add_str pe_str (pe_join pe_str (pv 2))) pe_str)))) pss_nil)
    (pss_cons (ps_if (pt_cmpR op_eq (pv 1) pe_str (nomark _)) (pss_one (ps_ret (pe_ix ix_tup (pv 0) pe_int (fun _ _ => rfl)))) pss_nil)
    (pss_cons (ps_if (pt_cmpR op_eq (pv 1) pe_str (nomark _))
      (pss_one (ps_ret (pe_op op_add_str (pe_op op_add_str (pe_op op_add_str (pe_ix ix_tup (pv 0) pe_int (fun _ _ => rfl)) pe_str) (pe_join pe_str (pe_ix ix_tup (pv 0) pe_int (fun _ _ => rfl)))) pe_str))) pss_nil)
    (pss_one (ps_ret (pe_join pe_str (pv 0)))))))), ?_⟩
  obtain ⟨a, us, rfl, ht0, hd0⟩ := hc.lead
  refine ⟨_, rfl, a, _, _, _, rfl, rfl, ht0, at_of (j := 0) rfl rfl, _, rfl, (by show 2 ≤ sizeLine; decide), fun t hp => ⟨t, [.str "row", .str "book"], rfl, .inr (SqT.of upd_same), rfl, rfl, _, rfl, ?_⟩⟩
  have e1 := same_new hp (.tup [.str "row", .str "book"])
  generalize (upd H t (.tup [.str "row", .str "book"])) = H1 at e1 ⊢
  have ht : SqT K H1 a (.str (wdC c) :: us) := (Same.keep e1) _ _ ht0
  have hd : Dts K H1 us (restC c) := (Same.keep e1).dts hd0
  generalize hw : wdC c = wd at ht ⊢
  have rb : ∀ k : List Ch, (c = .row k ∨ c = .book k) → restC c = [.tuple (pyL k)] → dL k < n → tJs [tFmt (tVar 1), tC (.str "("), tFmt (tCall (spTellK K n) [] E0 (tCons (tOp (rIxT K) (tVar 0) (tC (.int 1))) tNil)), tC (.str ")")] Str.empty
      [some (.ref a), some (.str wd), none, none, none] H1 fun out H2 => Q (.str out) H2 := fun k hk hr0 hd' => by
    have ec := txC_rb k hk
    rw [hw] at ec
    have lc' := lc
    rw [ec, app_len, app_len, app_len, app_len] at lc'
    rw [hr0] at hd
    obtain ⟨u, rfl, hu⟩ := hd.one
    have l0 : Str.empty.length = 0 := rfl
    have l1 : ("(" : Str).length = 1 := rfl
    have l2 : (")" : Str).length = 1 := rfl
    refine ⟨_, rfl, .inl ⟨_, rfl, sizeOk (by omega), _, rfl, sizeOk (by rw [app_len]; omega), _, rfl, sizeOk (by rw [app_len, app_len]; omega), _, rfl, a, _, _, _, rfl, rfl, ht, at_of (j := 1) rfl rfl, u, k, rfl, hu, hd', by omega, fun H2 e2 => .inl ⟨_, rfl, sizeOk (by omega), _, rfl, sizeOk (by rw [app_len, app_len, app_len]; omega), _, rfl, sizeOk (by rw [app_len, app_len, app_len, app_len]; omega), ?_⟩⟩⟩
    have z := q H2 (e1.trans e2)
    rw [ec] at z
    exact z
  cases c with
  | row k =>
    replace hw : ("row" : Str) = wd := hw
    subst hw
    exact iteYes (by decide +kernel) (rb k (.inl rfl) rfl (Nat.lt_of_succ_lt_succ dc))
  | book k =>
    replace hw : ("book" : Str) = wd := hw
    subst hw
    exact iteYes (by decide +kernel) (rb k (.inr rfl) rfl (Nat.lt_of_succ_lt_succ dc))
  | num =>
    replace hw : ("number" : Str) = wd := hw
    subst hw
    refine iteNo (by decide +kernel) ⟨_, rfl, rfl, _, rfl, iteNo (by decide +kernel) ⟨_, rfl, rfl, _, rfl, iteNo (by decide +kernel) ⟨_, rfl, rfl, _, rfl, iteNo (by decide +kernel) ⟨⟨_, rfl⟩, _, rfl, " ", a, ["number"], rfl, rfl, .inr ?_, by decide, ?_⟩⟩⟩⟩
    · rw [Dts.unnil hd] at ht
      exact ht
    · show Q (.str (Txt.join " " ["number"])) H1
      rw [← txC_num]
      exact q _ e1
  | txt =>
    replace hw : ("text" : Str) = wd := hw
    subst hw
    refine iteNo (by decide +kernel) ⟨_, rfl, rfl, _, rfl, iteNo (by decide +kernel) ⟨_, rfl, rfl, _, rfl, iteNo (by decide +kernel) ⟨_, rfl, rfl, _, rfl, iteNo (by decide +kernel) ⟨⟨_, rfl⟩, _, rfl, " ", a, ["text"], rfl, rfl, .inr ?_, by decide, ?_⟩⟩⟩⟩
    · rw [Dts.unnil hd] at ht
      exact ht
    · show Q (.str (Txt.join " " ["text"])) H1
      rw [← txC_txt]
      exact q _ e1
  | any z =>
    replace hw : ("some" : Str) = wd := hw
    subst hw
    have ez := txC_any z
    obtain ⟨u, rfl, hu⟩ := Dts.one (d := .str z) hd
    rw [hu.strOf] at ht
    have lz : z.length ≤ 1000000 := by
      have g : (txC (.any z)).length = 5 + z.length := by
        rw [txC, tx_len]
        show (TL.tl "some" ++ 32 :: TL.tl z).length = _
        rw [List.length_append, List.length_cons, len_list]
        show 4 + (z.cps.toList.length + 1) = 5 + z.cps.toList.length
        omega
      omega
    refine iteNo (by decide +kernel) ⟨_, rfl, rfl, _, rfl, iteNo (by decide +kernel) ⟨_, rfl, rfl, _, rfl, iteNo (by decide +kernel) ⟨_, rfl, rfl, _, rfl, iteNo (by decide +kernel) ⟨⟨_, rfl⟩, _, rfl, " ", a, ["some", z], rfl, rfl, .inr ht, ?_, ?_⟩⟩⟩⟩
    · show 4 + (z.length + 0) + 2 * 1 ≤ _
      omega
    · show Q (.str (Txt.join " " ["some", z])) H1
      rw [← ez]
      exact q _ e1
  | wth z =>
    replace hw : ("with" : Str) = wd := hw
    subst hw
    have ez := txC_wth z
    obtain ⟨u, rfl, hu⟩ := Dts.one (d := .str z) hd
    rw [hu.strOf] at ht
    have lz : z.length ≤ 1000000 := by
      have g : (txC (.wth z)).length = 5 + z.length := by
        rw [txC, tx_len]
        show (TL.tl "with" ++ 32 :: TL.tl z).length = _
        rw [List.length_append, List.length_cons, len_list]
        show 4 + (z.cps.toList.length + 1) = 5 + z.cps.toList.length
        omega
      omega
    refine iteNo (by decide +kernel) ⟨_, rfl, rfl, _, rfl, iteNo (by decide +kernel) ⟨_, rfl, rfl, _, rfl, iteNo (by decide +kernel) ⟨_, rfl, rfl, _, rfl, iteNo (by decide +kernel) ⟨⟨_, rfl⟩, _, rfl, " ", a, ["with", z], rfl, rfl, .inr ht, ?_, ?_⟩⟩⟩⟩
    · show 4 + (z.length + 0) + 2 * 1 ≤ _
      omega
    · show Q (.str (Txt.join " " ["with", z])) H1
      rw [← ez]
      exact q _ e1
  | letter l =>
    replace hw : ("letter" : Str) = wd := hw
    subst hw
    obtain ⟨u, rfl, hu⟩ := Dts.one (d := .str l) hd
    rw [hu.strOf] at ht
    refine iteNo (by decide +kernel) ⟨_, rfl, rfl, _, rfl, iteNo (by decide +kernel) ⟨_, rfl, rfl, _, rfl, iteYes (by decide +kernel) ⟨_, rfl, a, _, _, _, rfl, rfl, ht, at_of (j := 1) rfl rfl, ?_⟩⟩⟩
    show Q (.str l) H1
    have z := q _ e1
    rw [show txC (.letter l) = l from mkS_tl l] at z
    exact z
  | cut l hs =>
    replace hw : ("cut" : Str) = wd := hw
    subst hw
    obtain ⟨u, us', rfl, hu, hd2⟩ := Dts.uncons (d := .str l) hd
    obtain ⟨u2, rfl, hu2⟩ := hd2.one
    rw [hu.strOf] at ht
    obtain ⟨b, vs, rfl, hb, hbd⟩ := hu2.open
    rw [hbd.strs] at hb
    have ec := txC_cut l hs
    have lc' := lc
    rw [ec, app_len, app_len, app_len] at lc'
    have l1 : ("(" : Str).length = 1 := rfl
    have l2 : (")" : Str).length = 1 := rfl
    refine iteNo (by decide +kernel) ⟨_, rfl, rfl, _, rfl, iteNo (by decide +kernel) ⟨_, rfl, rfl, _, rfl, iteNo (by decide +kernel) ⟨_, rfl, rfl, _, rfl, iteYes (by decide +kernel) ⟨_, rfl, a, _, _, _, rfl, rfl, ht, at_of (j := 1) rfl rfl, _, _, rfl, rfl, sizeOk (by omega), ⟨_, rfl⟩, _, rfl, a, _, _, _, rfl, rfl, ht, at_of (j := 2) rfl rfl,
      ", ", b, hs, rfl, rfl, .inr hb, ?_, _, _, rfl, rfl, sizeOk (by rw [app_len]; omega), _, _, rfl, rfl, sizeOk (by rw [app_len, app_len]; omega), ?_⟩⟩⟩⟩
    · have := join_room (y := ", ") (zs := hs) (n := 1000000) (by
        have e : (Txt.join ", " hs).length = (TL.joinL (TL.tl ", ") (hs.map TL.tl)).length := by
          rw [len_list]
          exact congrArg List.length ((congrArg TL.tl (TL.join_eq ", " hs)).trans (TL.tl_join ", " hs))
        omega)
      exact Nat.le_trans this (by decide)
    · have z := q _ e1
      rw [ec] at z
      exact z
  | shape fs =>
    replace hw : ("shape" : Str) = wd := hw
    subst hw
    have ec := txC_shape fs
    have lc' := lc
    rw [ec, app_len, app_len] at lc'
    obtain ⟨u, rfl, hu⟩ := Dts.one (d := .tuple (pyF fs)) hd
    obtain ⟨b, vs, rfl, hb, hbd⟩ := hu.open
    have ej : (Txt.join ", " (fs.map txF)).length = (TL.joinL com (cF fs)).length := by
      rw [len_list]
      refine congrArg List.length (((congrArg TL.tl (TL.join_eq ", " _)).trans (TL.tl_join ", " _)).trans ?_)
      rw [List.map_map, cF_map]
      rfl
    refine iteNo (by decide +kernel) ⟨_, rfl, rfl, _, rfl, iteYes (by decide +kernel) ⟨_, rfl, a, _, _, _, rfl, rfl, ht, at_of (j := 1) rfl rfl, b, rfl, ⟨_, hb⟩, fun D hD => ?_⟩⟩
    refine lc_tup (K := K) (a := b) (xs := vs) (fun j H2 => Same H1 H2 ∧ H2 D = some (.lst (((fs.take j).map txF).map V.str))) ⟨same_new hD _, upd_same⟩ (fun j H2 _ h => (Same.keep h.1) _ _ hb) ?_ ?_
    · rintro j x H2 hx ⟨e2, h2⟩
      obtain ⟨d, hd1, hd2⟩ := hbd.at hx
      rw [pyF_map, List.getElem?_map] at hd1
      obtain ⟨p, hp, rfl⟩ := Option.map_eq_some_iff.mp hd1
      have mp := List.mem_of_getElem? hp
      obtain ⟨pa, pk, rfl, hpt, hpk⟩ := ((Same.keep e2).dt hd2).two
      have lp : (txF p).length ≤ 1000000 := by
        have := joinL_mem com (ps := cF fs) (p := TL.tl (txF p)) (by rw [cF_map]; exact List.mem_map_of_mem (f := fun p => TL.tl p.1 ++ 58 :: 32 :: TL.joinL bar (cL p.2)) mp)
        rw [len_list]
        exact Nat.le_trans this (by omega)
      have ep := txF_eq p
      rw [ep, app_len, app_len, app_len] at lp
      have l0 : Str.empty.length = 0 := rfl
      have l1 : (": " : Str).length = 2 := rfl
      refine ⟨pa, _, rfl, hpt, rfl, _, _, rfl, _, _, rfl, rfl, rfl, _, rfl, .inl ⟨_, rfl, sizeOk (by omega), _, rfl, sizeOk (by rw [app_len]; omega), _, rfl, sizeOk (by rw [app_len, app_len]; omega), _, rfl, pk, p.2, rfl, hpk, ?_, by omega, fun H3 e3 => .inl ⟨_, rfl, sizeOk (by omega), _, rfl, sizeOk (by rw [app_len, app_len, app_len]; omega), _, e3 _ _ h2, ?_, fun c o hb => ?_, ?_⟩⟩⟩
      · exact Nat.lt_of_le_of_lt (dF_mem mp) (Nat.lt_of_succ_lt_succ dc)
      · rw [List.length_map, List.length_map]
        refine Nat.lt_of_le_of_lt (Nat.le_trans (List.length_take_le' _ _) (Nat.le_trans (Nat.le_of_eq (by rw [cF_map, List.length_map])) (joinL_many com (by decide) (cF fs)))) ?_
        rw [sizeLine_eq]
        omega
      · rw [upd_ne (ne_of_none hb hD)]
        exact e3 _ _ (e2 c o hb)
      · rw [upd_same, List.take_add_one, hp, List.map_append, List.map_append, ← ep]
        rfl
    rintro H2 ⟨e2, h2⟩
    rw [List.take_of_length_le (by rw [hbd.1, pyF_map, List.length_map]; exact Nat.le_refl _)] at h2
    have l1 : ("{" : Str).length = 1 := rfl
    have l2 : ("}" : Str).length = 1 := rfl
    refine ⟨⟨_, rfl⟩, _, rfl, ", ", D, fs.map txF, rfl, rfl, .inl (SqL.of h2), ?_, _, _, rfl, rfl, sizeOk (by omega), _, _, rfl, rfl, sizeOk (by rw [app_len]; omega), ?_⟩
    · have := join_room (y := ", ") (zs := fs.map txF) (n := 1000000) (by
        rw [List.map_map]
        show (TL.joinL com (fs.map _)).length ≤ _
        have e : fs.map (TL.tl ∘ txF) = cF fs := by rw [cF_map]; rfl
        rw [e]
        omega)
      exact Nat.le_trans this (by decide)
    · have z := q _ (e1.trans e2)
      rw [ec] at z
      exact z
theorem c_shown (T : Tx K mg) : ∀ n : Nat, Cal P w K mg base (2 * n) "shown_choice" ["choice"] (spTellC K n) ∧ Cal P w K mg base (2 * n + 1) "shown_kind" ["kind"] (spTellK K n)
  | 0 => by
    have c := T.shown_choice.never (P := P) (w := w) (base := base) (sp := spTellC K 0) fun vs H Q E ⟨_, _, _, _, h, _⟩ => absurd h (Nat.not_lt_zero _)
    exact ⟨c, c_shown_kind T c⟩
  | n + 1 => by
    have c := c_shown_choice T (c_shown T n).2
    exact ⟨c, c_shown_kind T c⟩
end
end Sc
namespace Sc
open PySem PyProof.Rows L2
section
variable {P : Program} {w : World} {K : PySem.W.Frag} {mg : Str → Option Value} {base : Heap}
theorem scTold : FnScope ["_law_kind_here", "_law_choice_here"] ["_law_kind_here"] (defScope sTold) := ⟨rfl, rfl, rfl, by decide +kernel, rfl, by decide +kernel, by decide +kernel⟩
theorem c_told {n lv : Nat} (T : Tx K mg) (CC : Cal P w K mg base lv "_law_told_choice" ["_law_choice_here"] (spTellC K n)) : Cal P w K mg base (lv + 1) "_law_told" ["_law_kind_here"] (spTellK K n) := by
  refine T.told.ok scTold (fun vs H Q E h => ?_) (fun f cdv A outer s H vs Q E hr h => ?_)
  · obtain ⟨v, k, rfl, _⟩ := h
    rfl
  obtain ⟨v, k, rfl, hk, dk, lk, q⟩ := h
  refine ⟨_, pss_one (ps_ret (pe_join pe_str (pe_lc (own := [("_law_choice_here", 1)]) (g := gName 1) (tt := tYes) rfl scTold.nd (pi_tup (pv 0)) (blkOk_by (N := ["_law_kind_here", "_law_choice_here"]) (sc := defScope sTold) (by decide +kernel))
        (fun _ _ _ _ _ => pg_name (i := 1) scTold.nd rfl (Or.inl rfl)) (fun _ _ _ _ _ => pts_nil) (fun _ _ _ _ _ => pe_cal CC hr (pa_cons (pv 1) pa_nil))))), ?_⟩
  obtain ⟨a, vs, rfl, ht, hd⟩ := hk.open
  unfold txK at lk
  rw [tx_len] at lk
  refine ⟨⟨_, rfl⟩, _, rfl, a, rfl, ⟨_, ht⟩, fun D hD => ?_⟩
  refine lc_tup (K := K) (a := a) (xs := vs) (fun j H2 => Same H H2 ∧ H2 D = some (.lst (((k.take j).map txC).map V.str))) ⟨same_new hD _, upd_same⟩ (fun j H2 _ h => (Same.keep h.1) _ _ ht) ?_ ?_
  · rintro j x H2 hx ⟨e2, h2⟩
    obtain ⟨d, hd1, hd2⟩ := hd.at hx
    rw [pyL_map, List.getElem?_map] at hd1
    obtain ⟨c, hc, rfl⟩ := Option.map_eq_some_iff.mp hd1
    have mc := List.mem_of_getElem? hc
    refine ⟨rfl, _, rfl, x, c, rfl, (Same.keep e2).dt hd2, Nat.lt_of_le_of_lt (dL_mem mc) dk, ?_, fun H3 e3 => ⟨_, e3 _ _ h2, ?_, fun b o hb => ?_, ?_⟩⟩
    · rw [txC, tx_len]
      exact Nat.le_trans (joinL_mem bar (by rw [cL_map]; exact List.mem_map_of_mem mc)) lk
    · rw [List.length_map, List.length_map]
      refine Nat.lt_of_le_of_lt (Nat.le_trans (List.length_take_le' _ _) (Nat.le_trans (Nat.le_of_eq (by rw [cL_map, List.length_map])) (joinL_many bar (by decide) (cL k)))) ?_
      rw [sizeLine_eq]
      omega
    · rw [upd_ne (ne_of_none hb hD)]
      exact e3 _ _ (e2 b o hb)
    · rw [upd_same, List.take_add_one, hc, List.map_append, List.map_append]
      rfl
  rintro H2 ⟨e2, h2⟩
  rw [List.take_of_length_le (by rw [hd.1, pyL_map, List.length_map]; exact Nat.le_refl _)] at h2
  refine ⟨" | ", D, k.map txC, rfl, rfl, .inl (SqL.of h2), ?_, ?_⟩
  · have e : (k.map txC).map TL.tl = cL k := by rw [List.map_map, cL_map]; rfl
    have := join_room (y := " | ") (zs := k.map txC) (n := 1000000) (by rw [e]; exact lk)
    refine Nat.le_trans this ?_
    decide
  · show Q (.str (Txt.join " | " (k.map txC))) H2
    rw [txK_join]
    exact q _ e2
theorem scToldChoice : FnScope ["_law_choice_here", "_law_pair"] ["_law_choice_here"] (defScope sToldChoice) := ⟨rfl, rfl, rfl, by decide +kernel, rfl, by decide +kernel, by decide +kernel⟩
theorem c_told_choice {n lv : Nat} (T : Tx K mg) (CK : Cal P w K mg base lv "_law_told" ["_law_kind_here"] (spTellK K n)) : Cal P w K mg base (lv + 1) "_law_told_choice" ["_law_choice_here"] (spTellC K (n + 1)) := by
  refine T.told_choice.ok scToldChoice (fun vs H Q E h => ?_) (fun f cdv A outer s H vs Q E hr h => ?_)
  · obtain ⟨v, c, rfl, _⟩ := h
    rfl
  obtain ⟨v, c, rfl, hc, dc, lc, q⟩ := h
  refine ⟨_, pss_cons (ps_if (PW.pt (pw_or (pt_cmpR op_eq (pe_ix ix_tup (pv 0) pe_int (fun _ _ => rfl)) pe_str (nomark _)) (pw_or1 (pt_cmpR op_eq (pe_ix ix_tup (pv 0) pe_int (fun _ _ => rfl)) pe_str (nomark _)))))
      (pss_one (ps_ret (pe_op op_add_str (pe_op op_add_str (pe_op op_add_str (pe_ix ix_tup (pv 0) pe_int (fun _ _ => rfl)) pe_str) (pe_cal CK hr (pa_cons (pe_ix ix_tup (pv 0) pe_int (fun _ _ => rfl)) pa_nil))) pe_str))) pss_nil)
    (pss_cons (ps_if (pt_cmpR op_eq (pe_ix ix_tup (pv 0) pe_int (fun _ _ => rfl)) pe_str (nomark _))
      (pss_one (ps_ret (pe_op op_add_str (pe_op op_add_str pe_str (pe_join pe_str
        (pe_lc (own := [("_law_pair", 1)]) (g := gName 1) (tt := tYes) rfl scToldChoice.nd (pi_tup (pe_ix ix_tup (pv 0) pe_int (fun _ _ => rfl))) (blkOk_by (N := ["_law_choice_here", "_law_pair"]) (sc := defScope sToldChoice) (by decide +kernel))
          (fun _ _ _ _ _ => pg_name (i := 1) scToldChoice.nd rfl (Or.inl rfl)) (fun _ _ _ _ _ => pts_nil)
          (fun _ _ _ _ _ => pe_op op_add_str (pe_op op_add_str (pe_ix (ix_tupK K) (pv 1) pe_int (fun _ _ => rfl)) pe_str) (pe_cal CK hr (pa_cons (pe_ix (ix_tupK K) (pv 1) pe_int (fun _ _ => rfl)) pa_nil)))))) pe_str))) pss_nil)
    (pss_cons (ps_if (pt_cmpR op_eq (pe_ix ix_tup (pv 0) pe_int (fun _ _ => rfl)) pe_str (nomark _)) (pss_one (ps_ret (pe_ix ix_tup (pv 0) pe_int (fun _ _ => rfl)))) pss_nil)
    (pss_cons (ps_if (pt_cmpR op_eq (pe_ix ix_tup (pv 0) pe_int (fun _ _ => rfl)) pe_str (nomark _))
      (pss_one (ps_ret (pe_op op_add_str (pe_op op_add_str (pe_op op_add_str (pe_ix ix_tup (pv 0) pe_int (fun _ _ => rfl)) pe_str) (pe_join pe_str (pe_callTy call_list_of (by rfl) T.m_list (by decide +kernel) (pa_cons (pe_ix ix_tup (pv 0) pe_int (fun _ _ => rfl)) pa_nil)))) pe_str))) pss_nil)
    (pss_cons (ps_if (PW.pt (pw_or (pt_cmpR op_eq (pe_ix ix_tup (pv 0) pe_int (fun _ _ => rfl)) pe_str (nomark _)) (pw_or1 (pt_cmpR op_eq (pe_ix ix_tup (pv 0) pe_int (fun _ _ => rfl)) pe_str (nomark _)))))
      (pss_one (ps_ret (pe_op op_add_str (pe_op op_add_str (pe_ix ix_tup (pv 0) pe_int (fun _ _ => rfl)) pe_str) (pe_ix ix_tup (pv 0) pe_int (fun _ _ => rfl))))) pss_nil)
    (pss_one (ps_ret (pe_ix ix_tup (pv 0) pe_int (fun _ _ => rfl)))))))), ?_⟩
  obtain ⟨a, us, rfl, ht, hd⟩ := hc.lead
  have rb : ∀ k : List Ch, (c = .row k ∨ c = .book k) → restC c = [.tuple (pyL k)] → dL k < n → tRet (tOp (fun x y H Q => ∃ i j, x = .str i ∧ y = .str j ∧ i.length + j.length ≤ sizeLine ∧ Q (.str (i ++ j)) H) (tOp (fun x y H Q => ∃ i j, x = .str i ∧ y = .str j ∧ i.length + j.length ≤ sizeLine ∧ Q (.str (i ++ j)) H)
      (tOp (fun x y H Q => ∃ i j, x = .str i ∧ y = .str j ∧ i.length + j.length ≤ sizeLine ∧ Q (.str (i ++ j)) H) (tOp (rIxT K) (tVar 0) (tC (.int 0))) (tC (.str "("))) (tCall (spTellK K n) [] E0 (tCons (tOp (rIxT K) (tVar 0) (tC (.int 1))) tNil))) (tC (.str ")")))
      { nx := fun _ H' => Q .non H', rt := Q } [some (.ref a), none] H := fun k hk hr0 hd' => by
    have ec := txC_rb k hk
    have lc' := lc
    rw [ec, app_len, app_len, app_len, app_len] at lc'
    rw [hr0] at hd
    obtain ⟨u, rfl, hu⟩ := hd.one
    have l0 : Str.empty.length = 0 := rfl
    have l1 : ("(" : Str).length = 1 := rfl
    have l2 : (")" : Str).length = 1 := rfl
    refine ⟨_, rfl, a, _, _, _, rfl, rfl, ht, at_of (j := 0) rfl rfl, _, _, rfl, rfl, sizeOk (by omega), _, rfl, a, _, _, _, rfl, rfl, ht, at_of (j := 1) rfl rfl, u, k, rfl, hu, hd', by omega, fun H2 e2 => ⟨_, _, rfl, rfl, sizeOk (by rw [app_len]; omega), _, _, rfl, rfl, sizeOk (by rw [app_len, app_len]; omega), ?_⟩⟩
    have z := q H2 e2
    rw [ec, show Str.empty ++ wdC c = wdC c from TL.ext_tl (by rw [TL.tl_append]; rfl)] at z
    exact z
  generalize hw : wdC c = wd at ht rb ⊢
  have ors : ∀ x y : Str, ∀ Qt : Bool → Hp → Prop, ((wd = x ∨ wd = y) → Qt true H) → (¬ (wd = x ∨ wd = y) → Qt false H) →
      tOr (tTest (tOp rEq (tOp (rIxT K) (tVar 0) (tC (.int 0))) (tC (.str x)))) (tTest (tOp rEq (tOp (rIxT K) (tVar 0) (tC (.int 0))) (tC (.str y)))) [some (.ref a), none] H Qt := fun x y Qt hT hF => by
    refine or_pure (decide (V.str wd = V.str x)) (decide (V.str wd = V.str y)) (fun R h => ⟨_, rfl, a, _, _, _, rfl, rfl, ht, at_of (j := 0) rfl rfl, rfl, _, rfl, h⟩) (fun _ R h => ⟨_, rfl, a, _, _, _, rfl, rfl, ht, at_of (j := 0) rfl rfl, rfl, _, rfl, h⟩) (fun h => hT ?_) (fun h1 h2 => hF ?_)
    · rcases h with h | h
      · exact .inl (V.str.inj (of_decide_eq_true h))
      · exact .inr (V.str.inj (of_decide_eq_true h))
    · rintro (h | h)
      · exact absurd (decide_eq_true (congrArg V.str h)) (by rw [h1]; exact Bool.false_ne_true)
      · exact absurd (decide_eq_true (congrArg V.str h)) (by rw [h2]; exact Bool.false_ne_true)
  have tst : ∀ (x : Str) (th : TS) (D : Ends), (wd = x → th D [some (.ref a), none] H) → (wd ≠ x → D.nx [some (.ref a), none] H) → tIfS (tTest (tOp rEq (tOp (rIxT K) (tVar 0) (tC (.int 0))) (tC (.str x)))) th tNext D [some (.ref a), none] H := fun x th D hT hF =>
    ⟨_, rfl, a, _, _, _, rfl, rfl, ht, at_of (j := 0) rfl rfl, rfl, _, rfl, ite2 (fun h => hT (V.str.inj (of_decide_eq_true h))) fun h => hF fun e => h (decide_eq_true (congrArg V.str e))⟩
  refine ors _ _ _ (fun h => iteT ?_) (fun h1 => iteF (tst _ _ _ (fun h => ?_) fun h2 => tst _ _ _ (fun h => ?_) fun h3 => tst _ _ _ (fun h => ?_) fun h4 => ors _ _ _ (fun h => iteT ?_) fun h5 => iteF ?_))
  · obtain ⟨k, hk⟩ := wd_rb (c := c) (hw ▸ h)
    rcases hk with rfl | rfl
    · exact rb k (.inl rfl) rfl (Nat.lt_of_succ_lt_succ dc)
    · exact rb k (.inr rfl) rfl (Nat.lt_of_succ_lt_succ dc)
  · obtain ⟨fs, rfl⟩ := wd_shape (hw.trans h)
    have ec := txC_shape fs
    have lc' := lc
    rw [ec, app_len, app_len] at lc'
    obtain ⟨u, rfl, hu⟩ := Dts.one (d := .tuple (pyF fs)) hd
    obtain ⟨b, vs, rfl, hb, hbd⟩ := hu.open
    have ej : (Txt.join ", " (fs.map txF)).length = (TL.joinL com (cF fs)).length := by
      rw [len_list]
      refine congrArg List.length (((congrArg TL.tl (TL.join_eq ", " _)).trans (TL.tl_join ", " _)).trans ?_)
      rw [List.map_map, cF_map]
      rfl
    refine ⟨⟨_, rfl⟩, _, rfl, a, _, _, _, rfl, rfl, ht, at_of (j := 1) rfl rfl, b, rfl, ⟨_, hb⟩, fun D hD => ?_⟩
    refine lc_tup (K := K) (a := b) (xs := vs) (fun j H2 => Same H H2 ∧ H2 D = some (.lst (((fs.take j).map txF).map V.str))) ⟨same_new hD _, upd_same⟩ (fun j H2 _ h => (Same.keep h.1) _ _ hb) ?_ ?_
    · rintro j x H2 hx ⟨e2, h2⟩
      obtain ⟨d, hd1, hd2⟩ := hbd.at hx
      rw [pyF_map, List.getElem?_map] at hd1
      obtain ⟨p, hp, rfl⟩ := Option.map_eq_some_iff.mp hd1
      have mp := List.mem_of_getElem? hp
      obtain ⟨pa, pk, rfl, hpt, hpk⟩ := ((Same.keep e2).dt hd2).two
      have lp : (txF p).length ≤ 1000000 := by
        have := joinL_mem com (ps := cF fs) (p := TL.tl (txF p)) (by rw [cF_map]; exact List.mem_map_of_mem (f := fun p => TL.tl p.1 ++ 58 :: 32 :: TL.joinL bar (cL p.2)) mp)
        rw [len_list]
        exact Nat.le_trans this (by omega)
      have ep := txF_eq p
      have ee : Str.empty ++ p.1 = p.1 := TL.ext_tl (by rw [TL.tl_append]; rfl)
      rw [ee] at ep
      rw [ep, app_len, app_len] at lp
      have l1 : (": " : Str).length = 2 := rfl
      refine ⟨rfl, _, rfl, pa, _, _, _, rfl, rfl, hpt, at_of (j := 0) rfl rfl, _, _, rfl, rfl, sizeOk (by omega), _, rfl, pa, _, _, _, rfl, rfl, hpt, at_of (j := 1) rfl rfl, pk, p.2, rfl, hpk, ?_, by omega, fun H3 e3 => ⟨_, _, rfl, rfl, sizeOk (by rw [app_len]; omega), _, e3 _ _ h2, ?_, fun c o hb => ?_, ?_⟩⟩
      · exact Nat.lt_of_le_of_lt (dF_mem mp) (Nat.lt_of_succ_lt_succ dc)
      · rw [List.length_map, List.length_map]
        refine Nat.lt_of_le_of_lt (Nat.le_trans (List.length_take_le' _ _) (Nat.le_trans (Nat.le_of_eq (by rw [cF_map, List.length_map])) (joinL_many com (by decide) (cF fs)))) ?_
        rw [sizeLine_eq]
        omega
      · rw [upd_ne (ne_of_none hb hD)]
        exact e3 _ _ (e2 c o hb)
      · rw [upd_same, List.take_add_one, hp, List.map_append, List.map_append, ← ep]
        rfl
    rintro H2 ⟨e2, h2⟩
    rw [List.take_of_length_le (by rw [hbd.1, pyF_map, List.length_map]; exact Nat.le_refl _)] at h2
    have l1 : ("{" : Str).length = 1 := rfl
    have l2 : ("}" : Str).length = 1 := rfl
    refine ⟨", ", D, fs.map txF, rfl, rfl, .inl (SqL.of h2), ?_, _, _, rfl, rfl, sizeOk (by omega), _, _, rfl, rfl, sizeOk (by rw [app_len]; omega), ?_⟩
    · have := join_room (y := ", ") (zs := fs.map txF) (n := 1000000) (by
        rw [List.map_map]
        show (TL.joinL com (fs.map _)).length ≤ _
        have e : fs.map (TL.tl ∘ txF) = cF fs := by rw [cF_map]; rfl
        rw [e]
        omega)
      exact Nat.le_trans this (by decide)
    · have z := q _ e2
      rw [ec] at z
      exact z
  · obtain ⟨l, rfl⟩ := wd_letter (hw.trans h)
    obtain ⟨u, rfl, hu⟩ := Dts.one (d := .str l) hd
    rw [hu.strOf] at ht
    refine ⟨_, rfl, a, _, _, _, rfl, rfl, ht, at_of (j := 1) rfl rfl, ?_⟩
    show Q (.str l) H
    have z := q _ (Same.refl H)
    rw [show txC (.letter l) = l from mkS_tl l] at z
    exact z
  · obtain ⟨l, hs, rfl⟩ := wd_cut (hw.trans h)
    obtain ⟨u, us', rfl, hu, hd2⟩ := Dts.uncons (d := .str l) hd
    obtain ⟨u2, rfl, hu2⟩ := hd2.one
    rw [hu.strOf] at ht
    obtain ⟨b, vs, rfl, hb, hbd⟩ := hu2.open
    rw [hbd.strs] at hb
    have ec := txC_cut l hs
    have lc' := lc
    rw [ec, app_len, app_len, app_len] at lc'
    have l1 : ("(" : Str).length = 1 := rfl
    have l2 : (")" : Str).length = 1 := rfl
    refine ⟨_, rfl, a, _, _, _, rfl, rfl, ht, at_of (j := 1) rfl rfl, _, _, rfl, rfl, sizeOk (by omega), ⟨_, rfl⟩, _, rfl, a, _, _, _, rfl, rfl, ht, at_of (j := 2) rfl rfl, b, _, rfl, .inr hb, fun L hL => ⟨", ", L, hs, rfl, rfl, .inl (SqL.of upd_same), ?_, _, _, rfl, rfl, sizeOk (by rw [app_len]; omega), _, _, rfl, rfl, sizeOk (by rw [app_len, app_len]; omega), ?_⟩⟩
    · have := join_room (y := ", ") (zs := hs) (n := 1000000) (by
        have e : (Txt.join ", " hs).length = (TL.joinL (TL.tl ", ") (hs.map TL.tl)).length := by
          rw [len_list]
          exact congrArg List.length ((congrArg TL.tl (TL.join_eq ", " hs)).trans (TL.tl_join ", " hs))
        omega)
      exact Nat.le_trans this (by decide)
    · have z := q _ (same_new hL (.lst (hs.map V.str)))
      rw [ec] at z
      exact z
  · obtain ⟨z0, hz⟩ := wd_due (c := c) (hw ▸ h)
    obtain ⟨ec, er⟩ := txC_due hz
    have lc' := lc
    rw [ec, app_len, app_len, hw] at lc'
    rw [er] at hd
    obtain ⟨u, rfl, hu⟩ := hd.one
    rw [hu.strOf] at ht
    refine ⟨_, rfl, a, _, _, _, rfl, rfl, ht, at_of (j := 0) rfl rfl, _, _, rfl, rfl, sizeOk (by omega), _, rfl, a, _, _, _, rfl, rfl, ht, at_of (j := 1) rfl rfl, _, _, rfl, rfl, sizeOk (by rw [app_len]; omega), ?_⟩
    have z := q _ (Same.refl H)
    rw [ec, hw] at z
    exact z
  · refine ⟨_, rfl, a, _, _, _, rfl, rfl, ht, at_of (j := 0) rfl rfl, ?_⟩
    have z := q _ (Same.refl H)
    rcases wd_flat (c := c) (hw ▸ h1) (hw ▸ h2) (hw ▸ h3) (hw ▸ h4) (hw ▸ h5) with rfl | rfl
    · rw [show txC .num = wd from (mkS_tl "number").trans hw] at z
      exact z
    · rw [show txC .txt = wd from (mkS_tl "text").trans hw] at z
      exact z
theorem c_tells (T : Tx K mg) : ∀ n : Nat, Cal P w K mg base (2 * n) "_law_told_choice" ["_law_choice_here"] (spTellC K n) ∧ Cal P w K mg base (2 * n + 1) "_law_told" ["_law_kind_here"] (spTellK K n)
  | 0 => by
    have c := T.told_choice.never (P := P) (w := w) (base := base) (sp := spTellC K 0) fun vs H Q E ⟨_, _, _, _, h, _⟩ => absurd h (Nat.not_lt_zero _)
    exact ⟨c, c_told T c⟩
  | n + 1 => by
    have c := c_told_choice T (c_tells T n).2
    exact ⟨c, c_told T c⟩
end
end Sc
namespace Sc
open PySem PyProof.Rows L2
section
variable {P : Program} {w : World} {K : PySem.W.Frag} {mg : Str → Option Value} {base : Heap}
theorem scBounds : FnScope ["_law_s", "_law_most", "_law_bounds_here", "_law_k"] ["_law_s", "_law_most"] (defScope sBounds) := ⟨rfl, rfl, rfl, by decide +kernel, rfl, by decide +kernel, by decide +kernel⟩
theorem c_bounds (T : Tx K mg) : Cal P w K mg base 8 "_law_bounds" ["_law_s", "_law_most"] (spBounds K) := by
  have CT : Cal P w K mg base 1 "_law_taken" ["_law_s", "_law_most"] (spTaken K) := c_taken T
  have CW : Cal P w K mg base 1 "_law_word" ["_law_s", "_law_k"] (spWord K) := c_word T
  have CK : Cal P w K mg base 7 "_law_kind" ["_law_s", "_law_deep", "_law_letters"] (spKind K 2) := c_kinds T 2
  refine T.bounds.ok scBounds (fun vs H Q E h => ?_) (fun f cdv A outer s H vs Q E hr h => ?_)
  · obtain ⟨s, i, m, rfl, _⟩ := h
    rfl
  obtain ⟨s, i, m, rfl, S, hm, q⟩ := h
  have r1 : Room 1 _ := hr.mono (by decide)
  have hu := hu_of hr
  refine ⟨_, pss_cons (ps_set (i := 2) scBounds.nd rfl (Or.inl rfl) pe_dnewK)
    (pss_cons (ps_for PassesOwn.never rfl (pi_range1 rfl T.m_range (pa_cons (pe_cal CT r1 (pa_cons (pv 0) (pa_cons (pe_op op_add (pv 1) pe_int) pa_nil))) pa_nil)) (pg_name (i := 3) scBounds.nd rfl (Or.inl rfl))
      (pss_one (ps_dput hu (pv 2) (pe_upper (pe_cal CW r1 (pa_cons (pv 0) (pa_cons (pv 3) pa_nil)))) (pe_cal CK hr (pa_cons (pv 0) (pa_cons pe_int (pa_cons (pe_lst pa_nil) pa_nil)))) rfl)))
    (pss_one (ps_ret (pv 2)))), ?_⟩
  refine fun b hb => ?_
  have S0 := S.same (same_new hb (.dK []))
  have nbs : b ≠ s := S.ne hb
  refine ⟨_, rfl, _, rfl, _, _, rfl, rfl, s, i, _, rfl, S0, by omega, ?_, fun r H1 r0 r1' x1 S1 => ⟨_, rfl, by omega, by omega, ?_⟩⟩
  · exact Nat.lt_of_le_of_lt (show ((m : Int) + 1).natAbs ≤ 100 by omega) (by decide)
  have hb1 : H1 b = some (.dK []) := x1 _ _ nbs upd_same
  refine for_range (lo := 0) (n := r.toNat) (fun j σ H2 => (∃ v3, σ = [some (.ref s), some (.int m), some (.ref b), v3]) ∧ Ext s H H2 ∧ IsS K H2 s i ∧
      ∃ kvs : List (Key × V), H2 b = some (.dK kvs) ∧ kvs.length ≤ j ∧ (kvs.map (·.1)).Nodup ∧ ∀ p ∈ kvs, ∃ t k, p.1 = Sum.inr t ∧ Lett t ∧ (IsK K H2 p.2 k ∧ k ≠ [] ∧ k.length ≤ 3 ∧ okL [] 1 k))
    ⟨⟨none, rfl⟩, (Ext.same (same_new hb _)).trans x1, S1, [], hb1, Nat.le_refl _, List.nodup_nil, fun p h => by cases h⟩ ?_ ?_
  · rintro j σ H2 hj ⟨⟨v3, rfl⟩, x2, S2, kvs, hd, lk, nd, hV⟩
    refine ⟨_, rfl, Nat.zero_le _, fun l hl => ⟨s, l, i, 1, [], rfl, S2.same (same_new hl _), by decide, SqL.of upd_same, Nat.zero_le _, fun v H3 k x3 S3 dk k0 k3 okk => ?_⟩⟩
    have x23 : Ext s H2 H3 := (Ext.same (same_new hl _)).trans x3
    obtain ⟨_, _, _, _, _, iok, _⟩ := id S
    refine ⟨_, rfl, _, rfl, _, rfl, s, i, 0 + (j : Int), rfl, S3, by omega, fun H4 e4 => ⟨⟨_, rfl⟩, _, rfl, rfl, ?_, ?_⟩⟩
    · have := (word_of iok (k := 0 + (j : Int)) (by omega)).2.1
      rw [len_list]
      omega
    have hw := upper_word (word_of iok (k := 0 + (j : Int)) (by omega))
    generalize Txt.upper (wordOf i (0 + (j : Int))) = z at hw ⊢
    have hd4 : H4 b = some (.dK kvs) := e4 _ _ (x23 _ _ nbs hd)
    refine ⟨b, _, rfl, DPut.k (k := Sum.inr z) hd4 (small1000 (by omega)), ?_⟩
    have x24 : Ext s H2 H4 := x23.trans (Ext.same e4)
    have x5 : Ext s H (upd H4 b (.dK (putK kvs (Sum.inr z) v))) := fun c o nc hc => by
      rw [upd_ne (ne_of_none hc hb)]
      exact x24 _ _ nc (x2 _ _ nc hc)
    have k4 : Keep K H4 (upd H4 b (.dK (putK kvs (Sum.inr z) v))) := Keep.upd hd4 trivial _
    have S5 : IsS K (upd H4 b (.dK (putK kvs (Sum.inr z) v))) s i := S.over (S3.same e4) x5 nbs
    refine ⟨⟨_, rfl⟩, x5, S5, _, upd_same, ?_, nd_put _ v nd, fun p hp => ?_⟩
    · have := put_len kvs (Sum.inr z) v
      omega
    rcases mem_put hp with e | e
    · subst e
      exact ⟨z, k, rfl, hw, k4.dt ((Same.keep e4).dt dk), k0, k3, okk⟩
    · obtain ⟨t, k', h1, h2, h3, h4⟩ := hV p e
      exact ⟨t, k', h1, h2, k4.dt ((S2.keep x24).dt h3), h4⟩
  · rintro σ H2 ⟨⟨v3, rfl⟩, x2, S2, kvs, hd, lk, nd, hV⟩
    obtain ⟨us, bs, e, hl, nd2, _, ha⟩ := zip_of (Pt := Lett) (R := fun v k => IsK K H2 v k ∧ k ≠ [] ∧ k.length ≤ 3 ∧ okL [] 1 k) kvs hV nd
    rw [e] at hd lk
    rw [zipK_len hl] at lk
    refine ⟨_, rfl, q b H2 bs x2 S2 hb ⟨us, hd, hl, nd2, fun j v p h1 h2 => (ha j v p h1 h2).2.1⟩ (fun p hp => ?_) (by omega)⟩
    obtain ⟨j, hj⟩ := List.getElem?_of_mem hp
    have lt : j < us.length := by rw [hl]; exact (List.getElem?_eq_some_iff.mp hj).1
    obtain ⟨h1, _, h2⟩ := ha j us[j] p (List.getElem?_eq_getElem lt) hj
    exact ⟨h1, h2⟩
end
end Sc
namespace Sc
open PySem PyProof.Rows L2
section
variable {P : Program} {w : World} {K : PySem.W.Frag} {mg : Str → Option Value} {base : Heap}
theorem scLHeadOf : FnScope ["_law_choice_here", "_law_pair"] ["_law_choice_here"] (defScope sLHeadOf) := ⟨rfl, rfl, rfl, by decide +kernel, rfl, by decide +kernel, by decide +kernel⟩
theorem c_l_head_of (T : Tx K mg) : Cal P w K mg base 1 "_law_head_of" ["_law_choice_here"] (spHead K) := by
  refine T.l_head_of.ok scLHeadOf (fun vs H Q E h => ?_) (fun f cdv A outer s H vs Q E hr h => ?_)
  · obtain ⟨v, c, rfl, _⟩ := h
    rfl
  obtain ⟨v, c, rfl, hc, ok, q⟩ := h
  refine ⟨_, pss_cons (ps_if (pt_cmpR op_eq (pe_ix ix_tup (pv 0) pe_int (fun _ _ => rfl)) pe_str (nomark _))
      (pss_one (ps_ret (pe_op op_add_str pe_str (pe_join pe_str (pe_lc (own := [("_law_pair", 1)]) (g := gName 1) (tt := tYes) rfl scLHeadOf.nd (pi_tup (pe_ix ix_tup (pv 0) pe_int (fun _ _ => rfl))) (blkOk_by (N := ["_law_choice_here", "_law_pair"]) (sc := defScope sLHeadOf) (by decide +kernel))
        (fun _ _ _ _ _ => pg_name (i := 1) scLHeadOf.nd rfl (Or.inl rfl)) (fun _ _ _ _ _ => pts_nil) (fun _ _ _ _ _ => pe_ix (ix_tupK K) (pv 1) pe_int (fun _ _ => rfl))))))) pss_nil)
    (pss_one (ps_ret (pe_ix ix_tup (pv 0) pe_int (fun _ _ => rfl)))), ?_⟩
  obtain ⟨a, us, rfl, ht, hd⟩ := hc.lead
  generalize hw : wdC c = wd at ht ⊢
  refine ⟨_, rfl, a, _, _, _, rfl, rfl, ht, at_of (j := 0) rfl rfl, rfl, _, rfl, ite2 (fun h => ?_) (fun h => ⟨_, rfl, a, _, _, _, rfl, rfl, ht, at_of (j := 0) rfl rfl, ?_⟩)⟩
  rotate_left
  · have ns : wd ≠ "shape" := fun e => h (decide_eq_true (congrArg V.str e))
    have z := q H (Same.refl H)
    cases c with
    | shape fs => exact absurd hw.symm ns
    | letter l => exact ok.elim
    | cut l _ => exact ok.elim
    | any l => exact ok.elim
    | wth l => exact ok.elim
    | _ =>
      rw [← hw]
      exact z
  obtain ⟨fs, rfl⟩ := wd_shape (hw.trans (V.str.inj (of_decide_eq_true h)))
  have fld : Fld (fs.map (·.1)) := ok
  obtain ⟨u, rfl, hu⟩ := Dts.one (d := .tuple (pyF fs)) hd
  obtain ⟨b, rfl, ps, hb, lp, hp⟩ := names_kind hu
  have zl := fld.2.1
  have zs1 := fld.sum
  have hq : hdC (.shape fs) = ("shape " : Str) ++ Txt.join " " (fs.map (·.1)) := head_text fld.1
  rw [hq] at q
  generalize fs.map (·.1) = zs at lp hp zl zs1 q
  refine ⟨⟨_, rfl⟩, _, rfl, a, _, _, _, rfl, rfl, ht, at_of (j := 1) rfl rfl, b, rfl, ⟨_, hb⟩, fun D hD => ?_⟩
  refine lc_tup (K := K) (a := b) (xs := ps) (fun j H2 => Same H H2 ∧ H2 D = some (.lst ((zs.take j).map V.str))) ⟨same_new hD _, upd_same⟩ (fun j H2 _ h => (Same.keep h.1) _ _ hb) ?_ ?_
  · rintro j x H2 hx ⟨e2, h2⟩
    have lt : j < zs.length := lp ▸ (List.getElem?_eq_some_iff.mp hx).1
    obtain ⟨b2, us2, rfl, hb2⟩ := hp j x zs[j] hx (List.getElem?_eq_getElem lt)
    refine ⟨rfl, _, rfl, b2, _, _, _, rfl, rfl, (Same.keep e2) _ _ hb2, at_of (j := 0) rfl rfl, _, h2, ?_, fun c o hc => ?_, ?_⟩
    · rw [List.length_map]
      exact small1000 (Nat.le_trans (List.length_take_le' _ _) (by omega))
    · rw [upd_ne (ne_of_none hc hD)]
      exact e2 c o hc
    · rw [upd_same, List.take_add_one, List.getElem?_eq_getElem lt, List.map_append]
      rfl
  rintro H2 ⟨e2, h2⟩
  rw [List.take_of_length_le (by omega)] at h2
  refine ⟨" ", D, zs, rfl, rfl, .inl (SqL.of h2), ?_, _, _, rfl, rfl, ?_, q _ e2⟩
  · show _ + _ * 1 ≤ _
    omega
  · have hj : (Txt.join " " zs).length ≤ _ + _ * 1 := join_len " " zs
    show 6 + _ ≤ sizeLine
    rw [sizeLine_eq]; omega
theorem scHeadsOf : FnScope ["_law_choice_here", "_law_bounds_here", "_law_one"] ["_law_choice_here", "_law_bounds_here"] (defScope sHeadsOf) := ⟨rfl, rfl, rfl, by decide +kernel, rfl, by decide +kernel, by decide +kernel⟩
theorem c_heads_of (T : Tx K mg) : Cal P w K mg base 2 "_law_heads_of" ["_law_choice_here", "_law_bounds_here"] (spHeads K) := by
  have CH : Cal P w K mg base 1 "_law_head_of" ["_law_choice_here"] (spHead K) := c_l_head_of T
  refine T.heads_of.ok scHeadsOf (fun vs H Q E h => ?_) (fun f cdv A outer s H vs Q E hr h => ?_)
  · obtain ⟨v, b, c, bs, rfl, _⟩ := h
    rfl
  obtain ⟨v, b, c, bs, rfl, hc, hB, okb, form, q⟩ := h
  have hu := hu_of hr
  refine ⟨_, pss_cons (ps_if (pt_cmpR op_eq (pe_ix ix_tup (pv 0) pe_int (fun _ _ => rfl)) pe_str (nomark _)) (pss_one (ps_ret (pe_ix ix_tup (pv 0) pe_int (fun _ _ => rfl)))) pss_nil)
    (pss_one (ps_ret (pe_callTy call_tuple_of (by rfl) T.m_tuple (by decide +kernel) (pa_cons (pe_callB (cr_txSorted rfl) (by rfl) T.m_sorted (by decide +kernel) (pa_cons (pe_callTy (cr_txSet rfl) (by rfl) T.m_set (by decide +kernel) (pa_cons
      (pe_lc (own := [("_law_one", 2)]) (g := gName 2) (tt := tYes) rfl scHeadsOf.nd (pi_tup (pe_dget hu (pv 1) (pe_ix ix_tup (pv 0) pe_int (fun _ _ => rfl)) (fun _ _ => rfl))) (blkOk_by (N := ["_law_choice_here", "_law_bounds_here", "_law_one"]) (sc := defScope sHeadsOf) (by decide +kernel))
        (fun _ _ _ _ _ => pg_name (i := 2) scHeadsOf.nd rfl (Or.inl rfl)) (fun _ _ _ _ _ => pts_nil) (fun _ _ _ _ _ => pe_cal CH hr (pa_cons (pv 2) pa_nil))) pa_nil)) pa_nil)) pa_nil)))), ?_⟩
  rcases form with ⟨l, k, rfl, hm⟩ | ⟨l, hs, rfl⟩
  · obtain ⟨a, u, rfl, ht, hu'⟩ := (show Dt K H v (.tuple [.str "letter", .str l]) from hc).two
    rw [hu'.strOf] at ht
    obtain ⟨j, hj⟩ := List.getElem?_of_mem hm
    obtain ⟨kv, hg, hk⟩ := hB.at hj
    obtain ⟨ka, kvs, rfl, hkt, hkd⟩ := hk.open
    obtain ⟨_, k0, k3, okk⟩ := okb _ hm
    have kl : kvs.length = k.length := by rw [hkd.1, pyL_map, List.length_map]
    refine ⟨_, rfl, a, _, _, _, rfl, rfl, ht, at_of (j := 0) rfl rfl, rfl, _, rfl, iteNo (by decide +kernel) ⟨_, rfl, _, rfl, a, _, _, _, rfl, rfl, ht, at_of (j := 1) rfl rfl, b, _, rfl, hg, ka, rfl, ⟨_, hkt⟩, fun D hD => ?_⟩⟩
    refine lc_tup (K := K) (a := ka) (xs := kvs) (fun j H2 => Same H H2 ∧ H2 D = some (.lst (((k.take j).map hdC).map V.str))) ⟨same_new hD _, upd_same⟩ (fun j H2 _ h => (Same.keep h.1) _ _ hkt) ?_ ?_
    · rintro j x H2 hx ⟨e2, h2⟩
      obtain ⟨d, hd1, hd2⟩ := hkd.at hx
      rw [pyL_map, List.getElem?_map] at hd1
      obtain ⟨c, hc', rfl⟩ := Option.map_eq_some_iff.mp hd1
      refine ⟨rfl, _, rfl, x, c, rfl, (Same.keep e2).dt hd2, hdOk_of (okL_mem okk (List.mem_of_getElem? hc')), fun H3 e3 => ⟨_, e3 _ _ h2, ?_, fun c o hb => ?_, ?_⟩⟩
      · rw [List.length_map, List.length_map]
        exact small1000 (Nat.le_trans (List.length_take_le' _ _) (Nat.le_trans k3 (by decide)))
      · rw [upd_ne (ne_of_none hb hD)]
        exact e3 _ _ (e2 c o hb)
      · rw [upd_same, List.take_add_one, hc', List.map_append, List.map_append]
        rfl
    rintro H2 ⟨e2, h2⟩
    rw [List.take_of_length_le (by omega)] at h2
    have lk : (k.map hdC).length = k.length := List.length_map _
    have k3' : k.length ≤ 3 := k3
    refine ⟨D, k.map hdC, rfl, SqL.of h2, by omega, fun d m hd' hm' => ⟨d, _, m, rfl, upd_same, by omega, fun ys p so nd mem len hp => ⟨p, _, rfl, .inl ⟨SqL.of upd_same, fun t ht' => ?_⟩⟩⟩⟩
    generalize TxO _ d (fun y => decide (y ∈ k.map hdC)) m = o3 at hp ht' ⊢
    refine q _ _ ys (e2.trans ((same_new hd' o3).trans ((same_new hp _).trans (same_new ht' _)))) ((strs_dts ys).tup (SqT.of upd_same)) (.inl ⟨l, k, rfl, hm, so, nd, by omega, fun x => ?_⟩)
    rw [mem x, decide_eq_true_eq]
  · obtain ⟨a, us, rfl, ht, hd⟩ := hc.lead
    obtain ⟨u, us', rfl, hu1, hd2⟩ := Dts.uncons (d := .str l) hd
    obtain ⟨u2, rfl, hu2⟩ := hd2.one
    refine ⟨_, rfl, a, _, _, _, rfl, rfl, ht, at_of (j := 0) rfl rfl, rfl, _, rfl, iteYes ?_ ⟨_, rfl, a, _, _, _, rfl, rfl, ht, at_of (j := 2) rfl rfl, q _ _ hs (Same.refl H) hu2 (.inr ⟨l, rfl⟩)⟩⟩
    exact decide_eq_true rfl
end
end Sc
namespace Sc
open PySem PyProof.Rows L2
section
variable {P : Program} {w : World} {K : PySem.W.Frag} {mg : Str → Option Value} {base : Heap}
theorem scCut : FnScope ["_law_s", "_law_bounds_here", "_law_letter", "_law_heads", "_law_many", "_law_first"] ["_law_s", "_law_bounds_here"] (defScope sCut) := ⟨rfl, rfl, rfl, by decide +kernel, rfl, by decide +kernel, by decide +kernel⟩
theorem c_cut (T : Tx K mg) : Cal P w K mg base 3 "_law_cut" ["_law_s", "_law_bounds_here"] (spCut K) := by
  have CT : Cal P w K mg base 1 "_law_taken" ["_law_s", "_law_most"] (spTaken K) := c_taken T
  have CH : Cal P w K mg base 2 "_law_heads_of" ["_law_choice_here", "_law_bounds_here"] (spHeads K) := c_heads_of T
  refine T.cut.ok scCut (fun vs H Q E h => ?_) (fun f cdv A outer s H vs Q E hr h => ?_)
  · obtain ⟨s, b, i, bs, rfl, _⟩ := h
    rfl
  obtain ⟨s, b, i, bs, rfl, S, nbs, hB, okb, b0, b10, q⟩ := h
  have r1 : Room 1 _ := hr.mono (by decide)
  refine ⟨_, pss_cons (ps_set (i := 2) scCut.nd rfl (Or.inl rfl) (pe_ix ix_list (pe_callTy (call_listD rfl) (by rfl) T.m_list (by decide +kernel) (pa_cons (pv 1) pa_nil)) (pe_cal CT r1 (pa_cons (pv 0) (pa_cons (pe_callB call_lenD (by rfl) T.m_len PySem.boot_len (pa_cons (pv 1) pa_nil)) pa_nil))) (fun _ _ => rfl)))
    (pss_cons (ps_set (i := 3) scCut.nd rfl (Or.inl rfl) (pe_cal CH hr (pa_cons (pe_tup (pa_cons pe_str (pa_cons (pv 2) pa_nil))) (pa_cons (pv 1) pa_nil))))
    (pss_cons (ps_if (pt_cmpR op_lt (pe_callB call_len_seq (by rfl) T.m_len PySem.boot_len (pa_cons (pv 3) pa_nil)) pe_int (nomark _)) (pss_one (ps_ret (pe_tup (pa_cons pe_str (pa_cons (pv 2) pa_nil))))) pss_nil)
    (pss_cons (ps_set (i := 4) scCut.nd rfl (Or.inl rfl) (pe_op op_add pe_int (pe_cal CT r1 (pa_cons (pv 0) (pa_cons (pe_op op_sub (pe_callB call_len_seq (by rfl) T.m_len PySem.boot_len (pa_cons (pv 3) pa_nil)) pe_int) pa_nil)))))
    (pss_cons (ps_set (i := 5) scCut.nd rfl (Or.inl rfl) (pe_cal CT r1 (pa_cons (pv 0) (pa_cons (pe_op op_add (pe_op op_sub (pe_callB call_len_seq (by rfl) T.m_len PySem.boot_len (pa_cons (pv 3) pa_nil)) (pv 4)) pe_int) pa_nil))))
    (pss_one (ps_ret (pe_tup (pa_cons pe_str (pa_cons (pv 2) (pa_cons (pe_slice sl_tup (pv 3) (po_some (pv 5)) (po_some (pe_op op_add (pv 5) (pv 4)))) pa_nil)))))))))), ?_⟩
  obtain ⟨kvs, hb1, hl1, hnd, hk1⟩ := id hB
  have bl : 0 < bs.length := List.length_pos_iff.mpr b0
  refine ⟨_, rfl, b, _, rfl, .inl hb1, fun L hL => ?_⟩
  rw [zipK_keys hl1]
  have e1 := same_new hL (.lst (bs.map fun q => V.str q.1))
  have hL1 : (upd H L (.lst (bs.map fun q => V.str q.1))) L = _ := upd_same
  have S1 := S.same e1
  have hB1 := hB.same e1
  generalize upd H L (.lst (bs.map fun q => V.str q.1)) = H1 at e1 hL1 S1 hB1 ⊢
  have nLs : L ≠ s := by
    intro z
    obtain ⟨kvs, hk⟩ := S.dk
    rw [z, hk] at hL
    cases hL
  refine ⟨_, rfl, _, rfl, b, _, rfl, e1 _ _ hb1, s, i, bs.length, ?_, S1, by omega, ?_, fun r H2 r0 r1' x2 S2 => ?_⟩
  · rw [zipK_len hl1]; rfl
  · exact Nat.lt_of_le_of_lt (show ((bs.length : Nat) : Int).natAbs ≤ 100 by omega) (by decide)
  have lt : r.toNat < bs.length := by omega
  refine ⟨L, _, r, .str bs[r.toNat].1, rfl, rfl, SqL.of (x2 _ _ nLs hL1), at_of (j := r.toNat) (by omega) (by rw [List.getElem?_map, List.getElem?_eq_getElem lt]; rfl), ?_⟩
  have mem : bs[r.toNat] ∈ bs := List.getElem_mem lt
  generalize bs[r.toNat] = p at mem ⊢
  obtain ⟨l, k⟩ := p
  have hB2 := hB1.ext S1 x2 nbs
  refine ⟨_, rfl, (by show 2 ≤ sizeLine; decide), fun t ht => ⟨_, rfl, _, b, .letter l, bs, rfl, ?_, hB2.same (same_new ht _), okb, .inl ⟨l, k, rfl, mem⟩, fun v H3 ys e3 dv hR => ?_⟩⟩
  · exact ((Dts.nil.cons (.str _)).cons (.str _)).tup (SqT.of upd_same)
  obtain ⟨so, nd, few, hm⟩ : Hs k ys := by
    rcases hR with ⟨l', k', e, hm', hh⟩ | ⟨l', e⟩
    · cases e
      have e2 : k' = k := by
        obtain ⟨j1, h1⟩ := List.getElem?_of_mem hm'
        obtain ⟨j2, h2⟩ := List.getElem?_of_mem mem
        have nd1 : j1 = j2 := nd_ix hnd (x := l) (by rw [List.getElem?_map, h1]; rfl) (by rw [List.getElem?_map, h2]; rfl)
        subst nd1
        rw [h1] at h2
        injection h2 with h2
        injection h2
      exact e2 ▸ hh
    · cases e
  obtain ⟨_, k0, k3, okk⟩ := okb _ mem
  have k3' : k.length ≤ 3 := k3
  have e23 : Same H2 H3 := (same_new ht _).trans e3
  have S3 := S2.same e23
  have x03 : Ext s H H3 := (Ext.same e1).trans (x2.trans (Ext.same e23))
  obtain ⟨ya, yvs, rfl, hyt, hyd⟩ := dv.open
  rw [hyd.strs] at hyt
  have yl : (ys.map V.str).length = ys.length := List.length_map _
  refine ⟨_, rfl, ya, _, rfl, .inr hyt, _, _, rfl, rfl, _, rfl, ite2 (fun _ => ?_) (fun c2 => ?_)⟩
  · refine ⟨_, rfl, (by show 2 ≤ sizeLine; decide), fun t2 ht2 => ?_⟩
    exact q _ _ (.letter l) (x03.trans (Ext.new _ ht2)) (S3.same (same_new ht2 _)) (((Dts.nil.cons (.str _)).cons (.str _)).tup (SqT.of upd_same)) ⟨l, k, mem, .inl rfl⟩
  have two : 2 ≤ ys.length := by
    have z : ¬ (((ys.map V.str).length : Nat) : Int) < 2 := of_decide_eq_false (Bool.eq_false_iff.mpr c2)
    rw [yl] at z
    omega
  refine ⟨_, rfl, _, rfl, ya, _, rfl, .inr hyt, _, _, rfl, rfl, s, i, _, rfl, S3, by rw [yl]; omega, ?_, fun r2 H4 a2 b2 x4 S4 => ⟨_, _, rfl, rfl, ?_⟩⟩
  · rw [yl]
    exact Nat.lt_of_le_of_lt (show (((ys.length : Nat) : Int) - 1).natAbs ≤ 100 by omega) (by decide)
  rw [yl] at b2
  have hyt4 : SqT K H4 ya (ys.map V.str) := (S3.keep x4) _ _ hyt
  refine ⟨_, rfl, _, rfl, ya, _, rfl, .inr hyt4, _, rfl, _, _, rfl, rfl, _, _, rfl, rfl, s, i, _, rfl, S4, by rw [yl]; omega, ?_, fun r3 H5 a3 b3 x5 S5 => ?_⟩
  · rw [yl]
    exact Nat.lt_of_le_of_lt (show (((ys.length : Nat) : Int) - (1 + r2) + 1).natAbs ≤ 100 by omega) (by decide)
  rw [yl] at b3
  have hyt5 : SqT K H5 ya (ys.map V.str) := (S4.keep x5) _ _ hyt4
  have s1 : HT.sIx (ys.map V.str).length 0 (some r3) = r3.toNat := by
    rw [show (some r3 : Option Int) = some ((r3.toNat : Nat) : Int) from congrArg some (by omega), HT.sIx_nat, yl]
    exact Nat.min_eq_left (by omega)
  have s2 : HT.sIx (ys.map V.str).length (ys.map V.str).length (some (r3 + (1 + r2))) = r3.toNat + (1 + r2).toNat := by
    rw [show (some (r3 + (1 + r2)) : Option Int) = some (((r3.toNat + (1 + r2).toNat : Nat)) : Int) from congrArg some (by omega), HT.sIx_nat, yl]
    exact Nat.min_eq_left (by omega)
  have cv : cutV (ys.map V.str) (some r3) (some (r3 + (1 + r2))) = (((ys.drop r3.toNat).take (1 + r2).toNat).map V.str) := by
    unfold cutV
    rw [s1, s2, Nat.add_sub_cancel_left, List.map_take, List.map_drop]
  refine ⟨_, rfl, _, rfl, _, rfl, _, rfl, _, rfl, _, rfl, _, _, rfl, rfl, _, rfl, ya, _, rfl, hyt5, ?_, fun p hp => ⟨(by show 3 ≤ sizeLine; decide), fun t2 ht2 => ?_⟩⟩
  · rw [s1, s2, yl]
    omega
  rw [cv] at ht2 ⊢
  have e6 := same_new hp (.tup (((ys.drop r3.toNat).take (1 + r2).toNat).map V.str))
  refine q _ _ (.cut l ((ys.drop r3.toNat).take (1 + r2).toNat)) (x03.trans (x4.trans (x5.trans (Ext.same (e6.trans (same_new ht2 _)))))) (S5.same (e6.trans (same_new ht2 _))) ?_ ⟨l, k, mem, .inr ⟨ys, r3.toNat, (1 + r2).toNat, rfl, ⟨so, nd, few, hm⟩, by omega, by omega, by omega⟩⟩
  exact (((Dts.nil.cons ((strs_dts _).tup (SqT.of ((same_new ht2 _) _ _ upd_same)))).cons (.str _)).cons (.str _)).tup (SqT.of upd_same)
theorem scAnyKind : FnScope ["_law_s", "_law_deep", "_law_bounds_here", "_law_kind_here"] ["_law_s", "_law_deep", "_law_bounds_here"] (defScope sAnyKind) := ⟨rfl, rfl, rfl, by decide +kernel, rfl, by decide +kernel, by decide +kernel⟩
theorem c_any_kind (T : Tx K mg) (n : Nat) : Cal P w K mg base (3 * n + 4) "_law_any_kind" ["_law_s", "_law_deep", "_law_bounds_here"] (spAnyKind K n) := by
  have CT : Cal P w K mg base 1 "_law_taken" ["_law_s", "_law_most"] (spTaken K) := c_taken T
  have CC : Cal P w K mg base 3 "_law_cut" ["_law_s", "_law_bounds_here"] (spCut K) := c_cut T
  have CK : Cal P w K mg base (3 * n + 1) "_law_kind" ["_law_s", "_law_deep", "_law_letters"] (spKind K n) := c_kinds T n
  refine T.any_kind.ok scAnyKind (k := 3 * n + 3) (fun vs H Q E h => ?_) (fun f cdv A outer s H vs Q E hr h => ?_)
  · obtain ⟨s, b, i, d, bs, rfl, _⟩ := h
    rfl
  obtain ⟨s, b, i, d, bs, rfl, S, dn, nbs, hB, okb, b10, q⟩ := h
  have r1 : Room 1 _ := hr.mono (by omega)
  have r3 : Room 3 _ := hr.mono (by omega)
  have rk : Room (3 * n + 1) _ := hr.mono (by omega)
  refine ⟨_, pss_cons (ps_set (i := 3) scAnyKind.nd rfl (Or.inl rfl) (pe_cal CK rk (pa_cons (pv 0) (pa_cons (pv 1) (pa_cons (pe_callTy (call_listD rfl) (by rfl) T.m_list (by decide +kernel) (pa_cons (pv 2) pa_nil)) pa_nil)))))
    (pss_cons (ps_if (PW.pt (pw_and (pt_cmpR op_gt (pe_callB call_lenD (by rfl) T.m_len PySem.boot_len (pa_cons (pv 2) pa_nil)) pe_int (nomark _)) (pw_and1 (pt_cmpR op_eq (pe_cal CT r1 (pa_cons (pv 0) (pa_cons pe_int pa_nil))) pe_int (nomark _)))))
      (pss_one (ps_set (i := 3) scAnyKind.nd rfl (Or.inl rfl) (pe_op op_catT (pv 3) (pe_tup (pa_cons (pe_cal CC r3 (pa_cons (pv 0) (pa_cons (pv 2) pa_nil))) pa_nil))))) pss_nil)
    (pss_one (ps_ret (pv 3)))), ?_⟩
  obtain ⟨kvs, hb1, hl1, hnd, hk1⟩ := id hB
  refine ⟨_, rfl, _, rfl, _, rfl, b, _, rfl, .inl hb1, fun L hL => ?_⟩
  rw [zipK_keys hl1]
  have e1 := same_new hL (.lst (bs.map fun q => V.str q.1))
  refine ⟨s, L, i, d, bs.map (·.1), rfl, S.same e1, dn, SqL.of (by rw [List.map_map]; exact upd_same), by rw [List.length_map]; omega, fun v H2 k x2 S2 dk k0 k3 okk => ?_⟩
  have x02 : Ext s H H2 := (Ext.same e1).trans x2
  have hB2 := hB.ext S x02 nbs
  obtain ⟨kvs2, hb2, hl2, _, _⟩ := id hB2
  refine ⟨_, rfl, b, _, rfl, hb2, _, _, rfl, rfl, _, rfl, ite2 (fun c1 => ?_) (fun c1 => ?_)⟩
  rotate_left
  · exact iteF ⟨_, rfl, q _ _ k x02 S2 dk ⟨k, [], by simp, okk, k0, k3, .inl rfl⟩⟩
  have bpos : bs ≠ [] := fun z => by
    have h : (((zipK bs kvs2).length : Nat) : Int) > 0 := of_decide_eq_true c1
    rw [zipK_len hl2, z] at h
    exact absurd h (by decide)
  refine ⟨_, rfl, s, i, 2, rfl, S2, by decide, by decide, fun r H3 _ _ x3 S3 => ⟨rfl, _, rfl, ite2 (fun _ => ?_) (fun _ => ⟨_, rfl, q _ _ k (x02.trans x3) S3 ((S2.keep x3).dt dk) ⟨k, [], by simp, okk, k0, k3, .inl rfl⟩⟩)⟩⟩
  obtain ⟨ka, kvs3, rfl, hkt, hkd⟩ := dk.open
  refine ⟨_, rfl, _, rfl, _, rfl, s, b, i, bs, rfl, S3, nbs, hB2.ext S2 x3 nbs, okb, bpos, b10, fun cv H4 c x4 S4 dc ok => ⟨(by show 1 ≤ sizeLine; decide), fun t ht => ?_⟩⟩
  have e5 := same_new ht (.tup [cv])
  have kl : kvs3.length = k.length := by rw [hkd.1, pyL_map, List.length_map]
  have kp : Keep K H2 (upd H4 t (.tup [cv])) := ((S2.keep x3).trans (S3.keep x4)).trans (Same.keep e5)
  refine ⟨ka, t, kvs3, [cv], rfl, rfl, kp _ _ hkt, SqT.of upd_same, fun z => ?_, sizeOk (by rw [kl]; show _ + 1 ≤ _; omega), (fun z => by cases z), fun _ p hp => ⟨_, rfl, ?_⟩⟩
  · rw [z] at kl
    exact k0 (List.length_eq_zero_iff.mp kl.symm)
  have e6 := same_new hp (.tup (kvs3 ++ [cv]))
  refine q _ _ (k ++ [c]) (x02.trans (x3.trans (x4.trans (Ext.same (e5.trans e6))))) (S4.same (e5.trans e6)) ?_ ⟨k, [c], rfl, okk, k0, k3, .inr ⟨c, rfl, ok⟩⟩
  refine Dts.tup (vs := kvs3 ++ [cv]) ?_ (SqT.of upd_same)
  rw [pyL_map, List.map_append, ← pyL_map]
  exact ((kp.trans (Same.keep e6)).dts hkd).snoc ((Same.keep (e5.trans e6)).dt dc)
end
end Sc
namespace Sc
open PySem PyProof.Rows L2
section
variable {P : Program} {w : World} {K : PySem.W.Frag} {mg : Str → Option Value} {base : Heap}
theorem scLDue : FnScope ["_law_s", "_law_some"] ["_law_s"] (defScope sLDue) := ⟨rfl, rfl, rfl, by decide +kernel, rfl, by decide +kernel, by decide +kernel⟩
theorem c_l_due (T : Tx K mg) : Cal P w K mg base 2 "_law_due" ["_law_s"] (spDue K) := by
  have CT : Cal P w K mg base 1 "_law_taken" ["_law_s", "_law_most"] (spTaken K) := c_taken T
  have CW : Cal P w K mg base 1 "_law_word" ["_law_s", "_law_k"] (spWord K) := c_word T
  refine T.l_due.ok scLDue (fun vs H Q E h => ?_) (fun f cdv A outer s H vs Q E hr h => ?_)
  · obtain ⟨s, i, rfl, _⟩ := h
    rfl
  obtain ⟨s, i, rfl, S, q⟩ := h
  refine ⟨_, pss_cons (ps_set (i := 1) scLDue.nd rfl (Or.inl rfl) (pe_lst (pa_cons (pe_tup (pa_cons pe_str (pa_cons pe_str pa_nil))) (pa_cons (pe_tup (pa_cons pe_str (pa_cons pe_str pa_nil)))
      (pa_cons (pe_tup (pa_cons pe_str (pa_cons (pe_cal CW hr (pa_cons (pv 0) (pa_cons (pe_cal CT hr (pa_cons (pv 0) (pa_cons pe_int pa_nil))) pa_nil))) pa_nil))) pa_nil)))))
    (pss_one (ps_ret (pe_ix ix_list (pv 1) (pe_cal CT hr (pa_cons (pv 0) (pa_cons pe_int pa_nil))) (fun _ _ => rfl)))), ?_⟩
  refine ⟨(by show 2 ≤ sizeLine; decide), fun p1 hp1 => ⟨(by show 2 ≤ sizeLine; decide), fun p2 hp2 => ?_⟩⟩
  have e1 := same_new hp1 (.tup [.str "some", .str "row"])
  have e2 := same_new hp2 (.tup [.str "some", .str "book"])
  have g1 : (upd (upd H p1 (.tup [.str "some", .str "row"])) p2 (.tup [.str "some", .str "book"])) p1 = some (.tup [.str "some", .str "row"]) := e2 _ _ upd_same
  have g2 : (upd (upd H p1 (.tup [.str "some", .str "row"])) p2 (.tup [.str "some", .str "book"])) p2 = some (.tup [.str "some", .str "book"]) := upd_same
  have e12 := e1.trans e2
  generalize (upd (upd H p1 (.tup [.str "some", .str "row"])) p2 (.tup [.str "some", .str "book"])) = H2 at e12 g1 g2 ⊢
  have S2 := S.same e12
  obtain ⟨_, _, _, _, _, iok, _⟩ := id S
  refine ⟨_, rfl, _, rfl, s, i, 3, rfl, S2, by decide, by decide, fun r H3 r0 r3 x3 S3 => ⟨s, i, r, rfl, S3, r0, fun H4 e4 => ⟨(by show 2 ≤ sizeLine; decide), fun p3 hp3 => ⟨(by show 3 ≤ sizeLine; decide), fun L hL => ?_⟩⟩⟩⟩
  have hz := word_of iok r0
  generalize wordOf i r = z at hp3 hL hz ⊢
  have e5 := same_new hp3 (.tup [.str "with", .str z])
  have e6 := same_new hL (.lst [.ref p1, .ref p2, .ref p3])
  have e46 : Same H3 (upd (upd H4 p3 (.tup [.str "with", .str z])) L (.lst [.ref p1, .ref p2, .ref p3])) := e4.trans (e5.trans e6)
  have n1 : p1 ≠ s := S.ne hp1
  have n2 : p2 ≠ s := (S.same e1).ne hp2
  have g1' := e46 _ _ (x3 _ _ n1 g1)
  have g2' := e46 _ _ (x3 _ _ n2 g2)
  have g3' : (upd (upd H4 p3 (.tup [.str "with", .str z])) L (.lst [.ref p1, .ref p2, .ref p3])) p3 = some (.tup [.str "with", .str z]) := e6 _ _ upd_same
  have gL : (upd (upd H4 p3 (.tup [.str "with", .str z])) L (.lst [.ref p1, .ref p2, .ref p3])) L = _ := upd_same
  have S6 := S3.same e46
  have x6 : Ext s H (upd (upd H4 p3 (.tup [.str "with", .str z])) L (.lst [.ref p1, .ref p2, .ref p3])) := (Ext.same e12).trans (x3.trans (Ext.same e46))
  generalize (upd (upd H4 p3 (.tup [.str "with", .str z])) L (.lst [.ref p1, .ref p2, .ref p3])) = H6 at g1' g2' g3' gL S6 x6 ⊢
  refine ⟨_, rfl, _, rfl, s, i, 3, rfl, S6, by decide, by decide, fun m H7 m0 m3 x7 S7 => ?_⟩
  have nL : L ≠ s := fun y => by
    obtain ⟨kvs, hk⟩ := S6.dk
    rw [y, hk] at gL
    cases gL
  have k7 : Keep K H6 H7 := S6.keep x7
  have h012 : m = 0 ∨ m = 1 ∨ m = 2 := by omega
  rcases h012 with rfl | rfl | rfl
  · exact ⟨L, _, 0, _, rfl, rfl, SqL.of (x7 _ _ nL gL), at_of (j := 0) rfl rfl, q _ _ (.any "row") (x6.trans x7) S7 (((Dts.nil.cons (.str _)).cons (.str _)).tup (k7 _ _ (SqT.of g1'))) (.inl rfl)⟩
  · exact ⟨L, _, 1, _, rfl, rfl, SqL.of (x7 _ _ nL gL), at_of (j := 1) rfl rfl, q _ _ (.any "book") (x6.trans x7) S7 (((Dts.nil.cons (.str _)).cons (.str _)).tup (k7 _ _ (SqT.of g2'))) (.inr (.inl rfl))⟩
  · exact ⟨L, _, 2, _, rfl, rfl, SqL.of (x7 _ _ nL gL), at_of (j := 2) rfl rfl, q _ _ (.wth z) (x6.trans x7) S7 (((Dts.nil.cons (.str _)).cons (.str _)).tup (k7 _ _ (SqT.of g3'))) (.inr (.inr ⟨z, rfl, hz⟩))⟩
end
end Sc
namespace Sc
open PySem PyProof.Rows L2
section
variable {P : Program} {w : World} {K : PySem.W.Frag} {mg : Str → Option Value} {base : Heap}
def spLaw (K : PySem.W.Frag) : Sp := fun vs H Q _ => ∃ (a : Addr) (ns : List Int), vs = [.ref a] ∧ SqL K H a (ns.map V.int) ∧ ns.length ≤ 63 ∧ ∀ H', Q (.bl true) H'
theorem scLaw : FnScope ["_law_script", "_law_s", "_law_bounds_here", "_law_kind_here", "_law_found"] ["_law_script"] (defScope sLaw) := ⟨rfl, rfl, rfl, by decide +kernel, rfl, by decide +kernel, by decide +kernel⟩
theorem ok_law {f : Addr} {fd : FuncData} (F : Fun K "law" "law" sLaw f fd) (T : Tx K mg) : FnOk P w K mg base CX0 14 f fd ["_law_script"] (spLaw K) := by
  have CB : Cal P w K mg base 2 "_law_begun" ["_law_script"] (spBegun K) := c_begun T
  have CT : Cal P w K mg base 1 "_law_taken" ["_law_s", "_law_most"] (spTaken K) := c_taken T
  have CO : Cal P w K mg base 8 "_law_bounds" ["_law_s", "_law_most"] (spBounds K) := c_bounds T
  have CA : Cal P w K mg base 13 "_law_any_kind" ["_law_s", "_law_deep", "_law_bounds_here"] (spAnyKind K 3) := c_any_kind T 3
  have CD : Cal P w K mg base 2 "_law_due" ["_law_s"] (spDue K) := c_l_due T
  have CS : Cal P w K mg base 7 "shown_kind" ["kind"] (spTellK K 3) := (c_shown T 3).2
  have CL : Cal P w K mg base 7 "_law_told" ["_law_kind_here"] (spTellK K 3) := (c_tells T 3).2
  refine F.ok scLaw (fun vs H Q E h => ?_) (fun cdv A outer s0 H vs Q E hr h => ?_)
  · obtain ⟨a, ns, rfl, _⟩ := h
    rfl
  obtain ⟨a, ns, rfl, ha, hl, q⟩ := h
  have r1 : Room 1 _ := hr.mono (by decide)
  have r2 : Room 2 _ := hr.mono (by decide)
  have r7 : Room 7 _ := hr.mono (by decide)
  have r8 : Room 8 _ := hr.mono (by decide)
  refine ⟨_, pss_cons (ps_set (i := 1) scLaw.nd rfl (Or.inl rfl) (pe_cal CB r2 (pa_cons (pv 0) pa_nil)))
    (pss_cons (ps_set (i := 2) scLaw.nd rfl (Or.inl rfl) (pe_cal CO r8 (pa_cons (pv 1) (pa_cons pe_int pa_nil))))
    (pss_cons (ps_set (i := 3) scLaw.nd rfl (Or.inl rfl) (pe_cal CA hr (pa_cons (pv 1) (pa_cons pe_int (pa_cons (pv 2) pa_nil)))))
    (pss_cons (ps_if (pt_cmpR op_eq (pe_cal CT r1 (pa_cons (pv 1) (pa_cons pe_int pa_nil))) pe_int (nomark _))
      (pss_one (ps_set (i := 3) scLaw.nd rfl (Or.inl rfl) (pe_op op_catT (pv 3) (pe_tup (pa_cons (pe_cal CD r2 (pa_cons (pv 1) pa_nil)) pa_nil))))) pss_nil)
    (pss_cons (ps_set (i := 4) scLaw.nd rfl (Or.inl rfl) (pe_cal CS r7 (pa_cons (pv 3) pa_nil)))
    (pss_one (ps_ret (pe_and (pe_callB call_isi (by rfl) T.m_isinstance boot_isinstance (pa_cons (pv 4) (pa_cons (pe_bltn (v := .ty "str") (by rfl) T.m_str boot_str rfl) pa_nil))) (pe_one (pe_cmpR op_eq (pv 4) (pe_cal CL r7 (pa_cons (pv 3) pa_nil)) (nomark _)))))))))), ?_⟩
  refine ⟨_, rfl, a, ns, rfl, ha, hl, fun s i H1 e1 hs ic io hf0 hf1 S1 => ?_⟩
  refine ⟨_, rfl, s, i, 2, rfl, S1, by decide, fun b H2 bs x2 S2 hb hB okb b2 => ?_⟩
  have nbs : b ≠ s := S1.ne hb
  refine ⟨_, rfl, _, rfl, s, b, i, 2, bs, rfl, S2, by decide, nbs, hB, okb, by omega, fun v H3 k x3 S3 dk okk => ?_⟩
  obtain ⟨g1, g2, g3, g4⟩ := any_len okb okk
  dsimp only [gName]
  refine seq_with (fun R => ∀ (v : V) (H4 : Hp) (k : List Ch), IsK K H4 v k → dL k < 3 → (txK k).length ≤ 1000000 → R [some (.ref a), some (.ref s), some (.ref b), some v, none] H4) ?_ ?_
  · intro v H4 k hk dk lk
    refine ⟨_, rfl, v, k, rfl, hk, dk, lk, fun H5 e5 => ?_⟩
    refine ⟨_, rfl, _, _, _, _, true, rfl, .ty _, .base (.str _), kit_ty (by decide +kernel), _, rfl, iteT ⟨_, rfl, _, rfl, v, k, rfl, (Same.keep e5).dt hk, dk, lk, fun H6 e6 => ⟨rfl, ?_⟩⟩⟩
    show Q (.bl (decide (V.str (txK k) = V.str (txK k)))) H6
    rw [decide_eq_true rfl]
    exact q H6
  · intro rest
    have lim : ∀ (k : List Ch), (∀ p ∈ cL k, p.length ≤ wid 2 + 2000) → k.length ≤ 5 → (txK k).length ≤ 1000000 := fun k h h5 => by
      unfold txK
      rw [tx_len]
      exact Nat.le_trans (kind_len h h5) (by decide)
    refine ⟨_, rfl, s, i, 2, rfl, S3, by decide, by decide, fun r H4 _ _ x4 S4 => ⟨rfl, _, rfl, ite2 (fun _ => ?_) (fun _ => rest v H4 k ((S3.keep x4).dt dk) (by omega) (lim k g1 (by omega)))⟩⟩
    obtain ⟨ka, kvs, rfl, hkt, hkd⟩ := dk.open
    refine ⟨_, rfl, _, rfl, s, i, rfl, S4, fun cv H5 c x5 S5 dc form => ⟨(by show 1 ≤ sizeLine; decide), fun t ht => ?_⟩⟩
    have e6 := same_new ht (.tup [cv])
    have kl : kvs.length = k.length := by rw [hkd.1, pyL_map, List.length_map]
    have kp : Keep K H3 (upd H5 t (.tup [cv])) := ((S3.keep x4).trans (S4.keep x5)).trans (Same.keep e6)
    refine ⟨ka, t, kvs, [cv], rfl, rfl, kp _ _ hkt, SqT.of upd_same, fun z => ?_, sizeOk (by rw [kl]; show _ + 1 ≤ _; omega), (fun z => by cases z), fun _ p hp => ?_⟩
    · rw [z] at kl
      exact g4 (List.length_eq_zero_iff.mp kl.symm)
    have e7 := same_new hp (.tup (kvs ++ [cv]))
    have cl : (cC c).length ≤ 20 ∧ dC c = 0 := by
      rcases form with rfl | rfl | ⟨z, rfl, hz⟩
      · exact ⟨by decide, rfl⟩
      · exact ⟨by decide, rfl⟩
      · refine ⟨?_, rfl⟩
        have := hz.2.1
        show (TL.tl "with" ++ 32 :: TL.tl z).length ≤ 20
        rw [List.length_append, List.length_cons]
        show 4 + (z.cps.toList.length + 1) ≤ 20
        omega
    refine rest _ _ (k ++ [c]) ?_ ?_ (lim _ (fun p hp => ?_) ?_)
    · refine Dts.tup (vs := kvs ++ [cv]) ?_ (SqT.of upd_same)
      rw [pyL_map, List.map_append, ← pyL_map]
      exact ((kp.trans (Same.keep e7)).dts hkd).snoc ((Same.keep (e6.trans e7)).dt dc)
    · rw [dL_app]
      show max _ (max (dC c) 0) < 3
      omega
    · rw [cL_app] at hp
      rcases List.mem_append.mp hp with e | e
      · exact g1 p e
      · rw [List.mem_singleton.mp e]
        exact Nat.le_trans cl.1 (by decide)
    · rw [List.length_append]
      show _ + 1 ≤ 5
      omega
end
end Sc
namespace Sc
open PySem PyProof.Rows L2
/-! ### what the top has written -/
theorem Def.of {K : PySem.W.Frag} {h : Heap} {mg : Str → Option Value} (X : K.In h) (G : h.Ns mainGlobals mg) {x : Str} {st : Stmt} {ps : List Str} {f : Addr} {oc : Value} {od an : Option Addr} {osl : Array (Option Value)} {kV doc pm cdv ct : Value}
    (a : PySem.W.nsIn K mainGlobals x = some (some (.ref f))) (l : K.lookup f = some ⟨oc, od, .func (PySem.W.fnOf x x (defArgs st) (defBody st) (defScope st) .none kV doc pm an cdv ct), osl⟩) (c : PySem.W.codeIn K cdv x = true) (k : PySem.W.keepIn K (.ref f) = true)
    (b : ∀ (kV doc pm : Value) (an : Option Addr) (cdv ct : Value) (us : List Value), us.length = ps.length → bindArgs (PySem.W.fnOf x x (defArgs st) (defBody st) (defScope st) .none kV doc pm an cdv ct) ⟨us, []⟩ = pure (ps.zip us)) : Def K mg x st ps :=
  have F := fun_mk (st := st) l c k
  ⟨⟨f, _, F, PySem.W.mg_of X G a, F.binds b⟩⟩
theorem law_end {l : PySem.W.OpenLaw} {w : World} {K : PySem.W.Frag} {h : Heap} {mg : Str → Option Value} {fa f : Addr} (X : K.In h) (G : h.Ns mainGlobals mg) (hfa : mg "law" = some (.ref fa)) (T : Tx K mg) {oc : Value} {od an : Option Addr} {osl : Array (Option Value)} {kV doc pm cdv ct : Value}
    (a : PySem.W.nsIn K mainGlobals "law" = some (some (.ref f))) (lk : K.lookup f = some ⟨oc, od, .func (PySem.W.fnOf "law" "law" (defArgs sLaw) (defBody sLaw) (defScope sLaw) .none kV doc pm an cdv ct), osl⟩) (c : PySem.W.codeIn K cdv "law" = true) (k : PySem.W.keepIn K (.ref f) = true) :
    ∃ fd : FuncData, (∀ (s : Shared) (v : Value), BindsTo s fd ⟨[v], []⟩ [("_law_script", v)]) ∧ ∀ base : Heap, K.In base → base.Ns mainGlobals mg → FnOk l.prog w K mg base CX0 14 fa fd ["_law_script"] (spLaw K) := by
  have e := hfa.symm.trans (PySem.W.mg_of X G a)
  cases e
  exact ⟨_, fun s v => .of_eq rfl, fun base _ _ => ok_law (fun_mk (st := sLaw) lk c k) T⟩
theorem walk {l : PySem.W.OpenLaw} {q : Program} {loose : List Str} {XP : (Str → Option Value) → Heap → Prop} {YP : World → Heap → Prop} {d : DefRec} {K : Params → PySem.W.Frag} (hn : l.most = some 63) (hdf : d.params.defaults = [])
    (hY : ∀ (w : World) (h : Heap), YP w h → (K w.params).In h)
    (F : ∀ (w : World) (mg : Str → Option Value) (fa : Addr) (h : Heap), (K w.params).In h → h.Ns mainGlobals mg → mg d.name = some (.ref fa) →
      ∃ fd : FuncData, (∀ (s : Shared) (u : Value), BindsTo s fd ⟨[u], []⟩ [("_law_script", u)]) ∧ ∀ base : Heap, (K w.params).In base → base.Ns mainGlobals mg → FnOk l.prog w (K w.params) mg base CX0 14 fa fd ["_law_script"] (spLaw (K w.params))) :
    PySem.W.WalkO q loose XP YP l.row.toRowW d [] (fun f vs => PySem.call f vs) :=
  L2.walk_of (n := 63) (k := 14) (x := "_law_script") (CX := fun _ => CX0) (sp := fun w => spLaw (K w.params)) hn (by decide) hdf ⟨rfl, by decide, by decide⟩ hY F (fun _ _ a ns hl _ hS => ⟨a, ns, rfl, hS, hl, fun _ => rfl⟩) fun _ _ _ _ _ z => z
end Sc
open PySem PySem.W PyProof.Rows
set_option maxRecDepth 100000 in
set_option maxHeartbeats 0 in
theorem PySem.Challenge.cw_soothcheck_k04_texts_of_kinds_holds : PySem.Challenge.rw_soothcheck_k04_texts_of_kinds.Holds := by
  w_on; o_law; k_head; (case hw => w_witness2)
  k_fill
  refine Sc.walk (l := PySem.Challenge.rw_soothcheck_k04_texts_of_kinds) rfl rfl (fun w h Y => PySem.W.kIn_of Y) ?F
  case F =>
    intro w mg fa h KX G hmg
    refine' Sc.law_end KX G hmg ⟨Sc.Def.of KX G ?a0 ?l0 ?c0 ?k0 ?b0, Sc.Def.of KX G ?a1 ?l1 ?c1 ?k1 ?b1, Sc.Def.of KX G ?a2 ?l2 ?c2 ?k2 ?b2, Sc.Def.of KX G ?a3 ?l3 ?c3 ?k3 ?b3, Sc.Def.of KX G ?a4 ?l4 ?c4 ?k4 ?b4, Sc.Def.of KX G ?a5 ?l5 ?c5 ?k5 ?b5, 
      Sc.Def.of KX G ?a6 ?l6 ?c6 ?k6 ?b6, Sc.Def.of KX G ?a7 ?l7 ?c7 ?k7 ?b7, Sc.Def.of KX G ?a8 ?l8 ?c8 ?k8 ?b8, Sc.Def.of KX G ?a9 ?l9 ?c9 ?k9 ?b9, Sc.Def.of KX G ?a10 ?l10 ?c10 ?k10 ?b10, 
      Sc.Def.of KX G ?a11 ?l11 ?c11 ?k11 ?b11, Sc.Def.of KX G ?a12 ?l12 ?c12 ?k12 ?b12, Sc.Def.of KX G ?a13 ?l13 ?c13 ?k13 ?b13, Sc.Def.of KX G ?a14 ?l14 ?c14 ?k14 ?b14, Sc.Def.of KX G ?a15 ?l15 ?c15 ?k15 ?b15, 
      PySem.W.mg_none_of KX G ?z0, PySem.W.mg_none_of KX G ?z1, PySem.W.mg_none_of KX G ?z2, PySem.W.mg_none_of KX G ?z3, PySem.W.mg_none_of KX G ?z4, PySem.W.mg_none_of KX G ?z5, PySem.W.mg_none_of KX G ?z6, 
      PySem.W.mg_none_of KX G ?z7, PySem.W.mg_none_of KX G ?z8, PySem.W.mg_none_of KX G ?z9, PySem.W.mg_none_of KX G ?z10⟩ ?a ?l ?c ?k
    (case b0 => exact fun _ _ _ _ _ _ us hl => match us, hl with | [_], _ => rfl)
    (case b1 => exact fun _ _ _ _ _ _ us hl => match us, hl with | [_], _ => rfl)
    (case b2 => exact fun _ _ _ _ _ _ us hl => match us, hl with | [_], _ => rfl)
    (case b3 => exact fun _ _ _ _ _ _ us hl => match us, hl with | [_, _], _ => rfl)
    (case b4 => exact fun _ _ _ _ _ _ us hl => match us, hl with | [_, _], _ => rfl)
    (case b5 => exact fun _ _ _ _ _ _ us hl => match us, hl with | [_, _, _], _ => rfl)
    (case b6 => exact fun _ _ _ _ _ _ us hl => match us, hl with | [_, _, _], _ => rfl)
    (case b7 => exact fun _ _ _ _ _ _ us hl => match us, hl with | [_, _, _], _ => rfl)
    (case b8 => exact fun _ _ _ _ _ _ us hl => match us, hl with | [_, _], _ => rfl)
    (case b9 => exact fun _ _ _ _ _ _ us hl => match us, hl with | [_], _ => rfl)
    (case b10 => exact fun _ _ _ _ _ _ us hl => match us, hl with | [_, _], _ => rfl)
    (case b11 => exact fun _ _ _ _ _ _ us hl => match us, hl with | [_], _ => rfl)
    (case b12 => exact fun _ _ _ _ _ _ us hl => match us, hl with | [_], _ => rfl)
    (case b13 => exact fun _ _ _ _ _ _ us hl => match us, hl with | [_, _], _ => rfl)
    (case b14 => exact fun _ _ _ _ _ _ us hl => match us, hl with | [_, _, _], _ => rfl)
    (case b15 => exact fun _ _ _ _ _ _ us hl => match us, hl with | [_], _ => rfl)
    (case a0 => k_is); (case l0 => k_is); (case c0 => k_is); (case k0 => k_is)
    (case a1 => k_is); (case l1 => k_is); (case c1 => k_is); (case k1 => k_is)
    (case a2 => k_is); (case l2 => k_is); (case c2 => k_is); (case k2 => k_is)
    (case a3 => k_is); (case l3 => k_is); (case c3 => k_is); (case k3 => k_is)
    (case a4 => k_is); (case l4 => k_is); (case c4 => k_is); (case k4 => k_is)
    (case a5 => k_is); (case l5 => k_is); (case c5 => k_is); (case k5 => k_is)
    (case a6 => k_is); (case l6 => k_is); (case c6 => k_is); (case k6 => k_is)
    (case a7 => k_is); (case l7 => k_is); (case c7 => k_is); (case k7 => k_is)
    (case a8 => k_is); (case l8 => k_is); (case c8 => k_is); (case k8 => k_is)
    (case a9 => k_is); (case l9 => k_is); (case c9 => k_is); (case k9 => k_is)
    (case a10 => k_is); (case l10 => k_is); (case c10 => k_is); (case k10 => k_is)
    (case a11 => k_is); (case l11 => k_is); (case c11 => k_is); (case k11 => k_is)
    (case a12 => k_is); (case l12 => k_is); (case c12 => k_is); (case k12 => k_is)
    (case a13 => k_is); (case l13 => k_is); (case c13 => k_is); (case k13 => k_is)
    (case a14 => k_is); (case l14 => k_is); (case c14 => k_is); (case k14 => k_is)
    (case a15 => k_is); (case l15 => k_is); (case c15 => k_is); (case k15 => k_is)
    (case z0 => k_is)
    (case z1 => k_is)
    (case z2 => k_is)
    (case z3 => k_is)
    (case z4 => k_is)
    (case z5 => k_is)
    (case z6 => k_is)
    (case z7 => k_is)
    (case z8 => k_is)
    (case z9 => k_is)
    (case z10 => k_is)
    (case a => k_is); (case l => k_is); (case c => k_is); (case k => k_is)
