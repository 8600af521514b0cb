import PyProof.Rows.All
import Wide.All
import OpenK.AllK
import Wide.FinOn
import HandS.ForMost
import HandS.Set
import HandS.SetFor
import HandS.More
import HandS.Wide
import HandS.IsInst
import HandS.WordsDict
import HandS.FStr
import HandS.TupAny
import HandS.AnyAll
import HandS.ForExc
import HandS.WordsExc
import HandS.ExcIs
import HandS.RaiseMore
import HandS.ExcOwn
import PyProof.ExcBaseAll.ValueError
import HandS.TupLe
import HandS.EndTab
import PySem.Challenge.RW_soothcheck_k10_kinds_that_are_none
set_option Elab.async false
set_option linter.all false
set_option maxRecDepth 100000
set_option maxHeartbeats 4000000
namespace Sc
open PySem PySem.Spec PyProof.Rows L2
/-! sets of texts: set(a list of texts), sorted of that -/
def txOf (c : Int × Value) : Str := match c.2 with | .str x _ => x | _ => Str.empty
def TxE (w : World) (c : Int × Value) : Prop := ∃ x tk, c.2 = Value.str x tk ∧ c.1 = hashStr w x
/-- a set of texts stands at a: which, how many; it can be walked -/
def TxSet (w : World) (h : Heap) (a : Addr) (S : Str → Bool) (n : Nat) : Prop :=
  ∃ ob cs ver tb, h.get? a = some ob ∧ ob.ExactSet ∧ ob.data = .set cs ver tb ∧ (∀ c ∈ cs.toList, TxE w c) ∧ (cs.toList.map txOf).Nodup ∧
    (∀ x, S x = true ↔ x ∈ cs.toList.map txOf) ∧ cs.size < scanBound ∧ tb.fits cs.size = true ∧ cs.size = n ∧ Ris tb.place.toList ∧
    (w.params.followText "set-order" = true ∨ tb.led = true)
section
variable {P : Program} {w : World} {h h' : Heap} {a : Addr} {S : Str → Bool} {n : Nat}
theorem TxSet.keep (R : TxSet w h a S n) (kp : ∀ ob, h.get? a = some ob → h'.get? a = some ob) : TxSet w h' a S n := by
  obtain ⟨ob, cs, ver, tb, hob, more⟩ := R
  exact ⟨ob, cs, ver, tb, kp ob hob, more⟩
theorem TxSet.say {S' : Str → Bool} (R : TxSet w h a S n) (same : ∀ x, S' x = S x) : TxSet w h a S' n := (funext same : S' = S) ▸ R
theorem tx_elems {l : List (Int × Value)} (g : ∀ c ∈ l, TxE w c) : ElemsOf (strKind P w) l := fun c hc => by
  obtain ⟨x, tk, h1, h2⟩ := g c hc
  refine ⟨⟨x, ?_, h2⟩, by rw [h1] <;> rfl⟩
  rw [h1]
  show Value.isStrOf x (.str x tk) = true
  simp [Value.isStrOf]
theorem tx_is {c : Int × Value} (g : TxE w c) (x : Str) : (strKind P w).is x c.2 = true ↔ txOf c = x := by
  obtain ⟨y, tk, h1, _⟩ := g
  unfold txOf
  rw [h1]
  show Value.isStrOf x (.str y tk) = true ↔ y = x
  constructor
  · intro q
    obtain ⟨t, e⟩ := Value.isStrOf_shape (x := x) (v := Value.str y tk) q
    injection e
  · rintro rfl
    simp [Value.isStrOf]
theorem tx_mem {l : List (Int × Value)} (g : ∀ c ∈ l, TxE w c) (x : Str) : x ∈ l.map txOf ↔ ∃ c ∈ l, (strKind P w).is x c.2 = true := by
  refine List.mem_map.trans ⟨fun ⟨c, hc, q⟩ => ⟨c, hc, (tx_is (g c hc) x).2 q⟩, fun ⟨c, hc, q⟩ => ⟨c, hc, (tx_is (g c hc) x).1 q⟩⟩
end
section
variable {P : Program} {w : World} {A : Around} {E : Value → Shared → Prop} {s : Shared} {a : Addr} {S : Str → Bool} {n : Nat}
theorem tx_add_tail {note : Bool → Sem Unit} (hnote : ∀ (b : Bool) (s1 : Shared) (R : Unit → Shared → Prop), R () s1 → wpAny (model P w) A (note b) R E s1)
    {ob : Obj} {cs : Array (Int × Value)} {ver : Nat} {tb : SetTable} (hob : s.heap.get? a = some ob) (ex : ob.ExactSet) (dt : ob.data = .set cs ver tb)
    {cs1 : Array (Int × Value)} {tb1 : SetTable} {S1 : Str → Bool} (gd : ∀ c ∈ cs1.toList, TxE w c) (nd : (cs1.toList.map txOf).Nodup) (mm : ∀ x, S1 x = true ↔ x ∈ cs1.toList.map txOf)
    (few : cs1.size < scanBound) (ft : tb1.fits cs1.size = true) (ri : Ris tb1.place.toList) (ld : w.params.followText "set-order" = true ∨ tb1.led = true) {dummy : Bool} {R : Option Bool → Shared → Prop}
    (fin : ∀ h', Heap.SameBut a s.heap h' → TxSet w h' a S1 cs1.size → R (some true) { s with heap := h' }) :
    wpAny (model P w) A (do
        storeSet a cs1 tb1
        if (!dummy && tb1.tooFull) = true then do
            note (relayAll tb1 cs1 (SetTable.grown cs1.size)).2.2
            storeSet a (relayAll tb1 cs1 (SetTable.grown cs1.size)).1 (relayAll tb1 cs1 (SetTable.grown cs1.size)).2.1
            pure (some true)
          else pure (some true)) R E s := by
  refine wpAny_bind (wpAny_storeSet_of hob dt ?_ (fits_of_scanBound few))
  have at1 := L2.store_at (es' := cs1) (t' := tb1) hob dt
  have sb := Heap.SameBut.update s.heap a (Obj.putSet cs1 tb1)
  by_cases hfull : (!dummy && tb1.tooFull) = true
  · rw [if_pos hfull]
    have r1 := relayAll_perm tb1 cs1 (SetTable.grown cs1.size)
    have r2 := relayAll_fits tb1 cs1 (SetTable.grown cs1.size)
    have r3 := relayAll_ris tb1 cs1 (SetTable.grown cs1.size)
    have r4 := relayAll_led tb1 cs1 (SetTable.grown cs1.size)
    generalize relayAll tb1 cs1 (SetTable.grown cs1.size) = Y at r1 r2 r3 r4 ⊢
    obtain ⟨cs2, tb2, way⟩ := Y
    dsimp only at r1 r2 r3 r4 ⊢
    have sz : cs2.size = cs1.size := by rw [← Array.length_toList, ← Array.length_toList]; exact r1.length_eq
    have few2 : cs2.size < scanBound := sz ▸ few
    refine wpAny_bind (hnote _ _ _ (wpAny_bind (wpAny_storeSet_of at1 rfl ?_ (fits_of_scanBound few2))))
    have at2 := L2.store_at (es' := cs2) (t' := tb2) at1 rfl
    refine wpAny_pure (fin _ (sb.trans (Heap.SameBut.update _ a _)) ⟨_, cs2, _, tb2, at2, ex, rfl, fun c hc => gd c (r1.mem_iff.mp hc), ?_, fun x => ?_, few2, r2, sz, r3, ?_⟩)
    · exact (r1.map txOf).nodup_iff.mpr nd
    · exact (mm x).trans (r1.map txOf).mem_iff.symm
    · exact ld.imp id fun z => r4 ▸ z
  · rw [if_neg hfull]
    exact wpAny_pure (fin _ sb ⟨_, cs1, _, tb1, at1, ex, rfl, gd, nd, mm, few, ft, rfl, ri, ld⟩)
theorem tx_add {x : Str} {tk : Tok} {Q : Bool → Shared → Prop} (R : TxSet w s.heap a S n) (room : n + 1 < scanBound)
    (fin : ∀ h', Heap.SameBut a s.heap h' → TxSet w h' a (fun y => S y || decide (y = x)) (if S x = true then n else n + 1) → Q (!S x) { s with heap := h' }) :
    wpAny (model P w) A (setAddHashed a (.str x tk) ((strKind P w).hash x)) Q E s := by
  obtain ⟨ob, cs, ver, tb, hob, ex, dt, gd, nd, mm, few, ft, sz, ri, ld⟩ := R
  have isx : (strKind P w).is x (.str x tk) = true := by
    show Value.isStrOf x (.str x tk) = true
    simp [Value.isStrOf]
  have scn : (Value.str x tk).scannable = true := rfl
  have els : ElemsOf (strKind P w) cs.toList := tx_elems gd
  unfold setAddHashed setAddHashedIn
  refine wpAny_holding (wpAny_bind (wpAny_setState_of hob dt ft ?_))
  dsimp only
  rw [byScan_of scn few els]
  simp only [↓reduceIte]
  unfold setAddByScan
  refine wpAny_bind (wpAny_bind (wpAny_rule (wpAny_bind (wpAny_setScan_of isx hob dt ft els ?_))))
  cases found : List.findIdx? (fun e => (strKind P w).is x e.2) cs.toList with
  | some j =>
    dsimp only
    obtain ⟨lt, yes, _⟩ := List.findIdx?_eq_some_iff_getElem.mp found
    have inS : S x = true := (mm x).2 ((tx_mem (P := P) (w := w) gd x).2 ⟨cs.toList[j], List.getElem_mem lt, yes⟩)
    refine wpAny_pure (wpAny_pure ?_)
    have z := fin s.heap (Heap.SameBut.refl a s.heap) ⟨ob, cs, ver, tb, hob, ex, dt, gd, nd, fun y => ?_, few, ft, by rw [if_pos inS]; exact sz, ri, ld⟩
    · rw [inS] at z
      exact z
    · rw [Bool.or_eq_true, decide_eq_true_eq, ← mm y]
      exact ⟨fun o => o.elim id fun e => e ▸ inS, .inl⟩
  | none =>
    dsimp only
    have out : x ∉ cs.toList.map txOf := fun z => by
      obtain ⟨c, hc, q⟩ := (tx_mem (P := P) (w := w) gd x).1 z
      exact absurd q (by rw [List.findIdx?_eq_none_iff.mp found c hc]; exact Bool.false_ne_true)
    have outS : S x = false := Bool.eq_false_iff.mpr fun q => out ((mm x).1 q)
    have gave : ∀ (b : Bool) {s1 : Shared} {R : Unit → Shared → Prop}, R () s1 → wpAny (model P w) A (match b with | true => rule "set.scan.the-table-gave-way" | false => pure ()) R E s1 :=
      fun b s1 R q => by cases b <;> first | exact wpAny_pure q | exact wpAny_rule q
    have l1 := layNew_perm tb cs ((strKind P w).hash x) (.str x tk)
    have l2 := layNew_fits tb cs ((strKind P w).hash x) (.str x tk)
    have l3 := layNew_ris tb cs ((strKind P w).hash x) (.str x tk) ri
    have l4 := layNew_led tb cs ((strKind P w).hash x) (.str x tk)
    generalize layNew tb cs ((strKind P w).hash x) (.str x tk) = Y at l1 l2 l3 l4 ⊢
    obtain ⟨cs1, tb1, dummy, way⟩ := Y
    dsimp only at l1 l2 l3 l4 ⊢
    rw [Array.toList_push] at l1
    have pm : cs1.toList.Perm (((strKind P w).hash x, Value.str x tk) :: cs.toList) := l1.trans (List.perm_append_singleton _ _)
    have pk : (cs1.toList.map txOf).Perm (x :: cs.toList.map txOf) := pm.map txOf
    have gd1 : ∀ c ∈ cs1.toList, TxE w c := fun c hc => (List.mem_cons.mp (pm.mem_iff.mp hc)).elim (fun z => z ▸ ⟨x, tk, rfl, rfl⟩) (gd c)
    have ndd : (cs1.toList.map txOf).Nodup := pk.nodup_iff.mpr (List.nodup_cons.mpr ⟨out, nd⟩)
    have mm1 : ∀ y, (S y || decide (y = x)) = true ↔ y ∈ cs1.toList.map txOf := fun y => by
      rw [pk.mem_iff, List.mem_cons, ← mm y, Bool.or_eq_true, decide_eq_true_eq]
      exact Or.comm
    have sz1 : cs1.size = n + 1 := by rw [← sz, ← Array.length_toList, pm.length_eq, List.length_cons, Array.length_toList]
    have few1 : cs1.size < scanBound := sz1 ▸ room
    have ld1 : w.params.followText "set-order" = true ∨ tb1.led = true := ld.imp id fun z => l4 ▸ z
    have done : ∀ h', Heap.SameBut a s.heap h' → TxSet w h' a (fun y => S y || decide (y = x)) cs1.size → Q true { s with heap := h' } := fun h' sb r => by
      have z := fin h' sb
      rw [outS] at z
      exact z (sz1 ▸ r)
    refine wpAny_bind (gave _ ?_)
    split
    · refine wpAny_bind ?_
      rw [hashByValue_scannable 8 scn]
      refine wpAny_pure (tx_add_tail (fun b s1 R q => ?_) hob ex dt gd1 ndd mm1 few1 ?_ ?_ ?_ fun h' sb r => ?_)
      · cases b <;> first | exact wpAny_pure q | exact wpAny_rule q
      · first | (split <;> first | exact l2 | exact SetTable.fits_plain_off l2) | exact l2
      · first | (split <;> exact l3) | exact l3
      · first | (split <;> exact ld1) | exact ld1
      · dsimp only
        exact wpAny_pure (done h' sb r)
    · refine wpAny_bind (wpAny_pure ?_)
      simp only [↓reduceIte]
      refine tx_add_tail (fun b s1 R q => ?_) hob ex dt gd1 ndd mm1 few1 l2 l3 ld1 fun h' sb r => ?_
      · cases b <;> first | exact wpAny_pure q | exact wpAny_rule q
      · dsimp only
        exact wpAny_pure (done h' sb r)
end

/-! the loop of update, the call set(l), sorted -/
abbrev bareSet (w : World) : Obj := { cls := .type "set", dict := none, data := .set #[] 0 (.fresh 0 0 (!w.params.followText "set-order")) }
theorem tx_bare {w : World} {h : Heap} {a : Addr} {zs : List Str} (hob : h.get? a = some (bareSet w)) : TxSet w h a (fun y => decide (y ∈ zs.take 0)) 0 := by
  refine ⟨_, #[], 0, _, hob, ⟨rfl, rfl, rfl⟩, rfl, ?_, ?_, ?_, by decide, by rfl, rfl, List.Pairwise.nil, ?_⟩
  · intro c hc
    simp at hc
  · simp
  · intro x
    simp
  · show _ ∨ (!w.params.followText "set-order") = true
    cases w.params.followText "set-order" <;> simp
section
variable {P : Program} {w : World} {A : Around} {E : Value → Shared → Prop} {s : Shared}
theorem tx_update {it : Addr} {fp wr : List Addr} {G : Array GenState → Array GenState → Prop} {n : Nat} {Pv : Nat → Value → Prop} {At : Nat → Shared → Prop} {R : Result → Shared → Prop}
    (W : WalksS P w A.in1 it fp wr G n Pv At) (d : Addr) (apart : d ∉ fp) (zs : List Str) (en : n = zs.length) (room : zs.length + 1 < scanBound) (item : ∀ i v, Pv i v → ∃ x t, zs[i]? = some x ∧ v = .str x t) :
    ∀ (left i : Nat) (s : Shared), n - i = left → i ≤ n → At i s → (∃ m, m ≤ i ∧ TxSet w s.heap d (fun y => decide (y ∈ zs.take i)) m) →
      (∀ s' m, Moved (d :: wr) G s s' → m ≤ n → TxSet w s'.heap d (fun y => decide (y ∈ zs)) m → R (.ok (.ret .none)) s') →
      codeAny (model P w) A (.builtin "set.update.loop" ⟨[.ref d, .ref it], []⟩) R s := by
  have dw : d ∉ wr := fun z => apart (W.sub _ z)
  have more : ∀ b ∈ wr, b ∈ d :: wr := fun b z => List.mem_cons_of_mem _ z
  intro left
  induction left with
  | zero =>
    intro i s el le at_ ⟨m, hm, R0⟩ go
    have ei : i = n := by omega
    subst ei
    refine codeAny_builtin PyProof.Rows.F.entry_set_update_loop ?_
    rw [Around.under_plainId PyProof.Rows.F.plain_set_update_loop _]
    show wpAny _ A.in1 (pyNext (.ref it) >>= _) _ _ s
    refine wpAny_bind (W.done s _ _ at_ fun s' mv => ?_)
    show wpAny _ A.in1 (ret Value.none) _ _ s'
    rw [show zs.take i = zs from List.take_of_length_le (by omega)] at R0
    exact wpAny_pure (go s' m (mv.mono more) hm (R0.keep fun ob e => mv.heap d ob dw e))
  | succ left ih =>
    intro i s el le at_ ⟨m, hm, R0⟩ go
    have lt : i < n := by omega
    refine codeAny_builtin PyProof.Rows.F.entry_set_update_loop ?_
    rw [Around.under_plainId PyProof.Rows.F.plain_set_update_loop _]
    show wpAny _ A.in1 (pyNext (.ref it) >>= _) _ _ s
    refine wpAny_bind (W.item i s _ _ lt at_ fun v s1 pv at1 mv => ?_)
    obtain ⟨x, t, hx, rfl⟩ := item i v pv
    have R1 : TxSet w s1.heap d (fun y => decide (y ∈ zs.take i)) m := R0.keep fun ob e => mv.heap d ob dw e
    show wpAny _ A.in1 (holding [Value.str x t] (setAdd d (.str x t)) >>= _) _ _ s1
    refine wpAny_bind (wpAny_holding ?_)
    unfold setAdd
    refine wpAny_holding (wpAny_bind ((strKind P w).pyHash (k := x) (v := .str x t) ?_ ?_))
    · show Value.isStrOf x (.str x t) = true
      simp [Value.isStrOf]
    refine tx_add (s := { s1 with toks := s1.toks + 1 }) R1 (by omega) fun h2 sb R2 => ?_
    have R3 : TxSet w h2 d (fun y => decide (y ∈ zs.take (i + 1))) (if decide (x ∈ zs.take i) = true then m else m + 1) := R2.say fun y => by
      rw [List.take_add_one, hx]
      simp [List.mem_append]
    have hm3 : (if decide (x ∈ zs.take i) = true then m else m + 1) ≤ i + 1 := by split <;> omega
    refine wpAny_pure ⟨plainId_quiet PyProof.Rows.F.plain_set_update_loop _, ih (i + 1) _ (by omega) lt (W.frame _ s1 _ _ at1 (Nat.le_succ _) fun b hb ob e => ?_) ⟨_, hm3, R3⟩ fun s3 m3 mv3 le3 R4 => ?_⟩
    · exact (sb.2 b fun z => apart (z ▸ hb)).trans e
    · refine go s3 m3 (Moved.trans W.gtrans ((mv.mono more).then_heap (Nat.le_succ _) fun b ob hb e => ?_) mv3) le3 R4
      exact (sb.2 b fun z => hb (z ▸ List.mem_cons_self)).trans e
theorem tx_item : ∀ {us : List Value} {zs : List Str}, StrsAre us zs → ∀ (i : Nat) (v : Value), us[i]? = some v → ∃ x t, zs[i]? = some x ∧ v = .str x t
  | _, _, .nil, i, v, hi => by simp at hi
  | _, _, .cons x t _, 0, v, hi => ⟨x, t, rfl, by simpa using hi.symm⟩
  | _, _, .cons _ _ rest, i + 1, v, hi => by simpa using tx_item rest i v (by simpa using hi)
/-- set(l), l a list of texts -/
theorem call_set_txs {l : Addr} {items : Array Value} (zs : List Str) {Q : Value → Shared → Prop} (calm : A.handled = none) (hl : s.heap.IsList l items) (hit : StrsAre items.toList zs) (room : zs.length + 1 < scanBound)
    (fin : ∀ (h' : Heap) (tk m : Nat), TxSet w h' s.heap.objs.size (fun y => decide (y ∈ zs)) m → m ≤ zs.length → (∀ b ob, s.heap.get? b = some ob → h'.get? b = some ob) → Q (.ref s.heap.objs.size) { s with heap := h', toks := tk }) :
    wpAny (model P w) A (call (.type "set") [.ref l]) Q E s := by
  have isz : items.size = zs.length := by
    have z := hit.length
    rw [Array.length_toList] at z
    exact z
  obtain ⟨c, tl, hmro⟩ := F.called_set.mro
  have hmade := F.called_set.made
  have hsub := F.called_set.sub
  refine wpAny_call (codeAny_of_tree ?_)
  show wpAny _ _ (callAny (.type "set") _) _ _ _
  refine wpAny_pure ⟨Code.quiet_builtin _ (by decide +kernel), codeAny_builtin F.entry_type_call ?_⟩
  rw [Around.under_plain (weight_type_call_type "set" [.ref l] []) rfl]
  have no_t := F.called_set.notType
  have can := F.called_set.canCreate
  have chk := PySem.F.typeCall_set_1 (.ref l)
  repeat (any_goals (first | assumption | wp_step))
  refine codeAny_mono (code_set_led1 (.ref l) (E := E) (Q₁ := fun obj s1 => obj = .ref s.heap.objs.size ∧ s1 = { s with heap := s.heap.push (bareSet w) }) ⟨rfl, rfl⟩) fun r s1 hr => ?_
  cases r with
  | error e => exact hr
  | ok fl =>
  cases fl with
  | next => exact hr.elim
  | brk => exact hr.elim
  | cont => exact hr.elim
  | ret obj =>
  obtain ⟨rfl, rfl⟩ := hr
  have atS : (s.heap.push (bareSet w)).get? s.heap.objs.size = some (bareSet w) := Heap.get?_push_size _ rfl
  have tyS : Shared.TypeIs { s with heap := s.heap.push (bareSet w) } (.ref s.heap.objs.size) "set" := ⟨_, atS, rfl⟩
  have ini := F.called_set.init.lookup
  have inb := F.called_set.init.bind (.ref s.heap.objs.size)
  repeat (any_goals (first | assumption | wp_step))
  refine codeAny_mono (codeAny_call_builtin (R := wants (fun r s2 => r = .none ∧ ∃ h' tk m, s2 = { s with heap := h', toks := tk } ∧ TxSet w h' s.heap.objs.size (fun y => decide (y ∈ zs)) m ∧ m ≤ zs.length ∧
      (∀ b ob, s.heap.get? b = some ob → h'.get? b = some ob)) E) F.called_set.init.plain F.entry_set_init (check_set_init_1 tyS ?_)) fun r2 s2 hr2 => ?_
  · obtain ⟨ob, hob, hc, nl, hd⟩ := hl
    obtain ⟨k1, k2, k3, k4⟩ := ob
    simp only at hc hd
    subst hc hd
    have ob1 : (s.heap.push (bareSet w)).get? l = some { cls := .type "list", dict := k2, data := .seq items nl, slots := k4 } := Heap.get?_push_of_some _ hob
    have not1 := F.sub_list_set
    have not2 := F.sub_list_frozenset
    have not3 : (Value.type "list" == Value.type "dict") = false := by decide
    have l1 : (s.heap.push (bareSet w)).IsList l items := ⟨_, ob1, rfl, nl, rfl⟩
    unfold Builtin.«set.__init__» noKeywords Builtin.Frozenset.updateFrom
    generalize hIt : pyIter = It
    wp_walk
    subst hIt
    refine wpAny_pyIter_list l1 (wpAny_bind (wpAny_runValue ?_))
    have low : l < s.heap.objs.size := Heap.lt_size hob
    have calm3 : A.in1.in1.in1.handled = none := by simp [calm]
    have one : (s.heap.push (bareSet w)).objs.size = s.heap.objs.size + 1 := Heap.size_push ..
    have n1 : l ≠ (s.heap.push (bareSet w)).objs.size := Nat.ne_of_lt (by rw [one]; exact Nat.lt_succ_of_lt low)
    have n2 : s.heap.objs.size ∉ [(s.heap.push (bareSet w)).objs.size, l] := by
      rw [List.mem_cons, List.mem_singleton, one]
      exact fun z => z.elim (Nat.ne_of_lt (Nat.lt_succ_self _)) (Nat.ne_of_gt low)
    refine tx_update ((Walks.list calm3 _ l n1 items).toS) s.heap.objs.size n2 zs isz room (fun i v hv => tx_item hit i v (by rw [Array.getElem?_toList]; exact hv)) (items.size - 0) 0 _ (by omega) (Nat.zero_le _)
      ⟨⟨_, Heap.get?_push_size _ rfl, rfl, rfl⟩, (l1.push _)⟩ ⟨0, Nat.le_refl 0, tx_bare (Heap.get?_push_of_some _ atS)⟩ ?_
    intro s3 m mv hm R3
    obtain ⟨h3, g3, d3, t3, o3⟩ := s3
    have z1 : g3 = s.gens := mv.gens
    have z2 : d3 = s.drawn := mv.drawn
    have z3 : o3 = s.os := mv.os
    subst z1 z2 z3
    show wpAny _ _ _ _ _ _
    refine wpAny_pure ?_
    show wpAny _ _ (ret Value.none) _ _ _
    refine wpAny_pure ⟨rfl, h3, t3, m, rfl, R3, isz ▸ hm, fun b ob e => ?_⟩
    have lb : b < s.heap.objs.size := Heap.lt_size e
    refine mv.heap b ob ?_ (Heap.get?_push_of_some _ (Heap.get?_push_of_some _ e))
    rw [List.mem_cons, List.mem_singleton, one]
    exact fun z => z.elim (Nat.ne_of_lt lb) (Nat.ne_of_lt (Nat.lt_succ_of_lt lb))
  · cases r2 with
    | error e => exact hr2
    | ok fl2 =>
    cases fl2 with
    | next => exact hr2.elim
    | brk => exact hr2.elim
    | cont => exact hr2.elim
    | ret r =>
    obtain ⟨rfl, h', tk, m, rfl, R2, hm, kp⟩ := hr2
    repeat (any_goals (first | assumption | wp_step))
    exact fin _ _ _ R2 hm kp

/-- sorted(d), d a set of texts -/
theorem call_sorted_txs {d : Addr} {S : Str → Bool} {n : Nat} {Q : Value → Shared → Prop} (R : TxSet w s.heap d S n) (calm : A.handled = none) (few : n < 64)
    (fin : ∀ s' p (out : Array Value) (c : Nat) (ys : List Str), (∀ b ob, s.heap.get? b = some ob → s'.heap.get? b = some ob) → s'.gens = s.gens → s'.os = s.os → s.heap.objs.size ≤ p →
      s'.heap.get? p = some (seqObj "list" out c) → StrsAre out.toList ys → sortedS ys = true → ys.Nodup → (∀ x, x ∈ ys ↔ S x = true) → ys.length = n → Q (.ref p) s') :
    wpAny (model P w) A (call (.builtin "sorted") [.ref d]) Q E s := by
  obtain ⟨ob, cs, ver, tb, hob, ex, dt, gd, nd, mm, sb, ft, sz, ri, ld⟩ := R
  refine Calls.call_function_entry PyProof.Rows.kind_sorted PyProof.Rows.plain_sorted PyProof.Rows.entry_sorted (PyProof.Rows.args_sorted1 _) ?_
  unfold Builtin.«sorted»
  refine wpAny_bind (m := checkCount "sorted" 1 1 _) (wpAny_pure ?_)
  refine wpAny_bind (collect_set (A := A.in1) calm ⟨ob, hob, ex.1, dt⟩ ft sb ri ld fun s1 us kp hz hg ho pm => ?_)
  have lu : us.length = n := by rw [pm.length_eq, List.length_map, Array.length_toList]; exact sz
  have txs : ∀ (ws : List Value), (∀ v ∈ ws, ∃ c ∈ cs.toList, v = c.2) → ∃ zs, StrsAre ws zs ∧ zs = ws.map fun v => txOf (0, v) := by
    intro ws
    induction ws with
    | nil => exact fun _ => ⟨[], .nil, rfl⟩
    | cons v ws ih =>
      intro al
      obtain ⟨zs, h1, h2⟩ := ih fun u hu => al u (List.mem_cons_of_mem _ hu)
      obtain ⟨c, hc, rfl⟩ := al v List.mem_cons_self
      obtain ⟨x, tk, e, _⟩ := gd c hc
      refine ⟨x :: zs, ?_, ?_⟩
      · rw [e]; exact .cons x tk h1
      · rw [List.map_cons, ← h2]
        unfold txOf
        rw [e]
  obtain ⟨zs, hS, ez⟩ := txs us fun v hv => by
    obtain ⟨c, hc, e⟩ := List.mem_map.mp (pm.mem_iff.mp hv)
    exact ⟨c, hc, e.symm⟩
  have pz : zs.Perm (cs.toList.map txOf) := by
    rw [ez]
    have z := pm.map fun v => txOf ((0 : Int), v)
    rw [List.map_map] at z
    exact z
  refine wpAny_bind (wpAny_newList ?_ (by rw [lu, sizeLine_eq]; omega))
  have atL : (s1.heap.push (seqObj "list" us.toArray 0)).get? s1.heap.objs.size = some (seqObj "list" us.toArray 0) := Heap.get?_push_size _ rfl
  refine wpAny_bind (wpAny_holding (wpAny_call_entry PyProof.Rows.slot_list_sort ⟨_, atL, rfl⟩ PyProof.Rows.entry_list_sort
    (list_sort_treeK strKind_oneLt atL hS.keysOf (fun u1 u2 more e => keyKind_strs (by rw [← e]; exact hS)) (by rw [lu]; exact few) fun st pp sp => ⟨_, rfl, ?_⟩) (PyProof.Rows.args_list_sort _)))
  obtain ⟨ys, g1, g2, g3⟩ := sorted_out_str hS pp sp
  obtain ⟨c, hc⟩ := PyProof.Rows.sortedHeap_at (vs := us) (out := (arrOf st).map (·.2)) atL
  have py := g2.trans pz
  refine wpAny_pure ⟨_, rfl, fin _ s1.heap.objs.size ((arrOf st).map (·.2)) c ys (fun b u e => ?_) hg ho hz hc g1 g3 (py.nodup_iff.mpr nd) (fun x => py.mem_iff.trans (mm x).symm) ?_⟩
  · have lt := Heap.lt_size (kp b u e)
    show (PyProof.Rows.sortedHeap (s1.heap.push (seqObj "list" us.toArray 0)) s1.heap.objs.size us _).get? b = some u
    rw [PyProof.Rows.sortedHeap_old (Nat.ne_of_lt lt) (by rw [size_push']; exact Nat.lt_succ_of_lt lt)]
    exact Heap.get?_push_of_some _ (kp b u e)
  · rw [py.length_eq, List.length_map, Array.length_toList]; exact sz
end
/-! as rules -/
def TxO (w : World) (a : Addr) (S : Str → Bool) (n : Nat) : HO := .ext fun h => TxSet w h a S n
section
variable {X : Cx}
def rTxSet (K : PySem.W.Frag) (w : World) : List V → Hp → VK → Prop := fun xs H Q => ∃ (l : Addr) (zs : List Str), xs = [V.ref l] ∧ SqL K H l (zs.map V.str) ∧ zs.length < 1000 ∧
  ∀ a m, H a = none → m ≤ zs.length → Q (.ref a) (upd H a (TxO w a (fun y => decide (y ∈ zs)) m))
theorem cr_txSet (hc : X.calm = true) : CallR X (.type "set") (rTxSet X.K X.w) := by
  intro pins s σ H xs us Q I r h
  obtain ⟨l, zs, rfl, hl, few, q⟩ := h
  rw [Vals.ref1 r]
  obtain ⟨its, rv, pl, hz⟩ := I.list hl
  have free : H s.heap.objs.size = none := I.hok.fresh (Nat.le_refl _)
  refine call_set_txs (P := X.prog) (w := X.w) zs (I.ok.hd hc) pl.isList rv.strs (by unfold scanBound; omega) fun h' tk m R hm kp => ?_
  have R' : ∀ H2 : Hp, ObjOk X.prog X.w H2 h' s.heap.objs.size (TxO X.w s.heap.objs.size (fun y => decide (y ∈ zs)) m) := fun H2 => by
    have ⟨ob, _, _, _, hob, _⟩ := R
    exact ⟨R, ⟨ob, hob⟩, fun h1 h2 p k => p.keep k⟩
  exact ⟨.ref s.heap.objs.size, _, I.laid (t' := tk) kp (Nat.le_refl _) (R' _), rfl, q _ m free hm⟩
def rTxSorted (w : World) : List V → Hp → VK → Prop := fun xs H Q => ∃ (d : Addr) (S : Str → Bool) (n : Nat), xs = [V.ref d] ∧ H d = some (TxO w d S n) ∧ n < 64 ∧
  ∀ (ys : List Str) (p : Addr), sortedS ys = true → ys.Nodup → (∀ x, x ∈ ys ↔ S x = true) → ys.length = n → H p = none → Q (.ref p) (upd H p (.lst (ys.map V.str)))
theorem cr_txSorted (hc : X.calm = true) : CallR X (.builtin "sorted") (rTxSorted X.w) := by
  intro pins s σ H xs us Q I r h
  obtain ⟨d, S, n, rfl, hd, few, q⟩ := h
  have R : TxSet X.w s.heap d S n := (I.hok d _ hd).1
  rw [Vals.ref1 r]
  refine call_sorted_txs (P := X.prog) R (I.ok.hd hc) few fun s' p out c ys kp hg ho hp at' hS so nd mem len => ?_
  have le : (ys.map V.str).length ≤ sizeLine := by rw [List.length_map, len, sizeLine_eq]; omega
  have free : H p = none := I.hok.fresh hp
  have J : Inv X pins σ (upd H p (.lst (ys.map V.str))) { s with heap := s'.heap, gens := s'.gens, drawn := s'.drawn, toks := s'.toks } :=
    I.call (ch := []) (Un.laid kp hp free) (I.hok.laid kp hp ⟨le, out.toList, c, vals_of_strs hS, at'⟩) (by rw [hg]; exact I.bare) (fun _ z => nomatch z)
  have e : s' = { s with heap := s'.heap, gens := s'.gens, drawn := s'.drawn, toks := s'.toks } := by
    obtain ⟨h1, h2, h3, h4, h5⟩ := s'
    cases ho
    rfl
  rw [e]
  exact ⟨.ref p, _, J, rfl, q ys p so nd mem len free⟩
end
end Sc
namespace Sc
open PySem PySem.Spec PyProof.Rows L2
/-! one sign, many times -/
def reps (c n : Nat) : Str := ⟨(List.replicate n c).toArray⟩
theorem fold_reps (c : Nat) : ∀ (n : Nat) (acc : Array Nat), (List.replicate n #[c]).foldl (· ++ ·) acc = acc ++ (List.replicate n c).toArray
  | 0, acc => by simp
  | n + 1, acc => by
    rw [List.replicate_succ, List.foldl_cons, fold_reps c n]
    apply Array.ext'
    simp [List.replicate_succ]
section
variable {X : Cx}
def rReps : V → V → Hp → VK → Prop := fun x y H Q => ∃ (c : Nat) (k : Int), x = .str ⟨#[c]⟩ ∧ y = .int k ∧ 0 ≤ k ∧ k ≤ 1000 ∧ Q (.str (reps c k.toNat)) H
theorem op_reps : OpR X (binaryOp .Mult) rReps := by
  intro pins s σ H x y v u Q I rx ry h
  obtain ⟨c, k, rfl, rfl, h0, h1, q⟩ := h
  obtain ⟨t, rfl⟩ := rx
  obtain ⟨t', rfl⟩ := ry
  have ln : (⟨#[c]⟩ : Str).length = 1 := rfl
  refine PySem.P.mul_str (by rw [decide_eq_false (by omega), decide_eq_false (by omega)]; rfl) (fun a b => ?_) (fun a b => ?_) ?_
  · rw [ln]
    have hk : k ≠ 0 := by omega
    have : 1 * k ≤ 2 ^ 63 - 1 := by omega
    have := (Int.le_ediv_iff_mul_le (a := 1) (b := 2 ^ 63 - 1) (c := k) (by omega)).mpr this
    show ¬ (1 : Int) > (2 ^ 63 - 1) / k
    omega
  · rw [ln]
    unfold Builtin.Str.tooLong
    rw [decide_eq_false]
    rw [sizeLine_eq]
    omega
  · by_cases a : k < 1
    · rw [if_pos a]
      have e : reps c k.toNat = Str.empty := by rw [show k.toNat = 0 by omega]; rfl
      rw [e] at q
      exact ⟨by decide, ⟨.str Str.empty, H, I.tok _, ⟨_, rfl⟩, q⟩⟩
    · rw [if_neg a]
      by_cases b : k = 1
      · subst b
        simp only [beq_self_eq_true, Bool.true_or, if_true]
        exact ⟨.str ⟨#[c]⟩, H, I, ⟨_, rfl⟩, q⟩
      · have e : (k == 1 || (⟨#[c]⟩ : Str).length == 0) = false := by
          rw [ln]
          simp [b]
        rw [if_neg (by rw [e]; exact Bool.false_ne_true)]
        have e2 : (⟨(List.replicate k.toNat (⟨#[c]⟩ : Str).cps).foldl (· ++ ·) #[]⟩ : Str) = reps c k.toNat := by
          unfold reps
          rw [show (⟨#[c]⟩ : Str).cps = #[c] from rfl, fold_reps]
          simp
        rw [e2]
        refine ⟨?_, ⟨.str (reps c k.toNat), H, I.tok _, ⟨_, rfl⟩, q⟩⟩
        show (reps c k.toNat).cps.size ≤ _
        unfold reps
        rw [List.size_toArray, List.length_replicate]
        first | omega | (rw [sizeLine_eq]; omega)
end

/-! ### defs that may be called, defs that stand -/
structure Cal (P : Program) (w : World) (K : PySem.W.Frag) (mg : Str → Option Value) (base : Heap) (k : Nat) (x : Str) (ps : List Str) (sp : Sp) : Prop where
  ex : ∃ f fd, FnOk P w K mg base CX0 k f fd ps sp ∧ mg x = some (.ref f) ∧ PySem.W.keepIn K (.ref f) = true ∧ Binds K fd ps []
structure Def (K : PySem.W.Frag) (mg : Str → Option Value) (x : Str) (st : Stmt) (ps : List Str) : Prop where
  ex : ∃ f fd, Fun K x x st f fd ∧ mg x = some (.ref f) ∧ Binds K fd ps []
theorem Cal.mono {P : Program} {w : World} {K : PySem.W.Frag} {mg : Str → Option Value} {base : Heap} {j k : Nat} {x : Str} {ps : List Str} {sp : Sp} (C : Cal P w K mg base j x ps sp) (h : j ≤ k) : Cal P w K mg base k x ps sp := by
  obtain ⟨f, fd, a, b⟩ := C.ex
  exact ⟨f, fd, a.mono h, b⟩
theorem Cal.imp {P : Program} {w : World} {K : PySem.W.Frag} {mg : Str → Option Value} {base : Heap} {k : Nat} {x : Str} {ps : List Str} {sp sp' : Sp} (C : Cal P w K mg base k x ps sp) (h : ∀ vs H Q E, sp' vs H Q E → sp vs H Q E) : Cal P w K mg base k x ps sp' := by
  obtain ⟨f, fd, a, b⟩ := C.ex
  exact ⟨f, fd, a.imp h, b⟩
theorem Def.never {P : Program} {w : World} {K : PySem.W.Frag} {mg : Str → Option Value} {base : Heap} {x : Str} {st : Stmt} {ps : List Str} {sp : Sp} (D : Def K mg x st ps) (no : ∀ vs H Q E, ¬ sp vs H Q E) : Cal P w K mg base 0 x ps sp := by
  obtain ⟨f, fd, F, m, b⟩ := D.ex
  exact ⟨f, fd, ⟨fun vs H Q E h => absurd h (no vs H Q E), fun A outer s H args us vs Q E _ _ _ _ h => absurd h (no vs H Q E)⟩, m, F.kp, b⟩
theorem Def.ok {P : Program} {w : World} {K : PySem.W.Frag} {mg : Str → Option Value} {base : Heap} {x : Str} {st : Stmt} {N ps : List Str} {k : Nat} {sp : Sp} (D : Def K mg x st ps) (S : FnScope N ps (defScope st)) (len : ∀ vs H Q E, sp vs H Q E → vs.length = ps.length)
    (body : ∀ (f : Addr) (cdv : Value) (A : Around) (outer : List Env) (s : Shared) (H : Hp) (vs : List V) (Q : VK) (E : XK), Room k (A.deeper (envOfC x (defScope st) s.heap.objs.size f cdv)) → sp vs H Q E →
      ∃ t, PSs (cxOf CX0 P w K mg base N x (defScope st) f cdv A outer s H E).nox (defBody st) t ∧ t { nx := fun _ H' => Q .non H', rt := Q } (start N vs) H) : Cal P w K mg base (k + 1) x ps sp := by
  obtain ⟨f, fd, F, m, b⟩ := D.ex
  exact ⟨f, fd, F.ok S len fun cdv A outer s H vs Q E hr h => body f cdv A outer s H vs Q E hr h, m, F.kp, b⟩
section
variable {X : Cx} {k : Nat} {x : Str} {ps : List Str} {sp : Sp} {e : Expr} {es : List Expr} {t : TA} {p pos : Pos}
theorem pe_cal (C : Cal X.prog X.w X.K X.mg X.base k x ps sp) (hr : Room k X.A) (ha : PA X (e :: es) t) (hg : Gl X x := by rfl) (hdb : (x == ("__debug__" : Str)) = false := by decide)
    (he : starEach (e :: es) X.env = (false, eval e X.env) :: starEach es X.env := by rfl) (hpl : (backTo pos (starEach es X.env)).any (·.1) = false := by rfl) :
    PE X (.Call (.Name x p) (e :: es) [] pos) (tCall sp [] E0 t) := by
  obtain ⟨f, fd, F, m, kp, b⟩ := C.ex
  exact pe_call F hr hg m kp b .nil pass0 ha hdb he hpl
end
/-! ### heaps -/
/-- all that was tracked, but what stands at s, is as it was -/
def Ext (s : Addr) (H H' : Hp) : Prop := ∀ b o, b ≠ s → H b = some o → H' b = some o
theorem Ext.refl (s : Addr) (H : Hp) : Ext s H H := fun _ _ _ h => h
theorem Ext.trans {s : Addr} {H H1 H2 : Hp} (a : Ext s H H1) (b : Ext s H1 H2) : Ext s H H2 := fun c o n h => b c o n (a c o n h)
theorem Ext.upd (s : Addr) (H : Hp) (o : HO) : Ext s H (upd H s o) := fun b u n h => by rw [upd_ne n]; exact h
theorem Ext.new {s p : Addr} {H : Hp} (o : HO) (hp : H p = none) : Ext s H (L2.upd H p o) := fun b u _ h => by
  rw [upd_ne (ne_of_none h hp)]; exact h
theorem Ext.same {s : Addr} {H H' : Hp} (e : Same H H') : Ext s H H' := fun b o _ h => e b o h
theorem same_new {H : Hp} {p : Addr} (h : H p = none) (o : HO) : Same H (upd H p o) := fun b u q => by rw [upd_ne (ne_of_none q h)]; exact q
theorem Ext.free {s l : Addr} {H H' : Hp} {o : HO} (e : Ext s H H') (hs : H s = some o) (hs' : ∃ o', H' s = some o') (h : H' l = none) : H l = none := by
  by_cases z : l = s
  · subst z
    obtain ⟨o', e'⟩ := hs'
    rw [e'] at h
    cases h
  · cases q : H l with
    | none => rfl
    | some u => rw [e l u z q] at h; cases h
theorem Ext.seq {K : PySem.W.Frag} {s a : Addr} {H H' : Hp} {kvs : List (Key × V)} {xs : List V} (e : Ext s H H') (hs : H s = some (.dK kvs)) (h : SqL K H a xs) : SqL K H' a xs := by
  have ne : ∀ o, (∀ q : HO.dK kvs = o, False) → H a = some o → a ≠ s := fun o hq ha z => by
    subst z; rw [hs] at ha; exact hq (Option.some.inj ha)
  rcases h with (h | ⟨o, h⟩) | h
  · exact .inl (.inl (e _ _ (ne _ (fun q => by cases q) h) h))
  · exact .inl (.inr ⟨o, e _ _ (ne _ (fun q => by cases q) h) h⟩)
  · exact .inr h
theorem Ext.tup {K : PySem.W.Frag} {s a : Addr} {H H' : Hp} {kvs : List (Key × V)} {xs : List V} (e : Ext s H H') (hs : H s = some (.dK kvs)) (h : SqT K H a xs) : SqT K H' a xs := by
  have ne : ∀ o, (∀ q : HO.dK kvs = o, False) → H a = some o → a ≠ s := fun o hq ha z => by
    subst z; rw [hs] at ha; exact hq (Option.some.inj ha)
  rcases h with (h | ⟨o, h⟩) | h
  · exact .inl (.inl (e _ _ (ne _ (fun q => by cases q) h) h))
  · exact .inl (.inr ⟨o, e _ _ (ne _ (fun q => by cases q) h) h⟩)
  · exact .inr h
theorem Same.tup {K : PySem.W.Frag} {a : Addr} {H H' : Hp} {xs : List V} (e : Same H H') (h : SqT K H a xs) : SqT K H' a xs := by
  rcases h with (h | ⟨o, h⟩) | h
  · exact .inl (.inl (e _ _ h))
  · exact .inl (.inr ⟨o, e _ _ h⟩)
  · exact .inr h
/-- tuples are kept: what a kind wants -/
def Keep (K : PySem.W.Frag) (H H' : Hp) : Prop := ∀ a xs, SqT K H a xs → SqT K H' a xs
theorem Keep.refl {K : PySem.W.Frag} (H : Hp) : Keep K H H := fun _ _ h => h
theorem Keep.trans {K : PySem.W.Frag} {H H1 H2 : Hp} (e : Keep K H H1) (f : Keep K H1 H2) : Keep K H H2 := fun _ _ h => f _ _ (e _ _ h)
theorem Ext.keep {K : PySem.W.Frag} {s : Addr} {H H' : Hp} {kvs : List (Key × V)} (e : Ext s H H') (hs : H s = some (.dK kvs)) : Keep K H H' := fun _ _ h => e.tup hs h
theorem Same.keep {K : PySem.W.Frag} {H H' : Hp} (e : Same H H') : Keep K H H' := fun _ _ h => Same.tup e h
/-- what may be stored to -/
def Soft : HO → Prop
  | .lst _ => True
  | .dK _ => True
  | _ => False
theorem Keep.upd {K : PySem.W.Frag} {H : Hp} {D : Addr} {o0 : HO} (h : H D = some o0) (t : Soft o0) (o : HO) : Keep K H (L2.upd H D o) := fun a xs q => by
  have ne : ∀ u, H a = some u → ¬ Soft u → a ≠ D := fun u e n z => by
    subst z
    rw [h] at e
    exact n (Option.some.inj e ▸ t)
  rcases q with (q | ⟨u, q⟩) | q
  · exact .inl (.inl (by rw [upd_ne (ne _ q (fun z => z))]; exact q))
  · exact .inl (.inr ⟨u, by rw [upd_ne (ne _ q (fun z => z))]; exact q⟩)
  · exact .inr q
/-- data of tuples, texts, numbers, truths, None -/
inductive Dt (K : PySem.W.Frag) (H : Hp) : V → PyData → Prop
  | non : Dt K H .non .none
  | bl (b : Bool) : Dt K H (.bl b) (.bool b)
  | int (i : Int) : Dt K H (.int i) (.int i)
  | str (x : Str) : Dt K H (.str x) (.str x)
  | tup {a : Addr} (vs : List V) {ds : List PyData} : SqT K H a vs → vs.length = ds.length → (∀ (j : Nat) (v : V) (d : PyData), vs[j]? = some v → ds[j]? = some d → Dt K H v d) → Dt K H (.ref a) (.tuple ds)
def Dts (K : PySem.W.Frag) (H : Hp) (vs : List V) (ds : List PyData) : Prop := vs.length = ds.length ∧ ∀ (j : Nat) (v : V) (d : PyData), vs[j]? = some v → ds[j]? = some d → Dt K H v d
theorem Dts.nil {K : PySem.W.Frag} {H : Hp} : Dts K H [] [] := ⟨rfl, fun j v d h => by simp at h⟩
theorem Dts.cons {K : PySem.W.Frag} {H : Hp} {v : V} {d : PyData} {vs : List V} {ds : List PyData} (h : Dt K H v d) (t : Dts K H vs ds) : Dts K H (v :: vs) (d :: ds) := ⟨congrArg (· + 1) t.1, fun j u e h1 h2 => by
  cases j with
  | zero => cases h1; cases h2; exact h
  | succ j => exact t.2 j u e h1 h2⟩
theorem Dts.head {K : PySem.W.Frag} {H : Hp} {v : V} {d : PyData} {vs : List V} {ds : List PyData} (h : Dts K H (v :: vs) (d :: ds)) : Dt K H v d := h.2 0 v d rfl rfl
theorem Dts.tail {K : PySem.W.Frag} {H : Hp} {v : V} {d : PyData} {vs : List V} {ds : List PyData} (h : Dts K H (v :: vs) (d :: ds)) : Dts K H vs ds := ⟨Nat.succ.inj h.1, fun j u e h1 h2 => h.2 (j + 1) u e h1 h2⟩
theorem Dts.at {K : PySem.W.Frag} {H : Hp} {vs : List V} {ds : List PyData} {j : Nat} {v : V} (h : Dts K H vs ds) (e : vs[j]? = some v) : ∃ d, ds[j]? = some d ∧ Dt K H v d := by
  have lt : j < ds.length := h.1 ▸ (List.getElem?_eq_some_iff.mp e).1
  exact ⟨ds[j], List.getElem?_eq_getElem lt, h.2 j v _ e (List.getElem?_eq_getElem lt)⟩
theorem Dts.snoc {K : PySem.W.Frag} {H : Hp} {v : V} {d : PyData} {vs : List V} {ds : List PyData} (t : Dts K H vs ds) (h : Dt K H v d) : Dts K H (vs ++ [v]) (ds ++ [d]) := by
  refine ⟨by rw [List.length_append, List.length_append, t.1]; rfl, fun j u e h1 h2 => ?_⟩
  by_cases lt : j < vs.length
  · rw [List.getElem?_append_left lt] at h1
    rw [List.getElem?_append_left (t.1 ▸ lt)] at h2
    exact t.2 j u e h1 h2
  · rw [List.getElem?_append_right (by omega)] at h1
    rw [List.getElem?_append_right (by have := t.1; omega)] at h2
    have z : j - vs.length = 0 := by
      have := (List.getElem?_eq_some_iff.mp h1).1
      simp at this
      omega
    rw [z] at h1
    rw [← t.1, z] at h2
    cases h1; cases h2; exact h
theorem Dts.tup {K : PySem.W.Frag} {H : Hp} {a : Addr} {vs : List V} {ds : List PyData} (t : Dts K H vs ds) (h : SqT K H a vs) : Dt K H (.ref a) (.tuple ds) := .tup vs h t.1 t.2
theorem Dt.open {K : PySem.W.Frag} {H : Hp} {v : V} {ds : List PyData} (h : Dt K H v (.tuple ds)) : ∃ a vs, v = .ref a ∧ SqT K H a vs ∧ Dts K H vs ds := by
  cases h with
  | tup vs hs hl ha => exact ⟨_, vs, rfl, hs, hl, ha⟩
theorem Keep.dt {K : PySem.W.Frag} {H H' : Hp} (e : Keep K H H') {v : V} {d : PyData} (h : Dt K H v d) : Dt K H' v d := by
  induction h with
  | non => exact .non
  | bl b => exact .bl b
  | int i => exact .int i
  | str x => exact .str x
  | tup vs hs hl _ ih => exact .tup vs (e _ _ hs) hl ih
theorem Keep.dts {K : PySem.W.Frag} {H H' : Hp} (e : Keep K H H') {vs : List V} {ds : List PyData} (h : Dts K H vs ds) : Dts K H' vs ds := ⟨h.1, fun j v d a b => e.dt (h.2 j v d a b)⟩
theorem dpAll_of {K : PySem.W.Frag} {H : Hp} : ∀ {vs : List V} {ds : List PyData}, vs.length = ds.length → (∀ (j : Nat) (v : V) (d : PyData), vs[j]? = some v → ds[j]? = some d → Dp K H v d) → DpAll K H vs ds
  | [], [], _, _ => .nil
  | v :: vs, d :: ds, hl, h => .cons (h 0 v d rfl rfl) (dpAll_of (Nat.succ.inj hl) fun j u e a b => h (j + 1) u e a b)
theorem Dt.dp {K : PySem.W.Frag} {H : Hp} {v : V} {d : PyData} (h : Dt K H v d) : Dp K H v d := by
  induction h with
  | non => exact .non
  | bl b => exact .bl b
  | int i => exact .int i
  | str x => exact .str x
  | tup vs hs hl _ ih => exact .tup hs (dpAll_of hl ih)
/-! ### a law's state -/
structure Inf where
  c : Addr
  f : Addr
  size : Int
  place : Int
  turn : Int
  odd : Int
  talk : Int
structure Mv where
  att : Int
  rest : Int
  seed : Int
def stD (i : Inf) (m : Mv) : List (Key × V) :=
  [(.inr "cells", .ref i.c), (.inr "at", .int m.att), (.inr "size", .int i.size), (.inr "place", .int i.place), (.inr "turn", .int i.turn),
   (.inr "rest", .int m.rest), (.inr "functions", .ref i.f), (.inr "odd", .int i.odd), (.inr "talk", .int i.talk), (.inr "seed", .int m.seed)]
theorem p_at (i : Inf) (m : Mv) (n : Int) : putK (stD i m) (.inr "at") (.int n) = stD i { m with att := n } := by rfl
theorem p_rest (i : Inf) (m : Mv) (n : Int) : putK (stD i m) (.inr "rest") (.int n) = stD i { m with rest := n } := by rfl
theorem p_seed (i : Inf) (m : Mv) (n : Int) : putK (stD i m) (.inr "seed") (.int n) = stD i { m with seed := n } := by rfl
theorem p_size (i : Inf) (m : Mv) (n : Int) : putK (stD i m) (.inr "size") (.int n) = stD { i with size := n } m := by rfl
theorem p_place (i : Inf) (m : Mv) (n : Int) : putK (stD i m) (.inr "place") (.int n) = stD { i with place := n } m := by rfl
theorem p_turn (i : Inf) (m : Mv) (n : Int) : putK (stD i m) (.inr "turn") (.int n) = stD { i with turn := n } m := by rfl
theorem p_talk (i : Inf) (m : Mv) (n : Int) : putK (stD i m) (.inr "talk") (.int n) = stD { i with talk := n } m := by rfl
structure Inf.Ok (i : Inf) : Prop where
  s1 : 1 ≤ i.size
  s8 : i.size ≤ 8
  p0 : 0 ≤ i.place
  p1 : i.place < i.size
  t0 : 0 ≤ i.turn
  t1 : i.turn < 26
  k0 : 0 ≤ i.talk
  k1 : i.talk ≤ 1
structure Mv.Ok (m : Mv) : Prop where
  a0 : 0 ≤ m.att
  r0 : 0 ≤ m.rest
  e0 : 0 ≤ m.seed
/-- at s stands a law's state -/
def IsS (K : PySem.W.Frag) (H : Hp) (s : Addr) (i : Inf) : Prop := ∃ (ns : List Int) (m : Mv),
  H s = some (.dK (stD i m)) ∧ SqL K H i.c (ns.map V.int) ∧ ns.length ≤ 63 ∧ i.Ok ∧ m.Ok
theorem IsS.dk {K : PySem.W.Frag} {H : Hp} {s : Addr} {i : Inf} (h : IsS K H s i) : ∃ kvs, H s = some (.dK kvs) := let ⟨_, _, h, _⟩ := h; ⟨_, h⟩
theorem IsS.same {K : PySem.W.Frag} {H H' : Hp} {s : Addr} {i : Inf} (h : IsS K H s i) (e : Same H H') : IsS K H' s i := by
  obtain ⟨ns, m, a, b, c⟩ := h
  exact ⟨ns, m, e _ _ a, Same.seq e b, c⟩
theorem IsS.keep {K : PySem.W.Frag} {H H' : Hp} {s : Addr} {i : Inf} (h : IsS K H s i) (e : Ext s H H') : Keep K H H' := by
  obtain ⟨kvs, hk⟩ := h.dk
  exact e.keep hk
theorem IsS.seq {K : PySem.W.Frag} {H H' : Hp} {s a : Addr} {i : Inf} {xs : List V} (h : IsS K H s i) (e : Ext s H H') (q : SqL K H a xs) : SqL K H' a xs := by
  obtain ⟨kvs, hk⟩ := h.dk
  exact e.seq hk q
theorem IsS.ne {K : PySem.W.Frag} {H : Hp} {s D : Addr} {i : Inf} (h : IsS K H s i) (hD : H D = none) : D ≠ s := fun z => by
  obtain ⟨kvs, hk⟩ := h.dk
  rw [z, hk] at hD
  cases hD
/-- a list that is filled at D stands beside the state -/
theorem IsS.over {K : PySem.W.Frag} {H1 H3 : Hp} {s D : Addr} {i : Inf} {o : HO} (a : IsS K H1 s i) (b : IsS K H3 s i) (x : Ext s H1 (upd H3 D o)) (n : D ≠ s) : IsS K (upd H3 D o) s i := by
  obtain ⟨ns, m, a1, a2, a3, a4, _⟩ := a
  obtain ⟨_, m3, b1, _, _, _, b5⟩ := b
  exact ⟨ns, m3, by rw [upd_ne n.symm]; exact b1, x.seq a1 a2, a3, a4, b5⟩
theorem Ext.over {H1 H3 : Hp} {s D : Addr} (x : Ext s H1 H3) (hD : H1 D = none) (o : HO) : Ext s H1 (L2.upd H3 D o) := fun b u n h => by
  rw [upd_ne (ne_of_none h hD)]
  exact x b u n h
theorem gS {H : Hp} {s : Addr} {i : Inf} {m : Mv} {k : Str} {v : V} (h : H s = some (.dK (stD i m))) (e : valV (stD i m) (.inr k) = some v) : DGet H s (.str k) (some v) := by
  rw [← e]; exact DGet.k (k := Sum.inr k) h
theorem pS {H : Hp} {s : Addr} {i i' : Inf} {m m' : Mv} {k : Str} {v : V} (h : H s = some (.dK (stD i m))) (e : putK (stD i m) (.inr k) v = stD i' m') : DPut H s (.str k) v (upd H s (.dK (stD i' m'))) := by
  rw [← e]; exact DPut.k (k := Sum.inr k) h (by show 10 < sizeLine; decide)
/-- what a drawn number promises -/
def spTaken (K : PySem.W.Frag) : Sp := fun vs H Q _ => ∃ (s : Addr) (i : Inf) (m : Int), vs = [.ref s, .int m] ∧ IsS K H s i ∧ 0 < m ∧ m.natAbs < 2 ^ 200 ∧
  ∀ (r : Int) (H' : Hp), 0 ≤ r → r < m → Ext s H H' → IsS K H' s i → Q (.int r) H'
end Sc
namespace Sc
open PySem PySem.Spec PyProof.Rows L2
/-- the state that a law begins with -/
def spBegun (K : PySem.W.Frag) : Sp := fun vs H Q _ => ∃ (c : Addr) (ns : List Int), vs = [.ref c] ∧ SqL K H c (ns.map V.int) ∧ ns.length ≤ 63 ∧
  ∀ (s : Addr) (i : Inf) (H' : Hp), Same H H' → H s = none → i.c = c → i.odd = 0 → H' i.f = some (.lst []) → H i.f = none → IsS K H' s i → Q (.ref s) H'
end Sc
namespace Sc
open PySem PySem.Spec PyProof.Rows L2
/-! ### words -/
/-- one to eight of the letters from a to z -/
def Word (z : Str) : Prop := 1 ≤ z.cps.toList.length ∧ z.cps.toList.length ≤ 8 ∧ ∀ c ∈ z.cps.toList, 97 ≤ c ∧ c ≤ 122
def talks : List Str := ["size", "at", "row", "is", "has", "get", "put", "look", "let", "each", "fold", "if", "plus", "minus", "join", "push", "name", "text", "book"]
def signAt (n : Nat) : Str := ⟨#[n]⟩
/-- the word of a number -/
def wordOf (i : Inf) (k : Int) : Str :=
  if i.talk = 1 ∧ k < 19 then talks.getD k.toNat Str.empty else reps 113 i.place.toNat ++ signAt (97 + ((k + i.turn) % 26).toNat) ++ reps 113 (i.size - i.place - 1).toNat
theorem app_list (x y : Str) : (x ++ y).cps.toList = x.cps.toList ++ y.cps.toList := Array.toList_append
theorem len_list (x : Str) : x.length = x.cps.toList.length := (Array.length_toList ..).symm
theorem reps_list (c n : Nat) : (reps c n).cps.toList = List.replicate n c := rfl
instance (z : Str) : Decidable (Word z) := by unfold Word; infer_instance
theorem talks_word : ∀ z ∈ talks, Word z := by decide +kernel
theorem word_of {i : Inf} (h : i.Ok) {k : Int} (k0 : 0 ≤ k) : Word (wordOf i k) := by
  unfold wordOf
  split
  · rename_i c
    have lt : k.toNat < talks.length := by show k.toNat < 19; omega
    rw [List.getD_eq_getElem?_getD, List.getElem?_eq_getElem lt]
    exact talks_word _ (List.getElem_mem lt)
  · obtain ⟨s1, s8, p0, p1, t0, t1, _, _⟩ := h
    refine ⟨?_, ?_, fun c hc => ?_⟩
    · rw [app_list, app_list, reps_list, reps_list, List.length_append, List.length_append, List.length_replicate, List.length_replicate]
      show 1 ≤ _ + 1 + _
      omega
    · rw [app_list, app_list, reps_list, reps_list, List.length_append, List.length_append, List.length_replicate, List.length_replicate]
      show _ + 1 + _ ≤ 8
      omega
    · rw [app_list, app_list, reps_list, reps_list, List.mem_append, List.mem_append, List.mem_replicate, List.mem_replicate] at hc
      rcases hc with (hc | hc) | hc
      · omega
      · have e : c = 97 + ((k + i.turn) % 26).toNat := List.mem_singleton.mp hc
        omega
      · omega
def spWord (K : PySem.W.Frag) : Sp := fun vs H Q _ => ∃ (s : Addr) (i : Inf) (k : Int), vs = [.ref s, .int k] ∧ IsS K H s i ∧ 0 ≤ k ∧
  ∀ (H' : Hp), Same H H' → Q (.str (wordOf i k)) H'
/-! ### kinds -/
inductive Ch where
  | num | txt
  | row (k : List Ch) | book (k : List Ch)
  | shape (fs : List (Str × List Ch))
  | letter (l : Str) | cut (l : Str) (hs : List Str)
  | any (w : Str) | wth (f : Str)
mutual
/-- a choice as Python's data -/
def pyC : Ch → PyData
  | .num => .tuple [.str "number"]
  | .txt => .tuple [.str "text"]
  | .row k => .tuple [.str "row", .tuple (pyL k)]
  | .book k => .tuple [.str "book", .tuple (pyL k)]
  | .shape fs => .tuple [.str "shape", .tuple (pyF fs)]
  | .letter l => .tuple [.str "letter", .str l]
  | .cut l hs => .tuple [.str "cut", .str l, .tuple (hs.map .str)]
  | .any w => .tuple [.str "some", .str w]
  | .wth f => .tuple [.str "with", .str f]
def pyL : List Ch → List PyData
  | [] => []
  | c :: r => pyC c :: pyL r
def pyF : List (Str × List Ch) → List PyData
  | [] => []
  | (f, k) :: r => .tuple [.str f, .tuple (pyL k)] :: pyF r
end
theorem pyL_map : ∀ k : List Ch, pyL k = k.map pyC
  | [] => rfl
  | c :: r => by rw [pyL, pyL_map r]; rfl
theorem pyF_map : ∀ fs : List (Str × List Ch), pyF fs = fs.map fun p => .tuple [.str p.1, .tuple (pyL p.2)]
  | [] => rfl
  | (f, k) :: r => by rw [pyF, pyF_map r]; rfl
/-- the value v is the kind k, the choice c -/
abbrev IsK (K : PySem.W.Frag) (H : Hp) (v : V) (k : List Ch) : Prop := Dt K H v (.tuple (pyL k))
abbrev IsC (K : PySem.W.Frag) (H : Hp) (v : V) (c : Ch) : Prop := Dt K H v (pyC c)
/-- a shape's fields: some words, ascending -/
def Fld (zs : List Str) : Prop := zs ≠ [] ∧ zs.length ≤ 26 ∧ zs.Nodup ∧ sortedS zs = true ∧ ∀ z ∈ zs, Word z
mutual
/-- what a law draws: to n deep, letters of ls -/
def okC (ls : List Str) : Nat → Ch → Prop
  | _, .num => True
  | _, .txt => True
  | n, .row k => 0 < n ∧ k ≠ [] ∧ k.length ≤ 3 ∧ okL ls (n - 1) k
  | n, .book k => 0 < n ∧ k ≠ [] ∧ k.length ≤ 3 ∧ okL ls (n - 1) k
  | n, .shape fs => 0 < n ∧ fs.length ≤ 2 ∧ Fld (fs.map (·.1)) ∧ okF ls (n - 1) fs
  | _, .letter l => l ∈ ls
  | _, _ => False
def okL (ls : List Str) : Nat → List Ch → Prop
  | _, [] => True
  | n, c :: r => okC ls n c ∧ okL ls n r
def okF (ls : List Str) : Nat → List (Str × List Ch) → Prop
  | _, [] => True
  | n, (f, k) :: r => Word f ∧ k ≠ [] ∧ k.length ≤ 3 ∧ okL ls n k ∧ okF ls n r
end
theorem okL_snoc {ls : List Str} {n : Nat} {c : Ch} (h : okC ls n c) : ∀ {k : List Ch}, okL ls n k → okL ls n (k ++ [c])
  | [], _ => ⟨h, trivial⟩
  | _ :: _, a => ⟨a.1, okL_snoc h a.2⟩
theorem okF_snoc {ls : List Str} {n : Nat} {f : Str} {l : List Ch} (w : Word f) (l0 : l ≠ []) (l3 : l.length ≤ 3) (h : okL ls n l) : ∀ {fs : List (Str × List Ch)}, okF ls n fs → okF ls n (fs ++ [(f, l)])
  | [], _ => ⟨w, l0, l3, h, trivial⟩
  | _ :: _, a => ⟨a.1, a.2.1, a.2.2.1, a.2.2.2.1, okF_snoc w l0 l3 h a.2.2.2.2⟩
/-- a drawn kind, a drawn choice, drawn fields -/
def spKind (K : PySem.W.Frag) (n : Nat) : Sp := fun vs H Q _ => ∃ (s l : Addr) (i : Inf) (d : Nat) (ls : List Str), vs = [.ref s, .int d, .ref l] ∧ IsS K H s i ∧ d < n ∧ SqL K H l (ls.map V.str) ∧ ls.length ≤ 1000 ∧
  ∀ (v : V) (H' : Hp) (k : List Ch), Ext s H H' → IsS K H' s i → IsK K H' v k → k ≠ [] → k.length ≤ 3 → okL ls d k → Q v H'
def spChoice (K : PySem.W.Frag) (n : Nat) : Sp := fun vs H Q _ => ∃ (s l : Addr) (i : Inf) (d : Nat) (ls : List Str), vs = [.ref s, .int d, .ref l] ∧ IsS K H s i ∧ d < n ∧ SqL K H l (ls.map V.str) ∧ ls.length ≤ 1000 ∧
  ∀ (v : V) (H' : Hp) (c : Ch), Ext s H H' → IsS K H' s i → IsC K H' v c → okC ls d c → Q v H'
def spFields (K : PySem.W.Frag) (n : Nat) : Sp := fun vs H Q _ => ∃ (s l : Addr) (i : Inf) (d : Nat) (ls : List Str), vs = [.ref s, .int (d + 1 : Nat), .ref l] ∧ IsS K H s i ∧ d < n ∧ SqL K H l (ls.map V.str) ∧ ls.length ≤ 1000 ∧
  ∀ (v : V) (H' : Hp) (fs : List (Str × List Ch)), Ext s H H' → IsS K H' s i → Dt K H' v (.tuple (pyF fs)) → fs.length ≤ 2 → Fld (fs.map (·.1)) → okF ls d fs → Q v H'
end Sc
namespace Sc
open PySem PySem.Spec PyProof.Rows L2
/-! ### tests that change nothing -/
theorem and_pure {t u : TT} {σ : L2.St} {H : Hp} {Q : Bool → Hp → Prop} (c1 c2 : Bool) (h1 : ∀ R : Bool → Hp → Prop, R c1 H → t σ H R) (h2 : c1 = true → ∀ R : Bool → Hp → Prop, R c2 H → u σ H R) (hT : c1 = true → c2 = true → Q true H) (hF : ¬ (c1 = true ∧ c2 = true) → Q false H) : tAnd t u σ H Q := by
  refine h1 _ (ite2 (fun a => h2 a _ ?_) fun a => hF fun z => a z.1)
  cases b : c2 with
  | true => exact hT a b
  | false => exact hF fun z => by rw [b] at z; exact Bool.false_ne_true z.2
theorem or_pure {t u : TT} {σ : L2.St} {H : Hp} {Q : Bool → Hp → Prop} (c1 c2 : Bool) (h1 : ∀ R : Bool → Hp → Prop, R c1 H → t σ H R) (h2 : c1 = false → ∀ R : Bool → Hp → Prop, R c2 H → u σ H R) (hT : (c1 = true ∨ c2 = true) → Q true H) (hF : c1 = false → c2 = false → Q false H) : tOr t u σ H Q := by
  refine h1 _ (ite2 (fun a => hT (.inl a)) fun a => h2 (Bool.eq_false_iff.mpr a) _ ?_)
  cases b : c2 with
  | true => exact hT (.inr b)
  | false => exact hF (Bool.eq_false_iff.mpr a) b
theorem eqV_str (x y : Str) : decide (V.str x = V.str y) = decide (x = y) := by
  by_cases h : x = y
  · subst h; simp
  · rw [decide_eq_false h, decide_eq_false]; exact fun z => h (V.str.inj z)
theorem eqV_int (x y : Int) : decide (V.int x = V.int y) = decide (x = y) := by
  by_cases h : x = y
  · subst h; simp
  · rw [decide_eq_false h, decide_eq_false]; exact fun z => h (V.int.inj z)
end Sc
namespace Sc
open PySem PySem.Spec PyProof.Rows L2
theorem iteNo {c A B : Prop} [Decidable c] (h : ¬ c) (b : B) : if c then A else B := by rw [if_neg h]; exact b
theorem iteYes {c A B : Prop} [Decidable c] (h : c) (a : A) : if c then A else B := by rw [if_pos h]; exact a
/-! ### values -/
inductive Vl where
  | num (n : Int) | text (t : Str)
  | row (xs : List Vl) | book (xs : List (Str × Vl)) | shape (xs : List (Str × Vl))
/-- the value x stands at v, its objects among B -/
inductive IsV (H : Hp) (B : Addr → Prop) : V → Vl → Prop
  | num (n : Int) : IsV H B (.int n) (.num n)
  | text (t : Str) : IsV H B (.str t) (.text t)
  | row {a : Addr} (vs : List V) (xs : List Vl) : B a → H a = some (.lst vs) → vs.length = xs.length → (∀ (j : Nat) (v : V) (x : Vl), vs[j]? = some v → xs[j]? = some x → IsV H B v x) → IsV H B (.ref a) (.row xs)
  | book {a : Addr} (vs : List V) (xs : List (Str × Vl)) : B a → H a = some (.dK ((xs.map fun q => Sum.inr q.1).zip vs)) → vs.length = xs.length → (xs.map (·.1)).Nodup → (∀ (j : Nat) (v : V) (q : Str × Vl), vs[j]? = some v → xs[j]? = some q → IsV H B v q.2) → IsV H B (.ref a) (.book xs)
  | shape {a : Addr} (as : List Addr) (vs : List V) (xs : List (Str × Vl)) : Fld (xs.map (·.1)) → B a → H a = some (.tup (as.map V.ref)) → as.length = xs.length → vs.length = xs.length →
      (∀ (j : Nat) (b : Addr) (v : V) (q : Str × Vl), as[j]? = some b → vs[j]? = some v → xs[j]? = some q → B b ∧ H b = some (.tup [.str q.1, v])) →
      (∀ (j : Nat) (v : V) (q : Str × Vl), vs[j]? = some v → xs[j]? = some q → IsV H B v q.2) → IsV H B (.ref a) (.shape xs)
theorem IsV.keep {H H' : Hp} {B B' : Addr → Prop} (e : ∀ a o, B a → H a = some o → B' a ∧ H' a = some o) {v : V} {x : Vl} (h : IsV H B v x) : IsV H' B' v x := by
  induction h with
  | num n => exact .num n
  | text t => exact .text t
  | row vs xs b hv hl _ ih => exact .row vs xs (e _ _ b hv).1 (e _ _ b hv).2 hl ih
  | book vs xs b hv hl nd _ ih => exact .book vs xs (e _ _ b hv).1 (e _ _ b hv).2 hl nd ih
  | shape as vs xs fld b ha hl hl2 hp _ ih => exact .shape as vs xs fld (e _ _ b ha).1 (e _ _ b ha).2 hl hl2 (fun j b v q h1 h2 h3 => let ⟨h4, h5⟩ := hp j b v q h1 h2 h3; e _ _ h4 h5) ih
/-- values one by one -/
def IsVs (H : Hp) (B : Addr → Prop) (vs : List V) (xs : List Vl) : Prop := vs.length = xs.length ∧ ∀ (j : Nat) (v : V) (x : Vl), vs[j]? = some v → xs[j]? = some x → IsV H B v x
theorem IsVs.nil {H : Hp} {B : Addr → Prop} : IsVs H B [] [] := ⟨rfl, fun j v d h => by simp at h⟩
theorem IsVs.keep {H H' : Hp} {B B' : Addr → Prop} (e : ∀ a o, B a → H a = some o → B' a ∧ H' a = some o) {vs : List V} {xs : List Vl} (h : IsVs H B vs xs) : IsVs H' B' vs xs := ⟨h.1, fun j v x a b => (h.2 j v x a b).keep e⟩
theorem IsVs.snoc {H : Hp} {B : Addr → Prop} {v : V} {d : Vl} {vs : List V} {ds : List Vl} (t : IsVs H B vs ds) (h : IsV H B v d) : IsVs H B (vs ++ [v]) (ds ++ [d]) := by
  refine ⟨by rw [List.length_append, List.length_append, t.1]; rfl, fun j u e h1 h2 => ?_⟩
  by_cases lt : j < vs.length
  · rw [List.getElem?_append_left lt] at h1
    rw [List.getElem?_append_left (t.1 ▸ lt)] at h2
    exact t.2 j u e h1 h2
  · rw [List.getElem?_append_right (by omega)] at h1
    rw [List.getElem?_append_right (by have := t.1; omega)] at h2
    have z : j - vs.length = 0 := by
      have := (List.getElem?_eq_some_iff.mp h1).1
      simp at this
      omega
    rw [z] at h1
    rw [← t.1, z] at h2
    cases h1; cases h2; exact h
/-- what a value's type is -/
def headT : Vl → String
  | .num _ => "int" | .text _ => "str" | .row _ => "list" | .book _ => "dict" | .shape _ => "tuple"
theorem IsV.ty {K : PySem.W.Frag} {H : Hp} {B : Addr → Prop} {v : V} {x : Vl} (h : IsV H B v x) : TyX K H v (.type (headT x)) := by
  cases h with
  | num n => exact .base (.int n)
  | text t => exact .base (.str t)
  | row vs xs b hv => exact .base (.lst hv)
  | book vs xs b hv => exact .base (.dK hv)
  | shape as vs xs _ b ha => exact .base (.tup ha)
/-! ### heads -/
def blank : Str := " "
/-- the head's text of fields, behind the word shape -/
def headV : Vl → Str
  | .num _ => "number" | .text _ => "text" | .row _ => "row" | .book _ => "book" | .shape xs => Txt.join " " ("shape" :: xs.map (·.1))
theorem joinL_cons (S p : List Nat) : ∀ ps : List (List Nat), ps ≠ [] → TL.joinL S (p :: ps) = p ++ (S ++ TL.joinL S ps)
  | [], h => absurd rfl h
  | _ :: _, _ => rfl
end Sc
namespace Sc
open PySem PySem.Spec PyProof.Rows L2
/-- a text of up to three signs, from the blank to ~ but the percent sign -/
def Tex (t : Str) : Prop := t.cps.toList.length ≤ 3 ∧ ∀ c ∈ t.cps.toList, 32 ≤ c ∧ c ≤ 126 ∧ c ≠ 37
def spText (K : PySem.W.Frag) : Sp := fun vs H Q _ => ∃ (s : Addr) (i : Inf), vs = [.ref s] ∧ IsS K H s i ∧
  ∀ (t : Str) (H' : Hp), Ext s H H' → IsS K H' s i → Tex t → Q (.str t) H'
def spNumber (K : PySem.W.Frag) : Sp := fun vs H Q _ => ∃ (s : Addr) (i : Inf), vs = [.ref s] ∧ IsS K H s i ∧
  ∀ (n : Int) (H' : Hp), Ext s H H' → IsS K H' s i → -10 ^ 30 < n → n < 10 ^ 30 → Q (.int n) H'
/-- a drawn value of a kind without letters -/
def spValue (K : PySem.W.Frag) (n : Nat) : Sp := fun vs H Q _ => ∃ (s : Addr) (i : Inf) (v st : V) (d : Nat) (k : List Ch), vs = [.ref s, v, st] ∧ IsS K H s i ∧ d < n ∧ IsK K H v k ∧ k ≠ [] ∧ k.length ≤ 3 ∧ okL [] d k ∧
  ∀ (r : V) (H' : Hp) (x : Vl), Ext s H H' → IsS K H' s i → IsV H' (fun a => H a = none) r x → Q r H'
theorem IsS.freed {K : PySem.W.Frag} {H H' : Hp} {s l : Addr} {i : Inf} (a : IsS K H s i) (b : IsS K H' s i) (e : Ext s H H') (h : H' l = none) : H l = none := by
  obtain ⟨k1, h1⟩ := a.dk
  obtain ⟨k2, h2⟩ := b.dk
  exact e.free h1 ⟨_, h2⟩ h
end Sc
namespace Sc
open PySem PySem.Spec PyProof.Rows L2
/-- what follows, once for all ways -/
theorem seq_with {t u : TS} {D : Ends} {σ : L2.St} {H : Hp} (F : (L2.St → Hp → Prop) → Prop) (h1 : F (u D)) (h2 : F (u D) → t { D with nx := u D } σ H) : tSeq t u D σ H := h2 h1
theorem mem_put {kvs : List (Key × V)} {k : Key} {v : V} {p : Key × V} (h : p ∈ putK kvs k v) : p = (k, v) ∨ p ∈ kvs := by
  unfold putK at h
  split at h
  · obtain ⟨q, hq, e⟩ := List.mem_map.mp h
    by_cases z : q.1 = k
    · rw [if_pos z] at e
      exact .inl (e ▸ z ▸ rfl)
    · rw [if_neg z] at e
      exact .inr (e ▸ hq)
  · rcases List.mem_append.mp h with h | h
    · exact .inr h
    · exact .inl (List.mem_singleton.mp h)
theorem nd_put {kvs : List (Key × V)} (k : Key) (v : V) (nd : (kvs.map (·.1)).Nodup) : ((putK kvs k v).map (·.1)).Nodup := by
  cases z : valV kvs k with
  | none => exact nd_putK v nd z
  | some y =>
    have e : (putK kvs k v).map (·.1) = kvs.map (·.1) := by
      unfold putK
      rw [valV_any, z, if_pos (show (some y).isSome = true from rfl), List.map_map]
      refine List.map_congr_left fun p _ => ?_
      show (if p.1 = k then (p.1, v) else p).1 = p.1
      split <;> rfl
    rw [e]
    exact nd
theorem put_len (kvs : List (Key × V)) (k : Key) (v : V) : (putK kvs k v).length ≤ kvs.length + 1 := by
  unfold putK
  split
  · rw [List.length_map]; omega
  · rw [List.length_append]; exact Nat.le_refl _
/-- a dict of texts with values, as a book -/
theorem book_of {H : Hp} {B : Addr → Prop} : ∀ kvs : List (Key × V), (∀ p ∈ kvs, ∃ t x, p.1 = Sum.inr t ∧ IsV H B p.2 x) → (kvs.map (·.1)).Nodup →
    ∃ (vs : List V) (xs : List (Str × Vl)), kvs = (xs.map fun q => Sum.inr q.1).zip vs ∧ vs.length = xs.length ∧ (xs.map (·.1)).Nodup ∧ (∀ t, t ∈ xs.map (·.1) → (Sum.inr t : Key) ∈ kvs.map (·.1)) ∧ ∀ (j : Nat) (v : V) (q : Str × Vl), vs[j]? = some v → xs[j]? = some q → IsV H B v q.2
  | [], _, _ => ⟨[], [], rfl, rfl, List.nodup_nil, fun t h => by simp at h, fun j v q h => by simp at h⟩
  | (k, v) :: r, h, nd => by
    obtain ⟨t, x, rfl, hx⟩ := h _ List.mem_cons_self
    have nd' : ((Sum.inr t : Key) :: r.map (·.1)).Nodup := nd
    obtain ⟨n1, n2⟩ := List.nodup_cons.mp nd'
    obtain ⟨vs, xs, e, hl, nd2, hm, ha⟩ := book_of r (fun p hp => h p (List.mem_cons_of_mem _ hp)) n2
    refine ⟨v :: vs, (t, x) :: xs, by rw [e]; rfl, congrArg (· + 1) hl, List.nodup_cons.mpr ⟨fun z => n1 (hm t z), nd2⟩, fun u hu => ?_, fun j v' q h1 h2 => ?_⟩
    · rcases List.mem_cons.mp hu with z | z
      · rw [z]; exact List.mem_cons_self
      · exact List.mem_cons_of_mem _ (hm u z)
    · cases j with
      | zero => cases h1; cases h2; exact hx
      | succ j => exact ha j v' q h1 h2
theorem okL_mem {ls : List Str} {n : Nat} {c : Ch} : ∀ {k : List Ch}, okL ls n k → c ∈ k → okC ls n c
  | _ :: _, h, m => by
    rcases List.mem_cons.mp m with z | z
    · rw [z]; exact h.1
    · exact okL_mem h.2 z
theorem okF_mem {ls : List Str} {n : Nat} {p : Str × List Ch} : ∀ {fs : List (Str × List Ch)}, okF ls n fs → p ∈ fs → Word p.1 ∧ p.2 ≠ [] ∧ p.2.length ≤ 3 ∧ okL ls n p.2
  | (_, _) :: _, h, m => by
    rcases List.mem_cons.mp m with z | z
    · rw [z]; exact ⟨h.1, h.2.1, h.2.2.1, h.2.2.2.1⟩
    · exact okF_mem h.2.2.2.2 z
end Sc
namespace Sc
open PySem PySem.Spec PyProof.Rows L2
section
variable {X : Cx}
/-! rules within a comprehension's block: the written part said by its name -/
theorem ix_tupK (K : PySem.W.Frag) (h : X.K = K := by rfl) : IxR X (rIxT K) := h ▸ ix_tup
theorem ix_listK (K : PySem.W.Frag) (h : X.K = K := by rfl) : IxR X (rIxL K) := h ▸ ix_list
end
end Sc
namespace Sc
open PySem PySem.Spec PyProof.Rows L2
theorem Dt.strOf {K : PySem.W.Frag} {H : Hp} {v : V} {z : Str} (h : Dt K H v (.str z)) : v = .str z := by cases h; rfl
theorem Dts.uncons {K : PySem.W.Frag} {H : Hp} {vs : List V} {d : PyData} {ds : List PyData} (h : Dts K H vs (d :: ds)) : ∃ v us, vs = v :: us ∧ Dt K H v d ∧ Dts K H us ds := by
  cases vs with
  | nil => exact absurd h.1 (by simp)
  | cons v us => exact ⟨v, us, rfl, h.head, h.tail⟩
theorem Dts.unnil {K : PySem.W.Frag} {H : Hp} {vs : List V} (h : Dts K H vs []) : vs = [] := List.length_eq_zero_iff.mp h.1
/-- a tuple of a text -/
theorem Dt.one {K : PySem.W.Frag} {H : Hp} {v : V} {z : Str} (h : Dt K H v (.tuple [.str z])) : ∃ a, v = .ref a ∧ SqT K H a [.str z] := by
  obtain ⟨a, vs, rfl, ht, hd⟩ := h.open
  obtain ⟨u, us, rfl, h1, h2⟩ := hd.uncons
  rw [h1.strOf, h2.unnil] at ht
  exact ⟨a, rfl, ht⟩
/-- a tuple of a text and more -/
theorem Dt.two {K : PySem.W.Frag} {H : Hp} {v : V} {z : Str} {d : PyData} (h : Dt K H v (.tuple [.str z, d])) : ∃ a u, v = .ref a ∧ SqT K H a [.str z, u] ∧ Dt K H u d := by
  obtain ⟨a, vs, rfl, ht, hd⟩ := h.open
  obtain ⟨u, us, rfl, h1, h2⟩ := hd.uncons
  obtain ⟨u2, us2, rfl, h3, h4⟩ := h2.uncons
  rw [h1.strOf, h4.unnil] at ht
  exact ⟨a, u2, rfl, ht, h3⟩
theorem drawn_form {d : Nat} {c : Ch} (h : okC [] d c) : c = .num ∨ c = .txt ∨ (∃ d' fs, d = d' + 1 ∧ c = .shape fs ∧ Fld (fs.map (·.1)) ∧ fs.length ≤ 2 ∧ okF [] d' fs) ∨
    ∃ (d' : Nat) (wd : Str) (kk : List Ch), d = d' + 1 ∧ (wd = "row" ∨ wd = "book") ∧ pyC c = .tuple [.str wd, .tuple (pyL kk)] ∧ kk ≠ [] ∧ kk.length ≤ 3 ∧ okL [] d' kk := by
  cases c with
  | num => exact .inl rfl
  | txt => exact .inr (.inl rfl)
  | row k =>
    obtain ⟨h0, h1, h2, h3⟩ : 0 < d ∧ k ≠ [] ∧ k.length ≤ 3 ∧ okL [] (d - 1) k := h
    exact .inr (.inr (.inr ⟨d - 1, "row", k, by omega, .inl rfl, rfl, h1, h2, h3⟩))
  | book k =>
    obtain ⟨h0, h1, h2, h3⟩ : 0 < d ∧ k ≠ [] ∧ k.length ≤ 3 ∧ okL [] (d - 1) k := h
    exact .inr (.inr (.inr ⟨d - 1, "book", k, by omega, .inr rfl, rfl, h1, h2, h3⟩))
  | shape fs =>
    obtain ⟨h0, h1, h2, h3⟩ : 0 < d ∧ fs.length ≤ 2 ∧ Fld (fs.map (·.1)) ∧ okF [] (d - 1) fs := h
    exact .inr (.inr (.inl ⟨d - 1, fs, by omega, rfl, h2, h1, h3⟩))
  | letter l => exact absurd (show l ∈ [] from h) (by simp)
  | cut l hs => exact (show False from h).elim
  | any l => exact (show False from h).elim
  | wth l => exact (show False from h).elim
end Sc
namespace Sc
open PySem PySem.Spec PyProof.Rows L2
/-! ### the names that lead pairs -/
def Names (K : PySem.W.Frag) (H : Hp) (a : Addr) (zs : List Str) : Prop := ∃ ps : List V, SqT K H a ps ∧ ps.length = zs.length ∧ ∀ (j : Nat) (p : V) (z : Str), ps[j]? = some p → zs[j]? = some z → ∃ b us, p = .ref b ∧ SqT K H b (.str z :: us)
theorem names_shape {K : PySem.W.Frag} {H : Hp} {B : Addr → Prop} {v : V} {xs : List (Str × Vl)} (h : IsV H B v (.shape xs)) : ∃ a, v = .ref a ∧ Names K H a (xs.map (·.1)) ∧ Fld (xs.map (·.1)) := by
  cases h with
  | @shape a as vs xs fld b ha hl hl2 hp hv =>
    refine ⟨a, rfl, ⟨as.map V.ref, SqT.of ha, by rw [List.length_map, List.length_map, hl], fun j p z h1 h2 => ?_⟩, fld⟩
    rw [List.getElem?_map] at h1 h2
    obtain ⟨b', h3, rfl⟩ := Option.map_eq_some_iff.mp h1
    obtain ⟨q, h4, rfl⟩ := Option.map_eq_some_iff.mp h2
    have lt : j < vs.length := by rw [hl2]; exact (List.getElem?_eq_some_iff.mp h4).1
    exact ⟨b', [vs[j]], rfl, SqT.of (hp j b' vs[j] q h3 (List.getElem?_eq_getElem lt) h4).2⟩
theorem names_kind {K : PySem.W.Frag} {H : Hp} {v : V} {fs : List (Str × List Ch)} (h : Dt K H v (.tuple (pyF fs))) : ∃ a, v = .ref a ∧ Names K H a (fs.map (·.1)) := by
  obtain ⟨a, ps, rfl, ht, hd⟩ := h.open
  refine ⟨a, rfl, ps, ht, by rw [hd.1, pyF_map, List.length_map, List.length_map], fun j p z h1 h2 => ?_⟩
  obtain ⟨d, h3, h4⟩ := hd.at h1
  rw [pyF_map, List.getElem?_map] at h3
  rw [List.getElem?_map] at h2
  obtain ⟨q, h5, rfl⟩ := Option.map_eq_some_iff.mp h3
  obtain ⟨q', h6, rfl⟩ := Option.map_eq_some_iff.mp h2
  rw [h5] at h6
  cases h6
  obtain ⟨b, u, e, hb, _⟩ := h4.two
  exact ⟨b, [u], e, hb⟩
theorem Keep.names {K : PySem.W.Frag} {H H' : Hp} {a : Addr} {zs : List Str} (e : Keep K H H') (h : Names K H a zs) : Names K H' a zs := by
  obtain ⟨ps, h1, h2, h3⟩ := h
  exact ⟨ps, e _ _ h1, h2, fun j p z g1 g2 => let ⟨b, us, e1, e2⟩ := h3 j p z g1 g2; ⟨b, us, e1, e _ _ e2⟩⟩
theorem Fld.sum {zs : List Str} (h : Fld zs) : (zs.map (·.length)).sum ≤ 208 := by
  obtain ⟨_, h26, _, _, hw⟩ := h
  have g : ∀ zs : List Str, (∀ z ∈ zs, Word z) → (zs.map (·.length)).sum ≤ zs.length * 8 := fun zs => by
    induction zs with
    | nil => exact fun _ => Nat.le_refl _
    | cons z zs ih =>
      intro h
      have := ih fun y hy => h y (List.mem_cons_of_mem _ hy)
      have := (h z List.mem_cons_self).2.1
      rw [List.map_cons, List.sum_cons, len_list, List.length_cons]
      omega
  have := g zs hw
  omega
def spShapeHead (K : PySem.W.Frag) : Sp := fun vs H Q _ => ∃ (a : Addr) (zs : List Str), vs = [.ref a] ∧ Names K H a zs ∧ zs.length ≤ 100 ∧ (zs.map (·.length)).sum ≤ 10000 ∧
  ∀ (H' : Hp), Same H H' → Q (.str (Txt.join " " ("shape" :: zs))) H'
def spHeadOf (K : PySem.W.Frag) : Sp := fun vs H Q _ => ∃ (v : V) (B : Addr → Prop) (x : Vl), vs = [v] ∧ IsV H B v x ∧
  ∀ (H' : Hp), Same H H' → Q (.str (headV x)) H'
theorem sum_le_add (zs : List Str) (n : Nat) : (zs.map (·.length)).sum + zs.length * n = (zs.map fun z => z.length + n).sum := by
  induction zs with
  | nil => simp
  | cons z zs ih =>
    rw [List.map_cons, List.map_cons, List.sum_cons, List.sum_cons, List.length_cons, ← ih, Nat.add_mul]
    omega
/-- shape, and the fields behind it -/
theorem head_text {zs : List Str} (h : zs ≠ []) : Txt.join " " ("shape" :: zs) = ("shape " : Str) ++ Txt.join " " zs := by
  refine TL.ext_tl ?_
  rw [TL.tl_append, TL.join_eq, TL.join_eq, TL.tl_join, TL.tl_join, List.map_cons, joinL_cons _ _ _ (by simpa using h), ← List.append_assoc]
  congr 1
/-! ### words that differ -/
def odds (z : Str) : Nat := (z.cps.toList.filter fun c => decide (c ≠ 113)).length
theorem talks_odds : ∀ z ∈ talks, 2 ≤ odds z := by decide +kernel
theorem talks_nodup : talks.Nodup := by decide +kernel
theorem plain_odds (p c r : Nat) : odds (reps 113 p ++ signAt c ++ reps 113 r) ≤ 1 := by
  unfold odds
  have z : ∀ n, (List.replicate n 113).filter (fun c => decide (c ≠ 113)) = [] := fun n => List.filter_eq_nil_iff.mpr fun a h => by
    rw [(List.mem_replicate.mp h).2]; decide
  rw [app_list, app_list, reps_list, reps_list, List.filter_append, List.filter_append, z, z, List.nil_append, List.append_nil]
  show ([c].filter _).length ≤ 1
  exact List.length_filter_le _ _
theorem word_inj {i : Inf} (ok : i.Ok) {a b : Int} (a0 : 0 ≤ a) (a26 : a < 26) (b0 : 0 ≤ b) (b26 : b < 26) (h : wordOf i a = wordOf i b) : a = b := by
  have tk : ∀ k : Int, 0 ≤ k → k < 19 → ∃ lt : k.toNat < talks.length, talks.getD k.toNat Str.empty = talks[k.toNat] := fun k k0 k1 => by
    have lt : k.toNat < talks.length := by show k.toNat < 19; omega
    exact ⟨lt, by rw [List.getD_eq_getElem?_getD, List.getElem?_eq_getElem lt]; rfl⟩
  unfold wordOf at h
  split at h <;> split at h
  · rename_i ca cb
    obtain ⟨la, ea⟩ := tk a a0 ca.2
    obtain ⟨lb, eb⟩ := tk b b0 cb.2
    rw [ea, eb] at h
    have := (List.getElem_inj talks_nodup).mp h
    omega
  · rename_i ca cb
    obtain ⟨la, ea⟩ := tk a a0 ca.2
    have := talks_odds _ (List.getElem_mem la)
    rw [← ea, h] at this
    exact absurd (Nat.le_trans this (plain_odds _ _ _)) (by decide)
  · rename_i ca cb
    obtain ⟨lb, eb⟩ := tk b b0 cb.2
    have := talks_odds _ (List.getElem_mem lb)
    rw [← eb, ← h] at this
    exact absurd (Nat.le_trans this (plain_odds _ _ _)) (by decide)
  · have e := congrArg (fun z : Str => z.cps.toList[i.place.toNat]?) h
    rw [app_list, app_list, app_list, app_list, reps_list, reps_list] at e
    have g : ∀ c : Nat, (List.replicate i.place.toNat 113 ++ (signAt c).cps.toList ++ List.replicate (i.size - i.place - 1).toNat 113)[i.place.toNat]? = some c := fun c => by
      rw [List.append_assoc, List.getElem?_append_right (by rw [List.length_replicate]; exact Nat.le_refl _), List.length_replicate, Nat.sub_self]
      rfl
    rw [g, g] at e
    have e2 := Option.some.inj e
    have t0 := ok.t0
    have t1 := ok.t1
    omega
end Sc
namespace Sc
open PySem PySem.Spec PyProof.Rows L2
theorem no_bool (x : Vl) : kitB (headT x) "bool" = some false := by
  cases x with
  | num _ => exact (by decide +kernel : kitB "int" "bool" = some false)
  | text _ => exact (by decide +kernel : kitB "str" "bool" = some false)
  | row _ => exact (by decide +kernel : kitB "list" "bool" = some false)
  | book _ => exact (by decide +kernel : kitB "dict" "bool" = some false)
  | shape _ => exact (by decide +kernel : kitB "tuple" "bool" = some false)
theorem joinL_len (S : List Nat) : ∀ ps : List (List Nat), (TL.joinL S ps).length ≤ (ps.map (·.length)).sum + ps.length * S.length
  | [] => Nat.zero_le _
  | [p] => by
    show p.length ≤ [p.length].sum + 1 * _
    simp
  | p :: q :: r => by
    have ih := joinL_len S (q :: r)
    rw [joinL_cons _ _ _ (by simp), List.length_append, List.length_append, List.map_cons, List.sum_cons, List.length_cons, Nat.add_mul]
    omega
theorem join_len (y : Str) (zs : List Str) : (Txt.join y zs).length ≤ (zs.map (·.length)).sum + zs.length * y.length := by
  have e : (Txt.join y zs).length = (TL.joinL (TL.tl y) (zs.map TL.tl)).length := by
    rw [len_list]
    exact congrArg List.length ((congrArg TL.tl (TL.join_eq y zs)).trans (TL.tl_join y zs))
  rw [e]
  refine Nat.le_trans (joinL_len _ _) ?_
  rw [List.map_map, List.length_map, len_list y]
  refine Nat.add_le_add_right (Nat.le_of_eq (congrArg List.sum (List.map_congr_left fun z _ => ?_))) _
  exact (len_list z).symm
end Sc
namespace Sc
open PySem PySem.Spec PyProof.Rows L2
/-! ### the texts of kinds -/
def mkS (l : List Nat) : Str := ⟨l.toArray⟩
theorem tl_mkS (l : List Nat) : TL.tl (mkS l) = l := rfl
theorem mkS_tl (z : Str) : mkS (TL.tl z) = z := TL.ext_tl rfl
def bar : List Nat := TL.tl " | "
def com : List Nat := TL.tl ", "
mutual
/-- the signs of a choice's text -/
def cC : Ch → List Nat
  | .num => TL.tl "number"
  | .txt => TL.tl "text"
  | .row k => TL.tl "row" ++ 40 :: (TL.joinL bar (cL k) ++ [41])
  | .book k => TL.tl "book" ++ 40 :: (TL.joinL bar (cL k) ++ [41])
  | .shape fs => 123 :: (TL.joinL com (cF fs) ++ [125])
  | .letter l => TL.tl l
  | .cut l hs => TL.tl l ++ 40 :: (TL.joinL com (hs.map TL.tl) ++ [41])
  | .any w => TL.tl "some" ++ 32 :: TL.tl w
  | .wth f => TL.tl "with" ++ 32 :: TL.tl f
def cL : List Ch → List (List Nat)
  | [] => []
  | c :: r => cC c :: cL r
def cF : List (Str × List Ch) → List (List Nat)
  | [] => []
  | (f, k) :: r => (TL.tl f ++ 58 :: 32 :: TL.joinL bar (cL k)) :: cF r
end
theorem cL_map : ∀ k : List Ch, cL k = k.map cC
  | [] => rfl
  | c :: r => by rw [cL, cL_map r]; rfl
theorem cF_map : ∀ fs : List (Str × List Ch), cF fs = fs.map fun p => TL.tl p.1 ++ 58 :: 32 :: TL.joinL bar (cL p.2)
  | [] => rfl
  | (f, k) :: r => by rw [cF, cF_map r]; rfl
def txC (c : Ch) : Str := mkS (cC c)
def txK (k : List Ch) : Str := mkS (TL.joinL bar (cL k))
def txF (p : Str × List Ch) : Str := mkS (TL.tl p.1 ++ 58 :: 32 :: TL.joinL bar (cL p.2))
theorem txK_join (k : List Ch) : Txt.join " | " (k.map txC) = txK k := by
  refine TL.ext_tl ?_
  rw [TL.join_eq, TL.tl_join, List.map_map]
  show TL.joinL bar (k.map cC) = TL.joinL bar (cL k)
  rw [cL_map]
mutual
/-- how deep -/
def dC : Ch → Nat
  | .row k => dL k + 1
  | .book k => dL k + 1
  | .shape fs => dF fs + 1
  | _ => 0
def dL : List Ch → Nat
  | [] => 0
  | c :: r => max (dC c) (dL r)
def dF : List (Str × List Ch) → Nat
  | [] => 0
  | (_, k) :: r => max (dL k) (dF r)
end
theorem dL_mem {c : Ch} : ∀ {k : List Ch}, c ∈ k → dC c ≤ dL k
  | d :: r, h => by
    rcases List.mem_cons.mp h with e | e
    · rw [e]; exact Nat.le_max_left _ _
    · exact Nat.le_trans (dL_mem e) (Nat.le_max_right _ _)
theorem dF_mem {p : Str × List Ch} : ∀ {fs : List (Str × List Ch)}, p ∈ fs → dL p.2 ≤ dF fs
  | (f, k) :: r, h => by
    rcases List.mem_cons.mp h with e | e
    · rw [e]; exact Nat.le_max_left _ _
    · exact Nat.le_trans (dF_mem e) (Nat.le_max_right _ _)
theorem joinL_mem (S : List Nat) {p : List Nat} : ∀ {ps : List (List Nat)}, p ∈ ps → p.length ≤ (TL.joinL S ps).length
  | [q], h => by rw [List.mem_singleton.mp h]; exact Nat.le_refl _
  | q :: r :: t, h => by
    rw [joinL_cons _ _ _ (by simp), List.length_append, List.length_append]
    rcases List.mem_cons.mp h with e | e
    · rw [e]; omega
    · have := joinL_mem S (ps := r :: t) e
      omega
theorem joinL_sum (S : List Nat) : ∀ (p : List Nat) (ps : List (List Nat)), (TL.joinL S (p :: ps)).length = p.length + ((ps.map (·.length)).sum + ps.length * S.length)
  | p, [] => by show p.length = _; simp
  | p, q :: r => by
    rw [joinL_cons _ _ _ (by simp), List.length_append, List.length_append, joinL_sum S q r, List.map_cons, List.sum_cons, List.length_cons, Nat.add_mul]
    omega
/-- what join asks of the parts' lengths -/
theorem join_room {y : Str} {zs : List Str} {n : Nat} (h : (TL.joinL (TL.tl y) (zs.map TL.tl)).length ≤ n) : (zs.map (·.length)).sum + zs.length * y.length ≤ n + y.length := by
  cases zs with
  | nil => simp
  | cons z zs =>
    rw [List.map_cons, joinL_sum] at h
    rw [List.map_cons, List.sum_cons, List.length_cons, Nat.add_mul, len_list y, len_list z]
    have e : ((zs.map TL.tl).map (·.length)).sum = (zs.map (·.length)).sum := by
      rw [List.map_map]
      exact congrArg List.sum (List.map_congr_left fun x _ => (len_list x).symm)
    rw [e, List.length_map] at h
    show z.cps.toList.length + _ + _ ≤ _
    have h' : z.cps.toList.length + ((zs.map (·.length)).sum + zs.length * y.cps.toList.length) ≤ n := h
    omega
theorem joinL_many (S : List Nat) (hS : 1 ≤ S.length) : ∀ ps : List (List Nat), ps.length ≤ (TL.joinL S ps).length + 1
  | [] => Nat.zero_le _
  | p :: ps => by
    rw [joinL_sum, List.length_cons]
    have : ps.length ≤ ps.length * S.length := Nat.le_mul_of_pos_right _ hS
    omega
/-! ### promises of what tells -/
def spTellK (K : PySem.W.Frag) (n : Nat) : Sp := fun vs H Q _ => ∃ (v : V) (k : List Ch), vs = [v] ∧ IsK K H v k ∧ dL k < n ∧ (txK k).length ≤ 1000000 ∧
  ∀ (H' : Hp), Same H H' → Q (.str (txK k)) H'
def spTellC (K : PySem.W.Frag) (n : Nat) : Sp := fun vs H Q _ => ∃ (v : V) (c : Ch), vs = [v] ∧ IsC K H v c ∧ dC c < n ∧ (txC c).length ≤ 1000000 ∧
  ∀ (H' : Hp), Same H H' → Q (.str (txC c)) H'
theorem tx_len (l : List Nat) : (mkS l).length = l.length := by rw [len_list]; rfl
/-- the word that leads a choice, what follows -/
def wdC : Ch → Str
  | .num => "number" | .txt => "text" | .row _ => "row" | .book _ => "book" | .shape _ => "shape" | .letter _ => "letter" | .cut _ _ => "cut" | .any _ => "some" | .wth _ => "with"
def restC : Ch → List PyData
  | .num => [] | .txt => []
  | .row k => [.tuple (pyL k)] | .book k => [.tuple (pyL k)]
  | .shape fs => [.tuple (pyF fs)]
  | .letter l => [.str l] | .cut l hs => [.str l, .tuple (hs.map .str)]
  | .any w => [.str w] | .wth f => [.str f]
theorem pyC_cons (c : Ch) : pyC c = .tuple (.str (wdC c) :: restC c) := by cases c <;> rfl
/-- a choice's tuple -/
theorem Dt.lead {K : PySem.W.Frag} {H : Hp} {v : V} {c : Ch} (h : Dt K H v (pyC c)) : ∃ a us, v = .ref a ∧ SqT K H a (.str (wdC c) :: us) ∧ Dts K H us (restC c) := by
  rw [pyC_cons c] at h
  obtain ⟨a, vs, rfl, ht, hd⟩ := h.open
  obtain ⟨u, us, rfl, h1, h2⟩ := hd.uncons
  rw [h1.strOf] at ht
  exact ⟨a, us, rfl, ht, h2⟩
theorem Dts.one {K : PySem.W.Frag} {H : Hp} {us : List V} {d : PyData} (h : Dts K H us [d]) : ∃ u, us = [u] ∧ Dt K H u d := by
  obtain ⟨u, us', rfl, h1, h2⟩ := h.uncons
  exact ⟨u, by rw [h2.unnil], h1⟩
/-- texts in a row -/
theorem Dts.strs {K : PySem.W.Frag} {H : Hp} : ∀ {zs : List Str} {vs : List V}, Dts K H vs (zs.map .str) → vs = zs.map V.str
  | [], vs, h => h.unnil
  | z :: zs, vs, h => by
    obtain ⟨u, us, rfl, h1, h2⟩ := Dts.uncons h
    rw [h1.strOf, Dts.strs h2]
    rfl
theorem strs_dts {K : PySem.W.Frag} {H : Hp} : ∀ zs : List Str, Dts K H (zs.map V.str) (zs.map .str)
  | [] => .nil
  | z :: zs => (strs_dts zs).cons (.str z)
theorem op_inT (K : PySem.W.Frag) {X : Cx} (h : X.K = K := by rfl) : OpR X (compareOp .In) (rIn K false) := h ▸ op_in_seq
end Sc
namespace Sc
open PySem PySem.Spec PyProof.Rows L2
theorem app_len (x y : Str) : (x ++ y).length = x.length + y.length := by
  rw [len_list, len_list, len_list, app_list, List.length_append]
theorem sizeOk {n : Nat} (h : n ≤ 2000000) : n ≤ sizeLine := by rw [sizeLine_eq]; omega
theorem txC_rb (k : List Ch) {c : Ch} (h : c = .row k ∨ c = .book k) : txC c = Str.empty ++ wdC c ++ ("(" : Str) ++ txK k ++ (")" : Str) := by
  refine TL.ext_tl ?_
  rcases h with rfl | rfl
  · show TL.tl "row" ++ 40 :: (TL.joinL bar (cL k) ++ [41]) = _
    simp only [TL.tl_append]
    show _ = TL.tl "row" ++ [40] ++ TL.joinL bar (cL k) ++ [41]
    simp only [List.append_assoc, List.cons_append, List.nil_append]
  · show TL.tl "book" ++ 40 :: (TL.joinL bar (cL k) ++ [41]) = _
    simp only [TL.tl_append]
    show _ = TL.tl "book" ++ [40] ++ TL.joinL bar (cL k) ++ [41]
    simp only [List.append_assoc, List.cons_append, List.nil_append]
theorem txF_eq (p : Str × List Ch) : txF p = Str.empty ++ p.1 ++ (": " : Str) ++ txK p.2 := by
  refine TL.ext_tl ?_
  simp only [TL.tl_append]
  show TL.tl p.1 ++ 58 :: 32 :: TL.joinL bar (cL p.2) = TL.tl p.1 ++ [58, 32] ++ TL.joinL bar (cL p.2)
  simp only [List.append_assoc, List.cons_append, List.nil_append]
theorem txC_shape (fs : List (Str × List Ch)) : txC (.shape fs) = ("{" : Str) ++ Txt.join ", " (fs.map txF) ++ ("}" : Str) := by
  refine TL.ext_tl ?_
  simp only [TL.tl_append]
  rw [TL.join_eq, TL.tl_join, List.map_map]
  show 123 :: (TL.joinL com (cF fs) ++ [125]) = [123] ++ TL.joinL com _ ++ [125]
  rw [cF_map]
  rfl
theorem txC_cut (l : Str) (hs : List Str) : txC (.cut l hs) = l ++ ("(" : Str) ++ Txt.join ", " hs ++ (")" : Str) := by
  refine TL.ext_tl ?_
  simp only [TL.tl_append]
  rw [TL.join_eq, TL.tl_join]
  show TL.tl l ++ 40 :: (TL.joinL com (hs.map TL.tl) ++ [41]) = TL.tl l ++ [40] ++ TL.joinL com (hs.map TL.tl) ++ [41]
  simp only [List.append_assoc, List.cons_append, List.nil_append]
theorem txC_any (w : Str) : txC (.any w) = Txt.join " " ["some", w] := by
  refine TL.ext_tl ?_
  rw [TL.join_eq, TL.tl_join]
  rfl
theorem txC_wth (w : Str) : txC (.wth w) = Txt.join " " ["with", w] := by
  refine TL.ext_tl ?_
  rw [TL.join_eq, TL.tl_join]
  rfl
theorem txC_num : txC .num = Txt.join " " ["number"] := by
  refine TL.ext_tl ?_
  rw [TL.join_eq, TL.tl_join]
  rfl
theorem txC_txt : txC .txt = Txt.join " " ["text"] := by
  refine TL.ext_tl ?_
  rw [TL.join_eq, TL.tl_join]
  rfl
end Sc
namespace Sc
open PySem PySem.Spec PyProof.Rows L2
/-- an f-string, its reading by a name -/
def tFs (ts : List TE) : TE := fun σ H Q => tJs ts Str.empty σ H fun out H1 => Q (.str out) H1
theorem pe_fs {X : Cx} {v1 v2 : Expr} {rest : List Expr} {ts : List TE} {pos : Pos} (h : PJ X (v1 :: v2 :: rest) ts) : PE X (.JoinedStr (v1 :: v2 :: rest) pos) (tFs ts) := pe_joined h
end Sc
namespace Sc
open PySem PySem.Spec PyProof.Rows L2
/-! ### a choice by its word -/
theorem wd_rb {c : Ch} (h : wdC c = "row" ∨ wdC c = "book") : ∃ k, c = .row k ∨ c = .book k := by
  cases c with
  | row k => exact ⟨k, .inl rfl⟩
  | book k => exact ⟨k, .inr rfl⟩
  | _ => exact absurd h (by simp only [wdC]; decide +kernel)
theorem wd_shape {c : Ch} (h : wdC c = "shape") : ∃ fs, c = .shape fs := by
  cases c with
  | shape fs => exact ⟨fs, rfl⟩
  | _ => exact absurd h (by simp only [wdC]; decide +kernel)
theorem wd_letter {c : Ch} (h : wdC c = "letter") : ∃ l, c = .letter l := by
  cases c with
  | letter l => exact ⟨l, rfl⟩
  | _ => exact absurd h (by simp only [wdC]; decide +kernel)
theorem wd_cut {c : Ch} (h : wdC c = "cut") : ∃ l hs, c = .cut l hs := by
  cases c with
  | cut l hs => exact ⟨l, hs, rfl⟩
  | _ => exact absurd h (by simp only [wdC]; decide +kernel)
theorem wd_due {c : Ch} (h : wdC c = "some" ∨ wdC c = "with") : ∃ z, c = .any z ∨ c = .wth z := by
  cases c with
  | any z => exact ⟨z, .inl rfl⟩
  | wth z => exact ⟨z, .inr rfl⟩
  | _ => exact absurd h (by simp only [wdC]; decide +kernel)
theorem wd_flat {c : Ch} (h1 : ¬ (wdC c = "row" ∨ wdC c = "book")) (h2 : wdC c ≠ "shape") (h3 : wdC c ≠ "letter") (h4 : wdC c ≠ "cut") (h5 : ¬ (wdC c = "some" ∨ wdC c = "with")) : c = .num ∨ c = .txt := by
  cases c with
  | num => exact .inl rfl
  | txt => exact .inr rfl
  | row k => exact absurd (.inl rfl) h1
  | book k => exact absurd (.inr rfl) h1
  | shape k => exact absurd rfl h2
  | letter k => exact absurd rfl h3
  | cut k _ => exact absurd rfl h4
  | any k => exact absurd (.inl rfl) h5
  | wth k => exact absurd (.inr rfl) h5
theorem txC_due {c : Ch} {z : Str} (h : c = .any z ∨ c = .wth z) : txC c = wdC c ++ (" " : Str) ++ z ∧ restC c = [.str z] := by
  rcases h with rfl | rfl
  · refine ⟨TL.ext_tl ?_, rfl⟩
    simp only [TL.tl_append]
    show TL.tl "some" ++ 32 :: TL.tl z = TL.tl "some" ++ [32] ++ TL.tl z
    simp only [List.append_assoc, List.cons_append, List.nil_append]
  · refine ⟨TL.ext_tl ?_, rfl⟩
    simp only [TL.tl_append]
    show TL.tl "with" ++ 32 :: TL.tl z = TL.tl "with" ++ [32] ++ TL.tl z
    simp only [List.append_assoc, List.cons_append, List.nil_append]
end Sc
namespace Sc
open PySem PySem.Spec PyProof.Rows L2
/-! ### letters -/
def Lett (z : Str) : Prop := 1 ≤ z.cps.toList.length ∧ z.cps.toList.length ≤ 8 ∧ ∀ c ∈ z.cps.toList, 65 ≤ c ∧ c ≤ 90
theorem upper_word {z : Str} (h : Word z) : Lett (Txt.upper z) := by
  obtain ⟨h1, h8, hc⟩ := h
  rw [upper_ascii fun c m => by have := hc c m; omega]
  have e : (⟨z.cps.map up1⟩ : Str).cps.toList = z.cps.toList.map up1 := Array.toList_map
  unfold Lett
  rw [e, List.length_map]
  refine ⟨h1, h8, fun c m => ?_⟩
  obtain ⟨d, hd, rfl⟩ := List.mem_map.mp m
  have := hc d hd
  unfold up1
  rw [if_pos this]
  omega
/-! ### dicts of texts -/
def zipK {β : Type} (xs : List (Str × β)) (vs : List V) : List (Key × V) := (xs.map fun q => Sum.inr q.1).zip vs
theorem zip_of {β : Type} {Pt : Str → Prop} {R : V → β → Prop} : ∀ kvs : List (Key × V), (∀ p ∈ kvs, ∃ t x, p.1 = Sum.inr t ∧ Pt t ∧ R p.2 x) → (kvs.map (·.1)).Nodup →
    ∃ (vs : List V) (xs : List (Str × β)), kvs = zipK xs vs ∧ vs.length = xs.length ∧ (xs.map (·.1)).Nodup ∧ (∀ t, t ∈ xs.map (·.1) → (Sum.inr t : Key) ∈ kvs.map (·.1)) ∧ ∀ (j : Nat) (v : V) (q : Str × β), vs[j]? = some v → xs[j]? = some q → Pt q.1 ∧ R v q.2
  | [], _, _ => ⟨[], [], rfl, rfl, List.nodup_nil, fun t h => by simp at h, fun j v q h => by simp at h⟩
  | (k, v) :: r, h, nd => by
    obtain ⟨t, x, rfl, ht, hx⟩ := h _ List.mem_cons_self
    have nd' : ((Sum.inr t : Key) :: r.map (·.1)).Nodup := nd
    obtain ⟨n1, n2⟩ := List.nodup_cons.mp nd'
    obtain ⟨vs, xs, e, hl, nd2, hm, ha⟩ := zip_of r (fun p hp => h p (List.mem_cons_of_mem _ hp)) n2
    refine ⟨v :: vs, (t, x) :: xs, by rw [e]; rfl, congrArg (· + 1) hl, List.nodup_cons.mpr ⟨fun z => n1 (hm t z), nd2⟩, fun u hu => ?_, fun j v' q h1 h2 => ?_⟩
    · rcases List.mem_cons.mp hu with z | z
      · rw [z]; exact List.mem_cons_self
      · exact List.mem_cons_of_mem _ (hm u z)
    · cases j with
      | zero => cases h1; cases h2; exact ⟨ht, hx⟩
      | succ j => exact ha j v' q h1 h2
theorem zipK_get {β : Type} : ∀ {xs : List (Str × β)} {vs : List V} {j : Nat} {q : Str × β} {v : V}, (xs.map (·.1)).Nodup → xs[j]? = some q → vs[j]? = some v → valV (zipK xs vs) (Sum.inr q.1) = some v
  | (t, x) :: xs, u :: us, 0, q, v, _, h1, h2 => by
    cases h1; cases h2
    exact valV_pos rfl
  | (t, x) :: xs, u :: us, j + 1, q, v, nd, h1, h2 => by
    obtain ⟨n1, n2⟩ := List.nodup_cons.mp (show (t :: xs.map (·.1)).Nodup from nd)
    refine (valV_neg fun e => n1 ?_).trans (zipK_get n2 h1 h2)
    have e2 : t = q.1 := Sum.inr.inj e
    rw [e2]
    exact List.mem_map_of_mem (List.mem_of_getElem? h1)
  | [], _, _, _, _, _, h1, _ => by simp at h1
  | _ :: _, [], _, _, _, _, _, h2 => by simp at h2
theorem zipK_keys {β : Type} : ∀ {xs : List (Str × β)} {vs : List V}, vs.length = xs.length → (zipK xs vs).map (fun kv => kV kv.1) = xs.map fun q => V.str q.1
  | [], [], _ => rfl
  | _ :: _, _ :: _, h => congrArg (_ :: ·) (zipK_keys (Nat.succ.inj h))
theorem zipK_len {β : Type} {xs : List (Str × β)} {vs : List V} (h : vs.length = xs.length) : (zipK xs vs).length = xs.length := by
  unfold zipK
  rw [List.length_zip, List.length_map, h, Nat.min_self]
/-! ### bounds -/
def IsB (K : PySem.W.Frag) (H : Hp) (b : Addr) (bs : List (Str × List Ch)) : Prop := ∃ vs : List V, H b = some (.dK (zipK bs vs)) ∧ vs.length = bs.length ∧ (bs.map (·.1)).Nodup ∧
  ∀ (j : Nat) (v : V) (q : Str × List Ch), vs[j]? = some v → bs[j]? = some q → IsK K H v q.2
theorem IsB.keep {K : PySem.W.Frag} {H H' : Hp} {b : Addr} {bs : List (Str × List Ch)} (h : IsB K H b bs) (k : Keep K H H') (e : ∀ o, H b = some o → H' b = some o) : IsB K H' b bs := by
  obtain ⟨vs, h1, h2, h3, h4⟩ := h
  exact ⟨vs, e _ h1, h2, h3, fun j v q a c => k.dt (h4 j v q a c)⟩
theorem IsB.same {K : PySem.W.Frag} {H H' : Hp} {b : Addr} {bs : List (Str × List Ch)} (h : IsB K H b bs) (e : Same H H') : IsB K H' b bs := h.keep (Same.keep e) fun o => e b o
theorem IsB.ext {K : PySem.W.Frag} {H H' : Hp} {s b : Addr} {i : Inf} {bs : List (Str × List Ch)} (h : IsB K H b bs) (S : IsS K H s i) (e : Ext s H H') (n : b ≠ s) : IsB K H' b bs := h.keep (S.keep e) fun o => e b o n
theorem IsB.at {K : PySem.W.Frag} {H : Hp} {b : Addr} {bs : List (Str × List Ch)} (h : IsB K H b bs) {j : Nat} {q : Str × List Ch} (e : bs[j]? = some q) : ∃ v, DGet H b (.str q.1) (some v) ∧ IsK K H v q.2 := by
  obtain ⟨vs, h1, h2, h3, h4⟩ := h
  have lt : j < vs.length := h2 ▸ (List.getElem?_eq_some_iff.mp e).1
  have g := zipK_get h3 e (List.getElem?_eq_getElem lt)
  exact ⟨vs[j], by rw [← g]; exact DGet.k (k := Sum.inr q.1) h1, h4 j _ q (List.getElem?_eq_getElem lt) e⟩
def okB (bs : List (Str × List Ch)) : Prop := ∀ q ∈ bs, Lett q.1 ∧ q.2 ≠ [] ∧ q.2.length ≤ 3 ∧ okL [] 1 q.2
def spBounds (K : PySem.W.Frag) : Sp := fun vs H Q _ => ∃ (s : Addr) (i : Inf) (m : Nat), vs = [.ref s, .int m] ∧ IsS K H s i ∧ m ≤ 10 ∧
  ∀ (b : Addr) (H' : Hp) (bs : List (Str × List Ch)), Ext s H H' → IsS K H' s i → H b = none → IsB K H' b bs → okB bs → bs.length ≤ m → Q (.ref b) H'
/-! ### heads of choices -/
def hdC : Ch → Str
  | .num => "number" | .txt => "text" | .row _ => "row" | .book _ => "book"
  | .shape fs => Txt.join " " ("shape" :: fs.map (·.1))
  | _ => Str.empty
/-- a choice with a head of its own -/
def hdOk : Ch → Prop
  | .num => True | .txt => True | .row _ => True | .book _ => True
  | .shape fs => Fld (fs.map (·.1))
  | _ => False
theorem hdOk_of {n : Nat} {c : Ch} (h : okC [] n c) : hdOk c := by
  cases c with
  | shape fs => exact (show 0 < n ∧ fs.length ≤ 2 ∧ Fld (fs.map (·.1)) ∧ okF [] (n - 1) fs from h).2.2.1
  | letter l => exact absurd (show l ∈ [] from h) (by simp)
  | cut l hs => exact (show False from h).elim
  | any l => exact (show False from h).elim
  | wth l => exact (show False from h).elim
  | _ => exact trivial
/-- the heads of a kind, ascending -/
def Hs (k : List Ch) (ys : List Str) : Prop := sortedS ys = true ∧ ys.Nodup ∧ ys.length ≤ k.length ∧ ∀ x, x ∈ ys ↔ x ∈ k.map hdC
def spHead (K : PySem.W.Frag) : Sp := fun vs H Q _ => ∃ (v : V) (c : Ch), vs = [v] ∧ IsC K H v c ∧ hdOk c ∧ ∀ (H' : Hp), Same H H' → Q (.str (hdC c)) H'
def headsR (bs : List (Str × List Ch)) (c : Ch) (ys : List Str) : Prop := (∃ l k, c = .letter l ∧ (l, k) ∈ bs ∧ Hs k ys) ∨ ∃ l, c = .cut l ys
def spHeads (K : PySem.W.Frag) : Sp := fun vs H Q _ => ∃ (v : V) (b : Addr) (c : Ch) (bs : List (Str × List Ch)), vs = [v, .ref b] ∧ IsC K H v c ∧ IsB K H b bs ∧ okB bs ∧ ((∃ l k, c = .letter l ∧ (l, k) ∈ bs) ∨ ∃ l hs, c = .cut l hs) ∧
  ∀ (v : V) (H' : Hp) (ys : List Str), Same H H' → Dt K H' v (.tuple (ys.map .str)) → headsR bs c ys → Q v H'
/-- a letter, or a cut of it -/
def okCut (bs : List (Str × List Ch)) (c : Ch) : Prop := ∃ l k, (l, k) ∈ bs ∧ (c = .letter l ∨ ∃ ys a m, c = .cut l ((ys.drop a).take m) ∧ Hs k ys ∧ 0 < m ∧ a + m ≤ ys.length ∧ m < ys.length)
def spCut (K : PySem.W.Frag) : Sp := fun vs H Q _ => ∃ (s b : Addr) (i : Inf) (bs : List (Str × List Ch)), vs = [.ref s, .ref b] ∧ IsS K H s i ∧ b ≠ s ∧ IsB K H b bs ∧ okB bs ∧ bs ≠ [] ∧ bs.length ≤ 10 ∧
  ∀ (v : V) (H' : Hp) (c : Ch), Ext s H H' → IsS K H' s i → IsC K H' v c → okCut bs c → Q v H'
/-- a kind with letters and, at its end, a cut -/
def okA (bs : List (Str × List Ch)) (d : Nat) (k : List Ch) : Prop := ∃ k0 cs, k = k0 ++ cs ∧ okL (bs.map (·.1)) d k0 ∧ k0 ≠ [] ∧ k0.length ≤ 3 ∧ (cs = [] ∨ ∃ c, cs = [c] ∧ okCut bs c)
def spAnyKind (K : PySem.W.Frag) (n : Nat) : Sp := fun vs H Q _ => ∃ (s b : Addr) (i : Inf) (d : Nat) (bs : List (Str × List Ch)), vs = [.ref s, .int d, .ref b] ∧ IsS K H s i ∧ d < n ∧ b ≠ s ∧ IsB K H b bs ∧ okB bs ∧ bs.length ≤ 10 ∧
  ∀ (v : V) (H' : Hp) (k : List Ch), Ext s H H' → IsS K H' s i → IsK K H' v k → okA bs d k → Q v H'
theorem Hs.few {k : List Ch} {ys : List Str} (h : Hs k ys) : ys.length ≤ k.length := h.2.2.1
end Sc
namespace Sc
open PySem PySem.Spec PyProof.Rows L2
/-! ### how long, how deep what is drawn may be -/
def wid : Nat → Nat
  | 0 => 8
  | n + 1 => 6 * wid n + 60
theorem joinL_max {S : List Nat} {B : Nat} : ∀ {ps : List (List Nat)}, (∀ p ∈ ps, p.length ≤ B) → (TL.joinL S ps).length ≤ ps.length * (B + S.length)
  | [], _ => Nat.zero_le _
  | [p], h => by
    have := h p List.mem_cons_self
    show p.length ≤ 1 * _
    omega
  | p :: q :: r, h => by
    have ih := joinL_max (S := S) (B := B) (ps := q :: r) fun x hx => h x (List.mem_cons_of_mem _ hx)
    have := h p List.mem_cons_self
    rw [joinL_cons _ _ _ (by simp), List.length_append, List.length_append, List.length_cons, Nat.add_mul]
    omega
theorem kind_len {B m : Nat} {k : List Ch} (h : ∀ p ∈ cL k, p.length ≤ B) (hk : k.length ≤ m) : (TL.joinL bar (cL k)).length ≤ m * (B + 3) := by
  refine Nat.le_trans (joinL_max h) ?_
  rw [cL_map, List.length_map]
  exact Nat.mul_le_mul_right _ hk
mutual
theorem lenC {ls : List Str} (hl : ∀ l ∈ ls, l.length ≤ 8) : ∀ {n : Nat} {c : Ch}, okC ls n c → (cC c).length ≤ wid n
  | 0, .num, _ => by decide
  | n + 1, .num, _ => Nat.le_trans (by decide : (cC .num).length ≤ 60) (Nat.le_add_left _ _)
  | 0, .txt, _ => by decide
  | n + 1, .txt, _ => Nat.le_trans (by decide : (cC .txt).length ≤ 60) (Nat.le_add_left _ _)
  | 0, .row k, h => absurd h.1 (Nat.lt_irrefl _)
  | n + 1, .row k, h => by
    have := kind_len (lenL hl (show okL ls n k from h.2.2.2)) h.2.2.1
    show (TL.tl "row" ++ 40 :: (TL.joinL bar (cL k) ++ [41])).length ≤ 6 * wid n + 60
    rw [List.length_append, List.length_cons, List.length_append]
    show 3 + (_ + 1 + 1) ≤ _
    omega
  | 0, .book k, h => absurd h.1 (Nat.lt_irrefl _)
  | n + 1, .book k, h => by
    have := kind_len (lenL hl (show okL ls n k from h.2.2.2)) h.2.2.1
    show (TL.tl "book" ++ 40 :: (TL.joinL bar (cL k) ++ [41])).length ≤ 6 * wid n + 60
    rw [List.length_append, List.length_cons, List.length_append]
    show 4 + (_ + 1 + 1) ≤ _
    omega
  | 0, .shape fs, h => absurd h.1 (Nat.lt_irrefl _)
  | n + 1, .shape fs, h => by
    have f := lenF hl (show okF ls n fs from h.2.2.2)
    have g := joinL_max (S := com) f
    rw [cF_map, List.length_map] at g
    have g2 : fs.length * (3 * wid n + 19 + com.length) ≤ 2 * (3 * wid n + 19 + 2) := Nat.mul_le_mul_right _ h.2.1
    rw [← cF_map] at g
    show (123 :: (TL.joinL com (cF fs) ++ [125])).length ≤ 6 * wid n + 60
    rw [List.length_cons, List.length_append]
    show _ + 1 + 1 ≤ _
    have : (TL.joinL com (cF fs)).length ≤ 2 * (3 * wid n + 19 + 2) := Nat.le_trans g g2
    omega
  | n, .letter l, h => by
    have := hl l h
    rw [len_list] at this
    refine Nat.le_trans this ?_
    cases n with
    | zero => exact Nat.le_refl _
    | succ n => show 8 ≤ 6 * wid n + 60; omega
  | _, .cut _ _, h => h.elim
  | _, .any _, h => h.elim
  | _, .wth _, h => h.elim
theorem lenL {ls : List Str} (hl : ∀ l ∈ ls, l.length ≤ 8) : ∀ {n : Nat} {k : List Ch}, okL ls n k → ∀ p ∈ cL k, p.length ≤ wid n
  | _, [], _, p, hp => by cases hp
  | n, c :: r, h, p, hp => by
    rcases List.mem_cons.mp hp with e | e
    · rw [e]; exact lenC hl h.1
    · exact lenL hl h.2 p e
theorem lenF {ls : List Str} (hl : ∀ l ∈ ls, l.length ≤ 8) : ∀ {n : Nat} {fs : List (Str × List Ch)}, okF ls n fs → ∀ p ∈ cF fs, p.length ≤ 3 * wid n + 19
  | _, [], _, p, hp => by cases hp
  | n, (f, k) :: r, h, p, hp => by
    rcases List.mem_cons.mp hp with e | e
    · have := kind_len (lenL hl h.2.2.2.1) h.2.2.1
      have w := h.1.2.1
      rw [e, List.length_append, List.length_cons, List.length_cons]
      show f.cps.toList.length + _ ≤ _
      omega
    · exact lenF hl h.2.2.2.2 p e
end
mutual
theorem deepC {ls : List Str} : ∀ {n : Nat} {c : Ch}, okC ls n c → dC c ≤ n
  | _, .num, _ => Nat.zero_le _
  | _, .txt, _ => Nat.zero_le _
  | 0, .row k, h => absurd h.1 (Nat.lt_irrefl _)
  | n + 1, .row k, h => Nat.succ_le_succ (deepL (show okL ls n k from h.2.2.2))
  | 0, .book k, h => absurd h.1 (Nat.lt_irrefl _)
  | n + 1, .book k, h => Nat.succ_le_succ (deepL (show okL ls n k from h.2.2.2))
  | 0, .shape fs, h => absurd h.1 (Nat.lt_irrefl _)
  | n + 1, .shape fs, h => Nat.succ_le_succ (deepF (show okF ls n fs from h.2.2.2))
  | _, .letter l, _ => Nat.zero_le _
  | _, .cut _ _, h => h.elim
  | _, .any _, h => h.elim
  | _, .wth _, h => h.elim
theorem deepL {ls : List Str} : ∀ {n : Nat} {k : List Ch}, okL ls n k → dL k ≤ n
  | _, [], _ => Nat.zero_le _
  | n, c :: r, h => Nat.max_le.mpr ⟨deepC h.1, deepL h.2⟩
theorem deepF {ls : List Str} : ∀ {n : Nat} {fs : List (Str × List Ch)}, okF ls n fs → dF fs ≤ n
  | _, [], _ => Nat.zero_le _
  | n, (_, k) :: r, h => Nat.max_le.mpr ⟨deepL h.2.2.2.1, deepF h.2.2.2.2⟩
end
end Sc
namespace Sc
open PySem PySem.Spec PyProof.Rows L2
theorem hd_len {n : Nat} {c : Ch} (h : okC [] n c) : (hdC c).length ≤ 300 := by
  cases c with
  | shape fs =>
    have fld : Fld (fs.map (·.1)) := hdOk_of h
    have := join_len " " ("shape" :: fs.map (·.1))
    have s := fld.sum
    have z := fld.2.1
    rw [List.map_cons, List.sum_cons, List.length_cons] at this
    show (Txt.join " " ("shape" :: fs.map (·.1))).length ≤ 300
    have e5 : ("shape" : Str).length = 5 := rfl
    have e1 : (" " : Str).length = 1 := rfl
    rw [e5, e1] at this
    omega
  | num => decide
  | txt => decide
  | row k => exact (by decide : ("row" : Str).length ≤ 300)
  | book k => exact (by decide : ("book" : Str).length ≤ 300)
  | letter l => exact Nat.zero_le _
  | cut l hs => exact Nat.zero_le _
  | any l => exact Nat.zero_le _
  | wth l => exact Nat.zero_le _
theorem cut_len {bs : List (Str × List Ch)} (ok : okB bs) {c : Ch} (h : okCut bs c) : (cC c).length ≤ 2000 ∧ dC c = 0 := by
  obtain ⟨l, k, hm, hc⟩ := h
  obtain ⟨lt, k0, k3, okk⟩ := ok _ hm
  have l8 : (TL.tl l).length ≤ 8 := lt.2.1
  rcases hc with rfl | ⟨ys, a, m, rfl, hs, m0, am, my⟩
  · exact ⟨Nat.le_trans l8 (by decide), rfl⟩
  · refine ⟨?_, rfl⟩
    have g : ∀ p ∈ ((ys.drop a).take m).map TL.tl, p.length ≤ 300 := fun p hp => by
      obtain ⟨y, hy, rfl⟩ := List.mem_map.mp hp
      have hy2 := (hs.2.2.2 y).mp (List.mem_of_mem_drop (List.mem_of_mem_take hy))
      obtain ⟨c, hc, rfl⟩ := List.mem_map.mp hy2
      have := hd_len (okL_mem okk hc)
      rw [len_list] at this
      exact this
    have j := joinL_max (S := com) g
    rw [List.length_map] at j
    have few := hs.2.2.1
    have k3' : k.length ≤ 3 := k3
    have tk : ((ys.drop a).take m).length ≤ 3 := by
      have := List.length_take_le' m (ys.drop a)
      rw [List.length_drop] at this
      omega
    have j2 : ((ys.drop a).take m).length * (300 + com.length) ≤ 3 * (300 + 2) := Nat.mul_le_mul_right _ tk
    show (TL.tl l ++ 40 :: (TL.joinL com (((ys.drop a).take m).map TL.tl) ++ [41])).length ≤ 2000
    rw [List.length_append, List.length_cons, List.length_append]
    show _ + (_ + 1 + 1) ≤ _
    omega
theorem names_len {bs : List (Str × List Ch)} (ok : okB bs) : ∀ l ∈ bs.map (·.1), l.length ≤ 8 := fun l hl => by
  obtain ⟨q, hq, rfl⟩ := List.mem_map.mp hl
  have := (ok q hq).1.2.1
  rw [len_list]
  exact this
theorem cL_app (a b : List Ch) : cL (a ++ b) = cL a ++ cL b := by rw [cL_map, cL_map, cL_map, List.map_append]
theorem dL_app : ∀ a b : List Ch, dL (a ++ b) = max (dL a) (dL b)
  | [], b => by show dL b = max 0 _; omega
  | c :: r, b => by
    have := dL_app r b
    show max (dC c) (dL (r ++ b)) = max (max (dC c) (dL r)) (dL b)
    omega
/-- such a kind's text, with something small behind -/
theorem any_len {bs : List (Str × List Ch)} (ok : okB bs) {d : Nat} {k : List Ch} (h : okA bs d k) : (∀ p ∈ cL k, p.length ≤ wid d + 2000) ∧ k.length ≤ 4 ∧ dL k ≤ d ∧ k ≠ [] := by
  obtain ⟨k0, cs, rfl, okk, n0, n3, hc⟩ := h
  have g := lenL (names_len ok) okk
  rcases hc with rfl | ⟨c, rfl, hc⟩
  · rw [List.append_nil]
    exact ⟨fun p hp => Nat.le_trans (g p hp) (Nat.le_add_right _ _), by omega, deepL okk, n0⟩
  · obtain ⟨h1, h2⟩ := cut_len ok hc
    refine ⟨fun p hp => ?_, by rw [List.length_append]; show _ + 1 ≤ _; omega, ?_, by simp⟩
    · rw [cL_app] at hp
      rcases List.mem_append.mp hp with e | e
      · exact Nat.le_trans (g p e) (Nat.le_add_right _ _)
      · rw [List.mem_singleton.mp e]
        exact Nat.le_trans h1 (Nat.le_add_left _ _)
    · rw [dL_app]
      have := deepL okk
      show max _ (max (dC c) 0) ≤ _
      omega
def spDue (K : PySem.W.Frag) : Sp := fun vs H Q _ => ∃ (s : Addr) (i : Inf), vs = [.ref s] ∧ IsS K H s i ∧
  ∀ (v : V) (H' : Hp) (c : Ch), Ext s H H' → IsS K H' s i → IsC K H' v c → (c = .any "row" ∨ c = .any "book" ∨ ∃ z, c = .wth z ∧ Word z) → Q v H'
end Sc
namespace Sc
open PySem PySem.Spec PyProof.Rows L2
/-! ### defs that may raise -/
structure CalX (P : Program) (w : World) (K : PySem.W.Frag) (mg : Str → Option Value) (base : Heap) (k : Nat) (x : Str) (ps : List Str) (sp : Sp) : Prop where
  ex : ∃ f fd, FnOk P w K mg base (L2.CX P w) k f fd ps sp ∧ mg x = some (.ref f) ∧ PySem.W.keepIn K (.ref f) = true ∧ Binds K fd ps []
theorem CalX.mono {P : Program} {w : World} {K : PySem.W.Frag} {mg : Str → Option Value} {base : Heap} {j k : Nat} {x : Str} {ps : List Str} {sp : Sp} (C : CalX P w K mg base j x ps sp) (h : j ≤ k) : CalX P w K mg base k x ps sp := by
  obtain ⟨f, fd, a, b⟩ := C.ex
  exact ⟨f, fd, a.mono h, b⟩
theorem Def.neverX {P : Program} {w : World} {K : PySem.W.Frag} {mg : Str → Option Value} {base : Heap} {x : Str} {st : Stmt} {ps : List Str} {sp : Sp} (D : Def K mg x st ps) (no : ∀ vs H Q E, ¬ sp vs H Q E) : CalX P w K mg base 0 x ps sp := by
  obtain ⟨f, fd, F, m, b⟩ := D.ex
  exact ⟨f, fd, ⟨fun vs H Q E h => absurd h (no vs H Q E), fun A outer s H args us vs Q E _ _ _ _ h => absurd h (no vs H Q E)⟩, m, F.kp, b⟩
theorem Def.okX {P : Program} {w : World} {K : PySem.W.Frag} {mg : Str → Option Value} {base : Heap} {x : Str} {st : Stmt} {N ps : List Str} {k : Nat} {sp : Sp} (D : Def K mg x st ps) (S : FnScope N ps (defScope st)) (len : ∀ vs H Q E, sp vs H Q E → vs.length = ps.length)
    (body : ∀ (f : Addr) (cdv : Value) (A : Around) (outer : List Env) (s : Shared) (H : Hp) (vs : List V) (Q : VK) (E : XK), Room k (A.deeper (envOfC x (defScope st) s.heap.objs.size f cdv)) → sp vs H Q E →
      ∃ t, PSs (cxOf (L2.CX P w) P w K mg base N x (defScope st) f cdv A outer s H E) (defBody st) t ∧ t { nx := fun _ H' => Q .non H', rt := Q } (start N vs) H) : CalX P w K mg base (k + 1) x ps sp := by
  obtain ⟨f, fd, F, m, b⟩ := D.ex
  exact ⟨f, fd, F.okX S len fun cdv A outer s H vs Q E hr h => body f cdv A outer s H vs Q E hr h, m, F.kp, b⟩
section
variable {X : Cx} {k : Nat} {x : Str} {ps : List Str} {sp : Sp} {e : Expr} {es : List Expr} {t : TA} {p pos : Pos} {E : XK}
/-- a call of a def that may raise: what it raises leaves -/
theorem pe_calX (C : CalX X.prog X.w X.K X.mg X.base k x ps sp) (hr : Room k X.A) (hx : Passes (L2.CX X.prog X.w) X E) (ha : PA X (e :: es) t) (hg : Gl X x := by rfl) (hdb : (x == ("__debug__" : Str)) = false := by decide)
    (he : starEach (e :: es) X.env = (false, eval e X.env) :: starEach es X.env := by rfl) (hpl : (backTo pos (starEach es X.env)).any (·.1) = false := by rfl) :
    PE X (.Call (.Name x p) (e :: es) [] pos) (tCall sp [] E t) := by
  obtain ⟨f, fd, F, m, kp, b⟩ := C.ex
  exact pe_call F hr hg m kp b .nil hx ha hdb he hpl
end
/-! ### data, tables -/
/-- lists and tuples are kept -/
def KeepL (K : PySem.W.Frag) (H H' : Hp) : Prop := (∀ a xs, SqL K H a xs → SqL K H' a xs) ∧ Keep K H H'
mutual
theorem KeepL.dp {K : PySem.W.Frag} {H H' : Hp} (e : KeepL K H H') : ∀ {v : V} {d : PyData}, Dp K H v d → Dp K H' v d
  | _, _, .non => .non
  | _, _, .bl b => .bl b
  | _, _, .int i => .int i
  | _, _, .str x => .str x
  | _, _, .lst h a => .lst (e.1 _ _ h) (KeepL.dps e a)
  | _, _, .tup h a => .tup (e.2 _ _ h) (KeepL.dps e a)
theorem KeepL.dps {K : PySem.W.Frag} {H H' : Hp} (e : KeepL K H H') : ∀ {vs : List V} {ds : List PyData}, DpAll K H vs ds → DpAll K H' vs ds
  | _, _, .nil => .nil
  | _, _, .cons h t => .cons (KeepL.dp e h) (KeepL.dps e t)
end
theorem DpAll.len {K : PySem.W.Frag} {H : Hp} : ∀ {vs : List V} {ds : List PyData}, DpAll K H vs ds → vs.length = ds.length
  | _, _, .nil => rfl
  | _, _, .cons _ t => congrArg (· + 1) (DpAll.len t)
theorem DpAll.get {K : PySem.W.Frag} {H : Hp} : ∀ {vs : List V} {ds : List PyData} {i : Nat} {v : V}, DpAll K H vs ds → vs[i]? = some v → ∃ d, ds[i]? = some d ∧ Dp K H v d
  | _, _, 0, _, .cons h _, e => ⟨_, rfl, by simp at e; subst e; exact h⟩
  | _, _, i + 1, v, .cons _ t, e => by
    obtain ⟨d, h1, h2⟩ := DpAll.get (i := i) (v := v) t (by simpa using e)
    exact ⟨d, by simpa using h1, h2⟩
/-- all but the tables is kept, the tables at T are tables -/
def Tb (T : List Addr) (H : Hp) : Prop := ∀ P ∈ T, GxR.TabG H P
structure Fr (T : List Addr) (H H' : Hp) : Prop where
  old : ∀ b o, H b = some o → b ∉ T → H' b = some o
  tab : Tb T H'
theorem Fr.refl {T : List Addr} {H : Hp} (t : Tb T H) : Fr T H H := ⟨fun _ _ h _ => h, t⟩
theorem Fr.trans {T : List Addr} {H H1 H2 : Hp} (a : Fr T H H1) (b : Fr T H1 H2) : Fr T H H2 := ⟨fun c o h n => b.old c o (a.old c o h n) n, b.tab⟩
theorem Fr.same {T : List Addr} {H H' : Hp} (t : Tb T H) (e : Same H H') : Fr T H H' := ⟨fun b o h _ => e b o h, fun P hP => let ⟨ps, h, g⟩ := t P hP; ⟨ps, e _ _ h, g⟩⟩
theorem Fr.tabbed {T : List Addr} {P : Addr} {H H' : Hp} (t : Tb T H) (h : GxR.Tabbed P H H') (hP : P ∈ T) : Fr T H H' := by
  refine ⟨fun b o e n => ?_, fun P' hP' => ?_⟩
  · rw [h.2 b fun z => n (z ▸ hP)]
    exact e
  · by_cases z : P' = P
    · rw [z]; exact h.1
    · obtain ⟨ps, e, g⟩ := t P' hP'
      exact ⟨ps, by rw [h.2 P' z]; exact e, g⟩
theorem Fr.free {T : List Addr} {H H' : Hp} {l : Addr} (t : Tb T H) (e : Fr T H H') (h : H' l = none) : H l = none := by
  by_cases hl : l ∈ T
  · obtain ⟨ps, g, _⟩ := e.tab l hl
    rw [g] at h
    cases h
  · cases q : H l with
    | none => rfl
    | some o => rw [e.old l o q hl] at h; cases h
theorem Fr.keep {K : PySem.W.Frag} {T : List Addr} {H H' : Hp} (t : Tb T H) (e : Fr T H H') : KeepL K H H' := by
  have ne : ∀ a o, H a = some o → (∀ ps, o ≠ .tbl ps) → a ∉ T := fun a o h n z => by
    obtain ⟨ps, g, _⟩ := t a z
    rw [h] at g
    exact n ps (Option.some.inj g)
  refine ⟨fun a xs h => ?_, fun a xs h => ?_⟩
  · rcases h with (h | ⟨o, h⟩) | h
    · exact .inl (.inl (e.old _ _ h (ne _ _ h fun ps z => by cases z)))
    · exact .inl (.inr ⟨o, e.old _ _ h (ne _ _ h fun ps z => by cases z)⟩)
    · exact .inr h
  · rcases h with (h | ⟨o, h⟩) | h
    · exact .inl (.inl (e.old _ _ h (ne _ _ h fun ps z => by cases z)))
    · exact .inl (.inr ⟨o, e.old _ _ h (ne _ _ h fun ps z => by cases z)⟩)
    · exact .inr h
/-- the type of data -/
def tyD : PyData → String
  | .none => "NoneType" | .bool _ => "bool" | .int _ => "int" | .str _ => "str" | .list _ => "list" | .tuple _ => "tuple" | .dict _ => "dict"
theorem Dp.ty {K : PySem.W.Frag} {H : Hp} {v : V} {d : PyData} (h : Dp K H v d) : TyX K H v (.type (tyD d)) := by
  cases h with
  | non => exact .base .non
  | bl b => exact .base (.bl b)
  | int i => exact .base (.int i)
  | str x => exact .base (.str x)
  | lst h _ =>
    rcases h with (h | ⟨o, h⟩) | ⟨o, its, n, h1, h2, _⟩
    · exact .base (.lst h)
    · exact .base (.frz h)
    · exact .kList h1 h2
  | tup h _ =>
    rcases h with (h | ⟨o, h⟩) | ⟨o, its, n, h1, h2, _⟩
    · exact .base (.tup h)
    · exact .fTuple h
    · exact .kTuple h1 h2
def isTupB : PyData → Bool
  | .tuple _ => true
  | _ => false
def isStrB : PyData → Bool
  | .str _ => true
  | _ => false
/-- is it of the type T: no dict among the data -/
theorem isTup {K : PySem.W.Frag} {H : Hp} {v : V} {d : PyData} (h : Dp K H v d) : kitB (tyD d) "tuple" = some (isTupB d) := by
  cases h with
  | non => exact (by decide +kernel : kitB "NoneType" "tuple" = some false)
  | bl b => exact (by decide +kernel : kitB "bool" "tuple" = some false)
  | int i => exact (by decide +kernel : kitB "int" "tuple" = some false)
  | str x => exact (by decide +kernel : kitB "str" "tuple" = some false)
  | lst _ _ => exact (by decide +kernel : kitB "list" "tuple" = some false)
  | tup _ _ => exact (by decide +kernel : kitB "tuple" "tuple" = some true)
theorem isStr {K : PySem.W.Frag} {H : Hp} {v : V} {d : PyData} (h : Dp K H v d) : kitB (tyD d) "str" = some (isStrB d) := by
  cases h with
  | non => exact (by decide +kernel : kitB "NoneType" "str" = some false)
  | bl b => exact (by decide +kernel : kitB "bool" "str" = some false)
  | int i => exact (by decide +kernel : kitB "int" "str" = some false)
  | str x => exact (by decide +kernel : kitB "str" "str" = some true)
  | lst _ _ => exact (by decide +kernel : kitB "list" "str" = some false)
  | tup _ _ => exact (by decide +kernel : kitB "tuple" "str" = some false)
end Sc
namespace Sc
open PySem PySem.Spec PyProof.Rows L2
mutual
/-- no long texts, no long rows -/
def sm : PyData → Bool
  | .str z => decide (z.length ≤ 1000)
  | .list xs => decide (xs.length ≤ 60) && smAll xs
  | .tuple xs => decide (xs.length ≤ 60) && smAll xs
  | .dict _ => false
  | _ => true
def smAll : List PyData → Bool
  | [] => true
  | x :: xs => sm x && smAll xs
end
def okD (d : PyData) : Prop := SeqAt.shaped d = true ∧ sm d = true
theorem smAll_mem {x : PyData} : ∀ {xs : List PyData}, smAll xs = true → x ∈ xs → sm x = true
  | y :: ys, h, m => by
    have h' : (sm y && smAll ys) = true := h
    rw [Bool.and_eq_true] at h'
    rcases List.mem_cons.mp m with e | e
    · rw [e]; exact h'.1
    · exact smAll_mem h'.2 e
theorem layAll_mem {x : PyData} : ∀ {xs : List PyData}, PyData.canLayAll0 xs = true → x ∈ xs → x.canLay0 = true
  | y :: ys, h, m => by
    have h' : (PyData.canLay0 y && PyData.canLayAll0 ys) = true := h
    rw [Bool.and_eq_true] at h'
    rcases List.mem_cons.mp m with e | e
    · rw [e]; exact h'.1
    · exact layAll_mem h'.2 e
theorem depthAll_mem {x : PyData} : ∀ {xs : List PyData}, x ∈ xs → x.depth ≤ PyData.depthAll xs
  | y :: ys, m => by
    have e0 : PyData.depthAll (y :: ys) = max y.depth (PyData.depthAll ys) := by simp [PyData.depthAll]
    rw [e0]
    rcases List.mem_cons.mp m with e | e
    · rw [e]; exact Nat.le_max_left _ _
    · exact Nat.le_trans (depthAll_mem e) (Nat.le_max_right _ _)
theorem okD.sub {ds : List PyData} (h : okD (.tuple ds)) : ds.length ≤ 60 ∧ ∀ x ∈ ds, okD x := by
  obtain ⟨h1, h2⟩ := h
  have h2' : (decide (ds.length ≤ 60) && smAll ds) = true := h2
  rw [Bool.and_eq_true, decide_eq_true_eq] at h2'
  refine ⟨h2'.1, fun x hx => ⟨?_, smAll_mem h2'.2 hx⟩⟩
  have l := SeqAt.canLay_of_shaped h1
  have d := SeqAt.depth_of_shaped h1
  have e0 : (PyData.tuple ds).depth = PyData.depthAll ds + 1 := by simp [PyData.depth]
  have := depthAll_mem hx
  exact Bool.and_eq_true_iff.mpr ⟨layAll_mem l hx, decide_eq_true (by omega)⟩
/-! ### what is a word, a letter -/
instance (z : Str) : Decidable (Lett z) := by unfold Lett; infer_instance
def isWordD : PyData → Bool
  | .str z => decide (Word z)
  | _ => false
def isLettD : PyData → Bool
  | .str z => decide (Lett z)
  | _ => false
def lenOkD : PyData → Bool
  | .str z => decide (1 ≤ z.length) && decide (z.length ≤ 8)
  | _ => false
/-- the promise of a test of data -/
def spTest (K : PySem.W.Frag) (T : List Addr) (p : PyData → Bool) : Sp := fun vs H Q _ => ∃ (v : V) (d : PyData), vs = [v] ∧ Dp K H v d ∧ okD d ∧ Tb T H ∧ ∀ (H' : Hp), Fr T H H' → Q (.bl (p d)) H'
/-- 'a' <= sign <= 'z' -/
theorem elt_between {prog : Program} {w : World} {scope : Scope} {x : Str} {a b : Nat} {j1 j2 : Nat} {p1 p2 p3 p4 : Pos} (hk : scope.kind = .function) (hl : scope.names.lookup x = some .local) (hd : (x == ("__debug__" : Str)) = false := by decide) :
    GxR.EltP prog w scope x (.Compare (.Constant (.str ⟨#[a]⟩) j1 p1) [.LtE, .LtE] [.Name x p2, .Constant (.str ⟨#[b]⟩) j2 p3] p4) (fun c => decide (a ≤ c) && decide (c ≤ b)) := by
  intro cenv A' E' c t s₂ m₂ hs hn hm
  refine Compare_chain (Calls.Constant_str (chain_link ?_)) (by with_unfolding_all rfl)
  refine wpAny_Name (wpAny_loadName_local (by rw [hs]; exact hk) (show cenv.scope.names.lookup x = some .local by rw [hs]; exact hl) hn hm ?_) hd
  refine PySem.P.le_str (wpAny_truthy_bool ?_)
  have l1 : (!decide ((⟨#[c]⟩ : Str).cps.toList < (⟨#[a]⟩ : Str).cps.toList)) = decide (a ≤ c) := by
    rw [← decide_not]
    refine decide_eq_decide.mpr ?_
    show ¬ [c] < [a] ↔ a ≤ c
    rw [List.cons_lt_cons_iff]
    simp
  have l2 : (!decide ((⟨#[b]⟩ : Str).cps.toList < (⟨#[c]⟩ : Str).cps.toList)) = decide (c ≤ b) := by
    rw [← decide_not]
    refine decide_eq_decide.mpr ?_
    show ¬ [b] < [c] ↔ c ≤ b
    rw [List.cons_lt_cons_iff]
    simp
  rw [l1]
  cases h : decide (a ≤ c) with
  | false =>
    rw [if_neg Bool.false_ne_true]
    refine ⟨?_, GxR.keeps_tok _ _⟩
    dsimp only
    rw [h]
    rfl
  | true =>
    rw [if_pos rfl]
    refine chain_last (Calls.Constant_str (PySem.P.le_str ?_))
    refine ⟨?_, GxR.keeps_tok _ _⟩
    dsimp only
    rw [l2, h, Bool.true_and]
end Sc
namespace Sc
open PySem PySem.Spec PyProof.Rows L2
/-! ### ascending texts -/
abbrev ltT (a b : Str) : Prop := a.cps.toList < b.cps.toList
def ascB (zs : List Str) : Bool := sortedS zs && decide zs.Nodup
theorem str_ext {a b : Str} (h : a.cps.toList = b.cps.toList) : a = b := by
  cases a; cases b
  exact congrArg _ (Array.toList_inj.mp h)
theorem rising_iff : ∀ (p : Str) (l : List Str), risingS p l = true ↔ (p :: l).Pairwise (fun a b => ¬ ltT b a)
  | p, [] => by simp [risingS]
  | p, x :: r => by
    unfold risingS
    rw [Bool.and_eq_true, rising_iff x r, Bool.not_eq_true', PyProof.Rows.ltCps_eq, decide_eq_false_iff_not]
    constructor
    · rintro ⟨h1, h2⟩
      refine List.pairwise_cons.mpr ⟨fun y hy => ?_, h2⟩
      rcases List.mem_cons.mp hy with e | e
      · rw [e]; exact h1
      · exact List.le_trans (α := Nat) h1 ((List.pairwise_cons.mp h2).1 y e)
    · intro h
      have h' := List.pairwise_cons.mp h
      exact ⟨h'.1 x List.mem_cons_self, h'.2⟩
theorem sorted_iff (l : List Str) : sortedS l = true ↔ l.Pairwise (fun a b => ¬ ltT b a) := by
  cases l with
  | nil => simp [sortedS]
  | cons p r => exact rising_iff p r
theorem asc_iff (l : List Str) : ascB l = true ↔ l.Pairwise ltT := by
  unfold ascB
  rw [Bool.and_eq_true, sorted_iff, decide_eq_true_eq]
  constructor
  · rintro ⟨h1, h2⟩
    refine List.Pairwise.imp₂ (fun a b h g => ?_) h1 h2
    exact Classical.byContradiction fun z => g (str_ext (List.le_antisymm (α := Nat) h z))
  · intro h
    exact ⟨h.imp fun g => List.lt_asymm g, h.imp fun {a b} g e => by rw [e] at g; exact List.lt_irrefl _ g⟩
theorem asc_uniq : ∀ (xs ys : List Str), xs.Pairwise ltT → ys.Pairwise ltT → (∀ x, x ∈ xs ↔ x ∈ ys) → xs = ys
  | [], [], _, _, _ => rfl
  | [], y :: _, _, _, h => absurd ((h y).mpr List.mem_cons_self) (by simp)
  | x :: _, [], _, _, h => absurd ((h x).mp List.mem_cons_self) (by simp)
  | x :: xs, y :: ys, hx, hy, h => by
    have hx' := List.pairwise_cons.mp hx
    have hy' := List.pairwise_cons.mp hy
    have e : x = y := by
      rcases List.mem_cons.mp ((h x).mp List.mem_cons_self) with e | e
      · exact e
      rcases List.mem_cons.mp ((h y).mpr List.mem_cons_self) with e2 | e2
      · exact e2.symm
      exact absurd (hy'.1 x e) (List.lt_asymm (hx'.1 y e2))
    subst e
    have irr : ∀ z, ltT x z → z ≠ x := fun z g e => by rw [e] at g; exact List.lt_irrefl _ g
    rw [asc_uniq xs ys hx'.2 hy'.2 fun z => ⟨fun m => ?_, fun m => ?_⟩]
    · rcases List.mem_cons.mp ((h z).mp (List.mem_cons_of_mem _ m)) with e | e
      · exact absurd e (irr z (hx'.1 z m))
      · exact e
    · rcases List.mem_cons.mp ((h z).mpr (List.mem_cons_of_mem _ m)) with e | e
      · exact absurd e (irr z (hy'.1 z m))
      · exact e
/-- a list against the sorted set of its members -/
theorem asc_eq {zs ys : List Str} (so : sortedS ys = true) (nd : ys.Nodup) (mem : ∀ x, x ∈ ys ↔ x ∈ zs) : decide (zs = ys) = ascB zs := by
  have hy : ascB ys = true := by unfold ascB; rw [so, decide_eq_true nd]; rfl
  rw [Bool.eq_iff_iff, decide_eq_true_eq]
  constructor
  · intro e; rw [e]; exact hy
  · intro h
    exact asc_uniq zs ys ((asc_iff _).mp h) ((asc_iff _).mp hy) fun x => (mem x).symm
theorem eqv_strs : ∀ (xs ys : List Str), PyData.eqvAll (xs.map .str) (ys.map .str) = decide (xs = ys)
  | [], [] => rfl
  | [], _ :: _ => rfl
  | _ :: _, [] => rfl
  | x :: xs, y :: ys => by
    have e : PyData.eqvAll ((x :: xs).map .str) ((y :: ys).map .str) = ((x == y) && PyData.eqvAll (xs.map .str) (ys.map .str)) := by
      simp [PyData.eqvAll, PyData.eqv]
    rw [e, eqv_strs xs ys, Bool.eq_iff_iff, Bool.and_eq_true, decide_eq_true_eq, beq_iff_eq, decide_eq_true_eq, List.cons.injEq]
theorem dp_strs {K : PySem.W.Frag} {H : Hp} : ∀ zs : List Str, DpAll K H (zs.map V.str) (zs.map .str)
  | [] => .nil
  | z :: zs => .cons (.str z) (dp_strs zs)
theorem lay_strs : ∀ {zs : List Str}, (∀ z ∈ zs, PyData.canLay0 (.str z) = true) → PyData.canLayAll0 (zs.map .str) = true
  | [], _ => rfl
  | z :: zs, h => by
    show (PyData.canLay0 (.str z) && PyData.canLayAll0 (zs.map .str)) = true
    rw [lay_strs fun x m => h x (List.mem_cons_of_mem _ m), Bool.and_true]
    exact h z List.mem_cons_self
theorem dep_strs : ∀ zs : List Str, PyData.depthAll (zs.map .str) ≤ 1
  | [] => by simp [PyData.depthAll]
  | z :: zs => by
    have := dep_strs zs
    simp only [List.map_cons, PyData.depthAll, PyData.depth]
    omega
theorem shaped_strs {zs : List Str} (h : ∀ z ∈ zs, PyData.canLay0 (.str z) = true) : SeqAt.shaped (.list (zs.map .str)) = true := by
  have d := dep_strs zs
  have e0 : (PyData.list (zs.map .str)).depth = PyData.depthAll (zs.map .str) + 1 := by simp [PyData.depth]
  exact Bool.and_eq_true_iff.mpr ⟨lay_strs h, decide_eq_true (by omega)⟩
end Sc
namespace Sc
open PySem PySem.Spec PyProof.Rows L2
/-! ### what is refused -/
/-- an own class of errors under ValueError -/
structure Ec (K : PySem.W.Frag) (mg : Str → Option Value) (x : Str) (C : Addr) : Prop where
  g : mg x = some (.ref C)
  q : PySem.W.excIn K C [.type "ValueError", .type "Exception", .type "BaseException", .type "object"] "ValueError.__new__" = true
  k : PySem.W.keepIn K (.ref C) = true
  b : PySem.W.subIn K (.ref C) (.type "BaseException") = some true
  t : PySem.W.typeIn K (.ref C) = some (.type "type")
def pairD : PyData → Bool
  | .tuple [.str _, _] => true
  | _ => false
def nameD : PyData → Str
  | .tuple (.str z :: _) => z
  | _ => Str.empty
def fldD : PyData → Bool
  | .tuple ds => !ds.isEmpty && ds.all pairD && ascB (ds.map nameD)
  | _ => false
theorem two_open {K : PySem.W.Frag} {H : Hp} {vs : List V} {ds : List PyData} (h : DpAll K H vs ds) (two : vs.length = 2) : ∃ x1 x2 d1 d2, vs = [x1, x2] ∧ ds = [d1, d2] ∧ Dp K H x1 d1 ∧ Dp K H x2 d2 := by
  cases h with
  | nil => cases two
  | cons h1 t => cases t with
    | nil => cases two
    | cons h2 t => cases t with
      | nil => exact ⟨_, _, _, _, rfl, rfl, h1, h2⟩
      | cons _ _ => exact absurd two (by simp)
theorem pair_len : ∀ {ds : List PyData}, ds.length ≠ 2 → pairD (.tuple ds) = false
  | [], _ => rfl
  | [u], _ => by cases u <;> rfl
  | [_, _], e => absurd rfl e
  | u :: _ :: _ :: _, _ => by cases u <;> rfl
theorem pair_two (d1 d2 : PyData) : pairD (.tuple [d1, d2]) = isStrB d1 := by cases d1 <;> rfl
def letD (ls : List Str) : PyData → Bool
  | .str z => isLettD (.str z) && decide (z ∈ ls)
  | _ => false
/-- choices, fields, by what is good within -/
def gPr (g : PyData → Bool) : PyData → Bool
  | .tuple [n, k] => isWordD n && g k
  | _ => false
def gFl (g : PyData → Bool) : PyData → Bool
  | .tuple ds => fldD (.tuple ds) && ds.all (gPr g)
  | _ => false
def gCh (ls : List Str) (g : PyData → Bool) : PyData → Bool
  | .tuple [.str w] => w == "number" || w == "text"
  | .tuple [.str w, t] => if w = "row" ∨ w = "book" then g t else if w = "shape" then gFl g t else if w = "letter" then letD ls t else false
  | _ => false
/-- a kind with room n - 1 -/
def gK (ls : List Str) : Nat → PyData → Bool
  | 0, _ => false
  | n + 1, d => match d with
    | .tuple ds => !ds.isEmpty && ds.all (gCh ls (gK ls n))
    | _ => false
/-- the promise of a def that refuses: rest behind the letters -/
def spNeed (K : PySem.W.Frag) (T : List Addr) (CB : Addr) (rest : List V) (p : List Str → PyData → Bool) : Sp := fun vs H Q E => ∃ (ls : List Str) (v : V) (d : PyData) (la : Addr), vs = v :: .ref la :: rest ∧ Dp K H v d ∧ okD d ∧ Tb T H ∧ SqT K H la (ls.map V.str) ∧
  (p ls d = true → ∀ (H' : Hp), Fr T H H' → Q .non H') ∧ (p ls d = false → ∀ (H' : Hp), Fr T H H' → E (.ref CB) none H')
theorem in_strs (z : Str) (ls : List Str) : inV (.str z) (ls.map V.str) = decide (z ∈ ls) := by
  unfold inV
  rw [Bool.eq_iff_iff, List.any_map, List.any_eq_true, decide_eq_true_eq]
  constructor
  · rintro ⟨y, hy, e⟩
    have e' : (y == z) = true := e
    rw [beq_iff_eq] at e'
    rw [← e']; exact hy
  · intro h
    exact ⟨z, h, by show (z == z) = true; rw [beq_iff_eq]⟩
theorem flat_strs : ∀ ls : List Str, (ls.map V.str).all flatV = true
  | [] => rfl
  | _ :: ls => by rw [List.map_cons, List.all_cons, flat_strs ls]; rfl
end Sc
namespace Sc
open PySem PySem.Spec PyProof.Rows L2
/-! ### literals -/
theorem Same.keepL {K : PySem.W.Frag} {H H' : Hp} (e : Same H H') : KeepL K H H' := ⟨fun _ _ h => Same.seq e h, fun _ _ h => Same.tup e h⟩
/-- a written value: the slot i holds g -/
def tLit (K : PySem.W.Frag) (i : Nat) (g d : PyData) : TE := fun σ H Q => (∃ v, σ[i]? = some (some v) ∧ Dp K H v g) ∧ ∀ v H', Same H H' → Dp K H' v d → Q v H'
def tLits (K : PySem.W.Frag) (i : Nat) (g : PyData) (ds : List PyData) : TA := fun σ H Q => (∃ v, σ[i]? = some (some v) ∧ Dp K H v g) ∧ ∀ vs H', Same H H' → DpAll K H' vs ds → Q vs H'
def tLitL (K : PySem.W.Frag) (i : Nat) (g : PyData) (ds : List PyData) : TE := fun σ H Q => (∃ v, σ[i]? = some (some v) ∧ Dp K H v g) ∧ ∀ l vs H', Same H H' → H' l = some (.lst vs) → DpAll K H' vs ds → Q (.ref l) H'
section
variable {X : Cx} {K : PySem.W.Frag} {i : Nat} {g d : PyData} {ds : List PyData} {e : Expr} {es : List Expr}
theorem pe_imp {t t' : TE} (h : PE X e t) (k : ∀ σ H Q, t' σ H Q → t σ H Q) : PE X e t' := ⟨fun pins s σ H Q I q => h.run pins s σ H Q I (k σ H Q q)⟩
theorem pa_imp {t t' : TA} (h : PA X es t) (k : ∀ σ H Q, t' σ H Q → t σ H Q) : PA X es t' := ⟨fun pos pins s σ H Q I q => h.run pos pins s σ H Q I (k σ H Q q)⟩
theorem lit_str {x : Str} {j : Nat} {pos : Pos} : PE X (.Constant (.str x) j pos) (tLit K i g (.str x)) := pe_imp pe_str fun _ _ _ q => q.2 _ _ (Same.refl _) (.str _)
theorem lit_int {x : Int} {j : Nat} {pos : Pos} : PE X (.Constant (.int x) j pos) (tLit K i g (.int x)) := pe_imp pe_int fun _ _ _ q => q.2 _ _ (Same.refl _) (.int _)
theorem lit_non {j : Nat} {pos : Pos} : PE X (.Constant .none j pos) (tLit K i g .none) := pe_imp pe_non fun _ _ _ q => q.2 _ _ (Same.refl _) .non
theorem lit_var (h : PE X e (tVar i)) : PE X e (tLit K i g g) := pe_imp h fun _ _ _ ⟨⟨v, a, b⟩, q⟩ => ⟨v, a, q _ _ (Same.refl _) b⟩
theorem lits_nil : PA X [] (tLits K i g []) := pa_imp pa_nil fun _ _ _ q => q.2 _ _ (Same.refl _) .nil
theorem lits_cons (h : PE X e (tLit K i g d)) (r : PA X es (tLits K i g ds)) (hs : starEach (e :: es) X.env = (false, eval e X.env) :: starEach es X.env := by rfl) : PA X (e :: es) (tLits K i g (d :: ds)) :=
  pa_imp (pa_cons h r hs) fun _ _ _ ⟨⟨v0, a, b⟩, q⟩ => ⟨⟨v0, a, b⟩, fun v H1 e1 d1 => ⟨⟨v0, a, KeepL.dp (Same.keepL e1) b⟩, fun vs H2 e2 d2 => q _ _ (Same.trans e1 e2) (.cons (KeepL.dp (Same.keepL e2) d1) d2)⟩⟩
theorem lit_tup {x1 : Nat} {pos : Pos} (h : PA X es (tLits K i g ds)) (hl : ds.length ≤ 1000) : PE X (.Tuple es x1 pos) (tLit K i g (.tuple ds)) :=
  pe_imp (pe_tup h) fun _ _ _ ⟨a, q⟩ => ⟨a, fun vs H1 e1 d1 => ⟨sizeOk (by rw [DpAll.len d1]; exact Nat.le_trans hl (by decide)), fun p hp => q _ _ (Same.trans e1 (same_new hp _)) (.tup (SqT.of upd_same) (KeepL.dps (Same.keepL (same_new hp _)) d1))⟩⟩
theorem lit_lst {pos : Pos} (h : PA X es (tLits K i g ds)) (hl : ds.length ≤ 1000) : PE X (.List es pos) (tLitL K i g ds) :=
  pe_imp (pe_lst h) fun _ _ _ ⟨a, q⟩ => ⟨a, fun vs H1 e1 d1 => ⟨sizeOk (by rw [DpAll.len d1]; exact Nat.le_trans hl (by decide)), fun p hp => q _ _ _ (Same.trans e1 (same_new hp _)) upd_same (KeepL.dps (Same.keepL (same_new hp _)) d1)⟩⟩
theorem lit_list {pos : Pos} (h : PA X es (tLits K i g ds)) (hl : ds.length ≤ 1000) : PE X (.List es pos) (tLit K i g (.list ds)) :=
  pe_imp (lit_lst h hl) fun _ _ _ ⟨a, q⟩ => ⟨a, fun _ _ _ e1 h1 d1 => q _ _ e1 (.lst (SqL.of h1) d1)⟩
end
theorem DpAll.app {K : PySem.W.Frag} {H : Hp} : ∀ {vs : List V} {ds : List PyData} {us : List V} {es : List PyData}, DpAll K H vs ds → DpAll K H us es → DpAll K H (vs ++ us) (ds ++ es)
  | _, _, _, _, .nil, h => h
  | _, _, _, _, .cons a b, h => .cons a (DpAll.app b h)
end Sc
namespace Sc
open PySem PySem.Spec PyProof.Rows L2
/-! ### good kinds, bad ones -/
theorem okL_mem' {ls : List Str} {d : Nat} {c : Ch} : ∀ {k : List Ch}, okL ls d k → c ∈ k → okC ls d c
  | _ :: _, h, m => by
    rcases List.mem_cons.mp m with e | e
    · rw [e]; exact h.1
    · exact okL_mem' h.2 e
theorem okF_mem' {ls : List Str} {d : Nat} {p : Str × List Ch} : ∀ {fs : List (Str × List Ch)}, okF ls d fs → p ∈ fs → Word p.1 ∧ p.2 ≠ [] ∧ p.2.length ≤ 3 ∧ okL ls d p.2
  | (f, k) :: r, h, m => by
    rcases List.mem_cons.mp m with e | e
    · rw [e]; exact ⟨h.1, h.2.1, h.2.2.1, h.2.2.2.1⟩
    · exact okF_mem' h.2.2.2.2 e
theorem gCh_two' {ls : List Str} {g : PyData → Bool} (w : Str) (t : PyData) : gCh ls g (.tuple [.str w, t]) = if w = "row" ∨ w = "book" then g t else if w = "shape" then gFl g t else if w = "letter" then letD ls t else false := rfl
theorem good_kind {ls : List Str} (hl : ∀ l ∈ ls, Lett l) : ∀ (d n : Nat), d < n → ∀ k : List Ch, k ≠ [] → okL ls d k → gK ls n (.tuple (pyL k)) = true := by
  intro d
  induction d with
  | zero => 
    intro n hn k k0 ok
    obtain ⟨m, rfl⟩ : ∃ m, n = m + 1 := ⟨n - 1, by omega⟩
    show (!(pyL k).isEmpty && (pyL k).all (gCh ls (gK ls m))) = true
    rw [pyL_map, Bool.and_eq_true]
    refine ⟨by cases k with | nil => exact absurd rfl k0 | cons _ _ => rfl, ?_⟩
    rw [List.all_map, List.all_eq_true]
    intro c hc
    have h := okL_mem' ok hc
    show gCh ls (gK ls m) (pyC c) = true
    cases c with
    | num => rw [pyC]; rfl
    | txt => rw [pyC]; rfl
    | row k => exact absurd h.1 (Nat.lt_irrefl _)
    | book k => exact absurd h.1 (Nat.lt_irrefl _)
    | shape fs => exact absurd h.1 (Nat.lt_irrefl _)
    | letter l =>
      have h' : l ∈ ls := by unfold okC at h; exact h
      rw [pyC, gCh_two', if_neg (by decide +kernel), if_neg (by decide +kernel), if_pos rfl]
      show (isLettD (.str l) && decide (l ∈ ls)) = true
      rw [decide_eq_true h', Bool.and_true]
      exact decide_eq_true (hl l h')
    | cut _ _ => unfold okC at h; exact h.elim
    | any _ => unfold okC at h; exact h.elim
    | wth _ => unfold okC at h; exact h.elim
  | succ d ih =>
    intro n hn k k0 ok
    obtain ⟨m, rfl⟩ : ∃ m, n = m + 1 := ⟨n - 1, by omega⟩
    show (!(pyL k).isEmpty && (pyL k).all (gCh ls (gK ls m))) = true
    rw [pyL_map, Bool.and_eq_true]
    refine ⟨by cases k with | nil => exact absurd rfl k0 | cons _ _ => rfl, ?_⟩
    rw [List.all_map, List.all_eq_true]
    intro c hc
    have h := okL_mem' ok hc
    show gCh ls (gK ls m) (pyC c) = true
    cases c with
    | num => rw [pyC]; rfl
    | txt => rw [pyC]; rfl
    | row k =>
      rw [pyC, gCh_two', if_pos (.inl rfl)]
      exact ih m (by omega) k h.2.1 h.2.2.2
    | book k =>
      rw [pyC, gCh_two', if_pos (.inr rfl)]
      exact ih m (by omega) k h.2.1 h.2.2.2
    | shape fs =>
      obtain ⟨_, _, fl, okf⟩ := h
      rw [pyC, gCh_two', if_neg (by decide +kernel), if_pos rfl]
      show (fldD (.tuple (pyF fs)) && (pyF fs).all (gPr (gK ls m))) = true
      rw [Bool.and_eq_true]
      obtain ⟨f0, f26, fnd, fso, fw⟩ := fl
      constructor
      · show (!(pyF fs).isEmpty && (pyF fs).all pairD && ascB ((pyF fs).map nameD)) = true
        rw [pyF_map, Bool.and_eq_true, Bool.and_eq_true]
        refine ⟨⟨by cases fs with | nil => exact absurd rfl f0 | cons _ _ => rfl, ?_⟩, ?_⟩
        · rw [List.all_map, List.all_eq_true]
          intro p _
          rfl
        · rw [List.map_map]
          show ascB (fs.map (·.1)) = true
          unfold ascB
          rw [fso, decide_eq_true fnd]
          rfl
      · rw [pyF_map, List.all_map, List.all_eq_true]
        intro p hp
        obtain ⟨w1, k1, _, o1⟩ := okF_mem' okf hp
        show (isWordD (.str p.1) && gK ls m (.tuple (pyL p.2))) = true
        rw [ih m (by omega) p.2 k1 o1, Bool.and_true]
        exact decide_eq_true w1
    | letter l =>
      have h' : l ∈ ls := by unfold okC at h; exact h
      rw [pyC, gCh_two', if_neg (by decide +kernel), if_neg (by decide +kernel), if_pos rfl]
      show (isLettD (.str l) && decide (l ∈ ls)) = true
      rw [decide_eq_true h', Bool.and_true]
      exact decide_eq_true (hl l h')
    | cut _ _ => unfold okC at h; exact h.elim
    | any _ => unfold okC at h; exact h.elim
    | wth _ => unfold okC at h; exact h.elim
/-- not too deep, not too long -/
def OkN (n : Nat) (d : PyData) : Prop := d.canLay0 = true ∧ sm d = true ∧ d.depth ≤ n
theorem OkN.ok {n : Nat} {d : PyData} (h : OkN n d) (hn : n ≤ 64) : okD d := ⟨Bool.and_eq_true_iff.mpr ⟨h.1, decide_eq_true (Nat.le_trans h.2.2 hn)⟩, h.2.1⟩
theorem OkN.mono {m n : Nat} {d : PyData} (h : OkN m d) (hn : m ≤ n) : OkN n d := ⟨h.1, h.2.1, Nat.le_trans h.2.2 hn⟩
theorem okN_tup {n : Nat} {ds : List PyData} (hl : ds.length ≤ 60) (h : ∀ d ∈ ds, OkN n d) : OkN (n + 1) (.tuple ds) := by
  have a : ∀ ds : List PyData, (∀ d ∈ ds, OkN n d) → PyData.canLayAll0 ds = true ∧ smAll ds = true ∧ PyData.depthAll ds ≤ n := fun ds => by
    induction ds with
    | nil => exact fun _ => ⟨rfl, rfl, by simp [PyData.depthAll]⟩
    | cons x xs ih =>
      intro h
      obtain ⟨h1, h2, h3⟩ := ih fun d m => h d (List.mem_cons_of_mem _ m)
      obtain ⟨g1, g2, g3⟩ := h x List.mem_cons_self
      refine ⟨?_, ?_, ?_⟩
      · show (x.canLay0 && PyData.canLayAll0 xs) = true
        rw [g1, h1]; rfl
      · show (sm x && smAll xs) = true
        rw [g2, h2]; rfl
      · have e0 : PyData.depthAll (x :: xs) = max x.depth (PyData.depthAll xs) := by simp [PyData.depthAll]
        rw [e0]
        omega
  obtain ⟨h1, h2, h3⟩ := a ds h
  refine ⟨h1, ?_, ?_⟩
  · show (decide (ds.length ≤ 60) && smAll ds) = true
    rw [h2, decide_eq_true hl]; rfl
  · have e0 : (PyData.tuple ds).depth = PyData.depthAll ds + 1 := by simp [PyData.depth]
    omega
end Sc
namespace Sc
open PySem PySem.Spec PyProof.Rows L2
theorem okN_str {z : Str} (h8 : z.cps.toList.length ≤ 8) (h : ∀ c ∈ z.cps.toList, c ≤ 122) : OkN 0 (.str z) := by
  refine ⟨?_, ?_, by simp [PyData.depth]⟩
  · show z.cps.all (· < 0x110000) = true
    rw [← Array.all_toList, List.all_eq_true]
    intro c hc
    have := h c hc
    exact decide_eq_true (by omega)
  · show decide (z.length ≤ 1000) = true
    rw [len_list]
    exact decide_eq_true (by omega)
theorem okN_word {z : Str} (h : Word z) : OkN 0 (.str z) := okN_str h.2.1 fun c hc => (h.2.2 c hc).2
theorem okN_lett {z : Str} (h : Lett z) : OkN 0 (.str z) := okN_str h.2.1 fun c hc => by have := h.2.2 c hc; omega
theorem okN_w {z : Str} {n : Nat} (h : (PyData.canLay0 (.str z) && sm (.str z)) = true) : OkN n (.str z) := by
  rw [Bool.and_eq_true] at h
  exact ⟨h.1, h.2, by simp [PyData.depth]⟩
theorem okN_one {z : Str} {n : Nat} (h : (PyData.canLay0 (.str z) && sm (.str z)) = true) : OkN (n + 1) (.tuple [.str z]) := okN_tup (by show 1 ≤ 60; decide) fun x m => by rw [List.mem_singleton.mp m]; exact okN_w h
theorem okN_num (n : Nat) : OkN (n + 1) (pyC .num) := by rw [pyC]; exact okN_one (by decide +kernel)
theorem okN_txt (n : Nat) : OkN (n + 1) (pyC .txt) := by rw [pyC]; exact okN_one (by decide +kernel)
theorem okN_two {n : Nat} {w : Str} {d : PyData} (hw : OkN n (.str w)) (h : OkN n d) : OkN (n + 1) (.tuple [.str w, d]) := okN_tup (by show 2 ≤ 60; decide) fun x m => by
  rcases List.mem_cons.mp m with e | e
  · rw [e]; exact hw
  · rw [List.mem_singleton.mp e]; exact h
theorem okN_kind {ls : List Str} (hl : ∀ l ∈ ls, Lett l) : ∀ (d : Nat) (k : List Ch), k.length ≤ 60 → okL ls d k → OkN (4 * d + 2) (.tuple (pyL k)) := by
  intro d
  induction d with
  | zero =>
    intro k kl ok
    refine okN_tup (by rw [pyL_map, List.length_map]; exact kl) fun x hx => ?_
    rw [pyL_map] at hx
    obtain ⟨c, hc, rfl⟩ := List.mem_map.mp hx
    have h := okL_mem' ok hc
    cases c with
    | num => exact okN_num 0
    | txt => exact okN_txt 0
    | row k => exact absurd h.1 (Nat.lt_irrefl _)
    | book k => exact absurd h.1 (Nat.lt_irrefl _)
    | shape fs => exact absurd h.1 (Nat.lt_irrefl _)
    | letter l =>
      have h' : l ∈ ls := by unfold okC at h; exact h
      rw [pyC]
      exact okN_two (okN_w (by decide +kernel)) (okN_lett (hl l h'))
    | cut _ _ => unfold okC at h; exact h.elim
    | any _ => unfold okC at h; exact h.elim
    | wth _ => unfold okC at h; exact h.elim
  | succ d ih =>
    intro k kl ok
    refine okN_tup (by rw [pyL_map, List.length_map]; exact kl) fun x hx => ?_
    rw [pyL_map] at hx
    obtain ⟨c, hc, rfl⟩ := List.mem_map.mp hx
    have h := okL_mem' ok hc
    cases c with
    | num => exact okN_num _
    | txt => exact okN_txt _
    | row k =>
      rw [pyC]
      exact okN_two (n := 4 * d + 4) (okN_w (by decide +kernel)) ((ih k (by have := h.2.2.1; omega) h.2.2.2).mono (by omega))
    | book k =>
      rw [pyC]
      exact okN_two (n := 4 * d + 4) (okN_w (by decide +kernel)) ((ih k (by have := h.2.2.1; omega) h.2.2.2).mono (by omega))
    | shape fs =>
      obtain ⟨_, f2, fl, okf⟩ := h
      rw [pyC]
      refine okN_two (n := 4 * d + 4) (okN_w (by decide +kernel)) (okN_tup (n := 4 * d + 3) (by rw [pyF_map, List.length_map]; omega) fun x hx => ?_)
      rw [pyF_map] at hx
      obtain ⟨p, hp, rfl⟩ := List.mem_map.mp hx
      obtain ⟨w1, k1, k3, o1⟩ := okF_mem' okf hp
      exact okN_two (n := 4 * d + 2) ((okN_word w1).mono (by omega)) (ih p.2 (by omega) o1)
    | letter l =>
      have h' : l ∈ ls := by unfold okC at h; exact h
      rw [pyC]
      exact okN_two (n := 4 * (d + 1)) (okN_w (by decide +kernel)) ((okN_lett (hl l h')).mono (by omega))
    | cut _ _ => unfold okC at h; exact h.elim
    | any _ => unfold okC at h; exact h.elim
    | wth _ => unfold okC at h; exact h.elim
/-- refused with any room to eight -/
def Bad (ls : List Str) (d : PyData) : Prop := ∀ n, n ≤ 9 → gK ls n d = false
theorem bad_in {ls : List Str} {c : PyData} {cs : List PyData} (m : c ∈ cs) (h : ∀ n, n ≤ 9 → gCh ls (gK ls n) c = false) : Bad ls (.tuple cs) := fun n hn => by
  cases n with
  | zero => rfl
  | succ n =>
    show (!cs.isEmpty && cs.all (gCh ls (gK ls n))) = false
    have e : cs.all (gCh ls (gK ls n)) = false := Bool.eq_false_iff.mpr fun z => by
      have := List.all_eq_true.mp z c m
      rw [h n (by omega)] at this
      cases this
    rw [e, Bool.and_false]
theorem ch_row {ls : List Str} {d : PyData} (h : Bad ls d) : ∀ n, n ≤ 9 → gCh ls (gK ls n) (.tuple [.str "row", d]) = false := fun n hn => by rw [gCh_two', if_pos (.inl rfl)]; exact h n hn
theorem ch_book {ls : List Str} {d : PyData} (h : Bad ls d) : ∀ n, n ≤ 9 → gCh ls (gK ls n) (.tuple [.str "book", d]) = false := fun n hn => by rw [gCh_two', if_pos (.inr rfl)]; exact h n hn
theorem ch_shape {ls : List Str} {d : PyData} (z : Str) (h : Bad ls d) : ∀ n, n ≤ 9 → gCh ls (gK ls n) (.tuple [.str "shape", .tuple [.tuple [.str z, d]]]) = false := fun n hn => by
  rw [gCh_two', if_neg (by decide +kernel), if_pos rfl]
  have e : gPr (gK ls n) (.tuple [.str z, d]) = false := by show (isWordD (.str z) && gK ls n d) = false; rw [h n hn, Bool.and_false]
  show (fldD (.tuple [.tuple [.str z, d]]) && [PyData.tuple [.str z, d]].all (gPr (gK ls n))) = false
  rw [List.all_cons, e, Bool.false_and, Bool.and_false]
theorem bad_deep (ls : List Str) (f : Nat → PyData) (f1 : ∀ n, f (n + 1) = .tuple [.tuple [.str "row", f n]]) : ∀ m n, n ≤ m → gK ls n (f m) = false := by
  intro m
  induction m with
  | zero =>
    intro n hn
    obtain rfl : n = 0 := by omega
    rfl
  | succ m ih =>
    intro n hn
    cases n with
    | zero => rfl
    | succ n =>
      rw [f1]
      show (!([PyData.tuple [.str "row", f m]]).isEmpty && [PyData.tuple [.str "row", f m]].all (gCh ls (gK ls n))) = false
      rw [List.all_cons, gCh_two', if_pos (.inl rfl), ih n (by omega), Bool.false_and, Bool.and_false]
/-! ### no drawn letter is ZZ -/
theorem word_zz {i : Inf} (h : i.Ok) {k : Int} (k0 : 0 ≤ k) : (wordOf i k).cps.toList ≠ [122, 122] := by
  unfold wordOf
  split
  · rename_i c
    have lt : k.toNat < talks.length := by show k.toNat < 19; omega
    rw [List.getD_eq_getElem?_getD, List.getElem?_eq_getElem lt]
    have : ∀ z ∈ talks, z.cps.toList ≠ [122, 122] := by decide +kernel
    exact this _ (List.getElem_mem lt)
  · obtain ⟨s1, s8, p0, p1, t0, t1, _, _⟩ := h
    rw [app_list, app_list, reps_list, reps_list]
    intro e
    have l := congrArg List.length e
    rw [List.length_append, List.length_append, List.length_replicate, List.length_replicate] at l
    have l' : i.place.toNat + 1 + (i.size - i.place - 1).toNat = 2 := l
    have m : 113 ∈ ([122, 122] : List Nat) := by
      rw [← e]
      by_cases z : i.place.toNat = 0
      · exact List.mem_append.mpr (.inr (List.mem_replicate.mpr ⟨by omega, rfl⟩))
      · exact List.mem_append.mpr (.inl (List.mem_append.mpr (.inl (List.mem_replicate.mpr ⟨z, rfl⟩))))
    exact absurd m (by decide)
theorem upper_zz {i : Inf} (h : i.Ok) {k : Int} (k0 : 0 ≤ k) : Txt.upper (wordOf i k) ≠ "ZZ" := fun e => by
  have w := word_of h k0
  have n := word_zz h k0
  generalize wordOf i k = z at e w n
  rw [upper_ascii fun c m => by have := w.2.2 c m; omega] at e
  have e' : z.cps.toList.map up1 = [90, 90] := by
    have a : (⟨z.cps.map up1⟩ : Str).cps.toList = z.cps.toList.map up1 := Array.toList_map
    rw [← a, e]
    rfl
  have w2 := w.2.2
  have h2 : z.cps.toList.length = 2 := by have := congrArg List.length e'; rw [List.length_map] at this; exact this
  obtain ⟨a, b, hl⟩ : ∃ a b, z.cps.toList = [a, b] := by
    generalize z.cps.toList = l at h2
    match l, h2 with
    | [a, b], _ => exact ⟨a, b, rfl⟩
  rw [hl] at e' w2 n
  have ha := w2 a List.mem_cons_self
  have hb := w2 b (List.mem_cons_of_mem _ List.mem_cons_self)
  have e1 : up1 a = 90 := by injection e'
  have e2 : up1 b = 90 := by injection e' with _ q; injection q
  unfold up1 at e1 e2
  rw [if_pos ha] at e1
  rw [if_pos hb] at e2
  refine n ?_
  rw [show a = 122 by omega, show b = 122 by omega]
end Sc
namespace Sc
open PySem PySem.Spec PyProof.Rows L2
/-! ### a law's state beside tables -/
theorem Tb.ext {K : PySem.W.Frag} {T : List Addr} {H H' : Hp} {s : Addr} {i : Inf} (t : Tb T H) (S : IsS K H s i) (x : Ext s H H') : Tb T H' := fun P hP => by
  obtain ⟨ps, e, g⟩ := t P hP
  obtain ⟨kvs, hk⟩ := S.dk
  exact ⟨ps, x _ _ (fun z => by rw [z, hk] at e; cases e) e, g⟩
theorem IsS.keepL {K : PySem.W.Frag} {H H' : Hp} {s : Addr} {i : Inf} (h : IsS K H s i) (e : Ext s H H') : KeepL K H H' := ⟨fun _ _ q => h.seq e q, h.keep e⟩
theorem IsS.fr {K : PySem.W.Frag} {T : List Addr} {H H' : Hp} {s : Addr} {i : Inf} (h : IsS K H s i) (t : Tb T H) (f : Fr T H H') : IsS K H' s i := by
  have kp := Fr.keep (K := K) t f
  obtain ⟨ns, m, a, b, c⟩ := h
  refine ⟨ns, m, f.old _ _ a fun z => ?_, kp.1 _ _ b, c⟩
  obtain ⟨ps, e, _⟩ := t s z
  rw [a] at e
  cases e
/-- what stays through the law -/
structure Bd (K : PySem.W.Frag) (T : List Addr) (s : Addr) (i : Inf) (l : Addr) (ls : List Str) (gv : V) (gd : PyData) (H : Hp) : Prop where
  S : IsS K H s i
  tb : Tb T H
  hl : SqL K H l (ls.map V.str)
  dg : Dp K H gv gd
section
variable {K : PySem.W.Frag} {T : List Addr} {s : Addr} {i : Inf} {l : Addr} {ls : List Str} {gv : V} {gd : PyData} {H H' : Hp}
theorem Bd.ext (b : Bd K T s i l ls gv gd H) (x : Ext s H H') (S' : IsS K H' s i) : Bd K T s i l ls gv gd H' := ⟨S', b.tb.ext b.S x, b.S.seq x b.hl, KeepL.dp (b.S.keepL x) b.dg⟩
theorem Bd.same (b : Bd K T s i l ls gv gd H) (e : Same H H') : Bd K T s i l ls gv gd H' := ⟨b.S.same e, (Fr.same b.tb e).tab, Same.seq e b.hl, KeepL.dp (Same.keepL e) b.dg⟩
theorem Bd.fr (b : Bd K T s i l ls gv gd H) (f : Fr T H H') : Bd K T s i l ls gv gd H' := ⟨b.S.fr b.tb f, f.tab, (Fr.keep b.tb f).1 _ _ b.hl, KeepL.dp (Fr.keep b.tb f) b.dg⟩
theorem Bd.keepF (b : Bd K T s i l ls gv gd H) (f : Fr T H H') : KeepL K H H' := Fr.keep b.tb f
end
theorem KeepL.trans {K : PySem.W.Frag} {H H1 H2 : Hp} (a : KeepL K H H1) (b : KeepL K H1 H2) : KeepL K H H2 := ⟨fun _ _ h => b.1 _ _ (a.1 _ _ h), fun _ _ h => b.2 _ _ (a.2 _ _ h)⟩
end Sc
namespace Sc
open PySem PyProof.Rows L2
def top (i : Nat) : Stmt := PySem.Challenge.pw_soothcheck_k10_kinds_that_are_none.main.body.getD i (.Pass ⟨0, 0, 0, 0⟩)
abbrev sNeedKind : Stmt := top 7
abbrev sPNeedKindWithin : Stmt := top 8
abbrev sPNeedChoice : Stmt := top 9
abbrev sPNeedFields : Stmt := top 10
abbrev sPNeedLetter : Stmt := top 11
abbrev sIsWord : Stmt := top 12
abbrev sHasWordSigns : Stmt := top 13
abbrev sIsLetter : Stmt := top 14
abbrev sPHasWordLength : Stmt := top 15
abbrev sAreFields : Stmt := top 16
abbrev sBegun : Stmt := top 18
abbrev sTaken : Stmt := top 19
abbrev sWord : Stmt := top 20
abbrev sKind : Stmt := top 21
abbrev sChoice : Stmt := top 22
abbrev sFields : Stmt := top 23
abbrev sNoKind : Stmt := top 24
abbrev sDeep : Stmt := top 25
abbrev sRefused : Stmt := top 26
abbrev sLaw : Stmt := top 27
structure Tx (K : PySem.W.Frag) (mg : Str → Option Value) : Prop where
  need_kind : Def K mg "need_kind" sNeedKind ["kind", "letters"]
  p_need_kind_within : Def K mg "_need_kind_within" sPNeedKindWithin ["kind", "letters", "room"]
  p_need_choice : Def K mg "_need_choice" sPNeedChoice ["choice", "letters", "room"]
  p_need_fields : Def K mg "_need_fields" sPNeedFields ["fields", "letters", "room"]
  p_need_letter : Def K mg "_need_letter" sPNeedLetter ["letter", "letters"]
  is_word : Def K mg "is_word" sIsWord ["thing"]
  has_word_signs : Def K mg "has_word_signs" sHasWordSigns ["text"]
  is_letter : Def K mg "is_letter" sIsLetter ["thing"]
  p_has_word_length : Def K mg "_has_word_length" sPHasWordLength ["thing"]
  are_fields : Def K mg "are_fields" sAreFields ["thing"]
  begun : Def K mg "_law_begun" sBegun ["_law_script"]
  taken : Def K mg "_law_taken" sTaken ["_law_s", "_law_most"]
  word : Def K mg "_law_word" sWord ["_law_s", "_law_k"]
  kind : Def K mg "_law_kind" sKind ["_law_s", "_law_deep_here", "_law_letters"]
  choice : Def K mg "_law_choice" sChoice ["_law_s", "_law_deep_here", "_law_letters"]
  fields : Def K mg "_law_fields" sFields ["_law_s", "_law_deep_here", "_law_letters"]
  no_kind : Def K mg "_law_no_kind" sNoKind ["_law_s", "_law_way"]
  deep : Def K mg "_law_deep" sDeep ["_law_kind_here", "_law_many"]
  refused : Def K mg "_law_refused" sRefused ["_law_kind_here", "_law_letters"]
  m_ValueError : mg "ValueError" = none
  m_abs : mg "abs" = none
  m_all : mg "all" = none
  m_int : mg "int" = none
  m_isinstance : mg "isinstance" = none
  m_len : mg "len" = none
  m_range : mg "range" = none
  m_set : mg "set" = none
  m_sorted : mg "sorted" = none
  m_str : mg "str" = none
  m_sum : mg "sum" = none
  m_tuple : mg "tuple" = none
end Sc
namespace Sc
open PySem PyProof.Rows L2
section
variable {P : Program} {w : World} {K : PySem.W.Frag} {mg : Str → Option Value} {base : Heap}
theorem scTaken : FnScope ["_law_s", "_law_most", "_law_found"] ["_law_s", "_law_most"] (defScope sTaken) := ⟨rfl, rfl, rfl, by decide +kernel, rfl, by decide +kernel, by decide +kernel⟩
theorem c_taken (T : Tx K mg) : Cal P w K mg base 1 "_law_taken" ["_law_s", "_law_most"] (spTaken K) := by
  refine T.taken.ok scTaken (fun vs H Q E h => ?_) (fun f cdv A outer s H vs Q E hr h => ?_)
  · obtain ⟨s, i, m, rfl, _⟩ := h
    rfl
  obtain ⟨s, i, m, rfl, ⟨ns, g, hs, hc, hl, iok, ok⟩, m0, mb, q⟩ := h
  have hu := hu_of hr
  have ml := T.m_len
  refine ⟨_, pss_cons (ps_if (pt_cmpR op_eq (pe_dget hu (pv 0) pe_str (fun _ _ => rfl)) pe_int (nomark _))
      (pss_cons (ps_dput hu (pv 0) pe_str (pe_op op_add (pe_dget hu (pv 0) pe_str (fun _ _ => rfl)) pe_int) rfl)
      (pss_cons (ps_if (pt_cmpR op_gt (pe_dget hu (pv 0) pe_str (fun _ _ => rfl)) (pe_callB call_len_seq (by rfl) ml PySem.boot_len (pa_cons (pe_dget hu (pv 0) pe_str (fun _ _ => rfl)) pa_nil)) (nomark _))
        (pss_cons (ps_dput hu (pv 0) pe_str (pe_op op_mod (pe_op op_add (pe_op op_mul (pe_dget hu (pv 0) pe_str (fun _ _ => rfl)) pe_int) pe_int) pe_int) rfl)
        (pss_cons (ps_set (i := 2) scTaken.nd rfl (Or.inl rfl) (pe_op op_fdiv (pe_dget hu (pv 0) pe_str (fun _ _ => rfl)) pe_int))
        (pss_one (ps_ret (pe_ifExp (pt_cmpR op_gt (pv 1) (pe_op op_pow pe_int pe_int) (nomark _)) (pe_op op_modN (pe_op op_pow (pv 2) pe_int) (pv 1)) (pe_op op_modN (pv 2) (pv 1)))))))
        pss_nil)
      (pss_cons (ps_if (pt_cmpR op_lt (pe_ix ix_list (pe_dget hu (pv 0) pe_str (fun _ _ => rfl)) (pe_op op_sub (pe_dget hu (pv 0) pe_str (fun _ _ => rfl)) pe_int) (fun _ _ => rfl)) (pe_op op_pow pe_int pe_int) (nomark _))
        (pss_one (ps_ret (pe_op op_modN (pe_ix ix_list (pe_dget hu (pv 0) pe_str (fun _ _ => rfl)) (pe_op op_sub (pe_dget hu (pv 0) pe_str (fun _ _ => rfl)) pe_int) (fun _ _ => rfl)) (pv 1))))
        pss_nil)
      (pss_one (ps_dput hu (pv 0) pe_str (pe_ix ix_list (pe_dget hu (pv 0) pe_str (fun _ _ => rfl)) (pe_op op_sub (pe_dget hu (pv 0) pe_str (fun _ _ => rfl)) pe_int) (fun _ _ => rfl)) rfl)))))
      pss_nil)
    (pss_cons (ps_set (i := 2) scTaken.nd rfl (Or.inl rfl) (pe_op op_modN (pe_dget hu (pv 0) pe_str (fun _ _ => rfl)) (pv 1)))
    (pss_cons (ps_dput hu (pv 0) pe_str (pe_op op_fdivW (pe_dget hu (pv 0) pe_str (fun _ _ => rfl)) (pv 1)) rfl)
    (pss_one (ps_ret (pv 2))))), ?_⟩
  -- the rows behind the if, from any state
  have last : ∀ (H1 : Hp) (g1 : Mv) (v2 : Option V), H1 s = some (.dK (stD i g1)) → SqL K H1 i.c (ns.map V.int) → g1.Ok → Ext s H H1 →
      tSeq (tAsg (tOp (rI (fun _ j => j ≠ 0) fun i j => V.int (i.fmod j)) (tDGet (tVar 0) (tC (.str "rest"))) (tVar 1)) (gName 2))
        (tSeq (sDPut (tVar 0) (tC (.str "rest")) (tOp (rI CDivW fun i j => V.int (i / j)) (tDGet (tVar 0) (tC (.str "rest"))) (tVar 1))) (tRet (tVar 2)))
        { nx := fun _ H' => Q .non H', rt := Q } [some (.ref s), some (.int m), v2] H1 := fun H1 g1 v2 hs1 hc1 ok1 e1 => by
    refine ⟨_, rfl, s, _, rfl, gS hs1 rfl, _, rfl, _, _, rfl, rfl, by omega, ?_⟩
    refine ⟨_, rfl, s, _, rfl, gS hs1 rfl, _, rfl, _, _, rfl, rfl, ⟨m0, ?_⟩, _, rfl, s, _, rfl, pS hs1 (p_rest i g1 _), _, rfl, ?_⟩
    · exact Nat.lt_trans (PySem.Flt.log2_lt_of (by decide) mb) (by decide)
    have em : g1.rest.fmod m = g1.rest % m := Int.fmod_eq_emod_of_nonneg _ (by omega)
    refine q _ _ (by rw [em]; exact Int.emod_nonneg _ (by omega)) (by rw [em]; exact Int.emod_lt_of_pos _ m0) (e1.trans (Ext.upd _ _ _)) ⟨ns, _, upd_same, (Ext.upd s H1 _).seq hs1 hc1, hl, iok, ?_⟩
    exact { ok1 with r0 := Int.ediv_nonneg ok1.r0 (by omega) }
  refine ⟨_, rfl, s, _, rfl, gS hs rfl, rfl, _, rfl, ite2 (fun c1 => ?_) (fun c1 => last H g none hs hc ok (Ext.refl s H))⟩
  refine ⟨_, rfl, s, _, rfl, gS hs rfl, _, _, rfl, rfl, _, rfl, s, _, rfl, pS hs (p_at i g _), ?_⟩
  have hs1 : (upd H s (.dK (stD i { g with att := g.att + 1 }))) s = _ := upd_same
  have e1 := Ext.upd s H (.dK (stD i { g with att := g.att + 1 }))
  have hc1 := e1.seq hs hc
  have ok1 : ({ g with att := g.att + 1 } : Mv).Ok := { ok with a0 := by have := ok.a0; show 0 ≤ g.att + 1; omega }
  generalize upd H s (.dK (stD i { g with att := g.att + 1 })) = H1 at hs1 e1 hc1 ⊢
  have a1 : 1 ≤ ({ g with att := g.att + 1 } : Mv).att := by have := ok.a0; show 1 ≤ g.att + 1; omega
  generalize ({ g with att := g.att + 1 } : Mv) = g1 at hs1 ok1 a1 ⊢
  refine ⟨_, rfl, s, _, rfl, gS hs1 rfl, _, rfl, s, _, rfl, gS hs1 rfl, i.c, _, rfl, .inl hc1, _, _, rfl, rfl, _, rfl, ite2 (fun c2 => ?_) (fun c2 => ?_)⟩
  · refine ⟨_, rfl, s, _, rfl, gS hs1 rfl, _, _, rfl, rfl, .inr (by decide), _, _, rfl, rfl, _, _, rfl, rfl, (by show (0 : Int) < 2147483647; decide), _, rfl, s, _, rfl, pS hs1 (p_seed i g1 _), ?_⟩
    have s0 : 0 ≤ (g1.seed * 48271 + 11) % 2147483647 := Int.emod_nonneg _ (by decide)
    have s1 : (g1.seed * 48271 + 11) % 2147483647 < 2147483647 := Int.emod_lt_of_pos _ (by decide)
    generalize (g1.seed * 48271 + 11) % 2147483647 = sd at s0 s1 ⊢
    have hs2 : (upd H1 s (.dK (stD i { g1 with seed := sd }))) s = _ := upd_same
    have e2 := Ext.upd s H1 (.dK (stD i { g1 with seed := sd }))
    have hc2 := e2.seq hs1 hc1
    have ok2 : ({ g1 with seed := sd } : Mv).Ok := { ok1 with e0 := s0 }
    generalize upd H1 s (.dK (stD i { g1 with seed := sd })) = H2 at hs2 e2 hc2 ⊢
    refine ⟨_, rfl, s, _, rfl, gS hs2 rfl, _, _, rfl, rfl, ⟨by decide, by decide⟩, _, rfl, _, _, rfl, rfl, ⟨by decide, by decide, by decide⟩, _, _, rfl, rfl, _, rfl, ?_⟩
    have fin : ∀ x : Int, Q (.int (x.fmod m)) H2 := fun x => by
      have em : x.fmod m = x % m := Int.fmod_eq_emod_of_nonneg _ (by omega)
      rw [em]
      exact q _ _ (Int.emod_nonneg _ (by omega)) (Int.emod_lt_of_pos _ m0) (e1.trans e2) ⟨ns, _, hs2, hc2, hl, iok, ok2⟩
    refine ite2 (fun c3 => ?_) (fun c3 => ?_)
    · refine ⟨_, rfl, _, _, rfl, rfl, ⟨by decide, by decide, ?_⟩, _, rfl, _, _, rfl, rfl, by omega, fin _⟩
      show (sd / 64).natAbs < 2 ^ 64
      omega
    · exact ⟨_, rfl, _, rfl, _, _, rfl, rfl, by omega, fin _⟩
  · have hlt : g1.att - 1 < (ns.length : Int) := by
      have c2' : ¬ (((ns.map V.int).length : Nat) : Int) < g1.att := of_decide_eq_false (Bool.eq_false_iff.mpr c2)
      rw [List.length_map] at c2'
      omega
    obtain ⟨j, hj⟩ : ∃ j : Nat, g1.att - 1 = (j : Int) := ⟨(g1.att - 1).toNat, by omega⟩
    have hjl : j < ns.length := by omega
    have hat : atI (ns.map V.int) (g1.att - 1) = some (.int ns[j]) := by
      rw [hj]
      exact atI_nat (by rw [List.getElem?_map, List.getElem?_eq_getElem hjl] <;> rfl)
    refine ⟨_, rfl, s, _, rfl, gS hs1 rfl, _, rfl, s, _, rfl, gS hs1 rfl, _, _, rfl, rfl, i.c, _, _, _, rfl, rfl, hc1, hat, _, _, rfl, rfl, ⟨by decide, by decide, by decide⟩, _, _, rfl, rfl, _, rfl, ite2 (fun c3 => ?_) (fun c3 => ?_)⟩
    · have em : ns[j].fmod m = ns[j] % m := Int.fmod_eq_emod_of_nonneg _ (by omega)
      refine ⟨_, rfl, s, _, rfl, gS hs1 rfl, _, rfl, s, _, rfl, gS hs1 rfl, _, _, rfl, rfl, i.c, _, _, _, rfl, rfl, hc1, hat, _, rfl, _, _, rfl, rfl, by omega, ?_⟩
      exact q _ _ (by rw [em]; exact Int.emod_nonneg _ (by omega)) (by rw [em]; exact Int.emod_lt_of_pos _ m0) e1 ⟨ns, _, hs1, hc1, hl, iok, ok1⟩
    · refine ⟨_, rfl, s, _, rfl, gS hs1 rfl, _, rfl, s, _, rfl, gS hs1 rfl, _, _, rfl, rfl, i.c, _, _, _, rfl, rfl, hc1, hat, _, rfl, s, _, rfl, pS hs1 (p_rest i g1 _), ?_⟩
      have c3' : ¬ ns[j] < 10 ^ 18 := of_decide_eq_false (Bool.eq_false_iff.mpr c3)
      exact last _ _ none upd_same ((Ext.upd s H1 _).seq hs1 hc1) { ok1 with r0 := by show 0 ≤ ns[j]; omega } (e1.trans (Ext.upd _ _ _))
end
end Sc
namespace Sc
open PySem PyProof.Rows L2
section
variable {P : Program} {w : World} {K : PySem.W.Frag} {mg : Str → Option Value} {base : Heap}
def d9 (c fl : Addr) : List (Key × V) := [(.inr "cells", .ref c), (.inr "at", .int 0), (.inr "size", .int 1), (.inr "place", .int 0), (.inr "turn", .int 0), (.inr "rest", .int 0),
  (.inr "functions", .ref fl), (.inr "odd", .int 0), (.inr "talk", .int 0)]
theorem merge9 (c fl : Addr) : mergeK [] (d9 c fl) = d9 c fl := by kernel_rfl
theorem seed9 (c fl : Addr) (n : Int) : putK (d9 c fl) (.inr "seed") (.int n) = stD ⟨c, fl, 1, 0, 0, 0, 0⟩ ⟨0, 0, n⟩ := by rfl
theorem scBegun : FnScope ["_law_script", "_law_s", "_law_cell"] ["_law_script"] (defScope sBegun) := ⟨rfl, rfl, rfl, by decide +kernel, rfl, by decide +kernel, by decide +kernel⟩
theorem c_begun (T : Tx K mg) : Cal P w K mg base 2 "_law_begun" ["_law_script"] (spBegun K) := by
  have CT : Cal P w K mg base 1 "_law_taken" ["_law_s", "_law_most"] (spTaken K) := c_taken T
  refine T.begun.ok scBegun (fun vs H Q E h => ?_) (fun f cdv A outer s H vs Q E hr h => ?_)
  · obtain ⟨c, ns, rfl, _⟩ := h
    rfl
  obtain ⟨c, ns, rfl, hc, hl, q⟩ := h
  have hu := hu_of hr
  refine ⟨_, pss_cons (ps_set (i := 1) scBegun.nd rfl (Or.inl rfl) (pe_disp (pps_cons pe_str (pv 0) (pps_cons pe_str pe_int (pps_cons pe_str pe_int (pps_cons pe_str pe_int (pps_cons pe_str pe_int (pps_cons pe_str pe_int
        (pps_cons pe_str (pe_lst pa_nil) (pps_cons pe_str pe_int (pps_cons pe_str pe_int pps_nil))))))))) (by rfl) (by rfl) (fun z => by cases z) (by decide)))
    (pss_cons (ps_dput hu (pv 1) pe_str (pe_op op_add pe_int (pe_callB (cr_sum rfl) (by rfl) T.m_sum (by decide +kernel) (pa_cons
        (pe_lc (own := [("_law_cell", 2)]) (g := gName 2) (tt := tYes) rfl scBegun.nd (pi_list (pv 0)) (blkOk_by (N := ["_law_script", "_law_s", "_law_cell"]) (sc := defScope sBegun) (by decide +kernel))
          (fun _ _ _ _ _ => pg_name (i := 2) scBegun.nd rfl (Or.inl rfl)) (fun _ _ _ _ _ => pts_nil)
          (fun _ _ _ _ _ => pe_op op_mul pe_int (pe_callB call_abs (by rfl) T.m_abs (by decide +kernel) (pa_cons (pv 2) pa_nil)))) pa_nil))) rfl)
    (pss_cons (ps_dput hu (pv 1) pe_str (pe_op op_add pe_int (pe_cal CT hr (pa_cons (pv 1) (pa_cons pe_int pa_nil)))) rfl)
    (pss_cons (ps_dput hu (pv 1) pe_str (pe_cal CT hr (pa_cons (pv 1) (pa_cons (pe_dget hu (pv 1) pe_str (fun _ _ => rfl)) pa_nil))) rfl)
    (pss_cons (ps_dput hu (pv 1) pe_str (pe_cal CT hr (pa_cons (pv 1) (pa_cons pe_int pa_nil))) rfl)
    (pss_cons (ps_dput hu (pv 1) pe_str (pe_callTy call_int1 (by rfl) T.m_int (by decide +kernel) (pa_cons (pe_cmpR op_eq (pe_cal CT hr (pa_cons (pv 1) (pa_cons pe_int pa_nil))) pe_int (nomark _)) pa_nil)) rfl)
    (pss_one (ps_ret (pv 1)))))))), ?_⟩
  refine fun s hs0 => ⟨_, rfl, Nat.zero_le _, fun fl hfl => ⟨?_, d9 c fl, rfl, by show 9 ≤ 15; decide, ?_⟩⟩
  · rw [upd_ne (ne_of_none upd_same hfl)]
    exact upd_same
  have hfl0 : H fl = none := (same_new hs0 (.dK [])).free hfl
  have nsf : s ≠ fl := ne_of_none upd_same hfl
  have e0 : Same H (upd (upd (upd H s (.dK [])) fl (.lst [])) s (.dK (mergeK [] (d9 c fl)))) := fun b o h => by
    rw [upd_ne (ne_of_none h hs0), upd_ne (ne_of_none h hfl0), upd_ne (ne_of_none h hs0)]
    exact h
  have f0 : (upd (upd (upd H s (.dK [])) fl (.lst [])) s (.dK (mergeK [] (d9 c fl)))) fl = some (.lst []) := by rw [upd_ne nsf.symm, upd_same]
  have d0 : (upd (upd (upd H s (.dK [])) fl (.lst [])) s (.dK (mergeK [] (d9 c fl)))) s = some (.dK (d9 c fl)) := by rw [upd_same, merge9]
  generalize (upd (upd (upd H s (.dK [])) fl (.lst [])) s (.dK (mergeK [] (d9 c fl)))) = H1 at e0 f0 d0 ⊢
  refine ⟨_, rfl, c, rfl, ⟨_, Same.seq e0 hc⟩, fun D hD => lc_list (K := K) (a := c) (xs := ns.map V.int) (fun j H2 => Same H1 H2 ∧ H2 D = some (.lst ((ns.take j).map fun z => V.int (31 * (if z < 0 then -z else z))))) ⟨same_new hD _, upd_same⟩
    (fun j H2 _ h => Same.seq (e0.trans h.1) hc) ?_ ?_⟩
  · rintro j x H2 hx ⟨e2, h2⟩
    rw [List.getElem?_map] at hx
    obtain ⟨z, hz, rfl⟩ := Option.map_eq_some_iff.mp hx
    refine ⟨rfl, _, rfl, z, rfl, _, _, rfl, rfl, .inl ⟨by decide, by decide⟩, _, h2, ?_, fun b o hb => ?_, ?_⟩
    · rw [List.length_map]
      exact small1000 (Nat.le_trans (List.length_take_le' _ _) (by omega))
    · rw [upd_ne (ne_of_none hb hD)]
      exact e2 b o hb
    · rw [upd_same, List.take_add_one, hz, List.map_append]
      rfl
  rintro H2 ⟨e2, h2⟩
  refine ⟨D, ns.map fun z => 31 * (if z < 0 then -z else z), rfl, ?_, _, _, rfl, rfl, _, rfl, s, _, rfl, DPut.k (k := Sum.inr "seed") (e2 _ _ d0) (by show 9 < sizeLine; decide), ?_⟩
  · rw [List.length_map, List.take_length] at h2
    rw [List.map_map]
    exact SqL.of h2
  rw [seed9]
  have hc2 : SqL K H2 c (ns.map V.int) := Same.seq (e0.trans e2) hc
  have x3 := Ext.upd s H2 (.dK (stD ⟨c, fl, 1, 0, 0, 0, 0⟩ ⟨0, 0, 7 + (ns.map fun z => 31 * (if z < 0 then -z else z)).sum⟩))
  have hs2 : (upd H2 s (.dK (stD ⟨c, fl, 1, 0, 0, 0, 0⟩ ⟨0, 0, 7 + (ns.map fun z => 31 * (if z < 0 then -z else z)).sum⟩))) s = _ := upd_same
  have hf2 : (upd H2 s (.dK (stD ⟨c, fl, 1, 0, 0, 0, 0⟩ ⟨0, 0, 7 + (ns.map fun z => 31 * (if z < 0 then -z else z)).sum⟩))) fl = some (.lst []) := by rw [upd_ne nsf.symm]; exact e2 _ _ f0
  have x03 : Ext s H (upd H2 s (.dK (stD ⟨c, fl, 1, 0, 0, 0, 0⟩ ⟨0, 0, 7 + (ns.map fun z => 31 * (if z < 0 then -z else z)).sum⟩))) := (Ext.same (e0.trans e2)).trans x3
  have hc3 := x3.seq (e2 _ _ d0) hc2
  generalize (upd H2 s (.dK (stD ⟨c, fl, 1, 0, 0, 0, 0⟩ ⟨0, 0, 7 + (ns.map fun z => 31 * (if z < 0 then -z else z)).sum⟩))) = H3 at hs2 hf2 x03 hc3 ⊢
  have sum0 : ∀ l : List Int, 0 ≤ (l.map fun z => 31 * (if z < 0 then -z else z)).sum := fun l => by
    induction l with
    | nil => exact Int.le_refl 0
    | cons z l ih =>
      rw [List.map_cons, List.sum_cons]
      split <;> omega
  have S3 : IsS K H3 s ⟨c, fl, 1, 0, 0, 0, 0⟩ := ⟨ns, _, hs2, hc3, hl, ⟨by show (1 : Int) ≤ 1; decide, by show (1 : Int) ≤ 8; decide, by show (0 : Int) ≤ 0; decide, by show (0 : Int) < 1; decide, by show (0 : Int) ≤ 0; decide, by show (0 : Int) < 26; decide, by show (0 : Int) ≤ 0; decide, by show (0 : Int) ≤ 1; decide⟩,
    ⟨by show (0 : Int) ≤ 0; decide, by show (0 : Int) ≤ 0; decide, by have := sum0 ns; show 0 ≤ 7 + _; omega⟩⟩
  -- the four draws
  have put : ∀ {H4 : Hp} {i i' : Inf} {k : Str} {v : V}, IsS K H4 s i → (∀ m, putK (stD i m) (.inr k) v = stD i' m) → i'.c = i.c → i'.Ok → ∃ H5, DPut H4 s (.str k) v H5 ∧ IsS K H5 s i' ∧ Ext s H4 H5 := fun {H4 i i' k v} h hp hi ho => by
    obtain ⟨ns, m, a1, a2, a3, a4, a5⟩ := h
    exact ⟨_, pS a1 (hp m), ⟨ns, m, upd_same, by rw [hi]; exact (Ext.upd s H4 _).seq a1 a2, a3, ho, a5⟩, Ext.upd s H4 _⟩
  refine ⟨_, rfl, s, _, 8, rfl, S3, by decide, by decide, fun r1 H4 a1 b1 x4 S4 => ?_⟩
  obtain ⟨H5, p5, S5, x5⟩ := put (k := "size") (v := .int (1 + r1)) S4 (fun m => p_size _ m _) rfl { s1 := by show 1 ≤ 1 + r1; omega, s8 := by show 1 + r1 ≤ 8; omega, p0 := by show (0 : Int) ≤ 0; decide, p1 := by show 0 < 1 + r1; omega, t0 := by show (0 : Int) ≤ 0; decide, t1 := by show (0 : Int) < 26; decide, k0 := by show (0 : Int) ≤ 0; decide, k1 := by show (0 : Int) ≤ 1; decide }
  refine ⟨_, _, rfl, rfl, _, rfl, s, _, rfl, p5, ?_⟩
  obtain ⟨ns5, m5, h5, _⟩ := id S5
  refine ⟨_, rfl, _, rfl, s, _, rfl, gS h5 rfl, s, _, _, rfl, S5, by show 0 < 1 + r1; omega, ?_, fun r2 H6 a2 b2 x6 S6 => ?_⟩
  · show (1 + r1).natAbs < 2 ^ 200
    exact Nat.lt_trans (show (1 + r1).natAbs < 100 by omega) (by decide)
  have b2' : r2 < 1 + r1 := b2
  obtain ⟨H7, p7, S7, x7⟩ := put (k := "place") (v := .int r2) S6 (fun m => p_place _ m _) rfl { s1 := by show 1 ≤ 1 + r1; omega, s8 := by show 1 + r1 ≤ 8; omega, p0 := a2, p1 := b2, t0 := by show (0 : Int) ≤ 0; decide, t1 := by show (0 : Int) < 26; decide, k0 := by show (0 : Int) ≤ 0; decide, k1 := by show (0 : Int) ≤ 1; decide }
  refine ⟨_, rfl, s, _, rfl, p7, ?_⟩
  refine ⟨_, rfl, s, _, 26, rfl, S7, by decide, by decide, fun r3 H8 a3 b3 x8 S8 => ?_⟩
  obtain ⟨H9, p9, S9, x9⟩ := put (k := "turn") (v := .int r3) S8 (fun m => p_turn _ m _) rfl { s1 := by show 1 ≤ 1 + r1; omega, s8 := by show 1 + r1 ≤ 8; omega, p0 := a2, p1 := b2, t0 := a3, t1 := b3, k0 := by show (0 : Int) ≤ 0; decide, k1 := by show (0 : Int) ≤ 1; decide }
  refine ⟨_, rfl, s, _, rfl, p9, ?_⟩
  refine ⟨_, rfl, s, _, 9, rfl, S9, by decide, by decide, fun r4 Ha a4 b4 xa Sa => ⟨rfl, .inr ⟨_, rfl, ?_⟩⟩⟩
  obtain ⟨Hb, pb, Sb, xb⟩ := put (k := "talk") (v := .int (if decide (V.int r4 = V.int 8) = true then 1 else 0)) Sa (fun m => p_talk _ m _) rfl { s1 := by show 1 ≤ 1 + r1; omega, s8 := by show 1 + r1 ≤ 8; omega, p0 := a2, p1 := b2, t0 := a3, t1 := b3, k0 := by show (0 : Int) ≤ ite _ _ _; split <;> decide, k1 := by show ite _ _ _ ≤ (1 : Int); split <;> decide }
  refine ⟨_, rfl, s, _, rfl, pb, _, rfl, ?_⟩
  have xx := x4.trans (x5.trans (x6.trans (x7.trans (x8.trans (x9.trans (xa.trans xb))))))
  refine q s _ Hb (fun b o h => ?_) hs0 rfl rfl (xx _ _ nsf.symm hf2) hfl0 Sb
  exact (x03.trans xx) b o (ne_of_none h hs0) h
end
end Sc
namespace Sc
open PySem PyProof.Rows L2
section
variable {P : Program} {w : World} {K : PySem.W.Frag} {mg : Str → Option Value} {base : Heap}
theorem scWord : FnScope ["_law_s", "_law_k", "_law_words", "_law_sign"] ["_law_s", "_law_k"] (defScope sWord) := ⟨rfl, rfl, rfl, by decide +kernel, rfl, by decide +kernel, by decide +kernel⟩
theorem abc_at : ∀ n : Nat, n < 26 → ("abcdefghijklmnopqrstuvwxyz" : Str).cps[n]? = some (97 + n) := by decide +kernel
theorem abc_len : ("abcdefghijklmnopqrstuvwxyz" : Str).length = 26 := by decide +kernel
theorem c_word (T : Tx K mg) : Cal P w K mg base 1 "_law_word" ["_law_s", "_law_k"] (spWord K) := by
  refine T.word.ok scWord (fun vs H Q E h => ?_) (fun f cdv A outer s H vs Q E hr h => ?_)
  · obtain ⟨s, i, k, rfl, _⟩ := h
    rfl
  obtain ⟨s, i, k, rfl, ⟨ns, m, hs, hc, hl, iok, ok⟩, k0, q⟩ := h
  have hu := hu_of hr
  refine ⟨_, pss_cons (ps_if (PW.pt (pw_and (pt_cmpR op_eq (pe_dget hu (pv 0) pe_str (fun _ _ => rfl)) pe_int (nomark _)) (pw_and1 (pt_cmpR op_lt (pv 1) pe_int (nomark _)))))
      (pss_cons (ps_set (i := 2) scWord.nd rfl (Or.inl rfl) (pe_lst (pa_cons pe_str (pa_cons pe_str (pa_cons pe_str (pa_cons pe_str (pa_cons pe_str (pa_cons pe_str (pa_cons pe_str (pa_cons pe_str
          (pa_cons pe_str (pa_cons pe_str (pa_cons pe_str (pa_cons pe_str (pa_cons pe_str (pa_cons pe_str pa_nil))))))))))))))))
      (pss_one (ps_ret (pe_ix ix_list (pe_op op_cat (pv 2) (pe_lst (pa_cons pe_str (pa_cons pe_str (pa_cons pe_str (pa_cons pe_str (pa_cons pe_str pa_nil))))))) (pv 1) (fun _ _ => rfl)))))
      pss_nil)
    (pss_cons (ps_set (i := 3) scWord.nd rfl (Or.inl rfl) (pe_item_str pe_str (pe_op op_mod (pe_op op_add (pv 1) (pe_dget hu (pv 0) pe_str (fun _ _ => rfl))) pe_int) (fun _ _ => rfl)))
    (pss_one (ps_ret (pe_op op_add_str (pe_op op_add_str (pe_op op_reps pe_str (pe_dget hu (pv 0) pe_str (fun _ _ => rfl))) (pv 3))
      (pe_op op_reps pe_str (pe_op op_sub (pe_op op_sub (pe_dget hu (pv 0) pe_str (fun _ _ => rfl)) (pe_dget hu (pv 0) pe_str (fun _ _ => rfl))) pe_int)))))), ?_⟩
  have plain : ¬ (i.talk = 1 ∧ k < 19) → ∀ v2, tSeq (tAsg (tOp (fun x y H Q => ∃ z i c, x = .str z ∧ y = .int i ∧ 0 ≤ i ∧ i < 2 ^ 63 ∧ i < z.length ∧ z.cps[i.toNat]? = some c ∧ Q (.str ⟨#[c]⟩) H) (tC (.str "abcdefghijklmnopqrstuvwxyz"))
      (tOp (rI (fun _ j => 0 < j) fun i j => V.int (i % j)) (tOp (rI0 fun i j => V.int (i + j)) (tVar 1) (tDGet (tVar 0) (tC (.str "turn")))) (tC (.int 26)))) (gName 3))
      (tRet (tOp (fun x y H Q => ∃ i j, x = .str i ∧ y = .str j ∧ i.length + j.length ≤ sizeLine ∧ Q (.str (i ++ j)) H) (tOp (fun x y H Q => ∃ i j, x = .str i ∧ y = .str j ∧ i.length + j.length ≤ sizeLine ∧ Q (.str (i ++ j)) H)
        (tOp rReps (tC (.str "q")) (tDGet (tVar 0) (tC (.str "place")))) (tVar 3)) (tOp rReps (tC (.str "q")) (tOp (rI0 fun i j => V.int (i - j)) (tOp (rI0 fun i j => V.int (i - j)) (tDGet (tVar 0) (tC (.str "size"))) (tDGet (tVar 0) (tC (.str "place")))) (tC (.int 1))))))
      { nx := fun _ H' => Q .non H', rt := Q } [some (.ref s), some (.int k), v2, none] H := fun no v2 => by
    have j0 : 0 ≤ (k + i.turn) % 26 := Int.emod_nonneg _ (by decide)
    have j1 : (k + i.turn) % 26 < 26 := Int.emod_lt_of_pos _ (by decide)
    have ew : wordOf i k = reps 113 i.place.toNat ++ signAt (97 + ((k + i.turn) % 26).toNat) ++ reps 113 (i.size - i.place - 1).toNat := if_neg no
    obtain ⟨s1, s8, p0, p1, t0, t1, _, _⟩ := iok
    refine ⟨_, rfl, _, rfl, s, _, rfl, gS hs rfl, _, _, rfl, rfl, _, _, rfl, rfl, (by show (0 : Int) < 26; decide), _, _, _, rfl, rfl, j0, by omega, by rw [abc_len]; exact j1, abc_at _ (by omega), ?_⟩
    refine ⟨_, rfl, s, _, rfl, gS hs rfl, 113, _, rfl, rfl, p0, by omega, _, rfl, _, _, rfl, rfl, ?_, _, rfl, s, _, rfl, gS hs rfl, _, rfl, s, _, rfl, gS hs rfl, _, _, rfl, rfl, _, _, rfl, rfl, 113, _, rfl, rfl, by omega, by omega, _, _, rfl, rfl, ?_, ?_⟩
    · rw [len_list, len_list, reps_list, List.length_replicate]
      show _ + 1 ≤ sizeLine
      rw [sizeLine_eq]; omega
    · rw [len_list, len_list, app_list, reps_list, reps_list, List.length_append, List.length_replicate, List.length_replicate]
      show _ + 1 + _ ≤ sizeLine
      rw [sizeLine_eq]; omega
    · have z := q H (Same.refl H)
      rw [ew] at z
      exact z
  refine ⟨_, rfl, s, _, rfl, gS hs rfl, rfl, _, rfl, ite2 (fun c1 => ?_) (fun c1 => ?_)⟩
  · refine ⟨_, rfl, _, _, rfl, rfl, _, rfl, ite2 (fun c2 => ?_) (fun c2 => plain (fun z => c2 (decide_eq_true z.2)) none)⟩
    have c1' : i.talk = 1 := by
      have z := of_decide_eq_true c1
      injection z
    have c2' : k < 19 := of_decide_eq_true c2
    refine ⟨(by show 14 ≤ sizeLine; decide), fun p hp => ⟨_, rfl, (by show 5 ≤ sizeLine; decide), fun p2 hp2 => ?_⟩⟩
    refine ⟨p, p2, _, _, rfl, rfl, by rw [upd_ne (ne_of_none upd_same hp2)]; exact upd_same, upd_same, (by show 14 + 5 ≤ sizeLine; decide), fun p3 hp3 => ⟨_, rfl, p3, talks.map V.str, k, .str (wordOf i k), rfl, rfl, SqL.of upd_same, ?_, ?_⟩⟩
    · have lt : k.toNat < talks.length := by show k.toNat < 19; omega
      have e : wordOf i k = talks[k.toNat] := by
        unfold wordOf
        rw [if_pos ⟨c1', c2'⟩, List.getD_eq_getElem?_getD, List.getElem?_eq_getElem lt]
        rfl
      rw [e]
      exact at_of (j := k.toNat) (by omega) (by rw [List.getElem?_map, List.getElem?_eq_getElem lt]; rfl)
    · exact q _ (((same_new hp _).trans (same_new hp2 _)).trans (same_new hp3 _))
  · refine plain (fun z => c1 (decide_eq_true ?_)) none
    show V.int i.talk = V.int 1
    rw [z.1]
end
end Sc
namespace Sc
open PySem PyProof.Rows L2
section
variable {P : Program} {w : World} {K : PySem.W.Frag} {mg : Str → Option Value} {base : Heap}
theorem scKind : FnScope ["_law_s", "_law_deep_here", "_law_letters", "_law_k"] ["_law_s", "_law_deep_here", "_law_letters"] (defScope sKind) := ⟨rfl, rfl, rfl, by decide +kernel, rfl, by decide +kernel, by decide +kernel⟩
theorem c_kind {n lv : Nat} (T : Tx K mg) (lv1 : 1 ≤ lv) (CC : Cal P w K mg base lv "_law_choice" ["_law_s", "_law_deep_here", "_law_letters"] (spChoice K n)) : Cal P w K mg base (lv + 1) "_law_kind" ["_law_s", "_law_deep_here", "_law_letters"] (spKind K n) := by
  have CT : Cal P w K mg base 1 "_law_taken" ["_law_s", "_law_most"] (spTaken K) := c_taken T
  refine T.kind.ok scKind (fun vs H Q E h => ?_) (fun f cdv A outer s H vs Q E hr h => ?_)
  · obtain ⟨s, l, i, d, ls, rfl, _⟩ := h
    rfl
  obtain ⟨s, l, i, d, ls, rfl, S, dn, hl, hls, q⟩ := h
  have hr1 : Room 1 _ := hr.mono lv1
  refine ⟨_, pss_one (ps_ret (pe_callTy call_tuple_of (by rfl) T.m_tuple (by decide +kernel) (pa_cons
      (pe_lc (own := [("_law_k", 3)]) (g := gName 3) (tt := tYes) rfl scKind.nd (pi_range1 rfl T.m_range (pa_cons (pe_op op_add pe_int (pe_cal CT hr1 (pa_cons (pv 0) (pa_cons pe_int pa_nil)))) pa_nil))
        (blkOk_by (N := ["_law_s", "_law_deep_here", "_law_letters", "_law_k"]) (sc := defScope sKind) (by decide +kernel))
        (fun _ _ _ _ _ => pg_name (i := 3) scKind.nd rfl (Or.inl rfl)) (fun _ _ _ _ _ => pts_nil)
        (fun _ _ _ _ _ => pe_cal CC hr (pa_cons (pv 0) (pa_cons (pv 1) (pa_cons (pv 2) pa_nil))))) pa_nil))), ?_⟩
  refine ⟨_, rfl, s, i, 3, rfl, S, by decide, by decide, fun r H1 r0 r3 x1 S1 => ⟨_, _, rfl, rfl, _, rfl, by omega, by omega, fun D hD => ?_⟩⟩
  have nds : D ≠ s := S1.ne hD
  have hl1 : SqL K H1 l (ls.map V.str) := S.seq x1 hl
  refine lc_range (lo := 0) (n := (1 + r).toNat) (fun j H2 => Ext s H1 H2 ∧ IsS K H2 s i ∧ ∃ vs k, H2 D = some (.lst vs) ∧ Dts K H2 vs (pyL k) ∧ okL ls d k ∧ k.length = j)
    ⟨Ext.new _ hD, S1.same (same_new hD _), [], [], upd_same, .nil, trivial, rfl⟩ ?_ ?_
  · rintro j H2 hj ⟨x2, S2, us, k, hd, dp, okk, lk⟩
    refine ⟨rfl, _, rfl, _, rfl, _, rfl, s, l, i, d, ls, rfl, S2, dn, S1.seq x2 hl1, hls, fun v H3 c x3 S3 dv oc => ⟨us, x3 _ _ nds hd, ?_, ?_⟩⟩
    · rw [dp.1, pyL_map, List.length_map]
      exact small1000 (by omega)
    · have x4 : Ext s H1 (upd H3 D (.lst (us ++ [v]))) := (x2.trans x3).over hD _
      have k4 : Keep K H3 (upd H3 D (.lst (us ++ [v]))) := Keep.upd (x3 _ _ nds hd) trivial _
      refine ⟨x4, S1.over S3 x4 nds, us ++ [v], k ++ [c], upd_same, ?_, okL_snoc oc okk, by rw [List.length_append, lk]; rfl⟩
      rw [pyL_map, List.map_append, ← pyL_map]
      exact (k4.dts ((S2.keep x3).dts dp)).snoc (k4.dt dv)
  · rintro H2 ⟨x2, S2, us, k, hd, dp, okk, lk⟩
    refine ⟨D, us, rfl, .inl ⟨SqL.of hd, fun t ht => ?_⟩⟩
    refine q _ _ k (x1.trans (x2.trans (Ext.new _ ht))) (S2.same (same_new ht _)) (((Same.keep (same_new ht _)).dts dp).tup (SqT.of upd_same)) ?_ ?_ okk
    · intro z
      rw [z] at lk
      have : 0 = (1 + r).toNat := lk
      omega
    · omega
end
end Sc
namespace Sc
open PySem PyProof.Rows L2
section
variable {P : Program} {w : World} {K : PySem.W.Frag} {mg : Str → Option Value} {base : Heap}
theorem scChoice : FnScope ["_law_s", "_law_deep_here", "_law_letters", "_law_way"] ["_law_s", "_law_deep_here", "_law_letters"] (defScope sChoice) := ⟨rfl, rfl, rfl, by decide +kernel, rfl, by decide +kernel, by decide +kernel⟩
theorem c_choice {n lv : Nat} (T : Tx K mg) (lv1 : 1 ≤ lv) (CK : Cal P w K mg base lv "_law_kind" ["_law_s", "_law_deep_here", "_law_letters"] (spKind K n)) (CF : Cal P w K mg base lv "_law_fields" ["_law_s", "_law_deep_here", "_law_letters"] (spFields K n)) :
    Cal P w K mg base (lv + 1) "_law_choice" ["_law_s", "_law_deep_here", "_law_letters"] (spChoice K (n + 1)) := by
  have CT : Cal P w K mg base 1 "_law_taken" ["_law_s", "_law_most"] (spTaken K) := c_taken T
  refine T.choice.ok scChoice (fun vs H Q E h => ?_) (fun f cdv A outer s H vs Q E hr h => ?_)
  · obtain ⟨s, l, i, d, ls, rfl, _⟩ := h
    rfl
  obtain ⟨s, l, i, d, ls, rfl, S, dn, hl, hls, q⟩ := h
  have hr1 : Room 1 _ := hr.mono lv1
  refine ⟨_, pss_cons (ps_set (i := 3) scChoice.nd rfl (Or.inl rfl) (pe_cal CT hr1 (pa_cons (pv 0) (pa_cons pe_int pa_nil))))
    (pss_cons (ps_if (PW.pt (pw_and (pt_cmpR op_eq (pv 3) pe_int (nomark _)) (pw_and1 (pt_cmpR op_gt (pe_callB call_len_seq (by rfl) T.m_len PySem.boot_len (pa_cons (pv 2) pa_nil)) pe_int (nomark _)))))
      (pss_one (ps_ret (pe_tup (pa_cons pe_str (pa_cons (pe_ix ix_list (pv 2) (pe_cal CT hr1 (pa_cons (pv 0) (pa_cons (pe_callB call_len_seq (by rfl) T.m_len PySem.boot_len (pa_cons (pv 2) pa_nil)) pa_nil))) (fun _ _ => rfl)) pa_nil))))) pss_nil)
    (pss_cons (ps_if (PW.pt (pw_and (pt_cmpR op_gt (pv 1) pe_int (nomark _)) (pw_and1 (pt_chain op_le op_le pe_int (pv 3) pe_int))))
      (pss_one (ps_ret (pe_tup (pa_cons (pe_ix ix_list (pe_lst (pa_cons pe_str (pa_cons pe_str pa_nil))) (pe_op op_sub (pv 3) pe_int) (fun _ _ => rfl)) (pa_cons (pe_cal CK hr (pa_cons (pv 0) (pa_cons (pe_op op_sub (pv 1) pe_int) (pa_cons (pv 2) pa_nil)))) pa_nil))))) pss_nil)
    (pss_cons (ps_if (PW.pt (pw_and (pt_cmpR op_gt (pv 1) pe_int (nomark _)) (pw_and1 (pt_cmpR op_ge (pv 3) pe_int (nomark _)))))
      (pss_one (ps_ret (pe_tup (pa_cons pe_str (pa_cons (pe_cal CF hr (pa_cons (pv 0) (pa_cons (pv 1) (pa_cons (pv 2) pa_nil)))) pa_nil))))) pss_nil)
    (pss_one (ps_ret (pe_ix ix_list (pe_lst (pa_cons (pe_tup (pa_cons pe_str pa_nil)) (pa_cons (pe_tup (pa_cons pe_str pa_nil)) pa_nil))) (pe_op op_mod (pv 3) pe_int) (fun _ _ => rfl))))))), ?_⟩
  refine ⟨_, rfl, s, i, 7, rfl, S, by decide, by decide, fun r H1 r0 r7 x1 S1 => ?_⟩
  have hl1 : SqL K H1 l (ls.map V.str) := S.seq x1 hl
  -- the last row
  have last : tRet (tOp (rIxL K) (tLst (tCons (tTup (tCons (tC (.str "number")) tNil)) (tCons (tTup (tCons (tC (.str "text")) tNil)) tNil))) (tOp (rI (fun _ j => 0 < j) fun i j => V.int (i % j)) (tVar 3) (tC (.int 2))))
      { nx := fun _ H' => Q .non H', rt := Q } [some (.ref s), some (.int d), some (.ref l), some (.int r)] H1 := by
    refine ⟨(by show 1 ≤ sizeLine; decide), fun p1 hp1 => ⟨(by show 1 ≤ sizeLine; decide), fun p2 hp2 => ⟨(by show 2 ≤ sizeLine; decide), fun p3 hp3 => ?_⟩⟩⟩
    have e1 := same_new hp1 (.tup [.str "number"])
    have e2 := same_new hp2 (.tup [.str "text"])
    have e3 := same_new hp3 (.lst [.ref p1, .ref p2])
    have g1 := e3 _ _ (e2 _ _ (upd_same (H := H1) (a := p1) (o := .tup [.str "number"])))
    have g2 := e3 _ _ (upd_same (a := p2) (o := .tup [.str "text"]) (H := upd H1 p1 (.tup [.str "number"])))
    have ee := e1.trans (e2.trans e3)
    have h01 : r % 2 = 0 ∨ r % 2 = 1 := by omega
    refine ⟨_, rfl, _, _, rfl, rfl, (by show (0 : Int) < 2; decide), p3, [.ref p1, .ref p2], r % 2, (if r % 2 = 0 then .ref p1 else .ref p2), rfl, rfl, SqL.of upd_same, ?_, ?_⟩
    · rcases h01 with h | h <;> rw [h] <;> rfl
    · rcases h01 with h | h <;> rw [h]
      · exact q _ _ .num (x1.trans (Ext.same ee)) (S1.same ee) ((Dts.nil.cons (.str _)).tup (SqT.of g1)) trivial
      · exact q _ _ .txt (x1.trans (Ext.same ee)) (S1.same ee) ((Dts.nil.cons (.str _)).tup (SqT.of g2)) trivial
  have hd1 : ∀ {k : Nat}, d = k + 1 → k < n := fun h => by omega
  dsimp only [tNext, gName]
  show tAnd _ _ _ _ _
  refine and_pure (decide (V.int r = V.int 6)) (decide ((((ls.map V.str).length : Nat) : Int) > 0)) (fun R h => ⟨_, rfl, rfl, _, rfl, h⟩) (fun _ R h => ⟨_, rfl, l, _, rfl, .inl hl1, _, _, rfl, rfl, _, rfl, h⟩) (fun c1 c2 => iteT ?_) (fun _ => iteF ?_)
  · have c2' : 0 < (ls.length : Int) := by
      have z := of_decide_eq_true c2
      rw [List.length_map] at z
      exact z
    refine ⟨_, rfl, _, rfl, _, rfl, l, _, rfl, .inl hl1, s, i, ls.length, by simp, S1, c2', ?_, fun r2 H2 a2 b2 x2 S2 => ?_⟩
    · exact Nat.lt_of_le_of_lt (show (ls.length : Int).natAbs ≤ 1000 by omega) (by decide)
    have lt : r2.toNat < ls.length := by omega
    refine ⟨l, ls.map V.str, r2, .str ls[r2.toNat], rfl, rfl, S1.seq x2 hl1, at_of (j := r2.toNat) (by omega) (by rw [List.getElem?_map, List.getElem?_eq_getElem lt]; rfl), (by show 2 ≤ sizeLine; decide), fun t ht => ?_⟩
    exact q _ _ (.letter ls[r2.toNat]) (x1.trans (x2.trans (Ext.new _ ht))) (S2.same (same_new ht _)) (((Dts.nil.cons (.str _)).cons (.str _)).tup (SqT.of upd_same)) (List.getElem_mem lt)
  dsimp only [tNext, gName]
  show tAnd _ _ _ _ _
  refine and_pure (decide ((d : Int) > 0)) (decide (2 ≤ r) && decide (r ≤ 3)) (fun R h => ⟨_, rfl, _, _, rfl, rfl, _, rfl, h⟩) (fun _ R h => ⟨_, rfl, _, _, rfl, rfl, _, rfl, ?_⟩) (fun c1 c2 => iteT ?_) (fun _ => iteF ?_)
  · by_cases a : 2 ≤ r
    · rw [decide_eq_true a] at h ⊢
      exact iteT ⟨_, _, rfl, rfl, _, rfl, h⟩
    · rw [decide_eq_false a] at h ⊢
      exact iteF ⟨_, rfl, h⟩
  · have c1' : (d : Int) > 0 := of_decide_eq_true c1
    rw [Bool.and_eq_true, decide_eq_true_eq, decide_eq_true_eq] at c2
    obtain ⟨k, rfl⟩ : ∃ k : Nat, d = k + 1 := ⟨d - 1, by omega⟩
    have r23 : r = 2 ∨ r = 3 := by omega
    refine ⟨(by show 2 ≤ sizeLine; decide), fun p hp => ⟨_, rfl, _, _, rfl, rfl, p, [.str "row", .str "book"], r - 2, .str (if r = 2 then "row" else "book"), rfl, rfl, SqL.of upd_same, ?_, _, rfl, _, rfl, _, _, rfl, rfl, _, rfl, s, l, i, k, ls, ?_, S1.same (same_new hp _), hd1 rfl, Same.seq (same_new hp _) hl1, hls,
      fun v H2 kk x2 S2 dv k0 k3 ok => ⟨(by show 2 ≤ sizeLine; decide), fun t ht => ?_⟩⟩⟩
    · rcases r23 with h | h <;> rw [h] <;> rfl
    · show ([.ref s, .int (((k + 1 : Nat) : Int) - 1), .ref l] : List V) = _
      rw [show ((k + 1 : Nat) : Int) - 1 = (k : Int) by omega]
    · have ex : Ext s H (upd H2 t (.tup [.str (if r = 2 then "row" else "book"), v])) := x1.trans ((Ext.same (same_new hp _)).trans (x2.trans (Ext.new _ ht)))
      have dt : Dt K (upd H2 t (.tup [.str (if r = 2 then "row" else "book"), v])) (.ref t) (.tuple [.str (if r = 2 then "row" else "book"), .tuple (pyL kk)]) := ((Dts.nil.cons ((Same.keep (same_new ht _)).dt dv)).cons (.str _)).tup (SqT.of upd_same)
      have S3 := S2.same (same_new ht (.tup [.str (if r = 2 then "row" else "book"), v]))
      rcases r23 with h | h
      · rw [if_pos h] at ex dt S3 ⊢
        exact q _ _ (.row kk) ex S3 dt ⟨Nat.succ_pos _, k0, k3, ok⟩
      · rw [if_neg (by omega)] at ex dt S3 ⊢
        exact q _ _ (.book kk) ex S3 dt ⟨Nat.succ_pos _, k0, k3, ok⟩
  dsimp only [tNext, gName]
  show tAnd _ _ _ _ _
  refine and_pure (decide ((d : Int) > 0)) (decide (r ≥ 4)) (fun R h => ⟨_, rfl, _, _, rfl, rfl, _, rfl, h⟩) (fun _ R h => ⟨_, rfl, _, _, rfl, rfl, _, rfl, h⟩) (fun c1 c2 => iteT ?_) (fun _ => iteF last)
  have c1' : (d : Int) > 0 := of_decide_eq_true c1
  obtain ⟨k, rfl⟩ : ∃ k : Nat, d = k + 1 := ⟨d - 1, by omega⟩
  refine ⟨_, rfl, _, rfl, _, rfl, s, l, i, k, ls, rfl, S1, hd1 rfl, hl1, hls, fun v H2 fs x2 S2 dv f2 fld ok => ⟨(by show 2 ≤ sizeLine; decide), fun t ht => ?_⟩⟩
  exact q _ _ (.shape fs) (x1.trans (x2.trans (Ext.new _ ht))) (S2.same (same_new ht _)) (((Dts.nil.cons ((Same.keep (same_new ht _)).dt dv)).cons (.str _)).tup (SqT.of upd_same)) ⟨Nat.succ_pos _, f2, fld, ok⟩
end
end Sc
namespace Sc
open PySem PyProof.Rows L2
section
variable {P : Program} {w : World} {K : PySem.W.Frag} {mg : Str → Option Value} {base : Heap}
theorem scFields : FnScope ["_law_s", "_law_deep_here", "_law_letters", "_law_words", "_law_k", "_law_word_here"] ["_law_s", "_law_deep_here", "_law_letters"] (defScope sFields) := ⟨rfl, rfl, rfl, by decide +kernel, rfl, by decide +kernel, by decide +kernel⟩
theorem c_fields {n lv : Nat} (T : Tx K mg) (lv1 : 1 ≤ lv) (CK : Cal P w K mg base lv "_law_kind" ["_law_s", "_law_deep_here", "_law_letters"] (spKind K n)) :
    Cal P w K mg base (lv + 1) "_law_fields" ["_law_s", "_law_deep_here", "_law_letters"] (spFields K n) := by
  have CT : Cal P w K mg base 1 "_law_taken" ["_law_s", "_law_most"] (spTaken K) := c_taken T
  have CW : Cal P w K mg base 1 "_law_word" ["_law_s", "_law_k"] (spWord K) := c_word T
  refine T.fields.ok scFields (fun vs H Q E h => ?_) (fun f cdv A outer s H vs Q E hr h => ?_)
  · obtain ⟨s, l, i, d, ls, rfl, _⟩ := h
    rfl
  obtain ⟨s, l, i, d, ls, rfl, S, dn, hl, hls, q⟩ := h
  have hr1 : Room 1 _ := hr.mono lv1
  refine ⟨_, pss_cons (ps_set (i := 3) scFields.nd rfl (Or.inl rfl) (pe_callB (cr_txSorted rfl) (by rfl) T.m_sorted (by decide +kernel) (pa_cons (pe_callTy (cr_txSet rfl) (by rfl) T.m_set (by decide +kernel) (pa_cons
        (pe_lc (own := [("_law_k", 4)]) (g := gName 4) (tt := tYes) rfl scFields.nd (pi_range1 rfl T.m_range (pa_cons (pe_op op_add pe_int (pe_cal CT hr1 (pa_cons (pv 0) (pa_cons pe_int pa_nil)))) pa_nil))
        (blkOk_by (N := ["_law_s", "_law_deep_here", "_law_letters", "_law_words", "_law_k", "_law_word_here"]) (sc := defScope sFields) (by decide +kernel))
        (fun _ _ _ _ _ => pg_name (i := 4) scFields.nd rfl (Or.inl rfl)) (fun _ _ _ _ _ => pts_nil)
        (fun _ _ _ _ _ => pe_cal CW hr1 (pa_cons (pv 0) (pa_cons (pe_cal CT hr1 (pa_cons (pv 0) (pa_cons pe_int pa_nil))) pa_nil)))) pa_nil)) pa_nil)))
    (pss_one (ps_ret (pe_callTy call_tuple_of (by rfl) T.m_tuple (by decide +kernel) (pa_cons
      (pe_lc (own := [("_law_word_here", 5)]) (g := gName 5) (tt := tYes) rfl scFields.nd (pi_list (pv 3))
        (blkOk_by (N := ["_law_s", "_law_deep_here", "_law_letters", "_law_words", "_law_k", "_law_word_here"]) (sc := defScope sFields) (by decide +kernel))
        (fun _ _ _ _ _ => pg_name (i := 5) scFields.nd rfl (Or.inl rfl)) (fun _ _ _ _ _ => pts_nil)
        (fun _ _ _ _ _ => pe_tup (pa_cons (pv 5) (pa_cons (pe_cal CK hr (pa_cons (pv 0) (pa_cons (pe_op op_sub (pv 1) pe_int) (pa_cons (pv 2) pa_nil)))) pa_nil)))) pa_nil)))), ?_⟩
  refine ⟨_, rfl, s, i, 2, rfl, S, by decide, by decide, fun r H1 r0 r2 x1 S1 => ⟨_, _, rfl, rfl, _, rfl, by omega, by omega, fun D hD => ?_⟩⟩
  have nds : D ≠ s := S1.ne hD
  refine lc_range (lo := 0) (n := (1 + r).toNat) (fun j H2 => Ext s H1 H2 ∧ IsS K H2 s i ∧ ∃ zs : List Str, H2 D = some (.lst (zs.map V.str)) ∧ (∀ z ∈ zs, Word z) ∧ zs.length = j)
    ⟨Ext.new _ hD, S1.same (same_new hD _), [], upd_same, (fun z hz => by cases hz), rfl⟩ ?_ ?_
  · rintro j H2 hj ⟨x2, S2, zs, hd, wd, lz⟩
    refine ⟨rfl, _, rfl, _, rfl, s, i, 3, rfl, S2, by decide, by decide, fun k H3 k0 k3 x3 S3 => ⟨s, i, k, rfl, S3, k0, fun H4 e4 => ⟨zs.map V.str, e4 _ _ (x3 _ _ nds hd), ?_, ?_⟩⟩⟩
    · rw [List.length_map]
      exact small1000 (by omega)
    · have x5 : Ext s H1 (upd H4 D (.lst (zs.map V.str ++ [.str (wordOf i k)]))) := ((x2.trans x3).trans (Ext.same e4)).over hD _
      obtain ⟨_, _, _, _, _, iok, _⟩ := id S1
      refine ⟨x5, S1.over (S3.same e4) x5 nds, zs ++ [wordOf i k], by rw [upd_same, List.map_append]; rfl, fun z hz => ?_, by rw [List.length_append, lz]; rfl⟩
      rcases List.mem_append.mp hz with h | h
      · exact wd z h
      · rw [List.mem_singleton.mp h]
        exact word_of iok k0
  rintro H2 ⟨x2, S2, zs, hd, wd, lz⟩
  have lz' : zs.length = (1 + r).toNat := lz
  refine ⟨D, zs, rfl, SqL.of hd, by omega, fun a m ha hm => ⟨a, _, m, rfl, upd_same, by omega, fun ys p so nd mem len hp => ?_⟩⟩
  generalize TxO _ a (fun y => decide (y ∈ zs)) m = o3 at hp ⊢
  have e3 := (same_new ha o3).trans (same_new hp (.lst (ys.map V.str)))
  have hp3 : (upd (upd H2 a o3) p (.lst (ys.map V.str))) p = _ := upd_same
  have x3 := x1.trans (x2.trans (Ext.same e3))
  have S3 := S2.same e3
  have wy : ∀ y ∈ ys, Word y := fun y hy => wd y (of_decide_eq_true ((mem y).mp hy))
  have y0 : ys ≠ [] := fun z => by
    cases zs with
    | nil => 
      have : 0 = (1 + r).toNat := lz'
      omega
    | cons z0 zs =>
      have h := (mem z0).mpr (decide_eq_true List.mem_cons_self)
      rw [z] at h
      cases h
  have y2 : ys.length ≤ 2 := by omega
  generalize (upd (upd H2 a o3) p (.lst (ys.map V.str))) = H3 at hp3 x3 S3 ⊢
  have hl3 : SqL K H3 l (ls.map V.str) := S.seq x3 hl
  refine ⟨_, rfl, p, rfl, ⟨_, SqL.of hp3⟩, fun F hF => ?_⟩
  have nfs : F ≠ s := S3.ne hF
  refine lc_list (K := K) (a := p) (xs := ys.map V.str) (fun j H4 => Ext s H3 H4 ∧ IsS K H4 s i ∧ ∃ vs fs, H4 F = some (.lst vs) ∧ Dts K H4 vs (pyF fs) ∧ okF ls d fs ∧ fs.map (·.1) = ys.take j)
    ⟨Ext.new _ hF, S3.same (same_new hF _), [], [], upd_same, .nil, trivial, rfl⟩ (fun j H4 _ h => S3.seq h.1 (SqL.of hp3)) ?_ ?_
  · rintro j x H4 hx ⟨x4, S4, us, fs, hf, dts, okf, efs⟩
    rw [List.getElem?_map] at hx
    obtain ⟨z, hz, rfl⟩ := Option.map_eq_some_iff.mp hx
    have hlen : fs.length ≤ 2 := by
      have e := congrArg List.length efs
      rw [List.length_map, List.length_take] at e
      omega
    refine ⟨rfl, _, rfl, _, rfl, _, rfl, _, _, rfl, rfl, _, rfl, s, l, i, d, ls, ?_, S4, dn, S3.seq x4 hl3, hls, fun v H5 kk x5 S5 dv k0 k3 ok => ⟨(by show 2 ≤ sizeLine; decide), fun t ht => ⟨us, (same_new ht _) _ _ (x5 _ _ nfs hf), ?_, ?_⟩⟩⟩
    · show ([.ref s, .int (((d + 1 : Nat) : Int) - 1), .ref l] : List V) = _
      rw [show ((d + 1 : Nat) : Int) - 1 = (d : Int) by omega]
    · rw [dts.1, pyF_map, List.length_map]
      exact small1000 (by omega)
    · have e6 := same_new ht (.tup [.str z, v])
      have x7 : Ext s H3 (upd (upd H5 t (.tup [.str z, v])) F (.lst (us ++ [.ref t]))) := ((x4.trans x5).trans (Ext.same e6)).over hF _
      have k7 : Keep K (upd H5 t (.tup [.str z, v])) (upd (upd H5 t (.tup [.str z, v])) F (.lst (us ++ [.ref t]))) := Keep.upd (e6 _ _ (x5 _ _ nfs hf)) trivial _
      refine ⟨x7, S3.over (S5.same e6) x7 nfs, us ++ [.ref t], fs ++ [(z, kk)], upd_same, ?_, okF_snoc (wy z (List.mem_of_getElem? hz)) k0 k3 ok okf, ?_⟩
      · rw [pyF_map, List.map_append, ← pyF_map]
        refine (k7.dts ((Same.keep e6).dts ((S4.keep x5).dts dts))).snoc (k7.dt ?_)
        exact ((Dts.nil.cons ((Same.keep e6).dt dv)).cons (.str _)).tup (SqT.of upd_same)
      · rw [List.map_append, efs, List.take_add_one, hz]
        rfl
  rintro H4 ⟨x4, S4, us, fs, hf, dts, okf, efs⟩
  rw [List.length_map, List.take_length] at efs
  refine ⟨F, us, rfl, .inl ⟨SqL.of hf, fun t ht => ?_⟩⟩
  have e5 := same_new ht (.tup us)
  have fl2 : fs.length ≤ 2 := by
    have e := congrArg List.length efs
    rw [List.length_map] at e
    omega
  refine q _ _ fs (x3.trans (x4.trans (Ext.same e5))) (S4.same e5) (((Same.keep e5).dts dts).tup (SqT.of upd_same)) fl2 ?_ okf
  rw [efs]
  exact ⟨y0, by omega, nd, so, wy⟩
end
end Sc
namespace Sc
open PySem PyProof.Rows L2
section
variable {P : Program} {w : World} {K : PySem.W.Frag} {mg : Str → Option Value} {base : Heap}
theorem c_kinds (T : Tx K mg) : ∀ n : Nat, Cal P w K mg base (3 * n + 1) "_law_kind" ["_law_s", "_law_deep_here", "_law_letters"] (spKind K n)
  | 0 => (T.kind.never fun vs H Q E ⟨_, _, _, _, _, _, _, h, _⟩ => absurd h (Nat.not_lt_zero _)).mono (Nat.zero_le _)
  | n + 1 => by
    have ih := c_kinds T n
    have cf := c_fields T (by omega) ih
    have cc := c_choice T (lv := 3 * n + 1 + 1) (by omega) (ih.mono (by omega)) cf
    exact c_kind T (by omega) cc
end
end Sc
namespace Sc
open PySem PyProof.Rows L2
section
variable {P : Program} {w : World} {K : PySem.W.Frag} {mg : Str → Option Value} {base : Heap} {T0 : List Addr}
theorem scHasLen : FnScope ["thing"] ["thing"] (defScope sPHasWordLength) := ⟨rfl, rfl, rfl, by decide +kernel, rfl, by decide +kernel, by decide +kernel⟩
theorem c_has_len (T : Tx K mg) (hl8 : ∃ t, mg "LONGEST_WORD" = some (.int 8 t)) : Cal P w K mg base 1 "_has_word_length" ["thing"] (spTest K T0 lenOkD) := by
  refine T.p_has_word_length.ok scHasLen (fun vs H Q E h => ?_) (fun f cdv A outer s H vs Q E hr h => ?_)
  · obtain ⟨v, d, rfl, _⟩ := h
    rfl
  obtain ⟨v, d, rfl, hd, ok, tb, q⟩ := h
  obtain ⟨t8, m8⟩ := hl8
  refine ⟨_, pss_one (ps_ret (pe_and (pe_callB call_isi (by rfl) T.m_isinstance boot_isinstance (pa_cons (pv 0) (pa_cons (pe_bltn (v := .ty "str") (by rfl) T.m_str boot_str rfl) pa_nil)))
    (pe_one (pe_chain op_le op_le pe_int (pe_callB call_len_str (by rfl) T.m_len PySem.boot_len (pa_cons (pv 0) pa_nil)) (pe_glob (v := .int 8) (by rfl) m8 ⟨_, rfl⟩))))), ?_⟩
  refine ⟨_, rfl, v, _, _, _, _, rfl, .ty _, Dp.ty hd, kit_ty (isStr hd), _, rfl, ?_⟩
  have fin := q H (Fr.refl tb)
  cases hd with
  | str z =>
    refine iteT ⟨_, rfl, z, rfl, ?_, _, _, rfl, rfl, _, rfl, ?_⟩
    · have h2 : decide (z.length ≤ 1000) = true := ok.2
      exact sizeOk (by have := of_decide_eq_true h2; omega)
    · have e1 : decide ((1 : Int) ≤ (z.length : Int)) = decide (1 ≤ z.length) := decide_eq_decide.mpr (by omega)
      have e2 : decide ((z.length : Int) ≤ 8) = decide (z.length ≤ 8) := decide_eq_decide.mpr (by omega)
      have fin' : Q (.bl (decide (1 ≤ z.length) && decide (z.length ≤ 8))) H := fin
      rw [e1]
      cases h1 : decide (1 ≤ z.length) with
      | false =>
        rw [h1, Bool.false_and] at fin'
        exact iteF fin'
      | true =>
        rw [h1, Bool.true_and, ← e2] at fin'
        exact iteT ⟨_, _, rfl, rfl, fin'⟩
  | non => exact iteF fin
  | bl b => exact iteF fin
  | int b => exact iteF fin
  | lst _ _ => exact iteF fin
  | tup _ _ => exact iteF fin
end
end Sc
namespace Sc
open PySem PyProof.Rows L2
/-- a def whose code object is known -/
structure DefT (K : PySem.W.Frag) (mg : Str → Option Value) (x : Str) (st : Stmt) (ps : List Str) (c : Addr) : Prop where
  ex : ∃ (f : Addr) (fd : FuncData) (oc : Value) (od : Option Addr) (kV doc pm : Value) (an : Option Addr) (ct : Value) (osl : Array (Option Value)),
    fd = PySem.W.fnOf x x (defArgs st) (defBody st) (defScope st) .none kV doc pm an (.ref c) ct ∧ K.lookup f = some ⟨oc, od, .func fd, osl⟩ ∧ PySem.W.codeIn K (.ref c) x = true ∧ PySem.W.keepIn K (.ref f) = true ∧ mg x = some (.ref f) ∧ Binds K fd ps []
theorem DefT.of {K : PySem.W.Frag} {h : Heap} {mg : Str → Option Value} (X : K.In h) (G : h.Ns mainGlobals mg) {x : Str} {st : Stmt} {ps : List Str} {f c : Addr} {oc : Value} {od an : Option Addr} {osl : Array (Option Value)} {kV doc pm ct : Value}
    (a : PySem.W.nsIn K mainGlobals x = some (some (.ref f))) (l : K.lookup f = some ⟨oc, od, .func (PySem.W.fnOf x x (defArgs st) (defBody st) (defScope st) .none kV doc pm an (.ref c) ct), osl⟩) (cc : PySem.W.codeIn K (.ref c) x = true) (k : PySem.W.keepIn K (.ref f) = true)
    (b : ∀ (kV doc pm : Value) (an : Option Addr) (cdv ct : Value) (us : List Value), us.length = ps.length → bindArgs (PySem.W.fnOf x x (defArgs st) (defBody st) (defScope st) .none kV doc pm an cdv ct) ⟨us, []⟩ = pure (ps.zip us)) : DefT K mg x st ps c :=
  ⟨⟨f, _, oc, od, kV, doc, pm, an, ct, osl, rfl, l, cc, k, PySem.W.mg_of X G a, (fun_mk (st := st) l cc k).binds b⟩⟩
theorem DefT.ok {P : Program} {w : World} {K : PySem.W.Frag} {mg : Str → Option Value} {base : Heap} {x : Str} {st : Stmt} {N ps : List Str} {c : Addr} {k : Nat} {sp : Sp} (D : DefT K mg x st ps c) (S : FnScope N ps (defScope st)) (len : ∀ vs H Q E, sp vs H Q E → vs.length = ps.length)
    (body : ∀ (f : Addr) (A : Around) (outer : List Env) (s : Shared) (H : Hp) (vs : List V) (Q : VK) (E : XK), Room k (A.deeper (envOfC x (defScope st) s.heap.objs.size f (.ref c))) → sp vs H Q E →
      ∃ t, PSs (cxOf CX0 P w K mg base N x (defScope st) f (.ref c) A outer s H E).nox (defBody st) t ∧ t { nx := fun _ H' => Q .non H', rt := Q } (start N vs) H) : Cal P w K mg base (k + 1) x ps sp := by
  obtain ⟨f, fd, oc, od, kV, doc, pm, an, ct, osl, rfl, lk, hcd, kp, m, b⟩ := D.ex
  exact ⟨f, _, fn_of lk hcd S len fun A outer s H vs Q E hr hsp => by
    obtain ⟨t, h, q⟩ := body f A outer s H vs Q E hr hsp
    exact ⟨t, h.nox, q⟩, m, kp, b⟩
theorem gen_by {env : Env} {scope : Scope} {x : Str} (h : ((scope.kind == .function) && !scope.isCoroutine && scope.names.all (fun y => y.2 != .cell && y.2 != .free) && (scope.names.lookup (".0" : Str) == some NameKind.local) && (scope.names.lookup x == some NameKind.local)) = true) : GxR.GenS env scope x := by
  simp only [Bool.and_eq_true, List.all_eq_true, bne_iff_ne, beq_iff_eq, Bool.not_eq_true'] at h
  obtain ⟨⟨⟨⟨h1, h2⟩, h3⟩, h4⟩, h5⟩ := h
  exact ⟨h1, h2, fun y m => (h3 y m).1, h4, h5, fun y m e => absurd e (h3 y m).2⟩
end Sc
namespace Sc
open PySem PyProof.Rows L2
section
variable {P : Program} {w : World} {K : PySem.W.Frag} {mg : Str → Option Value} {base : Heap} {T0 : List Addr}
theorem word_iff (z : Str) : decide (Word z) = ((decide (1 ≤ z.length) && decide (z.length ≤ 8)) && z.cps.toList.all fun c => decide (97 ≤ c) && decide (c ≤ 122)) := by
  rw [Bool.eq_iff_iff]
  simp only [Bool.and_eq_true, decide_eq_true_eq, List.all_eq_true]
  exact ⟨fun h => ⟨⟨h.1, h.2.1⟩, h.2.2⟩, fun h => ⟨h.1.1, h.1.2, h.2⟩⟩
theorem lett_iff (z : Str) : decide (Lett z) = ((decide (1 ≤ z.length) && decide (z.length ≤ 8)) && z.cps.toList.all fun c => decide (65 ≤ c) && decide (c ≤ 90)) := by
  rw [Bool.eq_iff_iff]
  simp only [Bool.and_eq_true, decide_eq_true_eq, List.all_eq_true]
  exact ⟨fun h => ⟨⟨h.1, h.2.1⟩, h.2.2⟩, fun h => ⟨h.1.1, h.1.2, h.2⟩⟩
theorem scIsWord : FnScope ["thing"] ["thing"] (defScope sIsWord) := ⟨rfl, rfl, rfl, by decide +kernel, rfl, by decide +kernel, by decide +kernel⟩
theorem scIsLetter : FnScope ["thing"] ["thing"] (defScope sIsLetter) := ⟨rfl, rfl, rfl, by decide +kernel, rfl, by decide +kernel, by decide +kernel⟩
def spSigns (T : List Addr) : Sp := fun vs H Q _ => ∃ z : Str, vs = [.str z] ∧ Tb T H ∧ ∀ (H' : Hp), Fr T H H' → Q (.bl (z.cps.toList.all fun c => decide (97 ≤ c) && decide (c ≤ 122))) H'
theorem scWordSigns : FnScope ["text"] ["text"] (defScope sHasWordSigns) := ⟨rfl, rfl, rfl, by decide +kernel, rfl, by decide +kernel, by decide +kernel⟩
theorem c_word_signs {c Pa : Addr} (T : Tx K mg) (D : DefT K mg "has_word_signs" sHasWordSigns ["text"] c) (TB : GxR.TabB base mg c Pa) (hP : Pa ∈ T0) : Cal P w K mg base 1 "has_word_signs" ["text"] (spSigns T0) := by
  refine D.ok scWordSigns (fun vs H Q E h => ?_) (fun f A outer s H vs Q E hr h => ?_)
  · obtain ⟨z, rfl, _⟩ := h
    rfl
  obtain ⟨z, rfl, tb, q⟩ := h
  refine ⟨_, pss_one (ps_ret (GxR.pe_allS hr (by rfl) T.m_all (by decide +kernel) TB (by rfl) (gen_by (by decide +kernel)) (pv 0) (elt_between (a := 97) (b := 122) (by rfl) (by rfl)) (fun _ => rfl))), ?_⟩
  obtain ⟨ps, g, tr⟩ := tb Pa hP
  exact ⟨_, rfl, z, rfl, ⟨ps, g, tr⟩, fun H2 t2 => q H2 (Fr.tabbed tb t2 hP)⟩
theorem c_is_word (T : Tx K mg) (CS : Cal P w K mg base 1 "has_word_signs" ["text"] (spSigns T0)) (hl8 : ∃ t, mg "LONGEST_WORD" = some (.int 8 t)) : Cal P w K mg base 2 "is_word" ["thing"] (spTest K T0 isWordD) := by
  have CL : Cal P w K mg base 1 "_has_word_length" ["thing"] (spTest K T0 lenOkD) := c_has_len T hl8
  refine T.is_word.ok scIsWord (fun vs H Q E h => ?_) (fun f cdv A outer s H vs Q E hr h => ?_)
  · obtain ⟨v, d, rfl, _⟩ := h
    rfl
  obtain ⟨v, d, rfl, hd, ok, tb, q⟩ := h
  refine ⟨_, pss_one (ps_ret (pe_and (pe_cal CL hr (pa_cons (pv 0) pa_nil)) (pe_one (pe_cal CS hr (pa_cons (pv 0) pa_nil))))), ?_⟩
  refine ⟨_, rfl, v, d, rfl, hd, ok, tb, fun H1 f1 => ⟨_, rfl, ?_⟩⟩
  cases h1 : lenOkD d with
  | false =>
    have e : isWordD d = false := by
      cases d with
      | str z =>
        show decide (Word z) = false
        rw [word_iff, show (decide (1 ≤ z.length) && decide (z.length ≤ 8)) = false from h1, Bool.false_and]
      | _ => rfl
    have fin := q H1 f1
    rw [e] at fin
    exact iteF fin
  | true =>
    cases hd with
    | str z =>
      refine iteT ⟨_, rfl, z, rfl, f1.tab, fun H2 f2 => ?_⟩
      have fin := q H2 (f1.trans f2)
      have e : isWordD (.str z) = z.cps.toList.all fun c => decide (97 ≤ c) && decide (c ≤ 122) := by
        show decide (Word z) = _
        rw [word_iff, show (decide (1 ≤ z.length) && decide (z.length ≤ 8)) = true from h1, Bool.true_and]
      rw [e] at fin
      exact fin
    | non => cases h1
    | bl _ => cases h1
    | int _ => cases h1
    | lst _ _ => cases h1
    | tup _ _ => cases h1
theorem c_is_letter {c Pa : Addr} (T : Tx K mg) (D : DefT K mg "is_letter" sIsLetter ["thing"] c) (TB : GxR.TabB base mg c Pa) (hP : Pa ∈ T0) (hl8 : ∃ t, mg "LONGEST_WORD" = some (.int 8 t)) : Cal P w K mg base 2 "is_letter" ["thing"] (spTest K T0 isLettD) := by
  have CL : Cal P w K mg base 1 "_has_word_length" ["thing"] (spTest K T0 lenOkD) := c_has_len T hl8
  refine D.ok scIsLetter (fun vs H Q E h => ?_) (fun f A outer s H vs Q E hr h => ?_)
  · obtain ⟨v, d, rfl, _⟩ := h
    rfl
  obtain ⟨v, d, rfl, hd, ok, tb, q⟩ := h
  refine ⟨_, pss_one (ps_ret (pe_and (pe_cal CL hr (pa_cons (pv 0) pa_nil)) (pe_one (GxR.pe_allS hr (by rfl) T.m_all (by decide +kernel) TB (by rfl) (gen_by (by decide +kernel)) (pv 0) (elt_between (a := 65) (b := 90) (by rfl) (by rfl)) (fun _ => rfl))))), ?_⟩
  refine ⟨_, rfl, v, d, rfl, hd, ok, tb, fun H1 f1 => ⟨_, rfl, ?_⟩⟩
  cases h1 : lenOkD d with
  | false =>
    have e : isLettD d = false := by
      cases d with
      | str z =>
        show decide (Lett z) = false
        rw [lett_iff, show (decide (1 ≤ z.length) && decide (z.length ≤ 8)) = false from h1, Bool.false_and]
      | _ => rfl
    have fin := q H1 f1
    rw [e] at fin
    exact iteF fin
  | true =>
    cases hd with
    | str z =>
      obtain ⟨ps, g, tr⟩ := f1.tab Pa hP
      refine iteT ⟨_, rfl, z, rfl, ⟨ps, g, tr⟩, fun H2 t2 => ?_⟩
      have fin := q H2 (f1.trans (Fr.tabbed f1.tab t2 hP))
      have e : isLettD (.str z) = z.cps.toList.all fun c => decide (65 ≤ c) && decide (c ≤ 90) := by
        show decide (Lett z) = _
        rw [lett_iff, show (decide (1 ≤ z.length) && decide (z.length ≤ 8)) = true from h1, Bool.true_and]
      rw [e] at fin
      exact fin
    | non => cases h1
    | bl _ => cases h1
    | int _ => cases h1
    | lst _ _ => cases h1
    | tup _ _ => cases h1
end
end Sc
namespace Sc
open PySem PyProof.Rows L2
section
variable {P : Program} {w : World} {K : PySem.W.Frag} {mg : Str → Option Value} {base : Heap} {T0 : List Addr}
theorem scAreFields : FnScope ["thing", "pair", "fields"] ["thing"] (defScope sAreFields) := ⟨rfl, rfl, rfl, by decide +kernel, rfl, by decide +kernel, by decide +kernel⟩
theorem c_are_fields (T : Tx K mg) : Cal P w K mg base 1 "are_fields" ["thing"] (spTest K T0 fldD) := by
  refine T.are_fields.ok scAreFields (fun vs H Q E h => ?_) (fun f cdv A outer s H vs Q E hr h => ?_)
  · obtain ⟨v, d, rfl, _⟩ := h
    rfl
  obtain ⟨v, d, rfl, hd, ok, tb, q⟩ := h
  have hu := hr.units
  refine ⟨_, pss_cons (ps_if (PW.pt (pw_or (pt_not (pt_val (pe_callB call_isi (by rfl) T.m_isinstance boot_isinstance (pa_cons (pv 0) (pa_cons (pe_bltn (v := .ty "tuple") (by rfl) T.m_tuple boot_tuple rfl) pa_nil)))))
        (pw_or1 (pt_cmpR op_eq (pe_callB call_len_seq (by rfl) T.m_len PySem.boot_len (pa_cons (pv 0) pa_nil)) pe_int (nomark _))))) (pss_one (ps_ret pe_bl)) pss_nil)
    (pss_cons (ps_for PassesOwn.never rfl (pi_tup (pv 0)) (pg_name (i := 1) scAreFields.nd rfl (Or.inl rfl))
      (pss_one (ps_if (PW.pt (pw_or (pt_not (pt_val (pe_callB call_isi (by rfl) T.m_isinstance boot_isinstance (pa_cons (pv 1) (pa_cons (pe_bltn (v := .ty "tuple") (by rfl) T.m_tuple boot_tuple rfl) pa_nil)))))
        (pw_or (pt_cmpR op_ne (pe_callB call_len_seq (by rfl) T.m_len PySem.boot_len (pa_cons (pv 1) pa_nil)) pe_int (nomark _))
        (pw_or1 (pt_not (pt_val (pe_callB call_isi (by rfl) T.m_isinstance boot_isinstance (pa_cons (pe_ix ix_tup (pv 1) pe_int (fun _ _ => rfl)) (pa_cons (pe_bltn (v := .ty "str") (by rfl) T.m_str boot_str rfl) pa_nil)))))))))
        (pss_one (ps_ret pe_bl)) pss_nil)))
    (pss_cons (ps_setLc (i := 2) (own := [("pair", 1)]) (g := gName 1) (tt := tYes) rfl scAreFields.nd rfl rfl (sw_true rfl rfl rfl (by decide +kernel)) (pi_tup (pv 0)) (blkOk_by (N := ["thing", "pair", "fields"]) (sc := defScope sAreFields) (by decide +kernel))
        (fun _ _ _ _ _ => pg_name (i := 1) scAreFields.nd rfl (Or.inl rfl)) (fun _ _ _ _ _ => pts_nil) (fun _ _ _ _ _ => pe_ix (ix_tupK K) (pv 1) pe_int (fun _ _ => rfl)))
    (pss_one (ps_ret (pe_cmpR (op_eqD hu) (pv 2) (pe_callB (cr_txSorted rfl) (by rfl) T.m_sorted (by decide +kernel) (pa_cons (pe_callTy (cr_txSet rfl) (by rfl) T.m_set (by decide +kernel) (pa_cons (pv 2) pa_nil)) pa_nil)) (nomark _)))))), ?_⟩
  dsimp only [gName]
  have neg : fldD d = false → Q (.bl false) H := fun e => by
    have fin := q H (Fr.refl tb)
    rw [e] at fin
    exact fin
  show tOr _ _ _ _ _
  have ty := Dp.ty hd
  have it := isTup hd
  have dp := hd
  cases hd with
  | tup ht hds =>
    rename_i a vs ds
    obtain ⟨len, okx⟩ := ok.sub
    have lv := DpAll.len hds
    refine or_pure false (decide (vs.length = 0)) (fun R h => ⟨_, rfl, _, _, _, _, _, rfl, .ty _, ty, kit_ty it, _, rfl, h⟩) (fun _ R h => ⟨_, rfl, a, vs, rfl, .inr ht, rfl, _, rfl, ?_⟩) (fun h => ?_) (fun _ h => ?_)
    · rw [eqV_int, decide_eq_decide.mpr (show ((vs.length : Nat) : Int) = 0 ↔ vs.length = 0 by omega)]
      exact h
    · have z : vs.length = 0 := of_decide_eq_true (h.elim (fun z => by cases z) id)
      have z2 : ds = [] := List.length_eq_zero_iff.mp (lv.symm.trans z)
      exact neg (by rw [z2]; rfl)
    have n0 : vs.length ≠ 0 := of_decide_eq_false h
    have d0 : ds ≠ [] := fun z => n0 (by rw [lv, z]; rfl)
    refine ⟨_, rfl, a, rfl, ⟨_, ht⟩, ?_⟩
    refine for_tup (K := K) (a := a) (xs := vs) (fun j σ2 H2 => H2 = H ∧ (∃ o, σ2 = [some (.ref a), o, none]) ∧ (ds.take j).all pairD = true) ⟨rfl, ⟨_, rfl⟩, rfl⟩ (fun j σ2 H2 _ h => by rw [h.1]; exact ht) ?_ ?_
    · rintro j x σ2 H2 hx ⟨rfl, ⟨o, rfl⟩, hp⟩
      obtain ⟨d, hd1, hd2⟩ := DpAll.get hds hx
      have md := List.mem_of_getElem? hd1
      have negd : pairD d = false → Q (.bl false) H2 := fun e => neg (by
        have z : ds.all pairD = false := Bool.eq_false_iff.mpr fun z => by
          have := List.all_eq_true.mp z d md
          rw [e] at this
          cases this
        show (!ds.isEmpty && ds.all pairD && _) = false
        rw [z, Bool.and_false, Bool.false_and])
      dsimp only [gName]
      show tOr _ _ _ _ _
      have ty := Dp.ty hd2
      have it := isTup hd2
      have next : pairD d = true → H2 = H2 ∧ (∃ o, (([some (.ref a), o, none] : L2.St).set 1 (some x)) = [some (.ref a), o, none]) ∧ (ds.take (j + 1)).all pairD = true := fun e =>
        ⟨rfl, ⟨_, rfl⟩, by rw [List.take_add_one, hd1, List.all_append, hp]; simp [e]⟩
      cases hd2 with
      | tup ht2 hds2 =>
        rename_i a2 vs2 ds2
        have lv2 := DpAll.len hds2
        refine or_pure false (!pairD (.tuple ds2)) (fun R h => ⟨_, rfl, _, _, _, _, _, rfl, .ty _, ty, kit_ty it, _, rfl, h⟩) (fun _ R hR => ?_) (fun h => ?_) (fun _ h => ?_)
        · show tOr _ _ _ _ _
          refine or_pure (decide (¬ vs2.length = 2)) (!pairD (.tuple ds2)) (fun R h => ⟨_, rfl, a2, vs2, rfl, .inr ht2, rfl, _, rfl, ?_⟩) (fun e R h => ?_) (fun h => ?_) (fun _ h => ?_)
          · rw [eqV_int, decide_eq_decide.mpr (show ((vs2.length : Nat) : Int) = 2 ↔ vs2.length = 2 by omega), ← decide_not]
            exact h
          · have two : vs2.length = 2 := Classical.byContradiction fun z => by rw [decide_eq_true z] at e; cases e
            obtain ⟨x1, x2, d1, d2, rfl, rfl, h1, h2⟩ := two_open hds2 two
            rw [pair_two] at h
            exact ⟨_, rfl, a2, _, _, _, rfl, rfl, ht2, rfl, _, _, _, _, _, rfl, .ty _, Dp.ty h1, kit_ty (isStr h1), _, rfl, h⟩
          · have e5 : pairD (.tuple ds2) = false := h.elim (fun z => pair_len (by rw [← lv2]; exact of_decide_eq_true z)) (fun z => by simpa using z)
            rw [e5] at hR
            exact hR
          · rw [h] at hR
            exact hR
        · exact negd (by simpa using h.elim (fun z => by cases z) id)
        · exact next (by simpa using h)
      | str _ => exact or_pure true true (fun R h => ⟨_, rfl, _, _, _, _, _, rfl, .ty _, ty, kit_ty it, _, rfl, h⟩) (fun h => by cases h) (fun _ => negd rfl) (fun h => by cases h)
      | non => exact or_pure true true (fun R h => ⟨_, rfl, _, _, _, _, _, rfl, .ty _, ty, kit_ty it, _, rfl, h⟩) (fun h => by cases h) (fun _ => negd rfl) (fun h => by cases h)
      | bl b => exact or_pure true true (fun R h => ⟨_, rfl, _, _, _, _, _, rfl, .ty _, ty, kit_ty it, _, rfl, h⟩) (fun h => by cases h) (fun _ => negd rfl) (fun h => by cases h)
      | int b => exact or_pure true true (fun R h => ⟨_, rfl, _, _, _, _, _, rfl, .ty _, ty, kit_ty it, _, rfl, h⟩) (fun h => by cases h) (fun _ => negd rfl) (fun h => by cases h)
      | lst _ _ => exact or_pure true true (fun R h => ⟨_, rfl, _, _, _, _, _, rfl, .ty _, ty, kit_ty it, _, rfl, h⟩) (fun h => by cases h) (fun _ => negd rfl) (fun h => by cases h)
    · rintro σ2 H2 ⟨rfl, ⟨o, rfl⟩, hp⟩
      rw [lv, List.take_length] at hp
      have fields : ∀ {j : Nat} {x : V}, vs[j]? = some x → ∃ (a2 : Addr) (x1 x2 : V) (d2 : PyData) (z : Str), x = .ref a2 ∧ SqT K H2 a2 [x1, x2] ∧ x1 = .str z ∧ ds[j]? = some (.tuple [.str z, d2]) ∧ (ds.map nameD)[j]? = some z := fun {j x} hx => by
        obtain ⟨d, hd1, hd2⟩ := DpAll.get hds hx
        have pd := List.all_eq_true.mp hp d (List.mem_of_getElem? hd1)
        cases hd2 with
        | tup ht2 hds2 =>
          rename_i a2 vs2 ds2
          have two : vs2.length = 2 := Classical.byContradiction fun z => by rw [pair_len (by rw [← DpAll.len hds2]; exact z)] at pd; cases pd
          obtain ⟨x1, x2, d1, d2, rfl, rfl, h1, h2⟩ := two_open hds2 two
          cases h1 with
          | str z => exact ⟨a2, _, _, d2, z, rfl, ht2, rfl, hd1, by rw [List.getElem?_map, hd1]; rfl⟩
          | non => cases pd
          | bl _ => cases pd
          | int _ => cases pd
          | lst _ _ => cases pd
          | tup _ _ => cases pd
        | str _ => cases pd
        | non => cases pd
        | bl _ => cases pd
        | int _ => cases pd
        | lst _ _ => cases pd
      refine ⟨_, rfl, a, rfl, ⟨_, ht⟩, fun D hD => ?_⟩
      refine lc_tup (K := K) (a := a) (xs := vs) (fun j H3 => Same H2 H3 ∧ H3 D = some (.lst (((ds.map nameD).take j).map V.str))) ⟨same_new hD _, upd_same⟩ (fun j H3 _ h => (Same.keep h.1) _ _ ht) ?_ ?_
      · rintro j x H3 hx ⟨e3, h3⟩
        obtain ⟨a2, x1, x2, d2, z, rfl, ht2, rfl, hd1, hz⟩ := fields hx
        refine ⟨rfl, _, rfl, a2, _, _, _, rfl, rfl, (Same.keep e3) _ _ ht2, rfl, _, h3, ?_, fun b o hb => ?_, ?_⟩
        · rw [List.length_map]
          exact small1000 (Nat.le_trans (List.length_take_le' _ _) (by rw [List.length_map]; omega))
        · rw [upd_ne (ne_of_none hb hD)]
          exact e3 b o hb
        · rw [upd_same, List.take_add_one, hz, List.map_append]
          rfl
      rintro H3 ⟨e3, h3⟩
      rw [lv, List.take_of_length_le (by rw [List.length_map]; exact Nat.le_refl _)] at h3
      have zl : (ds.map nameD).length ≤ 60 := by rw [List.length_map]; exact len
      have zk : ∀ z ∈ ds.map nameD, PyData.canLay0 (.str z) = true := fun z hz => by
        obtain ⟨d, md, rfl⟩ := List.mem_map.mp hz
        have pd := List.all_eq_true.mp hp d md
        have l := SeqAt.canLay_of_shaped (okx d md).1
        match d, pd, l with
        | .tuple [.str y, e], _, l =>
          have l' : (PyData.canLay0 (.str y) && PyData.canLayAll0 [e]) = true := l
          exact (Bool.and_eq_true_iff.mp l').1
      have res : fldD (.tuple ds) = ascB (ds.map nameD) := by
        show (!ds.isEmpty && ds.all pairD && ascB (ds.map nameD)) = _
        rw [hp, show ds.isEmpty = false from by cases ds with | nil => exact absurd rfl d0 | cons _ _ => rfl]
        rfl
      generalize ds.map nameD = zs at h3 zl zk res
      refine ⟨_, rfl, _, rfl, D, zs, rfl, SqL.of h3, by omega, fun t m ht0 hm => ⟨t, _, m, rfl, upd_same, by omega, fun ys p so nd mem ln hp0 => ?_⟩⟩
      have mem' : ∀ x, x ∈ ys ↔ x ∈ zs := fun x => (mem x).trans decide_eq_true_iff
      generalize TxO _ t (fun y => decide (y ∈ zs)) m = o3 at hp0 ⊢
      have e5 := (same_new ht0 o3).trans (same_new hp0 (.lst (ys.map V.str)))
      refine ⟨.list (zs.map .str), .list (ys.map .str), .lst (SqL.of (e5 _ _ h3)) (dp_strs zs), .lst (SqL.of upd_same) (dp_strs ys), shaped_strs zk, shaped_strs fun z hz => zk z ((mem' z).mp hz), ?_⟩
      have fin := q _ ((Fr.same tb e3).trans (Fr.same (Fr.same tb e3).tab e5))
      rw [res, ← asc_eq so nd mem', ← eqv_strs] at fin
      exact fin
  | str _ => exact or_pure true true (fun R h => ⟨_, rfl, _, _, _, _, _, rfl, .ty _, ty, kit_ty it, _, rfl, h⟩) (fun h => by cases h) (fun _ => neg rfl) (fun h => by cases h)
  | non => exact or_pure true true (fun R h => ⟨_, rfl, _, _, _, _, _, rfl, .ty _, ty, kit_ty it, _, rfl, h⟩) (fun h => by cases h) (fun _ => neg rfl) (fun h => by cases h)
  | bl b => exact or_pure true true (fun R h => ⟨_, rfl, _, _, _, _, _, rfl, .ty _, ty, kit_ty it, _, rfl, h⟩) (fun h => by cases h) (fun _ => neg rfl) (fun h => by cases h)
  | int b => exact or_pure true true (fun R h => ⟨_, rfl, _, _, _, _, _, rfl, .ty _, ty, kit_ty it, _, rfl, h⟩) (fun h => by cases h) (fun _ => neg rfl) (fun h => by cases h)
  | lst _ _ => exact or_pure true true (fun R h => ⟨_, rfl, _, _, _, _, _, rfl, .ty _, ty, kit_ty it, _, rfl, h⟩) (fun h => by cases h) (fun _ => neg rfl) (fun h => by cases h)
end
end Sc
namespace Sc
open PySem PyProof.Rows L2
theorem len_app (x y : Str) : (x ++ y).length = x.length + y.length := by rw [len_list, len_list x, len_list y, app_list, List.length_append]
section
variable {P : Program} {w : World} {K : PySem.W.Frag} {mg : Str → Option Value} {base : Heap} {T0 : List Addr} {CB : Addr}
theorem scNeedLetter : FnScope ["letter", "letters"] ["letter", "letters"] (defScope sPNeedLetter) := ⟨rfl, rfl, rfl, by decide +kernel, rfl, by decide +kernel, by decide +kernel⟩
theorem c_need_letter (T : Tx K mg) (B : Ec K mg "BadKind" CB) (CL : Cal P w K mg base 2 "is_letter" ["thing"] (spTest K T0 isLettD)) (hl8 : ∃ t, mg "LONGEST_WORD" = some (.int 8 t)) : CalX P w K mg base 3 "_need_letter" ["letter", "letters"] (spNeed K T0 CB [] letD) := by
  refine T.p_need_letter.okX scNeedLetter (fun vs H Q E h => ?_) (fun f cdv A outer s H vs Q E hr h => ?_)
  · obtain ⟨ls, v, d, la, rfl, _⟩ := h
    rfl
  obtain ⟨ls, v, d, la, rfl, hd, ok, tb, hla, q1, q2⟩ := h
  obtain ⟨t8, m8⟩ := hl8
  refine ⟨_, pss_cons (ps_if (pt_not (pt_val (pe_cal CL hr (pa_cons (pv 0) pa_nil))))
      (pss_one (ps_raise rfl (takes_of rfl rfl rfl rfl) (SkE.pmk_own1 PySem.F.excBase_ValueError B.q B.g B.k (raises_own B.b B.t) (by exact rfl) (pe_fs (.cons pe_str (.cons (pe_fmt (pe_glob (v := .int 8) (by rfl) m8 ⟨_, rfl⟩)) (.cons pe_str .nil))))))) pss_nil)
    (pss_one (ps_if (pt_cmpR op_notIn_seq (pv 0) (pv 1) (by rfl))
      (pss_one (ps_raise rfl (takes_of rfl rfl rfl rfl) (SkE.pmk_own1 PySem.F.excBase_ValueError B.q B.g B.k (raises_own B.b B.t) (by exact rfl) (pe_fs (.cons pe_str (.cons (pe_fmt (pv 0)) (.cons pe_str .nil))))))) pss_nil)), ?_⟩
  refine ⟨_, rfl, v, d, rfl, hd, ok, tb, fun H1 f1 => ⟨_, rfl, ?_⟩⟩
  cases h1 : isLettD d with
  | false =>
    refine ⟨_, rfl, by decide +kernel, .inr ⟨8, rfl, by decide, _, rfl, by decide +kernel, _, rfl, by decide +kernel, ?_⟩⟩
    exact q2 (by cases d with | str z => show (isLettD (.str z) && _) = false; rw [h1]; rfl | _ => rfl) H1 f1
  | true =>
    cases hd with
    | str z =>
      have hla1 := (Fr.keep tb f1).2 _ _ hla
      refine ⟨_, rfl, _, rfl, la, _, rfl, .inr hla1, rfl, flat_strs ls, ?_⟩
      rw [in_strs]
      have z8 : z.length ≤ 8 := (of_decide_eq_true (show decide (Lett z) = true from h1)).2.1
      have e : letD ls (.str z) = decide (z ∈ ls) := by show (isLettD (.str z) && decide (z ∈ ls)) = _; rw [h1, Bool.true_and]
      cases h2 : decide (z ∈ ls) with
      | true =>
        exact ⟨_, rfl, q1 (by rw [e, h2]) H1 f1⟩
      | false =>
        refine ⟨_, rfl, _, rfl, by decide +kernel, _, rfl, .inl ⟨z, rfl, sizeOk (by omega), _, rfl, ?_, _, rfl, ?_, ?_⟩⟩
        · rw [len_app]
          have : (Str.empty ++ "the letter " : Str).length ≤ 100 := by decide +kernel
          exact sizeOk (by omega)
        · rw [len_app, len_app]
          have : (Str.empty ++ "the letter " : Str).length ≤ 100 := by decide +kernel
          have : (" is not among the told ones" : Str).length ≤ 100 := by decide +kernel
          exact sizeOk (by omega)
        · exact q2 (by rw [e, h2]) H1 f1
    | non => cases h1
    | bl _ => cases h1
    | int _ => cases h1
    | lst _ _ => cases h1
    | tup _ _ => cases h1
end
end Sc
namespace Sc
open PySem PyProof.Rows L2
section
variable {P : Program} {w : World} {K : PySem.W.Frag} {mg : Str → Option Value} {base : Heap} {T0 : List Addr} {CB : Addr}
theorem scNeedFields : FnScope ["fields", "letters", "room", "field", "kind"] ["fields", "letters", "room"] (defScope sPNeedFields) := ⟨rfl, rfl, rfl, by decide +kernel, rfl, by decide +kernel, by decide +kernel⟩
theorem c_need_fields {lv : Nat} {r : Int} {g : List Str → PyData → Bool} (T : Tx K mg) (B : Ec K mg "BadKind" CB) (lv2 : 2 ≤ lv) (CW : Cal P w K mg base 2 "is_word" ["thing"] (spTest K T0 isWordD)) (CF : Cal P w K mg base 1 "are_fields" ["thing"] (spTest K T0 fldD))
    (CK : CalX P w K mg base lv "_need_kind_within" ["kind", "letters", "room"] (spNeed K T0 CB [.int r] g)) (hl8 : ∃ t, mg "LONGEST_WORD" = some (.int 8 t)) :
    CalX P w K mg base (lv + 1) "_need_fields" ["fields", "letters", "room"] (spNeed K T0 CB [.int r] (fun ls => gFl (g ls))) := by
  refine T.p_need_fields.okX scNeedFields (fun vs H Q E h => ?_) (fun f cdv A outer s H vs Q E hr h => ?_)
  · obtain ⟨ls, v, d, la, rfl, _⟩ := h
    rfl
  obtain ⟨ls, v, d, la, rfl, hd, ok, tb, hla, q1, q2⟩ := h
  dsimp only at q1 q2
  obtain ⟨t8, m8⟩ := hl8
  have r1 : Room 1 _ := hr.mono (by omega)
  have r2 : Room 2 _ := hr.mono lv2
  refine ⟨_, pss_cons (ps_if (pt_not (pt_val (pe_cal CF r1 (pa_cons (pv 0) pa_nil))))
      (pss_one (ps_raise rfl (takes_of rfl rfl rfl rfl) (pmk_own PySem.F.excBase_ValueError B.q B.g B.k (raises_own B.b B.t) (by exact rfl)))) pss_nil)
    (pss_one (ps_for (passes_of rfl) rfl (pi_tup (pv 0)) (pg_tup (by rfl) (pgs_cons (pg_name (i := 3) scNeedFields.nd rfl (Or.inl rfl)) (pgs_cons (pg_name (i := 4) scNeedFields.nd rfl (Or.inl rfl)) pgs_nil)))
      (pss_cons (ps_if (pt_not (pt_val (pe_cal CW r2 (pa_cons (pv 3) pa_nil))))
        (pss_one (ps_raise rfl (takes_of rfl rfl rfl rfl) (SkE.pmk_own1 PySem.F.excBase_ValueError B.q B.g B.k (raises_own B.b B.t) (by exact rfl) (pe_fs (.cons pe_str (.cons (pe_fmt (pe_glob (v := .int 8) (by rfl) m8 ⟨_, rfl⟩)) (.cons pe_str .nil))))))) pss_nil)
      (pss_one (ps_expr (pe_calX CK hr (passes_call (takes_of rfl rfl rfl rfl) (fun _ _ _ _ h => h)) (pa_cons (pv 4) (pa_cons (pv 1) (pa_cons (pv 2) pa_nil))))))))), ?_⟩
  refine ⟨_, rfl, v, d, rfl, hd, ok, tb, fun H1 f1 => ⟨_, rfl, ?_⟩⟩
  cases h1 : fldD d with
  | false => exact q2 (by cases d with | tuple ds => show (fldD (.tuple ds) && _) = false; rw [h1]; rfl | _ => rfl) H1 f1
  | true =>
    cases hd with
    | tup ht hds =>
      rename_i a vs ds
      obtain ⟨len, okx⟩ := ok.sub
      have lv0 := DpAll.len hds
      have hp : ds.all pairD = true := by
        have h' : (!ds.isEmpty && ds.all pairD && ascB (ds.map nameD)) = true := h1
        rw [Bool.and_eq_true, Bool.and_eq_true] at h'
        exact h'.1.2
      have eg : gFl (g ls) (.tuple ds) = ds.all (gPr (g ls)) := by show (fldD (.tuple ds) && ds.all (gPr (g ls))) = _; rw [h1, Bool.true_and]
      refine ⟨_, rfl, a, rfl, ⟨_, (Fr.keep tb f1).2 _ _ ht⟩, ?_⟩
      refine for_tup (K := K) (a := a) (xs := vs) (fun j σ2 H2 => Fr T0 H H2 ∧ (∃ o1 o2, σ2 = [some (.ref a), some (.ref la), some (.int r), o1, o2]) ∧ (ds.take j).all (gPr (g ls)) = true) ⟨f1, ⟨_, _, rfl⟩, rfl⟩ (fun j σ2 H2 _ h => (Fr.keep tb h.1).2 _ _ ht) ?_ ?_
      · rintro j x σ2 H2 hx ⟨f2, ⟨o1, o2, rfl⟩, hq⟩
        obtain ⟨d, hd1, hd2⟩ := DpAll.get hds hx
        have md := List.mem_of_getElem? hd1
        have pd := List.all_eq_true.mp hp d md
        have okd := okx d md
        have bad : gPr (g ls) d = false → ∀ H' : Hp, Fr T0 H H' → E (.ref CB) none H' := fun e => q2 (by
          rw [eg]
          refine Bool.eq_false_iff.mpr fun z => ?_
          have := List.all_eq_true.mp z d md
          rw [e] at this
          cases this)
        have good : gPr (g ls) d = true → (ds.take (j + 1)).all (gPr (g ls)) = true := fun e => by rw [List.take_add_one, hd1, List.all_append, hq]; simp [e]
        cases hd2 with
        | tup ht2 hds2 =>
          rename_i a2 vs2 ds2
          have two : vs2.length = 2 := Classical.byContradiction fun z => by rw [pair_len (by rw [← DpAll.len hds2]; exact z)] at pd; cases pd
          obtain ⟨x1, x2, d1, d2, rfl, rfl, h3, h4⟩ := two_open hds2 two
          have ok1 := okd.sub.2 d1 List.mem_cons_self
          have ok2 := okd.sub.2 d2 (List.mem_cons_of_mem _ List.mem_cons_self)
          refine ⟨a2, _, rfl, (Fr.keep tb f2).2 _ _ ht2, rfl, ?_⟩
          refine ⟨_, _, rfl, _, _, rfl, rfl, ?_⟩
          refine ⟨_, rfl, x1, d1, rfl, KeepL.dp (Fr.keep tb f2) h3, ok1, f2.tab, fun H3 f3 => ⟨_, rfl, ?_⟩⟩
          have f03 := f2.trans f3
          cases h5 : isWordD d1 with
          | false =>
            refine ⟨_, rfl, by decide +kernel, .inr ⟨8, rfl, by decide, _, rfl, by decide +kernel, _, rfl, by decide +kernel, ?_⟩⟩
            exact bad (by show (isWordD d1 && g ls d2) = false; rw [h5]; rfl) H3 f03
          | true =>
            refine ⟨_, rfl, _, rfl, _, rfl, ls, x2, d2, la, rfl, KeepL.dp (Fr.keep tb f03) h4, ok2, f03.tab, (Fr.keep tb f03).2 _ _ hla, fun e H4 f4 => ?_, fun e H4 f4 => ?_⟩
            · exact ⟨f03.trans f4, ⟨_, _, rfl⟩, good (by show (isWordD d1 && g ls d2) = true; rw [h5, e]; rfl)⟩
            · exact bad (by show (isWordD d1 && g ls d2) = false; rw [e, Bool.and_false]) H4 (f03.trans f4)
        | str _ => cases pd
        | non => cases pd
        | bl _ => cases pd
        | int _ => cases pd
        | lst _ _ => cases pd
      · rintro σ2 H2 ⟨f2, ⟨o1, o2, rfl⟩, hq⟩
        rw [lv0, List.take_length] at hq
        exact q1 (by rw [eg, hq]) H2 f2
    | str _ => cases h1
    | non => cases h1
    | bl _ => cases h1
    | int _ => cases h1
    | lst _ _ => cases h1
end
end Sc
namespace Sc
open PySem PyProof.Rows L2
theorem eqv_one (d : PyData) (w : Str) : PyData.eqv d (.tuple [.str w]) = true ↔ d = .tuple [.str w] := by
  constructor
  · intro h
    match d, h with
    | .tuple [.str z], h =>
      have h' : ((z == w) && true) = true := by simpa [PyData.eqv, PyData.eqvAll] using h
      rw [Bool.and_true, beq_iff_eq] at h'
      rw [h']
    | .tuple [], h => simp [PyData.eqv, PyData.eqvAll] at h
    | .tuple (_ :: _ :: _), h => simp [PyData.eqv, PyData.eqvAll] at h
    | .tuple [.none], h => simp [PyData.eqv, PyData.eqvAll] at h
    | .tuple [.bool _], h => simp [PyData.eqv, PyData.eqvAll] at h
    | .tuple [.int _], h => simp [PyData.eqv, PyData.eqvAll] at h
    | .tuple [.list _], h => simp [PyData.eqv, PyData.eqvAll] at h
    | .tuple [.tuple _], h => simp [PyData.eqv, PyData.eqvAll] at h
    | .tuple [.dict _], h => simp [PyData.eqv, PyData.eqvAll] at h
    | .none, h => simp [PyData.eqv] at h
    | .bool _, h => simp [PyData.eqv] at h
    | .int _, h => simp [PyData.eqv] at h
    | .str _, h => simp [PyData.eqv] at h
    | .list _, h => simp [PyData.eqv] at h
    | .dict _, h => simp [PyData.eqv] at h
  · rintro rfl
    simp [PyData.eqv, PyData.eqvAll]
theorem eqv_word (d : PyData) (w : Str) : PyData.eqv d (.str w) = true ↔ d = .str w := by
  cases d <;> simp [PyData.eqv]
theorem gCh_len {ls : List Str} {g : PyData → Bool} : ∀ {ds : List PyData}, ds.length ≠ 2 → PyData.tuple ds ≠ .tuple [.str "number"] → PyData.tuple ds ≠ .tuple [.str "text"] → gCh ls g (.tuple ds) = false
  | [], _, _, _ => rfl
  | [.str w], _, n1, n2 => by
    show (w == "number" || w == "text") = false
    rw [Bool.or_eq_false_iff, beq_eq_false_iff_ne, beq_eq_false_iff_ne]
    exact ⟨fun z => n1 (by rw [z]), fun z => n2 (by rw [z])⟩
  | [.none], _, _, _ => rfl
  | [.bool _], _, _, _ => rfl
  | [.int _], _, _, _ => rfl
  | [.list _], _, _, _ => rfl
  | [.tuple _], _, _, _ => rfl
  | [.dict _], _, _, _ => rfl
  | [_, _], e, _, _ => absurd rfl e
  | u :: _ :: _ :: _, _, _, _ => by cases u <;> rfl
theorem gCh_two {ls : List Str} {g : PyData → Bool} (w : Str) (t : PyData) : gCh ls g (.tuple [.str w, t]) = if w = "row" ∨ w = "book" then g t else if w = "shape" then gFl g t else if w = "letter" then letD ls t else false := rfl
theorem gCh_ns {ls : List Str} {g : PyData → Bool} {d1 d2 : PyData} (h : isStrB d1 = false) : gCh ls g (.tuple [d1, d2]) = false := by
  cases d1 with
  | str _ => cases h
  | _ => rfl
section
variable {P : Program} {w : World} {K : PySem.W.Frag} {mg : Str → Option Value} {base : Heap} {T0 : List Addr} {CB : Addr}
theorem scNeedChoice : FnScope ["choice", "letters", "room", "word", "told"] ["choice", "letters", "room"] (defScope sPNeedChoice) := ⟨rfl, rfl, rfl, by decide +kernel, rfl, by decide +kernel, by decide +kernel⟩
theorem c_need_choice {lv : Nat} {r : Int} {g : List Str → PyData → Bool} (T : Tx K mg) (B : Ec K mg "BadKind" CB) (lv2 : 3 ≤ lv)
    (CK : CalX P w K mg base lv "_need_kind_within" ["kind", "letters", "room"] (spNeed K T0 CB [.int (r - 1)] g)) (CF : CalX P w K mg base lv "_need_fields" ["fields", "letters", "room"] (spNeed K T0 CB [.int (r - 1)] (fun ls => gFl (g ls))))
    (CL : CalX P w K mg base 3 "_need_letter" ["letter", "letters"] (spNeed K T0 CB [] letD)) :
    CalX P w K mg base (lv + 1) "_need_choice" ["choice", "letters", "room"] (spNeed K T0 CB [.int r] (fun ls => gCh ls (g ls))) := by
  refine T.p_need_choice.okX scNeedChoice (fun vs H Q E h => ?_) (fun f cdv A outer s H vs Q E hr h => ?_)
  · obtain ⟨ls, v, d, la, rfl, _⟩ := h
    rfl
  obtain ⟨ls, v, d, la, rfl, hd, ok, tb, hla, q1, q2⟩ := h
  dsimp only at q1 q2
  have r3 : Room 3 _ := hr.mono lv2
  have hu := hr.units
  refine ⟨_, pss_cons (ps_if (PW.pt (pw_or (pt_cmpR (op_eqD hu) (pv 0) (pe_tup (pa_cons pe_str pa_nil)) (nomark _)) (pw_or1 (pt_cmpR (op_eqD hu) (pv 0) (pe_tup (pa_cons pe_str pa_nil)) (nomark _)))))
      (pss_one ps_retN) pss_nil)
    (pss_cons (ps_if (PW.pt (pw_or (pt_not (pt_val (pe_callB call_isi (by rfl) T.m_isinstance boot_isinstance (pa_cons (pv 0) (pa_cons (pe_bltn (v := .ty "tuple") (by rfl) T.m_tuple boot_tuple rfl) pa_nil)))))
        (pw_or1 (pt_cmpR op_ne (pe_callB call_len_seq (by rfl) T.m_len PySem.boot_len (pa_cons (pv 0) pa_nil)) pe_int (nomark _)))))
      (pss_one (ps_raise rfl (takes_of rfl rfl rfl rfl) (pmk_own PySem.F.excBase_ValueError B.q B.g B.k (raises_own B.b B.t) (by exact rfl)))) pss_nil)
    (pss_cons (ps_asg (pv 0) (pg_tup (by rfl) (pgs_cons (pg_name (i := 3) scNeedChoice.nd rfl (Or.inl rfl)) (pgs_cons (pg_name (i := 4) scNeedChoice.nd rfl (Or.inl rfl)) pgs_nil))))
    (pss_one (ps_if (PW.pt (pw_or (pt_cmpR (op_eqD hu) (pv 3) pe_str (nomark _)) (pw_or1 (pt_cmpR (op_eqD hu) (pv 3) pe_str (nomark _)))))
      (pss_one (ps_expr (pe_calX CK hr (passes_call (takes_of rfl rfl rfl rfl) (fun _ _ _ _ h => h)) (pa_cons (pv 4) (pa_cons (pv 1) (pa_cons (pe_op op_sub (pv 2) pe_int) pa_nil))))))
      (pss_one (ps_if (pt_cmpR (op_eqD hu) (pv 3) pe_str (nomark _))
        (pss_one (ps_expr (pe_calX CF hr (passes_call (takes_of rfl rfl rfl rfl) (fun _ _ _ _ h => h)) (pa_cons (pv 4) (pa_cons (pv 1) (pa_cons (pe_op op_sub (pv 2) pe_int) pa_nil))))))
        (pss_one (ps_if (pt_cmpR (op_eqD hu) (pv 3) pe_str (nomark _))
          (pss_one (ps_expr (pe_calX CL r3 (passes_call (takes_of rfl rfl rfl rfl) (fun _ _ _ _ h => h)) (pa_cons (pv 4) (pa_cons (pv 1) pa_nil)))))
          (pss_one (ps_raise rfl (takes_of rfl rfl rfl rfl) (pmk_own PySem.F.excBase_ValueError B.q B.g B.k (raises_own B.b B.t) (by exact rfl)))))))))))), ?_⟩
  refine seq_with (fun R => ∀ H2, Fr T0 H H2 → d ≠ .tuple [.str "number"] → d ≠ .tuple [.str "text"] → R [some v, some (.ref la), some (.int r), none, none] H2) ?_ ?_
  · intro H2 f2 n1 n2
    have ty := Dp.ty (KeepL.dp (Fr.keep tb f2) hd)
    have it := isTup hd
    show tOr _ _ _ _ _
    cases hd with
    | tup ht hds =>
      rename_i a vs ds
      obtain ⟨len, okx⟩ := ok.sub
      have lv0 := DpAll.len hds
      refine or_pure false (decide (¬ vs.length = 2)) (fun R h => ⟨_, rfl, _, _, _, _, _, rfl, .ty _, ty, kit_ty it, _, rfl, h⟩) (fun _ R h => ⟨_, rfl, a, vs, rfl, .inr ((Fr.keep tb f2).2 _ _ ht), rfl, _, rfl, ?_⟩) (fun h => ?_) (fun _ h => ?_)
      · rw [eqV_int, decide_eq_decide.mpr (show ((vs.length : Nat) : Int) = 2 ↔ vs.length = 2 by omega), ← decide_not]
        exact h
      · have n : ds.length ≠ 2 := by rw [← lv0]; exact of_decide_eq_true (h.elim (fun z => by cases z) id)
        exact q2 (gCh_len n n1 n2) H2 f2
      have two : vs.length = 2 := Classical.byContradiction fun z => by rw [decide_eq_true z] at h; cases h
      obtain ⟨x1, x2, d1, d2, rfl, rfl, h1, h2⟩ := two_open hds two
      have ok1 := ok.sub.2 d1 List.mem_cons_self
      have ok2 := ok.sub.2 d2 (List.mem_cons_of_mem _ List.mem_cons_self)
      have g1 := KeepL.dp (Fr.keep tb f2) h1
      have g2 := KeepL.dp (Fr.keep tb f2) h2
      have hla2 := (Fr.keep tb f2).2 _ _ hla
      refine ⟨_, rfl, a, _, rfl, (Fr.keep tb f2).2 _ _ ht, rfl, _, _, rfl, _, _, rfl, rfl, ?_⟩
      dsimp only
      show tOr _ _ _ _ _
      refine or_pure (PyData.eqv d1 (.str "row")) (PyData.eqv d1 (.str "book")) (fun R h => ⟨_, rfl, d1, .str "row", g1, .str _, ok1.1, by decide +kernel, _, rfl, h⟩) (fun _ R h => ⟨_, rfl, d1, .str "book", g1, .str _, ok1.1, by decide +kernel, _, rfl, h⟩) (fun h => ?_) (fun e1 e2 => ?_)
      · have eg : gCh ls (g ls) (.tuple [d1, d2]) = g ls d2 := by
          rcases h with h | h
          · rw [(eqv_word _ _).mp h, gCh_two, if_pos (Or.inl rfl)]
          · rw [(eqv_word _ _).mp h, gCh_two, if_pos (Or.inr rfl)]
        rw [eg] at q1 q2
        refine ⟨_, rfl, _, rfl, _, rfl, _, _, rfl, rfl, ls, x2, d2, la, rfl, g2, ok2, f2.tab, hla2, fun e H3 f3 => q1 e H3 (f2.trans f3), fun e H3 f3 => q2 e H3 (f2.trans f3)⟩
      have n1 : ∀ w : Str, d1 = .str w → ¬ (w = "row" ∨ w = "book") := fun w e z => by
        rcases z with z | z
        · rw [(eqv_word d1 "row").mpr (by rw [e, z])] at e1; cases e1
        · rw [(eqv_word d1 "book").mpr (by rw [e, z])] at e2; cases e2
      refine ⟨_, rfl, d1, .str "shape", g1, .str _, ok1.1, by decide +kernel, _, rfl, ite2 (fun e => ?_) (fun e3 => ?_)⟩
      · have e' := (eqv_word _ _).mp e
        have eg : gCh ls (g ls) (.tuple [d1, d2]) = gFl (g ls) d2 := by rw [e', gCh_two, if_neg (n1 _ e'), if_pos rfl]
        rw [eg] at q1 q2
        exact ⟨_, rfl, _, rfl, _, rfl, _, _, rfl, rfl, ls, x2, d2, la, rfl, g2, ok2, f2.tab, hla2, fun e H3 f3 => q1 e H3 (f2.trans f3), fun e H3 f3 => q2 e H3 (f2.trans f3)⟩
      refine ⟨_, rfl, d1, .str "letter", g1, .str _, ok1.1, by decide +kernel, _, rfl, ite2 (fun e => ?_) (fun e4 => ?_)⟩
      · have e' := (eqv_word _ _).mp e
        have eg : gCh ls (g ls) (.tuple [d1, d2]) = letD ls d2 := by rw [e', gCh_two, if_neg (n1 _ e'), if_neg (by decide +kernel), if_pos rfl]
        rw [eg] at q1 q2
        exact ⟨_, rfl, _, rfl, ls, x2, d2, la, rfl, g2, ok2, f2.tab, hla2, fun e H3 f3 => q1 e H3 (f2.trans f3), fun e H3 f3 => q2 e H3 (f2.trans f3)⟩
      refine q2 ?_ H2 f2
      cases hs : isStrB d1 with
      | false => exact gCh_ns hs
      | true =>
        match d1, hs, n1, e3, e4 with
        | .str w, _, n1, e3, e4 =>
          rw [gCh_two, if_neg (n1 w rfl), if_neg fun z => e3 ((eqv_word _ _).mpr (by rw [z])), if_neg fun z => e4 ((eqv_word _ _).mpr (by rw [z]))]
    | str _ => exact or_pure true true (fun R h => ⟨_, rfl, _, _, _, _, _, rfl, .ty _, ty, kit_ty it, _, rfl, h⟩) (fun h => by cases h) (fun _ => q2 rfl H2 f2) (fun h => by cases h)
    | non => exact or_pure true true (fun R h => ⟨_, rfl, _, _, _, _, _, rfl, .ty _, ty, kit_ty it, _, rfl, h⟩) (fun h => by cases h) (fun _ => q2 rfl H2 f2) (fun h => by cases h)
    | bl b => exact or_pure true true (fun R h => ⟨_, rfl, _, _, _, _, _, rfl, .ty _, ty, kit_ty it, _, rfl, h⟩) (fun h => by cases h) (fun _ => q2 rfl H2 f2) (fun h => by cases h)
    | int b => exact or_pure true true (fun R h => ⟨_, rfl, _, _, _, _, _, rfl, .ty _, ty, kit_ty it, _, rfl, h⟩) (fun h => by cases h) (fun _ => q2 rfl H2 f2) (fun h => by cases h)
    | lst _ _ => exact or_pure true true (fun R h => ⟨_, rfl, _, _, _, _, _, rfl, .ty _, ty, kit_ty it, _, rfl, h⟩) (fun h => by cases h) (fun _ => q2 rfl H2 f2) (fun h => by cases h)
  · intro rest
    refine ⟨_, rfl, (by show 1 ≤ sizeLine; decide), fun p1 hp1 => ⟨d, .tuple [.str "number"], ?_, .tup (SqT.of upd_same) (.cons (.str _) .nil), ok.1, by decide +kernel, _, rfl, ite2 (fun e => ?_) (fun e => ?_)⟩⟩
    · exact KeepL.dp (Fr.keep tb (Fr.same tb (same_new hp1 _))) hd
    · have f1 := Fr.same tb (same_new hp1 (.tup [.str "number"]))
      exact q1 (by rw [(eqv_one _ _).mp e]; rfl) _ f1
    have f1 := Fr.same tb (same_new hp1 (.tup [.str "number"]))
    refine ⟨_, rfl, (by show 1 ≤ sizeLine; decide), fun p2 hp2 => ⟨d, .tuple [.str "text"], ?_, .tup (SqT.of upd_same) (.cons (.str _) .nil), ok.1, by decide +kernel, _, rfl, ite2 (fun e2 => ?_) (fun e2 => ?_)⟩⟩
    · exact KeepL.dp (Fr.keep tb (f1.trans (Fr.same f1.tab (same_new hp2 _)))) hd
    · exact q1 (by rw [(eqv_one _ _).mp e2]; rfl) _ (f1.trans (Fr.same f1.tab (same_new hp2 _)))
    · exact rest _ (f1.trans (Fr.same f1.tab (same_new hp2 _))) (fun z => e ((eqv_one _ _).mpr z)) (fun z => e2 ((eqv_one _ _).mpr z))
end
end Sc
namespace Sc
open PySem PyProof.Rows L2
section
variable {P : Program} {w : World} {K : PySem.W.Frag} {mg : Str → Option Value} {base : Heap} {T0 : List Addr} {CB : Addr}
theorem scNeedWithin : FnScope ["kind", "letters", "room", "choice"] ["kind", "letters", "room"] (defScope sPNeedKindWithin) := ⟨rfl, rfl, rfl, by decide +kernel, rfl, by decide +kernel, by decide +kernel⟩
theorem c_need_within {lv n : Nat} (T : Tx K mg) (B : Ec K mg "BadKind" CB) (h8 : ∃ t, mg "DEEPEST_KIND" = some (.int 8 t))
    (CC : 0 < n → CalX P w K mg base lv "_need_choice" ["choice", "letters", "room"] (spNeed K T0 CB [.int ((n : Int) - 1)] (fun ls => gCh ls (gK ls (n - 1)))))
    (CN : CalX P w K mg base lv "_need_choice" ["choice", "letters", "room"] (fun _ _ _ _ => False)) :
    CalX P w K mg base (lv + 1) "_need_kind_within" ["kind", "letters", "room"] (spNeed K T0 CB [.int ((n : Int) - 1)] (fun ls => gK ls n)) := by
  refine T.p_need_kind_within.okX scNeedWithin (fun vs H Q E h => ?_) (fun f cdv A outer s H vs Q E hr h => ?_)
  · obtain ⟨ls, v, d, la, rfl, _⟩ := h
    rfl
  obtain ⟨ls, v, d, la, rfl, hd, ok, tb, hla, q1, q2⟩ := h
  dsimp only at q1 q2
  obtain ⟨t8, m8⟩ := h8
  have CC' : ∃ sp, CalX P w K mg base lv "_need_choice" ["choice", "letters", "room"] sp ∧ (0 < n → sp = spNeed K T0 CB [.int ((n : Int) - 1)] (fun ls => gCh ls (gK ls (n - 1)))) := by
    by_cases h : 0 < n
    · exact ⟨_, CC h, fun _ => rfl⟩
    · exact ⟨_, CN, fun z => absurd z h⟩
  obtain ⟨sp, CS, es⟩ := CC'
  refine ⟨_, pss_cons (ps_if (pt_cmpR op_lt (pv 2) pe_int (nomark _))
      (pss_one (ps_raise rfl (takes_of rfl rfl rfl rfl) (SkE.pmk_own1 PySem.F.excBase_ValueError B.q B.g B.k (raises_own B.b B.t) (by exact rfl) (pe_fs (.cons pe_str (.cons (pe_fmt (pe_glob (v := .int 8) (by rfl) m8 ⟨_, rfl⟩)) (.cons pe_str .nil))))))) pss_nil)
    (pss_cons (ps_if (PW.pt (pw_or (pt_not (pt_val (pe_callB call_isi (by rfl) T.m_isinstance boot_isinstance (pa_cons (pv 0) (pa_cons (pe_bltn (v := .ty "tuple") (by rfl) T.m_tuple boot_tuple rfl) pa_nil)))))
        (pw_or1 (pt_cmpR op_eq (pe_callB call_len_seq (by rfl) T.m_len PySem.boot_len (pa_cons (pv 0) pa_nil)) pe_int (nomark _)))))
      (pss_one (ps_raise rfl (takes_of rfl rfl rfl rfl) (pmk_own PySem.F.excBase_ValueError B.q B.g B.k (raises_own B.b B.t) (by exact rfl)))) pss_nil)
    (pss_one (ps_for (passes_of rfl) rfl (pi_tup (pv 0)) (pg_name (i := 3) scNeedWithin.nd rfl (Or.inl rfl))
      (pss_one (ps_expr (pe_calX CS hr (passes_call (takes_of rfl rfl rfl rfl) (fun _ _ _ _ h => h)) (pa_cons (pv 3) (pa_cons (pv 1) (pa_cons (pv 2) pa_nil))))))))), ?_⟩
  refine ⟨_, rfl, _, _, rfl, rfl, _, rfl, ite2 (fun e => ?_) (fun e => ?_)⟩
  · have n0 : n = 0 := by have := of_decide_eq_true e; omega
    refine ⟨_, rfl, by decide +kernel, .inr ⟨8, rfl, by decide, _, rfl, by decide +kernel, _, rfl, by decide +kernel, ?_⟩⟩
    exact q2 (by rw [n0]; rfl) H (Fr.refl tb)
  have n1 : 0 < n := by
    have := of_decide_eq_false (Bool.eq_false_iff.mpr e)
    omega
  obtain ⟨m, rfl⟩ : ∃ m, n = m + 1 := ⟨n - 1, by omega⟩
  have es := es n1
  subst es
  dsimp only [tNext]
  show tOr _ _ _ _ _
  have ty := Dp.ty hd
  have it := isTup hd
  have dp := hd
  cases hd with
  | tup ht hds =>
    rename_i a vs ds
    obtain ⟨len, okx⟩ := ok.sub
    have lv0 := DpAll.len hds
    have bad0 : gK ls (m + 1) (.tuple ds) = (!ds.isEmpty && ds.all (gCh ls (gK ls m))) := rfl
    refine or_pure false (decide (vs.length = 0)) (fun R h => ⟨_, rfl, _, _, _, _, _, rfl, .ty _, ty, kit_ty it, _, rfl, h⟩) (fun _ R h => ⟨_, rfl, a, vs, rfl, .inr ht, rfl, _, rfl, ?_⟩) (fun h => ?_) (fun _ h => ?_)
    · rw [eqV_int, decide_eq_decide.mpr (show ((vs.length : Nat) : Int) = 0 ↔ vs.length = 0 by omega)]
      exact h
    · have z : vs.length = 0 := of_decide_eq_true (h.elim (fun z => by cases z) id)
      have z2 : ds = [] := List.length_eq_zero_iff.mp (lv0.symm.trans z)
      exact q2 (by rw [z2]; rfl) H (Fr.refl tb)
    have d0 : ds.isEmpty = false := by
      cases ds with
      | nil => exact absurd lv0 (of_decide_eq_false h)
      | cons _ _ => rfl
    rw [bad0, d0] at q1 q2
    refine ⟨_, rfl, a, rfl, ⟨_, ht⟩, ?_⟩
    refine for_tup (K := K) (a := a) (xs := vs) (fun j σ2 H2 => Fr T0 H H2 ∧ (∃ o, σ2 = [some (.ref a), some (.ref la), some (.int (((m + 1 : Nat) : Int) - 1)), o]) ∧ (ds.take j).all (gCh ls (gK ls m)) = true) ⟨Fr.refl tb, ⟨_, rfl⟩, rfl⟩ (fun j σ2 H2 _ h => (Fr.keep tb h.1).2 _ _ ht) ?_ ?_
    · rintro j x σ2 H2 hx ⟨f2, ⟨o, rfl⟩, hq⟩
      obtain ⟨d, hd1, hd2⟩ := DpAll.get hds hx
      have md := List.mem_of_getElem? hd1
      refine ⟨_, rfl, _, rfl, _, rfl, ls, x, d, la, rfl, KeepL.dp (Fr.keep tb f2) hd2, okx d md, f2.tab, (Fr.keep tb f2).2 _ _ hla, fun e H3 f3 => ?_, fun e H3 f3 => ?_⟩
      · exact ⟨f2.trans f3, ⟨_, rfl⟩, by rw [List.take_add_one, hd1, List.all_append, hq]; simpa using e⟩
      · refine q2 ?_ H3 (f2.trans f3)
        refine Bool.eq_false_iff.mpr fun z => ?_
        have := List.all_eq_true.mp z d md
        rw [show gCh ls (gK ls m) d = false from e] at this
        cases this
    · rintro σ2 H2 ⟨f2, ⟨o, rfl⟩, hq⟩
      rw [lv0, List.take_length] at hq
      exact q1 hq H2 f2
  | str _ => exact or_pure true true (fun R h => ⟨_, rfl, _, _, _, _, _, rfl, .ty _, ty, kit_ty it, _, rfl, h⟩) (fun h => by cases h) (fun _ => q2 rfl H (Fr.refl tb)) (fun h => by cases h)
  | non => exact or_pure true true (fun R h => ⟨_, rfl, _, _, _, _, _, rfl, .ty _, ty, kit_ty it, _, rfl, h⟩) (fun h => by cases h) (fun _ => q2 rfl H (Fr.refl tb)) (fun h => by cases h)
  | bl b => exact or_pure true true (fun R h => ⟨_, rfl, _, _, _, _, _, rfl, .ty _, ty, kit_ty it, _, rfl, h⟩) (fun h => by cases h) (fun _ => q2 rfl H (Fr.refl tb)) (fun h => by cases h)
  | int b => exact or_pure true true (fun R h => ⟨_, rfl, _, _, _, _, _, rfl, .ty _, ty, kit_ty it, _, rfl, h⟩) (fun h => by cases h) (fun _ => q2 rfl H (Fr.refl tb)) (fun h => by cases h)
  | lst _ _ => exact or_pure true true (fun R h => ⟨_, rfl, _, _, _, _, _, rfl, .ty _, ty, kit_ty it, _, rfl, h⟩) (fun h => by cases h) (fun _ => q2 rfl H (Fr.refl tb)) (fun h => by cases h)
end
end Sc
namespace Sc
open PySem PyProof.Rows L2
/-- what the errors' classes are -/
structure Er (K : PySem.W.Frag) (mg : Str → Option Value) (CS CB CP : Addr) : Prop where
  b : Ec K mg "BadKind" CB
  gS : mg "SoothError" = some (.ref CS)
  gP : mg "BadProgram" = some (.ref CP)
  xm : PySem.W.exmOne K (.ref CB) (.ref CS) = some true
  ec : ExcC K CB
  kP : PySem.W.kitOne K (.ref CB) (.ref CP) = some false
  kV : PySem.W.kitOne K (.ref CB) (.type "ValueError") = some true
  kB : PySem.W.kitOne K (.ref CB) (.ref CB) = some true
section
variable {P : Program} {w : World} {K : PySem.W.Frag} {mg : Str → Option Value} {base : Heap} {T0 : List Addr} {CB : Addr}
theorem c_withins (T : Tx K mg) (B : Ec K mg "BadKind" CB) (hl8 : ∃ t, mg "LONGEST_WORD" = some (.int 8 t)) (h8 : ∃ t, mg "DEEPEST_KIND" = some (.int 8 t))
    (CW : Cal P w K mg base 2 "is_word" ["thing"] (spTest K T0 isWordD)) (CF : Cal P w K mg base 1 "are_fields" ["thing"] (spTest K T0 fldD)) (CL : CalX P w K mg base 3 "_need_letter" ["letter", "letters"] (spNeed K T0 CB [] letD)) :
    ∀ n : Nat, CalX P w K mg base (3 * n + 3) "_need_kind_within" ["kind", "letters", "room"] (spNeed K T0 CB [.int ((n : Int) - 1)] (fun ls => gK ls n))
  | 0 => (c_need_within (lv := 2) (n := 0) T B h8 (fun z => absurd z (Nat.lt_irrefl _)) ((T.p_need_choice.neverX fun _ _ _ _ z => z).mono (by omega)))
  | n + 1 => by
    have ih := c_withins T B hl8 h8 CW CF CL n
    have cf := c_need_fields T B (by omega) CW CF ih hl8
    have cc := c_need_choice (r := (n : Int)) (g := fun ls => gK ls n) (lv := 3 * n + 4) T B (by omega) (ih.mono (by omega)) cf CL
    refine c_need_within (lv := 3 * n + 5) (n := n + 1) T B h8 (fun _ => ?_) ((T.p_need_choice.neverX fun _ _ _ _ z => z).mono (by omega))
    rw [show (((n + 1 : Nat) : Int) - 1) = (n : Int) by omega]
    exact cc
theorem scNeedKind : FnScope ["kind", "letters"] ["kind", "letters"] (defScope sNeedKind) := ⟨rfl, rfl, rfl, by decide +kernel, rfl, by decide +kernel, by decide +kernel⟩
theorem c_need_kind (T : Tx K mg) (h8 : ∃ t, mg "DEEPEST_KIND" = some (.int 8 t)) (CK : CalX P w K mg base 30 "_need_kind_within" ["kind", "letters", "room"] (spNeed K T0 CB [.int (((9 : Nat) : Int) - 1)] (fun ls => gK ls 9))) :
    CalX P w K mg base 31 "need_kind" ["kind", "letters"] (spNeed K T0 CB [] (fun ls => gK ls 9)) := by
  refine T.need_kind.okX scNeedKind (fun vs H Q E h => ?_) (fun f cdv A outer s H vs Q E hr h => ?_)
  · obtain ⟨ls, v, d, la, rfl, _⟩ := h
    rfl
  obtain ⟨ls, v, d, la, rfl, hd, ok, tb, hla, q1, q2⟩ := h
  dsimp only at q1 q2
  obtain ⟨t8, m8⟩ := h8
  refine ⟨_, pss_one (ps_expr (pe_calX CK hr (passes_call (takes_of rfl rfl rfl rfl) (fun _ _ _ _ h => h)) (pa_cons (pv 0) (pa_cons (pv 1) (pa_cons (pe_glob (v := .int 8) (by rfl) m8 ⟨_, rfl⟩) pa_nil))))), ?_⟩
  exact ⟨_, rfl, _, rfl, ls, v, d, la, rfl, hd, ok, tb, hla, q1, q2⟩
end
end Sc
namespace Sc
open PySem PyProof.Rows L2
theorem pss_when {X : Cx} {b : List Stmt} {t : TS} {p : Prop} (h : p → PSs X b t) : PSs X b (fun D σ H => p ∧ t D σ H) := ⟨fun pins s σ H D I q => (h q.1).run pins s σ H D I q.2⟩
theorem pe_calXS {X : Cx} {k : Nat} {x : Str} {ps : List Str} {sp : Sp} {e : Expr} {es : List Expr} {t : TA} {p pos : Pos} {E : L2.St → XK} (C : CalX X.prog X.w X.K X.mg X.base k x ps sp) (hr : Room k X.A) (hx : ∀ σ, PassesAt (L2.CX X.prog X.w) X σ (E σ)) (ha : PA X (e :: es) t) (hg : Gl X x := by rfl) (hdb : (x == ("__debug__" : Str)) = false := by decide)
    (he : starEach (e :: es) X.env = (false, eval e X.env) :: starEach es X.env := by rfl) (hpl : (backTo pos (starEach es X.env)).any (·.1) = false := by rfl) :
    PE X (.Call (.Name x p) (e :: es) [] pos) (tCallS sp E t) := by
  obtain ⟨f, fd, F, m, kp, b⟩ := C.ex
  exact pe_callS F hr hg m kp b hx ha hdb he hpl
def tSuite (K : PySem.W.Frag) (CB CP : Addr) (a : Addr) : TS :=
  tSeq (tIfS (tOr (tB (tCB (rIsE K CB a) (tCons (tVar 2) (tCons (tC (.ref CP)) tNil)))) (tNot (tB (tCB (rIsE K CB a) (tCons (tVar 2) (tCons (tC (.ty "ValueError")) tNil)))))) (tRet (tC .non)) tNext)
    (tRet (tCB (rIsE K CB a) (tCons (tVar 2) (tCons (tC (.ref CB)) tNil))))
section
variable {P : Program} {w : World} {K : PySem.W.Frag} {mg : Str → Option Value} {base : Heap} {T0 : List Addr} {CS CB CP : Addr}
def spRef (K : PySem.W.Frag) (T : List Addr) (g : List Str → PyData → Bool) : Sp := fun vs H Q _ => ∃ (ls : List Str) (v : V) (d : PyData) (la : Addr), vs = [v, .ref la] ∧ Dp K H v d ∧ okD d ∧ Tb T H ∧ SqT K H la (ls.map V.str) ∧ ∀ (H' : Hp), Fr T H H' → Q (.bl (!g ls d)) H'
theorem scRefused : FnScope ["_law_kind_here", "_law_letters", "e"] ["_law_kind_here", "_law_letters"] (defScope sRefused) := ⟨rfl, rfl, rfl, by decide +kernel, rfl, by decide +kernel, by decide +kernel⟩
theorem c_refused (T : Tx K mg) (R : Er K mg CS CB CP) (CN : CalX P w K mg base 31 "need_kind" ["kind", "letters"] (spNeed K T0 CB [] (fun ls => gK ls 9))) : Cal P w K mg base 32 "_law_refused" ["_law_kind_here", "_law_letters"] (spRef K T0 (fun ls => gK ls 9)) := by
  refine T.refused.ok scRefused (fun vs H Q E h => ?_) (fun f cdv A outer s H vs Q E hr h => ?_)
  · obtain ⟨ls, v, d, la, rfl, _⟩ := h
    rfl
  obtain ⟨ls, v, d, la, rfl, hd, ok, tb, hla, q⟩ := h
  refine ⟨_, pss_cons (ps_try_as (i := 2) (c := .ref CS) (tb := fun W => tDrop (tCallS (spNeed K T0 CB [] (fun ls => gK ls 9)) (WE W) (tCons (tVar 0) (tCons (tVar 1) tNil)))) (ts := fun a cls d D σ H => (cls = .ref CB ∧ d = none) ∧ tSuite K CB CP a D σ H) (Wout := fun _ _ _ _ => False) rfl rfl scRefused.nd rfl rfl ⟨by rfl, by decide, Or.inl R.gS⟩ takes0
      (fun W pn xe tk po => pss_one (ps_expr (by exact pe_calXS CN hr (fun σ => passAt tk σ) (pa_cons (pv 0) (pa_cons (pv 1) pa_nil)))))
      (fun a oe cls d pn hz hf => pss_when fun hp => ?_))
    (pss_one (ps_ret pe_bl)), ?_⟩
  · obtain ⟨rfl, rfl⟩ := hp
    exact pss_cons (ps_if (PW.pt (pw_or (pt_val (pe_callB (call_isE R.ec hz hf) (by rfl) T.m_isinstance boot_isinstance (pa_cons (pv 2) (pa_cons (pe_glob (v := .ref CP) (by rfl) R.gP rfl) pa_nil))))
        (pw_or1 (pt_not (pt_val (pe_callB (call_isE R.ec hz hf) (by rfl) T.m_isinstance boot_isinstance (pa_cons (pv 2) (pa_cons (pe_bltn (v := .ty "ValueError") (by rfl) T.m_ValueError (by decide +kernel) rfl) pa_nil)))))))) (pss_one (ps_ret pe_non)) pss_nil)
      (pss_one (ps_ret (pe_callB (call_isE R.ec hz hf) (by rfl) T.m_isinstance boot_isinstance (pa_cons (pv 2) (pa_cons (pe_glob (v := .ref CB) (by rfl) R.b.g rfl) pa_nil)))))
  refine ⟨_, rfl, _, rfl, ls, v, d, la, rfl, hd, ok, tb, hla, fun e H1 f1 => ?_, fun e H1 f1 => ?_⟩
  · have fin := q H1 f1
    rw [e] at fin
    exact fin
  · have fin := q H1 f1
    rw [e] at fin
    refine ⟨true, R.xm, fun _ a ha => ⟨⟨rfl, rfl⟩, ?_⟩, fun z => by cases z⟩
    refine or_pure false false (fun R1 h => ⟨_, rfl, .ref CP, .ref CP, false, rfl, fun u z => z, R.kP, _, rfl, h⟩) (fun _ R1 h => ⟨_, rfl, .ty "ValueError", .type "ValueError", true, rfl, fun u z => z, R.kV, _, rfl, h⟩) (fun h => by rcases h with h | h <;> cases h) (fun _ _ => ?_)
    exact ⟨_, rfl, .ref CB, .ref CB, true, rfl, fun u z => z, R.kB, fin⟩
end
end Sc
namespace Sc
open PySem PyProof.Rows L2
def goodD : PyData := .tuple [.tuple [.str "number"]]
def bad0 : List PyData := [.tuple [], .list [.tuple [.str "number"]], .str "number", .none, .int 5, .tuple [.tuple [.str "number"], .str "text"], .tuple [.tuple [.str "num"]], .tuple [.tuple [.str "number", .int 1]], .tuple [.tuple [.str "row"]]]
def bad1 : List PyData := [.tuple [.tuple [.str "row", .tuple []]], .tuple [.tuple [.str "book", .tuple [.tuple [.str "text"]], .int 1]], .tuple [.tuple [.str "shape", .tuple []]], .tuple [.tuple [.str "shape", .tuple [.tuple [.str "B", goodD]]]]]
def bad2 : List PyData := [.tuple [.tuple [.str "shape", .tuple [.tuple [.str "b", goodD], .tuple [.str "a", goodD]]]], .tuple [.tuple [.str "shape", .tuple [.tuple [.str "a", goodD], .tuple [.str "a", goodD]]]]]
def bad3 : List PyData := [.tuple [.tuple [.str "shape", .tuple [.tuple [.str "ninelongs", goodD]]]], .tuple [.tuple [.str "shape", .tuple [.tuple [.str "a", .tuple []]]]], .tuple [.tuple [.str "shape", .list [.tuple [.str "a", goodD]]]]]
def bad4 : List PyData := [.tuple [.tuple [.str "letter", .str "ZZ"]], .tuple [.tuple [.str "letter"]], .tuple [.tuple [.str "some", .str "row"]], .tuple [.tuple [.str "with", .str "a"]]]
def bad5 : List PyData := [.tuple [.tuple [.str "cut", .str "A", .tuple [.str "text"]]]]
def bad6 : List PyData := [.tuple [.tuple []], .tuple [.tuple [.str "shape", .tuple [.tuple [.str "a", goodD, .int 1]]]]]
def badL : List PyData := bad0 ++ bad1 ++ bad2 ++ bad3 ++ bad4 ++ bad5 ++ bad6
section
variable {P : Program} {w : World} {K : PySem.W.Frag} {mg : Str → Option Value} {base : Heap}
def spNo (K : PySem.W.Frag) : Sp := fun vs H Q _ => ∃ (s : Addr) (k : Nat) (d : PyData), vs = [.ref s, .int k] ∧ badL[k]? = some d ∧ ∀ (v : V) (H' : Hp), Same H H' → Dp K H' v d → Q v H'
theorem scNo : FnScope ["_law_s", "_law_way", "_law_good", "_law_some"] ["_law_s", "_law_way"] (defScope sNoKind) := ⟨rfl, rfl, rfl, by decide +kernel, rfl, by decide +kernel, by decide +kernel⟩
theorem c_no_kind (T : Tx K mg) : Cal P w K mg base 1 "_law_no_kind" ["_law_s", "_law_way"] (spNo K) := by
  refine T.no_kind.ok scNo (fun vs H Q E h => ?_) (fun f cdv A outer s H vs Q E hr h => ?_)
  · obtain ⟨s, k, d, rfl, _⟩ := h
    rfl
  obtain ⟨s, k, d, rfl, hk, q⟩ := h
  refine ⟨_, pss_cons (ps_set (i := 2) scNo.nd rfl (Or.inl rfl) (pe_tup (pa_cons (pe_tup (pa_cons pe_str pa_nil)) pa_nil)))
    (pss_cons (ps_set (i := 3) scNo.nd rfl (Or.inl rfl) (lit_lst (K := K) (i := 2) (g := goodD) (ds := bad0) (lits_cons (lit_tup lits_nil (by decide)) (lits_cons (lit_list (lits_cons (lit_tup (lits_cons lit_str lits_nil) (by decide)) lits_nil) (by decide)) (lits_cons lit_str (lits_cons lit_non (lits_cons lit_int (lits_cons (lit_tup (lits_cons (lit_tup (lits_cons lit_str lits_nil) (by decide)) (lits_cons lit_str lits_nil)) (by decide)) (lits_cons (lit_tup (lits_cons (lit_tup (lits_cons lit_str lits_nil) (by decide)) lits_nil) (by decide)) (lits_cons (lit_tup (lits_cons (lit_tup (lits_cons lit_str (lits_cons lit_int lits_nil)) (by decide)) lits_nil) (by decide)) (lits_cons (lit_tup (lits_cons (lit_tup (lits_cons lit_str lits_nil) (by decide)) lits_nil) (by decide)) lits_nil))))))))) (by decide)))
    (pss_cons (ps_set (i := 3) scNo.nd rfl (Or.inl rfl) (pe_op op_cat (pv 3) (lit_lst (K := K) (i := 2) (g := goodD) (ds := bad1) (lits_cons (lit_tup (lits_cons (lit_tup (lits_cons lit_str (lits_cons (lit_tup lits_nil (by decide)) lits_nil)) (by decide)) lits_nil) (by decide)) (lits_cons (lit_tup (lits_cons (lit_tup (lits_cons lit_str (lits_cons (lit_tup (lits_cons (lit_tup (lits_cons lit_str lits_nil) (by decide)) lits_nil) (by decide)) (lits_cons lit_int lits_nil))) (by decide)) lits_nil) (by decide)) (lits_cons (lit_tup (lits_cons (lit_tup (lits_cons lit_str (lits_cons (lit_tup lits_nil (by decide)) lits_nil)) (by decide)) lits_nil) (by decide)) (lits_cons (lit_tup (lits_cons (lit_tup (lits_cons lit_str (lits_cons (lit_tup (lits_cons (lit_tup (lits_cons lit_str (lits_cons (lit_var (pv 2)) lits_nil)) (by decide)) lits_nil) (by decide)) lits_nil)) (by decide)) lits_nil) (by decide)) lits_nil)))) (by decide))))
    (pss_cons (ps_set (i := 3) scNo.nd rfl (Or.inl rfl) (pe_op op_cat (pv 3) (lit_lst (K := K) (i := 2) (g := goodD) (ds := bad2) (lits_cons (lit_tup (lits_cons (lit_tup (lits_cons lit_str (lits_cons (lit_tup (lits_cons (lit_tup (lits_cons lit_str (lits_cons (lit_var (pv 2)) lits_nil)) (by decide)) (lits_cons (lit_tup (lits_cons lit_str (lits_cons (lit_var (pv 2)) lits_nil)) (by decide)) lits_nil)) (by decide)) lits_nil)) (by decide)) lits_nil) (by decide)) (lits_cons (lit_tup (lits_cons (lit_tup (lits_cons lit_str (lits_cons (lit_tup (lits_cons (lit_tup (lits_cons lit_str (lits_cons (lit_var (pv 2)) lits_nil)) (by decide)) (lits_cons (lit_tup (lits_cons lit_str (lits_cons (lit_var (pv 2)) lits_nil)) (by decide)) lits_nil)) (by decide)) lits_nil)) (by decide)) lits_nil) (by decide)) lits_nil)) (by decide))))
    (pss_cons (ps_set (i := 3) scNo.nd rfl (Or.inl rfl) (pe_op op_cat (pv 3) (lit_lst (K := K) (i := 2) (g := goodD) (ds := bad3) (lits_cons (lit_tup (lits_cons (lit_tup (lits_cons lit_str (lits_cons (lit_tup (lits_cons (lit_tup (lits_cons lit_str (lits_cons (lit_var (pv 2)) lits_nil)) (by decide)) lits_nil) (by decide)) lits_nil)) (by decide)) lits_nil) (by decide)) (lits_cons (lit_tup (lits_cons (lit_tup (lits_cons lit_str (lits_cons (lit_tup (lits_cons (lit_tup (lits_cons lit_str (lits_cons (lit_tup lits_nil (by decide)) lits_nil)) (by decide)) lits_nil) (by decide)) lits_nil)) (by decide)) lits_nil) (by decide)) (lits_cons (lit_tup (lits_cons (lit_tup (lits_cons lit_str (lits_cons (lit_list (lits_cons (lit_tup (lits_cons lit_str (lits_cons (lit_var (pv 2)) lits_nil)) (by decide)) lits_nil) (by decide)) lits_nil)) (by decide)) lits_nil) (by decide)) lits_nil))) (by decide))))
    (pss_cons (ps_set (i := 3) scNo.nd rfl (Or.inl rfl) (pe_op op_cat (pv 3) (lit_lst (K := K) (i := 2) (g := goodD) (ds := bad4) (lits_cons (lit_tup (lits_cons (lit_tup (lits_cons lit_str (lits_cons lit_str lits_nil)) (by decide)) lits_nil) (by decide)) (lits_cons (lit_tup (lits_cons (lit_tup (lits_cons lit_str lits_nil) (by decide)) lits_nil) (by decide)) (lits_cons (lit_tup (lits_cons (lit_tup (lits_cons lit_str (lits_cons lit_str lits_nil)) (by decide)) lits_nil) (by decide)) (lits_cons (lit_tup (lits_cons (lit_tup (lits_cons lit_str (lits_cons lit_str lits_nil)) (by decide)) lits_nil) (by decide)) lits_nil)))) (by decide))))
    (pss_cons (ps_set (i := 3) scNo.nd rfl (Or.inl rfl) (pe_op op_cat (pv 3) (lit_lst (K := K) (i := 2) (g := goodD) (ds := bad5) (lits_cons (lit_tup (lits_cons (lit_tup (lits_cons lit_str (lits_cons lit_str (lits_cons (lit_tup (lits_cons lit_str lits_nil) (by decide)) lits_nil))) (by decide)) lits_nil) (by decide)) lits_nil) (by decide))))
    (pss_one (ps_ret (pe_ix ix_list (pe_op op_cat (pv 3) (lit_lst (K := K) (i := 2) (g := goodD) (ds := bad6) (lits_cons (lit_tup (lits_cons (lit_tup lits_nil (by decide)) lits_nil) (by decide)) (lits_cons (lit_tup (lits_cons (lit_tup (lits_cons lit_str (lits_cons (lit_tup (lits_cons (lit_tup (lits_cons lit_str (lits_cons (lit_var (pv 2)) (lits_cons lit_int lits_nil))) (by decide)) lits_nil) (by decide)) lits_nil)) (by decide)) lits_nil) (by decide)) lits_nil)) (by decide))) (pv 1) (fun _ _ => rfl)))))))))), ?_⟩
  refine ⟨(by show 1 ≤ sizeLine; decide), fun p1 hp1 => ⟨(by show 1 ≤ sizeLine; decide), fun p2 hp2 => ?_⟩⟩
  have e0 := (same_new hp1 (.tup [.str "number"])).trans (same_new hp2 (.tup [.ref p1]))
  have g0 : Dp K (upd (upd H p1 (.tup [.str "number"])) p2 (.tup [.ref p1])) (.ref p2) goodD := .tup (SqT.of upd_same) (.cons (.tup (SqT.of ((same_new hp2 _) _ _ upd_same)) (.cons (.str _) .nil)) .nil)
  generalize (upd (upd H p1 (.tup [.str "number"])) p2 (.tup [.ref p1])) = H0 at e0 g0 ⊢
  dsimp only [gName]
  refine ⟨⟨_, rfl, g0⟩, fun l0 vs0 H1 e1 h1 d1 => ?_⟩
  have a1 := e0.trans e1
  have g1 := KeepL.dp (Same.keepL e1) g0
  have n1 : vs0.length ≤ 9 := Nat.le_of_eq (DpAll.len d1)
  dsimp only [gName]
  refine ⟨_, rfl, ⟨_, rfl, g1⟩, fun m1 us1 K1 f1 k1 b1 => ⟨l0, m1, _, _, rfl, rfl, f1 _ _ h1, k1, ?_, fun l1 hl1 => ?_⟩⟩
  · rw [DpAll.len b1]
    exact sizeOk (Nat.le_trans (Nat.add_le_add_right n1 _) (by decide))
  have e2 := Same.trans f1 (same_new hl1 (.lst (vs0 ++ us1)))
  have h2 : (upd K1 l1 (.lst (vs0 ++ us1))) l1 = some (.lst (vs0 ++ us1)) := upd_same
  have d2 := DpAll.app (KeepL.dps (Same.keepL e2) d1) (KeepL.dps (Same.keepL (same_new hl1 (.lst (vs0 ++ us1)))) b1)
  have n2 : (vs0 ++ us1).length ≤ 13 := by rw [List.length_append, DpAll.len b1]; exact Nat.add_le_add_right n1 _
  generalize upd K1 l1 (.lst (vs0 ++ us1)) = H2 at e2 h2 d2 ⊢
  generalize vs0 ++ us1 = vs1 at h2 d2 n2 ⊢
  have a2 := Same.trans a1 e2
  have g2 := KeepL.dp (Same.keepL e2) g1
  dsimp only [gName]
  refine ⟨_, rfl, ⟨_, rfl, g2⟩, fun m2 us2 K2 f2 k2 b2 => ⟨l1, m2, _, _, rfl, rfl, f2 _ _ h2, k2, ?_, fun l2 hl2 => ?_⟩⟩
  · rw [DpAll.len b2]
    exact sizeOk (Nat.le_trans (Nat.add_le_add_right n2 _) (by decide))
  have e3 := Same.trans f2 (same_new hl2 (.lst (vs1 ++ us2)))
  have h3 : (upd K2 l2 (.lst (vs1 ++ us2))) l2 = some (.lst (vs1 ++ us2)) := upd_same
  have d3 := DpAll.app (KeepL.dps (Same.keepL e3) d2) (KeepL.dps (Same.keepL (same_new hl2 (.lst (vs1 ++ us2)))) b2)
  have n3 : (vs1 ++ us2).length ≤ 15 := by rw [List.length_append, DpAll.len b2]; exact Nat.add_le_add_right n2 _
  generalize upd K2 l2 (.lst (vs1 ++ us2)) = H3 at e3 h3 d3 ⊢
  generalize vs1 ++ us2 = vs2 at h3 d3 n3 ⊢
  have a3 := Same.trans a2 e3
  have g3 := KeepL.dp (Same.keepL e3) g2
  dsimp only [gName]
  refine ⟨_, rfl, ⟨_, rfl, g3⟩, fun m3 us3 K3 f3 k3 b3 => ⟨l2, m3, _, _, rfl, rfl, f3 _ _ h3, k3, ?_, fun l3 hl3 => ?_⟩⟩
  · rw [DpAll.len b3]
    exact sizeOk (Nat.le_trans (Nat.add_le_add_right n3 _) (by decide))
  have e4 := Same.trans f3 (same_new hl3 (.lst (vs2 ++ us3)))
  have h4 : (upd K3 l3 (.lst (vs2 ++ us3))) l3 = some (.lst (vs2 ++ us3)) := upd_same
  have d4 := DpAll.app (KeepL.dps (Same.keepL e4) d3) (KeepL.dps (Same.keepL (same_new hl3 (.lst (vs2 ++ us3)))) b3)
  have n4 : (vs2 ++ us3).length ≤ 18 := by rw [List.length_append, DpAll.len b3]; exact Nat.add_le_add_right n3 _
  generalize upd K3 l3 (.lst (vs2 ++ us3)) = H4 at e4 h4 d4 ⊢
  generalize vs2 ++ us3 = vs3 at h4 d4 n4 ⊢
  have a4 := Same.trans a3 e4
  have g4 := KeepL.dp (Same.keepL e4) g3
  dsimp only [gName]
  refine ⟨_, rfl, ⟨_, rfl, g4⟩, fun m4 us4 K4 f4 k4 b4 => ⟨l3, m4, _, _, rfl, rfl, f4 _ _ h4, k4, ?_, fun l4 hl4 => ?_⟩⟩
  · rw [DpAll.len b4]
    exact sizeOk (Nat.le_trans (Nat.add_le_add_right n4 _) (by decide))
  have e5 := Same.trans f4 (same_new hl4 (.lst (vs3 ++ us4)))
  have h5 : (upd K4 l4 (.lst (vs3 ++ us4))) l4 = some (.lst (vs3 ++ us4)) := upd_same
  have d5 := DpAll.app (KeepL.dps (Same.keepL e5) d4) (KeepL.dps (Same.keepL (same_new hl4 (.lst (vs3 ++ us4)))) b4)
  have n5 : (vs3 ++ us4).length ≤ 22 := by rw [List.length_append, DpAll.len b4]; exact Nat.add_le_add_right n4 _
  generalize upd K4 l4 (.lst (vs3 ++ us4)) = H5 at e5 h5 d5 ⊢
  generalize vs3 ++ us4 = vs4 at h5 d5 n5 ⊢
  have a5 := Same.trans a4 e5
  have g5 := KeepL.dp (Same.keepL e5) g4
  dsimp only [gName]
  refine ⟨_, rfl, ⟨_, rfl, g5⟩, fun m5 us5 K5 f5 k5 b5 => ⟨l4, m5, _, _, rfl, rfl, f5 _ _ h5, k5, ?_, fun l5 hl5 => ?_⟩⟩
  · rw [DpAll.len b5]
    exact sizeOk (Nat.le_trans (Nat.add_le_add_right n5 _) (by decide))
  have e6 := Same.trans f5 (same_new hl5 (.lst (vs4 ++ us5)))
  have h6 : (upd K5 l5 (.lst (vs4 ++ us5))) l5 = some (.lst (vs4 ++ us5)) := upd_same
  have d6 := DpAll.app (KeepL.dps (Same.keepL e6) d5) (KeepL.dps (Same.keepL (same_new hl5 (.lst (vs4 ++ us5)))) b5)
  have n6 : (vs4 ++ us5).length ≤ 23 := by rw [List.length_append, DpAll.len b5]; exact Nat.add_le_add_right n5 _
  generalize upd K5 l5 (.lst (vs4 ++ us5)) = H6 at e6 h6 d6 ⊢
  generalize vs4 ++ us5 = vs5 at h6 d6 n6 ⊢
  have a6 := Same.trans a5 e6
  have g6 := KeepL.dp (Same.keepL e6) g5
  dsimp only [gName]
  refine ⟨_, rfl, ⟨_, rfl, g6⟩, fun m6 us6 K6 f6 k6 b6 => ⟨l5, m6, _, _, rfl, rfl, f6 _ _ h6, k6, ?_, fun l6 hl6 => ?_⟩⟩
  · rw [DpAll.len b6]
    exact sizeOk (Nat.le_trans (Nat.add_le_add_right n6 _) (by decide))
  have e7 := Same.trans f6 (same_new hl6 (.lst (vs5 ++ us6)))
  have d7 := DpAll.app (KeepL.dps (Same.keepL e7) d6) (KeepL.dps (Same.keepL (same_new hl6 (.lst (vs5 ++ us6)))) b6)
  have dl : (bad0 ++ bad1 ++ bad2 ++ bad3 ++ bad4 ++ bad5 ++ bad6)[k]? = some d := hk
  have lt : k < (vs5 ++ us6).length := by rw [DpAll.len d7]; exact (List.getElem?_eq_some_iff.mp dl).1
  have ev := List.getElem?_eq_getElem lt
  obtain ⟨d', x1, x2⟩ := DpAll.get d7 ev
  rw [dl] at x1
  cases x1
  exact ⟨_, rfl, l6, _, _, _, rfl, rfl, SqL.of upd_same, atI_nat ev, q _ _ (Same.trans a6 e7) x2⟩
end
end Sc
namespace Sc
open PySem PyProof.Rows L2
def deepD (d : PyData) : Nat → PyData
  | 0 => d
  | n + 1 => .tuple [.tuple [.str "row", deepD d n]]
section
variable {P : Program} {w : World} {K : PySem.W.Frag} {mg : Str → Option Value} {base : Heap}
def spDeep (K : PySem.W.Frag) : Sp := fun vs H Q _ => ∃ (v : V) (d : PyData) (n : Nat), vs = [v, .int n] ∧ Dp K H v d ∧ n ≤ 1000 ∧ ∀ (v' : V) (H' : Hp), Same H H' → Dp K H' v' (deepD d n) → Q v' H'
theorem scDeep : FnScope ["_law_kind_here", "_law_many", "_law_k"] ["_law_kind_here", "_law_many"] (defScope sDeep) := ⟨rfl, rfl, rfl, by decide +kernel, rfl, by decide +kernel, by decide +kernel⟩
theorem c_deep (T : Tx K mg) : Cal P w K mg base 1 "_law_deep" ["_law_kind_here", "_law_many"] (spDeep K) := by
  refine T.deep.ok scDeep (fun vs H Q E h => ?_) (fun f cdv A outer s H vs Q E hr h => ?_)
  · obtain ⟨v, d, n, rfl, _⟩ := h
    rfl
  obtain ⟨v, d, n, rfl, hd, hn, q⟩ := h
  refine ⟨_, pss_cons (ps_for PassesOwn.never rfl (pi_range1 rfl T.m_range (pa_cons (pv 1) pa_nil)) (pg_name (i := 2) scDeep.nd rfl (Or.inl rfl))
      (pss_one (ps_set (i := 0) scDeep.nd rfl (Or.inl rfl) (pe_tup (pa_cons (pe_tup (pa_cons pe_str (pa_cons (pv 0) pa_nil))) pa_nil)))))
    (pss_one (ps_ret (pv 0))), ?_⟩
  refine ⟨_, rfl, _, rfl, by omega, by omega, ?_⟩
  refine for_range (lo := 0) (n := n) (fun j σ2 H2 => Same H H2 ∧ ∃ v' o, σ2 = [some v', some (.int n), o] ∧ Dp K H2 v' (deepD d j)) ⟨Same.refl H, _, _, rfl, hd⟩ ?_ ?_
  · rintro j σ2 H2 hj ⟨e2, v', o, rfl, dv⟩
    dsimp only [gName]
    refine ⟨_, rfl, (by show 2 ≤ sizeLine; decide), fun p hp => ⟨(by show 1 ≤ sizeLine; decide), fun p2 hp2 => ?_⟩⟩
    have e3 := same_new hp (.tup [.str "row", v'])
    have e4 := same_new hp2 (.tup [.ref p])
    exact ⟨Same.trans e2 (Same.trans e3 e4), _, _, rfl, .tup (SqT.of upd_same) (.cons (.tup (SqT.of (e4 _ _ upd_same)) (.cons (.str _) (.cons (KeepL.dp (Same.keepL (Same.trans e3 e4)) dv) .nil))) .nil)⟩
  · rintro σ2 H2 ⟨e2, v', o, rfl, dv⟩
    exact ⟨_, rfl, q v' H2 e2 dv⟩
end
end Sc
namespace Sc
open PySem PyProof.Rows L2
theorem bad_mem : ∀ {d : PyData}, d ∈ badL → d = .tuple [.tuple [.str "letter", .str "ZZ"]] ∨ d ∈ bad0 ++ bad1 ++ bad2 ++ bad3 ++ bad4.tail ++ bad5 ++ bad6 := by
  intro d h
  simp only [badL, List.mem_append] at h
  simp only [List.mem_append]
  rcases h with (((((h | h) | h) | h) | h) | h) | h
  all_goals try (simp only [h, true_or, or_true]; done)
  rcases List.mem_cons.mp (show d ∈ PyData.tuple [.tuple [.str "letter", .str "ZZ"]] :: bad4.tail from h) with e | e
  · exact .inl e
  · simp only [e, true_or, or_true]
theorem bad_rest (ls : List Str) : ∀ d ∈ bad0 ++ bad1 ++ bad2 ++ bad3 ++ bad4.tail ++ bad5 ++ bad6, Bad ls d := by
  intro d h n hn
  have a : ∀ n, (bad0 ++ bad1 ++ bad2 ++ bad3 ++ bad4.tail ++ bad5 ++ bad6).all (fun d => !gK ls n d) = true := fun n => by
    rcases n with _ | _ | n
    · kernel_rfl
    · kernel_rfl
    · kernel_rfl
  have := List.all_eq_true.mp (a n) d h
  simpa using this
theorem bad_list {ls : List Str} (zz : ("ZZ" : Str) ∉ ls) : ∀ d ∈ badL, Bad ls d := by
  intro d h
  rcases bad_mem h with rfl | h
  · refine bad_in List.mem_cons_self fun n _ => ?_
    rw [gCh_two', if_neg (by decide +kernel), if_neg (by decide +kernel), if_pos rfl]
    show (isLettD (.str "ZZ") && decide (("ZZ" : Str) ∈ ls)) = false
    rw [decide_eq_false zz, Bool.and_false]
  · exact bad_rest ls d h
theorem badL_ok : ∀ d ∈ badL, OkN 12 d := by
  have a : badL.all (fun d => d.canLay0 && sm d && decide (d.depth ≤ 12)) = true := by decide +kernel
  intro d h
  have := List.all_eq_true.mp a d h
  rw [Bool.and_eq_true, Bool.and_eq_true, decide_eq_true_eq] at this
  exact ⟨this.1.1, this.1.2, this.2⟩
def txtD : PyData := .tuple [.tuple [.str "text"]]
theorem deep_ok : OkN 30 (deepD txtD 8) ∧ OkN 30 (deepD txtD 9) := by
  have a : [deepD txtD 8, deepD txtD 9].all (fun d => d.canLay0 && sm d && decide (d.depth ≤ 30)) = true := by decide +kernel
  have b : ∀ d ∈ [deepD txtD 8, deepD txtD 9], OkN 30 d := fun d h => by
    have := List.all_eq_true.mp a d h
    rw [Bool.and_eq_true, Bool.and_eq_true, decide_eq_true_eq] at this
    exact ⟨this.1.1, this.1.2, this.2⟩
  exact ⟨b _ List.mem_cons_self, b _ (List.mem_cons_of_mem _ List.mem_cons_self)⟩
theorem deep8 (ls : List Str) : gK ls 9 (deepD txtD 8) = true := by kernel_rfl
theorem deep9 (ls : List Str) : Bad ls (deepD txtD 9) := bad_deep ls (deepD txtD) (fun _ => rfl) 9
end Sc
namespace Sc
open PySem PyProof.Rows L2
def strD : PyData := .tuple [.tuple [.str "row", .tuple [.tuple [.str "text"], .tuple [.str "letter", .str "A"]]]]
theorem okN_of_tup {n : Nat} {ds : List PyData} (h : OkN n (.tuple ds)) : ∀ d ∈ ds, OkN n d := fun d hd => by
  obtain ⟨h1, h2, h3⟩ := h
  have h2' : (decide (ds.length ≤ 60) && smAll ds) = true := h2
  rw [Bool.and_eq_true] at h2'
  have e0 : (PyData.tuple ds).depth = PyData.depthAll ds + 1 := by simp [PyData.depth]
  have := depthAll_mem hd
  exact ⟨layAll_mem h1 hd, smAll_mem h2'.2 hd, by omega⟩
theorem strange0 : gK [] 9 strD = false := by kernel_rfl
theorem strange1 : gK ["A"] 9 strD = true := by kernel_rfl
theorem strange_ok : okD strD := by
  have a : (strD.canLay0 && sm strD && decide (strD.depth ≤ 30)) = true := by decide +kernel
  rw [Bool.and_eq_true, Bool.and_eq_true, decide_eq_true_eq] at a
  exact OkN.ok (n := 30) ⟨a.1.1, a.1.2, a.2⟩ (by decide)
section
variable {P : Program} {w : World} {K : PySem.W.Frag} {mg : Str → Option Value} {base : Heap}
def spLaw (K : PySem.W.Frag) (T0 : List Addr) : Sp := fun vs H Q _ => ∃ (a : Addr) (ns : List Int), vs = [.ref a] ∧ SqL K H a (ns.map V.int) ∧ ns.length ≤ 63 ∧ Tb T0 H ∧ ∀ H', Q (.bl true) H'
theorem scLaw : FnScope ["_law_script", "_law_s", "_law_k", "_law_letters", "_law_good", "_law_bad", "_law_way", "_law_choice_here", "_law_strange"] ["_law_script"] (defScope sLaw) := ⟨rfl, rfl, rfl, by decide +kernel, rfl, by decide +kernel, by decide +kernel⟩
theorem ok_law {T0 : List Addr} {CB : Addr} {f : Addr} {fd : FuncData} (F : Fun K "law" "law" sLaw f fd) (T : Tx K mg) (CN : CalX P w K mg base 31 "need_kind" ["kind", "letters"] (spNeed K T0 CB [] (fun ls => gK ls 9)))
    (CR : Cal P w K mg base 32 "_law_refused" ["_law_kind_here", "_law_letters"] (spRef K T0 (fun ls => gK ls 9))) : FnOk P w K mg base CX0 33 f fd ["_law_script"] (spLaw K T0) := by
  have CG : Cal P w K mg base 2 "_law_begun" ["_law_script"] (spBegun K) := c_begun T
  have CT : Cal P w K mg base 1 "_law_taken" ["_law_s", "_law_most"] (spTaken K) := c_taken T
  have CW : Cal P w K mg base 1 "_law_word" ["_law_s", "_law_k"] (spWord K) := c_word T
  have CK : Cal P w K mg base 10 "_law_kind" ["_law_s", "_law_deep_here", "_law_letters"] (spKind K 3) := c_kinds T 3
  have CO : Cal P w K mg base 1 "_law_no_kind" ["_law_s", "_law_way"] (spNo K) := c_no_kind T
  have CD : Cal P w K mg base 1 "_law_deep" ["_law_kind_here", "_law_many"] (spDeep K) := c_deep T
  refine F.ok scLaw (fun vs H Q E h => ?_) (fun cdv A outer s0 H vs Q E hr h => ?_)
  · obtain ⟨a, ns, rfl, _⟩ := h
    rfl
  obtain ⟨a, ns, rfl, ha, hl, tb, q⟩ := h
  have r1 : Room 1 _ := hr.mono (by decide)
  have r2 : Room 2 _ := hr.mono (by decide)
  have r10 : Room 10 _ := hr.mono (by decide)
  have r31 : Room 31 _ := hr.mono (by decide)
  refine ⟨_, pss_cons (ps_set (i := 1) scLaw.nd rfl (Or.inr rfl) (pe_cal CG r2 (pa_cons (pv 0) pa_nil)))
    (pss_cons (ps_setLc (i := 3) (own := [("_law_k", 2)]) (g := gName 2) (tt := tYes) rfl scLaw.nd rfl rfl (sw_true rfl rfl rfl (by decide +kernel)) (pi_range1 rfl T.m_range (pa_cons (pe_cal CT r1 (pa_cons (pv 1) (pa_cons pe_int pa_nil))) pa_nil))
        (blkOk_by (N := ["_law_script", "_law_s", "_law_k", "_law_letters", "_law_good", "_law_bad", "_law_way", "_law_choice_here", "_law_strange"]) (sc := defScope sLaw) (by decide +kernel))
        (fun _ _ _ _ _ => pg_name (i := 2) scLaw.nd rfl (Or.inl rfl)) (fun _ _ _ _ _ => pts_nil)
        (fun _ _ _ _ _ => pe_upper (pe_cal CW r1 (pa_cons (pv 1) (pa_cons (pv 2) pa_nil)))))
    (pss_cons (ps_set (i := 4) scLaw.nd rfl (Or.inl rfl) (pe_cal CK r10 (pa_cons (pv 1) (pa_cons pe_int (pa_cons (pv 3) pa_nil)))))
    (pss_cons (ps_if (PW.pt (pw_or (pt_cmpR op_notN (pe_calX CN r31 passL (pa_cons (pv 4) (pa_cons (pe_callTy call_tuple_of (by rfl) T.m_tuple (by decide +kernel) (pa_cons (pv 3) pa_nil)) pa_nil))) pe_non (nomark _))
        (pw_or1 (pt_cmpR op_isnot_bl (pe_cal CR hr (pa_cons (pv 4) (pa_cons (pe_callTy call_tuple_of (by rfl) T.m_tuple (by decide +kernel) (pa_cons (pv 3) pa_nil)) pa_nil))) pe_bl (nomark _))))) (pss_one (ps_ret pe_bl)) pss_nil)
    (pss_cons (ps_if (pt_cmpR op_isnot_bl (pe_cal CR hr (pa_cons (pe_cal CD r1 (pa_cons (pe_tup (pa_cons (pe_tup (pa_cons pe_str pa_nil)) pa_nil)) (pa_cons pe_int pa_nil))) (pa_cons (pe_tup pa_nil) pa_nil))) pe_bl (nomark _)) (pss_one (ps_ret pe_bl)) pss_nil)
    (pss_cons (ps_set (i := 5) scLaw.nd rfl (Or.inl rfl) (pe_cal CO r1 (pa_cons (pv 1) (pa_cons (pe_cal CT r1 (pa_cons (pv 1) (pa_cons pe_int pa_nil))) pa_nil))))
    (pss_cons (ps_if (pt_cmpR op_eq (pe_cal CT r1 (pa_cons (pv 1) (pa_cons pe_int pa_nil))) pe_int (nomark _))
      (pss_one (ps_set (i := 5) scLaw.nd rfl (Or.inl rfl) (pe_cal CD r1 (pa_cons (pe_tup (pa_cons (pe_tup (pa_cons pe_str pa_nil)) pa_nil)) (pa_cons pe_int pa_nil))))) pss_nil)
    (pss_cons (ps_for PassesOwn.never rfl (pi_range1 rfl T.m_range (pa_cons (pe_cal CT r1 (pa_cons (pv 1) (pa_cons pe_int pa_nil))) pa_nil)) (pg_name (i := 2) scLaw.nd rfl (Or.inl rfl))
      (pss_cons (ps_set (i := 6) scLaw.nd rfl (Or.inl rfl) (pe_cal CT r1 (pa_cons (pv 1) (pa_cons pe_int pa_nil))))
      (pss_cons (ps_set (i := 7) scLaw.nd rfl (Or.inl rfl) (pe_ix ix_list (pe_lst (pa_cons (pe_tup (pa_cons pe_str (pa_cons (pv 5) pa_nil))) (pa_cons (pe_tup (pa_cons pe_str (pa_cons (pv 5) pa_nil)))
          (pa_cons (pe_tup (pa_cons pe_str (pa_cons (pe_tup (pa_cons (pe_tup (pa_cons (pe_cal CW r1 (pa_cons (pv 1) (pa_cons pe_int pa_nil))) (pa_cons (pv 5) pa_nil))) pa_nil)) pa_nil))) (pa_cons (pe_tup (pa_cons pe_str (pa_cons (pv 5) pa_nil))) pa_nil))))) (pv 6) (fun _ _ => rfl)))
      (pss_one (ps_set (i := 5) scLaw.nd rfl (Or.inl rfl) (pe_ix ix_list (pe_lst (pa_cons (pe_tup (pa_cons (pv 7) pa_nil)) (pa_cons (pe_tup (pa_cons (pe_tup (pa_cons pe_str pa_nil)) (pa_cons (pv 7) pa_nil)))
          (pa_cons (pe_tup (pa_cons (pv 7) (pa_cons (pe_tup (pa_cons pe_str pa_nil)) pa_nil))) (pa_cons (pe_op op_catT (pv 4) (pe_tup (pa_cons (pv 7) pa_nil))) pa_nil))))) (pe_cal CT r1 (pa_cons (pv 1) (pa_cons pe_int pa_nil))) (fun _ _ => rfl)))))))
    (pss_cons (ps_set (i := 8) scLaw.nd rfl (Or.inl rfl) (pe_tup (pa_cons (pe_tup (pa_cons pe_str (pa_cons (pe_tup (pa_cons (pe_tup (pa_cons pe_str pa_nil)) (pa_cons (pe_tup (pa_cons pe_str (pa_cons pe_str pa_nil))) pa_nil))) pa_nil))) pa_nil)))
    (pss_cons (ps_if (PW.pt (pw_or (pt_cmpR op_isnot_bl (pe_cal CR hr (pa_cons (pv 8) (pa_cons (pe_tup pa_nil) pa_nil))) pe_bl (nomark _))
        (pw_or1 (pt_cmpR op_isnot_bl (pe_cal CR hr (pa_cons (pv 8) (pa_cons (pe_tup (pa_cons pe_str pa_nil)) pa_nil))) pe_bl (nomark _))))) (pss_one (ps_ret pe_bl)) pss_nil)
    (pss_one (ps_ret (pe_cmpR op_is_bl (pe_cal CR hr (pa_cons (pv 5) (pa_cons (pe_callTy call_tuple_of (by rfl) T.m_tuple (by decide +kernel) (pa_cons (pv 3) pa_nil)) pa_nil))) pe_bl (nomark _))))))))))))), ?_⟩
  refine ⟨_, rfl, a, ns, rfl, ha, hl, fun s i H1 e1 hs ic io hf0 hf1 S1 => ?_⟩
  have tb1 := (Fr.same tb e1).tab
  dsimp only [gName]
  refine ⟨_, rfl, s, i, 3, rfl, S1, by decide, by decide, fun r H2 r0 r3 x2 S2 => ⟨_, rfl, by omega, by omega, fun D hD => ?_⟩⟩
  have tb2 := tb1.ext S1 x2
  have nds : D ≠ s := S2.ne hD
  obtain ⟨_, _, _, _, _, iok, _⟩ := id S2
  refine lc_range (lo := 0) (n := r.toNat) (fun j H3 => Ext s H2 H3 ∧ IsS K H3 s i ∧ ∃ zs : List Str, H3 D = some (.lst (zs.map V.str)) ∧ (∀ z ∈ zs, Lett z ∧ z ≠ "ZZ") ∧ zs.length = j)
    ⟨Ext.new _ hD, S2.same (same_new hD _), [], upd_same, (fun z hz => by cases hz), rfl⟩ ?_ ?_
  · rintro j H3 hj ⟨x3, S3, zs, hd, wd, lz⟩
    refine ⟨rfl, _, rfl, _, rfl, s, i, 0 + (j : Int), rfl, S3, by omega, fun H4 e4 => ?_⟩
    have w8 := (word_of iok (k := 0 + (j : Int)) (by omega)).2.1
    refine ⟨⟨_, rfl⟩, _, rfl, rfl, by rw [len_list]; omega, zs.map V.str, e4 _ _ hd, ?_, ?_⟩
    · rw [List.length_map]
      exact small1000 (by omega)
    · have x5 : Ext s H2 (upd H4 D (.lst (zs.map V.str ++ [.str (Txt.upper (wordOf i (0 + (j : Int))))]))) := (x3.trans (Ext.same e4)).over hD _
      refine ⟨x5, S2.over (S3.same e4) x5 nds, zs ++ [Txt.upper (wordOf i (0 + (j : Int)))], by rw [upd_same, List.map_append]; rfl, fun z hz => ?_, by rw [List.length_append, lz]; rfl⟩
      rcases List.mem_append.mp hz with h | h
      · exact wd z h
      · rw [List.mem_singleton.mp h]
        exact ⟨upper_word (word_of iok (by omega)), upper_zz iok (by omega)⟩
  rintro H3 ⟨x3, S3, ls, hd3, wd, lz⟩
  have hlett : ∀ l ∈ ls, Lett l := fun l m => (wd l m).1
  have hzz : ("ZZ" : Str) ∉ ls := fun m => (wd _ m).2 rfl
  have l3 : ls.length ≤ 3 := by rw [lz]; omega
  have tb3 := tb2.ext S2 x3
  dsimp only [gName]
  refine ⟨_, rfl, _, rfl, s, D, i, 2, ls, rfl, S3, by decide, SqL.of hd3, by omega, fun gv H4 k x4 S4 dk k0 k3 okk => ?_⟩
  have hg : gK ls 9 (.tuple (pyL k)) = true := good_kind hlett 2 9 (by decide) k k0 okk
  have okg : OkN 10 (.tuple (pyL k)) := okN_kind hlett 2 k (by omega) okk
  have b4 : Bd K T0 s i D ls gv (.tuple (pyL k)) H4 := ⟨S4, tb3.ext S3 x4, S3.seq x4 (SqL.of hd3), Dt.dp dk⟩
  have g0 : pyL k ≠ [] := by rw [pyL_map]; intro z; exact k0 (List.map_eq_nil_iff.mp z)
  have gl : (pyL k).length ≤ 3 := by rw [pyL_map, List.length_map]; exact k3
  generalize pyL k = gds at hg okg b4 g0 gl
  dsimp only [gName]
  refine ⟨_, rfl, _, rfl, D, _, rfl, .inl ⟨b4.hl, fun t1 ht1 => ?_⟩⟩
  have b5 := b4.same (same_new ht1 (.tup (ls.map V.str)))
  refine ⟨ls, gv, .tuple gds, t1, rfl, b5.dg, okg.ok (by decide), b5.tb, SqT.of upd_same, fun _ H6 f6 => ?_, fun e => absurd (hg.symm.trans e) (by decide)⟩
  have b6 := b5.fr f6
  refine ⟨rfl, _, rfl, ite2 (fun e => absurd e (by simp)) (fun _ => ?_)⟩
  refine ⟨_, rfl, _, rfl, D, _, rfl, .inl ⟨b6.hl, fun t2 ht2 => ?_⟩⟩
  have b7 := b6.same (same_new ht2 (.tup (ls.map V.str)))
  refine ⟨ls, gv, .tuple gds, t2, rfl, b7.dg, okg.ok (by decide), b7.tb, SqT.of upd_same, fun H8 f8 => ?_⟩
  have b8 := b7.fr f8
  clear b4 b5 b6 b7
  refine ⟨_, _, rfl, rfl, _, rfl, ite2 (fun e => absurd e (by simp [hg])) (fun _ => ?_)⟩
  refine ⟨(by show 1 ≤ sizeLine; decide), fun p1 hp1 => ⟨(by show 1 ≤ sizeLine; decide), fun p2 hp2 => ?_⟩⟩
  have c1 := same_new hp1 (.tup [.str "text"])
  have c2 := same_new hp2 (.tup [.ref p1])
  have b9 := b8.same (Same.trans c1 c2)
  refine ⟨.ref p2, txtD, 8, rfl, .tup (SqT.of upd_same) (.cons (.tup (SqT.of (c2 _ _ upd_same)) (.cons (.str _) .nil)) .nil), by decide, fun v9 H9 e9 d9 => ⟨(by show 0 ≤ sizeLine; decide), fun p3 hp3 => ?_⟩⟩
  have b10 := (b9.same e9).same (same_new hp3 (.tup []))
  refine ⟨[], v9, deepD txtD 8, p3, rfl, KeepL.dp (Same.keepL (same_new hp3 _)) d9, deep_ok.1.ok (by decide), b10.tb, SqT.of upd_same, fun H11 f11 => ?_⟩
  have b11 := b10.fr f11
  clear b8 b9 b10
  refine ⟨_, _, rfl, rfl, _, rfl, ite2 (fun e => absurd e (by simp [deep8])) (fun _ => ?_)⟩
  dsimp only [gName]
  refine ⟨_, rfl, _, rfl, s, i, 25, rfl, b11.S, by decide, by decide, fun r12 H12 z0 z1 x12 S12 => ?_⟩
  have b12 := b11.ext x12 S12
  have lt : r12.toNat < badL.length := by show r12.toNat < 25; omega
  refine ⟨s, r12.toNat, badL[r12.toNat], congrArg (fun z => [V.ref s, V.int z]) (Int.toNat_of_nonneg z0).symm, List.getElem?_eq_getElem lt, fun bv H13 e13 d13 => ?_⟩
  have b13 := b12.same e13
  have bd0 : Bad ls badL[r12.toNat] := bad_list hzz _ (List.getElem_mem lt)
  have ok0 : OkN 30 badL[r12.toNat] := (badL_ok _ (List.getElem_mem lt)).mono (by decide)
  generalize badL[r12.toNat] = bd at d13 bd0 ok0
  clear b11 b12
  dsimp only [gName]
  refine seq_with (fun R => ∀ (H' : Hp) (bv : V) (bd : PyData), Bd K T0 s i D ls gv (.tuple gds) H' → Dp K H' bv bd → Bad ls bd → OkN 30 bd → R [some (.ref a), some (.ref s), none, some (.ref D), some gv, some bv, none, none, none] H') ?_ ?_
  rotate_left
  · intro rest
    refine ⟨_, rfl, s, i, 9, rfl, b13.S, by decide, by decide, fun r14 H14 _ _ x14 S14 => ⟨rfl, _, rfl, ite2 (fun _ => ?_) (fun _ => rest H14 bv bd (b13.ext x14 S14) (KeepL.dp (b13.S.keepL x14) d13) bd0 ok0)⟩⟩
    have b14 := b13.ext x14 S14
    refine ⟨(by show 1 ≤ sizeLine; decide), fun p1 hp1 => ⟨(by show 1 ≤ sizeLine; decide), fun p2 hp2 => ?_⟩⟩
    have c1 := same_new hp1 (.tup [.str "text"])
    have c2 := same_new hp2 (.tup [.ref p1])
    have b15 := b14.same (Same.trans c1 c2)
    exact ⟨.ref p2, txtD, 9, rfl, .tup (SqT.of upd_same) (.cons (.tup (SqT.of (c2 _ _ upd_same)) (.cons (.str _) .nil)) .nil), by decide, fun v9 H9 e9 d9 => rest H9 v9 _ (b15.same e9) d9 (deep9 ls) deep_ok.2⟩
  clear b13 d13 bd0 ok0 bd bv
  intro H14 bv bd b14 d14 bd0 ok0
  refine ⟨_, rfl, s, i, 5, rfl, b14.S, by decide, by decide, fun r15 H15 z0 z1 x15 S15 => ⟨_, rfl, by omega, by omega, ?_⟩⟩
  have b15 := b14.ext x15 S15
  have d15 := KeepL.dp (b14.S.keepL x15) d14
  refine for_range (lo := 0) (n := r15.toNat) (fun j σ2 H2 => Bd K T0 s i D ls gv (.tuple gds) H2 ∧ ∃ o2 bv o6 o7 bd, σ2 = [some (.ref a), some (.ref s), o2, some (.ref D), some gv, some bv, o6, o7, none] ∧ Dp K H2 bv bd ∧ Bad ls bd ∧ OkN (30 + 4 * j) bd)
    ⟨b15, _, _, _, _, bd, rfl, d15, bd0, ok0⟩ ?_ ?_
  · clear d15 b15 b14 d14 bd0 ok0
    rintro j σ2 H2 hj ⟨b2, o2, bv, o6, o7, bd, rfl, dB, badB, okB⟩
    have j4 : j < 4 := by omega
    dsimp only [gName]
    refine ⟨_, rfl, s, i, 4, rfl, b2.S, by decide, by decide, fun r H3 r0' r4 x3 S3 => ?_⟩
    have b3 := b2.ext x3 S3
    have dB3 := KeepL.dp (b2.S.keepL x3) dB
    dsimp only [gName]
    refine ⟨_, rfl, (by show 2 ≤ sizeLine; decide), fun q1 h1 => ⟨_, rfl, (by show 2 ≤ sizeLine; decide), fun q2 h2 => ?_⟩⟩
    have u1 := same_new h1 (.tup [.str "row", bv])
    have u2 := same_new h2 (.tup [.str "book", bv])
    have b4 := b3.same (Same.trans u1 u2)
    refine ⟨_, rfl, s, i, 5, rfl, b4.S, by decide, fun H4 e4 => ⟨_, rfl, (by show 2 ≤ sizeLine; decide), fun q3 h3 => ⟨(by show 1 ≤ sizeLine; decide), fun q4 h4 => ⟨(by show 2 ≤ sizeLine; decide), fun q5 h5 => ⟨_, rfl, (by show 2 ≤ sizeLine; decide), fun q6 h6 => ⟨(by show 4 ≤ sizeLine; decide), fun q7 h7 => ?_⟩⟩⟩⟩⟩⟩
    obtain ⟨_, _, _, _, _, iok2, _⟩ := id b4.S
    have wz := word_of iok2 (k := 5) (by decide)
    generalize wordOf i 5 = z at wz h3 h4 h5 h6 h7 ⊢
    have u3 := same_new h3 (.tup [.str z, bv])
    have u4 := same_new h4 (.tup [.ref q3])
    have u5 := same_new h5 (.tup [.str "shape", .ref q4])
    have u6 := same_new h6 (.tup [.str "row", bv])
    have u7 := same_new h7 (.lst [.ref q1, .ref q2, .ref q5, .ref q6])
    have u57 := Same.trans u5 (Same.trans u6 u7)
    have u37 := Same.trans u3 (Same.trans u4 u57)
    have u27 := Same.trans e4 u37
    have u17 := Same.trans u2 u27
    have uAll := Same.trans u1 u17
    have b7 := b3.same uAll
    have dB7 := KeepL.dp (Same.keepL uAll) dB3
    have f1 := Dp.tup (K := K) (SqT.of (u17 _ _ upd_same)) (.cons (.str "row") (.cons dB7 .nil))
    have f2 := Dp.tup (K := K) (SqT.of (u27 _ _ upd_same)) (.cons (.str "book") (.cons dB7 .nil))
    have f3 := Dp.tup (K := K) (SqT.of ((Same.trans u4 u57) _ _ upd_same)) (.cons (.str z) (.cons dB7 .nil))
    have f5 := Dp.tup (K := K) (SqT.of ((Same.trans u6 u7) _ _ upd_same)) (.cons (.str "shape") (.cons (.tup (SqT.of (u57 _ _ upd_same)) (.cons f3 .nil)) .nil))
    have f6 := Dp.tup (K := K) (SqT.of (u7 _ _ upd_same)) (.cons (.str "row") (.cons dB7 .nil))
    have all := DpAll.cons f1 (.cons f2 (.cons f5 (.cons f6 .nil)))
    obtain ⟨cv, hcv⟩ : ∃ cv, ([.ref q1, .ref q2, .ref q5, .ref q6] : List V)[r.toNat]? = some cv := ⟨_, List.getElem?_eq_getElem (by show r.toNat < 4; omega)⟩
    obtain ⟨cd, hcd, dC⟩ := DpAll.get all hcv
    have okw : OkN (30 + 4 * j) (.str z) := (okN_word wz).mono (by omega)
    have ok2 : ∀ w : Str, OkN 0 (.str w) → OkN (33 + 4 * j) (.tuple [.str w, bd]) := fun w h => (okN_two (h.mono (Nat.zero_le _)) okB).mono (by omega)
    have P : (∀ n, n ≤ 9 → gCh ls (gK ls n) cd = false) ∧ OkN (33 + 4 * j) cd := by
      have m := List.mem_of_getElem? hcd
      simp only [List.mem_cons, List.not_mem_nil, or_false] at m
      rcases m with rfl | rfl | rfl | rfl
      · exact ⟨ch_row badB, ok2 _ (okN_w (by decide +kernel))⟩
      · exact ⟨ch_book badB, ok2 _ (okN_w (by decide +kernel))⟩
      · exact ⟨ch_shape z badB, (okN_two (n := 30 + 4 * j + 2) (okN_w (by decide +kernel)) (okN_tup (by show 1 ≤ 60; decide) fun x hx => by rw [List.mem_singleton.mp hx]; exact okN_two okw okB)).mono (by omega)⟩
      · exact ⟨ch_row badB, ok2 _ (okN_w (by decide +kernel))⟩
    obtain ⟨hch, okc⟩ := P
    refine ⟨_, rfl, q7, _, r, cv, rfl, rfl, SqL.of upd_same, by rw [show r = ((r.toNat : Nat) : Int) by omega]; exact atI_nat hcv, ?_⟩
    generalize upd _ q7 (.lst [.ref q1, .ref q2, .ref q5, .ref q6]) = H8 at b7 dC ⊢
    clear all f1 f2 f3 f5 f6 dB7 uAll u17 u27 u37 u57 u1 u2 u3 u4 u5 u6 u7 b4 b3 dB3 b2 dB hcd hcv
    dsimp only [gName]
    obtain ⟨bS, bT, bL, bG⟩ := id b7
    cases bG with
    | tup hgs hga =>
    rename_i ga gvs
    have gvl := DpAll.len hga
    refine ⟨_, rfl, (by show 1 ≤ sizeLine; decide), fun q1 h1 => ⟨(by show 1 ≤ sizeLine; decide), fun q2 h2 => ⟨_, rfl, (by show 2 ≤ sizeLine; decide), fun q3 h3 => ⟨_, rfl, (by show 1 ≤ sizeLine; decide), fun q4 h4 => ⟨(by show 2 ≤ sizeLine; decide), fun q5 h5 => ?_⟩⟩⟩⟩⟩
    have u1 := same_new h1 (.tup [cv])
    have u2 := same_new h2 (.tup [.str "number"])
    have u3 := same_new h3 (.tup [.ref q2, cv])
    have u4 := same_new h4 (.tup [.str "text"])
    have u5 := same_new h5 (.tup [cv, .ref q4])
    have u15 := Same.trans u1 (Same.trans u2 (Same.trans u3 (Same.trans u4 u5)))
    refine ⟨_, rfl, _, rfl, (by show 1 ≤ sizeLine; decide), fun q6 h6 => ⟨ga, q6, gvs, [cv], rfl, rfl, Same.tup (same_new h6 _) (Same.tup u15 hgs), SqT.of upd_same, ?_, ?_, (fun z => by cases z), fun _ q7 h7 => ⟨(by show 4 ≤ sizeLine; decide), fun q8 h8 => ?_⟩⟩⟩
    · intro z
      rw [z] at gvl
      exact g0 (List.length_eq_zero_iff.mp gvl.symm)
    · rw [gvl]
      exact sizeOk (Nat.le_trans (Nat.add_le_add_right gl _) (by show 3 + 1 ≤ _; decide))
    have u6 := same_new h6 (.tup [cv])
    have u7 := same_new h7 (.tup (gvs ++ [cv]))
    have u8 := same_new h8 (.lst [.ref q1, .ref q3, .ref q5, .ref q7])
    have u58 := Same.trans u6 (Same.trans u7 u8)
    have u48 := Same.trans u5 u58
    have u38 := Same.trans u4 u48
    have u28 := Same.trans u3 u38
    have uAll := Same.trans u15 u58
    have b8 := b7.same uAll
    have dC8 := KeepL.dp (Same.keepL uAll) dC
    have hga8 := KeepL.dps (Same.keepL uAll) hga
    have f1 := Dp.tup (K := K) (SqT.of ((Same.trans u2 u28) _ _ upd_same)) (.cons dC8 .nil)
    have f3 := Dp.tup (K := K) (SqT.of (u38 _ _ upd_same)) (.cons (.tup (SqT.of (u28 _ _ upd_same)) (.cons (.str "number") .nil)) (.cons dC8 .nil))
    have f5 := Dp.tup (K := K) (SqT.of (u58 _ _ upd_same)) (.cons dC8 (.cons (.tup (SqT.of (u48 _ _ upd_same)) (.cons (.str "text") .nil)) .nil))
    have f7 := Dp.tup (K := K) (SqT.of (u8 _ _ upd_same)) (DpAll.app hga8 (.cons dC8 .nil))
    have all := DpAll.cons f1 (.cons f3 (.cons f5 (.cons f7 .nil)))
    refine ⟨_, rfl, s, i, 4, rfl, b8.S, by decide, by decide, fun r' H9 z0' z1' x9 S9 => ?_⟩
    obtain ⟨nv, hnv⟩ : ∃ nv, ([.ref q1, .ref q3, .ref q5, .ref q7] : List V)[r'.toNat]? = some nv := ⟨_, List.getElem?_eq_getElem (by show r'.toNat < 4; omega)⟩
    obtain ⟨nd, hnd, dN⟩ := DpAll.get all hnv
    refine ⟨q8, _, r', nv, rfl, rfl, b8.S.seq x9 (SqL.of upd_same), by rw [show r' = ((r'.toNat : Nat) : Int) by omega]; exact atI_nat hnv, ?_⟩
    have P : Bad ls nd ∧ OkN (30 + 4 * (j + 1)) nd := by
      have m := List.mem_of_getElem? hnd
      simp only [List.mem_cons, List.not_mem_nil, or_false] at m
      have one : ∀ w : Str, (PyData.canLay0 (.str w) && sm (.str w)) = true → OkN (33 + 4 * j) (.tuple [.str w]) := fun w h => (okN_one (n := 0) h).mono (by omega)
      have two : ∀ x y, OkN (33 + 4 * j) x → OkN (33 + 4 * j) y → OkN (30 + 4 * (j + 1)) (.tuple [x, y]) := fun x y hx hy => (okN_tup (n := 33 + 4 * j) (by show 2 ≤ 60; decide) fun w hw => by
        rcases List.mem_cons.mp hw with e | e
        · rw [e]; exact hx
        · rw [List.mem_singleton.mp e]; exact hy).mono (by omega)
      rcases m with rfl | rfl | rfl | rfl
      · exact ⟨bad_in List.mem_cons_self hch, (okN_tup (n := 33 + 4 * j) (by show 1 ≤ 60; decide) fun w hw => by rw [List.mem_singleton.mp hw]; exact okc).mono (by omega)⟩
      · exact ⟨bad_in (List.mem_cons_of_mem _ List.mem_cons_self) hch, two _ _ (one _ (by decide +kernel)) okc⟩
      · exact ⟨bad_in List.mem_cons_self hch, two _ _ okc (one _ (by decide +kernel))⟩
      · refine ⟨bad_in (List.mem_append.mpr (.inr List.mem_cons_self)) hch, (okN_tup (n := 33 + 4 * j) (by rw [List.length_append]; show gds.length + 1 ≤ 60; omega) fun w hw => ?_).mono (by omega)⟩
        rcases List.mem_append.mp hw with e | e
        · exact (okN_of_tup okg w e).mono (by omega)
        · rw [List.mem_singleton.mp e]; exact okc
    exact ⟨b8.ext x9 S9, _, nv, _, _, nd, rfl, KeepL.dp (b8.S.keepL x9) dN, P.1, P.2⟩
  · rintro σ2 H2 ⟨b2, o2, bv, o6, o7, bd, rfl, dB, badB, okB⟩
    clear d15 b15 b14 d14 bd0 ok0
    have okB' : OkN 46 bd := okB.mono (by omega)
    dsimp only [gName]
    refine ⟨(by show 1 ≤ sizeLine; decide), fun q1 h1 => ⟨(by show 2 ≤ sizeLine; decide), fun q2 h2 => ⟨(by show 2 ≤ sizeLine; decide), fun q3 h3 => ⟨(by show 2 ≤ sizeLine; decide), fun q4 h4 => ⟨(by show 1 ≤ sizeLine; decide), fun q5 h5 => ?_⟩⟩⟩⟩⟩
    have u1 := same_new h1 (.tup [.str "text"])
    have u2 := same_new h2 (.tup [.str "letter", .str "A"])
    have u3 := same_new h3 (.tup [.ref q1, .ref q2])
    have u4 := same_new h4 (.tup [.str "row", .ref q3])
    have u5 := same_new h5 (.tup [.ref q4])
    have b3 := b2.same (Same.trans u1 (Same.trans u2 (Same.trans u3 (Same.trans u4 u5))))
    have dB3 := KeepL.dp (Same.keepL (Same.trans u1 (Same.trans u2 (Same.trans u3 (Same.trans u4 u5))))) dB
    have dS := Dp.tup (K := K) (SqT.of upd_same : SqT K (upd _ q5 (.tup [.ref q4])) q5 [.ref q4]) (.cons (.tup (SqT.of (u5 _ _ upd_same)) (.cons (.str "row") (.cons (.tup (SqT.of (u5 _ _ (u4 _ _ upd_same))) (.cons (.tup (SqT.of (u5 _ _ (u4 _ _ (u3 _ _ (u2 _ _ upd_same))))) (.cons (.str "text") .nil))
      (.cons (.tup (SqT.of (u5 _ _ (u4 _ _ (u3 _ _ upd_same)))) (.cons (.str "letter") (.cons (.str "A") .nil))) .nil))) .nil))) .nil)
    generalize upd _ q5 (.tup [.ref q4]) = H3 at b3 dB3 dS ⊢
    clear u1 u2 u3 u4 u5 b2 dB
    dsimp only [gName]
    refine ⟨_, rfl, (by show 0 ≤ sizeLine; decide), fun p1 hp1 => ⟨[], .ref q5, strD, p1, rfl, KeepL.dp (Same.keepL (same_new hp1 _)) dS, strange_ok, (b3.same (same_new hp1 _)).tb, SqT.of upd_same, fun H4 f4 => ?_⟩⟩
    have b4 := (b3.same (same_new hp1 (.tup []))).fr f4
    have k4 := (Same.keepL (K := K) (same_new hp1 (.tup []))).trans (Fr.keep (b3.same (same_new hp1 (.tup []))).tb f4)
    refine ⟨_, _, rfl, rfl, _, rfl, ite2 (fun e => absurd e (by simp [strange0])) (fun _ => ?_)⟩
    refine ⟨_, rfl, (by show 1 ≤ sizeLine; decide), fun p2 hp2 => ⟨["A"], .ref q5, strD, p2, rfl, KeepL.dp (Same.keepL (same_new hp2 _)) (KeepL.dp k4 dS), strange_ok, (b4.same (same_new hp2 _)).tb, SqT.of upd_same, fun H5 f5 => ?_⟩⟩
    have b5 := (b4.same (same_new hp2 (.tup [.str "A"]))).fr f5
    have k5 := k4.trans ((Same.keepL (K := K) (same_new hp2 (.tup [.str "A"]))).trans (Fr.keep (b4.same (same_new hp2 (.tup [.str "A"]))).tb f5))
    refine ⟨_, _, rfl, rfl, _, rfl, ite2 (fun e => absurd e (by simp [strange1])) (fun _ => ?_)⟩
    refine ⟨_, rfl, _, rfl, D, _, rfl, .inl ⟨b5.hl, fun p3 hp3 => ?_⟩⟩
    have b6 := b5.same (same_new hp3 (.tup (ls.map V.str)))
    refine ⟨ls, bv, bd, p3, rfl, KeepL.dp (Same.keepL (same_new hp3 _)) (KeepL.dp k5 dB3), okB'.ok (by decide), b6.tb, SqT.of upd_same, fun H7 f7 => ?_⟩
    refine ⟨_, _, rfl, rfl, ?_⟩
    show Q (.bl (decide ((!gK ls 9 bd) = true))) H7
    rw [badB 9 (by decide)]
    exact q H7
end
end Sc
namespace Sc
open PySem PySem.Spec PyProof.Rows L2
theorem walkT {l : PySem.W.OpenLaw} {q : Program} {loose : List Str} {XP : (Str → Option Value) → Heap → Prop} {YP : World → Heap → Prop} {d : DefRec} {K : Params → PySem.W.Frag} (hn : l.most = some 63) (hdf : d.params.defaults = [])
    (hY : ∀ (w : World) (h : Heap), YP w h → (K w.params).In h)
    (F : ∀ (w : World) (mg mb : Str → Option Value) (lo : List Str) (mean : ExcName → Option Value) (fa : Addr) (h : Heap), (K w.params).In h → Top q lo mean mg mb h → mg d.name = some (.ref fa) → LamX.LawAtS l w (K w.params) CX0 33 63 "_law_script" mg fa h) :
    PySem.W.WalkO q loose XP YP l.row.toRowW d [] (fun f vs => PySem.call f vs) := by
  refine Att.attach_callB hn hdf fun w s₀ s₁ mg mb fa o pm cd doc a vs ns G Y ho hd hcd hmg hobj hints hlen hbits hg => ?_
  have KX := hY w _ Y
  obtain ⟨fd, cs, sp, hT, nT, C, hb, hsp, hF⟩ := F w mg mb _ _ fa _ KX G.T hmg
  exact LamX.law_callTs KX G.T.g G.T.b G.T.builtins G.T.nolimit hg hT nT C G.T.bmain hobj hints (Nat.le_trans hlen (by decide)) ⟨rfl, by decide, by decide⟩ hF hb (fun H hH hS => hsp H a ns hlen hbits hH hS) fun H e s' => fun z => z
theorem law_endT {l : PySem.W.OpenLaw} {w : World} {K : PySem.W.Frag} {h : Heap} {q : Program} {lo : List Str} {mean : ExcName → Option Value} {mg mb : Str → Option Value} {fa f c1 P1 c2 P2 CS CB CP : Addr} (X : K.In h) (TT : Top q lo mean mg mb h) (hfa : mg "law" = some (.ref fa)) (T : Tx K mg)
    (D1 : DefT K mg "has_word_signs" sHasWordSigns ["text"] c1) (D2 : DefT K mg "is_letter" sIsLetter ["thing"] c2) (t1 : PySem.W.tabIn K "has_word_signs" = some (c1, P1)) (t2 : PySem.W.tabIn K "is_letter" = some (c2, P2))
    (r1 : ((recsOf q).find? (fun e => e.name == ("has_word_signs" : Str))).isSome = true) (r2 : ((recsOf q).find? (fun e => e.name == ("is_letter" : Str))).isSome = true) (n1 : K.lookup P1 = none) (n2 : K.lookup P2 = none)
    (R : Er K mg CS CB CP) (g8 : ∃ t, mg "LONGEST_WORD" = some (.int 8 t)) (d8 : ∃ t, mg "DEEPEST_KIND" = some (.int 8 t)) {oc : Value} {od an : Option Addr} {osl : Array (Option Value)} {kV doc pm cdv ct : Value}
    (a : PySem.W.nsIn K mainGlobals "law" = some (some (.ref f))) (lk : K.lookup f = some ⟨oc, od, .func (PySem.W.fnOf "law" "law" (defArgs sLaw) (defBody sLaw) (defScope sLaw) .none kV doc pm an cdv ct), osl⟩) (c : PySem.W.codeIn K cdv "law" = true) (k : PySem.W.keepIn K (.ref f) = true) :
    LamX.LawAtS l w K CX0 33 63 "_law_script" mg fa h := by
  have e := hfa.symm.trans (PySem.W.mg_of X TT.g a)
  cases e
  obtain ⟨d1, f1⟩ := Option.isSome_iff_exists.mp r1
  obtain ⟨d2, f2⟩ := Option.isSome_iff_exists.mp r2
  obtain ⟨h1, g1⟩ := PySem.W.tab_of TT X f1 t1
  obtain ⟨h2, g2⟩ := PySem.W.tab_of TT X f2 t2
  refine ⟨PySem.W.fnOf "law" "law" (defArgs sLaw) (defBody sLaw) (defScope sLaw) .none kV doc pm an cdv ct, [(c1, P1), (c2, P2)], spLaw K [P1, P2], ?_, ?_, ?_, fun s v => .of_eq rfl, ?_, ?_⟩
  · intro p hp
    rcases List.mem_cons.mp hp with z | z
    · rw [z]; exact g1
    · rw [List.mem_singleton.mp z]; exact g2
  · intro p hp
    rcases List.mem_cons.mp hp with z | z
    · rw [z]; exact n1
    · rw [List.mem_singleton.mp z]; exact n2
  · intro p hp
    rcases List.mem_cons.mp hp with z | z
    · rw [z]; exact h1
    · rw [List.mem_singleton.mp z]; exact h2
  · intro H a ns hl _ ht hS
    refine ⟨a, ns, rfl, hS, hl, fun P hP => ?_, fun _ => rfl⟩
    rcases List.mem_cons.mp hP with z | z
    · exact ⟨#[], by rw [z]; exact ht (c1, P1) List.mem_cons_self, True.intro⟩
    · exact ⟨#[], by rw [List.mem_singleton.mp z]; exact ht (c2, P2) (List.mem_cons_of_mem _ List.mem_cons_self), True.intro⟩
  · intro base KX G TB
    have T1 := TB (c1, P1) List.mem_cons_self
    have T2 := TB (c2, P2) (List.mem_cons_of_mem _ List.mem_cons_self)
    have CW := c_is_word (P := l.prog) (w := w) (base := base) (T0 := [P1, P2]) T (c_word_signs (P := l.prog) (w := w) (base := base) (T0 := [P1, P2]) T D1 ⟨T1.code, T1.bm, T1.gP⟩ List.mem_cons_self) g8
    have CI := c_is_letter (P := l.prog) (w := w) (base := base) (T0 := [P1, P2]) T D2 ⟨T2.code, T2.bm, T2.gP⟩ (List.mem_cons_of_mem _ List.mem_cons_self) g8
    have CF := c_are_fields (P := l.prog) (w := w) (base := base) (T0 := [P1, P2]) T
    have CL := c_need_letter T R.b CI g8
    have CK := c_withins T R.b g8 d8 CW CF CL 9
    have CN := c_need_kind T d8 CK
    exact ok_law (fun_mk (st := sLaw) lk c k) T CN (c_refused T R CN)
end Sc
namespace Sc
open PySem PyProof.Rows L2
/-! ### what the top has written -/
theorem Def.of {K : PySem.W.Frag} {h : Heap} {mg : Str → Option Value} (X : K.In h) (G : h.Ns mainGlobals mg) {x : Str} {st : Stmt} {ps : List Str} {f : Addr} {oc : Value} {od an : Option Addr} {osl : Array (Option Value)} {kV doc pm cdv ct : Value}
    (a : PySem.W.nsIn K mainGlobals x = some (some (.ref f))) (l : K.lookup f = some ⟨oc, od, .func (PySem.W.fnOf x x (defArgs st) (defBody st) (defScope st) .none kV doc pm an cdv ct), osl⟩) (c : PySem.W.codeIn K cdv x = true) (k : PySem.W.keepIn K (.ref f) = true)
    (b : ∀ (kV doc pm : Value) (an : Option Addr) (cdv ct : Value) (us : List Value), us.length = ps.length → bindArgs (PySem.W.fnOf x x (defArgs st) (defBody st) (defScope st) .none kV doc pm an cdv ct) ⟨us, []⟩ = pure (ps.zip us)) : Def K mg x st ps :=
  have F := fun_mk (st := st) l c k
  ⟨⟨f, _, F, PySem.W.mg_of X G a, F.binds b⟩⟩
theorem eight_of {K : PySem.W.Frag} {h : Heap} {mg : Str → Option Value} (X : K.In h) (G : h.Ns mainGlobals mg) {x : Str} {t : Tok} (a : PySem.W.nsIn K mainGlobals x = some (some (.int 8 t))) : ∃ t, mg x = some (.int 8 t) := ⟨t, PySem.W.mg_of X G a⟩
theorem tabIn_of {K : PySem.W.Frag} {x : Str} {f c P : Addr} {oc o1 : Value} {od o2 : Option Addr} {osl o3 : Array (Option Value)} {fd : FuncData} {vs : Array Value} (a : PySem.W.nsIn K mainGlobals x = some (some (.ref f))) (l : K.lookup f = some ⟨oc, od, .func fd, osl⟩) (hc : fd.code = .ref c)
    (lc : K.lookup c = some ⟨o1, o2, .fields vs, o3⟩) (hv : (vs[11]? : Option Value) = some (.ref P)) : PySem.W.tabIn K x = some (c, P) := by
  unfold PySem.W.tabIn
  rw [a]
  dsimp only
  rw [l]
  dsimp only
  rw [hc]
  dsimp only
  rw [lc]
  dsimp only
  rw [hv]
end Sc
open PySem PySem.W PyProof.Rows
set_option maxRecDepth 100000 in
set_option maxHeartbeats 0 in
theorem PySem.Challenge.cw_soothcheck_k10_kinds_that_are_none_holds : PySem.Challenge.rw_soothcheck_k10_kinds_that_are_none.Holds := by
  w_on; o_law; k_head; (case hw => w_witness2)
  k_fill
  refine Sc.walkT (l := PySem.Challenge.rw_soothcheck_k10_kinds_that_are_none) rfl rfl (fun w h Y => PySem.W.kIn_of Y) ?F
  case F =>
    intro w mg mb lo mean fa h KX TT hmg
    have G := TT.g
    refine' Sc.law_endT KX TT hmg ⟨Sc.Def.of KX G ?a0 ?l0 ?c0 ?k0 ?b0, Sc.Def.of KX G ?a1 ?l1 ?c1 ?k1 ?b1, Sc.Def.of KX G ?a2 ?l2 ?c2 ?k2 ?b2, Sc.Def.of KX G ?a3 ?l3 ?c3 ?k3 ?b3, Sc.Def.of KX G ?a4 ?l4 ?c4 ?k4 ?b4, Sc.Def.of KX G ?a5 ?l5 ?c5 ?k5 ?b5, 
      Sc.Def.of KX G ?a6 ?l6 ?c6 ?k6 ?b6, Sc.Def.of KX G ?a7 ?l7 ?c7 ?k7 ?b7, Sc.Def.of KX G ?a8 ?l8 ?c8 ?k8 ?b8, Sc.Def.of KX G ?a9 ?l9 ?c9 ?k9 ?b9, Sc.Def.of KX G ?a10 ?l10 ?c10 ?k10 ?b10, 
      Sc.Def.of KX G ?a11 ?l11 ?c11 ?k11 ?b11, Sc.Def.of KX G ?a12 ?l12 ?c12 ?k12 ?b12, Sc.Def.of KX G ?a13 ?l13 ?c13 ?k13 ?b13, Sc.Def.of KX G ?a14 ?l14 ?c14 ?k14 ?b14, Sc.Def.of KX G ?a15 ?l15 ?c15 ?k15 ?b15, 
      Sc.Def.of KX G ?a16 ?l16 ?c16 ?k16 ?b16, Sc.Def.of KX G ?a17 ?l17 ?c17 ?k17 ?b17, Sc.Def.of KX G ?a18 ?l18 ?c18 ?k18 ?b18, PySem.W.mg_none_of KX G ?z0, PySem.W.mg_none_of KX G ?z1, 
      PySem.W.mg_none_of KX G ?z2, PySem.W.mg_none_of KX G ?z3, PySem.W.mg_none_of KX G ?z4, PySem.W.mg_none_of KX G ?z5, PySem.W.mg_none_of KX G ?z6, PySem.W.mg_none_of KX G ?z7, PySem.W.mg_none_of KX G ?z8, 
      PySem.W.mg_none_of KX G ?z9, PySem.W.mg_none_of KX G ?z10, PySem.W.mg_none_of KX G ?z11⟩
      (Sc.DefT.of KX G ?da ?dl ?dc ?dk ?db) (Sc.DefT.of KX G ?ea ?el ?ec ?ek ?eb) (Sc.tabIn_of ?ta ?tl ?tk ?tc ?tv) (Sc.tabIn_of ?ua ?ul ?uk ?uc ?uv) ?r1 ?r2 ?n1 ?n2
      ⟨⟨PySem.W.mg_of KX G ?g1, ?g2, ?g3, ?g4, ?g5⟩, PySem.W.mg_of KX G ?g6, PySem.W.mg_of KX G ?g7, PySem.W.exm_ref ?h1 ?h2 ?h3 ?h4, ⟨?x1, ?x2, ?x3, ?x4, ?x5, ?x6, ?x7, ?x8⟩, ?y1, ?y2, ?y3⟩ (Sc.eight_of KX G ?v1) (Sc.eight_of KX G ?v2) ?a ?l ?c ?k
    (case db => exact fun _ _ _ _ _ _ us hl => match us, hl with | [_], _ => rfl)
    (case eb => exact fun _ _ _ _ _ _ us hl => match us, hl with | [_], _ => rfl)
    (case da => k_is); (case dl => k_is); (case dc => k_is); (case dk => k_is)
    (case ea => k_is); (case el => k_is); (case ec => k_is); (case ek => k_is)
    (case ta => k_is); (case tl => k_is); (case tk => exact rfl); (case tc => k_is); (case tv => exact rfl); (case ua => k_is); (case ul => k_is); (case uk => exact rfl); (case uc => k_is); (case uv => exact rfl); (case n1 => first | kernel_rfl | exact rfl); (case n2 => first | kernel_rfl | exact rfl)
    (case r1 => decide +kernel); (case r2 => decide +kernel)
    (case g1 => k_is); (case g2 => k_exc); (case g3 => k_is); (case g4 => k_is); (case g5 => k_is); (case g6 => k_is); (case g7 => k_is); (case h1 => k_is); (case h2 => k_is); (case h3 => k_is); (case h4 => k_is)
    (case x1 => k_is); (case x2 => k_is); (case x3 => k_is); (case x4 => k_is); (case x5 => k_is); (case x6 => k_is); (case x7 => k_is); (case x8 => k_is)
    (case y1 => kit_is); (case y2 => kit_is); (case y3 => kit_is); (case v1 => k_is); (case v2 => k_is)
    (case b0 => exact fun _ _ _ _ _ _ us hl => match us, hl with | [_, _], _ => rfl)
    (case b1 => exact fun _ _ _ _ _ _ us hl => match us, hl with | [_, _, _], _ => rfl)
    (case b2 => exact fun _ _ _ _ _ _ us hl => match us, hl with | [_, _, _], _ => rfl)
    (case b3 => exact fun _ _ _ _ _ _ us hl => match us, hl with | [_, _, _], _ => rfl)
    (case b4 => exact fun _ _ _ _ _ _ us hl => match us, hl with | [_, _], _ => rfl)
    (case b5 => exact fun _ _ _ _ _ _ us hl => match us, hl with | [_], _ => rfl)
    (case b6 => exact fun _ _ _ _ _ _ us hl => match us, hl with | [_], _ => rfl)
    (case b7 => exact fun _ _ _ _ _ _ us hl => match us, hl with | [_], _ => rfl)
    (case b8 => exact fun _ _ _ _ _ _ us hl => match us, hl with | [_], _ => rfl)
    (case b9 => exact fun _ _ _ _ _ _ us hl => match us, hl with | [_], _ => rfl)
    (case b10 => exact fun _ _ _ _ _ _ us hl => match us, hl with | [_], _ => rfl)
    (case b11 => exact fun _ _ _ _ _ _ us hl => match us, hl with | [_, _], _ => rfl)
    (case b12 => exact fun _ _ _ _ _ _ us hl => match us, hl with | [_, _], _ => rfl)
    (case b13 => exact fun _ _ _ _ _ _ us hl => match us, hl with | [_, _, _], _ => rfl)
    (case b14 => exact fun _ _ _ _ _ _ us hl => match us, hl with | [_, _, _], _ => rfl)
    (case b15 => exact fun _ _ _ _ _ _ us hl => match us, hl with | [_, _, _], _ => rfl)
    (case b16 => exact fun _ _ _ _ _ _ us hl => match us, hl with | [_, _], _ => rfl)
    (case b17 => exact fun _ _ _ _ _ _ us hl => match us, hl with | [_, _], _ => rfl)
    (case b18 => exact fun _ _ _ _ _ _ us hl => match us, hl with | [_, _], _ => rfl)
    (case a0 => k_is); (case l0 => k_is); (case c0 => k_is); (case k0 => k_is)
    (case a1 => k_is); (case l1 => k_is); (case c1 => k_is); (case k1 => k_is)
    (case a2 => k_is); (case l2 => k_is); (case c2 => k_is); (case k2 => k_is)
    (case a3 => k_is); (case l3 => k_is); (case c3 => k_is); (case k3 => k_is)
    (case a4 => k_is); (case l4 => k_is); (case c4 => k_is); (case k4 => k_is)
    (case a5 => k_is); (case l5 => k_is); (case c5 => k_is); (case k5 => k_is)
    (case a6 => k_is); (case l6 => k_is); (case c6 => k_is); (case k6 => k_is)
    (case a7 => k_is); (case l7 => k_is); (case c7 => k_is); (case k7 => k_is)
    (case a8 => k_is); (case l8 => k_is); (case c8 => k_is); (case k8 => k_is)
    (case a9 => k_is); (case l9 => k_is); (case c9 => k_is); (case k9 => k_is)
    (case a10 => k_is); (case l10 => k_is); (case c10 => k_is); (case k10 => k_is)
    (case a11 => k_is); (case l11 => k_is); (case c11 => k_is); (case k11 => k_is)
    (case a12 => k_is); (case l12 => k_is); (case c12 => k_is); (case k12 => k_is)
    (case a13 => k_is); (case l13 => k_is); (case c13 => k_is); (case k13 => k_is)
    (case a14 => k_is); (case l14 => k_is); (case c14 => k_is); (case k14 => k_is)
    (case a15 => k_is); (case l15 => k_is); (case c15 => k_is); (case k15 => k_is)
    (case a16 => k_is); (case l16 => k_is); (case c16 => k_is); (case k16 => k_is)
    (case a17 => k_is); (case l17 => k_is); (case c17 => k_is); (case k17 => k_is)
    (case a18 => k_is); (case l18 => k_is); (case c18 => k_is); (case k18 => k_is)
    (case z0 => k_is)
    (case z1 => k_is)
    (case z2 => k_is)
    (case z3 => k_is)
    (case z4 => k_is)
    (case z5 => k_is)
    (case z6 => k_is)
    (case z7 => k_is)
    (case z8 => k_is)
    (case z9 => k_is)
    (case z10 => k_is)
    (case z11 => k_is)
    (case a => k_is); (case l => k_is); (case c => k_is); (case k => k_is)
