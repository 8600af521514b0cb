import PyProof.Rows.All
import Wide.All
import OpenK.AllK
import Wide.FinOn
import HandS.ForMost
import HandS.Set
import HandS.SetFor
import HandS.More
import HandS.Wide
import HandS.IsInst
import HandS.WordsDict
import HandS.FStr
import HandS.TupAny
import HandS.AnyAll
import HandS.ForExc
import HandS.WordsExc
import HandS.ExcIs
import HandS.RaiseMore
import HandS.ExcOwn
import PyProof.ExcBaseAll.ValueError
import KE.SortKeyHeap
import HandS.Lambda
import PyProof.Rows.CallKwBuiltin
import HandS.WordsList
import HandS.Deep
import HandS.DictComp
import PySem.Challenge.RW_soothcheck_k11_what_fits_without_shapes
set_option Elab.async false
set_option linter.all false
set_option maxRecDepth 100000
set_option maxHeartbeats 4000000
namespace Sc
open PySem PySem.Spec PyProof.Rows L2
/-! sets of texts: set(a list of texts), sorted of that -/
def txOf (c : Int × Value) : Str := match c.2 with | .str x _ => x | _ => Str.empty
def TxE (w : World) (c : Int × Value) : Prop := ∃ x tk, c.2 = Value.str x tk ∧ c.1 = hashStr w x
/-- a set of texts stands at a: which, how many; it can be walked -/
def TxSet (w : World) (h : Heap) (a : Addr) (S : Str → Bool) (n : Nat) : Prop :=
  ∃ ob cs ver tb, h.get? a = some ob ∧ ob.ExactSet ∧ ob.data = .set cs ver tb ∧ (∀ c ∈ cs.toList, TxE w c) ∧ (cs.toList.map txOf).Nodup ∧
    (∀ x, S x = true ↔ x ∈ cs.toList.map txOf) ∧ cs.size < scanBound ∧ tb.fits cs.size = true ∧ cs.size = n ∧ Ris tb.place.toList ∧
    (w.params.followText "set-order" = true ∨ tb.led = true)
section
variable {P : Program} {w : World} {h h' : Heap} {a : Addr} {S : Str → Bool} {n : Nat}
theorem TxSet.keep (R : TxSet w h a S n) (kp : ∀ ob, h.get? a = some ob → h'.get? a = some ob) : TxSet w h' a S n := by
  obtain ⟨ob, cs, ver, tb, hob, more⟩ := R
  exact ⟨ob, cs, ver, tb, kp ob hob, more⟩
theorem TxSet.say {S' : Str → Bool} (R : TxSet w h a S n) (same : ∀ x, S' x = S x) : TxSet w h a S' n := (funext same : S' = S) ▸ R
theorem tx_elems {l : List (Int × Value)} (g : ∀ c ∈ l, TxE w c) : ElemsOf (strKind P w) l := fun c hc => by
  obtain ⟨x, tk, h1, h2⟩ := g c hc
  refine ⟨⟨x, ?_, h2⟩, by rw [h1] <;> rfl⟩
  rw [h1]
  show Value.isStrOf x (.str x tk) = true
  simp [Value.isStrOf]
theorem tx_is {c : Int × Value} (g : TxE w c) (x : Str) : (strKind P w).is x c.2 = true ↔ txOf c = x := by
  obtain ⟨y, tk, h1, _⟩ := g
  unfold txOf
  rw [h1]
  show Value.isStrOf x (.str y tk) = true ↔ y = x
  constructor
  · intro q
    obtain ⟨t, e⟩ := Value.isStrOf_shape (x := x) (v := Value.str y tk) q
    injection e
  · rintro rfl
    simp [Value.isStrOf]
theorem tx_mem {l : List (Int × Value)} (g : ∀ c ∈ l, TxE w c) (x : Str) : x ∈ l.map txOf ↔ ∃ c ∈ l, (strKind P w).is x c.2 = true := by
  refine List.mem_map.trans ⟨fun ⟨c, hc, q⟩ => ⟨c, hc, (tx_is (g c hc) x).2 q⟩, fun ⟨c, hc, q⟩ => ⟨c, hc, (tx_is (g c hc) x).1 q⟩⟩
end
section
variable {P : Program} {w : World} {A : Around} {E : Value → Shared → Prop} {s : Shared} {a : Addr} {S : Str → Bool} {n : Nat}
theorem tx_add_tail {note : Bool → Sem Unit} (hnote : ∀ (b : Bool) (s1 : Shared) (R : Unit → Shared → Prop), R () s1 → wpAny (model P w) A (note b) R E s1)
    {ob : Obj} {cs : Array (Int × Value)} {ver : Nat} {tb : SetTable} (hob : s.heap.get? a = some ob) (ex : ob.ExactSet) (dt : ob.data = .set cs ver tb)
    {cs1 : Array (Int × Value)} {tb1 : SetTable} {S1 : Str → Bool} (gd : ∀ c ∈ cs1.toList, TxE w c) (nd : (cs1.toList.map txOf).Nodup) (mm : ∀ x, S1 x = true ↔ x ∈ cs1.toList.map txOf)
    (few : cs1.size < scanBound) (ft : tb1.fits cs1.size = true) (ri : Ris tb1.place.toList) (ld : w.params.followText "set-order" = true ∨ tb1.led = true) {dummy : Bool} {R : Option Bool → Shared → Prop}
    (fin : ∀ h', Heap.SameBut a s.heap h' → TxSet w h' a S1 cs1.size → R (some true) { s with heap := h' }) :
    wpAny (model P w) A (do
        storeSet a cs1 tb1
        if (!dummy && tb1.tooFull) = true then do
            note (relayAll tb1 cs1 (SetTable.grown cs1.size)).2.2
            storeSet a (relayAll tb1 cs1 (SetTable.grown cs1.size)).1 (relayAll tb1 cs1 (SetTable.grown cs1.size)).2.1
            pure (some true)
          else pure (some true)) R E s := by
  refine wpAny_bind (wpAny_storeSet_of hob dt ?_ (fits_of_scanBound few))
  have at1 := L2.store_at (es' := cs1) (t' := tb1) hob dt
  have sb := Heap.SameBut.update s.heap a (Obj.putSet cs1 tb1)
  by_cases hfull : (!dummy && tb1.tooFull) = true
  · rw [if_pos hfull]
    have r1 := relayAll_perm tb1 cs1 (SetTable.grown cs1.size)
    have r2 := relayAll_fits tb1 cs1 (SetTable.grown cs1.size)
    have r3 := relayAll_ris tb1 cs1 (SetTable.grown cs1.size)
    have r4 := relayAll_led tb1 cs1 (SetTable.grown cs1.size)
    generalize relayAll tb1 cs1 (SetTable.grown cs1.size) = Y at r1 r2 r3 r4 ⊢
    obtain ⟨cs2, tb2, way⟩ := Y
    dsimp only at r1 r2 r3 r4 ⊢
    have sz : cs2.size = cs1.size := by rw [← Array.length_toList, ← Array.length_toList]; exact r1.length_eq
    have few2 : cs2.size < scanBound := sz ▸ few
    refine wpAny_bind (hnote _ _ _ (wpAny_bind (wpAny_storeSet_of at1 rfl ?_ (fits_of_scanBound few2))))
    have at2 := L2.store_at (es' := cs2) (t' := tb2) at1 rfl
    refine wpAny_pure (fin _ (sb.trans (Heap.SameBut.update _ a _)) ⟨_, cs2, _, tb2, at2, ex, rfl, fun c hc => gd c (r1.mem_iff.mp hc), ?_, fun x => ?_, few2, r2, sz, r3, ?_⟩)
    · exact (r1.map txOf).nodup_iff.mpr nd
    · exact (mm x).trans (r1.map txOf).mem_iff.symm
    · exact ld.imp id fun z => r4 ▸ z
  · rw [if_neg hfull]
    exact wpAny_pure (fin _ sb ⟨_, cs1, _, tb1, at1, ex, rfl, gd, nd, mm, few, ft, rfl, ri, ld⟩)
theorem tx_add {x : Str} {tk : Tok} {Q : Bool → Shared → Prop} (R : TxSet w s.heap a S n) (room : n + 1 < scanBound)
    (fin : ∀ h', Heap.SameBut a s.heap h' → TxSet w h' a (fun y => S y || decide (y = x)) (if S x = true then n else n + 1) → Q (!S x) { s with heap := h' }) :
    wpAny (model P w) A (setAddHashed a (.str x tk) ((strKind P w).hash x)) Q E s := by
  obtain ⟨ob, cs, ver, tb, hob, ex, dt, gd, nd, mm, few, ft, sz, ri, ld⟩ := R
  have isx : (strKind P w).is x (.str x tk) = true := by
    show Value.isStrOf x (.str x tk) = true
    simp [Value.isStrOf]
  have scn : (Value.str x tk).scannable = true := rfl
  have els : ElemsOf (strKind P w) cs.toList := tx_elems gd
  unfold setAddHashed setAddHashedIn
  refine wpAny_holding (wpAny_bind (wpAny_setState_of hob dt ft ?_))
  dsimp only
  rw [byScan_of scn few els]
  simp only [↓reduceIte]
  unfold setAddByScan
  refine wpAny_bind (wpAny_bind (wpAny_rule (wpAny_bind (wpAny_setScan_of isx hob dt ft els ?_))))
  cases found : List.findIdx? (fun e => (strKind P w).is x e.2) cs.toList with
  | some j =>
    dsimp only
    obtain ⟨lt, yes, _⟩ := List.findIdx?_eq_some_iff_getElem.mp found
    have inS : S x = true := (mm x).2 ((tx_mem (P := P) (w := w) gd x).2 ⟨cs.toList[j], List.getElem_mem lt, yes⟩)
    refine wpAny_pure (wpAny_pure ?_)
    have z := fin s.heap (Heap.SameBut.refl a s.heap) ⟨ob, cs, ver, tb, hob, ex, dt, gd, nd, fun y => ?_, few, ft, by rw [if_pos inS]; exact sz, ri, ld⟩
    · rw [inS] at z
      exact z
    · rw [Bool.or_eq_true, decide_eq_true_eq, ← mm y]
      exact ⟨fun o => o.elim id fun e => e ▸ inS, .inl⟩
  | none =>
    dsimp only
    have out : x ∉ cs.toList.map txOf := fun z => by
      obtain ⟨c, hc, q⟩ := (tx_mem (P := P) (w := w) gd x).1 z
      exact absurd q (by rw [List.findIdx?_eq_none_iff.mp found c hc]; exact Bool.false_ne_true)
    have outS : S x = false := Bool.eq_false_iff.mpr fun q => out ((mm x).1 q)
    have gave : ∀ (b : Bool) {s1 : Shared} {R : Unit → Shared → Prop}, R () s1 → wpAny (model P w) A (match b with | true => rule "set.scan.the-table-gave-way" | false => pure ()) R E s1 :=
      fun b s1 R q => by cases b <;> first | exact wpAny_pure q | exact wpAny_rule q
    have l1 := layNew_perm tb cs ((strKind P w).hash x) (.str x tk)
    have l2 := layNew_fits tb cs ((strKind P w).hash x) (.str x tk)
    have l3 := layNew_ris tb cs ((strKind P w).hash x) (.str x tk) ri
    have l4 := layNew_led tb cs ((strKind P w).hash x) (.str x tk)
    generalize layNew tb cs ((strKind P w).hash x) (.str x tk) = Y at l1 l2 l3 l4 ⊢
    obtain ⟨cs1, tb1, dummy, way⟩ := Y
    dsimp only at l1 l2 l3 l4 ⊢
    rw [Array.toList_push] at l1
    have pm : cs1.toList.Perm (((strKind P w).hash x, Value.str x tk) :: cs.toList) := l1.trans (List.perm_append_singleton _ _)
    have pk : (cs1.toList.map txOf).Perm (x :: cs.toList.map txOf) := pm.map txOf
    have gd1 : ∀ c ∈ cs1.toList, TxE w c := fun c hc => (List.mem_cons.mp (pm.mem_iff.mp hc)).elim (fun z => z ▸ ⟨x, tk, rfl, rfl⟩) (gd c)
    have ndd : (cs1.toList.map txOf).Nodup := pk.nodup_iff.mpr (List.nodup_cons.mpr ⟨out, nd⟩)
    have mm1 : ∀ y, (S y || decide (y = x)) = true ↔ y ∈ cs1.toList.map txOf := fun y => by
      rw [pk.mem_iff, List.mem_cons, ← mm y, Bool.or_eq_true, decide_eq_true_eq]
      exact Or.comm
    have sz1 : cs1.size = n + 1 := by rw [← sz, ← Array.length_toList, pm.length_eq, List.length_cons, Array.length_toList]
    have few1 : cs1.size < scanBound := sz1 ▸ room
    have ld1 : w.params.followText "set-order" = true ∨ tb1.led = true := ld.imp id fun z => l4 ▸ z
    have done : ∀ h', Heap.SameBut a s.heap h' → TxSet w h' a (fun y => S y || decide (y = x)) cs1.size → Q true { s with heap := h' } := fun h' sb r => by
      have z := fin h' sb
      rw [outS] at z
      exact z (sz1 ▸ r)
    refine wpAny_bind (gave _ ?_)
    split
    · refine wpAny_bind ?_
      rw [hashByValue_scannable 8 scn]
      refine wpAny_pure (tx_add_tail (fun b s1 R q => ?_) hob ex dt gd1 ndd mm1 few1 ?_ ?_ ?_ fun h' sb r => ?_)
      · cases b <;> first | exact wpAny_pure q | exact wpAny_rule q
      · first | (split <;> first | exact l2 | exact SetTable.fits_plain_off l2) | exact l2
      · first | (split <;> exact l3) | exact l3
      · first | (split <;> exact ld1) | exact ld1
      · dsimp only
        exact wpAny_pure (done h' sb r)
    · refine wpAny_bind (wpAny_pure ?_)
      simp only [↓reduceIte]
      refine tx_add_tail (fun b s1 R q => ?_) hob ex dt gd1 ndd mm1 few1 l2 l3 ld1 fun h' sb r => ?_
      · cases b <;> first | exact wpAny_pure q | exact wpAny_rule q
      · dsimp only
        exact wpAny_pure (done h' sb r)
end

/-! the loop of update, the call set(l), sorted -/
abbrev bareSet (w : World) : Obj := { cls := .type "set", dict := none, data := .set #[] 0 (.fresh 0 0 (!w.params.followText "set-order")) }
theorem tx_bare {w : World} {h : Heap} {a : Addr} {zs : List Str} (hob : h.get? a = some (bareSet w)) : TxSet w h a (fun y => decide (y ∈ zs.take 0)) 0 := by
  refine ⟨_, #[], 0, _, hob, ⟨rfl, rfl, rfl⟩, rfl, ?_, ?_, ?_, by decide, by rfl, rfl, List.Pairwise.nil, ?_⟩
  · intro c hc
    simp at hc
  · simp
  · intro x
    simp
  · show _ ∨ (!w.params.followText "set-order") = true
    cases w.params.followText "set-order" <;> simp
section
variable {P : Program} {w : World} {A : Around} {E : Value → Shared → Prop} {s : Shared}
theorem tx_update {it : Addr} {fp wr : List Addr} {G : Array GenState → Array GenState → Prop} {n : Nat} {Pv : Nat → Value → Prop} {At : Nat → Shared → Prop} {R : Result → Shared → Prop}
    (W : WalksS P w A.in1 it fp wr G n Pv At) (d : Addr) (apart : d ∉ fp) (zs : List Str) (en : n = zs.length) (room : zs.length + 1 < scanBound) (item : ∀ i v, Pv i v → ∃ x t, zs[i]? = some x ∧ v = .str x t) :
    ∀ (left i : Nat) (s : Shared), n - i = left → i ≤ n → At i s → (∃ m, m ≤ i ∧ TxSet w s.heap d (fun y => decide (y ∈ zs.take i)) m) →
      (∀ s' m, Moved (d :: wr) G s s' → m ≤ n → TxSet w s'.heap d (fun y => decide (y ∈ zs)) m → R (.ok (.ret .none)) s') →
      codeAny (model P w) A (.builtin "set.update.loop" ⟨[.ref d, .ref it], []⟩) R s := by
  have dw : d ∉ wr := fun z => apart (W.sub _ z)
  have more : ∀ b ∈ wr, b ∈ d :: wr := fun b z => List.mem_cons_of_mem _ z
  intro left
  induction left with
  | zero =>
    intro i s el le at_ ⟨m, hm, R0⟩ go
    have ei : i = n := by omega
    subst ei
    refine codeAny_builtin PyProof.Rows.F.entry_set_update_loop ?_
    rw [Around.under_plainId PyProof.Rows.F.plain_set_update_loop _]
    show wpAny _ A.in1 (pyNext (.ref it) >>= _) _ _ s
    refine wpAny_bind (W.done s _ _ at_ fun s' mv => ?_)
    show wpAny _ A.in1 (ret Value.none) _ _ s'
    rw [show zs.take i = zs from List.take_of_length_le (by omega)] at R0
    exact wpAny_pure (go s' m (mv.mono more) hm (R0.keep fun ob e => mv.heap d ob dw e))
  | succ left ih =>
    intro i s el le at_ ⟨m, hm, R0⟩ go
    have lt : i < n := by omega
    refine codeAny_builtin PyProof.Rows.F.entry_set_update_loop ?_
    rw [Around.under_plainId PyProof.Rows.F.plain_set_update_loop _]
    show wpAny _ A.in1 (pyNext (.ref it) >>= _) _ _ s
    refine wpAny_bind (W.item i s _ _ lt at_ fun v s1 pv at1 mv => ?_)
    obtain ⟨x, t, hx, rfl⟩ := item i v pv
    have R1 : TxSet w s1.heap d (fun y => decide (y ∈ zs.take i)) m := R0.keep fun ob e => mv.heap d ob dw e
    show wpAny _ A.in1 (holding [Value.str x t] (setAdd d (.str x t)) >>= _) _ _ s1
    refine wpAny_bind (wpAny_holding ?_)
    unfold setAdd
    refine wpAny_holding (wpAny_bind ((strKind P w).pyHash (k := x) (v := .str x t) ?_ ?_))
    · show Value.isStrOf x (.str x t) = true
      simp [Value.isStrOf]
    refine tx_add (s := { s1 with toks := s1.toks + 1 }) R1 (by omega) fun h2 sb R2 => ?_
    have R3 : TxSet w h2 d (fun y => decide (y ∈ zs.take (i + 1))) (if decide (x ∈ zs.take i) = true then m else m + 1) := R2.say fun y => by
      rw [List.take_add_one, hx]
      simp [List.mem_append]
    have hm3 : (if decide (x ∈ zs.take i) = true then m else m + 1) ≤ i + 1 := by split <;> omega
    refine wpAny_pure ⟨plainId_quiet PyProof.Rows.F.plain_set_update_loop _, ih (i + 1) _ (by omega) lt (W.frame _ s1 _ _ at1 (Nat.le_succ _) fun b hb ob e => ?_) ⟨_, hm3, R3⟩ fun s3 m3 mv3 le3 R4 => ?_⟩
    · exact (sb.2 b fun z => apart (z ▸ hb)).trans e
    · refine go s3 m3 (Moved.trans W.gtrans ((mv.mono more).then_heap (Nat.le_succ _) fun b ob hb e => ?_) mv3) le3 R4
      exact (sb.2 b fun z => hb (z ▸ List.mem_cons_self)).trans e
theorem tx_item : ∀ {us : List Value} {zs : List Str}, StrsAre us zs → ∀ (i : Nat) (v : Value), us[i]? = some v → ∃ x t, zs[i]? = some x ∧ v = .str x t
  | _, _, .nil, i, v, hi => by simp at hi
  | _, _, .cons x t _, 0, v, hi => ⟨x, t, rfl, by simpa using hi.symm⟩
  | _, _, .cons _ _ rest, i + 1, v, hi => by simpa using tx_item rest i v (by simpa using hi)
/-- set(l), l a list of texts -/
theorem call_set_txs {l : Addr} {items : Array Value} (zs : List Str) {Q : Value → Shared → Prop} (calm : A.handled = none) (hl : s.heap.IsList l items) (hit : StrsAre items.toList zs) (room : zs.length + 1 < scanBound)
    (fin : ∀ (h' : Heap) (tk m : Nat), TxSet w h' s.heap.objs.size (fun y => decide (y ∈ zs)) m → m ≤ zs.length → (∀ b ob, s.heap.get? b = some ob → h'.get? b = some ob) → Q (.ref s.heap.objs.size) { s with heap := h', toks := tk }) :
    wpAny (model P w) A (call (.type "set") [.ref l]) Q E s := by
  have isz : items.size = zs.length := by
    have z := hit.length
    rw [Array.length_toList] at z
    exact z
  obtain ⟨c, tl, hmro⟩ := F.called_set.mro
  have hmade := F.called_set.made
  have hsub := F.called_set.sub
  refine wpAny_call (codeAny_of_tree ?_)
  show wpAny _ _ (callAny (.type "set") _) _ _ _
  refine wpAny_pure ⟨Code.quiet_builtin _ (by decide +kernel), codeAny_builtin F.entry_type_call ?_⟩
  rw [Around.under_plain (weight_type_call_type "set" [.ref l] []) rfl]
  have no_t := F.called_set.notType
  have can := F.called_set.canCreate
  have chk := PySem.F.typeCall_set_1 (.ref l)
  repeat (any_goals (first | assumption | wp_step))
  refine codeAny_mono (code_set_led1 (.ref l) (E := E) (Q₁ := fun obj s1 => obj = .ref s.heap.objs.size ∧ s1 = { s with heap := s.heap.push (bareSet w) }) ⟨rfl, rfl⟩) fun r s1 hr => ?_
  cases r with
  | error e => exact hr
  | ok fl =>
  cases fl with
  | next => exact hr.elim
  | brk => exact hr.elim
  | cont => exact hr.elim
  | ret obj =>
  obtain ⟨rfl, rfl⟩ := hr
  have atS : (s.heap.push (bareSet w)).get? s.heap.objs.size = some (bareSet w) := Heap.get?_push_size _ rfl
  have tyS : Shared.TypeIs { s with heap := s.heap.push (bareSet w) } (.ref s.heap.objs.size) "set" := ⟨_, atS, rfl⟩
  have ini := F.called_set.init.lookup
  have inb := F.called_set.init.bind (.ref s.heap.objs.size)
  repeat (any_goals (first | assumption | wp_step))
  refine codeAny_mono (codeAny_call_builtin (R := wants (fun r s2 => r = .none ∧ ∃ h' tk m, s2 = { s with heap := h', toks := tk } ∧ TxSet w h' s.heap.objs.size (fun y => decide (y ∈ zs)) m ∧ m ≤ zs.length ∧
      (∀ b ob, s.heap.get? b = some ob → h'.get? b = some ob)) E) F.called_set.init.plain F.entry_set_init (check_set_init_1 tyS ?_)) fun r2 s2 hr2 => ?_
  · obtain ⟨ob, hob, hc, nl, hd⟩ := hl
    obtain ⟨k1, k2, k3, k4⟩ := ob
    simp only at hc hd
    subst hc hd
    have ob1 : (s.heap.push (bareSet w)).get? l = some { cls := .type "list", dict := k2, data := .seq items nl, slots := k4 } := Heap.get?_push_of_some _ hob
    have not1 := F.sub_list_set
    have not2 := F.sub_list_frozenset
    have not3 : (Value.type "list" == Value.type "dict") = false := by decide
    have l1 : (s.heap.push (bareSet w)).IsList l items := ⟨_, ob1, rfl, nl, rfl⟩
    unfold Builtin.«set.__init__» noKeywords Builtin.Frozenset.updateFrom
    generalize hIt : pyIter = It
    wp_walk
    subst hIt
    refine wpAny_pyIter_list l1 (wpAny_bind (wpAny_runValue ?_))
    have low : l < s.heap.objs.size := Heap.lt_size hob
    have calm3 : A.in1.in1.in1.handled = none := by simp [calm]
    have one : (s.heap.push (bareSet w)).objs.size = s.heap.objs.size + 1 := Heap.size_push ..
    have n1 : l ≠ (s.heap.push (bareSet w)).objs.size := Nat.ne_of_lt (by rw [one]; exact Nat.lt_succ_of_lt low)
    have n2 : s.heap.objs.size ∉ [(s.heap.push (bareSet w)).objs.size, l] := by
      rw [List.mem_cons, List.mem_singleton, one]
      exact fun z => z.elim (Nat.ne_of_lt (Nat.lt_succ_self _)) (Nat.ne_of_gt low)
    refine tx_update ((Walks.list calm3 _ l n1 items).toS) s.heap.objs.size n2 zs isz room (fun i v hv => tx_item hit i v (by rw [Array.getElem?_toList]; exact hv)) (items.size - 0) 0 _ (by omega) (Nat.zero_le _)
      ⟨⟨_, Heap.get?_push_size _ rfl, rfl, rfl⟩, (l1.push _)⟩ ⟨0, Nat.le_refl 0, tx_bare (Heap.get?_push_of_some _ atS)⟩ ?_
    intro s3 m mv hm R3
    obtain ⟨h3, g3, d3, t3, o3⟩ := s3
    have z1 : g3 = s.gens := mv.gens
    have z2 : d3 = s.drawn := mv.drawn
    have z3 : o3 = s.os := mv.os
    subst z1 z2 z3
    show wpAny _ _ _ _ _ _
    refine wpAny_pure ?_
    show wpAny _ _ (ret Value.none) _ _ _
    refine wpAny_pure ⟨rfl, h3, t3, m, rfl, R3, isz ▸ hm, fun b ob e => ?_⟩
    have lb : b < s.heap.objs.size := Heap.lt_size e
    refine mv.heap b ob ?_ (Heap.get?_push_of_some _ (Heap.get?_push_of_some _ e))
    rw [List.mem_cons, List.mem_singleton, one]
    exact fun z => z.elim (Nat.ne_of_lt lb) (Nat.ne_of_lt (Nat.lt_succ_of_lt lb))
  · cases r2 with
    | error e => exact hr2
    | ok fl2 =>
    cases fl2 with
    | next => exact hr2.elim
    | brk => exact hr2.elim
    | cont => exact hr2.elim
    | ret r =>
    obtain ⟨rfl, h', tk, m, rfl, R2, hm, kp⟩ := hr2
    repeat (any_goals (first | assumption | wp_step))
    exact fin _ _ _ R2 hm kp

/-- sorted(d), d a set of texts -/
theorem call_sorted_txs {d : Addr} {S : Str → Bool} {n : Nat} {Q : Value → Shared → Prop} (R : TxSet w s.heap d S n) (calm : A.handled = none) (few : n < 64)
    (fin : ∀ s' p (out : Array Value) (c : Nat) (ys : List Str), (∀ b ob, s.heap.get? b = some ob → s'.heap.get? b = some ob) → s'.gens = s.gens → s'.os = s.os → s.heap.objs.size ≤ p →
      s'.heap.get? p = some (seqObj "list" out c) → StrsAre out.toList ys → sortedS ys = true → ys.Nodup → (∀ x, x ∈ ys ↔ S x = true) → ys.length = n → Q (.ref p) s') :
    wpAny (model P w) A (call (.builtin "sorted") [.ref d]) Q E s := by
  obtain ⟨ob, cs, ver, tb, hob, ex, dt, gd, nd, mm, sb, ft, sz, ri, ld⟩ := R
  refine Calls.call_function_entry PyProof.Rows.kind_sorted PyProof.Rows.plain_sorted PyProof.Rows.entry_sorted (PyProof.Rows.args_sorted1 _) ?_
  unfold Builtin.«sorted»
  refine wpAny_bind (m := checkCount "sorted" 1 1 _) (wpAny_pure ?_)
  refine wpAny_bind (collect_set (A := A.in1) calm ⟨ob, hob, ex.1, dt⟩ ft sb ri ld fun s1 us kp hz hg ho pm => ?_)
  have lu : us.length = n := by rw [pm.length_eq, List.length_map, Array.length_toList]; exact sz
  have txs : ∀ (ws : List Value), (∀ v ∈ ws, ∃ c ∈ cs.toList, v = c.2) → ∃ zs, StrsAre ws zs ∧ zs = ws.map fun v => txOf (0, v) := by
    intro ws
    induction ws with
    | nil => exact fun _ => ⟨[], .nil, rfl⟩
    | cons v ws ih =>
      intro al
      obtain ⟨zs, h1, h2⟩ := ih fun u hu => al u (List.mem_cons_of_mem _ hu)
      obtain ⟨c, hc, rfl⟩ := al v List.mem_cons_self
      obtain ⟨x, tk, e, _⟩ := gd c hc
      refine ⟨x :: zs, ?_, ?_⟩
      · rw [e]; exact .cons x tk h1
      · rw [List.map_cons, ← h2]
        unfold txOf
        rw [e]
  obtain ⟨zs, hS, ez⟩ := txs us fun v hv => by
    obtain ⟨c, hc, e⟩ := List.mem_map.mp (pm.mem_iff.mp hv)
    exact ⟨c, hc, e.symm⟩
  have pz : zs.Perm (cs.toList.map txOf) := by
    rw [ez]
    have z := pm.map fun v => txOf ((0 : Int), v)
    rw [List.map_map] at z
    exact z
  refine wpAny_bind (wpAny_newList ?_ (by rw [lu, sizeLine_eq]; omega))
  have atL : (s1.heap.push (seqObj "list" us.toArray 0)).get? s1.heap.objs.size = some (seqObj "list" us.toArray 0) := Heap.get?_push_size _ rfl
  refine wpAny_bind (wpAny_holding (wpAny_call_entry PyProof.Rows.slot_list_sort ⟨_, atL, rfl⟩ PyProof.Rows.entry_list_sort
    (list_sort_treeK strKind_oneLt atL hS.keysOf (fun u1 u2 more e => keyKind_strs (by rw [← e]; exact hS)) (by rw [lu]; exact few) fun st pp sp => ⟨_, rfl, ?_⟩) (PyProof.Rows.args_list_sort _)))
  obtain ⟨ys, g1, g2, g3⟩ := sorted_out_str hS pp sp
  obtain ⟨c, hc⟩ := PyProof.Rows.sortedHeap_at (vs := us) (out := (arrOf st).map (·.2)) atL
  have py := g2.trans pz
  refine wpAny_pure ⟨_, rfl, fin _ s1.heap.objs.size ((arrOf st).map (·.2)) c ys (fun b u e => ?_) hg ho hz hc g1 g3 (py.nodup_iff.mpr nd) (fun x => py.mem_iff.trans (mm x).symm) ?_⟩
  · have lt := Heap.lt_size (kp b u e)
    show (PyProof.Rows.sortedHeap (s1.heap.push (seqObj "list" us.toArray 0)) s1.heap.objs.size us _).get? b = some u
    rw [PyProof.Rows.sortedHeap_old (Nat.ne_of_lt lt) (by rw [size_push']; exact Nat.lt_succ_of_lt lt)]
    exact Heap.get?_push_of_some _ (kp b u e)
  · rw [py.length_eq, List.length_map, Array.length_toList]; exact sz
end
/-! as rules -/
def TxO (w : World) (a : Addr) (S : Str → Bool) (n : Nat) : HO := .ext fun h => TxSet w h a S n
section
variable {X : Cx}
def rTxSet (K : PySem.W.Frag) (w : World) : List V → Hp → VK → Prop := fun xs H Q => ∃ (l : Addr) (zs : List Str), xs = [V.ref l] ∧ SqL K H l (zs.map V.str) ∧ zs.length < 1000 ∧
  ∀ a m, H a = none → m ≤ zs.length → Q (.ref a) (upd H a (TxO w a (fun y => decide (y ∈ zs)) m))
theorem cr_txSet (hc : X.calm = true) : CallR X (.type "set") (rTxSet X.K X.w) := by
  intro pins s σ H xs us Q I r h
  obtain ⟨l, zs, rfl, hl, few, q⟩ := h
  rw [Vals.ref1 r]
  obtain ⟨its, rv, pl, hz⟩ := I.list hl
  have free : H s.heap.objs.size = none := I.hok.fresh (Nat.le_refl _)
  refine call_set_txs (P := X.prog) (w := X.w) zs (I.ok.hd hc) pl.isList rv.strs (by unfold scanBound; omega) fun h' tk m R hm kp => ?_
  have R' : ∀ H2 : Hp, ObjOk X.prog X.w H2 h' s.heap.objs.size (TxO X.w s.heap.objs.size (fun y => decide (y ∈ zs)) m) := fun H2 => by
    have ⟨ob, _, _, _, hob, _⟩ := R
    exact ⟨R, ⟨ob, hob⟩, fun h1 h2 p k => p.keep k⟩
  exact ⟨.ref s.heap.objs.size, _, I.laid (t' := tk) kp (Nat.le_refl _) (R' _), rfl, q _ m free hm⟩
def rTxSorted (w : World) : List V → Hp → VK → Prop := fun xs H Q => ∃ (d : Addr) (S : Str → Bool) (n : Nat), xs = [V.ref d] ∧ H d = some (TxO w d S n) ∧ n < 64 ∧
  ∀ (ys : List Str) (p : Addr), sortedS ys = true → ys.Nodup → (∀ x, x ∈ ys ↔ S x = true) → ys.length = n → H p = none → Q (.ref p) (upd H p (.lst (ys.map V.str)))
theorem cr_txSorted (hc : X.calm = true) : CallR X (.builtin "sorted") (rTxSorted X.w) := by
  intro pins s σ H xs us Q I r h
  obtain ⟨d, S, n, rfl, hd, few, q⟩ := h
  have R : TxSet X.w s.heap d S n := (I.hok d _ hd).1
  rw [Vals.ref1 r]
  refine call_sorted_txs (P := X.prog) R (I.ok.hd hc) few fun s' p out c ys kp hg ho hp at' hS so nd mem len => ?_
  have le : (ys.map V.str).length ≤ sizeLine := by rw [List.length_map, len, sizeLine_eq]; omega
  have free : H p = none := I.hok.fresh hp
  have J : Inv X pins σ (upd H p (.lst (ys.map V.str))) { s with heap := s'.heap, gens := s'.gens, drawn := s'.drawn, toks := s'.toks } :=
    I.call (ch := []) (Un.laid kp hp free) (I.hok.laid kp hp ⟨le, out.toList, c, vals_of_strs hS, at'⟩) (by rw [hg]; exact I.bare) (fun _ z => nomatch z)
  have e : s' = { s with heap := s'.heap, gens := s'.gens, drawn := s'.drawn, toks := s'.toks } := by
    obtain ⟨h1, h2, h3, h4, h5⟩ := s'
    cases ho
    rfl
  rw [e]
  exact ⟨.ref p, _, J, rfl, q ys p so nd mem len free⟩
end
end Sc
namespace Sc
open PySem PySem.Spec PyProof.Rows L2
/-! one sign, many times -/
def reps (c n : Nat) : Str := ⟨(List.replicate n c).toArray⟩
theorem fold_reps (c : Nat) : ∀ (n : Nat) (acc : Array Nat), (List.replicate n #[c]).foldl (· ++ ·) acc = acc ++ (List.replicate n c).toArray
  | 0, acc => by simp
  | n + 1, acc => by
    rw [List.replicate_succ, List.foldl_cons, fold_reps c n]
    apply Array.ext'
    simp [List.replicate_succ]
section
variable {X : Cx}
def rReps : V → V → Hp → VK → Prop := fun x y H Q => ∃ (c : Nat) (k : Int), x = .str ⟨#[c]⟩ ∧ y = .int k ∧ 0 ≤ k ∧ k ≤ 1000 ∧ Q (.str (reps c k.toNat)) H
theorem op_reps : OpR X (binaryOp .Mult) rReps := by
  intro pins s σ H x y v u Q I rx ry h
  obtain ⟨c, k, rfl, rfl, h0, h1, q⟩ := h
  obtain ⟨t, rfl⟩ := rx
  obtain ⟨t', rfl⟩ := ry
  have ln : (⟨#[c]⟩ : Str).length = 1 := rfl
  refine PySem.P.mul_str (by rw [decide_eq_false (by omega), decide_eq_false (by omega)]; rfl) (fun a b => ?_) (fun a b => ?_) ?_
  · rw [ln]
    have hk : k ≠ 0 := by omega
    have : 1 * k ≤ 2 ^ 63 - 1 := by omega
    have := (Int.le_ediv_iff_mul_le (a := 1) (b := 2 ^ 63 - 1) (c := k) (by omega)).mpr this
    show ¬ (1 : Int) > (2 ^ 63 - 1) / k
    omega
  · rw [ln]
    unfold Builtin.Str.tooLong
    rw [decide_eq_false]
    rw [sizeLine_eq]
    omega
  · by_cases a : k < 1
    · rw [if_pos a]
      have e : reps c k.toNat = Str.empty := by rw [show k.toNat = 0 by omega]; rfl
      rw [e] at q
      exact ⟨by decide, ⟨.str Str.empty, H, I.tok _, ⟨_, rfl⟩, q⟩⟩
    · rw [if_neg a]
      by_cases b : k = 1
      · subst b
        simp only [beq_self_eq_true, Bool.true_or, if_true]
        exact ⟨.str ⟨#[c]⟩, H, I, ⟨_, rfl⟩, q⟩
      · have e : (k == 1 || (⟨#[c]⟩ : Str).length == 0) = false := by
          rw [ln]
          simp [b]
        rw [if_neg (by rw [e]; exact Bool.false_ne_true)]
        have e2 : (⟨(List.replicate k.toNat (⟨#[c]⟩ : Str).cps).foldl (· ++ ·) #[]⟩ : Str) = reps c k.toNat := by
          unfold reps
          rw [show (⟨#[c]⟩ : Str).cps = #[c] from rfl, fold_reps]
          simp
        rw [e2]
        refine ⟨?_, ⟨.str (reps c k.toNat), H, I.tok _, ⟨_, rfl⟩, q⟩⟩
        show (reps c k.toNat).cps.size ≤ _
        unfold reps
        rw [List.size_toArray, List.length_replicate]
        first | omega | (rw [sizeLine_eq]; omega)
end

/-! ### defs that may be called, defs that stand -/
structure Cal (P : Program) (w : World) (K : PySem.W.Frag) (mg : Str → Option Value) (base : Heap) (k : Nat) (x : Str) (ps : List Str) (sp : Sp) : Prop where
  ex : ∃ f fd, FnOk P w K mg base CX0 k f fd ps sp ∧ mg x = some (.ref f) ∧ PySem.W.keepIn K (.ref f) = true ∧ Binds K fd ps []
structure Def (K : PySem.W.Frag) (mg : Str → Option Value) (x : Str) (st : Stmt) (ps : List Str) : Prop where
  ex : ∃ f fd, Fun K x x st f fd ∧ mg x = some (.ref f) ∧ Binds K fd ps []
theorem Cal.mono {P : Program} {w : World} {K : PySem.W.Frag} {mg : Str → Option Value} {base : Heap} {j k : Nat} {x : Str} {ps : List Str} {sp : Sp} (C : Cal P w K mg base j x ps sp) (h : j ≤ k) : Cal P w K mg base k x ps sp := by
  obtain ⟨f, fd, a, b⟩ := C.ex
  exact ⟨f, fd, a.mono h, b⟩
theorem Cal.imp {P : Program} {w : World} {K : PySem.W.Frag} {mg : Str → Option Value} {base : Heap} {k : Nat} {x : Str} {ps : List Str} {sp sp' : Sp} (C : Cal P w K mg base k x ps sp) (h : ∀ vs H Q E, sp' vs H Q E → sp vs H Q E) : Cal P w K mg base k x ps sp' := by
  obtain ⟨f, fd, a, b⟩ := C.ex
  exact ⟨f, fd, a.imp h, b⟩
theorem Def.never {P : Program} {w : World} {K : PySem.W.Frag} {mg : Str → Option Value} {base : Heap} {x : Str} {st : Stmt} {ps : List Str} {sp : Sp} (D : Def K mg x st ps) (no : ∀ vs H Q E, ¬ sp vs H Q E) : Cal P w K mg base 0 x ps sp := by
  obtain ⟨f, fd, F, m, b⟩ := D.ex
  exact ⟨f, fd, ⟨fun vs H Q E h => absurd h (no vs H Q E), fun A outer s H args us vs Q E _ _ _ _ h => absurd h (no vs H Q E)⟩, m, F.kp, b⟩
theorem Def.ok {P : Program} {w : World} {K : PySem.W.Frag} {mg : Str → Option Value} {base : Heap} {x : Str} {st : Stmt} {N ps : List Str} {k : Nat} {sp : Sp} (D : Def K mg x st ps) (S : FnScope N ps (defScope st)) (len : ∀ vs H Q E, sp vs H Q E → vs.length = ps.length)
    (body : ∀ (f : Addr) (cdv : Value) (A : Around) (outer : List Env) (s : Shared) (H : Hp) (vs : List V) (Q : VK) (E : XK), Room k (A.deeper (envOfC x (defScope st) s.heap.objs.size f cdv)) → sp vs H Q E →
      ∃ t, PSs (cxOf CX0 P w K mg base N x (defScope st) f cdv A outer s H E).nox (defBody st) t ∧ t { nx := fun _ H' => Q .non H', rt := Q } (start N vs) H) : Cal P w K mg base (k + 1) x ps sp := by
  obtain ⟨f, fd, F, m, b⟩ := D.ex
  exact ⟨f, fd, F.ok S len fun cdv A outer s H vs Q E hr h => body f cdv A outer s H vs Q E hr h, m, F.kp, b⟩
section
variable {X : Cx} {k : Nat} {x : Str} {ps : List Str} {sp : Sp} {e : Expr} {es : List Expr} {t : TA} {p pos : Pos}
theorem pe_cal (C : Cal X.prog X.w X.K X.mg X.base k x ps sp) (hr : Room k X.A) (ha : PA X (e :: es) t) (hg : Gl X x := by rfl) (hdb : (x == ("__debug__" : Str)) = false := by decide)
    (he : starEach (e :: es) X.env = (false, eval e X.env) :: starEach es X.env := by rfl) (hpl : (backTo pos (starEach es X.env)).any (·.1) = false := by rfl) :
    PE X (.Call (.Name x p) (e :: es) [] pos) (tCall sp [] E0 t) := by
  obtain ⟨f, fd, F, m, kp, b⟩ := C.ex
  exact pe_call F hr hg m kp b .nil pass0 ha hdb he hpl
end
/-! ### heaps -/
/-- all that was tracked, but what stands at s, is as it was -/
def Ext (s : Addr) (H H' : Hp) : Prop := ∀ b o, b ≠ s → H b = some o → H' b = some o
theorem Ext.refl (s : Addr) (H : Hp) : Ext s H H := fun _ _ _ h => h
theorem Ext.trans {s : Addr} {H H1 H2 : Hp} (a : Ext s H H1) (b : Ext s H1 H2) : Ext s H H2 := fun c o n h => b c o n (a c o n h)
theorem Ext.upd (s : Addr) (H : Hp) (o : HO) : Ext s H (upd H s o) := fun b u n h => by rw [upd_ne n]; exact h
theorem Ext.new {s p : Addr} {H : Hp} (o : HO) (hp : H p = none) : Ext s H (L2.upd H p o) := fun b u _ h => by
  rw [upd_ne (ne_of_none h hp)]; exact h
theorem Ext.same {s : Addr} {H H' : Hp} (e : Same H H') : Ext s H H' := fun b o _ h => e b o h
theorem same_new {H : Hp} {p : Addr} (h : H p = none) (o : HO) : Same H (upd H p o) := fun b u q => by rw [upd_ne (ne_of_none q h)]; exact q
theorem Ext.free {s l : Addr} {H H' : Hp} {o : HO} (e : Ext s H H') (hs : H s = some o) (hs' : ∃ o', H' s = some o') (h : H' l = none) : H l = none := by
  by_cases z : l = s
  · subst z
    obtain ⟨o', e'⟩ := hs'
    rw [e'] at h
    cases h
  · cases q : H l with
    | none => rfl
    | some u => rw [e l u z q] at h; cases h
theorem Ext.seq {K : PySem.W.Frag} {s a : Addr} {H H' : Hp} {kvs : List (Key × V)} {xs : List V} (e : Ext s H H') (hs : H s = some (.dK kvs)) (h : SqL K H a xs) : SqL K H' a xs := by
  have ne : ∀ o, (∀ q : HO.dK kvs = o, False) → H a = some o → a ≠ s := fun o hq ha z => by
    subst z; rw [hs] at ha; exact hq (Option.some.inj ha)
  rcases h with (h | ⟨o, h⟩) | h
  · exact .inl (.inl (e _ _ (ne _ (fun q => by cases q) h) h))
  · exact .inl (.inr ⟨o, e _ _ (ne _ (fun q => by cases q) h) h⟩)
  · exact .inr h
theorem Ext.tup {K : PySem.W.Frag} {s a : Addr} {H H' : Hp} {kvs : List (Key × V)} {xs : List V} (e : Ext s H H') (hs : H s = some (.dK kvs)) (h : SqT K H a xs) : SqT K H' a xs := by
  have ne : ∀ o, (∀ q : HO.dK kvs = o, False) → H a = some o → a ≠ s := fun o hq ha z => by
    subst z; rw [hs] at ha; exact hq (Option.some.inj ha)
  rcases h with (h | ⟨o, h⟩) | h
  · exact .inl (.inl (e _ _ (ne _ (fun q => by cases q) h) h))
  · exact .inl (.inr ⟨o, e _ _ (ne _ (fun q => by cases q) h) h⟩)
  · exact .inr h
theorem Same.tup {K : PySem.W.Frag} {a : Addr} {H H' : Hp} {xs : List V} (e : Same H H') (h : SqT K H a xs) : SqT K H' a xs := by
  rcases h with (h | ⟨o, h⟩) | h
  · exact .inl (.inl (e _ _ h))
  · exact .inl (.inr ⟨o, e _ _ h⟩)
  · exact .inr h
/-- tuples are kept: what a kind wants -/
def Keep (K : PySem.W.Frag) (H H' : Hp) : Prop := ∀ a xs, SqT K H a xs → SqT K H' a xs
theorem Keep.refl {K : PySem.W.Frag} (H : Hp) : Keep K H H := fun _ _ h => h
theorem Keep.trans {K : PySem.W.Frag} {H H1 H2 : Hp} (e : Keep K H H1) (f : Keep K H1 H2) : Keep K H H2 := fun _ _ h => f _ _ (e _ _ h)
theorem Ext.keep {K : PySem.W.Frag} {s : Addr} {H H' : Hp} {kvs : List (Key × V)} (e : Ext s H H') (hs : H s = some (.dK kvs)) : Keep K H H' := fun _ _ h => e.tup hs h
theorem Same.keep {K : PySem.W.Frag} {H H' : Hp} (e : Same H H') : Keep K H H' := fun _ _ h => Same.tup e h
/-- what may be stored to -/
def Soft : HO → Prop
  | .lst _ => True
  | .dK _ => True
  | _ => False
theorem Keep.upd {K : PySem.W.Frag} {H : Hp} {D : Addr} {o0 : HO} (h : H D = some o0) (t : Soft o0) (o : HO) : Keep K H (L2.upd H D o) := fun a xs q => by
  have ne : ∀ u, H a = some u → ¬ Soft u → a ≠ D := fun u e n z => by
    subst z
    rw [h] at e
    exact n (Option.some.inj e ▸ t)
  rcases q with (q | ⟨u, q⟩) | q
  · exact .inl (.inl (by rw [upd_ne (ne _ q (fun z => z))]; exact q))
  · exact .inl (.inr ⟨u, by rw [upd_ne (ne _ q (fun z => z))]; exact q⟩)
  · exact .inr q
/-- data of tuples, texts, numbers, truths, None -/
inductive Dt (K : PySem.W.Frag) (H : Hp) : V → PyData → Prop
  | non : Dt K H .non .none
  | bl (b : Bool) : Dt K H (.bl b) (.bool b)
  | int (i : Int) : Dt K H (.int i) (.int i)
  | str (x : Str) : Dt K H (.str x) (.str x)
  | tup {a : Addr} (vs : List V) {ds : List PyData} : SqT K H a vs → vs.length = ds.length → (∀ (j : Nat) (v : V) (d : PyData), vs[j]? = some v → ds[j]? = some d → Dt K H v d) → Dt K H (.ref a) (.tuple ds)
def Dts (K : PySem.W.Frag) (H : Hp) (vs : List V) (ds : List PyData) : Prop := vs.length = ds.length ∧ ∀ (j : Nat) (v : V) (d : PyData), vs[j]? = some v → ds[j]? = some d → Dt K H v d
theorem Dts.nil {K : PySem.W.Frag} {H : Hp} : Dts K H [] [] := ⟨rfl, fun j v d h => by simp at h⟩
theorem Dts.cons {K : PySem.W.Frag} {H : Hp} {v : V} {d : PyData} {vs : List V} {ds : List PyData} (h : Dt K H v d) (t : Dts K H vs ds) : Dts K H (v :: vs) (d :: ds) := ⟨congrArg (· + 1) t.1, fun j u e h1 h2 => by
  cases j with
  | zero => cases h1; cases h2; exact h
  | succ j => exact t.2 j u e h1 h2⟩
theorem Dts.head {K : PySem.W.Frag} {H : Hp} {v : V} {d : PyData} {vs : List V} {ds : List PyData} (h : Dts K H (v :: vs) (d :: ds)) : Dt K H v d := h.2 0 v d rfl rfl
theorem Dts.tail {K : PySem.W.Frag} {H : Hp} {v : V} {d : PyData} {vs : List V} {ds : List PyData} (h : Dts K H (v :: vs) (d :: ds)) : Dts K H vs ds := ⟨Nat.succ.inj h.1, fun j u e h1 h2 => h.2 (j + 1) u e h1 h2⟩
theorem Dts.at {K : PySem.W.Frag} {H : Hp} {vs : List V} {ds : List PyData} {j : Nat} {v : V} (h : Dts K H vs ds) (e : vs[j]? = some v) : ∃ d, ds[j]? = some d ∧ Dt K H v d := by
  have lt : j < ds.length := h.1 ▸ (List.getElem?_eq_some_iff.mp e).1
  exact ⟨ds[j], List.getElem?_eq_getElem lt, h.2 j v _ e (List.getElem?_eq_getElem lt)⟩
theorem Dts.snoc {K : PySem.W.Frag} {H : Hp} {v : V} {d : PyData} {vs : List V} {ds : List PyData} (t : Dts K H vs ds) (h : Dt K H v d) : Dts K H (vs ++ [v]) (ds ++ [d]) := by
  refine ⟨by rw [List.length_append, List.length_append, t.1]; rfl, fun j u e h1 h2 => ?_⟩
  by_cases lt : j < vs.length
  · rw [List.getElem?_append_left lt] at h1
    rw [List.getElem?_append_left (t.1 ▸ lt)] at h2
    exact t.2 j u e h1 h2
  · rw [List.getElem?_append_right (by omega)] at h1
    rw [List.getElem?_append_right (by have := t.1; omega)] at h2
    have z : j - vs.length = 0 := by
      have := (List.getElem?_eq_some_iff.mp h1).1
      simp at this
      omega
    rw [z] at h1
    rw [← t.1, z] at h2
    cases h1; cases h2; exact h
theorem Dts.tup {K : PySem.W.Frag} {H : Hp} {a : Addr} {vs : List V} {ds : List PyData} (t : Dts K H vs ds) (h : SqT K H a vs) : Dt K H (.ref a) (.tuple ds) := .tup vs h t.1 t.2
theorem Dt.open {K : PySem.W.Frag} {H : Hp} {v : V} {ds : List PyData} (h : Dt K H v (.tuple ds)) : ∃ a vs, v = .ref a ∧ SqT K H a vs ∧ Dts K H vs ds := by
  cases h with
  | tup vs hs hl ha => exact ⟨_, vs, rfl, hs, hl, ha⟩
theorem Keep.dt {K : PySem.W.Frag} {H H' : Hp} (e : Keep K H H') {v : V} {d : PyData} (h : Dt K H v d) : Dt K H' v d := by
  induction h with
  | non => exact .non
  | bl b => exact .bl b
  | int i => exact .int i
  | str x => exact .str x
  | tup vs hs hl _ ih => exact .tup vs (e _ _ hs) hl ih
theorem Keep.dts {K : PySem.W.Frag} {H H' : Hp} (e : Keep K H H') {vs : List V} {ds : List PyData} (h : Dts K H vs ds) : Dts K H' vs ds := ⟨h.1, fun j v d a b => e.dt (h.2 j v d a b)⟩
theorem dpAll_of {K : PySem.W.Frag} {H : Hp} : ∀ {vs : List V} {ds : List PyData}, vs.length = ds.length → (∀ (j : Nat) (v : V) (d : PyData), vs[j]? = some v → ds[j]? = some d → Dp K H v d) → DpAll K H vs ds
  | [], [], _, _ => .nil
  | v :: vs, d :: ds, hl, h => .cons (h 0 v d rfl rfl) (dpAll_of (Nat.succ.inj hl) fun j u e a b => h (j + 1) u e a b)
theorem Dt.dp {K : PySem.W.Frag} {H : Hp} {v : V} {d : PyData} (h : Dt K H v d) : Dp K H v d := by
  induction h with
  | non => exact .non
  | bl b => exact .bl b
  | int i => exact .int i
  | str x => exact .str x
  | tup vs hs hl _ ih => exact .tup hs (dpAll_of hl ih)
/-! ### a law's state -/
structure Inf where
  c : Addr
  f : Addr
  size : Int
  place : Int
  turn : Int
  odd : Int
  talk : Int
structure Mv where
  att : Int
  rest : Int
  seed : Int
def stD (i : Inf) (m : Mv) : List (Key × V) :=
  [(.inr "cells", .ref i.c), (.inr "at", .int m.att), (.inr "size", .int i.size), (.inr "place", .int i.place), (.inr "turn", .int i.turn),
   (.inr "rest", .int m.rest), (.inr "functions", .ref i.f), (.inr "odd", .int i.odd), (.inr "talk", .int i.talk), (.inr "seed", .int m.seed)]
theorem p_at (i : Inf) (m : Mv) (n : Int) : putK (stD i m) (.inr "at") (.int n) = stD i { m with att := n } := by rfl
theorem p_rest (i : Inf) (m : Mv) (n : Int) : putK (stD i m) (.inr "rest") (.int n) = stD i { m with rest := n } := by rfl
theorem p_seed (i : Inf) (m : Mv) (n : Int) : putK (stD i m) (.inr "seed") (.int n) = stD i { m with seed := n } := by rfl
theorem p_size (i : Inf) (m : Mv) (n : Int) : putK (stD i m) (.inr "size") (.int n) = stD { i with size := n } m := by rfl
theorem p_place (i : Inf) (m : Mv) (n : Int) : putK (stD i m) (.inr "place") (.int n) = stD { i with place := n } m := by rfl
theorem p_turn (i : Inf) (m : Mv) (n : Int) : putK (stD i m) (.inr "turn") (.int n) = stD { i with turn := n } m := by rfl
theorem p_talk (i : Inf) (m : Mv) (n : Int) : putK (stD i m) (.inr "talk") (.int n) = stD { i with talk := n } m := by rfl
structure Inf.Ok (i : Inf) : Prop where
  s1 : 1 ≤ i.size
  s8 : i.size ≤ 8
  p0 : 0 ≤ i.place
  p1 : i.place < i.size
  t0 : 0 ≤ i.turn
  t1 : i.turn < 26
  k0 : 0 ≤ i.talk
  k1 : i.talk ≤ 1
structure Mv.Ok (m : Mv) : Prop where
  a0 : 0 ≤ m.att
  r0 : 0 ≤ m.rest
  e0 : 0 ≤ m.seed
/-- at s stands a law's state -/
def IsS (K : PySem.W.Frag) (H : Hp) (s : Addr) (i : Inf) : Prop := ∃ (ns : List Int) (m : Mv),
  H s = some (.dK (stD i m)) ∧ SqL K H i.c (ns.map V.int) ∧ ns.length ≤ 63 ∧ i.Ok ∧ m.Ok
theorem IsS.dk {K : PySem.W.Frag} {H : Hp} {s : Addr} {i : Inf} (h : IsS K H s i) : ∃ kvs, H s = some (.dK kvs) := let ⟨_, _, h, _⟩ := h; ⟨_, h⟩
theorem IsS.same {K : PySem.W.Frag} {H H' : Hp} {s : Addr} {i : Inf} (h : IsS K H s i) (e : Same H H') : IsS K H' s i := by
  obtain ⟨ns, m, a, b, c⟩ := h
  exact ⟨ns, m, e _ _ a, Same.seq e b, c⟩
theorem IsS.keep {K : PySem.W.Frag} {H H' : Hp} {s : Addr} {i : Inf} (h : IsS K H s i) (e : Ext s H H') : Keep K H H' := by
  obtain ⟨kvs, hk⟩ := h.dk
  exact e.keep hk
theorem IsS.seq {K : PySem.W.Frag} {H H' : Hp} {s a : Addr} {i : Inf} {xs : List V} (h : IsS K H s i) (e : Ext s H H') (q : SqL K H a xs) : SqL K H' a xs := by
  obtain ⟨kvs, hk⟩ := h.dk
  exact e.seq hk q
theorem IsS.ne {K : PySem.W.Frag} {H : Hp} {s D : Addr} {i : Inf} (h : IsS K H s i) (hD : H D = none) : D ≠ s := fun z => by
  obtain ⟨kvs, hk⟩ := h.dk
  rw [z, hk] at hD
  cases hD
/-- a list that is filled at D stands beside the state -/
theorem IsS.over {K : PySem.W.Frag} {H1 H3 : Hp} {s D : Addr} {i : Inf} {o : HO} (a : IsS K H1 s i) (b : IsS K H3 s i) (x : Ext s H1 (upd H3 D o)) (n : D ≠ s) : IsS K (upd H3 D o) s i := by
  obtain ⟨ns, m, a1, a2, a3, a4, _⟩ := a
  obtain ⟨_, m3, b1, _, _, _, b5⟩ := b
  exact ⟨ns, m3, by rw [upd_ne n.symm]; exact b1, x.seq a1 a2, a3, a4, b5⟩
theorem Ext.over {H1 H3 : Hp} {s D : Addr} (x : Ext s H1 H3) (hD : H1 D = none) (o : HO) : Ext s H1 (L2.upd H3 D o) := fun b u n h => by
  rw [upd_ne (ne_of_none h hD)]
  exact x b u n h
theorem gS {H : Hp} {s : Addr} {i : Inf} {m : Mv} {k : Str} {v : V} (h : H s = some (.dK (stD i m))) (e : valV (stD i m) (.inr k) = some v) : DGet H s (.str k) (some v) := by
  rw [← e]; exact DGet.k (k := Sum.inr k) h
theorem pS {H : Hp} {s : Addr} {i i' : Inf} {m m' : Mv} {k : Str} {v : V} (h : H s = some (.dK (stD i m))) (e : putK (stD i m) (.inr k) v = stD i' m') : DPut H s (.str k) v (upd H s (.dK (stD i' m'))) := by
  rw [← e]; exact DPut.k (k := Sum.inr k) h (by show 10 < sizeLine; decide)
/-- what a drawn number promises -/
def spTaken (K : PySem.W.Frag) : Sp := fun vs H Q _ => ∃ (s : Addr) (i : Inf) (m : Int), vs = [.ref s, .int m] ∧ IsS K H s i ∧ 0 < m ∧ m.natAbs < 2 ^ 200 ∧
  ∀ (r : Int) (H' : Hp), 0 ≤ r → r < m → Ext s H H' → IsS K H' s i → Q (.int r) H'
end Sc
namespace Sc
open PySem PySem.Spec PyProof.Rows L2
/-- the state that a law begins with -/
def spBegun (K : PySem.W.Frag) : Sp := fun vs H Q _ => ∃ (c : Addr) (ns : List Int), vs = [.ref c] ∧ SqL K H c (ns.map V.int) ∧ ns.length ≤ 63 ∧
  ∀ (s : Addr) (i : Inf) (H' : Hp), Same H H' → H s = none → i.c = c → i.odd = 0 → H' i.f = some (.lst []) → H i.f = none → IsS K H' s i → Q (.ref s) H'
end Sc
namespace Sc
open PySem PySem.Spec PyProof.Rows L2
/-! ### words -/
/-- one to eight of the letters from a to z -/
def Word (z : Str) : Prop := 1 ≤ z.cps.toList.length ∧ z.cps.toList.length ≤ 8 ∧ ∀ c ∈ z.cps.toList, 97 ≤ c ∧ c ≤ 122
def talks : List Str := ["size", "at", "row", "is", "has", "get", "put", "look", "let", "each", "fold", "if", "plus", "minus", "join", "push", "name", "text", "book"]
def signAt (n : Nat) : Str := ⟨#[n]⟩
/-- the word of a number -/
def wordOf (i : Inf) (k : Int) : Str :=
  if i.talk = 1 ∧ k < 19 then talks.getD k.toNat Str.empty else reps 113 i.place.toNat ++ signAt (97 + ((k + i.turn) % 26).toNat) ++ reps 113 (i.size - i.place - 1).toNat
theorem app_list (x y : Str) : (x ++ y).cps.toList = x.cps.toList ++ y.cps.toList := Array.toList_append
theorem len_list (x : Str) : x.length = x.cps.toList.length := (Array.length_toList ..).symm
theorem reps_list (c n : Nat) : (reps c n).cps.toList = List.replicate n c := rfl
instance (z : Str) : Decidable (Word z) := by unfold Word; infer_instance
theorem talks_word : ∀ z ∈ talks, Word z := by decide +kernel
theorem word_of {i : Inf} (h : i.Ok) {k : Int} (k0 : 0 ≤ k) : Word (wordOf i k) := by
  unfold wordOf
  split
  · rename_i c
    have lt : k.toNat < talks.length := by show k.toNat < 19; omega
    rw [List.getD_eq_getElem?_getD, List.getElem?_eq_getElem lt]
    exact talks_word _ (List.getElem_mem lt)
  · obtain ⟨s1, s8, p0, p1, t0, t1, _, _⟩ := h
    refine ⟨?_, ?_, fun c hc => ?_⟩
    · rw [app_list, app_list, reps_list, reps_list, List.length_append, List.length_append, List.length_replicate, List.length_replicate]
      show 1 ≤ _ + 1 + _
      omega
    · rw [app_list, app_list, reps_list, reps_list, List.length_append, List.length_append, List.length_replicate, List.length_replicate]
      show _ + 1 + _ ≤ 8
      omega
    · rw [app_list, app_list, reps_list, reps_list, List.mem_append, List.mem_append, List.mem_replicate, List.mem_replicate] at hc
      rcases hc with (hc | hc) | hc
      · omega
      · have e : c = 97 + ((k + i.turn) % 26).toNat := List.mem_singleton.mp hc
        omega
      · omega
def spWord (K : PySem.W.Frag) : Sp := fun vs H Q _ => ∃ (s : Addr) (i : Inf) (k : Int), vs = [.ref s, .int k] ∧ IsS K H s i ∧ 0 ≤ k ∧
  ∀ (H' : Hp), Same H H' → Q (.str (wordOf i k)) H'
/-! ### kinds -/
inductive Ch where
  | num | txt
  | row (k : List Ch) | book (k : List Ch)
  | shape (fs : List (Str × List Ch))
  | letter (l : Str) | cut (l : Str) (hs : List Str)
  | any (w : Str) | wth (f : Str)
mutual
/-- a choice as Python's data -/
def pyC : Ch → PyData
  | .num => .tuple [.str "number"]
  | .txt => .tuple [.str "text"]
  | .row k => .tuple [.str "row", .tuple (pyL k)]
  | .book k => .tuple [.str "book", .tuple (pyL k)]
  | .shape fs => .tuple [.str "shape", .tuple (pyF fs)]
  | .letter l => .tuple [.str "letter", .str l]
  | .cut l hs => .tuple [.str "cut", .str l, .tuple (hs.map .str)]
  | .any w => .tuple [.str "some", .str w]
  | .wth f => .tuple [.str "with", .str f]
def pyL : List Ch → List PyData
  | [] => []
  | c :: r => pyC c :: pyL r
def pyF : List (Str × List Ch) → List PyData
  | [] => []
  | (f, k) :: r => .tuple [.str f, .tuple (pyL k)] :: pyF r
end
theorem pyL_map : ∀ k : List Ch, pyL k = k.map pyC
  | [] => rfl
  | c :: r => by rw [pyL, pyL_map r]; rfl
theorem pyF_map : ∀ fs : List (Str × List Ch), pyF fs = fs.map fun p => .tuple [.str p.1, .tuple (pyL p.2)]
  | [] => rfl
  | (f, k) :: r => by rw [pyF, pyF_map r]; rfl
/-- the value v is the kind k, the choice c -/
abbrev IsK (K : PySem.W.Frag) (H : Hp) (v : V) (k : List Ch) : Prop := Dt K H v (.tuple (pyL k))
abbrev IsC (K : PySem.W.Frag) (H : Hp) (v : V) (c : Ch) : Prop := Dt K H v (pyC c)
/-- a shape's fields: some words, ascending -/
def Fld (zs : List Str) : Prop := zs ≠ [] ∧ zs.length ≤ 26 ∧ zs.Nodup ∧ sortedS zs = true ∧ ∀ z ∈ zs, Word z
mutual
/-- what a law draws: to n deep, letters of ls -/
def okC (ls : List Str) : Nat → Ch → Prop
  | _, .num => True
  | _, .txt => True
  | n, .row k => 0 < n ∧ k ≠ [] ∧ k.length ≤ 3 ∧ okL ls (n - 1) k
  | n, .book k => 0 < n ∧ k ≠ [] ∧ k.length ≤ 3 ∧ okL ls (n - 1) k
  | n, .shape fs => 0 < n ∧ fs.length ≤ 2 ∧ Fld (fs.map (·.1)) ∧ okF ls (n - 1) fs
  | _, .letter l => l ∈ ls
  | _, _ => False
def okL (ls : List Str) : Nat → List Ch → Prop
  | _, [] => True
  | n, c :: r => okC ls n c ∧ okL ls n r
def okF (ls : List Str) : Nat → List (Str × List Ch) → Prop
  | _, [] => True
  | n, (f, k) :: r => Word f ∧ k ≠ [] ∧ k.length ≤ 3 ∧ okL ls n k ∧ okF ls n r
end
theorem okL_snoc {ls : List Str} {n : Nat} {c : Ch} (h : okC ls n c) : ∀ {k : List Ch}, okL ls n k → okL ls n (k ++ [c])
  | [], _ => ⟨h, trivial⟩
  | _ :: _, a => ⟨a.1, okL_snoc h a.2⟩
theorem okF_snoc {ls : List Str} {n : Nat} {f : Str} {l : List Ch} (w : Word f) (l0 : l ≠ []) (l3 : l.length ≤ 3) (h : okL ls n l) : ∀ {fs : List (Str × List Ch)}, okF ls n fs → okF ls n (fs ++ [(f, l)])
  | [], _ => ⟨w, l0, l3, h, trivial⟩
  | _ :: _, a => ⟨a.1, a.2.1, a.2.2.1, a.2.2.2.1, okF_snoc w l0 l3 h a.2.2.2.2⟩
/-- a drawn kind, a drawn choice, drawn fields -/
def spKind (K : PySem.W.Frag) (n : Nat) : Sp := fun vs H Q _ => ∃ (s l : Addr) (i : Inf) (d : Nat) (ls : List Str), vs = [.ref s, .int d, .ref l] ∧ IsS K H s i ∧ d < n ∧ SqL K H l (ls.map V.str) ∧ ls.length ≤ 1000 ∧
  ∀ (v : V) (H' : Hp) (k : List Ch), Ext s H H' → IsS K H' s i → IsK K H' v k → k ≠ [] → k.length ≤ 3 → okL ls d k → Q v H'
def spChoice (K : PySem.W.Frag) (n : Nat) : Sp := fun vs H Q _ => ∃ (s l : Addr) (i : Inf) (d : Nat) (ls : List Str), vs = [.ref s, .int d, .ref l] ∧ IsS K H s i ∧ d < n ∧ SqL K H l (ls.map V.str) ∧ ls.length ≤ 1000 ∧
  ∀ (v : V) (H' : Hp) (c : Ch), Ext s H H' → IsS K H' s i → IsC K H' v c → okC ls d c → Q v H'
def spFields (K : PySem.W.Frag) (n : Nat) : Sp := fun vs H Q _ => ∃ (s l : Addr) (i : Inf) (d : Nat) (ls : List Str), vs = [.ref s, .int (d + 1 : Nat), .ref l] ∧ IsS K H s i ∧ d < n ∧ SqL K H l (ls.map V.str) ∧ ls.length ≤ 1000 ∧
  ∀ (v : V) (H' : Hp) (fs : List (Str × List Ch)), Ext s H H' → IsS K H' s i → Dt K H' v (.tuple (pyF fs)) → fs.length ≤ 2 → Fld (fs.map (·.1)) → okF ls d fs → Q v H'
end Sc
namespace Sc
open PySem PySem.Spec PyProof.Rows L2
/-! ### tests that change nothing -/
theorem and_pure {t u : TT} {σ : L2.St} {H : Hp} {Q : Bool → Hp → Prop} (c1 c2 : Bool) (h1 : ∀ R : Bool → Hp → Prop, R c1 H → t σ H R) (h2 : c1 = true → ∀ R : Bool → Hp → Prop, R c2 H → u σ H R) (hT : c1 = true → c2 = true → Q true H) (hF : ¬ (c1 = true ∧ c2 = true) → Q false H) : tAnd t u σ H Q := by
  refine h1 _ (ite2 (fun a => h2 a _ ?_) fun a => hF fun z => a z.1)
  cases b : c2 with
  | true => exact hT a b
  | false => exact hF fun z => by rw [b] at z; exact Bool.false_ne_true z.2
theorem or_pure {t u : TT} {σ : L2.St} {H : Hp} {Q : Bool → Hp → Prop} (c1 c2 : Bool) (h1 : ∀ R : Bool → Hp → Prop, R c1 H → t σ H R) (h2 : c1 = false → ∀ R : Bool → Hp → Prop, R c2 H → u σ H R) (hT : (c1 = true ∨ c2 = true) → Q true H) (hF : c1 = false → c2 = false → Q false H) : tOr t u σ H Q := by
  refine h1 _ (ite2 (fun a => hT (.inl a)) fun a => h2 (Bool.eq_false_iff.mpr a) _ ?_)
  cases b : c2 with
  | true => exact hT (.inr b)
  | false => exact hF (Bool.eq_false_iff.mpr a) b
theorem eqV_str (x y : Str) : decide (V.str x = V.str y) = decide (x = y) := by
  by_cases h : x = y
  · subst h; simp
  · rw [decide_eq_false h, decide_eq_false]; exact fun z => h (V.str.inj z)
theorem eqV_int (x y : Int) : decide (V.int x = V.int y) = decide (x = y) := by
  by_cases h : x = y
  · subst h; simp
  · rw [decide_eq_false h, decide_eq_false]; exact fun z => h (V.int.inj z)
end Sc
namespace Sc
open PySem PySem.Spec PyProof.Rows L2
theorem iteNo {c A B : Prop} [Decidable c] (h : ¬ c) (b : B) : if c then A else B := by rw [if_neg h]; exact b
theorem iteYes {c A B : Prop} [Decidable c] (h : c) (a : A) : if c then A else B := by rw [if_pos h]; exact a
/-! ### values -/
inductive Vl where
  | num (n : Int) | text (t : Str)
  | row (xs : List Vl) | book (xs : List (Str × Vl)) | shape (xs : List (Str × Vl))
/-- the value x stands at v, its objects among B -/
inductive IsV (H : Hp) (B : Addr → Prop) : V → Vl → Prop
  | num (n : Int) : IsV H B (.int n) (.num n)
  | text (t : Str) : IsV H B (.str t) (.text t)
  | row {a : Addr} (vs : List V) (xs : List Vl) : B a → H a = some (.lst vs) → vs.length = xs.length → (∀ (j : Nat) (v : V) (x : Vl), vs[j]? = some v → xs[j]? = some x → IsV H B v x) → IsV H B (.ref a) (.row xs)
  | book {a : Addr} (vs : List V) (xs : List (Str × Vl)) : B a → H a = some (.dK ((xs.map fun q => Sum.inr q.1).zip vs)) → vs.length = xs.length → (xs.map (·.1)).Nodup → (∀ (j : Nat) (v : V) (q : Str × Vl), vs[j]? = some v → xs[j]? = some q → IsV H B v q.2) → IsV H B (.ref a) (.book xs)
  | shape {a : Addr} (as : List Addr) (vs : List V) (xs : List (Str × Vl)) : Fld (xs.map (·.1)) → B a → H a = some (.tup (as.map V.ref)) → as.length = xs.length → vs.length = xs.length →
      (∀ (j : Nat) (b : Addr) (v : V) (q : Str × Vl), as[j]? = some b → vs[j]? = some v → xs[j]? = some q → B b ∧ H b = some (.tup [.str q.1, v])) →
      (∀ (j : Nat) (v : V) (q : Str × Vl), vs[j]? = some v → xs[j]? = some q → IsV H B v q.2) → IsV H B (.ref a) (.shape xs)
theorem IsV.keep {H H' : Hp} {B B' : Addr → Prop} (e : ∀ a o, B a → H a = some o → B' a ∧ H' a = some o) {v : V} {x : Vl} (h : IsV H B v x) : IsV H' B' v x := by
  induction h with
  | num n => exact .num n
  | text t => exact .text t
  | row vs xs b hv hl _ ih => exact .row vs xs (e _ _ b hv).1 (e _ _ b hv).2 hl ih
  | book vs xs b hv hl nd _ ih => exact .book vs xs (e _ _ b hv).1 (e _ _ b hv).2 hl nd ih
  | shape as vs xs fld b ha hl hl2 hp _ ih => exact .shape as vs xs fld (e _ _ b ha).1 (e _ _ b ha).2 hl hl2 (fun j b v q h1 h2 h3 => let ⟨h4, h5⟩ := hp j b v q h1 h2 h3; e _ _ h4 h5) ih
/-- values one by one -/
def IsVs (H : Hp) (B : Addr → Prop) (vs : List V) (xs : List Vl) : Prop := vs.length = xs.length ∧ ∀ (j : Nat) (v : V) (x : Vl), vs[j]? = some v → xs[j]? = some x → IsV H B v x
theorem IsVs.nil {H : Hp} {B : Addr → Prop} : IsVs H B [] [] := ⟨rfl, fun j v d h => by simp at h⟩
theorem IsVs.keep {H H' : Hp} {B B' : Addr → Prop} (e : ∀ a o, B a → H a = some o → B' a ∧ H' a = some o) {vs : List V} {xs : List Vl} (h : IsVs H B vs xs) : IsVs H' B' vs xs := ⟨h.1, fun j v x a b => (h.2 j v x a b).keep e⟩
theorem IsVs.snoc {H : Hp} {B : Addr → Prop} {v : V} {d : Vl} {vs : List V} {ds : List Vl} (t : IsVs H B vs ds) (h : IsV H B v d) : IsVs H B (vs ++ [v]) (ds ++ [d]) := by
  refine ⟨by rw [List.length_append, List.length_append, t.1]; rfl, fun j u e h1 h2 => ?_⟩
  by_cases lt : j < vs.length
  · rw [List.getElem?_append_left lt] at h1
    rw [List.getElem?_append_left (t.1 ▸ lt)] at h2
    exact t.2 j u e h1 h2
  · rw [List.getElem?_append_right (by omega)] at h1
    rw [List.getElem?_append_right (by have := t.1; omega)] at h2
    have z : j - vs.length = 0 := by
      have := (List.getElem?_eq_some_iff.mp h1).1
      simp at this
      omega
    rw [z] at h1
    rw [← t.1, z] at h2
    cases h1; cases h2; exact h
/-- what a value's type is -/
def headT : Vl → String
  | .num _ => "int" | .text _ => "str" | .row _ => "list" | .book _ => "dict" | .shape _ => "tuple"
theorem IsV.ty {K : PySem.W.Frag} {H : Hp} {B : Addr → Prop} {v : V} {x : Vl} (h : IsV H B v x) : TyX K H v (.type (headT x)) := by
  cases h with
  | num n => exact .base (.int n)
  | text t => exact .base (.str t)
  | row vs xs b hv => exact .base (.lst hv)
  | book vs xs b hv => exact .base (.dK hv)
  | shape as vs xs _ b ha => exact .base (.tup ha)
/-! ### heads -/
def blank : Str := " "
/-- the head's text of fields, behind the word shape -/
def headV : Vl → Str
  | .num _ => "number" | .text _ => "text" | .row _ => "row" | .book _ => "book" | .shape xs => Txt.join " " ("shape" :: xs.map (·.1))
theorem joinL_cons (S p : List Nat) : ∀ ps : List (List Nat), ps ≠ [] → TL.joinL S (p :: ps) = p ++ (S ++ TL.joinL S ps)
  | [], h => absurd rfl h
  | _ :: _, _ => rfl
end Sc
namespace Sc
open PySem PySem.Spec PyProof.Rows L2
/-- a text of up to three signs, from the blank to ~ but the percent sign -/
def Tex (t : Str) : Prop := t.cps.toList.length ≤ 3 ∧ ∀ c ∈ t.cps.toList, 32 ≤ c ∧ c ≤ 126 ∧ c ≠ 37
def spText (K : PySem.W.Frag) : Sp := fun vs H Q _ => ∃ (s : Addr) (i : Inf), vs = [.ref s] ∧ IsS K H s i ∧
  ∀ (t : Str) (H' : Hp), Ext s H H' → IsS K H' s i → Tex t → Q (.str t) H'
def spNumber (K : PySem.W.Frag) : Sp := fun vs H Q _ => ∃ (s : Addr) (i : Inf), vs = [.ref s] ∧ IsS K H s i ∧
  ∀ (n : Int) (H' : Hp), Ext s H H' → IsS K H' s i → -10 ^ 30 < n → n < 10 ^ 30 → Q (.int n) H'
/-- a drawn value of a kind without letters -/
def spValue (K : PySem.W.Frag) (n : Nat) : Sp := fun vs H Q _ => ∃ (s : Addr) (i : Inf) (v st : V) (d : Nat) (k : List Ch), vs = [.ref s, v, st] ∧ IsS K H s i ∧ d < n ∧ IsK K H v k ∧ k ≠ [] ∧ k.length ≤ 3 ∧ okL [] d k ∧
  ∀ (r : V) (H' : Hp) (x : Vl), Ext s H H' → IsS K H' s i → IsV H' (fun a => H a = none) r x → Q r H'
theorem IsS.freed {K : PySem.W.Frag} {H H' : Hp} {s l : Addr} {i : Inf} (a : IsS K H s i) (b : IsS K H' s i) (e : Ext s H H') (h : H' l = none) : H l = none := by
  obtain ⟨k1, h1⟩ := a.dk
  obtain ⟨k2, h2⟩ := b.dk
  exact e.free h1 ⟨_, h2⟩ h
end Sc
namespace Sc
open PySem PySem.Spec PyProof.Rows L2
/-- what follows, once for all ways -/
theorem seq_with {t u : TS} {D : Ends} {σ : L2.St} {H : Hp} (F : (L2.St → Hp → Prop) → Prop) (h1 : F (u D)) (h2 : F (u D) → t { D with nx := u D } σ H) : tSeq t u D σ H := h2 h1
theorem mem_put {kvs : List (Key × V)} {k : Key} {v : V} {p : Key × V} (h : p ∈ putK kvs k v) : p = (k, v) ∨ p ∈ kvs := by
  unfold putK at h
  split at h
  · obtain ⟨q, hq, e⟩ := List.mem_map.mp h
    by_cases z : q.1 = k
    · rw [if_pos z] at e
      exact .inl (e ▸ z ▸ rfl)
    · rw [if_neg z] at e
      exact .inr (e ▸ hq)
  · rcases List.mem_append.mp h with h | h
    · exact .inr h
    · exact .inl (List.mem_singleton.mp h)
theorem nd_put {kvs : List (Key × V)} (k : Key) (v : V) (nd : (kvs.map (·.1)).Nodup) : ((putK kvs k v).map (·.1)).Nodup := by
  cases z : valV kvs k with
  | none => exact nd_putK v nd z
  | some y =>
    have e : (putK kvs k v).map (·.1) = kvs.map (·.1) := by
      unfold putK
      rw [valV_any, z, if_pos (show (some y).isSome = true from rfl), List.map_map]
      refine List.map_congr_left fun p _ => ?_
      show (if p.1 = k then (p.1, v) else p).1 = p.1
      split <;> rfl
    rw [e]
    exact nd
theorem put_len (kvs : List (Key × V)) (k : Key) (v : V) : (putK kvs k v).length ≤ kvs.length + 1 := by
  unfold putK
  split
  · rw [List.length_map]; omega
  · rw [List.length_append]; exact Nat.le_refl _
/-- a dict of texts with values, as a book -/
theorem book_of {H : Hp} {B : Addr → Prop} : ∀ kvs : List (Key × V), (∀ p ∈ kvs, ∃ t x, p.1 = Sum.inr t ∧ IsV H B p.2 x) → (kvs.map (·.1)).Nodup →
    ∃ (vs : List V) (xs : List (Str × Vl)), kvs = (xs.map fun q => Sum.inr q.1).zip vs ∧ vs.length = xs.length ∧ (xs.map (·.1)).Nodup ∧ (∀ t, t ∈ xs.map (·.1) → (Sum.inr t : Key) ∈ kvs.map (·.1)) ∧ ∀ (j : Nat) (v : V) (q : Str × Vl), vs[j]? = some v → xs[j]? = some q → IsV H B v q.2
  | [], _, _ => ⟨[], [], rfl, rfl, List.nodup_nil, fun t h => by simp at h, fun j v q h => by simp at h⟩
  | (k, v) :: r, h, nd => by
    obtain ⟨t, x, rfl, hx⟩ := h _ List.mem_cons_self
    have nd' : ((Sum.inr t : Key) :: r.map (·.1)).Nodup := nd
    obtain ⟨n1, n2⟩ := List.nodup_cons.mp nd'
    obtain ⟨vs, xs, e, hl, nd2, hm, ha⟩ := book_of r (fun p hp => h p (List.mem_cons_of_mem _ hp)) n2
    refine ⟨v :: vs, (t, x) :: xs, by rw [e]; rfl, congrArg (· + 1) hl, List.nodup_cons.mpr ⟨fun z => n1 (hm t z), nd2⟩, fun u hu => ?_, fun j v' q h1 h2 => ?_⟩
    · rcases List.mem_cons.mp hu with z | z
      · rw [z]; exact List.mem_cons_self
      · exact List.mem_cons_of_mem _ (hm u z)
    · cases j with
      | zero => cases h1; cases h2; exact hx
      | succ j => exact ha j v' q h1 h2
theorem okL_mem {ls : List Str} {n : Nat} {c : Ch} : ∀ {k : List Ch}, okL ls n k → c ∈ k → okC ls n c
  | _ :: _, h, m => by
    rcases List.mem_cons.mp m with z | z
    · rw [z]; exact h.1
    · exact okL_mem h.2 z
theorem okF_mem {ls : List Str} {n : Nat} {p : Str × List Ch} : ∀ {fs : List (Str × List Ch)}, okF ls n fs → p ∈ fs → Word p.1 ∧ p.2 ≠ [] ∧ p.2.length ≤ 3 ∧ okL ls n p.2
  | (_, _) :: _, h, m => by
    rcases List.mem_cons.mp m with z | z
    · rw [z]; exact ⟨h.1, h.2.1, h.2.2.1, h.2.2.2.1⟩
    · exact okF_mem h.2.2.2.2 z
end Sc
namespace Sc
open PySem PySem.Spec PyProof.Rows L2
section
variable {X : Cx}
/-! rules within a comprehension's block: the written part said by its name -/
theorem ix_tupK (K : PySem.W.Frag) (h : X.K = K := by rfl) : IxR X (rIxT K) := h ▸ ix_tup
theorem ix_listK (K : PySem.W.Frag) (h : X.K = K := by rfl) : IxR X (rIxL K) := h ▸ ix_list
end
end Sc
namespace Sc
open PySem PySem.Spec PyProof.Rows L2
theorem Dt.strOf {K : PySem.W.Frag} {H : Hp} {v : V} {z : Str} (h : Dt K H v (.str z)) : v = .str z := by cases h; rfl
theorem Dts.uncons {K : PySem.W.Frag} {H : Hp} {vs : List V} {d : PyData} {ds : List PyData} (h : Dts K H vs (d :: ds)) : ∃ v us, vs = v :: us ∧ Dt K H v d ∧ Dts K H us ds := by
  cases vs with
  | nil => exact absurd h.1 (by simp)
  | cons v us => exact ⟨v, us, rfl, h.head, h.tail⟩
theorem Dts.unnil {K : PySem.W.Frag} {H : Hp} {vs : List V} (h : Dts K H vs []) : vs = [] := List.length_eq_zero_iff.mp h.1
/-- a tuple of a text -/
theorem Dt.one {K : PySem.W.Frag} {H : Hp} {v : V} {z : Str} (h : Dt K H v (.tuple [.str z])) : ∃ a, v = .ref a ∧ SqT K H a [.str z] := by
  obtain ⟨a, vs, rfl, ht, hd⟩ := h.open
  obtain ⟨u, us, rfl, h1, h2⟩ := hd.uncons
  rw [h1.strOf, h2.unnil] at ht
  exact ⟨a, rfl, ht⟩
/-- a tuple of a text and more -/
theorem Dt.two {K : PySem.W.Frag} {H : Hp} {v : V} {z : Str} {d : PyData} (h : Dt K H v (.tuple [.str z, d])) : ∃ a u, v = .ref a ∧ SqT K H a [.str z, u] ∧ Dt K H u d := by
  obtain ⟨a, vs, rfl, ht, hd⟩ := h.open
  obtain ⟨u, us, rfl, h1, h2⟩ := hd.uncons
  obtain ⟨u2, us2, rfl, h3, h4⟩ := h2.uncons
  rw [h1.strOf, h4.unnil] at ht
  exact ⟨a, u2, rfl, ht, h3⟩
theorem drawn_form {d : Nat} {c : Ch} (h : okC [] d c) : c = .num ∨ c = .txt ∨ (∃ d' fs, d = d' + 1 ∧ c = .shape fs ∧ Fld (fs.map (·.1)) ∧ fs.length ≤ 2 ∧ okF [] d' fs) ∨
    ∃ (d' : Nat) (wd : Str) (kk : List Ch), d = d' + 1 ∧ (wd = "row" ∨ wd = "book") ∧ pyC c = .tuple [.str wd, .tuple (pyL kk)] ∧ kk ≠ [] ∧ kk.length ≤ 3 ∧ okL [] d' kk := by
  cases c with
  | num => exact .inl rfl
  | txt => exact .inr (.inl rfl)
  | row k =>
    obtain ⟨h0, h1, h2, h3⟩ : 0 < d ∧ k ≠ [] ∧ k.length ≤ 3 ∧ okL [] (d - 1) k := h
    exact .inr (.inr (.inr ⟨d - 1, "row", k, by omega, .inl rfl, rfl, h1, h2, h3⟩))
  | book k =>
    obtain ⟨h0, h1, h2, h3⟩ : 0 < d ∧ k ≠ [] ∧ k.length ≤ 3 ∧ okL [] (d - 1) k := h
    exact .inr (.inr (.inr ⟨d - 1, "book", k, by omega, .inr rfl, rfl, h1, h2, h3⟩))
  | shape fs =>
    obtain ⟨h0, h1, h2, h3⟩ : 0 < d ∧ fs.length ≤ 2 ∧ Fld (fs.map (·.1)) ∧ okF [] (d - 1) fs := h
    exact .inr (.inr (.inl ⟨d - 1, fs, by omega, rfl, h2, h1, h3⟩))
  | letter l => exact absurd (show l ∈ [] from h) (by simp)
  | cut l hs => exact (show False from h).elim
  | any l => exact (show False from h).elim
  | wth l => exact (show False from h).elim
end Sc
namespace Sc
open PySem PySem.Spec PyProof.Rows L2
/-! ### the names that lead pairs -/
def Names (K : PySem.W.Frag) (H : Hp) (a : Addr) (zs : List Str) : Prop := ∃ ps : List V, SqT K H a ps ∧ ps.length = zs.length ∧ ∀ (j : Nat) (p : V) (z : Str), ps[j]? = some p → zs[j]? = some z → ∃ b us, p = .ref b ∧ SqT K H b (.str z :: us)
theorem names_shape {K : PySem.W.Frag} {H : Hp} {B : Addr → Prop} {v : V} {xs : List (Str × Vl)} (h : IsV H B v (.shape xs)) : ∃ a, v = .ref a ∧ Names K H a (xs.map (·.1)) ∧ Fld (xs.map (·.1)) := by
  cases h with
  | @shape a as vs xs fld b ha hl hl2 hp hv =>
    refine ⟨a, rfl, ⟨as.map V.ref, SqT.of ha, by rw [List.length_map, List.length_map, hl], fun j p z h1 h2 => ?_⟩, fld⟩
    rw [List.getElem?_map] at h1 h2
    obtain ⟨b', h3, rfl⟩ := Option.map_eq_some_iff.mp h1
    obtain ⟨q, h4, rfl⟩ := Option.map_eq_some_iff.mp h2
    have lt : j < vs.length := by rw [hl2]; exact (List.getElem?_eq_some_iff.mp h4).1
    exact ⟨b', [vs[j]], rfl, SqT.of (hp j b' vs[j] q h3 (List.getElem?_eq_getElem lt) h4).2⟩
theorem names_kind {K : PySem.W.Frag} {H : Hp} {v : V} {fs : List (Str × List Ch)} (h : Dt K H v (.tuple (pyF fs))) : ∃ a, v = .ref a ∧ Names K H a (fs.map (·.1)) := by
  obtain ⟨a, ps, rfl, ht, hd⟩ := h.open
  refine ⟨a, rfl, ps, ht, by rw [hd.1, pyF_map, List.length_map, List.length_map], fun j p z h1 h2 => ?_⟩
  obtain ⟨d, h3, h4⟩ := hd.at h1
  rw [pyF_map, List.getElem?_map] at h3
  rw [List.getElem?_map] at h2
  obtain ⟨q, h5, rfl⟩ := Option.map_eq_some_iff.mp h3
  obtain ⟨q', h6, rfl⟩ := Option.map_eq_some_iff.mp h2
  rw [h5] at h6
  cases h6
  obtain ⟨b, u, e, hb, _⟩ := h4.two
  exact ⟨b, [u], e, hb⟩
theorem Keep.names {K : PySem.W.Frag} {H H' : Hp} {a : Addr} {zs : List Str} (e : Keep K H H') (h : Names K H a zs) : Names K H' a zs := by
  obtain ⟨ps, h1, h2, h3⟩ := h
  exact ⟨ps, e _ _ h1, h2, fun j p z g1 g2 => let ⟨b, us, e1, e2⟩ := h3 j p z g1 g2; ⟨b, us, e1, e _ _ e2⟩⟩
theorem Fld.sum {zs : List Str} (h : Fld zs) : (zs.map (·.length)).sum ≤ 208 := by
  obtain ⟨_, h26, _, _, hw⟩ := h
  have g : ∀ zs : List Str, (∀ z ∈ zs, Word z) → (zs.map (·.length)).sum ≤ zs.length * 8 := fun zs => by
    induction zs with
    | nil => exact fun _ => Nat.le_refl _
    | cons z zs ih =>
      intro h
      have := ih fun y hy => h y (List.mem_cons_of_mem _ hy)
      have := (h z List.mem_cons_self).2.1
      rw [List.map_cons, List.sum_cons, len_list, List.length_cons]
      omega
  have := g zs hw
  omega
def spShapeHead (K : PySem.W.Frag) : Sp := fun vs H Q _ => ∃ (a : Addr) (zs : List Str), vs = [.ref a] ∧ Names K H a zs ∧ zs.length ≤ 100 ∧ (zs.map (·.length)).sum ≤ 10000 ∧
  ∀ (H' : Hp), Same H H' → Q (.str (Txt.join " " ("shape" :: zs))) H'
def spHeadOf (K : PySem.W.Frag) : Sp := fun vs H Q _ => ∃ (v : V) (B : Addr → Prop) (x : Vl), vs = [v] ∧ IsV H B v x ∧
  ∀ (H' : Hp), Same H H' → Q (.str (headV x)) H'
theorem sum_le_add (zs : List Str) (n : Nat) : (zs.map (·.length)).sum + zs.length * n = (zs.map fun z => z.length + n).sum := by
  induction zs with
  | nil => simp
  | cons z zs ih =>
    rw [List.map_cons, List.map_cons, List.sum_cons, List.sum_cons, List.length_cons, ← ih, Nat.add_mul]
    omega
/-- shape, and the fields behind it -/
theorem head_text {zs : List Str} (h : zs ≠ []) : Txt.join " " ("shape" :: zs) = ("shape " : Str) ++ Txt.join " " zs := by
  refine TL.ext_tl ?_
  rw [TL.tl_append, TL.join_eq, TL.join_eq, TL.tl_join, TL.tl_join, List.map_cons, joinL_cons _ _ _ (by simpa using h), ← List.append_assoc]
  congr 1
/-! ### words that differ -/
def odds (z : Str) : Nat := (z.cps.toList.filter fun c => decide (c ≠ 113)).length
theorem talks_odds : ∀ z ∈ talks, 2 ≤ odds z := by decide +kernel
theorem talks_nodup : talks.Nodup := by decide +kernel
theorem plain_odds (p c r : Nat) : odds (reps 113 p ++ signAt c ++ reps 113 r) ≤ 1 := by
  unfold odds
  have z : ∀ n, (List.replicate n 113).filter (fun c => decide (c ≠ 113)) = [] := fun n => List.filter_eq_nil_iff.mpr fun a h => by
    rw [(List.mem_replicate.mp h).2]; decide
  rw [app_list, app_list, reps_list, reps_list, List.filter_append, List.filter_append, z, z, List.nil_append, List.append_nil]
  show ([c].filter _).length ≤ 1
  exact List.length_filter_le _ _
theorem word_inj {i : Inf} (ok : i.Ok) {a b : Int} (a0 : 0 ≤ a) (a26 : a < 26) (b0 : 0 ≤ b) (b26 : b < 26) (h : wordOf i a = wordOf i b) : a = b := by
  have tk : ∀ k : Int, 0 ≤ k → k < 19 → ∃ lt : k.toNat < talks.length, talks.getD k.toNat Str.empty = talks[k.toNat] := fun k k0 k1 => by
    have lt : k.toNat < talks.length := by show k.toNat < 19; omega
    exact ⟨lt, by rw [List.getD_eq_getElem?_getD, List.getElem?_eq_getElem lt]; rfl⟩
  unfold wordOf at h
  split at h <;> split at h
  · rename_i ca cb
    obtain ⟨la, ea⟩ := tk a a0 ca.2
    obtain ⟨lb, eb⟩ := tk b b0 cb.2
    rw [ea, eb] at h
    have := (List.getElem_inj talks_nodup).mp h
    omega
  · rename_i ca cb
    obtain ⟨la, ea⟩ := tk a a0 ca.2
    have := talks_odds _ (List.getElem_mem la)
    rw [← ea, h] at this
    exact absurd (Nat.le_trans this (plain_odds _ _ _)) (by decide)
  · rename_i ca cb
    obtain ⟨lb, eb⟩ := tk b b0 cb.2
    have := talks_odds _ (List.getElem_mem lb)
    rw [← eb, ← h] at this
    exact absurd (Nat.le_trans this (plain_odds _ _ _)) (by decide)
  · have e := congrArg (fun z : Str => z.cps.toList[i.place.toNat]?) h
    rw [app_list, app_list, app_list, app_list, reps_list, reps_list] at e
    have g : ∀ c : Nat, (List.replicate i.place.toNat 113 ++ (signAt c).cps.toList ++ List.replicate (i.size - i.place - 1).toNat 113)[i.place.toNat]? = some c := fun c => by
      rw [List.append_assoc, List.getElem?_append_right (by rw [List.length_replicate]; exact Nat.le_refl _), List.length_replicate, Nat.sub_self]
      rfl
    rw [g, g] at e
    have e2 := Option.some.inj e
    have t0 := ok.t0
    have t1 := ok.t1
    omega
end Sc
namespace Sc
open PySem PySem.Spec PyProof.Rows L2
theorem no_bool (x : Vl) : kitB (headT x) "bool" = some false := by
  cases x with
  | num _ => exact (by decide +kernel : kitB "int" "bool" = some false)
  | text _ => exact (by decide +kernel : kitB "str" "bool" = some false)
  | row _ => exact (by decide +kernel : kitB "list" "bool" = some false)
  | book _ => exact (by decide +kernel : kitB "dict" "bool" = some false)
  | shape _ => exact (by decide +kernel : kitB "tuple" "bool" = some false)
theorem joinL_len (S : List Nat) : ∀ ps : List (List Nat), (TL.joinL S ps).length ≤ (ps.map (·.length)).sum + ps.length * S.length
  | [] => Nat.zero_le _
  | [p] => by
    show p.length ≤ [p.length].sum + 1 * _
    simp
  | p :: q :: r => by
    have ih := joinL_len S (q :: r)
    rw [joinL_cons _ _ _ (by simp), List.length_append, List.length_append, List.map_cons, List.sum_cons, List.length_cons, Nat.add_mul]
    omega
theorem join_len (y : Str) (zs : List Str) : (Txt.join y zs).length ≤ (zs.map (·.length)).sum + zs.length * y.length := by
  have e : (Txt.join y zs).length = (TL.joinL (TL.tl y) (zs.map TL.tl)).length := by
    rw [len_list]
    exact congrArg List.length ((congrArg TL.tl (TL.join_eq y zs)).trans (TL.tl_join y zs))
  rw [e]
  refine Nat.le_trans (joinL_len _ _) ?_
  rw [List.map_map, List.length_map, len_list y]
  refine Nat.add_le_add_right (Nat.le_of_eq (congrArg List.sum (List.map_congr_left fun z _ => ?_))) _
  exact (len_list z).symm
end Sc
namespace Sc
open PySem PySem.Spec PyProof.Rows L2
/-! ### the texts of kinds -/
def mkS (l : List Nat) : Str := ⟨l.toArray⟩
theorem tl_mkS (l : List Nat) : TL.tl (mkS l) = l := rfl
theorem mkS_tl (z : Str) : mkS (TL.tl z) = z := TL.ext_tl rfl
def bar : List Nat := TL.tl " | "
def com : List Nat := TL.tl ", "
mutual
/-- the signs of a choice's text -/
def cC : Ch → List Nat
  | .num => TL.tl "number"
  | .txt => TL.tl "text"
  | .row k => TL.tl "row" ++ 40 :: (TL.joinL bar (cL k) ++ [41])
  | .book k => TL.tl "book" ++ 40 :: (TL.joinL bar (cL k) ++ [41])
  | .shape fs => 123 :: (TL.joinL com (cF fs) ++ [125])
  | .letter l => TL.tl l
  | .cut l hs => TL.tl l ++ 40 :: (TL.joinL com (hs.map TL.tl) ++ [41])
  | .any w => TL.tl "some" ++ 32 :: TL.tl w
  | .wth f => TL.tl "with" ++ 32 :: TL.tl f
def cL : List Ch → List (List Nat)
  | [] => []
  | c :: r => cC c :: cL r
def cF : List (Str × List Ch) → List (List Nat)
  | [] => []
  | (f, k) :: r => (TL.tl f ++ 58 :: 32 :: TL.joinL bar (cL k)) :: cF r
end
theorem cL_map : ∀ k : List Ch, cL k = k.map cC
  | [] => rfl
  | c :: r => by rw [cL, cL_map r]; rfl
theorem cF_map : ∀ fs : List (Str × List Ch), cF fs = fs.map fun p => TL.tl p.1 ++ 58 :: 32 :: TL.joinL bar (cL p.2)
  | [] => rfl
  | (f, k) :: r => by rw [cF, cF_map r]; rfl
def txC (c : Ch) : Str := mkS (cC c)
def txK (k : List Ch) : Str := mkS (TL.joinL bar (cL k))
def txF (p : Str × List Ch) : Str := mkS (TL.tl p.1 ++ 58 :: 32 :: TL.joinL bar (cL p.2))
theorem txK_join (k : List Ch) : Txt.join " | " (k.map txC) = txK k := by
  refine TL.ext_tl ?_
  rw [TL.join_eq, TL.tl_join, List.map_map]
  show TL.joinL bar (k.map cC) = TL.joinL bar (cL k)
  rw [cL_map]
mutual
/-- how deep -/
def dC : Ch → Nat
  | .row k => dL k + 1
  | .book k => dL k + 1
  | .shape fs => dF fs + 1
  | _ => 0
def dL : List Ch → Nat
  | [] => 0
  | c :: r => max (dC c) (dL r)
def dF : List (Str × List Ch) → Nat
  | [] => 0
  | (_, k) :: r => max (dL k) (dF r)
end
theorem dL_mem {c : Ch} : ∀ {k : List Ch}, c ∈ k → dC c ≤ dL k
  | d :: r, h => by
    rcases List.mem_cons.mp h with e | e
    · rw [e]; exact Nat.le_max_left _ _
    · exact Nat.le_trans (dL_mem e) (Nat.le_max_right _ _)
theorem dF_mem {p : Str × List Ch} : ∀ {fs : List (Str × List Ch)}, p ∈ fs → dL p.2 ≤ dF fs
  | (f, k) :: r, h => by
    rcases List.mem_cons.mp h with e | e
    · rw [e]; exact Nat.le_max_left _ _
    · exact Nat.le_trans (dF_mem e) (Nat.le_max_right _ _)
theorem joinL_mem (S : List Nat) {p : List Nat} : ∀ {ps : List (List Nat)}, p ∈ ps → p.length ≤ (TL.joinL S ps).length
  | [q], h => by rw [List.mem_singleton.mp h]; exact Nat.le_refl _
  | q :: r :: t, h => by
    rw [joinL_cons _ _ _ (by simp), List.length_append, List.length_append]
    rcases List.mem_cons.mp h with e | e
    · rw [e]; omega
    · have := joinL_mem S (ps := r :: t) e
      omega
theorem joinL_sum (S : List Nat) : ∀ (p : List Nat) (ps : List (List Nat)), (TL.joinL S (p :: ps)).length = p.length + ((ps.map (·.length)).sum + ps.length * S.length)
  | p, [] => by show p.length = _; simp
  | p, q :: r => by
    rw [joinL_cons _ _ _ (by simp), List.length_append, List.length_append, joinL_sum S q r, List.map_cons, List.sum_cons, List.length_cons, Nat.add_mul]
    omega
/-- what join asks of the parts' lengths -/
theorem join_room {y : Str} {zs : List Str} {n : Nat} (h : (TL.joinL (TL.tl y) (zs.map TL.tl)).length ≤ n) : (zs.map (·.length)).sum + zs.length * y.length ≤ n + y.length := by
  cases zs with
  | nil => simp
  | cons z zs =>
    rw [List.map_cons, joinL_sum] at h
    rw [List.map_cons, List.sum_cons, List.length_cons, Nat.add_mul, len_list y, len_list z]
    have e : ((zs.map TL.tl).map (·.length)).sum = (zs.map (·.length)).sum := by
      rw [List.map_map]
      exact congrArg List.sum (List.map_congr_left fun x _ => (len_list x).symm)
    rw [e, List.length_map] at h
    show z.cps.toList.length + _ + _ ≤ _
    have h' : z.cps.toList.length + ((zs.map (·.length)).sum + zs.length * y.cps.toList.length) ≤ n := h
    omega
theorem joinL_many (S : List Nat) (hS : 1 ≤ S.length) : ∀ ps : List (List Nat), ps.length ≤ (TL.joinL S ps).length + 1
  | [] => Nat.zero_le _
  | p :: ps => by
    rw [joinL_sum, List.length_cons]
    have : ps.length ≤ ps.length * S.length := Nat.le_mul_of_pos_right _ hS
    omega
/-! ### promises of what tells -/
def spTellK (K : PySem.W.Frag) (n : Nat) : Sp := fun vs H Q _ => ∃ (v : V) (k : List Ch), vs = [v] ∧ IsK K H v k ∧ dL k < n ∧ (txK k).length ≤ 1000000 ∧
  ∀ (H' : Hp), Same H H' → Q (.str (txK k)) H'
def spTellC (K : PySem.W.Frag) (n : Nat) : Sp := fun vs H Q _ => ∃ (v : V) (c : Ch), vs = [v] ∧ IsC K H v c ∧ dC c < n ∧ (txC c).length ≤ 1000000 ∧
  ∀ (H' : Hp), Same H H' → Q (.str (txC c)) H'
theorem tx_len (l : List Nat) : (mkS l).length = l.length := by rw [len_list]; rfl
/-- the word that leads a choice, what follows -/
def wdC : Ch → Str
  | .num => "number" | .txt => "text" | .row _ => "row" | .book _ => "book" | .shape _ => "shape" | .letter _ => "letter" | .cut _ _ => "cut" | .any _ => "some" | .wth _ => "with"
def restC : Ch → List PyData
  | .num => [] | .txt => []
  | .row k => [.tuple (pyL k)] | .book k => [.tuple (pyL k)]
  | .shape fs => [.tuple (pyF fs)]
  | .letter l => [.str l] | .cut l hs => [.str l, .tuple (hs.map .str)]
  | .any w => [.str w] | .wth f => [.str f]
theorem pyC_cons (c : Ch) : pyC c = .tuple (.str (wdC c) :: restC c) := by cases c <;> rfl
/-- a choice's tuple -/
theorem Dt.lead {K : PySem.W.Frag} {H : Hp} {v : V} {c : Ch} (h : Dt K H v (pyC c)) : ∃ a us, v = .ref a ∧ SqT K H a (.str (wdC c) :: us) ∧ Dts K H us (restC c) := by
  rw [pyC_cons c] at h
  obtain ⟨a, vs, rfl, ht, hd⟩ := h.open
  obtain ⟨u, us, rfl, h1, h2⟩ := hd.uncons
  rw [h1.strOf] at ht
  exact ⟨a, us, rfl, ht, h2⟩
theorem Dts.one {K : PySem.W.Frag} {H : Hp} {us : List V} {d : PyData} (h : Dts K H us [d]) : ∃ u, us = [u] ∧ Dt K H u d := by
  obtain ⟨u, us', rfl, h1, h2⟩ := h.uncons
  exact ⟨u, by rw [h2.unnil], h1⟩
/-- texts in a row -/
theorem Dts.strs {K : PySem.W.Frag} {H : Hp} : ∀ {zs : List Str} {vs : List V}, Dts K H vs (zs.map .str) → vs = zs.map V.str
  | [], vs, h => h.unnil
  | z :: zs, vs, h => by
    obtain ⟨u, us, rfl, h1, h2⟩ := Dts.uncons h
    rw [h1.strOf, Dts.strs h2]
    rfl
theorem strs_dts {K : PySem.W.Frag} {H : Hp} : ∀ zs : List Str, Dts K H (zs.map V.str) (zs.map .str)
  | [] => .nil
  | z :: zs => (strs_dts zs).cons (.str z)
theorem op_inT (K : PySem.W.Frag) {X : Cx} (h : X.K = K := by rfl) : OpR X (compareOp .In) (rIn K false) := h ▸ op_in_seq
end Sc
namespace Sc
open PySem PySem.Spec PyProof.Rows L2
theorem app_len (x y : Str) : (x ++ y).length = x.length + y.length := by
  rw [len_list, len_list, len_list, app_list, List.length_append]
theorem sizeOk {n : Nat} (h : n ≤ 2000000) : n ≤ sizeLine := by rw [sizeLine_eq]; omega
theorem txC_rb (k : List Ch) {c : Ch} (h : c = .row k ∨ c = .book k) : txC c = Str.empty ++ wdC c ++ ("(" : Str) ++ txK k ++ (")" : Str) := by
  refine TL.ext_tl ?_
  rcases h with rfl | rfl
  · show TL.tl "row" ++ 40 :: (TL.joinL bar (cL k) ++ [41]) = _
    simp only [TL.tl_append]
    show _ = TL.tl "row" ++ [40] ++ TL.joinL bar (cL k) ++ [41]
    simp only [List.append_assoc, List.cons_append, List.nil_append]
  · show TL.tl "book" ++ 40 :: (TL.joinL bar (cL k) ++ [41]) = _
    simp only [TL.tl_append]
    show _ = TL.tl "book" ++ [40] ++ TL.joinL bar (cL k) ++ [41]
    simp only [List.append_assoc, List.cons_append, List.nil_append]
theorem txF_eq (p : Str × List Ch) : txF p = Str.empty ++ p.1 ++ (": " : Str) ++ txK p.2 := by
  refine TL.ext_tl ?_
  simp only [TL.tl_append]
  show TL.tl p.1 ++ 58 :: 32 :: TL.joinL bar (cL p.2) = TL.tl p.1 ++ [58, 32] ++ TL.joinL bar (cL p.2)
  simp only [List.append_assoc, List.cons_append, List.nil_append]
theorem txC_shape (fs : List (Str × List Ch)) : txC (.shape fs) = ("{" : Str) ++ Txt.join ", " (fs.map txF) ++ ("}" : Str) := by
  refine TL.ext_tl ?_
  simp only [TL.tl_append]
  rw [TL.join_eq, TL.tl_join, List.map_map]
  show 123 :: (TL.joinL com (cF fs) ++ [125]) = [123] ++ TL.joinL com _ ++ [125]
  rw [cF_map]
  rfl
theorem txC_cut (l : Str) (hs : List Str) : txC (.cut l hs) = l ++ ("(" : Str) ++ Txt.join ", " hs ++ (")" : Str) := by
  refine TL.ext_tl ?_
  simp only [TL.tl_append]
  rw [TL.join_eq, TL.tl_join]
  show TL.tl l ++ 40 :: (TL.joinL com (hs.map TL.tl) ++ [41]) = TL.tl l ++ [40] ++ TL.joinL com (hs.map TL.tl) ++ [41]
  simp only [List.append_assoc, List.cons_append, List.nil_append]
theorem txC_any (w : Str) : txC (.any w) = Txt.join " " ["some", w] := by
  refine TL.ext_tl ?_
  rw [TL.join_eq, TL.tl_join]
  rfl
theorem txC_wth (w : Str) : txC (.wth w) = Txt.join " " ["with", w] := by
  refine TL.ext_tl ?_
  rw [TL.join_eq, TL.tl_join]
  rfl
theorem txC_num : txC .num = Txt.join " " ["number"] := by
  refine TL.ext_tl ?_
  rw [TL.join_eq, TL.tl_join]
  rfl
theorem txC_txt : txC .txt = Txt.join " " ["text"] := by
  refine TL.ext_tl ?_
  rw [TL.join_eq, TL.tl_join]
  rfl
end Sc
namespace Sc
open PySem PySem.Spec PyProof.Rows L2
/-- an f-string, its reading by a name -/
def tFs (ts : List TE) : TE := fun σ H Q => tJs ts Str.empty σ H fun out H1 => Q (.str out) H1
theorem pe_fs {X : Cx} {v1 v2 : Expr} {rest : List Expr} {ts : List TE} {pos : Pos} (h : PJ X (v1 :: v2 :: rest) ts) : PE X (.JoinedStr (v1 :: v2 :: rest) pos) (tFs ts) := pe_joined h
end Sc
namespace Sc
open PySem PySem.Spec PyProof.Rows L2
/-! ### a choice by its word -/
theorem wd_rb {c : Ch} (h : wdC c = "row" ∨ wdC c = "book") : ∃ k, c = .row k ∨ c = .book k := by
  cases c with
  | row k => exact ⟨k, .inl rfl⟩
  | book k => exact ⟨k, .inr rfl⟩
  | _ => exact absurd h (by simp only [wdC]; decide +kernel)
theorem wd_shape {c : Ch} (h : wdC c = "shape") : ∃ fs, c = .shape fs := by
  cases c with
  | shape fs => exact ⟨fs, rfl⟩
  | _ => exact absurd h (by simp only [wdC]; decide +kernel)
theorem wd_letter {c : Ch} (h : wdC c = "letter") : ∃ l, c = .letter l := by
  cases c with
  | letter l => exact ⟨l, rfl⟩
  | _ => exact absurd h (by simp only [wdC]; decide +kernel)
theorem wd_cut {c : Ch} (h : wdC c = "cut") : ∃ l hs, c = .cut l hs := by
  cases c with
  | cut l hs => exact ⟨l, hs, rfl⟩
  | _ => exact absurd h (by simp only [wdC]; decide +kernel)
theorem wd_due {c : Ch} (h : wdC c = "some" ∨ wdC c = "with") : ∃ z, c = .any z ∨ c = .wth z := by
  cases c with
  | any z => exact ⟨z, .inl rfl⟩
  | wth z => exact ⟨z, .inr rfl⟩
  | _ => exact absurd h (by simp only [wdC]; decide +kernel)
theorem wd_flat {c : Ch} (h1 : ¬ (wdC c = "row" ∨ wdC c = "book")) (h2 : wdC c ≠ "shape") (h3 : wdC c ≠ "letter") (h4 : wdC c ≠ "cut") (h5 : ¬ (wdC c = "some" ∨ wdC c = "with")) : c = .num ∨ c = .txt := by
  cases c with
  | num => exact .inl rfl
  | txt => exact .inr rfl
  | row k => exact absurd (.inl rfl) h1
  | book k => exact absurd (.inr rfl) h1
  | shape k => exact absurd rfl h2
  | letter k => exact absurd rfl h3
  | cut k _ => exact absurd rfl h4
  | any k => exact absurd (.inl rfl) h5
  | wth k => exact absurd (.inr rfl) h5
theorem txC_due {c : Ch} {z : Str} (h : c = .any z ∨ c = .wth z) : txC c = wdC c ++ (" " : Str) ++ z ∧ restC c = [.str z] := by
  rcases h with rfl | rfl
  · refine ⟨TL.ext_tl ?_, rfl⟩
    simp only [TL.tl_append]
    show TL.tl "some" ++ 32 :: TL.tl z = TL.tl "some" ++ [32] ++ TL.tl z
    simp only [List.append_assoc, List.cons_append, List.nil_append]
  · refine ⟨TL.ext_tl ?_, rfl⟩
    simp only [TL.tl_append]
    show TL.tl "with" ++ 32 :: TL.tl z = TL.tl "with" ++ [32] ++ TL.tl z
    simp only [List.append_assoc, List.cons_append, List.nil_append]
end Sc
namespace Sc
open PySem PySem.Spec PyProof.Rows L2
/-! ### letters -/
def Lett (z : Str) : Prop := 1 ≤ z.cps.toList.length ∧ z.cps.toList.length ≤ 8 ∧ ∀ c ∈ z.cps.toList, 65 ≤ c ∧ c ≤ 90
theorem upper_word {z : Str} (h : Word z) : Lett (Txt.upper z) := by
  obtain ⟨h1, h8, hc⟩ := h
  rw [upper_ascii fun c m => by have := hc c m; omega]
  have e : (⟨z.cps.map up1⟩ : Str).cps.toList = z.cps.toList.map up1 := Array.toList_map
  unfold Lett
  rw [e, List.length_map]
  refine ⟨h1, h8, fun c m => ?_⟩
  obtain ⟨d, hd, rfl⟩ := List.mem_map.mp m
  have := hc d hd
  unfold up1
  rw [if_pos this]
  omega
/-! ### dicts of texts -/
def zipK {β : Type} (xs : List (Str × β)) (vs : List V) : List (Key × V) := (xs.map fun q => Sum.inr q.1).zip vs
theorem zip_of {β : Type} {Pt : Str → Prop} {R : V → β → Prop} : ∀ kvs : List (Key × V), (∀ p ∈ kvs, ∃ t x, p.1 = Sum.inr t ∧ Pt t ∧ R p.2 x) → (kvs.map (·.1)).Nodup →
    ∃ (vs : List V) (xs : List (Str × β)), kvs = zipK xs vs ∧ vs.length = xs.length ∧ (xs.map (·.1)).Nodup ∧ (∀ t, t ∈ xs.map (·.1) → (Sum.inr t : Key) ∈ kvs.map (·.1)) ∧ ∀ (j : Nat) (v : V) (q : Str × β), vs[j]? = some v → xs[j]? = some q → Pt q.1 ∧ R v q.2
  | [], _, _ => ⟨[], [], rfl, rfl, List.nodup_nil, fun t h => by simp at h, fun j v q h => by simp at h⟩
  | (k, v) :: r, h, nd => by
    obtain ⟨t, x, rfl, ht, hx⟩ := h _ List.mem_cons_self
    have nd' : ((Sum.inr t : Key) :: r.map (·.1)).Nodup := nd
    obtain ⟨n1, n2⟩ := List.nodup_cons.mp nd'
    obtain ⟨vs, xs, e, hl, nd2, hm, ha⟩ := zip_of r (fun p hp => h p (List.mem_cons_of_mem _ hp)) n2
    refine ⟨v :: vs, (t, x) :: xs, by rw [e]; rfl, congrArg (· + 1) hl, List.nodup_cons.mpr ⟨fun z => n1 (hm t z), nd2⟩, fun u hu => ?_, fun j v' q h1 h2 => ?_⟩
    · rcases List.mem_cons.mp hu with z | z
      · rw [z]; exact List.mem_cons_self
      · exact List.mem_cons_of_mem _ (hm u z)
    · cases j with
      | zero => cases h1; cases h2; exact ⟨ht, hx⟩
      | succ j => exact ha j v' q h1 h2
theorem zipK_get {β : Type} : ∀ {xs : List (Str × β)} {vs : List V} {j : Nat} {q : Str × β} {v : V}, (xs.map (·.1)).Nodup → xs[j]? = some q → vs[j]? = some v → valV (zipK xs vs) (Sum.inr q.1) = some v
  | (t, x) :: xs, u :: us, 0, q, v, _, h1, h2 => by
    cases h1; cases h2
    exact valV_pos rfl
  | (t, x) :: xs, u :: us, j + 1, q, v, nd, h1, h2 => by
    obtain ⟨n1, n2⟩ := List.nodup_cons.mp (show (t :: xs.map (·.1)).Nodup from nd)
    refine (valV_neg fun e => n1 ?_).trans (zipK_get n2 h1 h2)
    have e2 : t = q.1 := Sum.inr.inj e
    rw [e2]
    exact List.mem_map_of_mem (List.mem_of_getElem? h1)
  | [], _, _, _, _, _, h1, _ => by simp at h1
  | _ :: _, [], _, _, _, _, _, h2 => by simp at h2
theorem zipK_keys {β : Type} : ∀ {xs : List (Str × β)} {vs : List V}, vs.length = xs.length → (zipK xs vs).map (fun kv => kV kv.1) = xs.map fun q => V.str q.1
  | [], [], _ => rfl
  | _ :: _, _ :: _, h => congrArg (_ :: ·) (zipK_keys (Nat.succ.inj h))
theorem zipK_len {β : Type} {xs : List (Str × β)} {vs : List V} (h : vs.length = xs.length) : (zipK xs vs).length = xs.length := by
  unfold zipK
  rw [List.length_zip, List.length_map, h, Nat.min_self]
/-! ### bounds -/
def IsB (K : PySem.W.Frag) (H : Hp) (b : Addr) (bs : List (Str × List Ch)) : Prop := ∃ vs : List V, H b = some (.dK (zipK bs vs)) ∧ vs.length = bs.length ∧ (bs.map (·.1)).Nodup ∧
  ∀ (j : Nat) (v : V) (q : Str × List Ch), vs[j]? = some v → bs[j]? = some q → IsK K H v q.2
theorem IsB.keep {K : PySem.W.Frag} {H H' : Hp} {b : Addr} {bs : List (Str × List Ch)} (h : IsB K H b bs) (k : Keep K H H') (e : ∀ o, H b = some o → H' b = some o) : IsB K H' b bs := by
  obtain ⟨vs, h1, h2, h3, h4⟩ := h
  exact ⟨vs, e _ h1, h2, h3, fun j v q a c => k.dt (h4 j v q a c)⟩
theorem IsB.same {K : PySem.W.Frag} {H H' : Hp} {b : Addr} {bs : List (Str × List Ch)} (h : IsB K H b bs) (e : Same H H') : IsB K H' b bs := h.keep (Same.keep e) fun o => e b o
theorem IsB.ext {K : PySem.W.Frag} {H H' : Hp} {s b : Addr} {i : Inf} {bs : List (Str × List Ch)} (h : IsB K H b bs) (S : IsS K H s i) (e : Ext s H H') (n : b ≠ s) : IsB K H' b bs := h.keep (S.keep e) fun o => e b o n
theorem IsB.at {K : PySem.W.Frag} {H : Hp} {b : Addr} {bs : List (Str × List Ch)} (h : IsB K H b bs) {j : Nat} {q : Str × List Ch} (e : bs[j]? = some q) : ∃ v, DGet H b (.str q.1) (some v) ∧ IsK K H v q.2 := by
  obtain ⟨vs, h1, h2, h3, h4⟩ := h
  have lt : j < vs.length := h2 ▸ (List.getElem?_eq_some_iff.mp e).1
  have g := zipK_get h3 e (List.getElem?_eq_getElem lt)
  exact ⟨vs[j], by rw [← g]; exact DGet.k (k := Sum.inr q.1) h1, h4 j _ q (List.getElem?_eq_getElem lt) e⟩
def okB (bs : List (Str × List Ch)) : Prop := ∀ q ∈ bs, Lett q.1 ∧ q.2 ≠ [] ∧ q.2.length ≤ 3 ∧ okL [] 1 q.2
def spBounds (K : PySem.W.Frag) : Sp := fun vs H Q _ => ∃ (s : Addr) (i : Inf) (m : Nat), vs = [.ref s, .int m] ∧ IsS K H s i ∧ m ≤ 10 ∧
  ∀ (b : Addr) (H' : Hp) (bs : List (Str × List Ch)), Ext s H H' → IsS K H' s i → H b = none → IsB K H' b bs → okB bs → bs.length ≤ m → Q (.ref b) H'
/-! ### heads of choices -/
def hdC : Ch → Str
  | .num => "number" | .txt => "text" | .row _ => "row" | .book _ => "book"
  | .shape fs => Txt.join " " ("shape" :: fs.map (·.1))
  | _ => Str.empty
/-- a choice with a head of its own -/
def hdOk : Ch → Prop
  | .num => True | .txt => True | .row _ => True | .book _ => True
  | .shape fs => Fld (fs.map (·.1))
  | _ => False
theorem hdOk_of {n : Nat} {c : Ch} (h : okC [] n c) : hdOk c := by
  cases c with
  | shape fs => exact (show 0 < n ∧ fs.length ≤ 2 ∧ Fld (fs.map (·.1)) ∧ okF [] (n - 1) fs from h).2.2.1
  | letter l => exact absurd (show l ∈ [] from h) (by simp)
  | cut l hs => exact (show False from h).elim
  | any l => exact (show False from h).elim
  | wth l => exact (show False from h).elim
  | _ => exact trivial
/-- the heads of a kind, ascending -/
def Hs (k : List Ch) (ys : List Str) : Prop := sortedS ys = true ∧ ys.Nodup ∧ ys.length ≤ k.length ∧ ∀ x, x ∈ ys ↔ x ∈ k.map hdC
def spHead (K : PySem.W.Frag) : Sp := fun vs H Q _ => ∃ (v : V) (c : Ch), vs = [v] ∧ IsC K H v c ∧ hdOk c ∧ ∀ (H' : Hp), Same H H' → Q (.str (hdC c)) H'
def headsR (bs : List (Str × List Ch)) (c : Ch) (ys : List Str) : Prop := (∃ l k, c = .letter l ∧ (l, k) ∈ bs ∧ Hs k ys) ∨ ∃ l, c = .cut l ys
def spHeads (K : PySem.W.Frag) : Sp := fun vs H Q _ => ∃ (v : V) (b : Addr) (c : Ch) (bs : List (Str × List Ch)), vs = [v, .ref b] ∧ IsC K H v c ∧ IsB K H b bs ∧ okB bs ∧ ((∃ l k, c = .letter l ∧ (l, k) ∈ bs) ∨ ∃ l hs, c = .cut l hs) ∧
  ∀ (v : V) (H' : Hp) (ys : List Str), Same H H' → Dt K H' v (.tuple (ys.map .str)) → headsR bs c ys → Q v H'
/-- a letter, or a cut of it -/
def okCut (bs : List (Str × List Ch)) (c : Ch) : Prop := ∃ l k, (l, k) ∈ bs ∧ (c = .letter l ∨ ∃ ys a m, c = .cut l ((ys.drop a).take m) ∧ Hs k ys ∧ 0 < m ∧ a + m ≤ ys.length ∧ m < ys.length)
def spCut (K : PySem.W.Frag) : Sp := fun vs H Q _ => ∃ (s b : Addr) (i : Inf) (bs : List (Str × List Ch)), vs = [.ref s, .ref b] ∧ IsS K H s i ∧ b ≠ s ∧ IsB K H b bs ∧ okB bs ∧ bs ≠ [] ∧ bs.length ≤ 10 ∧
  ∀ (v : V) (H' : Hp) (c : Ch), Ext s H H' → IsS K H' s i → IsC K H' v c → okCut bs c → Q v H'
/-- a kind with letters and, at its end, a cut -/
def okA (bs : List (Str × List Ch)) (d : Nat) (k : List Ch) : Prop := ∃ k0 cs, k = k0 ++ cs ∧ okL (bs.map (·.1)) d k0 ∧ k0 ≠ [] ∧ k0.length ≤ 3 ∧ (cs = [] ∨ ∃ c, cs = [c] ∧ okCut bs c)
def spAnyKind (K : PySem.W.Frag) (n : Nat) : Sp := fun vs H Q _ => ∃ (s b : Addr) (i : Inf) (d : Nat) (bs : List (Str × List Ch)), vs = [.ref s, .int d, .ref b] ∧ IsS K H s i ∧ d < n ∧ b ≠ s ∧ IsB K H b bs ∧ okB bs ∧ bs.length ≤ 10 ∧
  ∀ (v : V) (H' : Hp) (k : List Ch), Ext s H H' → IsS K H' s i → IsK K H' v k → okA bs d k → Q v H'
theorem Hs.few {k : List Ch} {ys : List Str} (h : Hs k ys) : ys.length ≤ k.length := h.2.2.1
end Sc
namespace Sc
open PySem PySem.Spec PyProof.Rows L2
/-! ### how long, how deep what is drawn may be -/
def wid : Nat → Nat
  | 0 => 8
  | n + 1 => 6 * wid n + 60
theorem joinL_max {S : List Nat} {B : Nat} : ∀ {ps : List (List Nat)}, (∀ p ∈ ps, p.length ≤ B) → (TL.joinL S ps).length ≤ ps.length * (B + S.length)
  | [], _ => Nat.zero_le _
  | [p], h => by
    have := h p List.mem_cons_self
    show p.length ≤ 1 * _
    omega
  | p :: q :: r, h => by
    have ih := joinL_max (S := S) (B := B) (ps := q :: r) fun x hx => h x (List.mem_cons_of_mem _ hx)
    have := h p List.mem_cons_self
    rw [joinL_cons _ _ _ (by simp), List.length_append, List.length_append, List.length_cons, Nat.add_mul]
    omega
theorem kind_len {B m : Nat} {k : List Ch} (h : ∀ p ∈ cL k, p.length ≤ B) (hk : k.length ≤ m) : (TL.joinL bar (cL k)).length ≤ m * (B + 3) := by
  refine Nat.le_trans (joinL_max h) ?_
  rw [cL_map, List.length_map]
  exact Nat.mul_le_mul_right _ hk
mutual
theorem lenC {ls : List Str} (hl : ∀ l ∈ ls, l.length ≤ 8) : ∀ {n : Nat} {c : Ch}, okC ls n c → (cC c).length ≤ wid n
  | 0, .num, _ => by decide
  | n + 1, .num, _ => Nat.le_trans (by decide : (cC .num).length ≤ 60) (Nat.le_add_left _ _)
  | 0, .txt, _ => by decide
  | n + 1, .txt, _ => Nat.le_trans (by decide : (cC .txt).length ≤ 60) (Nat.le_add_left _ _)
  | 0, .row k, h => absurd h.1 (Nat.lt_irrefl _)
  | n + 1, .row k, h => by
    have := kind_len (lenL hl (show okL ls n k from h.2.2.2)) h.2.2.1
    show (TL.tl "row" ++ 40 :: (TL.joinL bar (cL k) ++ [41])).length ≤ 6 * wid n + 60
    rw [List.length_append, List.length_cons, List.length_append]
    show 3 + (_ + 1 + 1) ≤ _
    omega
  | 0, .book k, h => absurd h.1 (Nat.lt_irrefl _)
  | n + 1, .book k, h => by
    have := kind_len (lenL hl (show okL ls n k from h.2.2.2)) h.2.2.1
    show (TL.tl "book" ++ 40 :: (TL.joinL bar (cL k) ++ [41])).length ≤ 6 * wid n + 60
    rw [List.length_append, List.length_cons, List.length_append]
    show 4 + (_ + 1 + 1) ≤ _
    omega
  | 0, .shape fs, h => absurd h.1 (Nat.lt_irrefl _)
  | n + 1, .shape fs, h => by
    have f := lenF hl (show okF ls n fs from h.2.2.2)
    have g := joinL_max (S := com) f
    rw [cF_map, List.length_map] at g
    have g2 : fs.length * (3 * wid n + 19 + com.length) ≤ 2 * (3 * wid n + 19 + 2) := Nat.mul_le_mul_right _ h.2.1
    rw [← cF_map] at g
    show (123 :: (TL.joinL com (cF fs) ++ [125])).length ≤ 6 * wid n + 60
    rw [List.length_cons, List.length_append]
    show _ + 1 + 1 ≤ _
    have : (TL.joinL com (cF fs)).length ≤ 2 * (3 * wid n + 19 + 2) := Nat.le_trans g g2
    omega
  | n, .letter l, h => by
    have := hl l h
    rw [len_list] at this
    refine Nat.le_trans this ?_
    cases n with
    | zero => exact Nat.le_refl _
    | succ n => show 8 ≤ 6 * wid n + 60; omega
  | _, .cut _ _, h => h.elim
  | _, .any _, h => h.elim
  | _, .wth _, h => h.elim
theorem lenL {ls : List Str} (hl : ∀ l ∈ ls, l.length ≤ 8) : ∀ {n : Nat} {k : List Ch}, okL ls n k → ∀ p ∈ cL k, p.length ≤ wid n
  | _, [], _, p, hp => by cases hp
  | n, c :: r, h, p, hp => by
    rcases List.mem_cons.mp hp with e | e
    · rw [e]; exact lenC hl h.1
    · exact lenL hl h.2 p e
theorem lenF {ls : List Str} (hl : ∀ l ∈ ls, l.length ≤ 8) : ∀ {n : Nat} {fs : List (Str × List Ch)}, okF ls n fs → ∀ p ∈ cF fs, p.length ≤ 3 * wid n + 19
  | _, [], _, p, hp => by cases hp
  | n, (f, k) :: r, h, p, hp => by
    rcases List.mem_cons.mp hp with e | e
    · have := kind_len (lenL hl h.2.2.2.1) h.2.2.1
      have w := h.1.2.1
      rw [e, List.length_append, List.length_cons, List.length_cons]
      show f.cps.toList.length + _ ≤ _
      omega
    · exact lenF hl h.2.2.2.2 p e
end
mutual
theorem deepC {ls : List Str} : ∀ {n : Nat} {c : Ch}, okC ls n c → dC c ≤ n
  | _, .num, _ => Nat.zero_le _
  | _, .txt, _ => Nat.zero_le _
  | 0, .row k, h => absurd h.1 (Nat.lt_irrefl _)
  | n + 1, .row k, h => Nat.succ_le_succ (deepL (show okL ls n k from h.2.2.2))
  | 0, .book k, h => absurd h.1 (Nat.lt_irrefl _)
  | n + 1, .book k, h => Nat.succ_le_succ (deepL (show okL ls n k from h.2.2.2))
  | 0, .shape fs, h => absurd h.1 (Nat.lt_irrefl _)
  | n + 1, .shape fs, h => Nat.succ_le_succ (deepF (show okF ls n fs from h.2.2.2))
  | _, .letter l, _ => Nat.zero_le _
  | _, .cut _ _, h => h.elim
  | _, .any _, h => h.elim
  | _, .wth _, h => h.elim
theorem deepL {ls : List Str} : ∀ {n : Nat} {k : List Ch}, okL ls n k → dL k ≤ n
  | _, [], _ => Nat.zero_le _
  | n, c :: r, h => Nat.max_le.mpr ⟨deepC h.1, deepL h.2⟩
theorem deepF {ls : List Str} : ∀ {n : Nat} {fs : List (Str × List Ch)}, okF ls n fs → dF fs ≤ n
  | _, [], _ => Nat.zero_le _
  | n, (_, k) :: r, h => Nat.max_le.mpr ⟨deepL h.2.2.2.1, deepF h.2.2.2.2⟩
end
end Sc
namespace Sc
open PySem PySem.Spec PyProof.Rows L2
theorem hd_len {n : Nat} {c : Ch} (h : okC [] n c) : (hdC c).length ≤ 300 := by
  cases c with
  | shape fs =>
    have fld : Fld (fs.map (·.1)) := hdOk_of h
    have := join_len " " ("shape" :: fs.map (·.1))
    have s := fld.sum
    have z := fld.2.1
    rw [List.map_cons, List.sum_cons, List.length_cons] at this
    show (Txt.join " " ("shape" :: fs.map (·.1))).length ≤ 300
    have e5 : ("shape" : Str).length = 5 := rfl
    have e1 : (" " : Str).length = 1 := rfl
    rw [e5, e1] at this
    omega
  | num => decide
  | txt => decide
  | row k => exact (by decide : ("row" : Str).length ≤ 300)
  | book k => exact (by decide : ("book" : Str).length ≤ 300)
  | letter l => exact Nat.zero_le _
  | cut l hs => exact Nat.zero_le _
  | any l => exact Nat.zero_le _
  | wth l => exact Nat.zero_le _
theorem cut_len {bs : List (Str × List Ch)} (ok : okB bs) {c : Ch} (h : okCut bs c) : (cC c).length ≤ 2000 ∧ dC c = 0 := by
  obtain ⟨l, k, hm, hc⟩ := h
  obtain ⟨lt, k0, k3, okk⟩ := ok _ hm
  have l8 : (TL.tl l).length ≤ 8 := lt.2.1
  rcases hc with rfl | ⟨ys, a, m, rfl, hs, m0, am, my⟩
  · exact ⟨Nat.le_trans l8 (by decide), rfl⟩
  · refine ⟨?_, rfl⟩
    have g : ∀ p ∈ ((ys.drop a).take m).map TL.tl, p.length ≤ 300 := fun p hp => by
      obtain ⟨y, hy, rfl⟩ := List.mem_map.mp hp
      have hy2 := (hs.2.2.2 y).mp (List.mem_of_mem_drop (List.mem_of_mem_take hy))
      obtain ⟨c, hc, rfl⟩ := List.mem_map.mp hy2
      have := hd_len (okL_mem okk hc)
      rw [len_list] at this
      exact this
    have j := joinL_max (S := com) g
    rw [List.length_map] at j
    have few := hs.2.2.1
    have k3' : k.length ≤ 3 := k3
    have tk : ((ys.drop a).take m).length ≤ 3 := by
      have := List.length_take_le' m (ys.drop a)
      rw [List.length_drop] at this
      omega
    have j2 : ((ys.drop a).take m).length * (300 + com.length) ≤ 3 * (300 + 2) := Nat.mul_le_mul_right _ tk
    show (TL.tl l ++ 40 :: (TL.joinL com (((ys.drop a).take m).map TL.tl) ++ [41])).length ≤ 2000
    rw [List.length_append, List.length_cons, List.length_append]
    show _ + (_ + 1 + 1) ≤ _
    omega
theorem names_len {bs : List (Str × List Ch)} (ok : okB bs) : ∀ l ∈ bs.map (·.1), l.length ≤ 8 := fun l hl => by
  obtain ⟨q, hq, rfl⟩ := List.mem_map.mp hl
  have := (ok q hq).1.2.1
  rw [len_list]
  exact this
theorem cL_app (a b : List Ch) : cL (a ++ b) = cL a ++ cL b := by rw [cL_map, cL_map, cL_map, List.map_append]
theorem dL_app : ∀ a b : List Ch, dL (a ++ b) = max (dL a) (dL b)
  | [], b => by show dL b = max 0 _; omega
  | c :: r, b => by
    have := dL_app r b
    show max (dC c) (dL (r ++ b)) = max (max (dC c) (dL r)) (dL b)
    omega
/-- such a kind's text, with something small behind -/
theorem any_len {bs : List (Str × List Ch)} (ok : okB bs) {d : Nat} {k : List Ch} (h : okA bs d k) : (∀ p ∈ cL k, p.length ≤ wid d + 2000) ∧ k.length ≤ 4 ∧ dL k ≤ d ∧ k ≠ [] := by
  obtain ⟨k0, cs, rfl, okk, n0, n3, hc⟩ := h
  have g := lenL (names_len ok) okk
  rcases hc with rfl | ⟨c, rfl, hc⟩
  · rw [List.append_nil]
    exact ⟨fun p hp => Nat.le_trans (g p hp) (Nat.le_add_right _ _), by omega, deepL okk, n0⟩
  · obtain ⟨h1, h2⟩ := cut_len ok hc
    refine ⟨fun p hp => ?_, by rw [List.length_append]; show _ + 1 ≤ _; omega, ?_, by simp⟩
    · rw [cL_app] at hp
      rcases List.mem_append.mp hp with e | e
      · exact Nat.le_trans (g p e) (Nat.le_add_right _ _)
      · rw [List.mem_singleton.mp e]
        exact Nat.le_trans h1 (Nat.le_add_left _ _)
    · rw [dL_app]
      have := deepL okk
      show max _ (max (dC c) 0) ≤ _
      omega
def spDue (K : PySem.W.Frag) : Sp := fun vs H Q _ => ∃ (s : Addr) (i : Inf), vs = [.ref s] ∧ IsS K H s i ∧
  ∀ (v : V) (H' : Hp) (c : Ch), Ext s H H' → IsS K H' s i → IsC K H' v c → (c = .any "row" ∨ c = .any "book" ∨ ∃ z, c = .wth z ∧ Word z) → Q v H'
end Sc
namespace Sc
open PySem PySem.Spec PyProof.Rows L2
/-! ### defs that may raise -/
structure CalX (P : Program) (w : World) (K : PySem.W.Frag) (mg : Str → Option Value) (base : Heap) (k : Nat) (x : Str) (ps : List Str) (sp : Sp) : Prop where
  ex : ∃ f fd, FnOk P w K mg base (L2.CX P w) k f fd ps sp ∧ mg x = some (.ref f) ∧ PySem.W.keepIn K (.ref f) = true ∧ Binds K fd ps []
theorem CalX.mono {P : Program} {w : World} {K : PySem.W.Frag} {mg : Str → Option Value} {base : Heap} {j k : Nat} {x : Str} {ps : List Str} {sp : Sp} (C : CalX P w K mg base j x ps sp) (h : j ≤ k) : CalX P w K mg base k x ps sp := by
  obtain ⟨f, fd, a, b⟩ := C.ex
  exact ⟨f, fd, a.mono h, b⟩
theorem Def.neverX {P : Program} {w : World} {K : PySem.W.Frag} {mg : Str → Option Value} {base : Heap} {x : Str} {st : Stmt} {ps : List Str} {sp : Sp} (D : Def K mg x st ps) (no : ∀ vs H Q E, ¬ sp vs H Q E) : CalX P w K mg base 0 x ps sp := by
  obtain ⟨f, fd, F, m, b⟩ := D.ex
  exact ⟨f, fd, ⟨fun vs H Q E h => absurd h (no vs H Q E), fun A outer s H args us vs Q E _ _ _ _ h => absurd h (no vs H Q E)⟩, m, F.kp, b⟩
theorem Def.okX {P : Program} {w : World} {K : PySem.W.Frag} {mg : Str → Option Value} {base : Heap} {x : Str} {st : Stmt} {N ps : List Str} {k : Nat} {sp : Sp} (D : Def K mg x st ps) (S : FnScope N ps (defScope st)) (len : ∀ vs H Q E, sp vs H Q E → vs.length = ps.length)
    (body : ∀ (f : Addr) (cdv : Value) (A : Around) (outer : List Env) (s : Shared) (H : Hp) (vs : List V) (Q : VK) (E : XK), Room k (A.deeper (envOfC x (defScope st) s.heap.objs.size f cdv)) → sp vs H Q E →
      ∃ t, PSs (cxOf (L2.CX P w) P w K mg base N x (defScope st) f cdv A outer s H E) (defBody st) t ∧ t { nx := fun _ H' => Q .non H', rt := Q } (start N vs) H) : CalX P w K mg base (k + 1) x ps sp := by
  obtain ⟨f, fd, F, m, b⟩ := D.ex
  exact ⟨f, fd, F.okX S len fun cdv A outer s H vs Q E hr h => body f cdv A outer s H vs Q E hr h, m, F.kp, b⟩
section
variable {X : Cx} {k : Nat} {x : Str} {ps : List Str} {sp : Sp} {e : Expr} {es : List Expr} {t : TA} {p pos : Pos} {E : XK}
/-- a call of a def that may raise: what it raises leaves -/
theorem pe_calX (C : CalX X.prog X.w X.K X.mg X.base k x ps sp) (hr : Room k X.A) (hx : Passes (L2.CX X.prog X.w) X E) (ha : PA X (e :: es) t) (hg : Gl X x := by rfl) (hdb : (x == ("__debug__" : Str)) = false := by decide)
    (he : starEach (e :: es) X.env = (false, eval e X.env) :: starEach es X.env := by rfl) (hpl : (backTo pos (starEach es X.env)).any (·.1) = false := by rfl) :
    PE X (.Call (.Name x p) (e :: es) [] pos) (tCall sp [] E t) := by
  obtain ⟨f, fd, F, m, kp, b⟩ := C.ex
  exact pe_call F hr hg m kp b .nil hx ha hdb he hpl
end
/-! ### data, tables -/
/-- lists and tuples are kept -/
def KeepL (K : PySem.W.Frag) (H H' : Hp) : Prop := (∀ a xs, SqL K H a xs → SqL K H' a xs) ∧ Keep K H H'
mutual
theorem KeepL.dp {K : PySem.W.Frag} {H H' : Hp} (e : KeepL K H H') : ∀ {v : V} {d : PyData}, Dp K H v d → Dp K H' v d
  | _, _, .non => .non
  | _, _, .bl b => .bl b
  | _, _, .int i => .int i
  | _, _, .str x => .str x
  | _, _, .lst h a => .lst (e.1 _ _ h) (KeepL.dps e a)
  | _, _, .tup h a => .tup (e.2 _ _ h) (KeepL.dps e a)
theorem KeepL.dps {K : PySem.W.Frag} {H H' : Hp} (e : KeepL K H H') : ∀ {vs : List V} {ds : List PyData}, DpAll K H vs ds → DpAll K H' vs ds
  | _, _, .nil => .nil
  | _, _, .cons h t => .cons (KeepL.dp e h) (KeepL.dps e t)
end
theorem DpAll.len {K : PySem.W.Frag} {H : Hp} : ∀ {vs : List V} {ds : List PyData}, DpAll K H vs ds → vs.length = ds.length
  | _, _, .nil => rfl
  | _, _, .cons _ t => congrArg (· + 1) (DpAll.len t)
theorem DpAll.get {K : PySem.W.Frag} {H : Hp} : ∀ {vs : List V} {ds : List PyData} {i : Nat} {v : V}, DpAll K H vs ds → vs[i]? = some v → ∃ d, ds[i]? = some d ∧ Dp K H v d
  | _, _, 0, _, .cons h _, e => ⟨_, rfl, by simp at e; subst e; exact h⟩
  | _, _, i + 1, v, .cons _ t, e => by
    obtain ⟨d, h1, h2⟩ := DpAll.get (i := i) (v := v) t (by simpa using e)
    exact ⟨d, by simpa using h1, h2⟩
/-- all but the tables is kept, the tables at T are tables -/
def Tb (T : List Addr) (H : Hp) : Prop := ∀ P ∈ T, GxR.TabG H P
structure Fr (T : List Addr) (H H' : Hp) : Prop where
  old : ∀ b o, H b = some o → b ∉ T → H' b = some o
  tab : Tb T H'
theorem Fr.refl {T : List Addr} {H : Hp} (t : Tb T H) : Fr T H H := ⟨fun _ _ h _ => h, t⟩
theorem Fr.trans {T : List Addr} {H H1 H2 : Hp} (a : Fr T H H1) (b : Fr T H1 H2) : Fr T H H2 := ⟨fun c o h n => b.old c o (a.old c o h n) n, b.tab⟩
theorem Fr.same {T : List Addr} {H H' : Hp} (t : Tb T H) (e : Same H H') : Fr T H H' := ⟨fun b o h _ => e b o h, fun P hP => let ⟨ps, h, g⟩ := t P hP; ⟨ps, e _ _ h, g⟩⟩
theorem Fr.tabbed {T : List Addr} {P : Addr} {H H' : Hp} (t : Tb T H) (h : GxR.Tabbed P H H') (hP : P ∈ T) : Fr T H H' := by
  refine ⟨fun b o e n => ?_, fun P' hP' => ?_⟩
  · rw [h.2 b fun z => n (z ▸ hP)]
    exact e
  · by_cases z : P' = P
    · rw [z]; exact h.1
    · obtain ⟨ps, e, g⟩ := t P' hP'
      exact ⟨ps, by rw [h.2 P' z]; exact e, g⟩
theorem Fr.free {T : List Addr} {H H' : Hp} {l : Addr} (t : Tb T H) (e : Fr T H H') (h : H' l = none) : H l = none := by
  by_cases hl : l ∈ T
  · obtain ⟨ps, g, _⟩ := e.tab l hl
    rw [g] at h
    cases h
  · cases q : H l with
    | none => rfl
    | some o => rw [e.old l o q hl] at h; cases h
theorem Fr.keep {K : PySem.W.Frag} {T : List Addr} {H H' : Hp} (t : Tb T H) (e : Fr T H H') : KeepL K H H' := by
  have ne : ∀ a o, H a = some o → (∀ ps, o ≠ .tbl ps) → a ∉ T := fun a o h n z => by
    obtain ⟨ps, g, _⟩ := t a z
    rw [h] at g
    exact n ps (Option.some.inj g)
  refine ⟨fun a xs h => ?_, fun a xs h => ?_⟩
  · rcases h with (h | ⟨o, h⟩) | h
    · exact .inl (.inl (e.old _ _ h (ne _ _ h fun ps z => by cases z)))
    · exact .inl (.inr ⟨o, e.old _ _ h (ne _ _ h fun ps z => by cases z)⟩)
    · exact .inr h
  · rcases h with (h | ⟨o, h⟩) | h
    · exact .inl (.inl (e.old _ _ h (ne _ _ h fun ps z => by cases z)))
    · exact .inl (.inr ⟨o, e.old _ _ h (ne _ _ h fun ps z => by cases z)⟩)
    · exact .inr h
/-- the type of data -/
def tyD : PyData → String
  | .none => "NoneType" | .bool _ => "bool" | .int _ => "int" | .str _ => "str" | .list _ => "list" | .tuple _ => "tuple" | .dict _ => "dict"
theorem Dp.ty {K : PySem.W.Frag} {H : Hp} {v : V} {d : PyData} (h : Dp K H v d) : TyX K H v (.type (tyD d)) := by
  cases h with
  | non => exact .base .non
  | bl b => exact .base (.bl b)
  | int i => exact .base (.int i)
  | str x => exact .base (.str x)
  | lst h _ =>
    rcases h with (h | ⟨o, h⟩) | ⟨o, its, n, h1, h2, _⟩
    · exact .base (.lst h)
    · exact .base (.frz h)
    · exact .kList h1 h2
  | tup h _ =>
    rcases h with (h | ⟨o, h⟩) | ⟨o, its, n, h1, h2, _⟩
    · exact .base (.tup h)
    · exact .fTuple h
    · exact .kTuple h1 h2
def isTupB : PyData → Bool
  | .tuple _ => true
  | _ => false
def isStrB : PyData → Bool
  | .str _ => true
  | _ => false
/-- is it of the type T: no dict among the data -/
theorem isTup {K : PySem.W.Frag} {H : Hp} {v : V} {d : PyData} (h : Dp K H v d) : kitB (tyD d) "tuple" = some (isTupB d) := by
  cases h with
  | non => exact (by decide +kernel : kitB "NoneType" "tuple" = some false)
  | bl b => exact (by decide +kernel : kitB "bool" "tuple" = some false)
  | int i => exact (by decide +kernel : kitB "int" "tuple" = some false)
  | str x => exact (by decide +kernel : kitB "str" "tuple" = some false)
  | lst _ _ => exact (by decide +kernel : kitB "list" "tuple" = some false)
  | tup _ _ => exact (by decide +kernel : kitB "tuple" "tuple" = some true)
theorem isStr {K : PySem.W.Frag} {H : Hp} {v : V} {d : PyData} (h : Dp K H v d) : kitB (tyD d) "str" = some (isStrB d) := by
  cases h with
  | non => exact (by decide +kernel : kitB "NoneType" "str" = some false)
  | bl b => exact (by decide +kernel : kitB "bool" "str" = some false)
  | int i => exact (by decide +kernel : kitB "int" "str" = some false)
  | str x => exact (by decide +kernel : kitB "str" "str" = some true)
  | lst _ _ => exact (by decide +kernel : kitB "list" "str" = some false)
  | tup _ _ => exact (by decide +kernel : kitB "tuple" "str" = some false)
end Sc
namespace Sc
open PySem PySem.Spec PyProof.Rows L2
mutual
/-- no long texts, no long rows -/
def sm : PyData → Bool
  | .str z => decide (z.length ≤ 1000)
  | .list xs => decide (xs.length ≤ 60) && smAll xs
  | .tuple xs => decide (xs.length ≤ 60) && smAll xs
  | .dict _ => false
  | _ => true
def smAll : List PyData → Bool
  | [] => true
  | x :: xs => sm x && smAll xs
end
def okD (d : PyData) : Prop := SeqAt.shaped d = true ∧ sm d = true
theorem smAll_mem {x : PyData} : ∀ {xs : List PyData}, smAll xs = true → x ∈ xs → sm x = true
  | y :: ys, h, m => by
    have h' : (sm y && smAll ys) = true := h
    rw [Bool.and_eq_true] at h'
    rcases List.mem_cons.mp m with e | e
    · rw [e]; exact h'.1
    · exact smAll_mem h'.2 e
theorem layAll_mem {x : PyData} : ∀ {xs : List PyData}, PyData.canLayAll0 xs = true → x ∈ xs → x.canLay0 = true
  | y :: ys, h, m => by
    have h' : (PyData.canLay0 y && PyData.canLayAll0 ys) = true := h
    rw [Bool.and_eq_true] at h'
    rcases List.mem_cons.mp m with e | e
    · rw [e]; exact h'.1
    · exact layAll_mem h'.2 e
theorem depthAll_mem {x : PyData} : ∀ {xs : List PyData}, x ∈ xs → x.depth ≤ PyData.depthAll xs
  | y :: ys, m => by
    have e0 : PyData.depthAll (y :: ys) = max y.depth (PyData.depthAll ys) := by simp [PyData.depthAll]
    rw [e0]
    rcases List.mem_cons.mp m with e | e
    · rw [e]; exact Nat.le_max_left _ _
    · exact Nat.le_trans (depthAll_mem e) (Nat.le_max_right _ _)
theorem okD.sub {ds : List PyData} (h : okD (.tuple ds)) : ds.length ≤ 60 ∧ ∀ x ∈ ds, okD x := by
  obtain ⟨h1, h2⟩ := h
  have h2' : (decide (ds.length ≤ 60) && smAll ds) = true := h2
  rw [Bool.and_eq_true, decide_eq_true_eq] at h2'
  refine ⟨h2'.1, fun x hx => ⟨?_, smAll_mem h2'.2 hx⟩⟩
  have l := SeqAt.canLay_of_shaped h1
  have d := SeqAt.depth_of_shaped h1
  have e0 : (PyData.tuple ds).depth = PyData.depthAll ds + 1 := by simp [PyData.depth]
  have := depthAll_mem hx
  exact Bool.and_eq_true_iff.mpr ⟨layAll_mem l hx, decide_eq_true (by omega)⟩
/-! ### what is a word, a letter -/
instance (z : Str) : Decidable (Lett z) := by unfold Lett; infer_instance
def isWordD : PyData → Bool
  | .str z => decide (Word z)
  | _ => false
def isLettD : PyData → Bool
  | .str z => decide (Lett z)
  | _ => false
def lenOkD : PyData → Bool
  | .str z => decide (1 ≤ z.length) && decide (z.length ≤ 8)
  | _ => false
/-- the promise of a test of data -/
def spTest (K : PySem.W.Frag) (T : List Addr) (p : PyData → Bool) : Sp := fun vs H Q _ => ∃ (v : V) (d : PyData), vs = [v] ∧ Dp K H v d ∧ okD d ∧ Tb T H ∧ ∀ (H' : Hp), Fr T H H' → Q (.bl (p d)) H'
/-- 'a' <= sign <= 'z' -/
theorem elt_between {prog : Program} {w : World} {scope : Scope} {x : Str} {a b : Nat} {j1 j2 : Nat} {p1 p2 p3 p4 : Pos} (hk : scope.kind = .function) (hl : scope.names.lookup x = some .local) (hd : (x == ("__debug__" : Str)) = false := by decide) :
    GxR.EltP prog w scope x (.Compare (.Constant (.str ⟨#[a]⟩) j1 p1) [.LtE, .LtE] [.Name x p2, .Constant (.str ⟨#[b]⟩) j2 p3] p4) (fun c => decide (a ≤ c) && decide (c ≤ b)) := by
  intro cenv A' E' c t s₂ m₂ hs hn hm
  refine Compare_chain (Calls.Constant_str (chain_link ?_)) (by with_unfolding_all rfl)
  refine wpAny_Name (wpAny_loadName_local (by rw [hs]; exact hk) (show cenv.scope.names.lookup x = some .local by rw [hs]; exact hl) hn hm ?_) hd
  refine PySem.P.le_str (wpAny_truthy_bool ?_)
  have l1 : (!decide ((⟨#[c]⟩ : Str).cps.toList < (⟨#[a]⟩ : Str).cps.toList)) = decide (a ≤ c) := by
    rw [← decide_not]
    refine decide_eq_decide.mpr ?_
    show ¬ [c] < [a] ↔ a ≤ c
    rw [List.cons_lt_cons_iff]
    simp
  have l2 : (!decide ((⟨#[b]⟩ : Str).cps.toList < (⟨#[c]⟩ : Str).cps.toList)) = decide (c ≤ b) := by
    rw [← decide_not]
    refine decide_eq_decide.mpr ?_
    show ¬ [b] < [c] ↔ c ≤ b
    rw [List.cons_lt_cons_iff]
    simp
  rw [l1]
  cases h : decide (a ≤ c) with
  | false =>
    rw [if_neg Bool.false_ne_true]
    refine ⟨?_, GxR.keeps_tok _ _⟩
    dsimp only
    rw [h]
    rfl
  | true =>
    rw [if_pos rfl]
    refine chain_last (Calls.Constant_str (PySem.P.le_str ?_))
    refine ⟨?_, GxR.keeps_tok _ _⟩
    dsimp only
    rw [l2, h, Bool.true_and]
end Sc
namespace Sc
open PySem PySem.Spec PyProof.Rows L2
/-! ### ascending texts -/
abbrev ltT (a b : Str) : Prop := a.cps.toList < b.cps.toList
def ascB (zs : List Str) : Bool := sortedS zs && decide zs.Nodup
theorem str_ext {a b : Str} (h : a.cps.toList = b.cps.toList) : a = b := by
  cases a; cases b
  exact congrArg _ (Array.toList_inj.mp h)
theorem rising_iff : ∀ (p : Str) (l : List Str), risingS p l = true ↔ (p :: l).Pairwise (fun a b => ¬ ltT b a)
  | p, [] => by simp [risingS]
  | p, x :: r => by
    unfold risingS
    rw [Bool.and_eq_true, rising_iff x r, Bool.not_eq_true', PyProof.Rows.ltCps_eq, decide_eq_false_iff_not]
    constructor
    · rintro ⟨h1, h2⟩
      refine List.pairwise_cons.mpr ⟨fun y hy => ?_, h2⟩
      rcases List.mem_cons.mp hy with e | e
      · rw [e]; exact h1
      · exact List.le_trans (α := Nat) h1 ((List.pairwise_cons.mp h2).1 y e)
    · intro h
      have h' := List.pairwise_cons.mp h
      exact ⟨h'.1 x List.mem_cons_self, h'.2⟩
theorem sorted_iff (l : List Str) : sortedS l = true ↔ l.Pairwise (fun a b => ¬ ltT b a) := by
  cases l with
  | nil => simp [sortedS]
  | cons p r => exact rising_iff p r
theorem asc_iff (l : List Str) : ascB l = true ↔ l.Pairwise ltT := by
  unfold ascB
  rw [Bool.and_eq_true, sorted_iff, decide_eq_true_eq]
  constructor
  · rintro ⟨h1, h2⟩
    refine List.Pairwise.imp₂ (fun a b h g => ?_) h1 h2
    exact Classical.byContradiction fun z => g (str_ext (List.le_antisymm (α := Nat) h z))
  · intro h
    exact ⟨h.imp fun g => List.lt_asymm g, h.imp fun {a b} g e => by rw [e] at g; exact List.lt_irrefl _ g⟩
theorem asc_uniq : ∀ (xs ys : List Str), xs.Pairwise ltT → ys.Pairwise ltT → (∀ x, x ∈ xs ↔ x ∈ ys) → xs = ys
  | [], [], _, _, _ => rfl
  | [], y :: _, _, _, h => absurd ((h y).mpr List.mem_cons_self) (by simp)
  | x :: _, [], _, _, h => absurd ((h x).mp List.mem_cons_self) (by simp)
  | x :: xs, y :: ys, hx, hy, h => by
    have hx' := List.pairwise_cons.mp hx
    have hy' := List.pairwise_cons.mp hy
    have e : x = y := by
      rcases List.mem_cons.mp ((h x).mp List.mem_cons_self) with e | e
      · exact e
      rcases List.mem_cons.mp ((h y).mpr List.mem_cons_self) with e2 | e2
      · exact e2.symm
      exact absurd (hy'.1 x e) (List.lt_asymm (hx'.1 y e2))
    subst e
    have irr : ∀ z, ltT x z → z ≠ x := fun z g e => by rw [e] at g; exact List.lt_irrefl _ g
    rw [asc_uniq xs ys hx'.2 hy'.2 fun z => ⟨fun m => ?_, fun m => ?_⟩]
    · rcases List.mem_cons.mp ((h z).mp (List.mem_cons_of_mem _ m)) with e | e
      · exact absurd e (irr z (hx'.1 z m))
      · exact e
    · rcases List.mem_cons.mp ((h z).mpr (List.mem_cons_of_mem _ m)) with e | e
      · exact absurd e (irr z (hy'.1 z m))
      · exact e
/-- a list against the sorted set of its members -/
theorem asc_eq {zs ys : List Str} (so : sortedS ys = true) (nd : ys.Nodup) (mem : ∀ x, x ∈ ys ↔ x ∈ zs) : decide (zs = ys) = ascB zs := by
  have hy : ascB ys = true := by unfold ascB; rw [so, decide_eq_true nd]; rfl
  rw [Bool.eq_iff_iff, decide_eq_true_eq]
  constructor
  · intro e; rw [e]; exact hy
  · intro h
    exact asc_uniq zs ys ((asc_iff _).mp h) ((asc_iff _).mp hy) fun x => (mem x).symm
theorem eqv_strs : ∀ (xs ys : List Str), PyData.eqvAll (xs.map .str) (ys.map .str) = decide (xs = ys)
  | [], [] => rfl
  | [], _ :: _ => rfl
  | _ :: _, [] => rfl
  | x :: xs, y :: ys => by
    have e : PyData.eqvAll ((x :: xs).map .str) ((y :: ys).map .str) = ((x == y) && PyData.eqvAll (xs.map .str) (ys.map .str)) := by
      simp [PyData.eqvAll, PyData.eqv]
    rw [e, eqv_strs xs ys, Bool.eq_iff_iff, Bool.and_eq_true, decide_eq_true_eq, beq_iff_eq, decide_eq_true_eq, List.cons.injEq]
theorem dp_strs {K : PySem.W.Frag} {H : Hp} : ∀ zs : List Str, DpAll K H (zs.map V.str) (zs.map .str)
  | [] => .nil
  | z :: zs => .cons (.str z) (dp_strs zs)
theorem lay_strs : ∀ {zs : List Str}, (∀ z ∈ zs, PyData.canLay0 (.str z) = true) → PyData.canLayAll0 (zs.map .str) = true
  | [], _ => rfl
  | z :: zs, h => by
    show (PyData.canLay0 (.str z) && PyData.canLayAll0 (zs.map .str)) = true
    rw [lay_strs fun x m => h x (List.mem_cons_of_mem _ m), Bool.and_true]
    exact h z List.mem_cons_self
theorem dep_strs : ∀ zs : List Str, PyData.depthAll (zs.map .str) ≤ 1
  | [] => by simp [PyData.depthAll]
  | z :: zs => by
    have := dep_strs zs
    simp only [List.map_cons, PyData.depthAll, PyData.depth]
    omega
theorem shaped_strs {zs : List Str} (h : ∀ z ∈ zs, PyData.canLay0 (.str z) = true) : SeqAt.shaped (.list (zs.map .str)) = true := by
  have d := dep_strs zs
  have e0 : (PyData.list (zs.map .str)).depth = PyData.depthAll (zs.map .str) + 1 := by simp [PyData.depth]
  exact Bool.and_eq_true_iff.mpr ⟨lay_strs h, decide_eq_true (by omega)⟩
end Sc
namespace Sc
open PySem PySem.Spec PyProof.Rows L2
/-! ### what is refused -/
/-- an own class of errors under ValueError -/
structure Ec (K : PySem.W.Frag) (mg : Str → Option Value) (x : Str) (C : Addr) : Prop where
  g : mg x = some (.ref C)
  q : PySem.W.excIn K C [.type "ValueError", .type "Exception", .type "BaseException", .type "object"] "ValueError.__new__" = true
  k : PySem.W.keepIn K (.ref C) = true
  b : PySem.W.subIn K (.ref C) (.type "BaseException") = some true
  t : PySem.W.typeIn K (.ref C) = some (.type "type")
def pairD : PyData → Bool
  | .tuple [.str _, _] => true
  | _ => false
def nameD : PyData → Str
  | .tuple (.str z :: _) => z
  | _ => Str.empty
def fldD : PyData → Bool
  | .tuple ds => !ds.isEmpty && ds.all pairD && ascB (ds.map nameD)
  | _ => false
theorem two_open {K : PySem.W.Frag} {H : Hp} {vs : List V} {ds : List PyData} (h : DpAll K H vs ds) (two : vs.length = 2) : ∃ x1 x2 d1 d2, vs = [x1, x2] ∧ ds = [d1, d2] ∧ Dp K H x1 d1 ∧ Dp K H x2 d2 := by
  cases h with
  | nil => cases two
  | cons h1 t => cases t with
    | nil => cases two
    | cons h2 t => cases t with
      | nil => exact ⟨_, _, _, _, rfl, rfl, h1, h2⟩
      | cons _ _ => exact absurd two (by simp)
theorem pair_len : ∀ {ds : List PyData}, ds.length ≠ 2 → pairD (.tuple ds) = false
  | [], _ => rfl
  | [u], _ => by cases u <;> rfl
  | [_, _], e => absurd rfl e
  | u :: _ :: _ :: _, _ => by cases u <;> rfl
theorem pair_two (d1 d2 : PyData) : pairD (.tuple [d1, d2]) = isStrB d1 := by cases d1 <;> rfl
def letD (ls : List Str) : PyData → Bool
  | .str z => isLettD (.str z) && decide (z ∈ ls)
  | _ => false
/-- choices, fields, by what is good within -/
def gPr (g : PyData → Bool) : PyData → Bool
  | .tuple [n, k] => isWordD n && g k
  | _ => false
def gFl (g : PyData → Bool) : PyData → Bool
  | .tuple ds => fldD (.tuple ds) && ds.all (gPr g)
  | _ => false
def gCh (ls : List Str) (g : PyData → Bool) : PyData → Bool
  | .tuple [.str w] => w == "number" || w == "text"
  | .tuple [.str w, t] => if w = "row" ∨ w = "book" then g t else if w = "shape" then gFl g t else if w = "letter" then letD ls t else false
  | _ => false
/-- a kind with room n - 1 -/
def gK (ls : List Str) : Nat → PyData → Bool
  | 0, _ => false
  | n + 1, d => match d with
    | .tuple ds => !ds.isEmpty && ds.all (gCh ls (gK ls n))
    | _ => false
/-- the promise of a def that refuses: rest behind the letters -/
def spNeed (K : PySem.W.Frag) (T : List Addr) (CB : Addr) (rest : List V) (p : List Str → PyData → Bool) : Sp := fun vs H Q E => ∃ (ls : List Str) (v : V) (d : PyData) (la : Addr), vs = v :: .ref la :: rest ∧ Dp K H v d ∧ okD d ∧ Tb T H ∧ SqT K H la (ls.map V.str) ∧
  (p ls d = true → ∀ (H' : Hp), Fr T H H' → Q .non H') ∧ (p ls d = false → ∀ (H' : Hp), Fr T H H' → E (.ref CB) none H')
theorem in_strs (z : Str) (ls : List Str) : inV (.str z) (ls.map V.str) = decide (z ∈ ls) := by
  unfold inV
  rw [Bool.eq_iff_iff, List.any_map, List.any_eq_true, decide_eq_true_eq]
  constructor
  · rintro ⟨y, hy, e⟩
    have e' : (y == z) = true := e
    rw [beq_iff_eq] at e'
    rw [← e']; exact hy
  · intro h
    exact ⟨z, h, by show (z == z) = true; rw [beq_iff_eq]⟩
theorem flat_strs : ∀ ls : List Str, (ls.map V.str).all flatV = true
  | [] => rfl
  | _ :: ls => by rw [List.map_cons, List.all_cons, flat_strs ls]; rfl
end Sc
namespace Sc
open PySem PySem.Spec PyProof.Rows L2
/-! ### literals -/
theorem Same.keepL {K : PySem.W.Frag} {H H' : Hp} (e : Same H H') : KeepL K H H' := ⟨fun _ _ h => Same.seq e h, fun _ _ h => Same.tup e h⟩
/-- a written value: the slot i holds g -/
def tLit (K : PySem.W.Frag) (i : Nat) (g d : PyData) : TE := fun σ H Q => (∃ v, σ[i]? = some (some v) ∧ Dp K H v g) ∧ ∀ v H', Same H H' → Dp K H' v d → Q v H'
def tLits (K : PySem.W.Frag) (i : Nat) (g : PyData) (ds : List PyData) : TA := fun σ H Q => (∃ v, σ[i]? = some (some v) ∧ Dp K H v g) ∧ ∀ vs H', Same H H' → DpAll K H' vs ds → Q vs H'
def tLitL (K : PySem.W.Frag) (i : Nat) (g : PyData) (ds : List PyData) : TE := fun σ H Q => (∃ v, σ[i]? = some (some v) ∧ Dp K H v g) ∧ ∀ l vs H', Same H H' → H' l = some (.lst vs) → DpAll K H' vs ds → Q (.ref l) H'
section
variable {X : Cx} {K : PySem.W.Frag} {i : Nat} {g d : PyData} {ds : List PyData} {e : Expr} {es : List Expr}
theorem pe_imp {t t' : TE} (h : PE X e t) (k : ∀ σ H Q, t' σ H Q → t σ H Q) : PE X e t' := ⟨fun pins s σ H Q I q => h.run pins s σ H Q I (k σ H Q q)⟩
theorem pa_imp {t t' : TA} (h : PA X es t) (k : ∀ σ H Q, t' σ H Q → t σ H Q) : PA X es t' := ⟨fun pos pins s σ H Q I q => h.run pos pins s σ H Q I (k σ H Q q)⟩
theorem lit_str {x : Str} {j : Nat} {pos : Pos} : PE X (.Constant (.str x) j pos) (tLit K i g (.str x)) := pe_imp pe_str fun _ _ _ q => q.2 _ _ (Same.refl _) (.str _)
theorem lit_int {x : Int} {j : Nat} {pos : Pos} : PE X (.Constant (.int x) j pos) (tLit K i g (.int x)) := pe_imp pe_int fun _ _ _ q => q.2 _ _ (Same.refl _) (.int _)
theorem lit_non {j : Nat} {pos : Pos} : PE X (.Constant .none j pos) (tLit K i g .none) := pe_imp pe_non fun _ _ _ q => q.2 _ _ (Same.refl _) .non
theorem lit_var (h : PE X e (tVar i)) : PE X e (tLit K i g g) := pe_imp h fun _ _ _ ⟨⟨v, a, b⟩, q⟩ => ⟨v, a, q _ _ (Same.refl _) b⟩
theorem lits_nil : PA X [] (tLits K i g []) := pa_imp pa_nil fun _ _ _ q => q.2 _ _ (Same.refl _) .nil
theorem lits_cons (h : PE X e (tLit K i g d)) (r : PA X es (tLits K i g ds)) (hs : starEach (e :: es) X.env = (false, eval e X.env) :: starEach es X.env := by rfl) : PA X (e :: es) (tLits K i g (d :: ds)) :=
  pa_imp (pa_cons h r hs) fun _ _ _ ⟨⟨v0, a, b⟩, q⟩ => ⟨⟨v0, a, b⟩, fun v H1 e1 d1 => ⟨⟨v0, a, KeepL.dp (Same.keepL e1) b⟩, fun vs H2 e2 d2 => q _ _ (Same.trans e1 e2) (.cons (KeepL.dp (Same.keepL e2) d1) d2)⟩⟩
theorem lit_tup {x1 : Nat} {pos : Pos} (h : PA X es (tLits K i g ds)) (hl : ds.length ≤ 1000) : PE X (.Tuple es x1 pos) (tLit K i g (.tuple ds)) :=
  pe_imp (pe_tup h) fun _ _ _ ⟨a, q⟩ => ⟨a, fun vs H1 e1 d1 => ⟨sizeOk (by rw [DpAll.len d1]; exact Nat.le_trans hl (by decide)), fun p hp => q _ _ (Same.trans e1 (same_new hp _)) (.tup (SqT.of upd_same) (KeepL.dps (Same.keepL (same_new hp _)) d1))⟩⟩
theorem lit_lst {pos : Pos} (h : PA X es (tLits K i g ds)) (hl : ds.length ≤ 1000) : PE X (.List es pos) (tLitL K i g ds) :=
  pe_imp (pe_lst h) fun _ _ _ ⟨a, q⟩ => ⟨a, fun vs H1 e1 d1 => ⟨sizeOk (by rw [DpAll.len d1]; exact Nat.le_trans hl (by decide)), fun p hp => q _ _ _ (Same.trans e1 (same_new hp _)) upd_same (KeepL.dps (Same.keepL (same_new hp _)) d1)⟩⟩
theorem lit_list {pos : Pos} (h : PA X es (tLits K i g ds)) (hl : ds.length ≤ 1000) : PE X (.List es pos) (tLit K i g (.list ds)) :=
  pe_imp (lit_lst h hl) fun _ _ _ ⟨a, q⟩ => ⟨a, fun _ _ _ e1 h1 d1 => q _ _ e1 (.lst (SqL.of h1) d1)⟩
end
theorem DpAll.app {K : PySem.W.Frag} {H : Hp} : ∀ {vs : List V} {ds : List PyData} {us : List V} {es : List PyData}, DpAll K H vs ds → DpAll K H us es → DpAll K H (vs ++ us) (ds ++ es)
  | _, _, _, _, .nil, h => h
  | _, _, _, _, .cons a b, h => .cons a (DpAll.app b h)
end Sc
namespace Sc
open PySem PySem.Spec PyProof.Rows L2
/-! ### good kinds, bad ones -/
theorem okL_mem' {ls : List Str} {d : Nat} {c : Ch} : ∀ {k : List Ch}, okL ls d k → c ∈ k → okC ls d c
  | _ :: _, h, m => by
    rcases List.mem_cons.mp m with e | e
    · rw [e]; exact h.1
    · exact okL_mem' h.2 e
theorem okF_mem' {ls : List Str} {d : Nat} {p : Str × List Ch} : ∀ {fs : List (Str × List Ch)}, okF ls d fs → p ∈ fs → Word p.1 ∧ p.2 ≠ [] ∧ p.2.length ≤ 3 ∧ okL ls d p.2
  | (f, k) :: r, h, m => by
    rcases List.mem_cons.mp m with e | e
    · rw [e]; exact ⟨h.1, h.2.1, h.2.2.1, h.2.2.2.1⟩
    · exact okF_mem' h.2.2.2.2 e
theorem gCh_two' {ls : List Str} {g : PyData → Bool} (w : Str) (t : PyData) : gCh ls g (.tuple [.str w, t]) = if w = "row" ∨ w = "book" then g t else if w = "shape" then gFl g t else if w = "letter" then letD ls t else false := rfl
theorem good_kind {ls : List Str} (hl : ∀ l ∈ ls, Lett l) : ∀ (d n : Nat), d < n → ∀ k : List Ch, k ≠ [] → okL ls d k → gK ls n (.tuple (pyL k)) = true := by
  intro d
  induction d with
  | zero => 
    intro n hn k k0 ok
    obtain ⟨m, rfl⟩ : ∃ m, n = m + 1 := ⟨n - 1, by omega⟩
    show (!(pyL k).isEmpty && (pyL k).all (gCh ls (gK ls m))) = true
    rw [pyL_map, Bool.and_eq_true]
    refine ⟨by cases k with | nil => exact absurd rfl k0 | cons _ _ => rfl, ?_⟩
    rw [List.all_map, List.all_eq_true]
    intro c hc
    have h := okL_mem' ok hc
    show gCh ls (gK ls m) (pyC c) = true
    cases c with
    | num => rw [pyC]; rfl
    | txt => rw [pyC]; rfl
    | row k => exact absurd h.1 (Nat.lt_irrefl _)
    | book k => exact absurd h.1 (Nat.lt_irrefl _)
    | shape fs => exact absurd h.1 (Nat.lt_irrefl _)
    | letter l =>
      have h' : l ∈ ls := by unfold okC at h; exact h
      rw [pyC, gCh_two', if_neg (by decide +kernel), if_neg (by decide +kernel), if_pos rfl]
      show (isLettD (.str l) && decide (l ∈ ls)) = true
      rw [decide_eq_true h', Bool.and_true]
      exact decide_eq_true (hl l h')
    | cut _ _ => unfold okC at h; exact h.elim
    | any _ => unfold okC at h; exact h.elim
    | wth _ => unfold okC at h; exact h.elim
  | succ d ih =>
    intro n hn k k0 ok
    obtain ⟨m, rfl⟩ : ∃ m, n = m + 1 := ⟨n - 1, by omega⟩
    show (!(pyL k).isEmpty && (pyL k).all (gCh ls (gK ls m))) = true
    rw [pyL_map, Bool.and_eq_true]
    refine ⟨by cases k with | nil => exact absurd rfl k0 | cons _ _ => rfl, ?_⟩
    rw [List.all_map, List.all_eq_true]
    intro c hc
    have h := okL_mem' ok hc
    show gCh ls (gK ls m) (pyC c) = true
    cases c with
    | num => rw [pyC]; rfl
    | txt => rw [pyC]; rfl
    | row k =>
      rw [pyC, gCh_two', if_pos (.inl rfl)]
      exact ih m (by omega) k h.2.1 h.2.2.2
    | book k =>
      rw [pyC, gCh_two', if_pos (.inr rfl)]
      exact ih m (by omega) k h.2.1 h.2.2.2
    | shape fs =>
      obtain ⟨_, _, fl, okf⟩ := h
      rw [pyC, gCh_two', if_neg (by decide +kernel), if_pos rfl]
      show (fldD (.tuple (pyF fs)) && (pyF fs).all (gPr (gK ls m))) = true
      rw [Bool.and_eq_true]
      obtain ⟨f0, f26, fnd, fso, fw⟩ := fl
      constructor
      · show (!(pyF fs).isEmpty && (pyF fs).all pairD && ascB ((pyF fs).map nameD)) = true
        rw [pyF_map, Bool.and_eq_true, Bool.and_eq_true]
        refine ⟨⟨by cases fs with | nil => exact absurd rfl f0 | cons _ _ => rfl, ?_⟩, ?_⟩
        · rw [List.all_map, List.all_eq_true]
          intro p _
          rfl
        · rw [List.map_map]
          show ascB (fs.map (·.1)) = true
          unfold ascB
          rw [fso, decide_eq_true fnd]
          rfl
      · rw [pyF_map, List.all_map, List.all_eq_true]
        intro p hp
        obtain ⟨w1, k1, _, o1⟩ := okF_mem' okf hp
        show (isWordD (.str p.1) && gK ls m (.tuple (pyL p.2))) = true
        rw [ih m (by omega) p.2 k1 o1, Bool.and_true]
        exact decide_eq_true w1
    | letter l =>
      have h' : l ∈ ls := by unfold okC at h; exact h
      rw [pyC, gCh_two', if_neg (by decide +kernel), if_neg (by decide +kernel), if_pos rfl]
      show (isLettD (.str l) && decide (l ∈ ls)) = true
      rw [decide_eq_true h', Bool.and_true]
      exact decide_eq_true (hl l h')
    | cut _ _ => unfold okC at h; exact h.elim
    | any _ => unfold okC at h; exact h.elim
    | wth _ => unfold okC at h; exact h.elim
/-- not too deep, not too long -/
def OkN (n : Nat) (d : PyData) : Prop := d.canLay0 = true ∧ sm d = true ∧ d.depth ≤ n
theorem OkN.ok {n : Nat} {d : PyData} (h : OkN n d) (hn : n ≤ 64) : okD d := ⟨Bool.and_eq_true_iff.mpr ⟨h.1, decide_eq_true (Nat.le_trans h.2.2 hn)⟩, h.2.1⟩
theorem OkN.mono {m n : Nat} {d : PyData} (h : OkN m d) (hn : m ≤ n) : OkN n d := ⟨h.1, h.2.1, Nat.le_trans h.2.2 hn⟩
theorem okN_tup {n : Nat} {ds : List PyData} (hl : ds.length ≤ 60) (h : ∀ d ∈ ds, OkN n d) : OkN (n + 1) (.tuple ds) := by
  have a : ∀ ds : List PyData, (∀ d ∈ ds, OkN n d) → PyData.canLayAll0 ds = true ∧ smAll ds = true ∧ PyData.depthAll ds ≤ n := fun ds => by
    induction ds with
    | nil => exact fun _ => ⟨rfl, rfl, by simp [PyData.depthAll]⟩
    | cons x xs ih =>
      intro h
      obtain ⟨h1, h2, h3⟩ := ih fun d m => h d (List.mem_cons_of_mem _ m)
      obtain ⟨g1, g2, g3⟩ := h x List.mem_cons_self
      refine ⟨?_, ?_, ?_⟩
      · show (x.canLay0 && PyData.canLayAll0 xs) = true
        rw [g1, h1]; rfl
      · show (sm x && smAll xs) = true
        rw [g2, h2]; rfl
      · have e0 : PyData.depthAll (x :: xs) = max x.depth (PyData.depthAll xs) := by simp [PyData.depthAll]
        rw [e0]
        omega
  obtain ⟨h1, h2, h3⟩ := a ds h
  refine ⟨h1, ?_, ?_⟩
  · show (decide (ds.length ≤ 60) && smAll ds) = true
    rw [h2, decide_eq_true hl]; rfl
  · have e0 : (PyData.tuple ds).depth = PyData.depthAll ds + 1 := by simp [PyData.depth]
    omega
end Sc
namespace Sc
open PySem PySem.Spec PyProof.Rows L2
theorem okN_str {z : Str} (h8 : z.cps.toList.length ≤ 8) (h : ∀ c ∈ z.cps.toList, c ≤ 122) : OkN 0 (.str z) := by
  refine ⟨?_, ?_, by simp [PyData.depth]⟩
  · show z.cps.all (· < 0x110000) = true
    rw [← Array.all_toList, List.all_eq_true]
    intro c hc
    have := h c hc
    exact decide_eq_true (by omega)
  · show decide (z.length ≤ 1000) = true
    rw [len_list]
    exact decide_eq_true (by omega)
theorem okN_word {z : Str} (h : Word z) : OkN 0 (.str z) := okN_str h.2.1 fun c hc => (h.2.2 c hc).2
theorem okN_lett {z : Str} (h : Lett z) : OkN 0 (.str z) := okN_str h.2.1 fun c hc => by have := h.2.2 c hc; omega
theorem okN_w {z : Str} {n : Nat} (h : (PyData.canLay0 (.str z) && sm (.str z)) = true) : OkN n (.str z) := by
  rw [Bool.and_eq_true] at h
  exact ⟨h.1, h.2, by simp [PyData.depth]⟩
theorem okN_one {z : Str} {n : Nat} (h : (PyData.canLay0 (.str z) && sm (.str z)) = true) : OkN (n + 1) (.tuple [.str z]) := okN_tup (by show 1 ≤ 60; decide) fun x m => by rw [List.mem_singleton.mp m]; exact okN_w h
theorem okN_num (n : Nat) : OkN (n + 1) (pyC .num) := by rw [pyC]; exact okN_one (by decide +kernel)
theorem okN_txt (n : Nat) : OkN (n + 1) (pyC .txt) := by rw [pyC]; exact okN_one (by decide +kernel)
theorem okN_two {n : Nat} {w : Str} {d : PyData} (hw : OkN n (.str w)) (h : OkN n d) : OkN (n + 1) (.tuple [.str w, d]) := okN_tup (by show 2 ≤ 60; decide) fun x m => by
  rcases List.mem_cons.mp m with e | e
  · rw [e]; exact hw
  · rw [List.mem_singleton.mp e]; exact h
theorem okN_kind {ls : List Str} (hl : ∀ l ∈ ls, Lett l) : ∀ (d : Nat) (k : List Ch), k.length ≤ 60 → okL ls d k → OkN (4 * d + 2) (.tuple (pyL k)) := by
  intro d
  induction d with
  | zero =>
    intro k kl ok
    refine okN_tup (by rw [pyL_map, List.length_map]; exact kl) fun x hx => ?_
    rw [pyL_map] at hx
    obtain ⟨c, hc, rfl⟩ := List.mem_map.mp hx
    have h := okL_mem' ok hc
    cases c with
    | num => exact okN_num 0
    | txt => exact okN_txt 0
    | row k => exact absurd h.1 (Nat.lt_irrefl _)
    | book k => exact absurd h.1 (Nat.lt_irrefl _)
    | shape fs => exact absurd h.1 (Nat.lt_irrefl _)
    | letter l =>
      have h' : l ∈ ls := by unfold okC at h; exact h
      rw [pyC]
      exact okN_two (okN_w (by decide +kernel)) (okN_lett (hl l h'))
    | cut _ _ => unfold okC at h; exact h.elim
    | any _ => unfold okC at h; exact h.elim
    | wth _ => unfold okC at h; exact h.elim
  | succ d ih =>
    intro k kl ok
    refine okN_tup (by rw [pyL_map, List.length_map]; exact kl) fun x hx => ?_
    rw [pyL_map] at hx
    obtain ⟨c, hc, rfl⟩ := List.mem_map.mp hx
    have h := okL_mem' ok hc
    cases c with
    | num => exact okN_num _
    | txt => exact okN_txt _
    | row k =>
      rw [pyC]
      exact okN_two (n := 4 * d + 4) (okN_w (by decide +kernel)) ((ih k (by have := h.2.2.1; omega) h.2.2.2).mono (by omega))
    | book k =>
      rw [pyC]
      exact okN_two (n := 4 * d + 4) (okN_w (by decide +kernel)) ((ih k (by have := h.2.2.1; omega) h.2.2.2).mono (by omega))
    | shape fs =>
      obtain ⟨_, f2, fl, okf⟩ := h
      rw [pyC]
      refine okN_two (n := 4 * d + 4) (okN_w (by decide +kernel)) (okN_tup (n := 4 * d + 3) (by rw [pyF_map, List.length_map]; omega) fun x hx => ?_)
      rw [pyF_map] at hx
      obtain ⟨p, hp, rfl⟩ := List.mem_map.mp hx
      obtain ⟨w1, k1, k3, o1⟩ := okF_mem' okf hp
      exact okN_two (n := 4 * d + 2) ((okN_word w1).mono (by omega)) (ih p.2 (by omega) o1)
    | letter l =>
      have h' : l ∈ ls := by unfold okC at h; exact h
      rw [pyC]
      exact okN_two (n := 4 * (d + 1)) (okN_w (by decide +kernel)) ((okN_lett (hl l h')).mono (by omega))
    | cut _ _ => unfold okC at h; exact h.elim
    | any _ => unfold okC at h; exact h.elim
    | wth _ => unfold okC at h; exact h.elim
/-- refused with any room to eight -/
def Bad (ls : List Str) (d : PyData) : Prop := ∀ n, n ≤ 9 → gK ls n d = false
theorem bad_in {ls : List Str} {c : PyData} {cs : List PyData} (m : c ∈ cs) (h : ∀ n, n ≤ 9 → gCh ls (gK ls n) c = false) : Bad ls (.tuple cs) := fun n hn => by
  cases n with
  | zero => rfl
  | succ n =>
    show (!cs.isEmpty && cs.all (gCh ls (gK ls n))) = false
    have e : cs.all (gCh ls (gK ls n)) = false := Bool.eq_false_iff.mpr fun z => by
      have := List.all_eq_true.mp z c m
      rw [h n (by omega)] at this
      cases this
    rw [e, Bool.and_false]
theorem ch_row {ls : List Str} {d : PyData} (h : Bad ls d) : ∀ n, n ≤ 9 → gCh ls (gK ls n) (.tuple [.str "row", d]) = false := fun n hn => by rw [gCh_two', if_pos (.inl rfl)]; exact h n hn
theorem ch_book {ls : List Str} {d : PyData} (h : Bad ls d) : ∀ n, n ≤ 9 → gCh ls (gK ls n) (.tuple [.str "book", d]) = false := fun n hn => by rw [gCh_two', if_pos (.inr rfl)]; exact h n hn
theorem ch_shape {ls : List Str} {d : PyData} (z : Str) (h : Bad ls d) : ∀ n, n ≤ 9 → gCh ls (gK ls n) (.tuple [.str "shape", .tuple [.tuple [.str z, d]]]) = false := fun n hn => by
  rw [gCh_two', if_neg (by decide +kernel), if_pos rfl]
  have e : gPr (gK ls n) (.tuple [.str z, d]) = false := by show (isWordD (.str z) && gK ls n d) = false; rw [h n hn, Bool.and_false]
  show (fldD (.tuple [.tuple [.str z, d]]) && [PyData.tuple [.str z, d]].all (gPr (gK ls n))) = false
  rw [List.all_cons, e, Bool.false_and, Bool.and_false]
theorem bad_deep (ls : List Str) (f : Nat → PyData) (f1 : ∀ n, f (n + 1) = .tuple [.tuple [.str "row", f n]]) : ∀ m n, n ≤ m → gK ls n (f m) = false := by
  intro m
  induction m with
  | zero =>
    intro n hn
    obtain rfl : n = 0 := by omega
    rfl
  | succ m ih =>
    intro n hn
    cases n with
    | zero => rfl
    | succ n =>
      rw [f1]
      show (!([PyData.tuple [.str "row", f m]]).isEmpty && [PyData.tuple [.str "row", f m]].all (gCh ls (gK ls n))) = false
      rw [List.all_cons, gCh_two', if_pos (.inl rfl), ih n (by omega), Bool.false_and, Bool.and_false]
/-! ### no drawn letter is ZZ -/
theorem word_zz {i : Inf} (h : i.Ok) {k : Int} (k0 : 0 ≤ k) : (wordOf i k).cps.toList ≠ [122, 122] := by
  unfold wordOf
  split
  · rename_i c
    have lt : k.toNat < talks.length := by show k.toNat < 19; omega
    rw [List.getD_eq_getElem?_getD, List.getElem?_eq_getElem lt]
    have : ∀ z ∈ talks, z.cps.toList ≠ [122, 122] := by decide +kernel
    exact this _ (List.getElem_mem lt)
  · obtain ⟨s1, s8, p0, p1, t0, t1, _, _⟩ := h
    rw [app_list, app_list, reps_list, reps_list]
    intro e
    have l := congrArg List.length e
    rw [List.length_append, List.length_append, List.length_replicate, List.length_replicate] at l
    have l' : i.place.toNat + 1 + (i.size - i.place - 1).toNat = 2 := l
    have m : 113 ∈ ([122, 122] : List Nat) := by
      rw [← e]
      by_cases z : i.place.toNat = 0
      · exact List.mem_append.mpr (.inr (List.mem_replicate.mpr ⟨by omega, rfl⟩))
      · exact List.mem_append.mpr (.inl (List.mem_append.mpr (.inl (List.mem_replicate.mpr ⟨z, rfl⟩))))
    exact absurd m (by decide)
theorem upper_zz {i : Inf} (h : i.Ok) {k : Int} (k0 : 0 ≤ k) : Txt.upper (wordOf i k) ≠ "ZZ" := fun e => by
  have w := word_of h k0
  have n := word_zz h k0
  generalize wordOf i k = z at e w n
  rw [upper_ascii fun c m => by have := w.2.2 c m; omega] at e
  have e' : z.cps.toList.map up1 = [90, 90] := by
    have a : (⟨z.cps.map up1⟩ : Str).cps.toList = z.cps.toList.map up1 := Array.toList_map
    rw [← a, e]
    rfl
  have w2 := w.2.2
  have h2 : z.cps.toList.length = 2 := by have := congrArg List.length e'; rw [List.length_map] at this; exact this
  obtain ⟨a, b, hl⟩ : ∃ a b, z.cps.toList = [a, b] := by
    generalize z.cps.toList = l at h2
    match l, h2 with
    | [a, b], _ => exact ⟨a, b, rfl⟩
  rw [hl] at e' w2 n
  have ha := w2 a List.mem_cons_self
  have hb := w2 b (List.mem_cons_of_mem _ List.mem_cons_self)
  have e1 : up1 a = 90 := by injection e'
  have e2 : up1 b = 90 := by injection e' with _ q; injection q
  unfold up1 at e1 e2
  rw [if_pos ha] at e1
  rw [if_pos hb] at e2
  refine n ?_
  rw [show a = 122 by omega, show b = 122 by omega]
end Sc
namespace Sc
open PySem PySem.Spec PyProof.Rows L2
/-! ### a law's state beside tables -/
theorem Tb.ext {K : PySem.W.Frag} {T : List Addr} {H H' : Hp} {s : Addr} {i : Inf} (t : Tb T H) (S : IsS K H s i) (x : Ext s H H') : Tb T H' := fun P hP => by
  obtain ⟨ps, e, g⟩ := t P hP
  obtain ⟨kvs, hk⟩ := S.dk
  exact ⟨ps, x _ _ (fun z => by rw [z, hk] at e; cases e) e, g⟩
theorem IsS.keepL {K : PySem.W.Frag} {H H' : Hp} {s : Addr} {i : Inf} (h : IsS K H s i) (e : Ext s H H') : KeepL K H H' := ⟨fun _ _ q => h.seq e q, h.keep e⟩
theorem IsS.fr {K : PySem.W.Frag} {T : List Addr} {H H' : Hp} {s : Addr} {i : Inf} (h : IsS K H s i) (t : Tb T H) (f : Fr T H H') : IsS K H' s i := by
  have kp := Fr.keep (K := K) t f
  obtain ⟨ns, m, a, b, c⟩ := h
  refine ⟨ns, m, f.old _ _ a fun z => ?_, kp.1 _ _ b, c⟩
  obtain ⟨ps, e, _⟩ := t s z
  rw [a] at e
  cases e
/-- what stays through the law -/
structure Bd (K : PySem.W.Frag) (T : List Addr) (s : Addr) (i : Inf) (l : Addr) (ls : List Str) (gv : V) (gd : PyData) (H : Hp) : Prop where
  S : IsS K H s i
  tb : Tb T H
  hl : SqL K H l (ls.map V.str)
  dg : Dp K H gv gd
section
variable {K : PySem.W.Frag} {T : List Addr} {s : Addr} {i : Inf} {l : Addr} {ls : List Str} {gv : V} {gd : PyData} {H H' : Hp}
theorem Bd.ext (b : Bd K T s i l ls gv gd H) (x : Ext s H H') (S' : IsS K H' s i) : Bd K T s i l ls gv gd H' := ⟨S', b.tb.ext b.S x, b.S.seq x b.hl, KeepL.dp (b.S.keepL x) b.dg⟩
theorem Bd.same (b : Bd K T s i l ls gv gd H) (e : Same H H') : Bd K T s i l ls gv gd H' := ⟨b.S.same e, (Fr.same b.tb e).tab, Same.seq e b.hl, KeepL.dp (Same.keepL e) b.dg⟩
theorem Bd.fr (b : Bd K T s i l ls gv gd H) (f : Fr T H H') : Bd K T s i l ls gv gd H' := ⟨b.S.fr b.tb f, f.tab, (Fr.keep b.tb f).1 _ _ b.hl, KeepL.dp (Fr.keep b.tb f) b.dg⟩
theorem Bd.keepF (b : Bd K T s i l ls gv gd H) (f : Fr T H H') : KeepL K H H' := Fr.keep b.tb f
end
theorem KeepL.trans {K : PySem.W.Frag} {H H1 H2 : Hp} (a : KeepL K H H1) (b : KeepL K H1 H2) : KeepL K H H2 := ⟨fun _ _ h => b.1 _ _ (a.1 _ _ h), fun _ _ h => b.2 _ _ (a.2 _ _ h)⟩
end Sc
namespace Sc
open PySem PySem.Spec PyProof.Rows L2
/-! ### sorted(rows, key=lambda row: row[0]) -/
section
variable {prog : Program} {w : World} {A : Around} {s : Shared}
theorem lam_key0 {f t : Addr} {qual : Str} {params : Arguments} {scope : Scope} {x : Str} {cl : List (Str × Addr)} {pm ctv : Value} {c' : Addr} {items : Array Value} {z : Str} {tk : Tok} {j : Nat} {p1 p2 p3 : Pos}
    (hroom : A.depth < recursionLimit) (ho : s.heap.get? f = some (PySem.W.kla_obj "<lambda>" qual params (.Subscript (.Name x p1) (.Constant (.int 0) j p2) p3) scope cl pm c' ctv)) (hcd : s.heap.CodeRec (.ref c') qual) (nl : s.heap.NoLimit)
    (hco : scope.isCoroutine = false) (hgen : scope.isGenerator = false) (hk : scope.kind = .function) (hcell : ∀ y ∈ scope.names, y.2 ≠ .cell) (hx : scope.names.lookup x = some .local)
    (hbind : bindArgs (PySem.W.kla_fn "<lambda>" qual params (.Subscript (.Name x p1) (.Constant (.int 0) j p2) p3) scope cl pm (.ref c') ctv) ⟨[.ref t], []⟩ = pure [(x, .ref t)])
    (ht : IsTup s.heap t items) (h0 : items[0]? = some (.str z tk)) (hd : (x == ("__debug__" : Str)) = false) :
    wpAny (model prog w) A (call (.ref f) [.ref t]) (PySem.W.KeyPure (.str z) s) (fun _ _ => False) s := by
  refine wpAny_call (codeAny_mono (PySem.W.kla_callFunE (R := fun r s' => ∃ u, r = .ok (.ret u) ∧ PySem.W.KeyPure (.str z) s u s') hroom ho rfl hco hgen rfl hcd ?_) fun r s' hq => ?_)
  · rw [hbind]
    refine wpAny_pure (wpAny_newFunctionEnv hcell (fun y hy => by rw [List.mem_singleton.mp hy]; exact hx) (fun h₁ hns hsb => ⟨nl.fresh _ hsb, ?_⟩) hk)
    have kp : ∀ b o, s.heap.get? b = some o → h₁.get? b = some o := fun b o e => hsb.extBut b o (Nat.ne_of_lt (Heap.lt_size e)) (Heap.get?_push_of_some _ e)
    refine PySem.W.kla_codeExpr ?_
    refine Subscript_ ?_
    refine wpAny_Name (wpAny_loadName_local hk (show scope.names.lookup x = some .local from hx) hns (v := .ref t) (by simp) ?_) hd
    refine wpAny_Constant_int ?_
    have ht1 : IsTup h₁ t items := ht.keeps kp
    exact subscriptTail_builtinR (x := .str z tk) ht1.typeIs slot_tuple_getitem.lookup
      (getItem_tuple (j := 0) (Q := fun r s' => r = .str z tk ∧ _) ht1 (by decide) (by decide) (by have := (Array.getElem?_eq_some_iff.mp h0).1; simp [seqIndex?, this]) h0 ⟨rfl, .str z tk, rfl, h₁, _, rfl, kp, .str _ _⟩)
  · obtain ⟨u, rfl, k⟩ := hq
    exact k
end
end Sc
namespace Sc
open PySem PySem.Spec PyProof.Rows L2
theorem extN_keep {K : PySem.W.Frag} {H H' : Hp} (e : LamX.ExtN H H') : KeepL K H H' := by
  refine ⟨fun a xs h => ?_, fun a xs h => ?_⟩
  · rcases h with (h | ⟨o, h⟩) | h
    · exact .inl (.inl (e _ _ h fun ps z => by cases z))
    · exact .inl (.inr ⟨o, e _ _ h fun ps z => by cases z⟩)
    · exact .inr h
  · rcases h with (h | ⟨o, h⟩) | h
    · exact .inl (.inl (e _ _ h fun ps z => by cases z))
    · exact .inl (.inr ⟨o, e _ _ h fun ps z => by cases z⟩)
    · exact .inr h
theorem each_refs : ∀ {its : List Value} {rs : List (Addr × Str)}, Vals (rs.map fun r => V.ref r.1) its → PySem.W.EachIs (fun v (r : Addr × Str) => v = .ref r.1) its rs
  | _, [], .nil => .nil
  | _, _ :: _, .cons a b => .cons a (each_refs b)
theorem refs_each : ∀ {its : List Value} {rs : List (Addr × Str)}, PySem.W.EachIs (fun v (r : Addr × Str) => v = .ref r.1) its rs → Vals (rs.map fun r => V.ref r.1) its
  | _, _, .nil => .nil
  | _, _, .cons a b => .cons a (refs_each b)
def leR : Addr × Str → Addr × Str → Bool := PySem.W.dataLe false fun r => .str r.2
def tSortBy (K : PySem.W.Frag) (T : List (Addr × Str)) (te : TE) : TE := fun σ H Q => te σ H fun v H1 => ∃ (a : Addr) (rs : List (Addr × Str)), v = .ref a ∧ LamX.Tabs T H1 ∧ SqL K H1 a (rs.map fun r => V.ref r.1) ∧ rs.length ≤ 1000 ∧ (∀ r ∈ rs, ∃ u, SqT K H1 r.1 [.str r.2, u]) ∧
  ∀ (H2 : Hp) (p : Addr), LamX.ExtN H1 H2 → LamX.Tabs T H2 → H2 p = none → Q (.ref p) (upd H2 p (.lst ((rs.mergeSort leR).map fun r => V.ref r.1)))
section
variable {X : Cx}
theorem pe_sortedBy {k : Nat} {T : List (Addr × Str)} {c P : Addr} {params : Arguments} {scope : Scope} {x : Str} {e : Expr} {te : TE} {j : Nat} {p1 p2 p3 lpos kpos p pos : Pos}
    (hc : X.calm = true) (hr : Room k X.A) (hg : Gl X "sorted") (hm : X.mg "sorted" = none) (TB : LamX.TabB X.base X.mg c P) (hcode : X.env.code = .ref c) (hmT : (P, X.env.qual ++ "<lambda>") ∈ T) (hu : ∀ q ∈ T, q.1 = P → q.2 = X.env.qual ++ "<lambda>")
    (hdef : defaultsOf params X.env = ([], [])) (hco : scope.isCoroutine = false) (hgen : scope.isGenerator = false) (hk : scope.kind = .function) (hcell : ∀ y ∈ scope.names, y.2 ≠ .cell ∧ y.2 ≠ .free) (hx : scope.names.lookup x = some .local)
    (hbind : ∀ (qual : Str) (cl : List (Str × Addr)) (pm cdv ct v : Value), bindArgs (PySem.W.kla_fn "<lambda>" qual params (.Subscript (.Name x p1) (.Constant (.int 0) j p2) p3) scope cl pm cdv ct) ⟨[v], []⟩ = pure [(x, v)]) (he : PE X e te)
    (hd : (x == ("__debug__" : Str)) = false := by decide) (hes : starEach [e] X.env = (false, eval e X.env) :: starEach [] X.env := by rfl) :
    PE X (.Call (.Name "sorted" p) [e] [⟨some "key", .Lambda params (.Subscript (.Name x p1) (.Constant (.int 0) j p2) p3) scope lpos, kpos⟩] pos) (tSortBy X.K T te) := by
  refine ⟨fun pins s σ H Q I h => ?_⟩
  refine wpAny_Call_Name_kw (ld_blt I hg hm boot_sorted ?_)
  refine callWith_kw ?_ (by rw [hes]; rfl) (by rw [hes]; rfl)
  rw [hes]
  show wpAny _ _ (spliced ((false, eval e X.env) :: backTo pos (starEach [] X.env))) _ _ s
  refine Calls.spliced_cons (thn (he.run pins s σ H _ I h) fun u s1 ⟨v, H1, I1, r1, q1⟩ => Calls.spliced_nil ?_)
  obtain ⟨a, rs, rfl, hT, ha, hl, hrs, q⟩ := q1
  obtain rfl : u = Value.ref a := r1
  show wpAny _ _ (evalAll ((do let v ← eval (.Lambda params (.Subscript (.Name x p1) (.Constant (.int 0) j p2) p3) scope lpos) X.env; standAt pos; pure v) :: [])) _ _ s1
  refine wpAny_evalAll_cons (wpAny_bind (LamX.lam_make2 I1 TB hcode hmT hu hT hdef (fun y hy z => absurd z (hcell y hy).2) fun f c' pm ctv H2 s2 I2 eN T2 hf hfn hfr hcd => ?_))
  refine wpAny_bind (wpAny_standAt (wpAny_pure (wpAny_evalAll_nil ?_)))
  have K2 := extN_keep (K := X.K) eN
  obtain ⟨its, rv, pl, hz⟩ := I2.list (K2.1 _ _ ha)
  obtain ⟨⟨oc, cvs, ct, k1, k2, k3⟩, _, _⟩ := I2.hok c' _ hcd
  have cr : s2.heap.CodeRec (.ref c') (X.env.qual ++ "<lambda>") := ⟨c', oc, cvs, ct, rfl, k1, k2, k3⟩
  show wpAny _ _ (call (.builtin "sorted") [.ref a] [(Str.ofString "key", .ref f)]) _ _ s2
  refine wpAny_mono (PySem.W.sorted_key_data (β := Addr × Str) (b := false) (E := fun _ _ => False) (Q := EP X pins σ Q) (fun r => .str r.2) pl.isList (each_refs rv) ?_ (.inr ?_) (Nat.le_trans hl (by decide)) (fun r _ => ?_) (ksk_s1 _ _) (fun y => ksk_l1 _ _) (fun y => ksk_t1 f y) (fun v r hv hm h tk kp => ?_) (fun out c2 h' tk kp free hD hlen eo => ?_)) (fun _ _ z => z) (fun _ _ z => z.elim)
  · intro d hd d' hd'
    obtain ⟨_, _, rfl⟩ := List.mem_map.mp hd
    obtain ⟨_, _, rfl⟩ := List.mem_map.mp hd'
    rfl
  · intro d hd
    obtain ⟨_, _, rfl⟩ := List.mem_map.mp hd
    exact ⟨(fun z => by cases z), fun xs z => by cases z⟩
  · have := hr.units
    show _ + 2 + 0 < _
    omega
  · obtain ⟨u, hu⟩ := hrs r hm
    obtain ⟨tits, tv, tpl, _⟩ := I2.tuple (K2.2 _ _ hu)
    subst hv
    cases tv with
    | cons rz rr =>
      obtain ⟨tz, rfl⟩ := rz
      exact lam_key0 (s := { s2 with heap := h, toks := tk }) hr.depth (kp _ _ hf) (cr.keeps kp) (I2.nolimit.keeps kp) hco hgen hk (fun y hy => (hcell y hy).1) hx (hbind _ _ _ _ _ _) (tpl.keeps kp) rfl hd
  · have fr2 : H2 (s2.heap.objs.size + 1) = none := I2.hok.fresh (Nat.le_succ _)
    have ml : ((rs.mergeSort leR).map fun r => V.ref r.1).length ≤ sizeLine := by
      rw [List.length_map, List.length_mergeSort]
      exact Nat.le_trans hl (by decide)
    have J : Inv X pins σ (upd H2 (s2.heap.objs.size + 1) (.lst ((rs.mergeSort leR).map fun r => V.ref r.1))) { s2 with heap := h', toks := tk } :=
      I2.call (ch := []) (Un.laid kp (Nat.le_succ _) fr2) (I2.hok.laid kp (Nat.le_succ _) ⟨ml, out, c2, refs_each eo, hD⟩) I2.bare (fun _ z => nomatch z)
    exact ⟨.ref (s2.heap.objs.size + 1), _, J, rfl, q _ _ eN T2 fr2⟩
end
end Sc
namespace Sc
open PySem PySem.Spec PyProof.Rows L2
/-! ### two choices with the same text are the same -/
def lt1 (c : Nat) : Bool := (decide (65 ≤ c) && decide (c ≤ 90)) || (decide (97 ≤ c) && decide (c ≤ 122))
/-- nothing, or a sign that is no letter ahead -/
def Stop (p : Nat → Bool) (x : List Nat) : Prop := ∀ a r, x = a :: r → p a = false
theorem span_eq {p : Nat → Bool} : ∀ {a a' x x' : List Nat}, (∀ c ∈ a, p c = true) → (∀ c ∈ a', p c = true) → Stop p x → Stop p x' → a ++ x = a' ++ x' → a = a' ∧ x = x'
  | [], [], _, _, _, _, _, _, e => ⟨rfl, e⟩
  | [], b :: _, _, _, _, h', hx, _, e => by
    have := hx _ _ e
    rw [h' b List.mem_cons_self] at this
    cases this
  | b :: _, [], _, _, h, _, _, hx', e => by
    have := hx' _ _ e.symm
    rw [h b List.mem_cons_self] at this
    cases this
  | b :: a, b' :: a', x, x', h, h', hx, hx', e => by
    have e' : b :: (a ++ x) = b' :: (a' ++ x') := e
    injection e' with e1 e2
    obtain ⟨r1, r2⟩ := span_eq (fun c m => h c (List.mem_cons_of_mem _ m)) (fun c m => h' c (List.mem_cons_of_mem _ m)) hx hx' e2
    exact ⟨by rw [e1, r1], r2⟩
/-- what may stand behind a choice, behind a kind -/
def TC (r : List Nat) : Prop := ∀ a s, r = a :: s → a = 32 ∨ a = 44 ∨ a = 41 ∨ a = 125
def TK (r : List Nat) : Prop := ∀ a s, r = a :: s → a = 44 ∨ a = 41 ∨ a = 125
theorem TK.c {r : List Nat} (h : TK r) : TC r := fun a s e => .inr (h a s e)
theorem TC.stop {r : List Nat} (h : TC r) : Stop lt1 r := fun a s e => by rcases h a s e with z | z | z | z <;> rw [z] <;> rfl
/-- heads of a cut: no comma, no bracket -/
def hok (h : Str) : Prop := ∀ c ∈ TL.tl h, c ≠ 44 ∧ c ≠ 41
/-- well-formed to n deep -/
def gd : Nat → Ch → Prop
  | 0, .num => True
  | 0, .txt => True
  | 0, .letter l => Lett l
  | 0, .cut l hs => Lett l ∧ hs ≠ [] ∧ ∀ h ∈ hs, hok h
  | 0, _ => False
  | _ + 1, .num => True
  | _ + 1, .txt => True
  | _ + 1, .letter l => Lett l
  | _ + 1, .cut l hs => Lett l ∧ hs ≠ [] ∧ ∀ h ∈ hs, hok h
  | n + 1, .row k => k ≠ [] ∧ ∀ c ∈ k, gd n c
  | n + 1, .book k => k ≠ [] ∧ ∀ c ∈ k, gd n c
  | n + 1, .shape fs => fs ≠ [] ∧ ∀ p ∈ fs, Word p.1 ∧ p.2 ≠ [] ∧ ∀ c ∈ p.2, gd n c
  | _ + 1, _ => False
/-- the letters ahead, and the rest -/
def lead : Ch → List Nat
  | .num => TL.tl "number"
  | .txt => TL.tl "text"
  | .row _ => TL.tl "row"
  | .book _ => TL.tl "book"
  | .shape _ => []
  | .letter l => TL.tl l
  | .cut l _ => TL.tl l
  | _ => []
def rest1 : Ch → List Nat
  | .row k => 40 :: (TL.joinL bar (cL k) ++ [41])
  | .book k => 40 :: (TL.joinL bar (cL k) ++ [41])
  | .shape fs => 123 :: (TL.joinL com (cF fs) ++ [125])
  | .cut _ hs => 40 :: (TL.joinL com (hs.map TL.tl) ++ [41])
  | .any w => TL.tl "some" ++ 32 :: TL.tl w
  | .wth f => TL.tl "with" ++ 32 :: TL.tl f
  | _ => []
theorem cC_lead (c : Ch) : cC c = lead c ++ rest1 c := by
  cases c <;> simp [cC, lead, rest1]
theorem joinL_one (S p : List Nat) : TL.joinL S [p] = p := by simp [TL.joinL]
theorem joinL_two (S p q : List Nat) (r : List (List Nat)) : TL.joinL S (p :: q :: r) = p ++ (S ++ TL.joinL S (q :: r)) := by simp [TL.joinL]
theorem join_inj {α : Type} {S : List Nat} {enc : α → List Nat} {E T : List Nat → Prop} (te : ∀ r, T r → E r) (se : ∀ x, E (S ++ x)) (ns : ∀ r x, T r → r ≠ S ++ x) : ∀ {as bs : List α} {r r' : List Nat},
    (∀ a ∈ as, ∀ b ∈ bs, ∀ x x', E x → E x' → enc a ++ x = enc b ++ x' → a = b ∧ x = x') → as ≠ [] → bs ≠ [] → T r → T r' → TL.joinL S (as.map enc) ++ r = TL.joinL S (bs.map enc) ++ r' → as = bs ∧ r = r'
  | [], _, _, _, _, h, _, _, _, _ => absurd rfl h
  | _ :: _, [], _, _, _, _, h, _, _, _ => absurd rfl h
  | [a], [b], r, r', inj, _, _, t, t', e => by
    simp only [List.map_cons, List.map_nil, joinL_one] at e
    obtain ⟨h1, h2⟩ := inj a List.mem_cons_self b List.mem_cons_self _ _ (te _ t) (te _ t') e
    exact ⟨by rw [h1], h2⟩
  | [a], b :: b2 :: bs, r, r', inj, _, _, t, t', e => by
    simp only [List.map_cons, List.map_nil, joinL_one, joinL_two, List.append_assoc] at e
    obtain ⟨_, h2⟩ := inj a List.mem_cons_self b List.mem_cons_self _ _ (te _ t) (se _) e
    exact absurd h2 (ns _ _ t)
  | a :: a2 :: as, [b], r, r', inj, _, _, t, t', e => by
    simp only [List.map_cons, List.map_nil, joinL_one, joinL_two, List.append_assoc] at e
    obtain ⟨_, h2⟩ := inj a List.mem_cons_self b List.mem_cons_self _ _ (se _) (te _ t') e
    exact absurd h2.symm (ns _ _ t')
  | a :: a2 :: as, b :: b2 :: bs, r, r', inj, _, _, t, t', e => by
    simp only [List.map_cons, joinL_two, List.append_assoc] at e
    obtain ⟨h1, h2⟩ := inj a List.mem_cons_self b List.mem_cons_self _ _ (se _) (se _) e
    have h3 := List.append_cancel_left h2
    rw [← List.map_cons, ← List.map_cons] at h3
    obtain ⟨h4, h5⟩ := join_inj te se ns (as := a2 :: as) (bs := b2 :: bs) (fun x hx y hy => inj x (List.mem_cons_of_mem _ hx) y (List.mem_cons_of_mem _ hy)) (by simp) (by simp) t t' h3
    exact ⟨by rw [h1, h4], h5⟩
theorem word_lt {z : Str} (h : Word z) : ∀ c ∈ TL.tl z, lt1 c = true := fun c m => by
  have := h.2.2 c m
  unfold lt1
  rw [decide_eq_true this.1, decide_eq_true this.2]
  simp
theorem lett_lt {z : Str} (h : Lett z) : ∀ c ∈ TL.tl z, lt1 c = true := fun c m => by
  have := h.2.2 c m
  unfold lt1
  rw [decide_eq_true this.1, decide_eq_true this.2]
  simp
/-- fields -/
theorem field_inj {n : Nat} (inj : ∀ {c c' : Ch}, gd n c → gd n c' → ∀ x x', TC x → TC x' → cC c ++ x = cC c' ++ x' → c = c' ∧ x = x') {p q : Str × List Ch}
    (hp : Word p.1 ∧ p.2 ≠ [] ∧ ∀ c ∈ p.2, gd n c) (hq : Word q.1 ∧ q.2 ≠ [] ∧ ∀ c ∈ q.2, gd n c) {x x' : List Nat} (t : TK x) (t' : TK x')
    (e : (TL.tl p.1 ++ 58 :: 32 :: TL.joinL bar (cL p.2)) ++ x = (TL.tl q.1 ++ 58 :: 32 :: TL.joinL bar (cL q.2)) ++ x') : p = q ∧ x = x' := by
  rw [List.append_assoc, List.append_assoc] at e
  obtain ⟨e1, e2⟩ := span_eq (p := lt1) (word_lt hp.1) (word_lt hq.1) (fun a r z => by injection z with z _; rw [← z]; rfl) (fun a r z => by injection z with z _; rw [← z]; rfl) e
  have e3 : TL.joinL bar (cL p.2) ++ x = TL.joinL bar (cL q.2) ++ x' := by injection e2 with _ e2; injection e2
  rw [cL_map, cL_map] at e3
  obtain ⟨h1, h2⟩ := join_inj (E := TC) (T := TK) (fun r h => h.c) (fun x a s z => by injection z with z _; exact .inl z.symm) (fun r x h z => by rcases h _ _ z with w | w | w <;> cases w)
    (fun a ha b hb x x' hx hx' => inj (hp.2.2 a ha) (hq.2.2 b hb) x x' hx hx') hp.2.1 hq.2.1 t t' e3
  exact ⟨Prod.ext (TL.ext_tl e1) h1, h2⟩
theorem kind_inj {n : Nat} (inj : ∀ {c c' : Ch}, gd n c → gd n c' → ∀ x x', TC x → TC x' → cC c ++ x = cC c' ++ x' → c = c' ∧ x = x') {k k' : List Ch} (k0 : k ≠ []) (k1 : k' ≠ []) (h : ∀ c ∈ k, gd n c) (h' : ∀ c ∈ k', gd n c) {r r' : List Nat}
    (e : (TL.joinL bar (cL k) ++ [41]) ++ r = (TL.joinL bar (cL k') ++ [41]) ++ r') : k = k' ∧ r = r' := by
  rw [List.append_assoc, List.append_assoc, cL_map, cL_map] at e
  obtain ⟨h1, h2⟩ := join_inj (E := TC) (T := TK) (fun r h => h.c) (fun x a s z => by injection z with z _; exact .inl z.symm) (fun r x h z => by rcases h _ _ z with w | w | w <;> cases w)
    (fun a ha b hb x x' hx hx' => inj (h a ha) (h' b hb) x x' hx hx') k0 k1 (r := [41] ++ r) (r' := [41] ++ r') (fun a s z => by injection z with z _; exact .inr (.inl z.symm)) (fun a s z => by injection z with z _; exact .inr (.inl z.symm)) e
  exact ⟨h1, by injection h2⟩
theorem cut_inj {hs hs' : List Str} (h0 : hs ≠ []) (h1 : hs' ≠ []) (h : ∀ z ∈ hs, hok z) (h' : ∀ z ∈ hs', hok z) {r r' : List Nat} (e : (TL.joinL com (hs.map TL.tl) ++ [41]) ++ r = (TL.joinL com (hs'.map TL.tl) ++ [41]) ++ r') : hs = hs' ∧ r = r' := by
  rw [List.append_assoc, List.append_assoc] at e
  obtain ⟨h1, h2⟩ := join_inj (S := com) (enc := TL.tl) (E := fun r => ∃ a s, r = a :: s ∧ (a = 44 ∨ a = 41)) (T := fun r => ∃ s, r = 41 :: s) (fun r ⟨s, z⟩ => ⟨_, s, z, .inr rfl⟩) (fun x => ⟨_, _, rfl, .inl rfl⟩) (fun r x ⟨s, z⟩ w => by rw [z] at w; injection w with w _; cases w)
    (fun a ha b hb x x' ⟨c, s, ex, hc⟩ ⟨c', s', ex', hc'⟩ q => by
      obtain ⟨e1, e2⟩ := span_eq (p := fun c => decide (c ≠ 44 ∧ c ≠ 41)) (fun c m => decide_eq_true (h a ha c m)) (fun c m => decide_eq_true (h' b hb c m))
        (fun a r z => by rw [ex] at z; injection z with z _; rw [← z]; rcases hc with w | w <;> rw [w] <;> rfl) (fun a r z => by rw [ex'] at z; injection z with z _; rw [← z]; rcases hc' with w | w <;> rw [w] <;> rfl) q
      exact ⟨TL.ext_tl e1, e2⟩) h0 h1 ⟨_, rfl⟩ ⟨_, rfl⟩ e
  exact ⟨h1, by injection h2⟩
theorem gd_any {n : Nat} {w : Str} : ¬ gd n (.any w) := by cases n <;> exact fun h => h
theorem gd_wth {n : Nat} {w : Str} : ¬ gd n (.wth w) := by cases n <;> exact fun h => h
theorem gd_lett {n : Nat} {l : Str} (h : gd n (.letter l)) : Lett l := by cases n <;> exact h
theorem gd_cut {n : Nat} {l : Str} {hs : List Str} (h : gd n (.cut l hs)) : Lett l ∧ hs ≠ [] ∧ ∀ z ∈ hs, hok z := by cases n <;> exact h
theorem gd_row {n : Nat} {k : List Ch} (h : gd n (.row k)) : ∃ m, n = m + 1 ∧ k ≠ [] ∧ ∀ c ∈ k, gd m c := by
  cases n with
  | zero => exact h.elim
  | succ m => exact ⟨m, rfl, h⟩
theorem gd_book {n : Nat} {k : List Ch} (h : gd n (.book k)) : ∃ m, n = m + 1 ∧ k ≠ [] ∧ ∀ c ∈ k, gd m c := by
  cases n with
  | zero => exact h.elim
  | succ m => exact ⟨m, rfl, h⟩
theorem gd_shape {n : Nat} {fs : List (Str × List Ch)} (h : gd n (.shape fs)) : ∃ m, n = m + 1 ∧ fs ≠ [] ∧ ∀ p ∈ fs, Word p.1 ∧ p.2 ≠ [] ∧ ∀ c ∈ p.2, gd m c := by
  cases n with
  | zero => exact h.elim
  | succ m => exact ⟨m, rfl, h⟩
theorem lead_lt {n : Nat} {c : Ch} (h : gd n c) : ∀ a ∈ lead c, lt1 a = true := by
  cases c with
  | num => exact (by decide : ∀ a ∈ TL.tl "number", lt1 a = true)
  | txt => exact (by decide : ∀ a ∈ TL.tl "text", lt1 a = true)
  | row _ => exact (by decide : ∀ a ∈ TL.tl "row", lt1 a = true)
  | book _ => exact (by decide : ∀ a ∈ TL.tl "book", lt1 a = true)
  | shape _ => intro a m; cases m
  | letter l => exact lett_lt (gd_lett h)
  | cut l _ => exact lett_lt (gd_cut h).1
  | any _ => exact (gd_any h).elim
  | wth _ => exact (gd_wth h).elim
theorem rest_stop {n : Nat} {c : Ch} (h : gd n c) {x : List Nat} (t : TC x) : Stop lt1 (rest1 c ++ x) := by
  cases c with
  | num => exact t.stop
  | txt => exact t.stop
  | row _ => intro a r e; injection e with e _; rw [← e]; rfl
  | book _ => intro a r e; injection e with e _; rw [← e]; rfl
  | shape _ => intro a r e; injection e with e _; rw [← e]; rfl
  | letter l => exact t.stop
  | cut l _ => intro a r e; injection e with e _; rw [← e]; rfl
  | any _ => exact (gd_any h).elim
  | wth _ => exact (gd_wth h).elim
theorem lett_no {l : Str} {z : List Nat} (h : Lett l) (e : TL.tl l = z) (b : (z.all fun c => decide (65 ≤ c) && decide (c ≤ 90)) = false ∨ z = []) : False := by
  rcases b with b | b
  · have : (z.all fun c => decide (65 ≤ c) && decide (c ≤ 90)) = true := by
      rw [← e, List.all_eq_true]
      intro c m
      have := h.2.2 c m
      rw [decide_eq_true this.1, decide_eq_true this.2]
      rfl
    rw [this] at b
    cases b
  · have h1 : 1 ≤ (TL.tl l).length := h.1
    rw [e, b] at h1
    exact absurd h1 (by decide)
theorem tc_no {x y : List Nat} {a : Nat} (t : TC x) (e : x = a :: y) (h : a ≠ 32 ∧ a ≠ 44 ∧ a ≠ 41 ∧ a ≠ 125) : False := by
  rcases t _ _ e with w | w | w | w
  · exact h.1 w
  · exact h.2.1 w
  · exact h.2.2.1 w
  · exact h.2.2.2 w
theorem choice_inj : ∀ (n : Nat) {c c' : Ch}, gd n c → gd n c' → ∀ x x', TC x → TC x' → cC c ++ x = cC c' ++ x' → c = c' ∧ x = x' := by
  intro n
  induction n using Nat.strongRecOn with
  | ind n ih =>
  intro c c' h h' x x' t t' e
  rw [cC_lead, cC_lead, List.append_assoc, List.append_assoc] at e
  obtain ⟨e1, e2⟩ := span_eq (lead_lt h) (lead_lt h') (rest_stop h t) (rest_stop h' t') e
  cases c with
  | any _ => exact (gd_any h).elim
  | wth _ => exact (gd_wth h).elim
  | num => cases c' with
    | any _ => exact (gd_any h').elim
    | wth _ => exact (gd_wth h').elim
    | num => exact ⟨rfl, e2⟩
    | txt => (dsimp only [lead] at e1; exact absurd e1 (by decide))
    | row _ => (dsimp only [lead] at e1; exact absurd e1 (by decide))
    | book _ => (dsimp only [lead] at e1; exact absurd e1 (by decide))
    | shape _ => (dsimp only [lead] at e1; exact absurd e1 (by decide))
    | letter l => exact (lett_no (gd_lett h') e1.symm (.inl (by dsimp only [lead]; decide))).elim
    | cut l _ => exact (lett_no (gd_cut h').1 e1.symm (.inl (by dsimp only [lead]; decide))).elim
  | txt => cases c' with
    | any _ => exact (gd_any h').elim
    | wth _ => exact (gd_wth h').elim
    | num => (dsimp only [lead] at e1; exact absurd e1 (by decide))
    | txt => exact ⟨rfl, e2⟩
    | row _ => (dsimp only [lead] at e1; exact absurd e1 (by decide))
    | book _ => (dsimp only [lead] at e1; exact absurd e1 (by decide))
    | shape _ => (dsimp only [lead] at e1; exact absurd e1 (by decide))
    | letter l => exact (lett_no (gd_lett h') e1.symm (.inl (by dsimp only [lead]; decide))).elim
    | cut l _ => exact (lett_no (gd_cut h').1 e1.symm (.inl (by dsimp only [lead]; decide))).elim
  | row k => cases c' with
    | any _ => exact (gd_any h').elim
    | wth _ => exact (gd_wth h').elim
    | num => (dsimp only [lead] at e1; exact absurd e1 (by decide))
    | txt => (dsimp only [lead] at e1; exact absurd e1 (by decide))
    | row k' =>
      obtain ⟨m, rfl, k0, hk⟩ := gd_row h
      obtain ⟨m', em, k1, hk'⟩ := gd_row h'
      cases em
      obtain ⟨r1, r2⟩ := kind_inj (fun {_ _} a b => ih m (Nat.lt_succ_self m) a b) k0 k1 hk hk' (by injection e2)
      exact ⟨by rw [r1], r2⟩
    | book _ => (dsimp only [lead] at e1; exact absurd e1 (by decide))
    | shape _ => (dsimp only [lead] at e1; exact absurd e1 (by decide))
    | letter l => exact (lett_no (gd_lett h') e1.symm (.inl (by dsimp only [lead]; decide))).elim
    | cut l _ => exact (lett_no (gd_cut h').1 e1.symm (.inl (by dsimp only [lead]; decide))).elim
  | book k => cases c' with
    | any _ => exact (gd_any h').elim
    | wth _ => exact (gd_wth h').elim
    | num => (dsimp only [lead] at e1; exact absurd e1 (by decide))
    | txt => (dsimp only [lead] at e1; exact absurd e1 (by decide))
    | book k' =>
      obtain ⟨m, rfl, k0, hk⟩ := gd_book h
      obtain ⟨m', em, k1, hk'⟩ := gd_book h'
      cases em
      obtain ⟨r1, r2⟩ := kind_inj (fun {_ _} a b => ih m (Nat.lt_succ_self m) a b) k0 k1 hk hk' (by injection e2)
      exact ⟨by rw [r1], r2⟩
    | row _ => (dsimp only [lead] at e1; exact absurd e1 (by decide))
    | shape _ => (dsimp only [lead] at e1; exact absurd e1 (by decide))
    | letter l => exact (lett_no (gd_lett h') e1.symm (.inl (by dsimp only [lead]; decide))).elim
    | cut l _ => exact (lett_no (gd_cut h').1 e1.symm (.inl (by dsimp only [lead]; decide))).elim
  | shape fs => cases c' with
    | any _ => exact (gd_any h').elim
    | wth _ => exact (gd_wth h').elim
    | num => (dsimp only [lead] at e1; exact absurd e1 (by decide))
    | txt => (dsimp only [lead] at e1; exact absurd e1 (by decide))
    | row _ => (dsimp only [lead] at e1; exact absurd e1 (by decide))
    | book _ => (dsimp only [lead] at e1; exact absurd e1 (by decide))
    | shape fs' =>
      obtain ⟨m, rfl, k0, hk⟩ := gd_shape h
      obtain ⟨m', em, k1, hk'⟩ := gd_shape h'
      cases em
      have e3 : (TL.joinL com (cF fs) ++ [125]) ++ x = (TL.joinL com (cF fs') ++ [125]) ++ x' := by injection e2
      rw [List.append_assoc, List.append_assoc, cF_map, cF_map] at e3
      obtain ⟨r1, r2⟩ := join_inj (S := com) (E := TK) (T := fun r => ∃ s, r = 125 :: s) (fun r ⟨s, z⟩ a s' w => by rw [z] at w; injection w with w _; exact .inr (.inr w.symm)) (fun x a s z => by injection z with z _; exact .inl z.symm) (fun r x ⟨s, z⟩ w => by rw [z] at w; injection w with w _; cases w)
        (fun a ha b hb x x' hx hx' q => field_inj (fun {_ _} a b => ih m (Nat.lt_succ_self m) a b) (hk a ha) (hk' b hb) hx hx' q) k0 k1 ⟨_, rfl⟩ ⟨_, rfl⟩ e3
      exact ⟨by rw [r1], by injection r2⟩
    | letter l => exact (lett_no (gd_lett h') e1.symm (.inr rfl)).elim
    | cut l _ => exact (lett_no (gd_cut h').1 e1.symm (.inr rfl)).elim
  | letter l => cases c' with
    | any _ => exact (gd_any h').elim
    | wth _ => exact (gd_wth h').elim
    | num => exact (lett_no (gd_lett h) e1 (.inl (by dsimp only [lead]; decide))).elim
    | txt => exact (lett_no (gd_lett h) e1 (.inl (by dsimp only [lead]; decide))).elim
    | row _ => exact (lett_no (gd_lett h) e1 (.inl (by dsimp only [lead]; decide))).elim
    | book _ => exact (lett_no (gd_lett h) e1 (.inl (by dsimp only [lead]; decide))).elim
    | shape _ => exact (lett_no (gd_lett h) e1 (.inr rfl)).elim
    | letter l' => exact ⟨by rw [TL.ext_tl e1], e2⟩
    | cut l' _ => exact (tc_no t e2 (by decide)).elim
  | cut l hs => cases c' with
    | any _ => exact (gd_any h').elim
    | wth _ => exact (gd_wth h').elim
    | num => exact (lett_no (gd_cut h).1 e1 (.inl (by dsimp only [lead]; decide))).elim
    | txt => exact (lett_no (gd_cut h).1 e1 (.inl (by dsimp only [lead]; decide))).elim
    | row _ => exact (lett_no (gd_cut h).1 e1 (.inl (by dsimp only [lead]; decide))).elim
    | book _ => exact (lett_no (gd_cut h).1 e1 (.inl (by dsimp only [lead]; decide))).elim
    | shape _ => exact (lett_no (gd_cut h).1 e1 (.inr rfl)).elim
    | letter l' => exact (tc_no t' e2.symm (by decide)).elim
    | cut l' hs' =>
      obtain ⟨_, h0, hh⟩ := gd_cut h
      obtain ⟨_, h1, hh'⟩ := gd_cut h'
      obtain ⟨r1, r2⟩ := cut_inj h0 h1 hh hh' (by injection e2)
      exact ⟨by rw [TL.ext_tl e1, r1], r2⟩
/-- two choices with the same text are the same -/
theorem txC_inj {n : Nat} {c c' : Ch} (h : gd n c) (h' : gd n c') (e : txC c = txC c') : c = c' := by
  have e' : cC c = cC c' := congrArg TL.tl e
  exact (choice_inj n h h' [] [] (fun a s z => by cases z) (fun a s z => by cases z) (by rw [List.append_nil, List.append_nil]; exact e')).1
end Sc
namespace Sc
open PySem PyProof.Rows L2
/-- a def whose code object is known -/
structure DefT (K : PySem.W.Frag) (mg : Str → Option Value) (x : Str) (st : Stmt) (ps : List Str) (c : Addr) : Prop where
  ex : ∃ (f : Addr) (fd : FuncData) (oc : Value) (od : Option Addr) (kV doc pm : Value) (an : Option Addr) (ct : Value) (osl : Array (Option Value)),
    fd = PySem.W.fnOf x x (defArgs st) (defBody st) (defScope st) .none kV doc pm an (.ref c) ct ∧ K.lookup f = some ⟨oc, od, .func fd, osl⟩ ∧ PySem.W.codeIn K (.ref c) x = true ∧ PySem.W.keepIn K (.ref f) = true ∧ mg x = some (.ref f) ∧ Binds K fd ps []
theorem DefT.of {K : PySem.W.Frag} {h : Heap} {mg : Str → Option Value} (X : K.In h) (G : h.Ns mainGlobals mg) {x : Str} {st : Stmt} {ps : List Str} {f c : Addr} {oc : Value} {od an : Option Addr} {osl : Array (Option Value)} {kV doc pm ct : Value}
    (a : PySem.W.nsIn K mainGlobals x = some (some (.ref f))) (l : K.lookup f = some ⟨oc, od, .func (PySem.W.fnOf x x (defArgs st) (defBody st) (defScope st) .none kV doc pm an (.ref c) ct), osl⟩) (cc : PySem.W.codeIn K (.ref c) x = true) (k : PySem.W.keepIn K (.ref f) = true)
    (b : ∀ (kV doc pm : Value) (an : Option Addr) (cdv ct : Value) (us : List Value), us.length = ps.length → bindArgs (PySem.W.fnOf x x (defArgs st) (defBody st) (defScope st) .none kV doc pm an cdv ct) ⟨us, []⟩ = pure (ps.zip us)) : DefT K mg x st ps c :=
  ⟨⟨f, _, oc, od, kV, doc, pm, an, ct, osl, rfl, l, cc, k, PySem.W.mg_of X G a, (fun_mk (st := st) l cc k).binds b⟩⟩
theorem DefT.ok {P : Program} {w : World} {K : PySem.W.Frag} {mg : Str → Option Value} {base : Heap} {x : Str} {st : Stmt} {N ps : List Str} {c : Addr} {k : Nat} {sp : Sp} (D : DefT K mg x st ps c) (S : FnScope N ps (defScope st)) (len : ∀ vs H Q E, sp vs H Q E → vs.length = ps.length)
    (body : ∀ (f : Addr) (A : Around) (outer : List Env) (s : Shared) (H : Hp) (vs : List V) (Q : VK) (E : XK), Room k (A.deeper (envOfC x (defScope st) s.heap.objs.size f (.ref c))) → sp vs H Q E →
      ∃ t, PSs (cxOf CX0 P w K mg base N x (defScope st) f (.ref c) A outer s H E).nox (defBody st) t ∧ t { nx := fun _ H' => Q .non H', rt := Q } (start N vs) H) : Cal P w K mg base (k + 1) x ps sp := by
  obtain ⟨f, fd, oc, od, kV, doc, pm, an, ct, osl, rfl, lk, hcd, kp, m, b⟩ := D.ex
  exact ⟨f, _, fn_of lk hcd S len fun A outer s H vs Q E hr hsp => by
    obtain ⟨t, h, q⟩ := body f A outer s H vs Q E hr hsp
    exact ⟨t, h.nox, q⟩, m, kp, b⟩
theorem gen_by {env : Env} {scope : Scope} {x : Str} (h : ((scope.kind == .function) && !scope.isCoroutine && scope.names.all (fun y => y.2 != .cell && y.2 != .free) && (scope.names.lookup (".0" : Str) == some NameKind.local) && (scope.names.lookup x == some NameKind.local)) = true) : GxR.GenS env scope x := by
  simp only [Bool.and_eq_true, List.all_eq_true, bne_iff_ne, beq_iff_eq, Bool.not_eq_true'] at h
  obtain ⟨⟨⟨⟨h1, h2⟩, h3⟩, h4⟩, h5⟩ := h
  exact ⟨h1, h2, fun y m => (h3 y m).1, h4, h5, fun y m e => absurd e (h3 y m).2⟩
end Sc
namespace Sc
open PySem PySem.Spec PyProof.Rows L2
/-! ### what is drawn is well-formed, in plain signs -/
theorem gd_of {ls : List Str} (hl : ∀ l ∈ ls, Lett l) : ∀ (n d : Nat), d ≤ n → ∀ c : Ch, okC ls d c → gd n c := by
  intro n
  induction n with
  | zero =>
    intro d hd c h
    obtain rfl : d = 0 := by omega
    cases c with
    | num => exact trivial
    | txt => exact trivial
    | row _ => exact absurd h.1 (Nat.lt_irrefl _)
    | book _ => exact absurd h.1 (Nat.lt_irrefl _)
    | shape _ => exact absurd h.1 (Nat.lt_irrefl _)
    | letter l => have h' : l ∈ ls := by unfold okC at h; exact h
                  exact hl l h'
    | cut _ _ => unfold okC at h; exact h.elim
    | any _ => unfold okC at h; exact h.elim
    | wth _ => unfold okC at h; exact h.elim
  | succ n ih =>
    intro d hd c h
    cases c with
    | num => exact trivial
    | txt => exact trivial
    | row k =>
      have h' : 0 < d ∧ k ≠ [] ∧ k.length ≤ 3 ∧ okL ls (d - 1) k := by unfold okC at h; exact h
      exact ⟨h'.2.1, fun c hc => ih (d - 1) (by omega) c (okL_mem' h'.2.2.2 hc)⟩
    | book k =>
      have h' : 0 < d ∧ k ≠ [] ∧ k.length ≤ 3 ∧ okL ls (d - 1) k := by unfold okC at h; exact h
      exact ⟨h'.2.1, fun c hc => ih (d - 1) (by omega) c (okL_mem' h'.2.2.2 hc)⟩
    | shape fs =>
      have h' : 0 < d ∧ fs.length ≤ 2 ∧ Fld (fs.map (·.1)) ∧ okF ls (d - 1) fs := by unfold okC at h; exact h
      refine ⟨fun z => h'.2.2.1.1 (by rw [z]; rfl), fun p hp => ?_⟩
      obtain ⟨w1, k1, _, o1⟩ := okF_mem' h'.2.2.2 hp
      exact ⟨w1, k1, fun c hc => ih (d - 1) (by omega) c (okL_mem' o1 hc)⟩
    | letter l => have h' : l ∈ ls := by unfold okC at h; exact h
                  exact hl l h'
    | cut _ _ => unfold okC at h; exact h.elim
    | any _ => unfold okC at h; exact h.elim
    | wth _ => unfold okC at h; exact h.elim
theorem mem_joinL {S : List Nat} {a : Nat} : ∀ {ps : List (List Nat)}, a ∈ TL.joinL S ps → a ∈ S ∨ ∃ p ∈ ps, a ∈ p
  | [], h => by simp [TL.joinL] at h
  | [p], h => by
    rw [joinL_one] at h
    exact .inr ⟨p, List.mem_cons_self, h⟩
  | p :: q :: r, h => by
    rw [joinL_two] at h
    rcases List.mem_append.mp h with z | z
    · exact .inr ⟨p, List.mem_cons_self, z⟩
    · rcases List.mem_append.mp z with z | z
      · exact .inl z
      · rcases mem_joinL z with w | ⟨x, m, w⟩
        · exact .inl w
        · exact .inr ⟨x, List.mem_cons_of_mem _ m, w⟩
/-- the signs of a head -/
theorem hd_signs {n : Nat} {c : Ch} (h : okC [] n c) : ∀ a ∈ TL.tl (hdC c), a ≠ 44 ∧ a ≠ 41 ∧ a < 128 := by
  cases c with
  | num => exact (by decide : ∀ a ∈ TL.tl "number", a ≠ 44 ∧ a ≠ 41 ∧ a < 128)
  | txt => exact (by decide : ∀ a ∈ TL.tl "text", a ≠ 44 ∧ a ≠ 41 ∧ a < 128)
  | row _ => exact (by decide : ∀ a ∈ TL.tl "row", a ≠ 44 ∧ a ≠ 41 ∧ a < 128)
  | book _ => exact (by decide : ∀ a ∈ TL.tl "book", a ≠ 44 ∧ a ≠ 41 ∧ a < 128)
  | shape fs =>
    have h' : 0 < n ∧ fs.length ≤ 2 ∧ Fld (fs.map (·.1)) ∧ okF [] (n - 1) fs := by unfold okC at h; exact h
    intro a m
    have e : TL.tl (hdC (.shape fs)) = TL.joinL (TL.tl " ") ((("shape" : Str) :: fs.map (·.1)).map TL.tl) := by
      show TL.tl (Txt.join " " ("shape" :: fs.map (·.1))) = _
      rw [TL.join_eq, TL.tl_join]
    rw [e] at m
    rcases mem_joinL m with z | ⟨p, hp, z⟩
    · exact (by decide : ∀ a ∈ TL.tl " ", a ≠ 44 ∧ a ≠ 41 ∧ a < 128) a z
    · obtain ⟨y, hy, rfl⟩ := List.mem_map.mp hp
      rcases List.mem_cons.mp hy with w | w
      · rw [w] at z
        exact (by decide : ∀ a ∈ TL.tl "shape", a ≠ 44 ∧ a ≠ 41 ∧ a < 128) a z
      · have := (h'.2.2.1.2.2.2.2 y w).2.2 a z
        omega
  | letter l => exact absurd (show l ∈ [] by unfold okC at h; exact h) (by simp)
  | cut _ _ => unfold okC at h; exact h.elim
  | any _ => unfold okC at h; exact h.elim
  | wth _ => unfold okC at h; exact h.elim
theorem okN_plain {z : Str} {n : Nat} (l : (TL.tl z).length ≤ 1000) (h : ∀ a ∈ TL.tl z, a < 128) : OkN n (.str z) := by
  refine ⟨?_, ?_, by simp [PyData.depth]⟩
  · show z.cps.all (· < 0x110000) = true
    rw [← Array.all_toList, List.all_eq_true]
    intro c hc
    have := h c hc
    exact decide_eq_true (by omega)
  · show decide (z.length ≤ 1000) = true
    rw [len_list]
    exact decide_eq_true l
theorem cut_well {bs : List (Str × List Ch)} (ok : okB bs) {c : Ch} (h : okCut bs c) : gd 9 c ∧ OkN 30 (pyC c) ∧ ∀ a ∈ cC c, a < 128 := by
  obtain ⟨l, k, hm, hc⟩ := h
  obtain ⟨lt, k0, k3, okk⟩ := ok _ hm
  have ls : ∀ a ∈ TL.tl l, a < 128 := fun a m => by have := lt.2.2 a m; omega
  rcases hc with rfl | ⟨ys, a, m, rfl, hs, m0, am, my⟩
  · exact ⟨lt, by rw [pyC]; exact okN_two (n := 29) (okN_w (by decide +kernel)) ((okN_lett lt).mono (by omega)), ls⟩
  · have hd : ∀ y ∈ (ys.drop a).take m, (∀ b ∈ TL.tl y, b ≠ 44 ∧ b ≠ 41 ∧ b < 128) ∧ (TL.tl y).length ≤ 300 := fun y hy => by
      have hy2 := (hs.2.2.2 y).mp (List.mem_of_mem_drop (List.mem_of_mem_take hy))
      obtain ⟨c, hc, rfl⟩ := List.mem_map.mp hy2
      have := hd_len (okL_mem okk hc)
      rw [len_list] at this
      exact ⟨hd_signs (okL_mem okk hc), this⟩
    have tk : ((ys.drop a).take m).length ≤ 3 := by
      have := List.length_take_le' m (ys.drop a)
      rw [List.length_drop] at this
      have few := hs.2.2.1
      have k3' : k.length ≤ 3 := k3
      omega
    refine ⟨⟨lt, fun z => ?_, fun y hy b hb => ⟨((hd y hy).1 b hb).1, ((hd y hy).1 b hb).2.1⟩⟩, ?_, fun b hb => ?_⟩
    · have := congrArg List.length z
      rw [List.length_take, List.length_drop] at this
      have h0 : ([] : List Str).length = 0 := rfl
      omega
    · rw [pyC]
      refine okN_tup (n := 29) (by show 3 ≤ 60; decide) fun x hx => ?_
      rcases List.mem_cons.mp hx with e | hx
      · rw [e]; exact okN_w (by decide +kernel)
      rcases List.mem_cons.mp hx with e | hx
      · rw [e]; exact (okN_lett lt).mono (by omega)
      rw [List.mem_singleton.mp hx]
      refine okN_tup (n := 28) (by rw [List.length_map]; omega) fun x hx => ?_
      obtain ⟨y, hy, rfl⟩ := List.mem_map.mp hx
      exact okN_plain (Nat.le_trans (hd y hy).2 (by decide)) fun b hb => ((hd y hy).1 b hb).2.2
    · have hb' : b ∈ TL.tl l ++ 40 :: (TL.joinL com (((ys.drop a).take m).map TL.tl) ++ [41]) := hb
      rcases List.mem_append.mp hb' with z | z
      · exact ls b z
      rcases List.mem_cons.mp z with z | z
      · omega
      rcases List.mem_append.mp z with z | z
      · rcases mem_joinL z with w | ⟨p, hp, w⟩
        · exact (by decide : ∀ b ∈ com, b < 128) b w
        · obtain ⟨y, hy, rfl⟩ := List.mem_map.mp hp
          exact ((hd y hy).1 b w).2.2
      · rw [List.mem_singleton.mp z]; decide
theorem signs_kind {k : List Ch} (h : ∀ c ∈ k, ∀ a ∈ cC c, a < 128) : ∀ a ∈ TL.joinL bar (cL k), a < 128 := fun a m => by
  rcases mem_joinL m with z | ⟨p, hp, z⟩
  · exact (by decide : ∀ a ∈ bar, a < 128) a z
  · rw [cL_map] at hp
    obtain ⟨c, hc, rfl⟩ := List.mem_map.mp hp
    exact h c hc a z
theorem signs_of {ls : List Str} (hl : ∀ l ∈ ls, Lett l) : ∀ (n d : Nat), d ≤ n → ∀ c : Ch, okC ls d c → ∀ a ∈ cC c, a < 128 := by
  have lt : ∀ l ∈ ls, ∀ a ∈ TL.tl l, a < 128 := fun l m a ha => by have := (hl l m).2.2 a ha; omega
  have brk : ∀ (w x : List Nat), (∀ a ∈ w, a < 128) → (∀ a ∈ x, a < 128) → ∀ a ∈ w ++ 40 :: (x ++ [41]), a < 128 := fun w x hw hx a m => by
    rcases List.mem_append.mp m with z | z
    · exact hw a z
    rcases List.mem_cons.mp z with z | z
    · omega
    rcases List.mem_append.mp z with z | z
    · exact hx a z
    · rw [List.mem_singleton.mp z]; decide
  intro n
  induction n with
  | zero =>
    intro d hd c h
    obtain rfl : d = 0 := by omega
    cases c with
    | num => exact (by decide : ∀ a ∈ TL.tl "number", a < 128)
    | txt => exact (by decide : ∀ a ∈ TL.tl "text", a < 128)
    | row _ => exact absurd h.1 (Nat.lt_irrefl _)
    | book _ => exact absurd h.1 (Nat.lt_irrefl _)
    | shape _ => exact absurd h.1 (Nat.lt_irrefl _)
    | letter l => exact lt l (by unfold okC at h; exact h)
    | cut _ _ => unfold okC at h; exact h.elim
    | any _ => unfold okC at h; exact h.elim
    | wth _ => unfold okC at h; exact h.elim
  | succ n ih =>
    intro d hd c h
    cases c with
    | num => exact (by decide : ∀ a ∈ TL.tl "number", a < 128)
    | txt => exact (by decide : ∀ a ∈ TL.tl "text", a < 128)
    | row k =>
      have h' : 0 < d ∧ k ≠ [] ∧ k.length ≤ 3 ∧ okL ls (d - 1) k := by unfold okC at h; exact h
      exact brk (TL.tl "row") _ (by decide) (signs_kind fun c hc => ih (d - 1) (by omega) c (okL_mem' h'.2.2.2 hc))
    | book k =>
      have h' : 0 < d ∧ k ≠ [] ∧ k.length ≤ 3 ∧ okL ls (d - 1) k := by unfold okC at h; exact h
      exact brk (TL.tl "book") _ (by decide) (signs_kind fun c hc => ih (d - 1) (by omega) c (okL_mem' h'.2.2.2 hc))
    | shape fs =>
      have h' : 0 < d ∧ fs.length ≤ 2 ∧ Fld (fs.map (·.1)) ∧ okF ls (d - 1) fs := by unfold okC at h; exact h
      intro a m
      have m' : a ∈ 123 :: (TL.joinL com (cF fs) ++ [125]) := m
      rcases List.mem_cons.mp m' with z | z
      · omega
      rcases List.mem_append.mp z with z | z
      · rcases mem_joinL z with w | ⟨p, hp, w⟩
        · exact (by decide : ∀ b ∈ com, b < 128) a w
        · rw [cF_map] at hp
          obtain ⟨p2, hp2, rfl⟩ := List.mem_map.mp hp
          obtain ⟨w1, _, _, o1⟩ := okF_mem' h'.2.2.2 hp2
          rcases List.mem_append.mp w with w | w
          · have := w1.2.2 a w
            omega
          rcases List.mem_cons.mp w with w | w
          · omega
          rcases List.mem_cons.mp w with w | w
          · omega
          exact signs_kind (fun c hc => ih (d - 1) (by omega) c (okL_mem' o1 hc)) a w
      · rw [List.mem_singleton.mp z]; decide
    | letter l => exact lt l (by unfold okC at h; exact h)
    | cut _ _ => unfold okC at h; exact h.elim
    | any _ => unfold okC at h; exact h.elim
    | wth _ => unfold okC at h; exact h.elim
theorem lay_of {c : Ch} (h : ∀ a ∈ cC c, a < 128) : PyData.canLay0 (.str (txC c)) = true := by
  show (txC c).cps.all (· < 0x110000) = true
  rw [← Array.all_toList, List.all_eq_true]
  intro a ha
  have := h a ha
  exact decide_eq_true (by omega)
theorem any_well {bs : List (Str × List Ch)} (ok : okB bs) {k : List Ch} (h : okA bs 2 k) : ∀ c ∈ k, gd 9 c ∧ dC c < 3 ∧ (cC c).length ≤ 100000 ∧ OkN 30 (pyC c) ∧ PyData.canLay0 (.str (txC c)) = true := fun c hc => by
  obtain ⟨g1, _, g3, _⟩ := any_len ok h
  have hl : ∀ l ∈ bs.map (·.1), Lett l := fun l m => by
    obtain ⟨q, hq, rfl⟩ := List.mem_map.mp m
    exact (ok q hq).1
  have dl : dC c < 3 := Nat.lt_of_le_of_lt (Nat.le_trans (dL_mem hc) g3) (by decide)
  have ll : (cC c).length ≤ 100000 := Nat.le_trans (g1 _ (by rw [cL_map]; exact List.mem_map_of_mem hc)) (by decide)
  obtain ⟨k0, cs, rfl, okk, n0, n3, hcs⟩ := h
  rcases List.mem_append.mp hc with m | m
  · have o := okL_mem' okk m
    refine ⟨gd_of hl 9 2 (by decide) c o, dl, ll, ?_, lay_of (signs_of hl 2 2 (Nat.le_refl _) c o)⟩
    have a := okN_kind hl 2 [c] (by show 1 ≤ 60; decide) ⟨o, trivial⟩
    obtain ⟨h1, h2, h3⟩ := a
    have e0 : (PyData.tuple (pyL [c])).depth = (pyC c).depth + 1 := by simp [PyData.depth, PyData.depthAll, pyL]
    rw [pyL_map] at h1 h2
    have h2' : (decide (1 ≤ 60) && smAll [pyC c]) = true := h2
    rw [Bool.and_eq_true] at h2'
    exact ⟨layAll_mem h1 List.mem_cons_self, smAll_mem h2'.2 List.mem_cons_self, by omega⟩
  · rcases hcs with rfl | ⟨c', rfl, hc'⟩
    · cases m
    · rw [List.mem_singleton.mp m] at dl ll ⊢
      obtain ⟨w1, w2, w3⟩ := cut_well ok hc'
      exact ⟨w1, dl, ll, w2, lay_of w3⟩
end Sc
namespace Sc
open PySem PySem.Spec PyProof.Rows L2
/-! ### kinds joined: what joined and the law's own joining are held against -/
/-- the choices joined: by their texts, each once -/
def J (all cs : List Ch) : Prop := (cs.map txC).Pairwise ltT ∧ (∀ c ∈ cs, c ∈ all) ∧ ∀ c ∈ all, txC c ∈ cs.map txC
theorem J_uniq {n : Nat} {all cs cs' : List Ch} (g : ∀ c ∈ all, gd n c) (h : J all cs) (h' : J all cs') : cs = cs' := by
  have e : cs.map txC = cs'.map txC := asc_uniq _ _ h.1 h'.1 fun z => ⟨fun m => by
    obtain ⟨c, hc, rfl⟩ := List.mem_map.mp m
    exact h'.2.2 c (h.2.1 c hc), fun m => by
    obtain ⟨c, hc, rfl⟩ := List.mem_map.mp m
    exact h.2.2 c (h'.2.1 c hc)⟩
  have inj : ∀ (as bs : List Ch), (∀ c ∈ as, gd n c) → (∀ c ∈ bs, gd n c) → as.map txC = bs.map txC → as = bs := fun as => by
    induction as with
    | nil => intro bs _ _ e; cases bs with
      | nil => rfl
      | cons _ _ => cases e
    | cons a as ih => intro bs ha hb e; cases bs with
      | nil => cases e
      | cons b bs =>
        injection e with e1 e2
        rw [txC_inj (ha a List.mem_cons_self) (hb b List.mem_cons_self) e1, ih bs (fun c m => ha c (List.mem_cons_of_mem _ m)) (fun c m => hb c (List.mem_cons_of_mem _ m)) e2]
  exact inj cs cs' (fun c m => g c (h.2.1 c m)) (fun c m => g c (h'.2.1 c m)) e
/-- kinds of a list -/
def IsKs (K : PySem.W.Frag) (H : Hp) (vs : List V) (ks : List (List Ch)) : Prop := vs.length = ks.length ∧ ∀ (j : Nat) (v : V) (k : List Ch), vs[j]? = some v → ks[j]? = some k → IsK K H v k
def spJoin (K : PySem.W.Frag) (n : Nat) (T : Hp → Prop) (R : Hp → Hp → Prop) : Sp := fun vs H Q _ => ∃ (l : Addr) (us : List V) (ks : List (List Ch)), vs = [.ref l] ∧ SqL K H l us ∧ IsKs K H us ks ∧ T H ∧ (∀ c ∈ ks.flatten, gd 9 c ∧ dC c < n ∧ (cC c).length ≤ 100000 ∧ OkN 30 (pyC c) ∧ PyData.canLay0 (.str (txC c)) = true) ∧ ks.flatten.length ≤ 60 ∧
  ∀ (v : V) (H' : Hp) (cs : List Ch), R H H' → Dt K H' v (.tuple (cs.map pyC)) → J ks.flatten cs → Q v H'
/-- a dict of texts to choices -/
structure DI (K : PySem.W.Frag) (H : Hp) (kvs : List (Key × V)) (seen : List Ch) : Prop where
  nd : (kvs.map (·.1)).Nodup
  ks : ∀ p ∈ kvs, ∃ c ∈ seen, p.1 = Sum.inr (txC c)
  vs : ∀ c ∈ seen, ∃ v, valV kvs (Sum.inr (txC c)) = some v ∧ IsC K H v c
  few : kvs.length ≤ seen.length
theorem DI.put {K : PySem.W.Frag} {H H' : Hp} {kvs : List (Key × V)} {seen : List Ch} {v : V} {c : Ch} {n : Nat} (d : DI K H kvs seen) (k : Keep K H H') (hv : IsC K H' v c) (g : gd n c) (gs : ∀ c ∈ seen, gd n c) : DI K H' (putK kvs (Sum.inr (txC c)) v) (seen ++ [c]) := by
  refine ⟨nd_put _ v d.nd, fun p hp => ?_, fun c' hc' => ?_, ?_⟩
  · rcases mem_put hp with e | e
    · exact ⟨c, List.mem_append.mpr (.inr List.mem_cons_self), by rw [e]⟩
    · obtain ⟨c', m, e'⟩ := d.ks p e
      exact ⟨c', List.mem_append.mpr (.inl m), e'⟩
  · by_cases e : txC c' = txC c
    · have g' : gd n c' := by
        rcases List.mem_append.mp hc' with m | m
        · exact gs c' m
        · rw [List.mem_singleton.mp m]; exact g
      have ec := txC_inj g' g e
      rw [ec]
      exact ⟨v, by rw [valV_put, if_pos rfl], hv⟩
    · rcases List.mem_append.mp hc' with m | m
      · obtain ⟨v', h1, h2⟩ := d.vs c' m
        exact ⟨v', by rw [valV_put, if_neg fun z => e (Sum.inr.inj z)]; exact h1, k.dt h2⟩
      · exact absurd (by rw [List.mem_singleton.mp m]) e
  · have := put_len kvs (Sum.inr (txC c)) v
    have := d.few
    rw [List.length_append]
    show _ ≤ _ + 1
    omega
theorem DI.keep {K : PySem.W.Frag} {H H' : Hp} {kvs : List (Key × V)} {seen : List Ch} (d : DI K H kvs seen) (k : Keep K H H') : DI K H' kvs seen := ⟨d.nd, d.ks, fun c m => let ⟨v, a, b⟩ := d.vs c m; ⟨v, a, k.dt b⟩, d.few⟩
/-- its keys -/
theorem DI.keys {K : PySem.W.Frag} {H : Hp} {kvs : List (Key × V)} {seen : List Ch} (d : DI K H kvs seen) : ∃ ts : List Str, kvs.map (·.1) = ts.map Sum.inr ∧ ts.Nodup ∧ ∀ t, t ∈ ts ↔ ∃ c ∈ seen, txC c = t := by
  have a : ∀ l : List (Key × V), (∀ p ∈ l, ∃ c ∈ seen, p.1 = Sum.inr (txC c)) → ∃ ts : List Str, l.map (·.1) = ts.map Sum.inr ∧ ∀ t ∈ ts, ∃ c ∈ seen, txC c = t := fun l => by
    induction l with
    | nil => exact fun _ => ⟨[], rfl, fun t m => by cases m⟩
    | cons p l ih =>
      intro h
      obtain ⟨ts, e, m⟩ := ih fun q hq => h q (List.mem_cons_of_mem _ hq)
      obtain ⟨c, hc, e1⟩ := h p List.mem_cons_self
      refine ⟨txC c :: ts, by rw [List.map_cons, List.map_cons, e, e1], fun t ht => ?_⟩
      rcases List.mem_cons.mp ht with z | z
      · exact ⟨c, hc, z.symm⟩
      · exact m t z
  obtain ⟨ts, e, m⟩ := a kvs d.ks
  refine ⟨ts, e, ?_, fun t => ⟨m t, fun ⟨c, hc, et⟩ => ?_⟩⟩
  · have h := d.nd
    rw [e] at h
    exact (List.pairwise_map.mp h).imp fun n z => n (by rw [z])
  · obtain ⟨v, h1, _⟩ := d.vs c hc
    have h2 := valV_in h1
    rw [e] at h2
    obtain ⟨t', m', e'⟩ := List.mem_map.mp h2
    rw [← et, ← Sum.inr.inj e']
    exact m'
theorem choose_cs {all : List Ch} : ∀ {ys : List Str}, (∀ y ∈ ys, ∃ c ∈ all, txC c = y) → ∃ cs : List Ch, cs.map txC = ys ∧ ∀ c ∈ cs, c ∈ all
  | [], _ => ⟨[], rfl, fun c m => by cases m⟩
  | y :: ys, h => by
    obtain ⟨cs, e, m⟩ := choose_cs (ys := ys) fun z hz => h z (List.mem_cons_of_mem _ hz)
    obtain ⟨c, hc, ec⟩ := h y List.mem_cons_self
    refine ⟨c :: cs, by rw [List.map_cons, e, ec], fun x hx => ?_⟩
    rcases List.mem_cons.mp hx with z | z
    · rw [z]; exact hc
    · exact m x z
def rowD (c : Ch) : PyData := .tuple [.str (txC c), pyC c]
structure RI (K : PySem.W.Frag) (H : Hp) (rr : List (Addr × Ch)) (seen : List Ch) : Prop where
  rows : ∀ r ∈ rr, r.2 ∈ seen ∧ ∃ u, SqT K H r.1 [.str (txC r.2), u] ∧ IsC K H u r.2
  cov : ∀ c ∈ seen, txC c ∈ rr.map fun r => txC r.2
  nd : (rr.map fun r => txC r.2).Nodup
  few : rr.length ≤ seen.length
theorem RI.keep {K : PySem.W.Frag} {H H' : Hp} {rr : List (Addr × Ch)} {seen : List Ch} (d : RI K H rr seen) (k : Keep K H H') : RI K H' rr seen :=
  ⟨fun r m => let ⟨a, u, b, c⟩ := d.rows r m; ⟨a, u, k _ _ b, k.dt c⟩, d.cov, d.nd, d.few⟩
theorem row_dp {K : PySem.W.Frag} {H : Hp} {t : Addr} {u : V} {c : Ch} (h : SqT K H t [.str (txC c), u]) (hc : IsC K H u c) : Dp K H (.ref t) (rowD c) := .tup h (.cons (.str _) (.cons (Dt.dp hc) .nil))
theorem RI.dp {K : PySem.W.Frag} {H : Hp} : ∀ {rr : List (Addr × Ch)}, (∀ r ∈ rr, ∃ u, SqT K H r.1 [.str (txC r.2), u] ∧ IsC K H u r.2) → DpAll K H (rr.map fun r => V.ref r.1) (rr.map fun r => rowD r.2)
  | [], _ => .nil
  | r :: rr, h => by
    obtain ⟨u, a, b⟩ := h r List.mem_cons_self
    exact .cons (row_dp a b) (RI.dp fun x m => h x (List.mem_cons_of_mem _ m))
theorem row_shaped {c : Ch} (h : OkN 30 (pyC c)) (t : PyData.canLay0 (.str (txC c)) = true) : SeqAt.shaped (rowD c) = true ∧ (rowD c).depth ≤ 31 := by
  have e0 : (rowD c).depth = max 0 (max (pyC c).depth 0) + 1 := by simp [rowD, PyData.depth, PyData.depthAll]
  have := h.2.2
  have d : (rowD c).depth ≤ 31 := by omega
  refine ⟨Bool.and_eq_true_iff.mpr ⟨?_, decide_eq_true (by omega)⟩, d⟩
  show (PyData.canLay0 (.str (txC c)) && (PyData.canLay0 (pyC c) && true)) = true
  rw [t, h.1]; rfl
theorem rows_shaped {cs : List Ch} (h : ∀ c ∈ cs, OkN 30 (pyC c) ∧ PyData.canLay0 (.str (txC c)) = true) : SeqAt.shaped (.list (cs.map rowD)) = true := by
  have a : PyData.canLayAll0 (cs.map rowD) = true ∧ PyData.depthAll (cs.map rowD) ≤ 31 := by
    induction cs with
    | nil => exact ⟨rfl, by simp [PyData.depthAll]⟩
    | cons c cs ih =>
      obtain ⟨h1, h2⟩ := ih fun x m => h x (List.mem_cons_of_mem _ m)
      obtain ⟨g1, g2⟩ := row_shaped (h c List.mem_cons_self).1 (h c List.mem_cons_self).2
      refine ⟨?_, ?_⟩
      · show ((rowD c).canLay0 && PyData.canLayAll0 (cs.map rowD)) = true
        rw [SeqAt.canLay_of_shaped g1, h1]; rfl
      · have e0 : PyData.depthAll (rowD c :: cs.map rowD) = max (rowD c).depth (PyData.depthAll (cs.map rowD)) := by simp [PyData.depthAll]
        rw [List.map_cons, e0]
        omega
  have e0 : (PyData.list (cs.map rowD)).depth = PyData.depthAll (cs.map rowD) + 1 := by simp [PyData.depth]
  exact Bool.and_eq_true_iff.mpr ⟨a.1, decide_eq_true (by omega)⟩
theorem row_eqv {n : Nat} {c c' : Ch} (g : gd n c) (g' : gd n c') (h : OkN 30 (pyC c)) (t : PyData.canLay0 (.str (txC c)) = true) : PyData.eqv (rowD c') (rowD c) = true ↔ txC c' = txC c := by
  constructor
  · intro e
    have e' : ((txC c' == txC c) && (PyData.eqv (pyC c') (pyC c) && true)) = true := by simpa [rowD, PyData.eqv, PyData.eqvAll] using e
    rw [Bool.and_eq_true, beq_iff_eq] at e'
    exact e'.1
  · intro e
    rw [txC_inj g' g e]
    exact SeqAt.eqv_refl _ (SeqAt.canLay_of_shaped (row_shaped h t).1)
/-- kinds of a list, further -/
theorem IsKs.nil {K : PySem.W.Frag} {H : Hp} : IsKs K H [] [] := ⟨rfl, fun j v k h => by simp at h⟩
theorem IsKs.keep {K : PySem.W.Frag} {H H' : Hp} {vs : List V} {ks : List (List Ch)} (h : IsKs K H vs ks) (e : Keep K H H') : IsKs K H' vs ks := ⟨h.1, fun j v k a b => e.dt (h.2 j v k a b)⟩
theorem IsKs.snoc {K : PySem.W.Frag} {H : Hp} {v : V} {k : List Ch} {vs : List V} {ks : List (List Ch)} (t : IsKs K H vs ks) (h : IsK K H v k) : IsKs K H (vs ++ [v]) (ks ++ [k]) := by
  refine ⟨by rw [List.length_append, List.length_append, t.1]; rfl, fun j u e h1 h2 => ?_⟩
  by_cases lt : j < vs.length
  · rw [List.getElem?_append_left lt] at h1
    rw [List.getElem?_append_left (t.1 ▸ lt)] at h2
    exact t.2 j u e h1 h2
  · rw [List.getElem?_append_right (by omega)] at h1
    rw [List.getElem?_append_right (by have := t.1; omega)] at h2
    have z : j - vs.length = 0 := by
      have := (List.getElem?_eq_some_iff.mp h1).1
      simp at this
      omega
    rw [z] at h1
    rw [← t.1, z] at h2
    cases h1; cases h2; exact h
theorem IsKs.dp {K : PySem.W.Frag} {H : Hp} {vs : List V} {ks : List (List Ch)} (h : IsKs K H vs ks) : DpAll K H vs (ks.map fun k => .tuple (pyL k)) := by
  refine dpAll_of (by rw [List.length_map, h.1]) fun j v d a b => ?_
  rw [List.getElem?_map] at b
  obtain ⟨k, hk, rfl⟩ := Option.map_eq_some_iff.mp b
  exact Dt.dp (h.2 j v k a hk)
theorem flat_len {m : Nat} : ∀ {ks : List (List Ch)}, (∀ k ∈ ks, k.length ≤ m) → ks.flatten.length ≤ m * ks.length
  | [], _ => by simp
  | k :: ks, h => by
    have a := flat_len (ks := ks) fun x hx => h x (List.mem_cons_of_mem _ hx)
    have b := h k List.mem_cons_self
    rw [List.flatten_cons, List.length_append, List.length_cons, Nat.mul_succ]
    omega
/-- a kind of good choices, some such kinds, can be compared -/
theorem okN_of_cs {cs : List Ch} (hl : cs.length ≤ 60) (h : ∀ c ∈ cs, OkN 30 (pyC c)) : OkN 31 (.tuple (cs.map pyC)) := okN_tup (by rw [List.length_map]; exact hl) fun d m => by
  obtain ⟨c, hc, rfl⟩ := List.mem_map.mp m
  exact h c hc
theorem shaped_lst {n : Nat} {ds : List PyData} (h : ∀ d ∈ ds, OkN n d) (hn : n < 60) : SeqAt.shaped (.list ds) = true := by
  have a : PyData.canLayAll0 ds = true ∧ PyData.depthAll ds ≤ n := by
    induction ds with
    | nil => exact ⟨rfl, by simp [PyData.depthAll]⟩
    | cons c cs ih =>
      obtain ⟨h1, h2⟩ := ih fun x m => h x (List.mem_cons_of_mem _ m)
      obtain ⟨g1, _, g3⟩ := h c List.mem_cons_self
      refine ⟨?_, ?_⟩
      · show (c.canLay0 && PyData.canLayAll0 cs) = true
        rw [g1, h1]; rfl
      · have e0 : PyData.depthAll (c :: cs) = max c.depth (PyData.depthAll cs) := by simp [PyData.depthAll]
        rw [e0]
        omega
  have e0 : (PyData.list ds).depth = PyData.depthAll ds + 1 := by simp [PyData.depth]
  exact Bool.and_eq_true_iff.mpr ⟨a.1, decide_eq_true (by omega)⟩
/-- the table of the lambda that _law_join makes -/
def TbJ (P1 : Addr) (H : Hp) : Prop := LamX.Tabs [(P1, ("_law_join.<locals>.<lambda>" : Str))] H
def RJ (P1 : Addr) (H H' : Hp) : Prop := LamX.ExtN H H' ∧ TbJ P1 H'
theorem TbJ.nil {P1 : Addr} {H : Hp} (h : H P1 = some (.tbl #[])) : TbJ P1 H := fun t ht => by
  rw [List.mem_singleton.mp ht]
  exact LamX.TabS.nil h
/-- tables and code objects stay -/
def KeepT (H H' : Hp) : Prop := ∀ a o, H a = some o → ¬ Soft o → (∀ xs, o ≠ .tup xs) → H' a = some o
theorem TbJ.keep {P1 : Addr} {H H' : Hp} (t : TbJ P1 H) (e : KeepT H H') : TbJ P1 H' := fun p hp => by
  obtain ⟨ps, h1, h2, h3⟩ := t p hp
  refine ⟨ps, e _ _ h1 (fun z => z) (fun xs z => by cases z), h2, fun pos cv hc => ?_⟩
  obtain ⟨c, e1, e2⟩ := h3 pos cv hc
  exact ⟨c, e1, e _ _ e2 (fun z => by unfold LamX.CodeO at z; exact z) (fun xs z => by unfold LamX.CodeO at z; cases z)⟩
theorem TbJ.same {P1 : Addr} {H H' : Hp} (t : TbJ P1 H) (e : Same H H') : TbJ P1 H' := LamX.Tabs.ext t e
theorem TbJ.upd {P1 D : Addr} {H : Hp} {o0 : HO} (t : TbJ P1 H) (h : H D = some o0) (s : Soft o0) (o : HO) : TbJ P1 (L2.upd H D o) := t.keep fun a u q n _ => by
  rw [upd_ne (fun z => by rw [z, h] at q; cases q; exact n s)]
  exact q
theorem TbJ.ext {K : PySem.W.Frag} {P1 s : Addr} {i : Inf} {H H' : Hp} (t : TbJ P1 H) (S : IsS K H s i) (e : Ext s H H') : TbJ P1 H' := t.keep fun a u q n _ => by
  obtain ⟨kvs, hk⟩ := S.dk
  exact e _ _ (fun z => by rw [z, hk] at q; cases q; exact n trivial) q
theorem RJ.trans {P1 : Addr} {H H1 H2 : Hp} (a : RJ P1 H H1) (b : RJ P1 H1 H2) : RJ P1 H H2 := ⟨a.1.trans b.1, b.2⟩
theorem RJ.keep {K : PySem.W.Frag} {P1 : Addr} {H H' : Hp} (a : RJ P1 H H') : Keep K H H' := (extN_keep a.1).2
theorem RJ.obj {P1 : Addr} {H H' : Hp} (a : RJ P1 H H') {b : Addr} {o : HO} (h : H b = some o) (n : ∀ ps, o ≠ .tbl ps) : H' b = some o := a.1 b o h n
end Sc
namespace Sc
open PySem PySem.Spec PyProof.Rows L2
/-! ### the choices joined, purely -/
theorem ltT_total {a b : Str} (h : a ≠ b) (n : ¬ ltT a b) : ltT b a := Classical.byContradiction fun m => h (str_ext (List.le_antisymm (α := Nat) m n))
instance (a b : Str) : Decidable (ltT a b) := inferInstanceAs (Decidable (a.cps.toList < b.cps.toList))
def insC (c : Ch) : List Ch → List Ch
  | [] => [c]
  | d :: r => if txC c = txC d then d :: r else if ltT (txC c) (txC d) then c :: d :: r else d :: insC c r
def jn : List Ch → List Ch
  | [] => []
  | c :: r => insC c (jn r)
theorem insC_sub {c : Ch} : ∀ {l : List Ch} {x : Ch}, x ∈ insC c l → x = c ∨ x ∈ l
  | [], x, h => .inl (List.mem_singleton.mp h)
  | d :: r, x, h => by
    unfold insC at h
    split at h
    · exact .inr h
    split at h
    · rcases List.mem_cons.mp h with e | e
      · exact .inl e
      · exact .inr e
    · rcases List.mem_cons.mp h with e | e
      · exact .inr (by rw [e]; exact List.mem_cons_self)
      · rcases insC_sub e with z | z
        · exact .inl z
        · exact .inr (List.mem_cons_of_mem _ z)
theorem insC_has {c : Ch} : ∀ {l : List Ch} {t : Str}, t ∈ (insC c l).map txC ↔ t = txC c ∨ t ∈ l.map txC
  | [], t => by simp [insC]
  | d :: r, t => by
    unfold insC
    split
    · rename_i e
      rw [e, List.map_cons, List.mem_cons]
      exact ⟨.inr, fun h => h.elim .inl id⟩
    split
    · rw [List.map_cons, List.mem_cons]
    · rw [List.map_cons, List.mem_cons, insC_has, List.map_cons, List.mem_cons]
      exact ⟨fun h => h.elim (fun z => .inr (.inl z)) fun z => z.elim .inl fun y => .inr (.inr y), fun h => h.elim (fun z => .inr (.inl z)) fun z => z.elim .inl fun y => .inr (.inr y)⟩
theorem insC_asc {c : Ch} : ∀ {l : List Ch}, (l.map txC).Pairwise ltT → ((insC c l).map txC).Pairwise ltT
  | [], _ => by simp [insC]
  | d :: r, h => by
    have h' := List.pairwise_cons.mp h
    unfold insC
    split
    · exact h
    rename_i ne
    split
    · rename_i lt
      refine List.pairwise_cons.mpr ⟨fun t ht => ?_, h⟩
      rcases List.mem_cons.mp ht with e | e
      · rw [e]; exact lt
      · exact List.lt_trans (α := Nat) lt (h'.1 t e)
    · rename_i nl
      refine List.pairwise_cons.mpr ⟨fun t ht => ?_, insC_asc h'.2⟩
      rcases insC_has.mp ht with e | e
      · rw [e]; exact ltT_total ne nl
      · exact h'.1 t e
theorem insC_len (c : Ch) : ∀ l : List Ch, (insC c l).length ≤ l.length + 1
  | [] => Nat.le_refl _
  | d :: r => by
    unfold insC
    split
    · exact Nat.le_succ _
    split
    · exact Nat.le_refl _
    · have := insC_len c r
      simp only [List.length_cons]
      omega
theorem jn_len : ∀ l : List Ch, (jn l).length ≤ l.length
  | [] => Nat.le_refl _
  | c :: r => by
    have a := jn_len r
    have b := insC_len c (jn r)
    show (insC c (jn r)).length ≤ r.length + 1
    omega
theorem jn_sub : ∀ {l : List Ch} {x : Ch}, x ∈ jn l → x ∈ l
  | c :: r, x, h => by
    rcases insC_sub (show x ∈ insC c (jn r) from h) with e | e
    · rw [e]; exact List.mem_cons_self
    · exact List.mem_cons_of_mem _ (jn_sub e)
theorem jn_has : ∀ {l : List Ch} {t : Str}, t ∈ (jn l).map txC ↔ t ∈ l.map txC
  | [], t => Iff.rfl
  | c :: r, t => by
    show t ∈ (insC c (jn r)).map txC ↔ _
    rw [insC_has, jn_has, List.map_cons, List.mem_cons]
theorem jn_asc : ∀ l : List Ch, ((jn l).map txC).Pairwise ltT
  | [] => List.Pairwise.nil
  | c :: r => insC_asc (jn_asc r)
theorem jn_ne {l : List Ch} (h : l ≠ []) : jn l ≠ [] := fun e => by
  cases l with
  | nil => exact h rfl
  | cons c r =>
    have : txC c ∈ (jn (c :: r)).map txC := jn_has.mpr List.mem_cons_self
    rw [e] at this
    cases this
theorem jn_J (l : List Ch) : J l (jn l) := ⟨jn_asc l, fun _ m => jn_sub m, fun _ m => jn_has.mpr (List.mem_map_of_mem m)⟩
theorem J_jn {n : Nat} {all cs : List Ch} (g : ∀ c ∈ all, gd n c) (h : J all cs) : cs = jn all := J_uniq g h (jn_J all)
theorem jn_few {l : List Ch} (a : l.length ≤ 60) : (jn l).length ≤ 60 := Nat.le_trans (jn_len l) a
/-! ### well-formed choices, by their size -/
/-- depth, length, nesting -/
structure Wl (d b e : Nat) (c : Ch) : Prop where
  g : ∀ n, d ≤ n → gd n c
  dp : dC c ≤ d
  ln : (cC c).length ≤ b
  ok : OkN e (pyC c)
  sg : ∀ a ∈ cC c, a < 128
theorem Wl.mono {d b e d' b' e' : Nat} {c : Ch} (h : Wl d b e c) (h1 : d ≤ d') (h2 : b ≤ b') (h3 : e ≤ e') : Wl d' b' e' c :=
  ⟨fun n l => h.g n (Nat.le_trans h1 l), Nat.le_trans h.dp h1, Nat.le_trans h.ln h2, h.ok.mono h3, h.sg⟩
theorem Wl.good {d b e n : Nat} {c : Ch} (h : Wl d b e c) (hd : d < n) (h9 : d ≤ 9) (hb : b ≤ 100000) (he : e ≤ 30) : gd 9 c ∧ dC c < n ∧ (cC c).length ≤ 100000 ∧ OkN 30 (pyC c) ∧ PyData.canLay0 (.str (txC c)) = true :=
  ⟨h.g 9 h9, Nat.lt_of_le_of_lt h.dp hd, Nat.le_trans h.ln hb, h.ok.mono he, lay_of h.sg⟩
theorem dL_le {d : Nat} : ∀ {k : List Ch}, (∀ c ∈ k, dC c ≤ d) → dL k ≤ d
  | [], _ => Nat.zero_le _
  | c :: r, h => Nat.max_le.mpr ⟨h c List.mem_cons_self, dL_le fun x m => h x (List.mem_cons_of_mem _ m)⟩
theorem dF_le {d : Nat} : ∀ {fs : List (Str × List Ch)}, (∀ p ∈ fs, dL p.2 ≤ d) → dF fs ≤ d
  | [], _ => Nat.zero_le _
  | (f, k) :: r, h => Nat.max_le.mpr ⟨h (f, k) List.mem_cons_self, dF_le fun x m => h x (List.mem_cons_of_mem _ m)⟩
theorem joinL_le {S : List Nat} {b : Nat} : ∀ {ps : List (List Nat)}, (∀ p ∈ ps, p.length ≤ b) → (TL.joinL S ps).length ≤ ps.length * (b + S.length)
  | [], _ => Nat.zero_le _
  | p :: ps, h => by
    have a : (ps.map (·.length)).sum ≤ ps.length * b := by
      have h' : ∀ q ∈ ps, q.length ≤ b := fun q m => h q (List.mem_cons_of_mem _ m)
      clear h
      induction ps with
      | nil => exact Nat.le_of_eq (by simp)
      | cons q qs ih =>
        have h1 := ih fun x m => h' x (List.mem_cons_of_mem _ m)
        have h2 := h' q List.mem_cons_self
        rw [List.map_cons, List.sum_cons, List.length_cons, Nat.succ_mul]
        omega
    have b1 := h p List.mem_cons_self
    rw [joinL_sum, List.length_cons, Nat.succ_mul, Nat.mul_add]
    omega
theorem bar_le {b : Nat} {k : List Ch} (h : ∀ c ∈ k, (cC c).length ≤ b) : (TL.joinL bar (cL k)).length ≤ k.length * (b + 3) := by
  have := joinL_le (S := bar) (b := b) (ps := cL k) fun p hp => by
    rw [cL_map] at hp
    obtain ⟨c, hc, rfl⟩ := List.mem_map.mp hp
    exact h c hc
  rw [cL_map, List.length_map] at this
  rw [cL_map]
  exact this
/-- a row, a book of such -/
theorem Wl.rb {d b e m : Nat} {k : List Ch} (k0 : k ≠ []) (km : k.length ≤ m) (m60 : m ≤ 60) (h : ∀ c ∈ k, Wl d b e c) : Wl (d + 1) (m * (b + 3) + 6) (e + 2) (.row k) ∧ Wl (d + 1) (m * (b + 3) + 6) (e + 2) (.book k) := by
  have l : (TL.joinL bar (cL k)).length ≤ m * (b + 3) := Nat.le_trans (bar_le fun c hc => (h c hc).ln) (Nat.mul_le_mul_right _ km)
  have dd : dL k ≤ d := dL_le fun c hc => (h c hc).dp
  have ok : OkN (e + 1) (.tuple (pyL k)) := okN_tup (by rw [pyL_map, List.length_map]; omega) fun x hx => by
    rw [pyL_map] at hx
    obtain ⟨c, hc, rfl⟩ := List.mem_map.mp hx
    exact (h c hc).ok
  have sg : ∀ a ∈ TL.joinL bar (cL k), a < 128 := signs_kind fun c hc => (h c hc).sg
  have gg : ∀ n, d + 1 ≤ n → ∃ n', n = n' + 1 ∧ ∀ c ∈ k, gd n' c := fun n hn => ⟨n - 1, by omega, fun c hc => (h c hc).g (n - 1) (by omega)⟩
  have brk : ∀ w : List Nat, (∀ a ∈ w, a < 128) → ∀ a ∈ w ++ 40 :: (TL.joinL bar (cL k) ++ [41]), a < 128 := fun w hw a m => by
    rcases List.mem_append.mp m with z | z
    · exact hw a z
    rcases List.mem_cons.mp z with z | z
    · omega
    rcases List.mem_append.mp z with z | z
    · exact sg a z
    · rw [List.mem_singleton.mp z]; decide
  constructor
  · refine ⟨fun n hn => ?_, Nat.succ_le_succ dd, ?_, ?_, brk (TL.tl "row") (by decide)⟩
    · obtain ⟨n', rfl, g⟩ := gg n hn
      exact ⟨k0, g⟩
    · show (TL.tl "row" ++ 40 :: (TL.joinL bar (cL k) ++ [41])).length ≤ _
      rw [List.length_append, List.length_cons, List.length_append]
      show 3 + (_ + 1 + 1) ≤ _
      omega
    · rw [pyC]
      exact okN_two (okN_w (by decide +kernel)) ok
  · refine ⟨fun n hn => ?_, Nat.succ_le_succ dd, ?_, ?_, brk (TL.tl "book") (by decide)⟩
    · obtain ⟨n', rfl, g⟩ := gg n hn
      exact ⟨k0, g⟩
    · show (TL.tl "book" ++ 40 :: (TL.joinL bar (cL k) ++ [41])).length ≤ _
      rw [List.length_append, List.length_cons, List.length_append]
      show 4 + (_ + 1 + 1) ≤ _
      omega
    · rw [pyC]
      exact okN_two (okN_w (by decide +kernel)) ok
/-- a shape of such -/
theorem Wl.sh {d b e m j : Nat} {fs : List (Str × List Ch)} (f0 : fs ≠ []) (fj : fs.length ≤ j) (j60 : j ≤ 60) (m60 : m ≤ 60) (h : ∀ p ∈ fs, Word p.1 ∧ p.2 ≠ [] ∧ p.2.length ≤ m ∧ ∀ c ∈ p.2, Wl d b e c) : Wl (d + 1) (j * (m * (b + 3) + 12) + 2) (e + 4) (.shape fs) := by
  have l : ∀ p ∈ fs, (TL.tl p.1 ++ 58 :: 32 :: TL.joinL bar (cL p.2)).length ≤ m * (b + 3) + 10 := fun p hp => by
    obtain ⟨w, _, km, hc⟩ := h p hp
    have l1 := Nat.le_trans (bar_le fun c hm => (hc c hm).ln) (Nat.mul_le_mul_right (b + 3) km)
    have w8 : (TL.tl p.1).length ≤ 8 := w.2.1
    rw [List.length_append, List.length_cons, List.length_cons]
    omega
  have l2 : (TL.joinL com (cF fs)).length ≤ j * (m * (b + 3) + 12) := by
    have := joinL_le (S := com) (b := m * (b + 3) + 10) (ps := cF fs) fun q hq => by
      rw [cF_map] at hq
      obtain ⟨p, hp, rfl⟩ := List.mem_map.mp hq
      exact l p hp
    rw [cF_map, List.length_map] at this
    rw [cF_map]
    exact Nat.le_trans this (Nat.mul_le_mul_right _ fj)
  refine ⟨fun n hn => ?_, Nat.succ_le_succ (dF_le fun p hp => dL_le fun c hc => ((h p hp).2.2.2 c hc).dp), ?_, ?_, fun a m => ?_⟩
  · obtain ⟨n', rfl⟩ : ∃ n', n = n' + 1 := ⟨n - 1, by omega⟩
    exact ⟨f0, fun p hp => ⟨(h p hp).1, (h p hp).2.1, fun c hc => ((h p hp).2.2.2 c hc).g n' (by omega)⟩⟩
  · show (123 :: (TL.joinL com (cF fs) ++ [125])).length ≤ _
    rw [List.length_cons, List.length_append]
    show _ + 1 + 1 ≤ _
    omega
  · rw [pyC]
    refine okN_two (n := e + 3) (okN_w (by decide +kernel)) (okN_tup (n := e + 2) (by rw [pyF_map, List.length_map]; omega) fun x hx => ?_)
    rw [pyF_map] at hx
    obtain ⟨p, hp, rfl⟩ := List.mem_map.mp hx
    refine okN_two (n := e + 1) ((okN_word (h p hp).1).mono (by omega)) (okN_tup (n := e) (by rw [pyL_map, List.length_map]; have := (h p hp).2.2.1; omega) fun x hx => ?_)
    rw [pyL_map] at hx
    obtain ⟨c, hc, rfl⟩ := List.mem_map.mp hx
    exact ((h p hp).2.2.2 c hc).ok
  · have m' : a ∈ 123 :: (TL.joinL com (cF fs) ++ [125]) := m
    rcases List.mem_cons.mp m' with z | z
    · omega
    rcases List.mem_append.mp z with z | z
    · rcases mem_joinL z with w | ⟨p, hp, w⟩
      · exact (by decide : ∀ b ∈ com, b < 128) a w
      · rw [cF_map] at hp
        obtain ⟨p2, hp2, rfl⟩ := List.mem_map.mp hp
        obtain ⟨w1, _, _, hc⟩ := h p2 hp2
        rcases List.mem_append.mp w with w | w
        · have := w1.2.2 a w
          omega
        rcases List.mem_cons.mp w with w | w
        · omega
        rcases List.mem_cons.mp w with w | w
        · omega
        exact signs_kind (fun c hm => (hc c hm).sg) a w
    · rw [List.mem_singleton.mp z]; decide
theorem Wl.num : Wl 0 10 1 .num := ⟨fun n _ => by cases n <;> exact trivial, Nat.le_refl _, by decide, okN_num 0, (by decide : ∀ a ∈ TL.tl "number", a < 128)⟩
theorem Wl.txt : Wl 0 10 1 .txt := ⟨fun n _ => by cases n <;> exact trivial, Nat.le_refl _, by decide, okN_txt 0, (by decide : ∀ a ∈ TL.tl "text", a < 128)⟩
theorem Wl.let_ {l : Str} (h : Lett l) : Wl 0 10 1 (.letter l) := ⟨fun n _ => by cases n <;> exact h, Nat.le_refl _, by have := h.2.1; show (TL.tl l).length ≤ 10; exact Nat.le_trans this (by decide), by rw [pyC]; exact okN_two (n := 0) (okN_w (by decide +kernel)) (okN_lett h), fun a m => by have := h.2.2 a m; omega⟩
/-- what is drawn, to d deep -/
def wB : Nat → Nat
  | 0 => 10
  | d + 1 => 2 * (3 * (wB d + 3) + 12) + 2
theorem wB_le : ∀ {d d' : Nat}, d ≤ d' → wB d ≤ wB d'
  | 0, 0, _ => Nat.le_refl _
  | 0, d' + 1, _ => by have := wB_le (Nat.zero_le d'); show wB 0 ≤ 2 * (3 * (wB d' + 3) + 12) + 2; omega
  | d + 1, d' + 1, h => by have := wB_le (Nat.le_of_succ_le_succ h); show 2 * (3 * (wB d + 3) + 12) + 2 ≤ 2 * (3 * (wB d' + 3) + 12) + 2; omega
theorem wl_of {ls : List Str} (hl : ∀ l ∈ ls, Lett l) : ∀ (n d : Nat), d ≤ n → ∀ c : Ch, okC ls d c → Wl d (wB d) (4 * d + 1) c := by
  intro n
  induction n with
  | zero =>
    intro d hd c h
    obtain rfl : d = 0 := by omega
    cases c with
    | num => exact .num
    | txt => exact .txt
    | row _ => exact absurd h.1 (Nat.lt_irrefl _)
    | book _ => exact absurd h.1 (Nat.lt_irrefl _)
    | shape _ => exact absurd h.1 (Nat.lt_irrefl _)
    | letter l => exact .let_ (hl l (by unfold okC at h; exact h))
    | cut _ _ => unfold okC at h; exact h.elim
    | any _ => unfold okC at h; exact h.elim
    | wth _ => unfold okC at h; exact h.elim
  | succ n ih =>
    intro d hd c h
    have b0 := wB_le (Nat.zero_le d)
    cases c with
    | num => exact Wl.num.mono (Nat.zero_le _) b0 (by omega)
    | txt => exact Wl.txt.mono (Nat.zero_le _) b0 (by omega)
    | row k =>
      have h' : 0 < d ∧ k ≠ [] ∧ k.length ≤ 3 ∧ okL ls (d - 1) k := by unfold okC at h; exact h
      obtain ⟨d, rfl⟩ : ∃ d', d = d' + 1 := ⟨d - 1, by omega⟩
      refine (Wl.rb (m := 3) h'.2.1 h'.2.2.1 (by decide) fun c hc => ih d (by omega) c (okL_mem' h'.2.2.2 hc)).1.mono (Nat.le_refl _) ?_ (by omega)
      show _ ≤ 2 * (3 * (wB d + 3) + 12) + 2
      omega
    | book k =>
      have h' : 0 < d ∧ k ≠ [] ∧ k.length ≤ 3 ∧ okL ls (d - 1) k := by unfold okC at h; exact h
      obtain ⟨d, rfl⟩ : ∃ d', d = d' + 1 := ⟨d - 1, by omega⟩
      refine (Wl.rb (m := 3) h'.2.1 h'.2.2.1 (by decide) fun c hc => ih d (by omega) c (okL_mem' h'.2.2.2 hc)).2.mono (Nat.le_refl _) ?_ (by omega)
      show _ ≤ 2 * (3 * (wB d + 3) + 12) + 2
      omega
    | shape fs =>
      have h' : 0 < d ∧ fs.length ≤ 2 ∧ Fld (fs.map (·.1)) ∧ okF ls (d - 1) fs := by unfold okC at h; exact h
      obtain ⟨d, rfl⟩ : ∃ d', d = d' + 1 := ⟨d - 1, by omega⟩
      refine (Wl.sh (d := d) (b := wB d) (e := 4 * d + 1) (m := 3) (j := 2) (fun z => h'.2.2.1.1 (by rw [z]; rfl)) h'.2.1 (by decide) (by decide) fun p hp => ?_).mono (Nat.le_refl _) (Nat.le_refl _) (by omega)
      obtain ⟨w1, k1, k3, o1⟩ := okF_mem' h'.2.2.2 hp
      exact ⟨w1, k1, k3, fun c hc => ih d (by omega) c (okL_mem' o1 hc)⟩
    | letter l => exact (Wl.let_ (hl l (by unfold okC at h; exact h))).mono (Nat.zero_le _) b0 (by omega)
    | cut _ _ => unfold okC at h; exact h.elim
    | any _ => unfold okC at h; exact h.elim
    | wth _ => unfold okC at h; exact h.elim
end Sc
namespace Sc
open PySem PySem.Spec PyProof.Rows L2
/-! ### rules -/
section
variable {X : Cx}
theorem sw_trueD {kx vx : Expr} {gs : List Comprehension} {scope : Scope} {pos py : Pos} {y : Str} {l : Nat} {env : Env} (hk : env.scope.kind = .function) (hy : env.scope.names.lookup y = some .local) (hl : (py.line == pos.line) = true)
    (ha : (scope.names.any fun (n, k) => n == y && (k == .local || k == .cell)) = false) : swapsWith (.DictComp kx vx gs scope pos) (some (.Name y py)) l env = pure true := by
  have ky : env.kindOf y = some .local := hy
  have hb : env.blockKind = .function := by unfold Env.blockKind; rw [hk]; rfl
  unfold swapsWith
  simp only [hb, ky, ha, Expr.pos, hl]
  rfl
theorem ps_setDc {i : Nat} {y : Str} {py : Pos} {kx vx tg iter : Expr} {ifs : List Expr} {scope : Scope} {own : List (Str × Nat)} {pos spos : Pos} {wi : TI} {g : TG} {tt : TT} {tk tv : TE} (hc : X.calm = true) (hN : X.N.Nodup) (hy : X.N[i]? = some y) (hyl : X.env.scope.names.lookup y = some .local)
    (hsw : swapsWith (.DictComp kx vx [⟨tg, iter, ifs, 0⟩] scope pos) (some (.Name y py)) spos.line X.env = pure true) (hi : PI X tg iter wi) (ok : BlkOk X.N X.env.scope scope own)
    (hg : ∀ (s : Shared) (H : Hp) (C : Addr) (cl : List (Str × Addr)) (fp : List Addr), PG (X.blk s H scope (compEnvC scope cl C X.env) fp) tg g) (ht : ∀ (s : Shared) (H : Hp) (C : Addr) (cl : List (Str × Addr)) (fp : List Addr), PTs (X.blk s H scope (compEnvC scope cl C X.env) fp) ifs tt)
    (hk : ∀ (s : Shared) (H : Hp) (C : Addr) (cl : List (Str × Addr)) (fp : List Addr), PE (X.blk s H scope (compEnvC scope cl C X.env) fp) kx tk) (he : ∀ (s : Shared) (H : Hp) (C : Addr) (cl : List (Str × Addr)) (fp : List Addr), PE (X.blk s H scope (compEnvC scope cl C X.env) fp) vx tv) (hs : ∀ x, foldedSetIterable iter X.env x = pure x := by intro _; rfl) :
    PS X (.Assign [.Name y py] (.DictComp kx vx [⟨tg, iter, ifs, 0⟩] scope pos) spos) (tAsg (tDc wi g tt tk tv (own.map (·.2))) (gName i)) := by
  refine ⟨fun pins s σ H D I h => ?_⟩
  rw [exec_Assign_Name_used _ _ _ _ hsw]
  refine wpAny_bind (wpAny_standAt (wpAny_bind ?_))
  show wpAny _ X.A (do let _ ← comprehension (.DictComp kx vx [⟨tg, iter, ifs, 0⟩] scope pos) scope X.env (firstIterPos [⟨tg, iter, ifs, 0⟩] pos) newDict false (eval iter X.env) (some (assign (.Name y py) X.env))) _ _ s
  have h : tDc wi g tt tk tv (own.map (·.2)) σ H (fun x H1 => gName i x σ H1 D.nx) := h
  refine wpAny_bind (thn (dc_core (Qf := fun _ s' => SP X pins D .next s') hc hN I hi ok hg ht hk he hs h fun L C s' m H' I' q hn f => ?_) fun _ s' hq => wpAny_pure (wpAny_pure hq))
  show wpAny _ _ (assign (.Name y py) X.env (.ref L)) _ _ _
  refine wpAny_assign_Name (store_ok2 (v := V.ref L) I' hN hy (.inl hyl) rfl (fun s2 I2 ⟨a, sb, ha⟩ => ?_) (.inr hyl))
  obtain ⟨f0, f1, f2, f3, f4, f5⟩ := f
  have haC : C ≠ a := by
    rcases ha with z | z
    · rw [z]; exact f1
    · exact fun e => f4 y a z e.symm
  refine ⟨m, hn.sameBut sb haC, fun h3 sb3 => ?_⟩
  exact ⟨_, H', I2.turned (t' := s2.toks) (fun b o hb e => (sb3.2 b hb).trans e) f0 f1 f3 f4 f5, q⟩
/-- x in t, t a tuple of data -/
def rInTD (K : PySem.W.Frag) : R2 := fun x y H Q => ∃ d ds, Dp K H x d ∧ Dp K H y (.tuple ds) ∧ SeqAt.shaped d = true ∧ SeqAt.shaped (.tuple ds) = true ∧ Q (.bl (ds.any fun z => PyData.eqv z d)) H
theorem op_inTD (hu : X.A.units + 65 < cLine) : OpR X (compareOp .In) (rInTD X.K) := by
  intro pins s σ H x y v u Q I rx ry h
  obtain ⟨d, ds, hd, he, sd, se, q⟩ := h
  obtain ⟨as, r1⟩ := Dp.reads I d x v hd rx
  obtain ⟨bs, r2⟩ := Dp.reads I (.tuple ds) y u he ry
  exact SeqAt.in_tuple_reads r2 r1 (SeqAt.canLay_of_shaped se) (SeqAt.canLay_of_shaped sd) (room_in_shaped sd hu) ⟨.bl _, H, I, rfl, q⟩
end
/-! ### kinds of numbers, texts, rows and books; what fits, purely -/
def flC : Nat → Ch → Prop
  | _, .num => True
  | _, .txt => True
  | n + 1, .row k => k ≠ [] ∧ k.length ≤ 3 ∧ ∀ c ∈ k, flC n c
  | n + 1, .book k => k ≠ [] ∧ k.length ≤ 3 ∧ ∀ c ∈ k, flC n c
  | _, _ => False
/-- what is due -/
def flD (n : Nat) (c : Ch) : Prop := flC n c ∨ c = .any "row" ∨ c = .any "book"
def hitR (f : List Ch → Bool) : Ch → Bool
  | .any w => w == "row"
  | .row k' => f k'
  | _ => false
def hitB (f : List Ch → Bool) : Ch → Bool
  | .any w => w == "book"
  | .book k' => f k'
  | _ => false
def fitC : Nat → Ch → List Ch → Bool
  | _, .num, o => o.any fun p => match p with | .num => true | _ => false
  | _, .txt, o => o.any fun p => match p with | .txt => true | _ => false
  | n + 1, .row k, o => o.any (hitR fun k' => k.all fun c => fitC n c k')
  | n + 1, .book k, o => o.any (hitB fun k' => k.all fun c => fitC n c k')
  | _, _, _ => false
def fitL (n : Nat) (k o : List Ch) : Bool := k.all fun c => fitC n c o
theorem fit_self : ∀ (n : Nat) (c : Ch) (o : List Ch), flC n c → c ∈ o → fitC n c o = true := by
  intro n
  induction n with
  | zero =>
    intro c o h m
    cases c with
    | num => unfold fitC; exact List.any_eq_true.mpr ⟨_, m, rfl⟩
    | txt => unfold fitC; exact List.any_eq_true.mpr ⟨_, m, rfl⟩
    | _ => exact h.elim
  | succ n ih =>
    intro c o h m
    cases c with
    | num => unfold fitC; exact List.any_eq_true.mpr ⟨_, m, rfl⟩
    | txt => unfold fitC; exact List.any_eq_true.mpr ⟨_, m, rfl⟩
    | row k => unfold fitC; exact List.any_eq_true.mpr ⟨_, m, List.all_eq_true.mpr fun c hc => ih c k (h.2.2 c hc) hc⟩
    | book k => unfold fitC; exact List.any_eq_true.mpr ⟨_, m, List.all_eq_true.mpr fun c hc => ih c k (h.2.2 c hc) hc⟩
    | _ => exact h.elim
theorem flC_up : ∀ (n : Nat) (c : Ch), flC n c → flC (n + 1) c := by
  intro n
  induction n with
  | zero =>
    intro c h
    cases c with
    | num => exact trivial
    | txt => exact trivial
    | _ => exact h.elim
  | succ n ih =>
    intro c h
    cases c with
    | num => exact trivial
    | txt => exact trivial
    | row k => exact ⟨h.1, h.2.1, fun c hc => ih c (h.2.2 c hc)⟩
    | book k => exact ⟨h.1, h.2.1, fun c hc => ih c (h.2.2 c hc)⟩
    | _ => exact h.elim
/-- equal as data only where the same -/
theorem eqv_two (a b : Str) (x y : PyData) : PyData.eqv (.tuple [.str a, x]) (.tuple [.str b, y]) = ((a == b) && PyData.eqv x y) := by
  simp [PyData.eqv, PyData.eqvAll]
theorem eqv_tupL (xs ys : List PyData) : PyData.eqv (.tuple xs) (.tuple ys) = PyData.eqvAll xs ys := by simp [PyData.eqv]
theorem eqv_12 (a b : Str) (x : PyData) : PyData.eqv (.tuple [.str a]) (.tuple [.str b, x]) = false := by simp [PyData.eqv, PyData.eqvAll]
theorem eqv_21 (a b : Str) (x : PyData) : PyData.eqv (.tuple [.str b, x]) (.tuple [.str a]) = false := by simp [PyData.eqv, PyData.eqvAll]
theorem eqv_11 (a b : Str) : PyData.eqv (.tuple [.str a]) (.tuple [.str b]) = (a == b) := by simp [PyData.eqv, PyData.eqvAll]
theorem eqv_ts (x : Str) (ys : List PyData) : PyData.eqv (.str x) (.tuple ys) = false := by simp [PyData.eqv]
theorem eqvAll_inj {n : Nat} (ih : ∀ p c : Ch, flC n c → flC n p → PyData.eqv (pyC p) (pyC c) = true → p = c) : ∀ (k' k : List Ch), (∀ c ∈ k, flC n c) → (∀ c ∈ k', flC n c) → PyData.eqvAll (pyL k') (pyL k) = true → k' = k
  | [], [], _, _, _ => rfl
  | [], c :: r, _, _, h => by simp [pyL, PyData.eqvAll] at h
  | c :: r, [], _, _, h => by simp [pyL, PyData.eqvAll] at h
  | p :: q, c :: r, h1, h2, h => by
    have h' : (PyData.eqv (pyC p) (pyC c) && PyData.eqvAll (pyL q) (pyL r)) = true := by simpa [pyL, PyData.eqvAll] using h
    rw [Bool.and_eq_true] at h'
    rw [ih p c (h1 c List.mem_cons_self) (h2 p List.mem_cons_self) h'.1, eqvAll_inj ih q r (fun x m => h1 x (List.mem_cons_of_mem _ m)) (fun x m => h2 x (List.mem_cons_of_mem _ m)) h'.2]
theorem eqv_inj : ∀ (n : Nat) (p c : Ch), flC n c → flD n p → PyData.eqv (pyC p) (pyC c) = true → p = c := by
  have ns : ∀ {a b : Str} {x y : PyData}, a ≠ b → PyData.eqv (.tuple [.str a, x]) (.tuple [.str b, y]) ≠ true := fun {a b x y} h e => by
    rw [eqv_two, Bool.and_eq_true, beq_iff_eq] at e
    exact h e.1
  have n1 : ∀ {a b : Str}, a ≠ b → PyData.eqv (.tuple [.str a]) (.tuple [.str b]) ≠ true := fun {a b} h e => by
    rw [eqv_11, beq_iff_eq] at e
    exact h e
  have f12 : ∀ {a b : Str} {x : PyData}, PyData.eqv (.tuple [.str a]) (.tuple [.str b, x]) ≠ true := fun {a b x} e => by rw [eqv_12] at e; cases e
  have f21 : ∀ {a b : Str} {x : PyData}, PyData.eqv (.tuple [.str b, x]) (.tuple [.str a]) ≠ true := fun {a b x} e => by rw [eqv_21] at e; cases e
  have any : ∀ (n : Nat) (w : Str) (c : Ch), flC n c → PyData.eqv (pyC (.any w)) (pyC c) ≠ true := fun n w c h => by
    cases n with
    | zero =>
      cases c with
      | num => rw [pyC, pyC]; exact f21
      | txt => rw [pyC, pyC]; exact f21
      | _ => exact h.elim
    | succ n =>
      cases c with
      | num => rw [pyC, pyC]; exact f21
      | txt => rw [pyC, pyC]; exact f21
      | row k => rw [pyC, pyC]; exact ns (by decide +kernel)
      | book k => rw [pyC, pyC]; exact ns (by decide +kernel)
      | _ => exact h.elim
  intro n
  induction n with
  | zero =>
    intro p c hc hp e
    rcases hp with hp | rfl | rfl
    · cases c with
      | num => cases p with
        | num => rfl
        | txt => rw [pyC, pyC] at e; exact absurd e (n1 (by decide +kernel))
        | _ => exact hp.elim
      | txt => cases p with
        | txt => rfl
        | num => rw [pyC, pyC] at e; exact absurd e (n1 (by decide +kernel))
        | _ => exact hp.elim
      | _ => exact hc.elim
    · exact absurd e (any _ _ _ hc)
    · exact absurd e (any _ _ _ hc)
  | succ n ih =>
    have ih' : ∀ p c : Ch, flC n c → flC n p → PyData.eqv (pyC p) (pyC c) = true → p = c := fun p c a b => ih p c a (.inl b)
    intro p c hc hp e
    rcases hp with hp | rfl | rfl
    · cases c with
      | num => cases p with
        | num => rfl
        | txt => rw [pyC, pyC] at e; exact absurd e (n1 (by decide +kernel))
        | row _ => rw [pyC, pyC] at e; exact absurd e f21
        | book _ => rw [pyC, pyC] at e; exact absurd e f21
        | _ => exact hp.elim
      | txt => cases p with
        | txt => rfl
        | num => rw [pyC, pyC] at e; exact absurd e (n1 (by decide +kernel))
        | row _ => rw [pyC, pyC] at e; exact absurd e f21
        | book _ => rw [pyC, pyC] at e; exact absurd e f21
        | _ => exact hp.elim
      | row k => cases p with
        | txt => rw [pyC, pyC] at e; exact absurd e f12
        | num => rw [pyC, pyC] at e; exact absurd e f12
        | row k' =>
          rw [pyC, pyC, eqv_two, Bool.and_eq_true, eqv_tupL] at e
          rw [eqvAll_inj ih' k' k hc.2.2 hp.2.2 e.2]
        | book _ => rw [pyC, pyC] at e; exact absurd e (ns (by decide +kernel))
        | _ => exact hp.elim
      | book k => cases p with
        | txt => rw [pyC, pyC] at e; exact absurd e f12
        | num => rw [pyC, pyC] at e; exact absurd e f12
        | book k' =>
          rw [pyC, pyC, eqv_two, Bool.and_eq_true, eqv_tupL] at e
          rw [eqvAll_inj ih' k' k hc.2.2 hp.2.2 e.2]
        | row _ => rw [pyC, pyC] at e; exact absurd e (ns (by decide +kernel))
        | _ => exact hp.elim
      | _ => exact hc.elim
    · exact absurd e (any _ _ _ hc)
    · exact absurd e (any _ _ _ hc)
/-! ### how many new numbers -/
def bud : Nat → Int
  | 0 => 3
  | d + 1 => 3 * (8 * bud d + 8)
theorem bud_pos : ∀ d : Nat, 3 ≤ bud d
  | 0 => Int.le_refl _
  | d + 1 => by have := bud_pos d; show 3 ≤ 3 * (8 * bud d + 8); omega
def budC : Nat → Int
  | 0 => 1
  | d + 1 => 8 * bud d + 8
theorem bud_C : ∀ d : Nat, bud d = 3 * budC d
  | 0 => rfl
  | _ + 1 => rfl
theorem budC_pos : ∀ d : Nat, 1 ≤ budC d
  | 0 => Int.le_refl _
  | d + 1 => by have := bud_pos d; show 1 ≤ 8 * bud d + 8; omega
/-! ### the search -/
def flds (b : Addr) (n : Int) : List (Str × V) := [("bounds", V.ref b), ("last", V.int n)]
/-- a search stands at p -/
def SAt (C : Addr) (H : Hp) (p b : Addr) (n : Int) : Prop := ∃ dx, H p = some (.ins C dx (flds b n))
def spInit (C : Addr) : Sp := fun vs H Q _ => ∃ (p dx b : Addr), vs = [.ref p, .ref b] ∧ H p = some (.ins C dx []) ∧ ∀ (H' : Hp), SAt C H' p b 0 → (∀ c o, H c = some o → c ≠ p → H' c = some o) → Q .non H'
def spFresh (C : Addr) : Sp := fun vs H Q _ => ∃ (p b : Addr) (n : Int), vs = [.ref p] ∧ SAt C H p b n ∧ ∀ (H' : Hp), SAt C H' p b (n + 1) → Ext p H H' → Q (.int (n + 1)) H'
structure SrT (K : PySem.W.Frag) (mg : Str → Option Value) (C : Addr) : Prop where
  cl : Cls K C
  nB : NoAttr K C "bounds"
  nL : NoAttr K C "last"
  g : mg "Search" = some (.ref C)
structure SrC (P : Program) (w : World) (K : PySem.W.Frag) (mg : Str → Option Value) (base : Heap) (C : Addr) : Prop where
  t : SrT K mg C
  ini : ∃ f fd, FnOk P w K mg base CX0 1 f fd ["self", "bounds"] (spInit C) ∧ Mk K C f ∧ Binds K fd ["self", "bounds"] []
  fr : ∃ f fd, FnOk P w K mg base CX0 1 f fd ["self"] (spFresh C) ∧ Meth K C "fresh" f ∧ Binds K fd ["self"] []
/-- what is found: a pair of a value and no letters -/
def Found (K : PySem.W.Frag) (H : Hp) (v : V) : Prop := ∃ (t : Addr) (x : V) (e : Addr), v = .ref t ∧ SqT K H t [x, .ref e] ∧ SqT K H e []
theorem Found.keep {K : PySem.W.Frag} {H H' : Hp} {v : V} (h : Found K H v) (e : Keep K H H') : Found K H' v := let ⟨t, x, a, b, c, d⟩ := h; ⟨t, x, a, b, e _ _ c, e _ _ d⟩
theorem SAt.keep {K : PySem.W.Frag} {C : Addr} {H H' : Hp} {p b : Addr} {n : Int} (h : SAt C H p b n) (e : Ext p H H') : Keep K H H' := fun a xs q => by
  obtain ⟨dx, hp⟩ := h
  have ne : ∀ o, (∀ fs, o ≠ .ins C dx fs) → H a = some o → a ≠ p := fun o hq ha z => by
    subst z; rw [hp] at ha; exact hq _ (Option.some.inj ha).symm
  rcases q with (h | ⟨o, h⟩) | h
  · exact .inl (.inl (e _ _ (ne _ (fun _ q => by cases q) h) h))
  · exact .inl (.inr ⟨o, e _ _ (ne _ (fun _ q => by cases q) h) h⟩)
  · exact .inr h
theorem SAt.ne {C : Addr} {H : Hp} {p b a : Addr} {n : Int} {o : HO} (h : SAt C H p b n) (ha : H a = some o) (no : ∀ dx fs, o ≠ .ins C dx fs) : a ≠ p := fun z => by
  obtain ⟨dx, hp⟩ := h
  rw [z, hp] at ha
  exact no _ _ (Option.some.inj ha).symm
theorem SAt.fresh {C : Addr} {H : Hp} {p b a : Addr} {n : Int} (h : SAt C H p b n) (ha : H a = none) : a ≠ p := fun z => by
  obtain ⟨dx, hp⟩ := h
  rw [z, hp] at ha
  cases ha
theorem SAt.same {C : Addr} {H H' : Hp} {p b : Addr} {n : Int} (h : SAt C H p b n) (e : Same H H') : SAt C H' p b n := let ⟨dx, hp⟩ := h; ⟨dx, e _ _ hp⟩
def spFind (K : PySem.W.Frag) (C : Addr) (n : Nat) : Sp := fun vs H Q _ => ∃ (kv ov : V) (p b : Addr) (m : Int) (k o : List Ch) (d : Nat), vs = [kv, ov, .ref p] ∧ IsK K H kv k ∧ IsK K H ov o ∧ SAt C H p b m ∧ d < n ∧ k.length ≤ 3 ∧ (∀ c ∈ k, flC d c) ∧ o.length ≤ 7 ∧ (∀ c ∈ o, flD d c) ∧ d ≤ 3 ∧ 0 ≤ m ∧ m + bud d ≤ 1000000000 ∧
  ∀ (v : V) (H' : Hp) (m' : Int), Ext p H H' → SAt C H' p b m' → m ≤ m' → m' ≤ m + bud d → (fitL d k o = true → v = .non) → (fitL d k o = false → Found K H' v) → Q v H'
def spFindC (K : PySem.W.Frag) (C : Addr) (n : Nat) : Sp := fun vs H Q _ => ∃ (cv ov : V) (p b : Addr) (m : Int) (c : Ch) (o : List Ch) (d : Nat), vs = [cv, ov, .ref p] ∧ IsC K H cv c ∧ IsK K H ov o ∧ SAt C H p b m ∧ d < n ∧ flC d c ∧ o.length ≤ 7 ∧ (∀ c ∈ o, flD d c) ∧ d ≤ 3 ∧ 0 ≤ m ∧ m + budC d ≤ 1000000000 ∧
  ∀ (v : V) (H' : Hp) (m' : Int), Ext p H H' → SAt C H' p b m' → m ≤ m' → m' ≤ m + budC d → (fitC d c o = true → v = .non) → (fitC d c o = false → Found K H' v) → Q v H'
end Sc
namespace Sc
open PySem PySem.Spec PyProof.Rows L2
/-! ### further -/
theorem dc_list {K : PySem.W.Frag} {a : Addr} {xs : List V} {g : TG} {tt : TT} {tk tv : TE} {vs : List Nat} {σ : L2.St} {H1 : Hp} {D : Addr} {Qd : Hp → Prop} (Pv : Nat → Hp → Prop) (h0 : Pv 0 (upd H1 D (.dK []))) (hl : ∀ i H, i ≤ xs.length → Pv i H → SqL K H a xs)
    (hs : ∀ i x H, xs[i]? = some x → Pv i H → g x (wipe σ vs) H fun σ2 H2 => wipe σ2 vs = wipe σ vs ∧ tt σ2 H2 fun b H3 =>
      if b = true then tk σ2 H3 fun y H4 => tv σ2 H4 fun z H5 => ∃ kvs k, y = kV k ∧ H5 D = some (.dK kvs) ∧ kvs.length < sizeLine ∧ Pv (i + 1) (upd H5 D (.dK (putK kvs k z))) else Pv (i + 1) H3) (hd : ∀ H, Pv xs.length H → Qd H) :
    ∃ W : Nat → Nat → Hp → Prop, (∃ m, W 0 m (upd H1 D (.dK []))) ∧ ∀ i m H, W i m H →
      ((Itl K a).stop i H ∧ Qd H) ∨ ((Itl K a).go i H ∧ ∃ Nx : Hp → Prop, (∀ H', Nx H' → ∃ m', m' < m ∧ W (i + 1) m' H') ∧ ∀ x H', (Itl K a).yld i H x H' → g x (wipe σ vs) H' fun σ2 H2 => wipe σ2 vs = wipe σ vs ∧ tt σ2 H2 fun b H3 =>
        if b = true then tk σ2 H3 fun y H4 => tv σ2 H4 fun z H5 => ∃ kvs k, y = kV k ∧ H5 D = some (.dK kvs) ∧ kvs.length < sizeLine ∧ Nx (upd H5 D (.dK (putK kvs k z))) else Nx H3) := by
  refine ⟨fun i m H => m = xs.length - i ∧ i ≤ xs.length ∧ Pv i H, ⟨xs.length, by simp, Nat.zero_le _, h0⟩, ?_⟩
  rintro i m H ⟨rfl, hi, p⟩
  have q := hl i H hi p
  by_cases hlt : i < xs.length
  · refine .inr ⟨⟨xs, xs[i], q, by simp [hlt]⟩, Pv (i + 1), fun H' p' => ⟨xs.length - (i + 1), by omega, rfl, hlt, p'⟩, fun x H' y => ?_⟩
    obtain ⟨e, y⟩ := y
    subst e
    exact hs i x _ (y xs q) p
  · have e : i = xs.length := by omega
    subst e
    exact .inl ⟨⟨xs, q, Nat.le_refl _⟩, hd H p⟩
theorem op_eqDK (K : PySem.W.Frag) {X : Cx} (hu : X.A.units + 64 < cLine) (h : X.K = K := by rfl) : OpR X (compareOp .Eq) (rEqD K) := h ▸ op_eqD hu
theorem flC_okN : ∀ (n : Nat) (c : Ch), flC n c → OkN (2 * n + 1) (pyC c) := by
  intro n
  induction n with
  | zero =>
    intro c h
    cases c with
    | num => exact okN_num 0
    | txt => exact okN_txt 0
    | _ => exact h.elim
  | succ n ih =>
    intro c h
    cases c with
    | num => exact (okN_num 0).mono (by omega)
    | txt => exact (okN_txt 0).mono (by omega)
    | row k =>
      rw [pyC]
      exact okN_two (n := 2 * n + 2) (okN_w (by decide +kernel)) (okN_tup (by rw [pyL_map, List.length_map]; have := h.2.1; omega) fun x hx => by
        rw [pyL_map] at hx
        obtain ⟨c, hc, rfl⟩ := List.mem_map.mp hx
        exact ih c (h.2.2 c hc))
    | book k =>
      rw [pyC]
      exact okN_two (n := 2 * n + 2) (okN_w (by decide +kernel)) (okN_tup (by rw [pyL_map, List.length_map]; have := h.2.1; omega) fun x hx => by
        rw [pyL_map] at hx
        obtain ⟨c, hc, rfl⟩ := List.mem_map.mp hx
        exact ih c (h.2.2 c hc))
    | _ => exact h.elim
theorem any_okN (n : Nat) : OkN (n + 1) (pyC (.any "row")) ∧ OkN (n + 1) (pyC (.any "book")) := by
  constructor
  · rw [pyC]; exact okN_two (okN_w (by decide +kernel)) (okN_w (by decide +kernel))
  · rw [pyC]; exact okN_two (okN_w (by decide +kernel)) (okN_w (by decide +kernel))
theorem flD_okN {n : Nat} {c : Ch} (h : flD n c) : OkN (2 * n + 1) (pyC c) := by
  rcases h with h | rfl | rfl
  · exact flC_okN n c h
  · exact (any_okN 0).1.mono (by omega)
  · exact (any_okN 0).2.mono (by omega)
theorem flD_shaped {n : Nat} {o : List Ch} (n3 : n ≤ 3) (l : o.length ≤ 7) (h : ∀ c ∈ o, flD n c) : SeqAt.shaped (.tuple (pyL o)) = true :=
  ((okN_tup (n := 2 * n + 1) (by rw [pyL_map, List.length_map]; omega) fun x hx => by
    rw [pyL_map] at hx
    obtain ⟨c, hc, rfl⟩ := List.mem_map.mp hx
    exact flD_okN (h c hc)).ok (by omega)).1
theorem in_self {n : Nat} {o : List Ch} (h : ∀ c ∈ o, flD n c) {c : Ch} (hc : flC n c) (e : ((pyL o).any fun z => PyData.eqv z (pyC c)) = true) : c ∈ o := by
  obtain ⟨z, hz, ez⟩ := List.any_eq_true.mp e
  rw [pyL_map] at hz
  obtain ⟨p, hp, rfl⟩ := List.mem_map.mp hz
  rw [← eqv_inj n p c hc (h p hp) ez]
  exact hp
def isAny (w : Str) (p : Ch) : Bool := match p with | .any z => z == w | _ => false
theorem in_any {n : Nat} {w : Str} (hw : w = "row" ∨ w = "book") : ∀ {o : List Ch}, (∀ c ∈ o, flD n c) → ((pyL o).any fun z => PyData.eqv z (.tuple [.str "some", .str w])) = o.any (isAny w)
  | [], _ => rfl
  | p :: r, h => by
    have ih := in_any hw fun c m => h c (List.mem_cons_of_mem _ m)
    rw [pyL, List.any_cons, List.any_cons, ih]
    congr 1
    have two : ∀ (a : Str) (x : PyData), a ≠ "some" → PyData.eqv (.tuple [.str a, x]) (.tuple [.str "some", .str w]) = false := fun a x ha => by
      rw [eqv_two, beq_eq_false_iff_ne.mpr ha, Bool.false_and]
    have an : ∀ z : Str, PyData.eqv (.tuple [.str "some", .str z]) (.tuple [.str "some", .str w]) = (z == w) := fun z => by
      rw [eqv_two, beq_self_eq_true, Bool.true_and]
      simp [PyData.eqv]
    rcases h p List.mem_cons_self with g | rfl | rfl
    · cases n with
      | zero =>
        cases p with
        | num => rw [pyC]; exact eqv_12 _ _ _
        | txt => rw [pyC]; exact eqv_12 _ _ _
        | _ => exact g.elim
      | succ n =>
        cases p with
        | num => rw [pyC]; exact eqv_12 _ _ _
        | txt => rw [pyC]; exact eqv_12 _ _ _
        | row k => rw [pyC]; exact two _ _ (by decide +kernel)
        | book k => rw [pyC]; exact two _ _ (by decide +kernel)
        | _ => exact g.elim
    · rw [pyC]; exact an _
    · rw [pyC]; exact an _
/-- the kinds within the rows, the books of a kind -/
def withinO (w : Str) : List Ch → List (List Ch)
  | [] => []
  | .row k :: r => if w = "row" then k :: withinO w r else withinO w r
  | .book k :: r => if w = "book" then k :: withinO w r else withinO w r
  | _ :: r => withinO w r
theorem withinO_mem {w : Str} {k : List Ch} : ∀ {o : List Ch}, k ∈ withinO w o → (.row k) ∈ o ∨ (.book k) ∈ o
  | p :: r, h => by
    unfold withinO at h
    split at h
    · cases h
    · rename_i e
      cases e
      split at h
      · rcases List.mem_cons.mp h with z | z
        · rw [z]; exact .inl List.mem_cons_self
        · exact (withinO_mem z).imp (List.mem_cons_of_mem _) (List.mem_cons_of_mem _)
      · exact (withinO_mem h).imp (List.mem_cons_of_mem _) (List.mem_cons_of_mem _)
    · rename_i e
      cases e
      split at h
      · rcases List.mem_cons.mp h with z | z
        · rw [z]; exact .inr List.mem_cons_self
        · exact (withinO_mem z).imp (List.mem_cons_of_mem _) (List.mem_cons_of_mem _)
      · exact (withinO_mem h).imp (List.mem_cons_of_mem _) (List.mem_cons_of_mem _)
    · rename_i e
      cases e
      exact (withinO_mem h).imp (List.mem_cons_of_mem _) (List.mem_cons_of_mem _)
theorem withinO_len (w : Str) : ∀ o : List Ch, (withinO w o).length ≤ o.length
  | [] => Nat.le_refl _
  | p :: r => by
    have ih := withinO_len w r
    unfold withinO
    split
    · exact Nat.zero_le _
    · rename_i e; cases e
      split
      · exact Nat.succ_le_succ ih
      · exact Nat.le_succ_of_le ih
    · rename_i e; cases e
      split
      · exact Nat.succ_le_succ ih
      · exact Nat.le_succ_of_le ih
    · rename_i e; cases e
      exact Nat.le_succ_of_le ih
theorem withinO_snoc (w : Str) : ∀ (o : List Ch) (p : Ch), withinO w (o ++ [p]) = withinO w o ++ withinO w [p]
  | [], _ => rfl
  | q :: r, p => by
    have ih := withinO_snoc w r p
    rw [List.cons_append]
    cases q with
    | row k =>
      show (if w = "row" then k :: withinO w (r ++ [p]) else withinO w (r ++ [p])) = (if w = "row" then k :: withinO w r else withinO w r) ++ withinO w [p]
      rw [ih]; split <;> rfl
    | book k =>
      show (if w = "book" then k :: withinO w (r ++ [p]) else withinO w (r ++ [p])) = (if w = "book" then k :: withinO w r else withinO w r) ++ withinO w [p]
      rw [ih]; split <;> rfl
    | _ => show withinO w (r ++ [p]) = withinO w r ++ withinO w [p]; exact ih
theorem fit_row (n : Nat) (k : List Ch) : ∀ o : List Ch, fitC (n + 1) (.row k) o = (o.any (isAny "row") || (withinO "row" o).any fun k' => fitL n k k')
  | [] => rfl
  | p :: r => by
    have h1 := fit_row n k r
    have e0 : fitC (n + 1) (.row k) (p :: r) = (hitR (fun k' => k.all fun c => fitC n c k') p || fitC (n + 1) (.row k) r) := rfl
    have e1 : ¬ (("row" : Str) = "book") := by decide +kernel
    rw [e0, h1, List.any_cons]
    cases p with
    | row k' =>
      show ((k.all fun c => fitC n c k') || _) = ((false || _) || (if ("row" : Str) = "row" then k' :: withinO "row" r else withinO "row" r).any _)
      rw [if_pos rfl, List.any_cons]
      show ((k.all fun c => fitC n c k') || _) = (_ || ((k.all fun c => fitC n c k') || _))
      rw [Bool.false_or]
      generalize (k.all fun c => fitC n c k') = a
      generalize r.any (isAny "row") = b
      cases a <;> cases b <;> rfl
    | book k' =>
      show (false || _) = ((false || _) || (if ("row" : Str) = "book" then k' :: withinO "row" r else withinO "row" r).any _)
      rw [if_neg e1, Bool.false_or, Bool.false_or]
    | any w =>
      show ((w == "row") || (_ || _)) = (((w == "row") || _) || _)
      rw [Bool.or_assoc]
      rfl
    | _ => rfl
theorem fit_book (n : Nat) (k : List Ch) : ∀ o : List Ch, fitC (n + 1) (.book k) o = (o.any (isAny "book") || (withinO "book" o).any fun k' => fitL n k k')
  | [] => rfl
  | p :: r => by
    have h1 := fit_book n k r
    have e0 : fitC (n + 1) (.book k) (p :: r) = (hitB (fun k' => k.all fun c => fitC n c k') p || fitC (n + 1) (.book k) r) := rfl
    have e1 : ¬ (("book" : Str) = "row") := by decide +kernel
    rw [e0, h1, List.any_cons]
    cases p with
    | book k' =>
      show ((k.all fun c => fitC n c k') || _) = ((false || _) || (if ("book" : Str) = "book" then k' :: withinO "book" r else withinO "book" r).any _)
      rw [if_pos rfl, List.any_cons]
      show ((k.all fun c => fitC n c k') || _) = (_ || ((k.all fun c => fitC n c k') || _))
      rw [Bool.false_or]
      generalize (k.all fun c => fitC n c k') = a
      generalize r.any (isAny "book") = b
      cases a <;> cases b <;> rfl
    | row k' =>
      show (false || _) = ((false || _) || (if ("book" : Str) = "row" then k' :: withinO "book" r else withinO "book" r).any _)
      rw [if_neg e1, Bool.false_or, Bool.false_or]
    | any w =>
      show ((w == "book") || (_ || _)) = (((w == "book") || _) || _)
      rw [Bool.or_assoc]
      rfl
    | _ => rfl
def spNo : Sp := fun _ _ _ _ => False
def spWithin (K : PySem.W.Frag) (C : Addr) (n : Nat) : Sp := fun vs H Q _ => ∃ (kv : V) (l p b : Addr) (us : List V) (m : Int) (k : List Ch) (os : List (List Ch)) (d : Nat), vs = [kv, .ref l, .ref p] ∧ IsK K H kv k ∧ SqL K H l us ∧ IsKs K H us os ∧ SAt C H p b m ∧ d < n ∧ k ≠ [] ∧ k.length ≤ 3 ∧ (∀ c ∈ k, flC d c) ∧ os.length ≤ 7 ∧ (∀ o ∈ os, o.length ≤ 7 ∧ ∀ c ∈ o, flD d c) ∧ d ≤ 3 ∧ 0 ≤ m ∧ m + 8 * bud d ≤ 1000000000 ∧
  ∀ (v : V) (H' : Hp) (m' : Int), Ext p H H' → SAt C H' p b m' → m ≤ m' → m' ≤ m + 8 * bud d → ((os.any fun o => fitL d k o) = true → v = .non) → ((os.any fun o => fitL d k o) = false → ∃ (D : Addr) (fs : List V), v = .ref D ∧ H' D = some (.lst fs) ∧ (∀ u ∈ fs, Found K H' u) ∧ fs.length ≤ 7) → Q v H'
def spStands (K : PySem.W.Frag) : Sp := fun vs H Q _ => ∃ (l : Addr) (us : List V), vs = [.ref l] ∧ SqL K H l us ∧ (∀ u ∈ us, Found K H u) ∧ us.length ≤ 7 ∧ ∀ (e : Addr) (H' : Hp), Same H H' → SqT K H' e [] → Q (.ref e) H'
def spStanding (K : PySem.W.Frag) : Sp := fun vs H Q _ => ∃ (e b : Addr), vs = [.ref e, .ref b] ∧ SqT K H e [] ∧ H b = some (.dK []) ∧ ∀ (v : V) (H' : Hp), Same H H' → Q v H'
def spGround (K : PySem.W.Frag) : Sp := fun vs H Q _ => ∃ (kv ov : V) (b : Addr) (k o : List Ch), vs = [kv, ov, .ref b] ∧ IsK K H kv k ∧ IsK K H ov o ∧ H b = some (.dK []) ∧ k.length ≤ 3 ∧ (∀ c ∈ k, flC 3 c) ∧ o.length ≤ 7 ∧ (∀ c ∈ o, flD 3 c) ∧
  ∀ (v : V) (H' : Hp), Same H H' → (fitL 3 k o = true → v = .non) → (fitL 3 k o = false → ∃ t, v = .ref t) → Q v H'
def spFits (K : PySem.W.Frag) : Sp := fun vs H Q _ => ∃ (kv ov : V) (b : Addr) (k o : List Ch), vs = [kv, ov, .ref b] ∧ IsK K H kv k ∧ IsK K H ov o ∧ H b = some (.dK []) ∧ k.length ≤ 3 ∧ (∀ c ∈ k, flC 3 c) ∧ o.length ≤ 7 ∧ (∀ c ∈ o, flD 3 c) ∧
  ∀ (H' : Hp), Same H H' → Q (.bl (fitL 3 k o)) H'
end Sc
namespace Sc
open PySem PySem.Spec PyProof.Rows L2
def spHold (K : PySem.W.Frag) (C : Addr) (n : Nat) : Sp := fun vs H Q _ => ∃ (cv ov : V) (p b : Addr) (m : Int) (c : Ch) (k o : List Ch) (d : Nat), vs = [cv, ov, .ref p] ∧ IsC K H cv c ∧ IsK K H ov o ∧ SAt C H p b m ∧ d < n ∧ (c = .row k ∨ c = .book k) ∧ flC (d + 1) c ∧ o.length ≤ 7 ∧ (∀ c ∈ o, flD (d + 1) c) ∧ d + 1 ≤ 3 ∧ 0 ≤ m ∧ m + budC (d + 1) ≤ 1000000000 ∧
  ∀ (v : V) (H' : Hp) (m' : Int), Ext p H H' → SAt C H' p b m' → m ≤ m' → m' ≤ m + budC (d + 1) → (fitC (d + 1) c o = true → v = .non) → (fitC (d + 1) c o = false → Found K H' v) → Q v H'
theorem flD_within {d : Nat} {w : Str} {o : List Ch} (h : ∀ c ∈ o, flD (d + 1) c) {k : List Ch} (m : k ∈ withinO w o) : k.length ≤ 7 ∧ ∀ c ∈ k, flD d c := by
  have g : ∀ c : Ch, c ∈ o → (c = .row k ∨ c = .book k) → k.length ≤ 7 ∧ ∀ c ∈ k, flD d c := fun c hc e => by
    rcases h c hc with z | z | z
    · rcases e with rfl | rfl
      · exact ⟨Nat.le_trans z.2.1 (by decide), fun x hx => .inl (z.2.2 x hx)⟩
      · exact ⟨Nat.le_trans z.2.1 (by decide), fun x hx => .inl (z.2.2 x hx)⟩
    · rcases e with rfl | rfl <;> cases z
    · rcases e with rfl | rfl <;> cases z
  rcases withinO_mem m with z | z
  · exact g _ z (.inl rfl)
  · exact g _ z (.inr rfl)
/-- the lead of what is due -/
theorem withinO_one (w : Str) (c : Ch) (hw : w = "row" ∨ w = "book") : withinO w [c] = if wdC c = w then (match c with | .row k => [k] | .book k => [k] | _ => []) else [] := by
  have e1 : ¬ (("row" : Str) = "book") := by decide +kernel
  have e2 : ¬ (("book" : Str) = "row") := by decide +kernel
  cases c with
  | row k =>
    show (if w = "row" then [k] else []) = if ("row" : Str) = w then [k] else []
    by_cases e : w = "row"
    · rw [if_pos e, if_pos e.symm]
    · rw [if_neg e, if_neg fun z => e z.symm]
  | book k =>
    show (if w = "book" then [k] else []) = if ("book" : Str) = w then [k] else []
    by_cases e : w = "book"
    · rw [if_pos e, if_pos e.symm]
    · rw [if_neg e, if_neg fun z => e z.symm]
  | _ =>
    show [] = ite _ [] []
    split <;> rfl
end Sc
namespace Sc
open PySem PyProof.Rows L2
def top (i : Nat) : Stmt := PySem.Challenge.pw_soothcheck_k11_what_fits_without_shapes.main.body.getD i (.Pass ⟨0, 0, 0, 0⟩)
abbrev sShownKind : Stmt := top 1
abbrev sShownChoice : Stmt := top 2
abbrev sHasWordSigns : Stmt := top 3
abbrev sAreFields : Stmt := top 4
abbrev sJoined : Stmt := top 5
abbrev sChoiceHead : Stmt := top 6
abbrev sShapeHead : Stmt := top 7
abbrev sHeadAnswers : Stmt := top 8
abbrev sHeadOf : Stmt := top 10
abbrev sIsValue : Stmt := top 11
abbrev sPMayBeValue : Stmt := top 12
abbrev sPartsOf : Stmt := top 13
abbrev sIsOf : Stmt := top 14
abbrev sValueIsOf : Stmt := top 15
abbrev sPIsOfChoice : Stmt := top 16
abbrev sPArePartsOfChoice : Stmt := top 17
abbrev sPKindsOfParts : Stmt := top 18
abbrev sFits : Stmt := top 21
abbrev sGround : Stmt := top 22
abbrev sPStanding : Stmt := top 23
abbrev sPFind : Stmt := top 24
abbrev sPFindInChoice : Stmt := top 25
abbrev sPFindInLetter : Stmt := top 26
abbrev sPTakes : Stmt := top 27
abbrev sPFindInHolder : Stmt := top 28
abbrev sPFindingsWithin : Stmt := top 29
abbrev sPStandsOf : Stmt := top 30
abbrev sPFindInShape : Stmt := top 31
abbrev sPShapeOf : Stmt := top 32
abbrev sPRivalThatHolds : Stmt := top 33
abbrev sPWaysOut : Stmt := top 34
abbrev sBegun : Stmt := top 36
abbrev sTaken : Stmt := top 37
abbrev sFlat : Stmt := top 38
abbrev sFlatFits : Stmt := top 39
abbrev sLaw : Stmt := top 40
abbrev sSearchInit : Stmt := inClass (top 20) 0
abbrev sSearchFresh : Stmt := inClass (top 20) 1
structure Tx (K : PySem.W.Frag) (mg : Str → Option Value) : Prop where
  shown_kind : Def K mg "shown_kind" sShownKind ["kind"]
  shown_choice : Def K mg "shown_choice" sShownChoice ["choice"]
  has_word_signs : Def K mg "has_word_signs" sHasWordSigns ["text"]
  are_fields : Def K mg "are_fields" sAreFields ["thing"]
  joined : Def K mg "joined" sJoined ["kinds"]
  choice_head : Def K mg "choice_head" sChoiceHead ["choice"]
  shape_head : Def K mg "shape_head" sShapeHead ["pairs"]
  head_answers : Def K mg "head_answers" sHeadAnswers ["head", "ask"]
  head_of : Def K mg "head_of" sHeadOf ["value"]
  is_value : Def K mg "is_value" sIsValue ["thing"]
  p_may_be_value : Def K mg "_may_be_value" sPMayBeValue ["thing"]
  parts_of : Def K mg "parts_of" sPartsOf ["value"]
  is_of : Def K mg "is_of" sIsOf ["value", "kind", "standing"]
  value_is_of : Def K mg "value_is_of" sValueIsOf ["value", "kind", "standing"]
  p_is_of_choice : Def K mg "_is_of_choice" sPIsOfChoice ["value", "choice", "standing"]
  p_are_parts_of_choice : Def K mg "_are_parts_of_choice" sPArePartsOfChoice ["value", "choice", "standing"]
  p_kinds_of_parts : Def K mg "_kinds_of_parts" sPKindsOfParts ["choice", "many"]
  fits : Def K mg "fits" sFits ["one", "other", "bounds"]
  ground : Def K mg "ground" sGround ["one", "other", "bounds"]
  p_standing : Def K mg "_standing" sPStanding ["stands", "bounds"]
  p_find : Def K mg "_find" sPFind ["kind", "other", "search"]
  p_find_in_choice : Def K mg "_find_in_choice" sPFindInChoice ["choice", "other", "search"]
  p_find_in_letter : Def K mg "_find_in_letter" sPFindInLetter ["choice", "other", "search"]
  p_takes : Def K mg "_takes" sPTakes ["choice", "letter", "head"]
  p_find_in_holder : Def K mg "_find_in_holder" sPFindInHolder ["choice", "other", "search"]
  p_findings_within : Def K mg "_findings_within" sPFindingsWithin ["kind", "others", "search"]
  p_stands_of : Def K mg "_stands_of" sPStandsOf ["findings"]
  p_find_in_shape : Def K mg "_find_in_shape" sPFindInShape ["fields", "other", "search"]
  p_shape_of : Def K mg "_shape_of" sPShapeOf ["fields", "findings"]
  p_rival_that_holds : Def K mg "_rival_that_holds" sPRivalThatHolds ["found", "rivals", "bounds"]
  p_ways_out : Def K mg "_ways_out" sPWaysOut ["fields", "sides", "rival", "search"]
  begun : Def K mg "_law_begun" sBegun ["_law_script"]
  taken : Def K mg "_law_taken" sTaken ["_law_s", "_law_most"]
  flat : Def K mg "_law_flat" sFlat ["_law_s", "_law_deep"]
  flat_fits : Def K mg "_law_flat_fits" sFlatFits ["_law_one", "_law_other"]
  m_abs : mg "abs" = none
  m_all : mg "all" = none
  m_any : mg "any" = none
  m_bool : mg "bool" = none
  m_dict : mg "dict" = none
  m_enumerate : mg "enumerate" = none
  m_int : mg "int" = none
  m_isinstance : mg "isinstance" = none
  m_len : mg "len" = none
  m_list : mg "list" = none
  m_range : mg "range" = none
  m_set : mg "set" = none
  m_sorted : mg "sorted" = none
  m_str : mg "str" = none
  m_sum : mg "sum" = none
  m_tuple : mg "tuple" = none
  m_zip : mg "zip" = none
end Sc
namespace Sc
open PySem PyProof.Rows L2
section
variable {P : Program} {w : World} {K : PySem.W.Frag} {mg : Str → Option Value} {base : Heap}
theorem scTaken : FnScope ["_law_s", "_law_most", "_law_found"] ["_law_s", "_law_most"] (defScope sTaken) := ⟨rfl, rfl, rfl, by decide +kernel, rfl, by decide +kernel, by decide +kernel⟩
theorem c_taken (T : Tx K mg) : Cal P w K mg base 1 "_law_taken" ["_law_s", "_law_most"] (spTaken K) := by
  refine T.taken.ok scTaken (fun vs H Q E h => ?_) (fun f cdv A outer s H vs Q E hr h => ?_)
  · obtain ⟨s, i, m, rfl, _⟩ := h
    rfl
  obtain ⟨s, i, m, rfl, ⟨ns, g, hs, hc, hl, iok, ok⟩, m0, mb, q⟩ := h
  have hu := hu_of hr
  have ml := T.m_len
  refine ⟨_, pss_cons (ps_if (pt_cmpR op_eq (pe_dget hu (pv 0) pe_str (fun _ _ => rfl)) pe_int (nomark _))
      (pss_cons (ps_dput hu (pv 0) pe_str (pe_op op_add (pe_dget hu (pv 0) pe_str (fun _ _ => rfl)) pe_int) rfl)
      (pss_cons (ps_if (pt_cmpR op_gt (pe_dget hu (pv 0) pe_str (fun _ _ => rfl)) (pe_callB call_len_seq (by rfl) ml PySem.boot_len (pa_cons (pe_dget hu (pv 0) pe_str (fun _ _ => rfl)) pa_nil)) (nomark _))
        (pss_cons (ps_dput hu (pv 0) pe_str (pe_op op_mod (pe_op op_add (pe_op op_mul (pe_dget hu (pv 0) pe_str (fun _ _ => rfl)) pe_int) pe_int) pe_int) rfl)
        (pss_cons (ps_set (i := 2) scTaken.nd rfl (Or.inl rfl) (pe_op op_fdiv (pe_dget hu (pv 0) pe_str (fun _ _ => rfl)) pe_int))
        (pss_one (ps_ret (pe_ifExp (pt_cmpR op_gt (pv 1) (pe_op op_pow pe_int pe_int) (nomark _)) (pe_op op_modN (pe_op op_pow (pv 2) pe_int) (pv 1)) (pe_op op_modN (pv 2) (pv 1)))))))
        pss_nil)
      (pss_cons (ps_if (pt_cmpR op_lt (pe_ix ix_list (pe_dget hu (pv 0) pe_str (fun _ _ => rfl)) (pe_op op_sub (pe_dget hu (pv 0) pe_str (fun _ _ => rfl)) pe_int) (fun _ _ => rfl)) (pe_op op_pow pe_int pe_int) (nomark _))
        (pss_one (ps_ret (pe_op op_modN (pe_ix ix_list (pe_dget hu (pv 0) pe_str (fun _ _ => rfl)) (pe_op op_sub (pe_dget hu (pv 0) pe_str (fun _ _ => rfl)) pe_int) (fun _ _ => rfl)) (pv 1))))
        pss_nil)
      (pss_one (ps_dput hu (pv 0) pe_str (pe_ix ix_list (pe_dget hu (pv 0) pe_str (fun _ _ => rfl)) (pe_op op_sub (pe_dget hu (pv 0) pe_str (fun _ _ => rfl)) pe_int) (fun _ _ => rfl)) rfl)))))
      pss_nil)
    (pss_cons (ps_set (i := 2) scTaken.nd rfl (Or.inl rfl) (pe_op op_modN (pe_dget hu (pv 0) pe_str (fun _ _ => rfl)) (pv 1)))
    (pss_cons (ps_dput hu (pv 0) pe_str (pe_op op_fdivW (pe_dget hu (pv 0) pe_str (fun _ _ => rfl)) (pv 1)) rfl)
    (pss_one (ps_ret (pv 2))))), ?_⟩
  -- the rows behind the if, from any state
  have last : ∀ (H1 : Hp) (g1 : Mv) (v2 : Option V), H1 s = some (.dK (stD i g1)) → SqL K H1 i.c (ns.map V.int) → g1.Ok → Ext s H H1 →
      tSeq (tAsg (tOp (rI (fun _ j => j ≠ 0) fun i j => V.int (i.fmod j)) (tDGet (tVar 0) (tC (.str "rest"))) (tVar 1)) (gName 2))
        (tSeq (sDPut (tVar 0) (tC (.str "rest")) (tOp (rI CDivW fun i j => V.int (i / j)) (tDGet (tVar 0) (tC (.str "rest"))) (tVar 1))) (tRet (tVar 2)))
        { nx := fun _ H' => Q .non H', rt := Q } [some (.ref s), some (.int m), v2] H1 := fun H1 g1 v2 hs1 hc1 ok1 e1 => by
    refine ⟨_, rfl, s, _, rfl, gS hs1 rfl, _, rfl, _, _, rfl, rfl, by omega, ?_⟩
    refine ⟨_, rfl, s, _, rfl, gS hs1 rfl, _, rfl, _, _, rfl, rfl, ⟨m0, ?_⟩, _, rfl, s, _, rfl, pS hs1 (p_rest i g1 _), _, rfl, ?_⟩
    · exact Nat.lt_trans (PySem.Flt.log2_lt_of (by decide) mb) (by decide)
    have em : g1.rest.fmod m = g1.rest % m := Int.fmod_eq_emod_of_nonneg _ (by omega)
    refine q _ _ (by rw [em]; exact Int.emod_nonneg _ (by omega)) (by rw [em]; exact Int.emod_lt_of_pos _ m0) (e1.trans (Ext.upd _ _ _)) ⟨ns, _, upd_same, (Ext.upd s H1 _).seq hs1 hc1, hl, iok, ?_⟩
    exact { ok1 with r0 := Int.ediv_nonneg ok1.r0 (by omega) }
  refine ⟨_, rfl, s, _, rfl, gS hs rfl, rfl, _, rfl, ite2 (fun c1 => ?_) (fun c1 => last H g none hs hc ok (Ext.refl s H))⟩
  refine ⟨_, rfl, s, _, rfl, gS hs rfl, _, _, rfl, rfl, _, rfl, s, _, rfl, pS hs (p_at i g _), ?_⟩
  have hs1 : (upd H s (.dK (stD i { g with att := g.att + 1 }))) s = _ := upd_same
  have e1 := Ext.upd s H (.dK (stD i { g with att := g.att + 1 }))
  have hc1 := e1.seq hs hc
  have ok1 : ({ g with att := g.att + 1 } : Mv).Ok := { ok with a0 := by have := ok.a0; show 0 ≤ g.att + 1; omega }
  generalize upd H s (.dK (stD i { g with att := g.att + 1 })) = H1 at hs1 e1 hc1 ⊢
  have a1 : 1 ≤ ({ g with att := g.att + 1 } : Mv).att := by have := ok.a0; show 1 ≤ g.att + 1; omega
  generalize ({ g with att := g.att + 1 } : Mv) = g1 at hs1 ok1 a1 ⊢
  refine ⟨_, rfl, s, _, rfl, gS hs1 rfl, _, rfl, s, _, rfl, gS hs1 rfl, i.c, _, rfl, .inl hc1, _, _, rfl, rfl, _, rfl, ite2 (fun c2 => ?_) (fun c2 => ?_)⟩
  · refine ⟨_, rfl, s, _, rfl, gS hs1 rfl, _, _, rfl, rfl, .inr (by decide), _, _, rfl, rfl, _, _, rfl, rfl, (by show (0 : Int) < 2147483647; decide), _, rfl, s, _, rfl, pS hs1 (p_seed i g1 _), ?_⟩
    have s0 : 0 ≤ (g1.seed * 48271 + 11) % 2147483647 := Int.emod_nonneg _ (by decide)
    have s1 : (g1.seed * 48271 + 11) % 2147483647 < 2147483647 := Int.emod_lt_of_pos _ (by decide)
    generalize (g1.seed * 48271 + 11) % 2147483647 = sd at s0 s1 ⊢
    have hs2 : (upd H1 s (.dK (stD i { g1 with seed := sd }))) s = _ := upd_same
    have e2 := Ext.upd s H1 (.dK (stD i { g1 with seed := sd }))
    have hc2 := e2.seq hs1 hc1
    have ok2 : ({ g1 with seed := sd } : Mv).Ok := { ok1 with e0 := s0 }
    generalize upd H1 s (.dK (stD i { g1 with seed := sd })) = H2 at hs2 e2 hc2 ⊢
    refine ⟨_, rfl, s, _, rfl, gS hs2 rfl, _, _, rfl, rfl, ⟨by decide, by decide⟩, _, rfl, _, _, rfl, rfl, ⟨by decide, by decide, by decide⟩, _, _, rfl, rfl, _, rfl, ?_⟩
    have fin : ∀ x : Int, Q (.int (x.fmod m)) H2 := fun x => by
      have em : x.fmod m = x % m := Int.fmod_eq_emod_of_nonneg _ (by omega)
      rw [em]
      exact q _ _ (Int.emod_nonneg _ (by omega)) (Int.emod_lt_of_pos _ m0) (e1.trans e2) ⟨ns, _, hs2, hc2, hl, iok, ok2⟩
    refine ite2 (fun c3 => ?_) (fun c3 => ?_)
    · refine ⟨_, rfl, _, _, rfl, rfl, ⟨by decide, by decide, ?_⟩, _, rfl, _, _, rfl, rfl, by omega, fin _⟩
      show (sd / 64).natAbs < 2 ^ 64
      omega
    · exact ⟨_, rfl, _, rfl, _, _, rfl, rfl, by omega, fin _⟩
  · have hlt : g1.att - 1 < (ns.length : Int) := by
      have c2' : ¬ (((ns.map V.int).length : Nat) : Int) < g1.att := of_decide_eq_false (Bool.eq_false_iff.mpr c2)
      rw [List.length_map] at c2'
      omega
    obtain ⟨j, hj⟩ : ∃ j : Nat, g1.att - 1 = (j : Int) := ⟨(g1.att - 1).toNat, by omega⟩
    have hjl : j < ns.length := by omega
    have hat : atI (ns.map V.int) (g1.att - 1) = some (.int ns[j]) := by
      rw [hj]
      exact atI_nat (by rw [List.getElem?_map, List.getElem?_eq_getElem hjl] <;> rfl)
    refine ⟨_, rfl, s, _, rfl, gS hs1 rfl, _, rfl, s, _, rfl, gS hs1 rfl, _, _, rfl, rfl, i.c, _, _, _, rfl, rfl, hc1, hat, _, _, rfl, rfl, ⟨by decide, by decide, by decide⟩, _, _, rfl, rfl, _, rfl, ite2 (fun c3 => ?_) (fun c3 => ?_)⟩
    · have em : ns[j].fmod m = ns[j] % m := Int.fmod_eq_emod_of_nonneg _ (by omega)
      refine ⟨_, rfl, s, _, rfl, gS hs1 rfl, _, rfl, s, _, rfl, gS hs1 rfl, _, _, rfl, rfl, i.c, _, _, _, rfl, rfl, hc1, hat, _, rfl, _, _, rfl, rfl, by omega, ?_⟩
      exact q _ _ (by rw [em]; exact Int.emod_nonneg _ (by omega)) (by rw [em]; exact Int.emod_lt_of_pos _ m0) e1 ⟨ns, _, hs1, hc1, hl, iok, ok1⟩
    · refine ⟨_, rfl, s, _, rfl, gS hs1 rfl, _, rfl, s, _, rfl, gS hs1 rfl, _, _, rfl, rfl, i.c, _, _, _, rfl, rfl, hc1, hat, _, rfl, s, _, rfl, pS hs1 (p_rest i g1 _), ?_⟩
      have c3' : ¬ ns[j] < 10 ^ 18 := of_decide_eq_false (Bool.eq_false_iff.mpr c3)
      exact last _ _ none upd_same ((Ext.upd s H1 _).seq hs1 hc1) { ok1 with r0 := by show 0 ≤ ns[j]; omega } (e1.trans (Ext.upd _ _ _))
end
end Sc
namespace Sc
open PySem PyProof.Rows L2
section
variable {P : Program} {w : World} {K : PySem.W.Frag} {mg : Str → Option Value} {base : Heap}
def d9 (c fl : Addr) : List (Key × V) := [(.inr "cells", .ref c), (.inr "at", .int 0), (.inr "size", .int 1), (.inr "place", .int 0), (.inr "turn", .int 0), (.inr "rest", .int 0),
  (.inr "functions", .ref fl), (.inr "odd", .int 0), (.inr "talk", .int 0)]
theorem merge9 (c fl : Addr) : mergeK [] (d9 c fl) = d9 c fl := by kernel_rfl
theorem seed9 (c fl : Addr) (n : Int) : putK (d9 c fl) (.inr "seed") (.int n) = stD ⟨c, fl, 1, 0, 0, 0, 0⟩ ⟨0, 0, n⟩ := by rfl
theorem scBegun : FnScope ["_law_script", "_law_s", "_law_cell"] ["_law_script"] (defScope sBegun) := ⟨rfl, rfl, rfl, by decide +kernel, rfl, by decide +kernel, by decide +kernel⟩
theorem c_begun (T : Tx K mg) : Cal P w K mg base 2 "_law_begun" ["_law_script"] (spBegun K) := by
  have CT : Cal P w K mg base 1 "_law_taken" ["_law_s", "_law_most"] (spTaken K) := c_taken T
  refine T.begun.ok scBegun (fun vs H Q E h => ?_) (fun f cdv A outer s H vs Q E hr h => ?_)
  · obtain ⟨c, ns, rfl, _⟩ := h
    rfl
  obtain ⟨c, ns, rfl, hc, hl, q⟩ := h
  have hu := hu_of hr
  refine ⟨_, pss_cons (ps_set (i := 1) scBegun.nd rfl (Or.inl rfl) (pe_disp (pps_cons pe_str (pv 0) (pps_cons pe_str pe_int (pps_cons pe_str pe_int (pps_cons pe_str pe_int (pps_cons pe_str pe_int (pps_cons pe_str pe_int
        (pps_cons pe_str (pe_lst pa_nil) (pps_cons pe_str pe_int (pps_cons pe_str pe_int pps_nil))))))))) (by rfl) (by rfl) (fun z => by cases z) (by decide)))
    (pss_cons (ps_dput hu (pv 1) pe_str (pe_op op_add pe_int (pe_callB (cr_sum rfl) (by rfl) T.m_sum (by decide +kernel) (pa_cons
        (pe_lc (own := [("_law_cell", 2)]) (g := gName 2) (tt := tYes) rfl scBegun.nd (pi_list (pv 0)) (blkOk_by (N := ["_law_script", "_law_s", "_law_cell"]) (sc := defScope sBegun) (by decide +kernel))
          (fun _ _ _ _ _ => pg_name (i := 2) scBegun.nd rfl (Or.inl rfl)) (fun _ _ _ _ _ => pts_nil)
          (fun _ _ _ _ _ => pe_op op_mul pe_int (pe_callB call_abs (by rfl) T.m_abs (by decide +kernel) (pa_cons (pv 2) pa_nil)))) pa_nil))) rfl)
    (pss_cons (ps_dput hu (pv 1) pe_str (pe_op op_add pe_int (pe_cal CT hr (pa_cons (pv 1) (pa_cons pe_int pa_nil)))) rfl)
    (pss_cons (ps_dput hu (pv 1) pe_str (pe_cal CT hr (pa_cons (pv 1) (pa_cons (pe_dget hu (pv 1) pe_str (fun _ _ => rfl)) pa_nil))) rfl)
    (pss_cons (ps_dput hu (pv 1) pe_str (pe_cal CT hr (pa_cons (pv 1) (pa_cons pe_int pa_nil))) rfl)
    (pss_cons (ps_dput hu (pv 1) pe_str (pe_callTy call_int1 (by rfl) T.m_int (by decide +kernel) (pa_cons (pe_cmpR op_eq (pe_cal CT hr (pa_cons (pv 1) (pa_cons pe_int pa_nil))) pe_int (nomark _)) pa_nil)) rfl)
    (pss_one (ps_ret (pv 1)))))))), ?_⟩
  refine fun s hs0 => ⟨_, rfl, Nat.zero_le _, fun fl hfl => ⟨?_, d9 c fl, rfl, by show 9 ≤ 15; decide, ?_⟩⟩
  · rw [upd_ne (ne_of_none upd_same hfl)]
    exact upd_same
  have hfl0 : H fl = none := (same_new hs0 (.dK [])).free hfl
  have nsf : s ≠ fl := ne_of_none upd_same hfl
  have e0 : Same H (upd (upd (upd H s (.dK [])) fl (.lst [])) s (.dK (mergeK [] (d9 c fl)))) := fun b o h => by
    rw [upd_ne (ne_of_none h hs0), upd_ne (ne_of_none h hfl0), upd_ne (ne_of_none h hs0)]
    exact h
  have f0 : (upd (upd (upd H s (.dK [])) fl (.lst [])) s (.dK (mergeK [] (d9 c fl)))) fl = some (.lst []) := by rw [upd_ne nsf.symm, upd_same]
  have d0 : (upd (upd (upd H s (.dK [])) fl (.lst [])) s (.dK (mergeK [] (d9 c fl)))) s = some (.dK (d9 c fl)) := by rw [upd_same, merge9]
  generalize (upd (upd (upd H s (.dK [])) fl (.lst [])) s (.dK (mergeK [] (d9 c fl)))) = H1 at e0 f0 d0 ⊢
  refine ⟨_, rfl, c, rfl, ⟨_, Same.seq e0 hc⟩, fun D hD => lc_list (K := K) (a := c) (xs := ns.map V.int) (fun j H2 => Same H1 H2 ∧ H2 D = some (.lst ((ns.take j).map fun z => V.int (31 * (if z < 0 then -z else z))))) ⟨same_new hD _, upd_same⟩
    (fun j H2 _ h => Same.seq (e0.trans h.1) hc) ?_ ?_⟩
  · rintro j x H2 hx ⟨e2, h2⟩
    rw [List.getElem?_map] at hx
    obtain ⟨z, hz, rfl⟩ := Option.map_eq_some_iff.mp hx
    refine ⟨rfl, _, rfl, z, rfl, _, _, rfl, rfl, .inl ⟨by decide, by decide⟩, _, h2, ?_, fun b o hb => ?_, ?_⟩
    · rw [List.length_map]
      exact small1000 (Nat.le_trans (List.length_take_le' _ _) (by omega))
    · rw [upd_ne (ne_of_none hb hD)]
      exact e2 b o hb
    · rw [upd_same, List.take_add_one, hz, List.map_append]
      rfl
  rintro H2 ⟨e2, h2⟩
  refine ⟨D, ns.map fun z => 31 * (if z < 0 then -z else z), rfl, ?_, _, _, rfl, rfl, _, rfl, s, _, rfl, DPut.k (k := Sum.inr "seed") (e2 _ _ d0) (by show 9 < sizeLine; decide), ?_⟩
  · rw [List.length_map, List.take_length] at h2
    rw [List.map_map]
    exact SqL.of h2
  rw [seed9]
  have hc2 : SqL K H2 c (ns.map V.int) := Same.seq (e0.trans e2) hc
  have x3 := Ext.upd s H2 (.dK (stD ⟨c, fl, 1, 0, 0, 0, 0⟩ ⟨0, 0, 7 + (ns.map fun z => 31 * (if z < 0 then -z else z)).sum⟩))
  have hs2 : (upd H2 s (.dK (stD ⟨c, fl, 1, 0, 0, 0, 0⟩ ⟨0, 0, 7 + (ns.map fun z => 31 * (if z < 0 then -z else z)).sum⟩))) s = _ := upd_same
  have hf2 : (upd H2 s (.dK (stD ⟨c, fl, 1, 0, 0, 0, 0⟩ ⟨0, 0, 7 + (ns.map fun z => 31 * (if z < 0 then -z else z)).sum⟩))) fl = some (.lst []) := by rw [upd_ne nsf.symm]; exact e2 _ _ f0
  have x03 : Ext s H (upd H2 s (.dK (stD ⟨c, fl, 1, 0, 0, 0, 0⟩ ⟨0, 0, 7 + (ns.map fun z => 31 * (if z < 0 then -z else z)).sum⟩))) := (Ext.same (e0.trans e2)).trans x3
  have hc3 := x3.seq (e2 _ _ d0) hc2
  generalize (upd H2 s (.dK (stD ⟨c, fl, 1, 0, 0, 0, 0⟩ ⟨0, 0, 7 + (ns.map fun z => 31 * (if z < 0 then -z else z)).sum⟩))) = H3 at hs2 hf2 x03 hc3 ⊢
  have sum0 : ∀ l : List Int, 0 ≤ (l.map fun z => 31 * (if z < 0 then -z else z)).sum := fun l => by
    induction l with
    | nil => exact Int.le_refl 0
    | cons z l ih =>
      rw [List.map_cons, List.sum_cons]
      split <;> omega
  have S3 : IsS K H3 s ⟨c, fl, 1, 0, 0, 0, 0⟩ := ⟨ns, _, hs2, hc3, hl, ⟨by show (1 : Int) ≤ 1; decide, by show (1 : Int) ≤ 8; decide, by show (0 : Int) ≤ 0; decide, by show (0 : Int) < 1; decide, by show (0 : Int) ≤ 0; decide, by show (0 : Int) < 26; decide, by show (0 : Int) ≤ 0; decide, by show (0 : Int) ≤ 1; decide⟩,
    ⟨by show (0 : Int) ≤ 0; decide, by show (0 : Int) ≤ 0; decide, by have := sum0 ns; show 0 ≤ 7 + _; omega⟩⟩
  -- the four draws
  have put : ∀ {H4 : Hp} {i i' : Inf} {k : Str} {v : V}, IsS K H4 s i → (∀ m, putK (stD i m) (.inr k) v = stD i' m) → i'.c = i.c → i'.Ok → ∃ H5, DPut H4 s (.str k) v H5 ∧ IsS K H5 s i' ∧ Ext s H4 H5 := fun {H4 i i' k v} h hp hi ho => by
    obtain ⟨ns, m, a1, a2, a3, a4, a5⟩ := h
    exact ⟨_, pS a1 (hp m), ⟨ns, m, upd_same, by rw [hi]; exact (Ext.upd s H4 _).seq a1 a2, a3, ho, a5⟩, Ext.upd s H4 _⟩
  refine ⟨_, rfl, s, _, 8, rfl, S3, by decide, by decide, fun r1 H4 a1 b1 x4 S4 => ?_⟩
  obtain ⟨H5, p5, S5, x5⟩ := put (k := "size") (v := .int (1 + r1)) S4 (fun m => p_size _ m _) rfl { s1 := by show 1 ≤ 1 + r1; omega, s8 := by show 1 + r1 ≤ 8; omega, p0 := by show (0 : Int) ≤ 0; decide, p1 := by show 0 < 1 + r1; omega, t0 := by show (0 : Int) ≤ 0; decide, t1 := by show (0 : Int) < 26; decide, k0 := by show (0 : Int) ≤ 0; decide, k1 := by show (0 : Int) ≤ 1; decide }
  refine ⟨_, _, rfl, rfl, _, rfl, s, _, rfl, p5, ?_⟩
  obtain ⟨ns5, m5, h5, _⟩ := id S5
  refine ⟨_, rfl, _, rfl, s, _, rfl, gS h5 rfl, s, _, _, rfl, S5, by show 0 < 1 + r1; omega, ?_, fun r2 H6 a2 b2 x6 S6 => ?_⟩
  · show (1 + r1).natAbs < 2 ^ 200
    exact Nat.lt_trans (show (1 + r1).natAbs < 100 by omega) (by decide)
  have b2' : r2 < 1 + r1 := b2
  obtain ⟨H7, p7, S7, x7⟩ := put (k := "place") (v := .int r2) S6 (fun m => p_place _ m _) rfl { s1 := by show 1 ≤ 1 + r1; omega, s8 := by show 1 + r1 ≤ 8; omega, p0 := a2, p1 := b2, t0 := by show (0 : Int) ≤ 0; decide, t1 := by show (0 : Int) < 26; decide, k0 := by show (0 : Int) ≤ 0; decide, k1 := by show (0 : Int) ≤ 1; decide }
  refine ⟨_, rfl, s, _, rfl, p7, ?_⟩
  refine ⟨_, rfl, s, _, 26, rfl, S7, by decide, by decide, fun r3 H8 a3 b3 x8 S8 => ?_⟩
  obtain ⟨H9, p9, S9, x9⟩ := put (k := "turn") (v := .int r3) S8 (fun m => p_turn _ m _) rfl { s1 := by show 1 ≤ 1 + r1; omega, s8 := by show 1 + r1 ≤ 8; omega, p0 := a2, p1 := b2, t0 := a3, t1 := b3, k0 := by show (0 : Int) ≤ 0; decide, k1 := by show (0 : Int) ≤ 1; decide }
  refine ⟨_, rfl, s, _, rfl, p9, ?_⟩
  refine ⟨_, rfl, s, _, 9, rfl, S9, by decide, by decide, fun r4 Ha a4 b4 xa Sa => ⟨rfl, .inr ⟨_, rfl, ?_⟩⟩⟩
  obtain ⟨Hb, pb, Sb, xb⟩ := put (k := "talk") (v := .int (if decide (V.int r4 = V.int 8) = true then 1 else 0)) Sa (fun m => p_talk _ m _) rfl { s1 := by show 1 ≤ 1 + r1; omega, s8 := by show 1 + r1 ≤ 8; omega, p0 := a2, p1 := b2, t0 := a3, t1 := b3, k0 := by show (0 : Int) ≤ ite _ _ _; split <;> decide, k1 := by show ite _ _ _ ≤ (1 : Int); split <;> decide }
  refine ⟨_, rfl, s, _, rfl, pb, _, rfl, ?_⟩
  have xx := x4.trans (x5.trans (x6.trans (x7.trans (x8.trans (x9.trans (xa.trans xb))))))
  refine q s _ Hb (fun b o h => ?_) hs0 rfl rfl (xx _ _ nsf.symm hf2) hfl0 Sb
  exact (x03.trans xx) b o (ne_of_none h hs0) h
end
end Sc
namespace Sc
open PySem PyProof.Rows L2
abbrev sSInit : Stmt := sSearchInit
abbrev sSFresh : Stmt := sSearchFresh
section
variable {P : Program} {w : World} {K : PySem.W.Frag} {mg : Str → Option Value} {base : Heap}
theorem kbl : ¬ (("bounds" : Str) = "last") := by decide +kernel
theorem flds_bounds (b : Addr) (n : Int) : (flds b n).lookup ("bounds" : Str) = some (.ref b) := rfl
theorem flds_last (b : Addr) (n : Int) : (flds b n).lookup ("last" : Str) = some (.int n) := rfl
theorem flds_fresh (b : Addr) (n : Int) : (flds b n).lookup ("fresh" : Str) = none := rfl
theorem flds_put (b : Addr) (n y : Int) : putF "last" (.int y) (flds b n) = flds b y := by
  show (if ("bounds" : Str) = "last" then _ else (("bounds" : Str), V.ref b) :: (if ("last" : Str) = "last" then [(("last" : Str), V.int y)] else _)) = ([("bounds", V.ref b), ("last", V.int y)] : List (Str × V))
  rw [if_neg kbl, if_pos rfl]
theorem flds_mk (b : Addr) : putF "last" (.int 0) (putF "bounds" (.ref b) []) = flds b 0 := by
  show (if ("bounds" : Str) = "last" then [(("bounds" : Str), V.int 0)] else (("bounds" : Str), V.ref b) :: putF "last" (V.int 0) []) = ([("bounds", V.ref b), ("last", V.int 0)] : List (Str × V))
  rw [if_neg kbl]
  rfl
theorem scSI : FnScope ["self", "bounds"] ["self", "bounds"] (defScope sSInit) := ⟨rfl, rfl, rfl, by decide +kernel, rfl, by decide +kernel, by decide +kernel⟩
theorem ok_sinit {f C : Addr} {fd : FuncData} (F : Fun K "__init__" "Search.__init__" sSInit f fd) (T : SrT K mg C) : FnOk P w K mg base CX0 1 f fd ["self", "bounds"] (spInit C) := by
  refine F.ok scSI (fun vs H Q E h => ?_) (fun cdv A outer s H vs Q E hr h => ?_)
  · obtain ⟨p, dx, b, rfl, _⟩ := h
    rfl
  obtain ⟨p, dx, b, rfl, hp, k⟩ := h
  refine ⟨_, pss_cons (ps_fld (pv 0) (pv 1) rfl) (pss_one (ps_fld (pv 0) pe_int rfl)), ?_⟩
  refine ⟨_, rfl, _, rfl, p, C, dx, [], rfl, hp, T.cl, T.nB, (by show 0 < 1000; decide), _, rfl, p, C, dx, _, rfl, upd_same, T.cl, T.nL, (by show 1 < 1000; decide), ?_⟩
  refine k _ ⟨dx, by rw [upd_same, flds_mk]⟩ fun c o e hc => ?_
  rw [upd_ne hc, upd_ne hc]
  exact e
theorem scSF : FnScope ["self"] ["self"] (defScope sSFresh) := ⟨rfl, rfl, rfl, by decide +kernel, rfl, by decide +kernel, by decide +kernel⟩
theorem ok_sfresh {f C : Addr} {fd : FuncData} (F : Fun K "fresh" "Search.fresh" sSFresh f fd) (T : SrT K mg C) : FnOk P w K mg base CX0 1 f fd ["self"] (spFresh C) := by
  refine F.ok scSF (fun vs H Q E h => ?_) (fun cdv A outer s H vs Q E hr h => ?_)
  · obtain ⟨p, b, n, rfl, _⟩ := h
    rfl
  obtain ⟨p, b, n, rfl, ⟨dx, hp⟩, k⟩ := h
  refine ⟨_, pss_cons (ps_fldaug (pv 0) pe_int in_add) (pss_one (ps_ret (pe_fld (pv 0) rfl))), ?_⟩
  refine ⟨_, rfl, p, C, _, _, _, rfl, hp, T.cl, T.nL, flds_last _ _, _, _, rfl, rfl, _, _, hp, (by show 2 < 1000; decide), ?_⟩
  refine ⟨_, rfl, p, C, dx, _, _, rfl, upd_same, T.cl, T.nL, by rw [flds_put]; exact flds_last _ _, ?_⟩
  refine k _ ⟨dx, by rw [upd_same, flds_put]⟩ fun c o hc e => ?_
  rw [upd_ne hc]
  exact e
theorem scFind : FnScope ["kind", "other", "search", "choice", "found"] ["kind", "other", "search"] (defScope sPFind) := ⟨rfl, rfl, rfl, by decide +kernel, rfl, by decide +kernel, by decide +kernel⟩
theorem c_find {C : Addr} {n lv : Nat} (T : Tx K mg) (CC : Cal P w K mg base lv "_find_in_choice" ["choice", "other", "search"] (spFindC K C n)) : Cal P w K mg base (lv + 1) "_find" ["kind", "other", "search"] (spFind K C n) := by
  refine T.p_find.ok scFind (fun vs H Q E h => ?_) (fun f cdv A outer s H vs Q E hr h => ?_)
  · obtain ⟨kv, ov, p, b, m, k, o, d, rfl, _⟩ := h
    rfl
  obtain ⟨kv, ov, p, b, m, k, o, d, rfl, hk, ho, S, dn, k3, fk, o7, fo, d3, m0, mb, q⟩ := h
  refine ⟨_, pss_cons (ps_for PassesOwn.never rfl (pi_tup (pv 0)) (pg_name (i := 3) scFind.nd rfl (Or.inl rfl))
      (pss_cons (ps_set (i := 4) scFind.nd rfl (Or.inl rfl) (pe_cal CC hr (pa_cons (pv 3) (pa_cons (pv 1) (pa_cons (pv 2) pa_nil)))))
      (pss_one (ps_if (pt_cmpR op_notN (pv 4) pe_non (nomark _)) (pss_one (ps_ret (pv 4))) pss_nil))))
    (pss_one (ps_ret pe_non)), ?_⟩
  obtain ⟨a, vs, rfl, ht, hd⟩ := hk.open
  have kl : vs.length = k.length := by rw [hd.1, pyL_map, List.length_map]
  have bc := bud_C d
  have bp := budC_pos d
  refine ⟨_, rfl, a, rfl, ⟨_, ht⟩, ?_⟩
  refine for_tup (K := K) (a := a) (xs := vs) (fun j σ2 H2 => Ext p H H2 ∧ (∃ o3 o4, σ2 = [some (.ref a), some ov, some (.ref p), o3, o4]) ∧ ∃ m2, SAt C H2 p b m2 ∧ m ≤ m2 ∧ m2 ≤ m + (j : Int) * budC d ∧ ((k.take j).all fun c => fitC d c o) = true)
    ⟨Ext.refl _ _, ⟨_, _, rfl⟩, m, S, Int.le_refl _, by simp, rfl⟩ (fun j σ2 H2 _ h => S.keep h.1 _ _ ht) ?_ ?_
  · rintro j x σ2 H2 hx ⟨e2, ⟨o3, o4, rfl⟩, m2, S2, l1, l2, al⟩
    obtain ⟨d', hd1, hd2⟩ := hd.at hx
    rw [pyL_map, List.getElem?_map] at hd1
    obtain ⟨c, hc, rfl⟩ := Option.map_eq_some_iff.mp hd1
    have mc := List.mem_of_getElem? hc
    have j3 : j = 0 ∨ j = 1 ∨ j = 2 := by have := (List.getElem?_eq_some_iff.mp hc).1; omega
    have l2' : m2 + budC d ≤ m + 3 * budC d := by rcases j3 with rfl | rfl | rfl <;> simp at l2 <;> omega
    dsimp only [gName]
    refine ⟨_, rfl, _, rfl, _, rfl, x, ov, p, b, m2, c, o, d, rfl, S.keep e2 |>.dt hd2, S.keep e2 |>.dt ho, S2, dn, fk c mc, o7, fo, d3, by omega, by omega, fun v H3 m3 e3 S3 g1 g2 hY hN => ?_⟩
    dsimp only [gName]
    have e23 := e2.trans e3
    cases hf : fitC d c o with
    | true =>
      obtain rfl := hY hf
      refine ⟨_, rfl, rfl, _, rfl, iteNo (by decide) ⟨e23, ⟨_, _, rfl⟩, m3, S3, by omega, ?_, ?_⟩⟩
      · rw [show ((j + 1 : Nat) : Int) * budC d = (j : Int) * budC d + budC d by rw [Int.natCast_add, Int.add_mul]; simp]
        omega
      · rw [List.take_add_one, hc, List.all_append, al]
        show (true && (fitC d c o && true)) = true
        rw [hf]; rfl
    | false =>
      have fd := hN hf
      obtain ⟨t, y, ee, rfl, _⟩ := id fd
      refine ⟨_, rfl, rfl, _, rfl, iteYes (by simp) ⟨_, rfl, ?_⟩⟩
      have nf : fitL d k o = false := Bool.eq_false_iff.mpr fun z => by
        have := List.all_eq_true.mp z c mc
        rw [hf] at this
        cases this
      refine q _ _ m3 e23 S3 (by omega) (by omega) (fun z => by rw [nf] at z; cases z) fun _ => fd
  · rintro σ2 H2 ⟨e2, ⟨o3, o4, rfl⟩, m2, S2, l1, l2, al⟩
    rw [List.take_of_length_le (by omega)] at al
    have l2' : m2 ≤ m + bud d := by
      have j3 : vs.length = 0 ∨ vs.length = 1 ∨ vs.length = 2 ∨ vs.length = 3 := by omega
      rcases j3 with e | e | e | e <;> rw [e] at l2 <;> simp at l2 <;> omega
    exact q _ _ m2 e2 S2 l1 l2' (fun _ => rfl) fun z => by
      have al' : fitL d k o = true := al
      rw [al'] at z
      cases z
theorem scStandsOf : FnScope ["findings", "_", "stands", "pair"] ["findings"] (defScope sPStandsOf) := ⟨rfl, rfl, rfl, by decide +kernel, rfl, by decide +kernel, by decide +kernel⟩
theorem c_stands_of (T : Tx K mg) : Cal P w K mg base 1 "_stands_of" ["findings"] (spStands K) := by
  refine T.p_stands_of.ok scStandsOf (fun vs H Q E h => ?_) (fun f cdv A outer s H vs Q E hr h => ?_)
  · obtain ⟨l, us, rfl, _⟩ := h
    rfl
  obtain ⟨l, us, rfl, hl, hf, l7, q⟩ := h
  refine ⟨_, pss_one (ps_ret (pe_callTy call_tuple_of (by rfl) T.m_tuple (by decide +kernel) (pa_cons
      (pe_lc2 (own := [("_", 1), ("stands", 2), ("pair", 3)]) (vs1 := [3]) (g := gTup K 2 (gCons (gName 1) (gCons (gName 2) gNil))) (wi1 := iTup K (tVar 2)) (g1 := gName 3) (tt := tYes) (tt1 := tYes) rfl scStandsOf.nd (pi_list (pv 0)) (blkOk_by (N := ["findings", "_", "stands", "pair"]) (sc := defScope sPStandsOf) (by decide +kernel)) (by decide)
        (fun _ _ _ _ _ => pg_tup (by rfl) (pgs_cons (pg_name (i := 1) scStandsOf.nd rfl (Or.inl rfl)) (pgs_cons (pg_name (i := 2) scStandsOf.nd rfl (Or.inl rfl)) pgs_nil))) (fun _ _ _ _ _ => pts_nil) (fun _ _ _ _ _ => pi_tup (pv 2))
        (fun _ _ _ _ _ => pg_name (i := 3) scStandsOf.nd rfl (Or.inl rfl)) (fun _ _ _ _ _ => pts_nil) (fun _ _ _ _ _ => pv 3)) pa_nil))), ?_⟩
  refine ⟨_, rfl, l, rfl, ⟨_, hl⟩, fun D hD => ?_⟩
  refine ⟨fun i m H2 => m = us.length - i ∧ i ≤ us.length ∧ Same H H2 ∧ H2 D = some (.lst []), ⟨us.length, by simp, Nat.zero_le _, same_new hD _, upd_same⟩, ?_⟩
  rintro i m H2 ⟨rfl, hi, e2, h2⟩
  have q2 : SqL K H2 l us := Same.seq e2 hl
  by_cases hlt : i < us.length
  · refine .inr ⟨⟨us, us[i], q2, by simp [hlt]⟩, (fun H3 => Same H H3 ∧ H3 D = some (.lst [])), fun H' p' => ⟨us.length - (i + 1), by omega, rfl, hlt, p'⟩, fun x H' y => ?_⟩
    obtain ⟨e, y⟩ := y
    subst e
    have hx := y us q2
    obtain ⟨t, z, ee, rfl, ht, he⟩ := (hf x (List.mem_of_getElem? hx)).keep (Same.keep e2)
    refine ⟨t, _, rfl, ht, rfl, _, _, rfl, _, _, rfl, rfl, rfl, ?_⟩
    refine ⟨_, rfl, ee, rfl, ⟨_, he⟩, fun j k H3 => H3 = H', ⟨0, rfl⟩, ?_⟩
    rintro j k H3 rfl
    exact .inl ⟨⟨[], he, Nat.zero_le _⟩, e2, h2⟩
  · have e : i = us.length := by omega
    subst e
    refine .inl ⟨⟨us, q2, Nat.le_refl _⟩, D, [], rfl, .inl ⟨SqL.of h2, fun t ht => q t _ (Same.trans e2 (same_new ht _)) (SqT.of upd_same)⟩⟩
theorem scWithin : FnScope ["kind", "others", "search", "found", "findings", "other"] ["kind", "others", "search"] (defScope sPFindingsWithin) := ⟨rfl, rfl, rfl, by decide +kernel, rfl, by decide +kernel, by decide +kernel⟩
theorem c_within {C : Addr} {n lv : Nat} (T : Tx K mg) (CF : Cal P w K mg base lv "_find" ["kind", "other", "search"] (spFind K C n)) : Cal P w K mg base (lv + 1) "_findings_within" ["kind", "others", "search"] (spWithin K C n) := by
  refine T.p_findings_within.ok scWithin (fun vs H Q E h => ?_) (fun f cdv A outer s H vs Q E hr h => ?_)
  · obtain ⟨kv, l, p, b, us, m, k, os, d, rfl, _⟩ := h
    rfl
  obtain ⟨kv, l, p, b, us, m, k, os, d, rfl, hk, hl, hos, S, dn, k0, k3, fk, os7, fos, d3, m0, mb, q⟩ := h
  have bp := bud_pos d
  refine ⟨_, pss_cons (ps_if (pt_cmpR op_eq (pe_callB call_len_seq (by rfl) T.m_len PySem.boot_len (pa_cons (pv 1) pa_nil)) pe_int (nomark _))
      (pss_cons (ps_set (i := 3) scWithin.nd rfl (Or.inl rfl) (pe_cal CF hr (pa_cons (pv 0) (pa_cons (pe_tup pa_nil) (pa_cons (pv 2) pa_nil)))))
        (pss_one (ps_ret (pe_ifExp (pt_cmpR op_isN (pv 3) pe_non (nomark _)) (pe_lst pa_nil) (pe_lst (pa_cons (pv 3) pa_nil)))))) pss_nil)
    (pss_cons (ps_set (i := 4) scWithin.nd rfl (Or.inl rfl) (pe_lst pa_nil))
    (pss_cons (ps_for PassesOwn.never rfl (pi_list (pv 1)) (pg_name (i := 5) scWithin.nd rfl (Or.inl rfl))
      (pss_cons (ps_set (i := 3) scWithin.nd rfl (Or.inl rfl) (pe_cal CF hr (pa_cons (pv 0) (pa_cons (pv 5) (pa_cons (pv 2) pa_nil)))))
      (pss_cons (ps_if (pt_cmpR op_isN (pv 3) pe_non (nomark _)) (pss_one (ps_ret pe_non)) pss_nil)
      (pss_one (ps_expr (pe_bm PySem.F.plainAttrs_list PySem.F.slot_list_append PySem.F.type_list_append mt_append (pv 4) (pa_cons (pv 3) pa_nil)))))))
    (pss_one (ps_ret (pv 4))))), ?_⟩
  refine ⟨_, rfl, l, us, rfl, .inl hl, rfl, _, rfl, ite2 (fun e => ?_) (fun e => ?_)⟩
  · have u0 : us.length = 0 := by
      have e' : ((us.length : Nat) : Int) = 0 := V.int.inj (of_decide_eq_true e)
      omega
    have os0 : os = [] := List.length_eq_zero_iff.mp (by rw [← hos.1, u0])
    subst os0
    refine ⟨_, rfl, (by show 0 ≤ sizeLine; decide), fun t ht => ⟨_, rfl, ?_⟩⟩
    have e1 := same_new ht (.tup [])
    refine ⟨kv, .ref t, p, b, m, k, [], d, rfl, (Same.keep e1).dt hk, Dts.nil.tup (SqT.of upd_same), S.same e1, dn, k3, fk, Nat.zero_le _, (fun _ h => by cases h), d3, m0, by omega, fun v H2 m2 e2 S2 g1 g2 hY hN => ?_⟩
    have nf : fitL d k [] = false := by
      cases k with
      | nil => exact absurd rfl k0
      | cons c r =>
        have : fitC d c [] = false := by
          cases d with
          | zero => cases c <;> rfl
          | succ d => cases c <;> rfl
        show (fitC d c [] && _) = false
        rw [this, Bool.false_and]
    have fd := hN nf
    obtain ⟨t2, y, ee, rfl, _⟩ := id fd
    dsimp only [gName]
    refine ⟨_, rfl, rfl, _, rfl, iteNo (by simp) ⟨_, rfl, (by show 1 ≤ sizeLine; decide), fun D hD => ?_⟩⟩
    have e3 := same_new hD (.lst [.ref t2])
    refine q _ _ m2 ((Ext.same e1).trans (e2.trans (Ext.same e3))) (S2.same e3) g1 (by omega) (fun z => by cases z) fun _ => ⟨D, [.ref t2], rfl, upd_same, fun u hu => ?_, by show 1 ≤ 7; decide⟩
    rw [List.mem_singleton.mp hu]
    exact fd.keep (Same.keep e3)
  · refine ⟨(by show 0 ≤ sizeLine; decide), fun D hD => ?_⟩
    have e1 := same_new hD (.lst [])
    have nDp : D ≠ p := S.fresh hD
    dsimp only [gName]
    refine ⟨_, rfl, l, rfl, ⟨_, Same.seq e1 hl⟩, ?_⟩
    have lk : ∀ {H2 : Hp}, Ext p H H2 → SqL K H2 l us := fun {H2} e2 => by
      have ne : ∀ o, (∀ dx fs, o ≠ .ins C dx fs) → H l = some o → l ≠ p := fun o no ha => S.ne ha no
      rcases hl with (h | ⟨o, h⟩) | h
      · exact .inl (.inl (e2 _ _ (ne _ (fun _ _ q => by cases q) h) h))
      · exact .inl (.inr ⟨o, e2 _ _ (ne _ (fun _ _ q => by cases q) h) h⟩)
      · exact .inr h
    refine for_list (K := K) (a := l) (xs := us) (fun j σ2 H2 => Ext p H H2 ∧ (∃ o3 o5, σ2 = [some kv, some (.ref l), some (.ref p), o3, some (.ref D), o5]) ∧ (∃ m2, SAt C H2 p b m2 ∧ m ≤ m2 ∧ m2 ≤ m + (j : Int) * bud d) ∧ ((os.take j).any fun o => fitL d k o) = false ∧ ∃ fs, H2 D = some (.lst fs) ∧ (∀ u ∈ fs, Found K H2 u) ∧ fs.length = j)
      ⟨Ext.same e1, ⟨_, _, rfl⟩, ⟨m, S.same e1, Int.le_refl _, by simp⟩, rfl, [], upd_same, (fun _ h => by cases h), rfl⟩ (fun j σ2 H2 _ h => lk h.1) ?_ ?_
    · rintro j x σ2 H2 hx ⟨e2, ⟨o3, o5, rfl⟩, ⟨m2, S2, l1, l2⟩, al, fs, h2, hfs, lf⟩
      obtain ⟨o, hoj⟩ : ∃ o, os[j]? = some o := ⟨_, List.getElem?_eq_getElem (by rw [← hos.1]; exact (List.getElem?_eq_some_iff.mp hx).1)⟩
      have dO := hos.2 j x o hx hoj
      obtain ⟨o7, fo⟩ := fos o (List.mem_of_getElem? hoj)
      have j7 : j < 7 := Nat.lt_of_lt_of_le (List.getElem?_eq_some_iff.mp hoj).1 os7
      have l2' : m2 + bud d ≤ m + 7 * bud d := by
        have : j = 0 ∨ j = 1 ∨ j = 2 ∨ j = 3 ∨ j = 4 ∨ j = 5 ∨ j = 6 := by omega
        rcases this with rfl | rfl | rfl | rfl | rfl | rfl | rfl <;> simp at l2 <;> omega
      dsimp only [gName]
      refine ⟨_, rfl, _, rfl, _, rfl, kv, x, p, b, m2, k, o, d, rfl, (S.keep e2).dt hk, (S.keep e2).dt dO, S2, dn, k3, fk, o7, fo, d3, by omega, by omega, fun v H3 m3 e3 S3 g1 g2 hY hN => ?_⟩
      have e23 := e2.trans e3
      dsimp only [gName]
      cases hf : fitL d k o with
      | true =>
        obtain rfl := hY hf
        refine ⟨_, rfl, rfl, _, rfl, iteYes (by decide) (q _ _ m3 e23 S3 (by omega) (by omega) (fun _ => rfl) fun z => ?_)⟩
        exfalso
        have := List.any_eq_false.mp z o (List.mem_of_getElem? hoj)
        exact this hf
      | false =>
        have fd := hN hf
        obtain ⟨t2, y, ee, rfl, _⟩ := id fd
        have h3 := e3 _ _ nDp h2
        refine ⟨_, rfl, rfl, _, rfl, iteNo (by simp) ⟨_, rfl, .inl ⟨rfl, _, SqL.of h3⟩, _, rfl, D, fs, _, rfl, rfl, h3, small1000 (by omega), ?_⟩⟩
        have k4 : Keep K H3 (upd H3 D (.lst (fs ++ [.ref t2]))) := Keep.upd h3 trivial _
        refine ⟨e23.over hD _, ⟨_, _, rfl⟩, ⟨m3, ?_, by omega, ?_⟩, ?_, fs ++ [.ref t2], upd_same, fun u hu => ?_, by rw [List.length_append, lf]; rfl⟩
        · obtain ⟨dx, hp⟩ := S3
          exact ⟨dx, by rw [upd_ne nDp.symm]; exact hp⟩
        · rw [show ((j + 1 : Nat) : Int) * bud d = (j : Int) * bud d + bud d by rw [Int.natCast_add, Int.add_mul]; simp]
          omega
        · rw [List.take_add_one, hoj, List.any_append, al]
          show (false || (fitL d k o || false)) = false
          rw [hf]; rfl
        · rcases List.mem_append.mp hu with z | z
          · exact (hfs u z).keep ((S2.keep e3).trans k4)
          · rw [List.mem_singleton.mp z]
            exact fd.keep k4
    · rintro σ2 H2 ⟨e2, ⟨o3, o5, rfl⟩, ⟨m2, S2, l1, l2⟩, al, fs, h2, hfs, lf⟩
      have ul := hos.1
      rw [List.take_of_length_le (by omega)] at al
      have l2' : m2 ≤ m + 8 * bud d := by
        have : us.length = 0 ∨ us.length = 1 ∨ us.length = 2 ∨ us.length = 3 ∨ us.length = 4 ∨ us.length = 5 ∨ us.length = 6 ∨ us.length = 7 := by omega
        rcases this with e | e | e | e | e | e | e | e <;> rw [e] at l2 <;> simp at l2 <;> omega
      exact ⟨_, rfl, q _ _ m2 e2 S2 l1 l2' (fun z => by rw [al] at z; cases z) fun _ => ⟨D, fs, rfl, h2, hfs, by omega⟩⟩
end
end Sc
namespace Sc
open PySem PyProof.Rows L2
section
variable {P : Program} {w : World} {K : PySem.W.Frag} {mg : Str → Option Value} {base : Heap}
theorem scHolder : FnScope ["choice", "other", "search", "word", "kind", "findings", "values", "rest", "value", "_"] ["choice", "other", "search"] (defScope sPFindInHolder) := ⟨rfl, rfl, rfl, by decide +kernel, rfl, by decide +kernel, by decide +kernel⟩
theorem c_holder {C : Addr} {n lv : Nat} (T : Tx K mg) (R : SrC P w K mg base C) (lv1 : 1 ≤ lv) (CW : Cal P w K mg base lv "_findings_within" ["kind", "others", "search"] (spWithin K C n)) : Cal P w K mg base (lv + 1) "_find_in_holder" ["choice", "other", "search"] (spHold K C n) := by
  have CS : Cal P w K mg base 1 "_stands_of" ["findings"] (spStands K) := c_stands_of T
  obtain ⟨fF, fdF, GF, MF, BF⟩ := R.fr
  refine T.p_find_in_holder.ok scHolder (fun vs H Q E h => ?_) (fun f cdv A outer s H vs Q E hr h => ?_)
  · obtain ⟨cv, ov, p, b, m, c, k, o, d, rfl, _⟩ := h
    rfl
  obtain ⟨cv, ov, p, b, m, c, k, o, d, rfl, hc, ho, S, dn, hck, fc, o7, fo, d3, m0, mb, q⟩ := h
  have bp := bud_pos d
  have r1 : Room 1 _ := hr.mono lv1
  have hu := hr.units
  have hu65 : (A.deeper (envOfC "_find_in_holder" (defScope sPFindInHolder) s.heap.objs.size f cdv)).units + 65 < cLine := by have := hr.un; omega
  refine ⟨_, pss_cons (ps_asg (pv 0) (pg_tup (by rfl) (pgs_cons (pg_name (i := 3) scHolder.nd rfl (Or.inr rfl)) (pgs_cons (pg_name (i := 4) scHolder.nd rfl (Or.inl rfl)) pgs_nil))))
    (pss_cons (ps_if (pt_cmpR (op_inTD hu65) (pe_tup (pa_cons pe_str (pa_cons (pv 3) pa_nil))) (pv 1) (by rfl)) (pss_one (ps_ret pe_non)) pss_nil)
    (pss_cons (ps_set (i := 5) scHolder.nd rfl (Or.inl rfl) (pe_cal CW hr (pa_cons (pv 4) (pa_cons
        (pe_lc (own := [("rest", 7)]) (g := gName 7) rfl scHolder.nd (pi_tup (pv 1)) (blkOk_by (N := ["choice", "other", "search", "word", "kind", "findings", "values", "rest", "value", "_"]) (sc := defScope sPFindInHolder) (by decide +kernel))
          (fun _ _ _ _ _ => pg_name (i := 7) scHolder.nd rfl (Or.inl rfl)) (fun _ _ _ _ _ => pts_one (pt_cmpR op_eq (pe_ix (ix_tupK K) (pv 7) pe_int (fun _ _ => rfl)) (pv 3) (nomark _))) (fun _ _ _ _ _ => pe_ix (ix_tupK K) (pv 7) pe_int (fun _ _ => rfl))) (pa_cons (pv 2) pa_nil)))))
    (pss_cons (ps_if (pt_cmpR op_isN (pv 5) pe_non (nomark _)) (pss_one (ps_ret pe_non)) pss_nil)
    (pss_cons (ps_setLc (i := 6) (own := [("value", 8), ("_", 9)]) (g := gTup K 2 (gCons (gName 8) (gCons (gName 9) gNil))) (tt := tYes) rfl scHolder.nd rfl rfl (sw_true rfl rfl rfl (by decide +kernel)) (pi_list (pv 5))
        (blkOk_by (N := ["choice", "other", "search", "word", "kind", "findings", "values", "rest", "value", "_"]) (sc := defScope sPFindInHolder) (by decide +kernel))
        (fun _ _ _ _ _ => pg_tup (by rfl) (pgs_cons (pg_name (i := 8) scHolder.nd rfl (Or.inl rfl)) (pgs_cons (pg_name (i := 9) scHolder.nd rfl (Or.inl rfl)) pgs_nil))) (fun _ _ _ _ _ => pts_nil) (fun _ _ _ _ _ => pv 8))
    (pss_cons (ps_if (pt_cmpR op_eq (pv 3) pe_str (nomark _)) (pss_one (ps_ret (pe_tup (pa_cons (pv 6) (pa_cons (pe_cal CS r1 (pa_cons (pv 5) pa_nil)) pa_nil))))) pss_nil)
    (pss_one (ps_ret (pe_tup (pa_cons (pe_dc (own := [("value", 8)]) (g := gName 8) (tt := tYes) rfl scHolder.nd (pi_list (pv 6)) (blkOk_by (N := ["choice", "other", "search", "word", "kind", "findings", "values", "rest", "value", "_"]) (sc := defScope sPFindInHolder) (by decide +kernel))
        (fun _ _ _ _ _ => pg_name (i := 8) scHolder.nd rfl (Or.inl rfl)) (fun _ _ _ _ _ => pts_nil) (fun _ _ _ _ _ => pe_fs (.cons pe_str (.cons (pe_fmt (pe_meth0 (pv 2) R.t.cl MF GF r1 BF .nil pass0)) .nil))) (fun _ _ _ _ _ => pv 8)) (pa_cons (pe_cal CS r1 (pa_cons (pv 5) pa_nil)) pa_nil)))))))))), ?_⟩
  have kf : k ≠ [] ∧ k.length ≤ 3 ∧ ∀ c ∈ k, flC d c := by rcases hck with rfl | rfl <;> exact fc
  have hw : wdC c = "row" ∨ wdC c = "book" := by rcases hck with rfl | rfl <;> simp [wdC]
  have er : restC c = [.tuple (pyL k)] := by rcases hck with rfl | rfl <;> rfl
  have ef : fitC (d + 1) c o = (o.any (isAny (wdC c)) || (withinO (wdC c) o).any fun k' => fitL d k k') := by
    rcases hck with rfl | rfl
    · exact fit_row d k o
    · exact fit_book d k o
  have hb8 : budC (d + 1) = 8 * bud d + 8 := rfl
  obtain ⟨a, us, rfl, ht, hd⟩ := hc.lead
  rw [er] at hd
  obtain ⟨u, rfl, hku⟩ := hd.one
  rw [ef] at q
  generalize wdC c = wd at ht hw q ef ⊢
  refine ⟨_, rfl, a, _, rfl, ht, rfl, _, _, rfl, _, _, rfl, rfl, ?_⟩
  dsimp only [gName]
  refine ⟨_, rfl, (by show 2 ≤ sizeLine; decide), fun t1 ht1 => ?_⟩
  have e1 := same_new ht1 (.tup [.str "some", .str wd])
  have shw : SeqAt.shaped (.tuple [.str "some", .str wd]) = true := by rcases hw with rfl | rfl <;> decide +kernel
  refine ⟨_, rfl, .tuple [.str "some", .str wd], pyL o, .tup (SqT.of upd_same) (.cons (.str _) (.cons (.str _) .nil)), Dt.dp ((Same.keep e1).dt ho), shw, flD_shaped d3 o7 fo, _, rfl, ?_⟩
  rw [in_any hw fo]
  have S1 := S.same e1
  have ho1 := (Same.keep (K := K) e1).dt ho
  have hku1 := (Same.keep (K := K) e1).dt hku
  generalize (upd H t1 (.tup [.str "some", .str wd])) = H1 at e1 S1 ho1 hku1 ⊢
  refine ite2 (fun hA => ?_) (fun hA => ?_)
  · refine q _ _ m (Ext.same e1) S1 (Int.le_refl _) (by omega) (fun _ => rfl) fun z => ?_
    rw [hA] at z; cases z
  rw [Bool.eq_false_iff.mpr hA, Bool.false_or] at q
  obtain ⟨oa, ous, rfl, hot, hod⟩ := ho1.open
  dsimp only [gName]
  refine ⟨_, rfl, _, rfl, oa, rfl, ⟨_, hot⟩, fun D hD => ?_⟩
  refine lc_tup (K := K) (a := oa) (xs := ous) (fun j H2 => Same H1 H2 ∧ ∃ us, H2 D = some (.lst us) ∧ IsKs K H2 us (withinO wd (o.take j))) ⟨same_new hD _, [], upd_same, IsKs.nil⟩ (fun j H2 _ h => (Same.keep h.1) _ _ hot) ?_ ?_
  · rintro j x H2 hx ⟨e2, us, h2, hks⟩
    obtain ⟨d', hd1, hd2⟩ := hod.at hx
    rw [pyL_map, List.getElem?_map] at hd1
    obtain ⟨r, hr', rfl⟩ := Option.map_eq_some_iff.mp hd1
    obtain ⟨ra, rus, rfl, hrt, hrd⟩ := ((Same.keep (K := K) e2).dt hd2).lead
    have et : withinO wd (o.take (j + 1)) = withinO wd (o.take j) ++ withinO wd [r] := by rw [List.take_add_one, hr']; exact withinO_snoc _ _ _
    have e1w := withinO_one wd r hw
    refine ⟨rfl, _, rfl, ra, _, _, _, rfl, rfl, hrt, at_of (j := 0) rfl rfl, _, rfl, rfl, _, rfl, ite2 (fun e => ?_) (fun e => ?_)⟩
    · have e' : wdC r = wd := V.str.inj (of_decide_eq_true e)
      rw [if_pos e'] at e1w
      obtain ⟨k', hk'⟩ := wd_rb (c := r) (by rw [e']; exact hw)
      have er' : restC r = [.tuple (pyL k')] := by rcases hk' with rfl | rfl <;> rfl
      have ew : withinO wd [r] = [k'] := by rw [e1w]; rcases hk' with rfl | rfl <;> rfl
      rw [er'] at hrd
      obtain ⟨u', rfl, hu'⟩ := hrd.one
      refine ⟨_, rfl, ra, _, _, _, rfl, rfl, hrt, at_of (j := 1) rfl rfl, us, h2, ?_, fun a o h => ?_, us ++ [u'], upd_same, ?_⟩
      · rw [hks.1]
        exact small1000 (by have := withinO_len wd (o.take j); have := List.length_take_le' j o; omega)
      · rw [upd_ne (ne_of_none h hD)]
        exact e2 a o h
      · have k4 : Keep K H2 (upd H2 D (.lst (us ++ [u']))) := Keep.upd h2 trivial _
        rw [et, ew]
        exact (hks.keep k4).snoc (k4.dt hu')
    · have e' : ¬ wdC r = wd := fun z => e (decide_eq_true (congrArg V.str z))
      rw [if_neg e'] at e1w
      refine ⟨e2, us, h2, ?_⟩
      rw [et, e1w, List.append_nil]
      exact hks
  rintro H2 ⟨e2, us, h2, hks⟩
  rw [List.take_of_length_le (by rw [hod.1, pyL_map, List.length_map]; exact Nat.le_refl _)] at hks
  have S2 := S1.same e2
  refine ⟨_, rfl, u, D, p, b, us, m, k, withinO wd o, d, rfl, (Same.keep e2).dt hku1, SqL.of h2, hks, S2, dn, kf.1, kf.2.1, kf.2.2, Nat.le_trans (withinO_len wd o) o7, fun k' mk => flD_within fo mk, by omega, m0, by omega, fun v H3 m3 e3 S3 g1 g2 hY hN => ?_⟩
  have e03 : Ext p H H3 := (Ext.same (Same.trans e1 e2)).trans e3
  dsimp only [gName]
  cases hf : (withinO wd o).any fun k' => fitL d k k' with
  | true =>
    obtain rfl := hY hf
    exact ⟨_, rfl, rfl, _, rfl, iteYes (by decide) (q _ _ m3 e03 S3 g1 (by omega) (fun _ => rfl) fun z => by rw [hf] at z; cases z)⟩
  | false =>
    obtain ⟨F, fs, rfl, hF, hfs, l7⟩ := hN hf
    have q' : ∀ (v : V) (H' : Hp) (m' : Int), Ext p H H' → SAt C H' p b m' → m ≤ m' → m' ≤ m + budC (d + 1) → Found K H' v → Q v H' := fun v H' m' a1 a2 a3 a4 a5 => q v H' m' a1 a2 a3 a4 (fun z => by rw [hf] at z; cases z) fun _ => a5
    clear q hY hN
    refine ⟨_, rfl, rfl, _, rfl, iteNo (by simp) ?_⟩
    dsimp only [gName]
    refine ⟨_, rfl, F, rfl, ⟨_, SqL.of hF⟩, fun D2 hD2 => ?_⟩
    refine lc_list (K := K) (a := F) (xs := fs) (fun j H4 => Same H3 H4 ∧ ∃ ws, H4 D2 = some (.lst ws) ∧ ws.length = j) ⟨same_new hD2 _, [], upd_same, rfl⟩ (fun j H4 _ h => SqL.of (h.1 _ _ hF)) ?_ ?_
    · rintro j x H4 hx ⟨e4, ws, h4, lw⟩
      obtain ⟨t, y, ee, rfl, htt, _⟩ := (hfs x (List.mem_of_getElem? hx)).keep (Same.keep e4)
      have jl := (List.getElem?_eq_some_iff.mp hx).1
      refine ⟨t, _, rfl, htt, rfl, _, _, rfl, _, _, rfl, rfl, rfl, _, rfl, ws, h4, small1000 (by omega), fun a o h => ?_, ws ++ [y], upd_same, by rw [List.length_append, lw]; rfl⟩
      rw [upd_ne (ne_of_none h hD2)]
      exact e4 a o h
    rintro H4 ⟨e4, ws, h4, lw⟩
    have S4 := S3.same e4
    have hF4 := e4 _ _ hF
    have e04 := e03.trans (Ext.same e4)
    have hfs4 : ∀ u ∈ fs, Found K H4 u := fun u hu => (hfs u hu).keep (Same.keep e4)
    dsimp only [gName]
    refine ⟨_, rfl, rfl, _, rfl, ite2 (fun e => ?_) (fun e => ?_)⟩
    · refine ⟨_, rfl, _, rfl, F, fs, rfl, SqL.of hF4, hfs4, l7, fun ee H5 e5 he => ⟨(by show 2 ≤ sizeLine; decide), fun t ht => ?_⟩⟩
      have e6 := same_new ht (.tup [.ref D2, .ref ee])
      exact q' _ _ m3 (e04.trans (Ext.same (Same.trans e5 e6))) ((S4.same e5).same e6) g1 (by omega) ⟨t, _, ee, rfl, SqT.of upd_same, (Same.keep e6) _ _ he⟩
    · refine ⟨_, rfl, D2, rfl, ⟨_, SqL.of h4⟩, fun D3 hD3 => ?_⟩
      have nD2 : D2 ≠ p := S4.ne h4 fun _ _ z => by cases z
      have nD3 : D3 ≠ p := S4.fresh hD3
      refine dc_list (K := K) (a := D2) (xs := ws) (fun j H6 => Ext p H4 H6 ∧ (∃ m6, SAt C H6 p b m6 ∧ m3 ≤ m6 ∧ m6 ≤ m3 + (j : Int)) ∧ ∃ kvs, H6 D3 = some (.dK kvs) ∧ kvs.length ≤ j)
        ⟨Ext.new _ hD3, ⟨m3, S4.same (same_new hD3 _), Int.le_refl _, by simp⟩, [], upd_same, Nat.le_refl _⟩ (fun j H6 _ h => SqL.of (h.1 _ _ nD2 h4)) ?_ ?_
      · rintro j x H6 hx ⟨e6, ⟨m6, S6, a1, a2⟩, kvs, h6, lk⟩
        have jl := (List.getElem?_eq_some_iff.mp hx).1
        obtain ⟨dx, hp6⟩ := id S6
        have lg6 : (m6 + 1).natAbs.log2 < 1920 := Nat.lt_trans (PySem.Flt.log2_lt_of (k := 40) (by decide) (Nat.lt_of_le_of_lt (show (m6 + 1).natAbs ≤ 2000000000 by omega) (by decide))) (by decide)
        refine ⟨rfl, _, rfl, sizeOk (by decide), _, rfl, p, dx, flds b m6, rfl, hp6, flds_fresh b m6, p, b, m6, rfl, S6, fun H7 S7 e7 => .inr ⟨_, rfl, ?_, _, rfl, sizeOk ?_, _, rfl, kvs, Sum.inr _, rfl, e7 _ _ nD3 h6, small1000 (by omega), ?_⟩⟩
        · exact lg6
        · rw [app_len, app_len]
          have := PyProof.Rows.int_text_len_1921 lg6
          have l0 : Str.empty.length = 0 := rfl
          have l1 : ("k" : Str).length = 1 := rfl
          omega
        · refine ⟨(e6.trans e7).over hD3 _, ⟨m6 + 1, ?_, by omega, by omega⟩, _, upd_same, ?_⟩
          · obtain ⟨dy, hp7⟩ := S7
            exact ⟨dy, by rw [upd_ne nD3.symm]; exact hp7⟩
          · have := put_len kvs (Sum.inr (Str.empty ++ ("k" : Str) ++ toString (m6 + 1))) x
            omega
      · rintro H6 ⟨e6, ⟨m6, S6, a1, a2⟩, kvs, h6, lk⟩
        have nF : F ≠ p := S4.ne hF4 fun _ _ z => by cases z
        refine ⟨_, rfl, F, fs, rfl, SqL.of (e6 _ _ nF hF4), fun u hu => (hfs4 u hu).keep (S4.keep e6), l7, fun ee H7 e7 he => ⟨(by show 2 ≤ sizeLine; decide), fun t ht => ?_⟩⟩
        have e8 := same_new ht (.tup [.ref D3, .ref ee])
        have lw' : ws.length ≤ 7 := by omega
        exact q' _ _ m6 (e04.trans (e6.trans (Ext.same (Same.trans e7 e8)))) ((S6.same e7).same e8) (by omega) (by omega) ⟨t, _, ee, rfl, SqT.of upd_same, (Same.keep e8) _ _ he⟩
end
end Sc
namespace Sc
open PySem PyProof.Rows L2
section
variable {P : Program} {w : World} {K : PySem.W.Frag} {mg : Str → Option Value} {base : Heap}
theorem scFindC : FnScope ["choice", "other", "search", "word"] ["choice", "other", "search"] (defScope sPFindInChoice) := ⟨rfl, rfl, rfl, by decide +kernel, rfl, by decide +kernel, by decide +kernel⟩
theorem c_find_in_choice {C : Addr} {n lv : Nat} (T : Tx K mg) (R : SrC P w K mg base C) (lv1 : 1 ≤ lv) (CH : Cal P w K mg base lv "_find_in_holder" ["choice", "other", "search"] (spHold K C n)) : Cal P w K mg base (lv + 1) "_find_in_choice" ["choice", "other", "search"] (spFindC K C (n + 1)) := by
  have CL : Cal P w K mg base 0 "_find_in_letter" ["choice", "other", "search"] spNo := T.p_find_in_letter.never fun _ _ _ _ h => h
  have CS : Cal P w K mg base 0 "_find_in_shape" ["fields", "other", "search"] spNo := T.p_find_in_shape.never fun _ _ _ _ h => h
  obtain ⟨fF, fdF, GF, MF, BF⟩ := R.fr
  refine T.p_find_in_choice.ok scFindC (fun vs H Q E h => ?_) (fun f cdv A outer s H vs Q E hr h => ?_)
  · obtain ⟨cv, ov, p, b, m, c, o, d, rfl, _⟩ := h
    rfl
  obtain ⟨cv, ov, p, b, m, c, o, d, rfl, hc, ho, S, dn, fc, o7, fo, d3, m0, mb, q⟩ := h
  have r0 : Room 0 _ := hr.mono (by omega)
  have r1 : Room 1 _ := hr.mono lv1
  have hu65 : (A.deeper (envOfC "_find_in_choice" (defScope sPFindInChoice) s.heap.objs.size f cdv)).units + 65 < cLine := by have := hr.un; omega
  refine ⟨_, pss_cons (ps_if (pt_cmpR (op_inTD hu65) (pv 0) (pv 1) (by rfl)) (pss_one (ps_ret pe_non)) pss_nil)
    (pss_cons (ps_set (i := 3) scFindC.nd rfl (Or.inl rfl) (pe_ix ix_tup (pv 0) pe_int (fun _ _ => rfl)))
    (pss_cons (ps_if (pt_cmpR op_in_seq (pv 3) (pe_tup (pa_cons pe_str (pa_cons pe_str pa_nil))) (by rfl)) (pss_one (ps_ret (pe_cal CL r0 (pa_cons (pv 0) (pa_cons (pv 1) (pa_cons (pv 2) pa_nil)))))) pss_nil)
    (pss_cons (ps_if (pt_cmpR op_in_seq (pv 3) (pe_tup (pa_cons pe_str (pa_cons pe_str pa_nil))) (by rfl)) (pss_one (ps_ret (pe_cal CH hr (pa_cons (pv 0) (pa_cons (pv 1) (pa_cons (pv 2) pa_nil)))))) pss_nil)
    (pss_cons (ps_if (pt_cmpR op_eq (pv 3) pe_str (nomark _)) (pss_one (ps_ret (pe_cal CS r0 (pa_cons (pe_ix ix_tup (pv 0) pe_int (fun _ _ => rfl)) (pa_cons (pv 1) (pa_cons (pv 2) pa_nil)))))) pss_nil)
    (pss_cons (ps_if (pt_cmpR op_eq (pv 3) pe_str (nomark _)) (pss_one (ps_ret (pe_tup (pa_cons (pe_meth0 (pv 2) R.t.cl MF GF r1 BF .nil pass0) (pa_cons (pe_tup pa_nil) pa_nil))))) pss_nil)
    (pss_one (ps_ret (pe_tup (pa_cons (pe_fs (.cons pe_str (.cons (pe_fmt (pe_meth0 (pv 2) R.t.cl MF GF r1 BF .nil pass0)) .nil))) (pa_cons (pe_tup pa_nil) pa_nil)))))))))), ?_⟩
  have bp := budC_pos d
  have shc : SeqAt.shaped (pyC c) = true := ((flC_okN d c fc).ok (by omega)).1
  refine ⟨_, rfl, _, rfl, pyC c, pyL o, Dt.dp hc, Dt.dp ho, shc, flD_shaped d3 o7 fo, _, rfl, ite2 (fun e => ?_) (fun e => ?_)⟩
  · have fs := fit_self d c o fc (in_self fo fc e)
    exact q _ _ m (Ext.refl _ _) S (Int.le_refl _) (by omega) (fun _ => rfl) fun z => by rw [fs] at z; cases z
  have hc0 := hc
  obtain ⟨a, us, rfl, ht, hd⟩ := hc.lead
  generalize hw : wdC c = wd at ht ⊢
  refine ⟨_, rfl, a, _, _, _, rfl, rfl, ht, at_of (j := 0) rfl rfl, ?_⟩
  dsimp only [gName]
  refine ⟨_, rfl, (by show 2 ≤ sizeLine; decide), fun t1 ht1 => ⟨t1, [.str "letter", .str "cut"], rfl, .inr (SqT.of upd_same), rfl, rfl, _, rfl, ?_⟩⟩
  have e1 := same_new ht1 (.tup [.str "letter", .str "cut"])
  have S1 := S.same e1
  have ho1 := (Same.keep (K := K) e1).dt ho
  have hc1 := (Same.keep (K := K) e1).dt hc0
  generalize (upd H t1 (.tup [.str "letter", .str "cut"])) = H1 at e1 S1 ho1 hc1 ⊢
  have nl : wd ≠ "letter" ∧ wd ≠ "cut" ∧ wd ≠ "shape" := by
    rw [← hw]
    cases d with
    | zero => cases c with
      | num => decide +kernel
      | txt => decide +kernel
      | _ => exact fc.elim
    | succ d => cases c with
      | num => decide +kernel
      | txt => decide +kernel
      | row _ => refine ⟨?_, ?_, ?_⟩ <;> (show ("row" : Str) ≠ _; decide +kernel)
      | book _ => refine ⟨?_, ?_, ?_⟩ <;> (show ("book" : Str) ≠ _; decide +kernel)
      | _ => exact fc.elim
  have i0 : inV (V.str wd) [V.str "letter", V.str "cut"] = false := by
    rw [show ([V.str "letter", V.str "cut"] : List V) = (["letter", "cut"] : List Str).map V.str from rfl, in_strs]
    refine decide_eq_false fun m => ?_
    rcases List.mem_cons.mp m with z | z
    · exact nl.1 z
    · exact nl.2.1 (List.mem_singleton.mp z)
  rw [i0]
  refine iteNo (by decide) ?_
  refine ⟨_, rfl, (by show 2 ≤ sizeLine; decide), fun t2 ht2 => ⟨t2, [.str "row", .str "book"], rfl, .inr (SqT.of upd_same), rfl, rfl, _, rfl, ?_⟩⟩
  have e2 := same_new ht2 (.tup [.str "row", .str "book"])
  have S2 := S1.same e2
  have ho2 := (Same.keep (K := K) e2).dt ho1
  have hc2 := (Same.keep (K := K) e2).dt hc1
  have e12 := Same.trans e1 e2
  generalize (upd H1 t2 (.tup [.str "row", .str "book"])) = H2 at e2 S2 ho2 hc2 e12 ⊢
  rw [show ([V.str "row", V.str "book"] : List V) = (["row", "book"] : List Str).map V.str from rfl, in_strs]
  refine ite2 (fun g => ?_) (fun g => ?_)
  · have rb : wd = "row" ∨ wd = "book" := by
      rcases List.mem_cons.mp (of_decide_eq_true g) with z | z
      · exact .inl z
      · exact .inr (List.mem_singleton.mp z)
    obtain ⟨k, hk⟩ := wd_rb (c := c) (by rw [hw]; exact rb)
    obtain ⟨d, rfl⟩ : ∃ d', d = d' + 1 := by
      cases d with
      | zero => rcases hk with rfl | rfl <;> exact fc.elim
      | succ d => exact ⟨d, rfl⟩
    exact ⟨_, rfl, _, rfl, _, rfl, .ref a, ov, p, b, m, c, k, o, d, rfl, hc2, ho2, S2, by omega, hk, fc, o7, fo, d3, m0, mb, fun v H3 m3 e3 S3 g1 g2 hY hN => q v H3 m3 ((Ext.same e12).trans e3) S3 g1 g2 hY hN⟩
  · have nrb : ¬ (wd = "row" ∨ wd = "book") := fun z => g (decide_eq_true (by rcases z with rfl | rfl <;> simp))
    obtain ⟨dx, hp2⟩ := id S2
    have nfit : c ∉ o := fun m' => e (by
      rw [pyL_map, List.any_map, List.any_eq_true]
      exact ⟨c, m', SeqAt.eqv_refl _ (SeqAt.canLay_of_shaped shc)⟩)
    have base' : ∀ (v : V) (t : Addr) (H3 : Hp) (ee : Addr) (y : V), v = .ref t → SqT K H3 t [y, .ref ee] → SqT K H3 ee [] → Found K H3 v := fun v t H3 ee y hv a b => ⟨t, y, ee, hv, a, b⟩
    have ct : c = .num ∨ c = .txt := by
      cases d with
      | zero => cases c with
        | num => exact .inl rfl
        | txt => exact .inr rfl
        | _ => exact fc.elim
      | succ d => cases c with
        | num => exact .inl rfl
        | txt => exact .inr rfl
        | row _ => exact absurd (.inl hw.symm) nrb
        | book _ => exact absurd (.inr hw.symm) nrb
        | _ => exact fc.elim
    have nf : fitC d c o = false := by
      refine Bool.eq_false_iff.mpr fun z => nfit ?_
      rcases ct with rfl | rfl
      · have z' : (o.any fun p => match p with | .num => true | _ => false) = true := by cases d <;> exact z
        obtain ⟨p', hp', h'⟩ := List.any_eq_true.mp z'
        cases p' with
        | num => exact hp'
        | _ => cases h'
      · have z' : (o.any fun p => match p with | .txt => true | _ => false) = true := by cases d <;> exact z
        obtain ⟨p', hp', h'⟩ := List.any_eq_true.mp z'
        cases p' with
        | txt => exact hp'
        | _ => cases h'
    have q' : ∀ (v : V) (H' : Hp) (m' : Int), Ext p H H' → SAt C H' p b m' → m ≤ m' → m' ≤ m + budC d → Found K H' v → Q v H' := fun v H' m' a1 a2 a3 a4 a5 => q v H' m' a1 a2 a3 a4 (fun z => by rw [nf] at z; cases z) fun _ => a5
    refine ⟨_, rfl, rfl, _, rfl, iteNo (fun z => nl.2.2 (V.str.inj (of_decide_eq_true z))) ⟨_, rfl, rfl, _, rfl, ite2 (fun _ => ?_) (fun _ => ?_)⟩⟩
    · refine ⟨_, rfl, p, dx, flds b m, rfl, hp2, flds_fresh b m, p, b, m, rfl, S2, fun H3 S3 e3 => ⟨(by show 0 ≤ sizeLine; decide), fun t3 ht3 => ⟨(by show 2 ≤ sizeLine; decide), fun t4 ht4 => ?_⟩⟩⟩
      have e4 := same_new ht3 (.tup [])
      have e5 := same_new ht4 (.tup [.int (m + 1), .ref t3])
      exact q' _ _ (m + 1) ((Ext.same e12).trans (e3.trans (Ext.same (Same.trans e4 e5)))) ((S3.same e4).same e5) (by omega) (by omega) ⟨t4, _, t3, rfl, SqT.of upd_same, (Same.keep e5) _ _ (SqT.of upd_same)⟩
    · have lg : (m + 1).natAbs.log2 < 1920 := Nat.lt_trans (PySem.Flt.log2_lt_of (k := 40) (by decide) (Nat.lt_of_le_of_lt (show (m + 1).natAbs ≤ 2000000000 by omega) (by decide))) (by decide)
      refine ⟨_, rfl, sizeOk (by decide), _, rfl, p, dx, flds b m, rfl, hp2, flds_fresh b m, p, b, m, rfl, S2, fun H3 S3 e3 => .inr ⟨_, rfl, lg, _, rfl, sizeOk ?_, (by show 0 ≤ sizeLine; decide), fun t3 ht3 => ⟨(by show 2 ≤ sizeLine; decide), fun t4 ht4 => ?_⟩⟩⟩
      · rw [app_len, app_len]
        have := PyProof.Rows.int_text_len_1921 lg
        have l0 : Str.empty.length = 0 := rfl
        have l1 : ("t" : Str).length = 1 := rfl
        omega
      · have e4 := same_new ht3 (.tup [])
        refine q' _ _ (m + 1) ((Ext.same e12).trans (e3.trans ((Ext.same e4).trans (Ext.new _ ht4)))) ((S3.same e4).same (same_new ht4 _)) (by omega) (by omega) ⟨t4, _, t3, rfl, SqT.of upd_same, (Same.keep (same_new ht4 _)) _ _ (SqT.of upd_same)⟩
theorem c_finds {C : Addr} (T : Tx K mg) (R : SrC P w K mg base C) : ∀ n : Nat, Cal P w K mg base (4 * n + 2) "_find" ["kind", "other", "search"] (spFind K C n)
  | 0 => by
    have c := (T.p_find_in_choice.never (P := P) (w := w) (base := base) (sp := spFindC K C 0) fun vs H Q E ⟨_, _, _, _, _, _, _, _, _, _, _, _, h, _⟩ => absurd h (Nat.not_lt_zero _)).mono (show 0 ≤ 1 by decide)
    exact c_find T c
  | n + 1 => by
    have c1 := c_within T (c_finds T R n)
    have c2 := c_holder T R (by omega) c1
    have c3 := c_find_in_choice T R (by omega) c2
    exact (c_find T c3).mono (by omega)
theorem scStanding : FnScope ["stands", "bounds", "standing", "letter", "value"] ["stands", "bounds"] (defScope sPStanding) := ⟨rfl, rfl, rfl, by decide +kernel, rfl, by decide +kernel, by decide +kernel⟩
theorem c_standing (T : Tx K mg) : Cal P w K mg base 1 "_standing" ["stands", "bounds"] (spStanding K) := by
  refine T.p_standing.ok scStanding (fun vs H Q E h => ?_) (fun f cdv A outer s H vs Q E hr h => ?_)
  · obtain ⟨e, b, rfl, _⟩ := h
    rfl
  obtain ⟨e, b, rfl, he, hb, q⟩ := h
  refine ⟨_, pss_cons (ps_lock (ps_setDc (i := 2) (own := [("letter", 3)]) (g := gName 3) (tt := tYes) rfl scStanding.nd rfl rfl (sw_trueD rfl rfl rfl (by decide +kernel)) (pi_keys (pv 1)) (blkOk_by (N := ["stands", "bounds", "standing", "letter", "value"]) (sc := defScope sPStanding) (by decide +kernel))
        (fun _ _ _ _ _ => pg_name (i := 3) scStanding.nd rfl (Or.inl rfl)) (fun _ _ _ _ _ => pts_nil) (fun _ _ _ _ _ => pv 3) (fun _ _ _ _ _ => pe_lst pa_nil)))
    (pss_cons (ps_for PassesOwn.never rfl (pi_tup (pv 0)) (pg_tup (by rfl) (pgs_cons (pg_name (i := 3) scStanding.nd rfl (Or.inl rfl)) (pgs_cons (pg_name (i := 4) scStanding.nd rfl (Or.inl rfl)) pgs_nil)))
      (pss_one (ps_expr (pe_bm PySem.F.plainAttrs_list PySem.F.slot_list_append PySem.F.type_list_append mt_append (pe_dget (hu_of hr) (pv 2) (pv 3) (fun _ _ => rfl)) (pa_cons (pv 4) pa_nil)))))
    (pss_one (ps_ret (pv 2)))), ?_⟩
  refine ⟨b, .dK [], hb, trivial, fun od => ?_⟩
  refine ⟨_, rfl, b, od, rfl, .inl ⟨[], upd_same, fun D hD => ?_⟩⟩
  have nbD : b ≠ D := fun z => by rw [← z, upd_same] at hD; cases hD
  have hDb : H D = none := by rw [upd_ne nbD.symm] at hD; exact hD
  refine ⟨fun i m H2 => i = 0 ∧ H2 = upd (upd H b (.frz od (.dK []))) D (.dK []), ⟨0, rfl, rfl⟩, ?_⟩
  rintro i m H2 ⟨rfl, rfl⟩
  refine .inl ⟨⟨by rw [upd_ne nbD, upd_same], Nat.le_refl _⟩, ?_⟩
  refine ⟨by rw [upd_ne nbD, upd_same], ?_⟩
  have e1 : Same H (upd (upd (upd H b (.frz od (.dK []))) D (.dK [])) b (.dK [])) := fun c o h => by
    by_cases z : c = b
    · rw [z, hb] at h
      rw [z, upd_same]
      exact h
    · rw [upd_ne z, upd_ne (ne_of_none h hDb), upd_ne z]
      exact h
  generalize (upd (upd (upd H b (.frz od (.dK []))) D (.dK [])) b (.dK [])) = H3 at e1 ⊢
  dsimp only [gName]
  refine ⟨_, rfl, e, rfl, ⟨_, (Same.keep e1) _ _ he⟩, ?_⟩
  refine for_tup (K := K) (a := e) (xs := []) (fun j σ2 H2 => H2 = H3 ∧ ∃ o3 o4, σ2 = [some (.ref e), some (.ref b), some (.ref D), o3, o4]) ⟨rfl, _, _, rfl⟩ (fun j σ2 H2 _ h => by rw [h.1]; exact (Same.keep e1) _ _ he) ?_ ?_
  · rintro j x σ2 H2 hx _
    simp at hx
  · rintro σ2 H2 ⟨rfl, o3, o4, rfl⟩
    exact ⟨_, rfl, q _ _ e1⟩
theorem scGround : FnScope ["one", "other", "bounds", "found", "value", "stands"] ["one", "other", "bounds"] (defScope sGround) := ⟨rfl, rfl, rfl, by decide +kernel, rfl, by decide +kernel, by decide +kernel⟩
theorem c_ground {C : Addr} (T : Tx K mg) (R : SrC P w K mg base C) : Cal P w K mg base 19 "ground" ["one", "other", "bounds"] (spGround K) := by
  have CF : Cal P w K mg base 18 "_find" ["kind", "other", "search"] (spFind K C 4) := c_finds T R 4
  have CT : Cal P w K mg base 1 "_standing" ["stands", "bounds"] (spStanding K) := c_standing T
  obtain ⟨fI, fdI, GI, MI, BI⟩ := R.ini
  refine T.ground.ok scGround (fun vs H Q E h => ?_) (fun f cdv A outer s H vs Q E hr h => ?_)
  · obtain ⟨kv, ov, b, k, o, rfl, _⟩ := h
    rfl
  obtain ⟨kv, ov, b, k, o, rfl, hk, ho, hb, k3, fk, o7, fo, q⟩ := h
  have r1 : Room 1 _ := hr.mono (by decide)
  have r2 : Room 2 _ := hr.mono (by decide)
  refine ⟨_, pss_cons (ps_set (i := 3) scGround.nd rfl (Or.inl rfl) (pe_cal CF hr (pa_cons (pv 0) (pa_cons (pv 1) (pa_cons (pe_make MI GI r2 (by rfl) R.t.g BI .nil pass0 (pa_cons (pv 2) pa_nil)) pa_nil)))))
    (pss_cons (ps_if (pt_cmpR op_isN (pv 3) pe_non (nomark _)) (pss_one (ps_ret pe_non)) pss_nil)
    (pss_cons (ps_asg (pv 3) (pg_tup (by rfl) (pgs_cons (pg_name (i := 4) scGround.nd rfl (Or.inl rfl)) (pgs_cons (pg_name (i := 5) scGround.nd rfl (Or.inl rfl)) pgs_nil))))
    (pss_one (ps_ret (pe_tup (pa_cons (pv 4) (pa_cons (pe_cal CT r1 (pa_cons (pv 5) (pa_cons (pv 2) pa_nil))) pa_nil))))))), ?_⟩
  refine ⟨_, rfl, _, rfl, _, rfl, fun p dx np ndx nex => ?_⟩
  have s0 : Same H (upd (upd H dx (.own p)) p (.ins C dx [])) := fun b o e => by
    rw [upd_ne (ne_of_none e np), upd_ne (ne_of_none e ndx)]
    exact e
  refine ⟨p, dx, b, rfl, upd_same, fun H1 S1 kp => ⟨rfl, ?_⟩⟩
  have s1 : Same H H1 := fun c o e => kp c o (s0 c o e) (ne_of_none e np)
  refine ⟨kv, ov, p, b, 0, k, o, 3, rfl, (Same.keep s1).dt hk, (Same.keep s1).dt ho, S1, by decide, k3, fk, o7, fo, Nat.le_refl _, Int.le_refl _, by decide, fun v H2 m2 e2 S2 g1 g2 hY hN => ?_⟩
  have s2 : Same H H2 := fun c o e => e2 c o (ne_of_none e np) (s1 c o e)
  dsimp only [gName]
  cases hf : fitL 3 k o with
  | true =>
    obtain rfl := hY hf
    exact ⟨_, rfl, rfl, _, rfl, iteYes (by decide) (q _ _ s2 (fun _ => rfl) fun z => by rw [hf] at z; cases z)⟩
  | false =>
    obtain ⟨t, y, ee, rfl, htt, hee⟩ := hN hf
    refine ⟨_, rfl, rfl, _, rfl, iteNo (by simp) ?_⟩
    refine ⟨_, rfl, t, _, rfl, htt, rfl, _, _, rfl, _, _, rfl, rfl, ?_⟩
    dsimp only [gName]
    refine ⟨_, rfl, _, rfl, _, rfl, ee, b, rfl, hee, s2 _ _ hb, fun v H3 e3 => ⟨(by show 2 ≤ sizeLine; decide), fun t2 ht2 => q _ _ (Same.trans s2 (Same.trans e3 (same_new ht2 _))) (fun z => by rw [hf] at z; cases z) fun _ => ⟨t2, rfl⟩⟩⟩
theorem scFits : FnScope ["one", "other", "bounds"] ["one", "other", "bounds"] (defScope sFits) := ⟨rfl, rfl, rfl, by decide +kernel, rfl, by decide +kernel, by decide +kernel⟩
theorem c_fits {C : Addr} (T : Tx K mg) (R : SrC P w K mg base C) : Cal P w K mg base 20 "fits" ["one", "other", "bounds"] (spFits K) := by
  have CG : Cal P w K mg base 19 "ground" ["one", "other", "bounds"] (spGround K) := c_ground T R
  refine T.fits.ok scFits (fun vs H Q E h => ?_) (fun f cdv A outer s H vs Q E hr h => ?_)
  · obtain ⟨kv, ov, b, k, o, rfl, _⟩ := h
    rfl
  obtain ⟨kv, ov, b, k, o, rfl, hk, ho, hb, k3, fk, o7, fo, q⟩ := h
  refine ⟨_, pss_one (ps_ret (pe_cmpR op_isN (pe_cal CG hr (pa_cons (pv 0) (pa_cons (pv 1) (pa_cons (pv 2) pa_nil)))) pe_non (nomark _))), ?_⟩
  refine ⟨_, rfl, _, rfl, _, rfl, kv, ov, b, k, o, rfl, hk, ho, hb, k3, fk, o7, fo, fun v H1 e1 hY hN => ⟨rfl, ?_⟩⟩
  have z := q H1 e1
  cases hf : fitL 3 k o with
  | true =>
    obtain rfl := hY hf
    rw [hf] at z
    exact z
  | false =>
    obtain ⟨t, rfl⟩ := hN hf
    rw [hf] at z
    rw [show decide (V.ref t = V.non) = false from by simp]
    exact z
end
end Sc
namespace Sc
open PySem PyProof.Rows L2
section
variable {P : Program} {w : World} {K : PySem.W.Frag} {mg : Str → Option Value} {base : Heap}
def spFlat (K : PySem.W.Frag) (n : Nat) : Sp := fun vs H Q _ => ∃ (s : Addr) (i : Inf) (d : Nat), vs = [.ref s, .int (d : Int)] ∧ IsS K H s i ∧ d < n ∧
  ∀ (v : V) (H' : Hp) (k : List Ch), Ext s H H' → IsS K H' s i → IsK K H' v k → k ≠ [] → k.length ≤ 3 → (∀ c ∈ k, flC d c) → Q v H'
theorem scFlat : FnScope ["_law_s", "_law_deep", "_law_kind", "_law_k", "_law_way"] ["_law_s", "_law_deep"] (defScope sFlat) := ⟨rfl, rfl, rfl, by decide +kernel, rfl, by decide +kernel, by decide +kernel⟩
theorem c_flat {n lv : Nat} (T : Tx K mg) (lv1 : 1 ≤ lv) (CC : Cal P w K mg base lv "_law_flat" ["_law_s", "_law_deep"] (spFlat K n)) : Cal P w K mg base (lv + 1) "_law_flat" ["_law_s", "_law_deep"] (spFlat K (n + 1)) := by
  have CT : Cal P w K mg base 1 "_law_taken" ["_law_s", "_law_most"] (spTaken K) := c_taken T
  refine T.flat.ok scFlat (fun vs H Q E h => ?_) (fun f cdv A outer s H vs Q E hr h => ?_)
  · obtain ⟨s, i, d, rfl, _⟩ := h
    rfl
  obtain ⟨s, i, d, rfl, S, dn, q⟩ := h
  have r1 : Room 1 _ := hr.mono lv1
  refine ⟨_, pss_cons (ps_set (i := 2) scFlat.nd rfl (Or.inl rfl) (pe_lst pa_nil))
    (pss_cons (ps_for PassesOwn.never rfl (pi_range1 rfl T.m_range (pa_cons (pe_op op_add pe_int (pe_cal CT r1 (pa_cons (pv 0) (pa_cons pe_int pa_nil)))) pa_nil)) (pg_name (i := 3) scFlat.nd rfl (Or.inl rfl))
      (pss_cons (ps_set (i := 4) scFlat.nd rfl (Or.inl rfl) (pe_cal CT r1 (pa_cons (pv 0) (pa_cons pe_int pa_nil))))
      (pss_one (ps_if (PW.pt (pw_and (pt_cmpR op_gt (pv 1) pe_int (nomark _)) (pw_and1 (pt_cmpR op_gt (pv 4) pe_int (nomark _)))))
        (pss_one (ps_expr (pe_bm PySem.F.plainAttrs_list PySem.F.slot_list_append PySem.F.type_list_append mt_append (pv 2) (pa_cons (pe_tup (pa_cons (pe_ix ix_list (pe_lst (pa_cons pe_str (pa_cons pe_str pa_nil))) (pe_op op_sub (pv 4) pe_int) (fun _ _ => rfl)) (pa_cons (pe_cal CC hr (pa_cons (pv 0) (pa_cons (pe_op op_sub (pv 1) pe_int) pa_nil))) pa_nil))) pa_nil))))
        (pss_one (ps_expr (pe_bm PySem.F.plainAttrs_list PySem.F.slot_list_append PySem.F.type_list_append mt_append (pv 2) (pa_cons (pe_ix ix_list (pe_lst (pa_cons (pe_tup (pa_cons pe_str pa_nil)) (pa_cons (pe_tup (pa_cons pe_str pa_nil)) pa_nil))) (pe_op op_mod (pv 4) pe_int) (fun _ _ => rfl)) pa_nil))))))))
    (pss_one (ps_ret (pe_callTy call_tuple_of (by rfl) T.m_tuple (by decide +kernel) (pa_cons (pv 2) pa_nil))))), ?_⟩
  refine ⟨(by show 0 ≤ sizeLine; decide), fun D hD => ?_⟩
  have S0 := S.same (same_new hD (.lst []))
  have nds : D ≠ s := S.ne hD
  dsimp only [gName]
  refine ⟨_, rfl, s, i, 3, rfl, S0, by decide, by decide, fun r H1 r0 r3 x1 S1 => ⟨_, _, rfl, rfl, _, rfl, by omega, by omega, ?_⟩⟩
  refine for_range (lo := 0) (n := (1 + r).toNat) (fun j σ H2 => (∃ o3 o4, σ = [some (.ref s), some (.int d), some (.ref D), o3, o4]) ∧ Ext s H H2 ∧ IsS K H2 s i ∧ ∃ us k, H2 D = some (.lst us) ∧ Dts K H2 us (pyL k) ∧ (∀ c ∈ k, flC d c) ∧ k.length = j)
    ⟨⟨_, _, rfl⟩, (Ext.same (same_new hD _)).trans x1, S1, [], [], x1 _ _ nds upd_same, .nil, (fun c m => by cases m), rfl⟩ ?_ ?_
  · rintro j σ H2 hj ⟨⟨o3, o4, rfl⟩, x2, S2, us, k, hd, dp, okk, lk⟩
    dsimp only [gName]
    refine ⟨_, rfl, s, i, 4, rfl, S2, by decide, by decide, fun r2 H3 a0 a3 x3 S3 => ?_⟩
    have hd3 := x3 _ _ nds hd
    have dp3 := (S2.keep x3).dts dp
    -- how one more choice is put behind
    have more : ∀ (v : V) (H4 : Hp) (c : Ch), Ext s H3 H4 → IsS K H4 s i → IsC K H4 v c → flC d c → us.length < sizeLine ∧ ((∃ o3 o4, ([some (.ref s), some (.int d), some (.ref D), some (.int (0 + (j : Int))), some (.int r2)] : L2.St) = [some (.ref s), some (.int d), some (.ref D), o3, o4]) ∧ Ext s H (upd H4 D (.lst (us ++ [v]))) ∧ IsS K (upd H4 D (.lst (us ++ [v]))) s i ∧
        ∃ us' k', (upd H4 D (.lst (us ++ [v]))) D = some (.lst us') ∧ Dts K (upd H4 D (.lst (us ++ [v]))) us' (pyL k') ∧ (∀ c ∈ k', flC d c) ∧ k'.length = j + 1) := fun v H4 c x4 S4 dc fc => by
      have x5 : Ext s H (upd H4 D (.lst (us ++ [v]))) := (x2.trans (x3.trans x4)).over hD _
      have k4 : Keep K H4 (upd H4 D (.lst (us ++ [v]))) := Keep.upd (x4 _ _ nds hd3) trivial _
      refine ⟨?_, ⟨_, _, rfl⟩, x5, S.over S4 x5 nds, us ++ [v], k ++ [c], upd_same, ?_, fun c' m => ?_, by rw [List.length_append, lk]; rfl⟩
      · rw [dp.1, pyL_map, List.length_map]
        exact small1000 (by omega)
      · rw [pyL_map, List.map_append, ← pyL_map]
        exact (k4.dts ((S3.keep x4).dts dp3)).snoc (k4.dt dc)
      · rcases List.mem_append.mp m with z | z
        · exact okk c' z
        · rw [List.mem_singleton.mp z]; exact fc
    dsimp only [gName]
    show tAnd _ _ _ _ _
    refine and_pure (decide ((d : Int) > 0)) (decide (r2 > 1)) (fun R h => ⟨_, rfl, _, _, rfl, rfl, _, rfl, h⟩) (fun _ R h => ⟨_, rfl, _, _, rfl, rfl, _, rfl, h⟩) (fun c1 c2 => iteT ?_) (fun _ => iteF ?_)
    · have c1' : (d : Int) > 0 := of_decide_eq_true c1
      have c2' : r2 > 1 := of_decide_eq_true c2
      obtain ⟨e, rfl⟩ : ∃ e : Nat, d = e + 1 := ⟨d - 1, by omega⟩
      have r23 : r2 = 2 ∨ r2 = 3 := by omega
      refine ⟨_, rfl, .inl ⟨rfl, _, SqL.of hd3⟩, (by show 2 ≤ sizeLine; decide), fun p hp => ⟨_, rfl, _, _, rfl, rfl, p, [.str "row", .str "book"], r2 - 2, .str (if r2 = 2 then "row" else "book"), rfl, rfl, SqL.of upd_same, ?_, _, rfl, _, rfl, _, _, rfl, rfl, s, i, e, ?_, S3.same (same_new hp _), by omega,
        fun v H4 kk x4 S4 dv k0 k3 fk => ⟨(by show 2 ≤ sizeLine; decide), fun t ht => ?_⟩⟩⟩
      · rcases r23 with h | h <;> rw [h] <;> rfl
      · show ([.ref s, .int (((e + 1 : Nat) : Int) - 1)] : List V) = _
        rw [show ((e + 1 : Nat) : Int) - 1 = (e : Int) by omega]
      · have e4 := same_new ht (.tup [.str (if r2 = 2 then "row" else "book"), v])
        have ex : Ext s H3 (upd H4 t (.tup [.str (if r2 = 2 then "row" else "book"), v])) := (Ext.same (same_new hp _)).trans (x4.trans (Ext.same e4))
        have hD5 := ex _ _ nds hd3
        have dt : Dt K (upd H4 t (.tup [.str (if r2 = 2 then "row" else "book"), v])) (.ref t) (.tuple [.str (if r2 = 2 then "row" else "book"), .tuple (pyL kk)]) := ((Dts.nil.cons ((Same.keep e4).dt dv)).cons (.str _)).tup (SqT.of upd_same)
        have S5 := S4.same e4
        generalize (upd H4 t (.tup [.str (if r2 = 2 then "row" else "book"), v])) = H5 at ex hD5 dt S5 ⊢
        rcases r23 with h | h
        · rw [if_pos h] at dt
          obtain ⟨m1, m2⟩ := more (.ref t) H5 (.row kk) ex S5 dt ⟨k0, k3, fk⟩
          exact ⟨D, us, _, rfl, rfl, hD5, m1, m2⟩
        · rw [if_neg (by omega)] at dt
          obtain ⟨m1, m2⟩ := more (.ref t) H5 (.book kk) ex S5 dt ⟨k0, k3, fk⟩
          exact ⟨D, us, _, rfl, rfl, hD5, m1, m2⟩
    · refine ⟨_, rfl, .inl ⟨rfl, _, SqL.of hd3⟩, (by show 1 ≤ sizeLine; decide), fun p1 hp1 => ⟨(by show 1 ≤ sizeLine; decide), fun p2 hp2 => ⟨(by show 2 ≤ sizeLine; decide), fun p3 hp3 => ?_⟩⟩⟩
      have e1 := same_new hp1 (.tup [.str "number"])
      have e2 := same_new hp2 (.tup [.str "text"])
      have e3 := same_new hp3 (.lst [.ref p1, .ref p2])
      have g1 := e3 _ _ (e2 _ _ (upd_same (H := H3) (a := p1) (o := .tup [.str "number"])))
      have g2 := e3 _ _ (upd_same (a := p2) (o := .tup [.str "text"]) (H := upd H3 p1 (.tup [.str "number"])))
      have ee := e1.trans (e2.trans e3)
      have hD5 := ee _ _ hd3
      have h01 : r2 % 2 = 0 ∨ r2 % 2 = 1 := by omega
      refine ⟨_, rfl, _, _, rfl, rfl, (by show (0 : Int) < 2; decide), p3, [.ref p1, .ref p2], r2 % 2, (if r2 % 2 = 0 then .ref p1 else .ref p2), rfl, rfl, SqL.of upd_same, ?_, ?_⟩
      · rcases h01 with h | h <;> rw [h] <;> rfl
      · rcases h01 with h | h <;> rw [h]
        · obtain ⟨m1, m2⟩ := more (.ref p1) _ .num (Ext.same ee) (S3.same ee) ((Dts.nil.cons (.str _)).tup (SqT.of g1)) (by cases d <;> trivial)
          exact ⟨D, us, _, rfl, rfl, hD5, m1, m2⟩
        · obtain ⟨m1, m2⟩ := more (.ref p2) _ .txt (Ext.same ee) (S3.same ee) ((Dts.nil.cons (.str _)).tup (SqT.of g2)) (by cases d <;> trivial)
          exact ⟨D, us, _, rfl, rfl, hD5, m1, m2⟩
  · rintro σ H2 ⟨⟨o3, o4, rfl⟩, x2, S2, us, k, hd, dp, okk, lk⟩
    refine ⟨_, rfl, D, us, rfl, .inl ⟨SqL.of hd, fun t ht => ?_⟩⟩
    refine q _ _ k (x2.trans (Ext.new _ ht)) (S2.same (same_new ht _)) (((Same.keep (same_new ht _)).dts dp).tup (SqT.of upd_same)) ?_ ?_ okk
    · intro z
      rw [z] at lk
      have : 0 = (1 + r).toNat := lk
      omega
    · omega
theorem c_flats (T : Tx K mg) : ∀ n : Nat, Cal P w K mg base (n + 1) "_law_flat" ["_law_s", "_law_deep"] (spFlat K n)
  | 0 => (T.flat.never (P := P) (w := w) (base := base) (sp := spFlat K 0) fun vs H Q E ⟨_, _, _, _, _, h, _⟩ => absurd h (Nat.not_lt_zero _)).mono (show 0 ≤ 1 by decide)
  | n + 1 => c_flat T (by omega) (c_flats T n)
end
end Sc
namespace Sc
open PySem PyProof.Rows L2
def goodP (w : Str) (p : Ch) : Bool := (wdC p == w) || isAny w p
def insd : Ch → List Ch
  | .row k => k
  | .book k => k
  | _ => []
theorem in_one {n : Nat} {w : Str} {p : Ch} (g : flD n p) : PyData.eqv (pyC p) (.tuple [.str "some", .str w]) = isAny w p := by
  have two : ∀ (a : Str) (x : PyData), a ≠ "some" → PyData.eqv (.tuple [.str a, x]) (.tuple [.str "some", .str w]) = false := fun a x ha => by
    rw [eqv_two, beq_eq_false_iff_ne.mpr ha, Bool.false_and]
  have an : ∀ z : Str, PyData.eqv (.tuple [.str "some", .str z]) (.tuple [.str "some", .str w]) = (z == w) := fun z => by
    rw [eqv_two, beq_self_eq_true, Bool.true_and]
    simp [PyData.eqv]
  rcases g with g | rfl | rfl
  · cases n with
    | zero =>
      cases p with
      | num => rw [pyC]; exact eqv_12 _ _ _
      | txt => rw [pyC]; exact eqv_12 _ _ _
      | _ => exact g.elim
    | succ n =>
      cases p with
      | num => rw [pyC]; exact eqv_12 _ _ _
      | txt => rw [pyC]; exact eqv_12 _ _ _
      | row k => rw [pyC]; exact two _ _ (by decide +kernel)
      | book k => rw [pyC]; exact two _ _ (by decide +kernel)
      | _ => exact g.elim
  · rw [pyC]; exact an _
  · rw [pyC]; exact an _
theorem any_congr_mem {f g : Ch → Bool} : ∀ {o : List Ch}, (∀ p ∈ o, f p = g p) → o.any f = o.any g
  | [], _ => rfl
  | p :: r, h => by rw [List.any_cons, List.any_cons, h p List.mem_cons_self, any_congr_mem fun x m => h x (List.mem_cons_of_mem _ m)]
theorem fil_len {g : Ch → Bool} (o : List Ch) : decide ((o.filter g).length = 0) = !(o.any g) := by
  rw [Bool.eq_iff_iff, decide_eq_true_eq, List.length_eq_zero_iff, List.filter_eq_nil_iff, Bool.not_eq_true', List.any_eq_false]
theorem fit_num {d n : Nat} {o : List Ch} (h : ∀ p ∈ o, flD n p) : fitC d .num o = o.any (goodP "number") := by
  have e : fitC d .num o = o.any fun p => match p with | .num => true | _ => false := by cases d <;> rfl
  rw [e]
  refine any_congr_mem fun p m => ?_
  rcases h p m with g | rfl | rfl
  · cases n with
    | zero =>
      cases p with
      | num => decide +kernel
      | txt => decide +kernel
      | _ => exact g.elim
    | succ n =>
      cases p with
      | num => decide +kernel
      | txt => decide +kernel
      | row k => show false = ((("row" : Str) == "number") || false); decide +kernel
      | book k => show false = ((("book" : Str) == "number") || false); decide +kernel
      | _ => exact g.elim
  · decide +kernel
  · decide +kernel
theorem fit_txt {d n : Nat} {o : List Ch} (h : ∀ p ∈ o, flD n p) : fitC d .txt o = o.any (goodP "text") := by
  have e : fitC d .txt o = o.any fun p => match p with | .txt => true | _ => false := by cases d <;> rfl
  rw [e]
  refine any_congr_mem fun p m => ?_
  rcases h p m with g | rfl | rfl
  · cases n with
    | zero =>
      cases p with
      | num => decide +kernel
      | txt => decide +kernel
      | _ => exact g.elim
    | succ n =>
      cases p with
      | num => decide +kernel
      | txt => decide +kernel
      | row k => show false = ((("row" : Str) == "text") || false); decide +kernel
      | book k => show false = ((("book" : Str) == "text") || false); decide +kernel
      | _ => exact g.elim
  · decide +kernel
  · decide +kernel
/-- what is left of the good ones -/
def goodQ (d : Nat) (k : List Ch) (p : Ch) : Bool := (wdC p == "some") || fitL d k (insd p)
theorem fit_rowQ {d : Nat} {k o : List Ch} (h : ∀ p ∈ o, flD (d + 1) p) : fitC (d + 1) (.row k) o = (o.filter (goodP "row")).any (goodQ d k) := by
  rw [List.any_filter]
  show o.any (hitR fun k' => k.all fun c => fitC d c k') = _
  refine any_congr_mem fun p m => ?_
  rcases h p m with g | rfl | rfl
  · cases p with
    | num => show false = (((("number" : Str) == "row") || false) && _); rw [show (("number" : Str) == "row") = false by decide +kernel]; rfl
    | txt => show false = (((("text" : Str) == "row") || false) && _); rw [show (("text" : Str) == "row") = false by decide +kernel]; rfl
    | row k' => show (k.all fun c => fitC d c k') = (((("row" : Str) == "row") || false) && ((("row" : Str) == "some") || fitL d k k')); rw [show (("row" : Str) == "row") = true by decide +kernel, show (("row" : Str) == "some") = false by decide +kernel]; rfl
    | book k' => show false = (((("book" : Str) == "row") || false) && _); rw [show (("book" : Str) == "row") = false by decide +kernel]; rfl
    | _ => exact g.elim
  · show (("row" : Str) == "row") = (((("some" : Str) == "row") || (("row" : Str) == "row")) && ((("some" : Str) == "some") || _)); rw [show (("row" : Str) == "row") = true by decide +kernel, show (("some" : Str) == "row") = false by decide +kernel, show (("some" : Str) == "some") = true by decide +kernel]; rfl
  · show (("book" : Str) == "row") = (((("some" : Str) == "row") || (("book" : Str) == "row")) && _); rw [show (("book" : Str) == "row") = false by decide +kernel, show (("some" : Str) == "row") = false by decide +kernel]; rfl
theorem fit_bookQ {d : Nat} {k o : List Ch} (h : ∀ p ∈ o, flD (d + 1) p) : fitC (d + 1) (.book k) o = (o.filter (goodP "book")).any (goodQ d k) := by
  rw [List.any_filter]
  show o.any (hitB fun k' => k.all fun c => fitC d c k') = _
  refine any_congr_mem fun p m => ?_
  rcases h p m with g | rfl | rfl
  · cases p with
    | num => show false = (((("number" : Str) == "book") || false) && _); rw [show (("number" : Str) == "book") = false by decide +kernel]; rfl
    | txt => show false = (((("text" : Str) == "book") || false) && _); rw [show (("text" : Str) == "book") = false by decide +kernel]; rfl
    | book k' => show (k.all fun c => fitC d c k') = (((("book" : Str) == "book") || false) && ((("book" : Str) == "some") || fitL d k k')); rw [show (("book" : Str) == "book") = true by decide +kernel, show (("book" : Str) == "some") = false by decide +kernel]; rfl
    | row k' => show false = (((("row" : Str) == "book") || false) && _); rw [show (("row" : Str) == "book") = false by decide +kernel]; rfl
    | _ => exact g.elim
  · show (("row" : Str) == "book") = (((("some" : Str) == "book") || (("row" : Str) == "book")) && _); rw [show (("row" : Str) == "book") = false by decide +kernel, show (("some" : Str) == "book") = false by decide +kernel]; rfl
  · show (("book" : Str) == "book") = (((("some" : Str) == "book") || (("book" : Str) == "book")) && ((("some" : Str) == "some") || _)); rw [show (("book" : Str) == "book") = true by decide +kernel, show (("some" : Str) == "book") = false by decide +kernel, show (("some" : Str) == "some") = true by decide +kernel]; rfl
theorem wd_small {n : Nat} {c : Ch} (h : flC n c) : (PyData.canLay0 (.str (wdC c)) && sm (.str (wdC c))) = true := by
  cases n with
  | zero => cases c with
    | num => decide +kernel
    | txt => decide +kernel
    | _ => exact h.elim
  | succ n => cases c with
    | num => decide +kernel
    | txt => decide +kernel
    | row _ => show (PyData.canLay0 (.str "row") && sm (.str "row")) = true; decide +kernel
    | book _ => show (PyData.canLay0 (.str "book") && sm (.str "book")) = true; decide +kernel
    | _ => exact h.elim
/-- a good one behind a row or book has a kind within, or is some -/
theorem good_in {n : Nat} {w : Str} {p : Ch} (hw : w = "row" ∨ w = "book") (g : flD (n + 1) p) (h : goodP w p = true) : (∃ z, p = .any z) ∨ (wdC p ≠ "some" ∧ restC p = [.tuple (pyL (insd p))] ∧ (insd p).length ≤ 3 ∧ ∀ c ∈ insd p, flC n c) := by
  rcases g with g | rfl | rfl
  · cases p with
    | num => exact absurd h (by rcases hw with rfl | rfl <;> decide +kernel)
    | txt => exact absurd h (by rcases hw with rfl | rfl <;> decide +kernel)
    | row k => exact .inr ⟨by show ("row" : Str) ≠ "some"; decide +kernel, rfl, g.2.1, g.2.2⟩
    | book k => exact .inr ⟨by show ("book" : Str) ≠ "some"; decide +kernel, rfl, g.2.1, g.2.2⟩
    | _ => exact g.elim
  · exact .inl ⟨_, rfl⟩
  · exact .inl ⟨_, rfl⟩
section
variable {P : Program} {w : World} {K : PySem.W.Frag} {mg : Str → Option Value} {base : Heap}
def spFF (K : PySem.W.Frag) (n : Nat) : Sp := fun vs H Q _ => ∃ (kv ov : V) (k o : List Ch) (d : Nat), vs = [kv, ov] ∧ IsK K H kv k ∧ IsK K H ov o ∧ d < n ∧ k.length ≤ 3 ∧ (∀ c ∈ k, flC d c) ∧ o.length ≤ 7 ∧ (∀ c ∈ o, flD d c) ∧ d ≤ 3 ∧ ∀ H', Same H H' → Q (.bl (fitL d k o)) H'
theorem scFF : FnScope ["_law_one", "_law_other", "_law_choice", "_law_good", "_law_part"] ["_law_one", "_law_other"] (defScope sFlatFits) := ⟨rfl, rfl, rfl, by decide +kernel, rfl, by decide +kernel, by decide +kernel⟩
theorem c_ff {n lv : Nat} (T : Tx K mg) (CF : Cal P w K mg base lv "_law_flat_fits" ["_law_one", "_law_other"] (spFF K n)) : Cal P w K mg base (lv + 1) "_law_flat_fits" ["_law_one", "_law_other"] (spFF K (n + 1)) := by
  refine T.flat_fits.ok scFF (fun vs H Q E h => ?_) (fun f cdv A outer s H vs Q E hr h => ?_)
  · obtain ⟨kv, ov, k, o, d, rfl, _⟩ := h
    rfl
  obtain ⟨kv, ov, k, o, d, rfl, hk, ho, dn, k3, fk, o7, fo, d3, q⟩ := h
  have hu64 : (A.deeper (envOfC "_law_flat_fits" (defScope sFlatFits) s.heap.objs.size f cdv)).units + 64 < cLine := by have := hr.un; omega
  refine ⟨_, pss_cons (ps_for PassesOwn.never rfl (pi_tup (pv 0)) (pg_name (i := 2) scFF.nd rfl (Or.inr rfl))
      (pss_cons (ps_setLc (i := 3) (own := [("_law_part", 4)]) (g := gName 4) rfl scFF.nd rfl rfl (sw_true rfl rfl rfl (by decide +kernel)) (pi_tup (pv 1))
        (blkOk_by (N := ["_law_one", "_law_other", "_law_choice", "_law_good", "_law_part"]) (sc := defScope sFlatFits) (by decide +kernel))
        (fun _ _ _ _ _ => pg_name (i := 4) scFF.nd rfl (Or.inl rfl)) (fun _ _ _ _ _ => pts_one (PW.pt (pw_or (pt_cmpR op_eq (pe_ix (ix_tupK K) (pv 4) pe_int (fun _ _ => rfl)) (pe_ix (ix_tupK K) (pv 2) pe_int (fun _ _ => rfl)) (nomark _))
          (pw_or1 (pt_cmpR (op_eqDK K hu64) (pv 4) (pe_tup (pa_cons pe_str (pa_cons (pe_ix (ix_tupK K) (pv 2) pe_int (fun _ _ => rfl)) pa_nil))) (nomark _)))))) (fun _ _ _ _ _ => pv 4))
      (pss_cons (ps_if (PW.pt (pw_or (pt_cmpR op_eq (pe_ix ix_tup (pv 2) pe_int (fun _ _ => rfl)) pe_str (nomark _)) (pw_or1 (pt_cmpR op_eq (pe_ix ix_tup (pv 2) pe_int (fun _ _ => rfl)) pe_str (nomark _)))))
        (pss_one (ps_setLc (i := 3) (own := [("_law_part", 4)]) (g := gName 4) rfl scFF.nd rfl rfl (sw_true rfl rfl rfl (by decide +kernel)) (pi_list (pv 3))
          (blkOk_by (N := ["_law_one", "_law_other", "_law_choice", "_law_good", "_law_part"]) (sc := defScope sFlatFits) (by decide +kernel))
          (fun _ _ _ _ _ => pg_name (i := 4) scFF.nd rfl (Or.inl rfl)) (fun _ _ _ _ _ => pts_one (PW.pt (pw_or (pt_cmpR op_eq (pe_ix (ix_tupK K) (pv 4) pe_int (fun _ _ => rfl)) pe_str (nomark _))
            (pw_or1 (pt_val (pe_cal CF hr (pa_cons (pe_ix (ix_tupK K) (pv 2) pe_int (fun _ _ => rfl)) (pa_cons (pe_ix (ix_tupK K) (pv 4) pe_int (fun _ _ => rfl)) pa_nil)))))))) (fun _ _ _ _ _ => pv 4))) pss_nil)
      (pss_one (ps_if (pt_cmpR op_eq (pe_callB call_len_seq (by rfl) T.m_len PySem.boot_len (pa_cons (pv 3) pa_nil)) pe_int (nomark _)) (pss_one (ps_ret pe_bl)) pss_nil)))))
    (pss_one (ps_ret pe_bl)), ?_⟩
  obtain ⟨a, vs, rfl, ht, hd⟩ := hk.open
  obtain ⟨oa, ous, rfl, hot, hod⟩ := ho.open
  have kl : vs.length = k.length := by rw [hd.1, pyL_map, List.length_map]
  refine ⟨_, rfl, a, rfl, ⟨_, ht⟩, ?_⟩
  refine for_tup (K := K) (a := a) (xs := vs) (fun j σ2 H2 => Same H H2 ∧ (∃ o2 o3, σ2 = [some (.ref a), some (.ref oa), o2, o3, none]) ∧ ((k.take j).all fun c => fitC d c o) = true)
    ⟨fun _ _ e => e, ⟨_, _, rfl⟩, rfl⟩ (fun j σ2 H2 _ h => (Same.keep h.1) _ _ ht) ?_ ?_
  · rintro j x σ2 H2 hx ⟨e2, ⟨o2, o3, rfl⟩, al⟩
    obtain ⟨d', hd1, hd2⟩ := hd.at hx
    rw [pyL_map, List.getElem?_map] at hd1
    obtain ⟨c, hc, rfl⟩ := Option.map_eq_some_iff.mp hd1
    have mc := List.mem_of_getElem? hc
    have fc := fk c mc
    obtain ⟨ca, cus, rfl, hct, hcd⟩ := ((Same.keep (K := K) e2).dt hd2).lead
    have hot2 : SqT K H2 oa ous := (Same.keep e2) _ _ hot
    dsimp only [gName]
    refine ⟨_, rfl, oa, rfl, ⟨_, hot2⟩, fun D hD => ?_⟩
    have ewd : wdC c = wdC c := rfl
    generalize hwd : wdC c = wd at hct
    refine lc_tup (K := K) (a := oa) (xs := ous) (fun i H3 => Same H2 H3 ∧ ∃ us, H3 D = some (.lst us) ∧ Dts K H3 us (pyL ((o.take i).filter (goodP wd)))) ⟨same_new hD _, [], upd_same, .nil⟩ (fun i H3 _ h => (Same.keep h.1) _ _ hot2) ?_ ?_
    · rintro i x H3 hx' ⟨e3, us, h3, hus⟩
      obtain ⟨d'', he1, he2⟩ := hod.at hx'
      rw [pyL_map, List.getElem?_map] at he1
      obtain ⟨p, hp, rfl⟩ := Option.map_eq_some_iff.mp he1
      have mp := List.mem_of_getElem? hp
      have et : (o.take (i + 1)).filter (goodP wd) = (o.take i).filter (goodP wd) ++ [p].filter (goodP wd) := by rw [List.take_add_one, hp]; exact List.filter_append ..
      have dp3 := (Same.keep (K := K) (Same.trans e2 e3)).dt he2
      obtain ⟨pa, pus, rfl, hpt, hpd⟩ := dp3.lead
      have hct3 : SqT K H3 ca (.str wd :: cus) := (Same.keep e3) _ _ hct
      have il := (List.getElem?_eq_some_iff.mp hp).1
      have put : ∀ H4, Same H3 H4 → goodP wd p = true → H4 D = some (.lst us) ∧ us.length < sizeLine ∧ Same H2 (upd H4 D (.lst (us ++ [.ref pa]))) ∧ ∃ us', (upd H4 D (.lst (us ++ [.ref pa]))) D = some (.lst us') ∧ Dts K (upd H4 D (.lst (us ++ [.ref pa]))) us' (pyL ((o.take (i + 1)).filter (goodP wd))) := fun H4 e4 gp => by
        have h4 := e4 _ _ h3
        have k4 : Keep K H4 (upd H4 D (.lst (us ++ [.ref pa]))) := Keep.upd h4 trivial _
        refine ⟨h4, small1000 ?_, fun b ob hb => ?_, us ++ [.ref pa], upd_same, ?_⟩
        · rw [hus.1, pyL_map, List.length_map]
          have := List.length_filter_le (goodP wd) (o.take i)
          have := List.length_take_le' i o
          omega
        · rw [upd_ne (ne_of_none hb hD)]
          exact (Same.trans e3 e4) b ob hb
        · rw [et, show [p].filter (goodP wd) = [p] by simp [gp], pyL_map, List.map_append, ← pyL_map]
          exact (k4.dts ((Same.keep e4).dts hus)).snoc (k4.dt ((Same.keep e4).dt dp3))
      refine ⟨rfl, _, rfl, pa, _, _, _, rfl, rfl, hpt, at_of (j := 0) rfl rfl, _, rfl, ca, _, _, _, rfl, rfl, hct3, at_of (j := 0) rfl rfl, rfl, _, rfl, ite2 (fun e => ?_) (fun e => ?_)⟩
      · have gp : goodP wd p = true := by
          have e' : wdC p = wd := V.str.inj (of_decide_eq_true e)
          show ((wdC p == wd) || _) = true
          rw [e', beq_self_eq_true]
          rfl
        obtain ⟨a1, a2, a3, a4⟩ := put H3 (fun _ _ e => e) gp
        exact iteYes rfl ⟨_, rfl, us, a1, a2, a3, a4⟩
      · have e' : (wdC p == wd) = false := beq_eq_false_iff_ne.mpr fun z => e (decide_eq_true (congrArg V.str z))
        refine ⟨_, rfl, _, rfl, ca, _, _, _, rfl, rfl, hct3, at_of (j := 0) rfl rfl, (by show 2 ≤ sizeLine; decide), fun t ht' => ?_⟩
        have e5 := same_new ht' (.tup [.str "some", .str wd])
        have okt : OkN 8 (.tuple [.str "some", .str wd]) := okN_two (n := 7) (okN_w (by decide +kernel)) (okN_w (by rw [← hwd]; exact wd_small fc))
        refine ⟨pyC p, .tuple [.str "some", .str wd], Dt.dp ((Same.keep e5).dt dp3), .tup (SqT.of upd_same) (.cons (.str _) (.cons (.str _) .nil)), (flD_okN (fo p mp)).ok (by omega) |>.1, (okt.ok (by decide)).1, _, rfl, ?_⟩
        rw [in_one (fo p mp)]
        have eg : goodP wd p = isAny wd p := by show ((wdC p == wd) || isAny wd p) = _; rw [e']; rfl
        refine ite2 (fun e6 => ?_) (fun e6 => ?_)
        · obtain ⟨a1, a2, a3, a4⟩ := put _ e5 (eg.trans e6)
          exact ⟨_, rfl, us, a1, a2, a3, a4⟩
        · refine ⟨Same.trans e3 e5, us, e5 _ _ h3, ?_⟩
          rw [et, show [p].filter (goodP wd) = [] by simp [eg, e6], List.append_nil]
          exact (Same.keep e5).dts hus
    rintro H3 ⟨e3, us, h3, hus⟩
    rw [List.take_of_length_le (by rw [hod.1, pyL_map, List.length_map]; exact Nat.le_refl _)] at hus
    have e03 := Same.trans e2 e3
    have hct3 : SqT K H3 ca (.str wd :: cus) := (Same.keep e3) _ _ hct
    have hul : us.length = (o.filter (goodP wd)).length := by rw [hus.1, pyL_map, List.length_map]
    dsimp only [gName]
    refine seq_with (fun R => ∀ (L : Addr) (H4 : Hp) (ws : List V), Same H H4 → H4 L = some (.lst ws) → decide (ws.length = 0) = !fitC d c o → R [some (.ref a), some (.ref oa), some (.ref ca), some (.ref L), none] H4) ?_ ?_
    · intro L H4 ws e4 h4 el
      refine ⟨_, rfl, L, ws, rfl, .inl (SqL.of h4), rfl, _, rfl, ite2 (fun z => ?_) (fun z => ?_)⟩
      · have l0 : ws.length = 0 := by
          have z' := V.int.inj (of_decide_eq_true z)
          omega
        rw [decide_eq_true l0] at el
        have nf : fitC d c o = false := by rw [← Bool.not_eq_true', ← el]
        have nl : fitL d k o = false := Bool.eq_false_iff.mpr fun y => by
          have := List.all_eq_true.mp y c mc
          rw [nf] at this
          cases this
        have z2 := q H4 e4
        rw [nl] at z2
        exact z2
      · have l0 : ¬ ws.length = 0 := fun y => z (decide_eq_true (by rw [y]; rfl))
        rw [decide_eq_false l0] at el
        have nf : fitC d c o = true := by rw [← Bool.not_eq_false', ← el]
        refine ⟨e4, ⟨_, _, rfl⟩, ?_⟩
        rw [List.take_add_one, hc, List.all_append, al]
        show (true && (fitC d c o && true)) = true
        rw [nf]; rfl
    intro rest
    dsimp only [tNext, gName]
    show tOr _ _ _ _ _
    refine or_pure (decide (V.str wd = V.str "row")) (decide (V.str wd = V.str "book")) (fun R h => ⟨_, rfl, ca, _, _, _, rfl, rfl, hct3, at_of (j := 0) rfl rfl, rfl, _, rfl, h⟩) (fun _ R h => ⟨_, rfl, ca, _, _, _, rfl, rfl, hct3, at_of (j := 0) rfl rfl, rfl, _, rfl, h⟩) (fun h => iteT ?_) (fun h1 h2 => iteF ?_)
    rotate_left
    · have n1 : wd ≠ "row" := fun z => of_decide_eq_false h1 (congrArg V.str z)
      have n2 : wd ≠ "book" := fun z => of_decide_eq_false h2 (congrArg V.str z)
      refine rest D H3 us e03 h3 ?_
      rw [hul, fil_len]
      have ct : c = .num ∨ c = .txt := by
        cases d with
        | zero => cases c with
          | num => exact .inl rfl
          | txt => exact .inr rfl
          | _ => exact fc.elim
        | succ d => cases c with
          | num => exact .inl rfl
          | txt => exact .inr rfl
          | row _ => exact absurd hwd.symm n1
          | book _ => exact absurd hwd.symm n2
          | _ => exact fc.elim
      rcases ct with rfl | rfl
      · rw [fit_num fo, ← hwd]
        rfl
      · rw [fit_txt fo, ← hwd]
        rfl
    have hw : wd = "row" ∨ wd = "book" := h.imp (fun z => V.str.inj (of_decide_eq_true z)) (fun z => V.str.inj (of_decide_eq_true z))
    obtain ⟨k2, hk2⟩ := wd_rb (c := c) (by rw [hwd]; exact hw)
    obtain ⟨d, rfl⟩ : ∃ d', d = d' + 1 := by
      cases d with
      | zero => rcases hk2 with rfl | rfl <;> exact fc.elim
      | succ d => exact ⟨d, rfl⟩
    have kf : k2 ≠ [] ∧ k2.length ≤ 3 ∧ ∀ c ∈ k2, flC d c := by rcases hk2 with rfl | rfl <;> exact fc
    have er : restC c = [.tuple (pyL k2)] := by rcases hk2 with rfl | rfl <;> rfl
    have efit : fitC (d + 1) c o = (o.filter (goodP wd)).any (goodQ d k2) := by
      rcases hk2 with rfl | rfl
      · rw [← hwd]; exact fit_rowQ fo
      · rw [← hwd]; exact fit_bookQ fo
    rw [efit] at rest
    rw [er] at hcd
    obtain ⟨u, rfl, hku⟩ := hcd.one
    refine ⟨_, rfl, D, rfl, ⟨_, SqL.of h3⟩, fun D2 hD2 => ?_⟩
    refine lc_list (K := K) (a := D) (xs := us) (fun i H4 => Same H3 H4 ∧ ∃ ws, H4 D2 = some (.lst ws) ∧ Dts K H4 ws (pyL (((o.filter (goodP wd)).take i).filter (goodQ d k2)))) ⟨same_new hD2 _, [], upd_same, .nil⟩ (fun i H4 _ h => SqL.of (h.1 _ _ h3)) ?_ ?_
    · rintro i x H4 hx' ⟨e4, ws, h4, hws⟩
      obtain ⟨d'', he1, he2⟩ := hus.at hx'
      rw [pyL_map, List.getElem?_map] at he1
      obtain ⟨p, hp, rfl⟩ := Option.map_eq_some_iff.mp he1
      obtain ⟨mp, gp⟩ := List.mem_filter.mp (List.mem_of_getElem? hp)
      have dp4 := (Same.keep (K := K) e4).dt he2
      obtain ⟨pa, pus, rfl, hpt, hpd⟩ := dp4.lead
      have hct4 : SqT K H4 ca [.str wd, u] := (Same.keep e4) _ _ hct3
      have et : ((o.filter (goodP wd)).take (i + 1)).filter (goodQ d k2) = ((o.filter (goodP wd)).take i).filter (goodQ d k2) ++ [p].filter (goodQ d k2) := by rw [List.take_add_one, hp]; exact List.filter_append ..
      have il := (List.getElem?_eq_some_iff.mp hp).1
      have put : ∀ H5, Same H4 H5 → goodQ d k2 p = true → H5 D2 = some (.lst ws) ∧ ws.length < sizeLine ∧ Same H3 (upd H5 D2 (.lst (ws ++ [.ref pa]))) ∧ ∃ us', (upd H5 D2 (.lst (ws ++ [.ref pa]))) D2 = some (.lst us') ∧ Dts K (upd H5 D2 (.lst (ws ++ [.ref pa]))) us' (pyL (((o.filter (goodP wd)).take (i + 1)).filter (goodQ d k2))) := fun H5 e5 gq => by
        have h5 := e5 _ _ h4
        have k5 : Keep K H5 (upd H5 D2 (.lst (ws ++ [.ref pa]))) := Keep.upd h5 trivial _
        refine ⟨h5, small1000 ?_, fun b ob hb => ?_, ws ++ [.ref pa], upd_same, ?_⟩
        · rw [hws.1, pyL_map, List.length_map]
          have := List.length_filter_le (goodQ d k2) ((o.filter (goodP wd)).take i)
          have := List.length_take_le' i (o.filter (goodP wd))
          have := List.length_filter_le (goodP wd) o
          omega
        · rw [upd_ne (ne_of_none hb hD2)]
          exact (Same.trans e4 e5) b ob hb
        · rw [et, show [p].filter (goodQ d k2) = [p] by simp [gq], pyL_map, List.map_append, ← pyL_map]
          exact (k5.dts ((Same.keep e5).dts hws)).snoc (k5.dt ((Same.keep e5).dt dp4))
      refine ⟨rfl, _, rfl, pa, _, _, _, rfl, rfl, hpt, at_of (j := 0) rfl rfl, rfl, _, rfl, ite2 (fun e => ?_) (fun e => ?_)⟩
      · have gq : goodQ d k2 p = true := by
          have e' : wdC p = "some" := V.str.inj (of_decide_eq_true e)
          show ((wdC p == "some") || _) = true
          rw [e', beq_self_eq_true]
          rfl
        obtain ⟨a1, a2, a3, a4⟩ := put H4 (fun _ _ e => e) gq
        exact iteYes rfl ⟨_, rfl, ws, a1, a2, a3, a4⟩
      · have e' : (wdC p == "some") = false := beq_eq_false_iff_ne.mpr fun z => e (decide_eq_true (congrArg V.str z))
        rcases good_in hw (fo p mp) gp with ⟨z, rfl⟩ | ⟨g1, g2, g3, g4⟩
        · exact absurd e' (by show ¬ ((("some" : Str) == "some") = false); decide +kernel)
        rw [g2] at hpd
        obtain ⟨up, rfl, hup⟩ := hpd.one
        refine ⟨_, rfl, ca, _, _, _, rfl, rfl, hct4, at_of (j := 1) rfl rfl, _, rfl, pa, _, _, _, rfl, rfl, hpt, at_of (j := 1) rfl rfl, u, up, k2, insd p, d, rfl, (Same.keep (K := K) (Same.trans e3 e4)).dt hku, hup, by omega, kf.2.1, kf.2.2, by omega, fun c m => .inl (g4 c m), by omega, fun H5 e5 => ⟨_, rfl, ?_⟩⟩
        have eg : goodQ d k2 p = fitL d k2 (insd p) := by show ((wdC p == "some") || _) = _; rw [e']; rfl
        refine ite2 (fun e6 => ?_) (fun e6 => ?_)
        · obtain ⟨a1, a2, a3, a4⟩ := put _ e5 (eg.trans e6)
          exact ⟨_, rfl, ws, a1, a2, a3, a4⟩
        · refine ⟨Same.trans e4 e5, ws, e5 _ _ h4, ?_⟩
          rw [et, show [p].filter (goodQ d k2) = [] by simp [eg, e6], List.append_nil]
          exact (Same.keep e5).dts hws
    rintro H4 ⟨e4, ws, h4, hws⟩
    rw [List.take_of_length_le (by rw [hul]; exact Nat.le_refl _)] at hws
    refine rest D2 H4 ws (Same.trans e03 e4) h4 ?_
    rw [show ws.length = ((o.filter (goodP wd)).filter (goodQ d k2)).length by rw [hws.1, pyL_map, List.length_map], fil_len]
  · rintro σ2 H2 ⟨e2, ⟨o2, o3, rfl⟩, al⟩
    rw [List.take_of_length_le (by omega)] at al
    have z := q H2 e2
    rw [show fitL d k o = true from al] at z
    exact z
theorem c_ffs (T : Tx K mg) : ∀ n : Nat, Cal P w K mg base n "_law_flat_fits" ["_law_one", "_law_other"] (spFF K n)
  | 0 => T.flat_fits.never (P := P) (w := w) (base := base) (sp := spFF K 0) fun vs H Q E ⟨_, _, _, _, _, _, _, _, h, _⟩ => absurd h (Nat.not_lt_zero _)
  | n + 1 => c_ff T (c_ffs T n)
end
end Sc
namespace Sc
open PySem PyProof.Rows L2
section
variable {P : Program} {w : World} {K : PySem.W.Frag} {mg : Str → Option Value} {base : Heap}
def spLaw (K : PySem.W.Frag) : Sp := fun vs H Q _ => ∃ (a : Addr) (ns : List Int), vs = [.ref a] ∧ SqL K H a (ns.map V.int) ∧ ns.length ≤ 63 ∧ ∀ H', Q (.bl true) H'
theorem scLaw : FnScope ["_law_script", "_law_s", "_law_one", "_law_other", "_law_found"] ["_law_script"] (defScope sLaw) := ⟨rfl, rfl, rfl, by decide +kernel, rfl, by decide +kernel, by decide +kernel⟩
theorem tup_ne {H : Hp} {us : List V} {o : List Ch} (hd : Dts K H us (pyL o)) (h : o ≠ []) : us ≠ [] := fun z => by
  have e := hd.1
  rw [z, pyL_map, List.length_map] at e
  exact h (List.length_eq_zero_iff.mp e.symm)
theorem Dts.app {H : Hp} {us : List V} {ds : List PyData} (t : Dts K H us ds) : ∀ {vs : List V} {es : List PyData}, Dts K H vs es → Dts K H (us ++ vs) (ds ++ es) := by
  intro vs
  induction vs generalizing us ds with
  | nil =>
    intro es h
    have e : es = [] := by
      have := h.1
      cases es with
      | nil => rfl
      | cons _ _ => cases this
    rw [e, List.append_nil, List.append_nil]
    exact t
  | cons v vs ih =>
    intro es h
    cases es with
    | nil => have := h.1; cases this
    | cons d es =>
      have := ih (t.snoc h.head) h.tail
      rwa [List.append_assoc, List.append_assoc] at this
theorem ok_law {C : Addr} {f : Addr} {fd : FuncData} (F : Fun K "law" "law" sLaw f fd) (T : Tx K mg) (R : SrC P w K mg base C) : FnOk P w K mg base CX0 21 f fd ["_law_script"] (spLaw K) := by
  have CB : Cal P w K mg base 2 "_law_begun" ["_law_script"] (spBegun K) := c_begun T
  have CT : Cal P w K mg base 1 "_law_taken" ["_law_s", "_law_most"] (spTaken K) := c_taken T
  have CL : Cal P w K mg base 5 "_law_flat" ["_law_s", "_law_deep"] (spFlat K 4) := c_flats T 4
  have CF : Cal P w K mg base 4 "_law_flat_fits" ["_law_one", "_law_other"] (spFF K 4) := c_ffs T 4
  have CI : Cal P w K mg base 20 "fits" ["one", "other", "bounds"] (spFits K) := c_fits T R
  refine F.ok scLaw (fun vs H Q E h => ?_) (fun cdv A outer s0 H vs Q E hr h => ?_)
  · obtain ⟨a, ns, rfl, _⟩ := h
    rfl
  obtain ⟨a, ns, rfl, ha, hl, q⟩ := h
  have r1 : Room 1 _ := hr.mono (by decide)
  have r2 : Room 2 _ := hr.mono (by decide)
  have r4 : Room 4 _ := hr.mono (by decide)
  have r5 : Room 5 _ := hr.mono (by decide)
  have r20 : Room 20 _ := hr.mono (by decide)
  refine ⟨_, pss_cons (ps_set (i := 1) scLaw.nd rfl (Or.inl rfl) (pe_cal CB r2 (pa_cons (pv 0) pa_nil)))
    (pss_cons (ps_set (i := 2) scLaw.nd rfl (Or.inl rfl) (pe_cal CL r5 (pa_cons (pv 1) (pa_cons pe_int pa_nil))))
    (pss_cons (ps_set (i := 3) scLaw.nd rfl (Or.inl rfl) (pe_cal CL r5 (pa_cons (pv 1) (pa_cons pe_int pa_nil))))
    (pss_cons (ps_if (pt_cmpR op_eq (pe_cal CT r1 (pa_cons (pv 1) (pa_cons pe_int pa_nil))) pe_int (nomark _))
      (pss_one (ps_set (i := 3) scLaw.nd rfl (Or.inl rfl) (pe_op op_catT (pv 3) (pv 2)))) pss_nil)
    (pss_cons (ps_if (pt_cmpR op_eq (pe_cal CT r1 (pa_cons (pv 1) (pa_cons pe_int pa_nil))) pe_int (nomark _))
      (pss_one (ps_set (i := 3) scLaw.nd rfl (Or.inl rfl) (pe_op op_catT (pv 3) (pe_tup (pa_cons (pe_ix ix_list (pe_lst (pa_cons (pe_tup (pa_cons pe_str (pa_cons pe_str pa_nil))) (pa_cons (pe_tup (pa_cons pe_str (pa_cons pe_str pa_nil))) pa_nil))) (pe_cal CT r1 (pa_cons (pv 1) (pa_cons pe_int pa_nil))) (fun _ _ => rfl)) pa_nil))))) pss_nil)
    (pss_cons (ps_set (i := 4) scLaw.nd rfl (Or.inl rfl) (pe_cal CI r20 (pa_cons (pv 2) (pa_cons (pv 3) (pa_cons pe_dnewK pa_nil)))))
    (pss_one (ps_ret (pe_and (pe_callB call_isi (by rfl) T.m_isinstance boot_isinstance (pa_cons (pv 4) (pa_cons (pe_bltn (v := .ty "bool") (by rfl) T.m_bool boot_bool rfl) pa_nil)))
      (pe_one (pe_cmpR op_eq (pv 4) (pe_cal CF r4 (pa_cons (pv 2) (pa_cons (pv 3) pa_nil))) (nomark _))))))))))), ?_⟩
  refine ⟨_, rfl, a, ns, rfl, ha, hl, fun s i H1 e1 hs ic io hf0 hf1 S1 => ?_⟩
  dsimp only [gName]
  refine ⟨_, rfl, s, i, 3, rfl, S1, by decide, fun kv H2 k x2 S2 hk k0 k3 fk => ?_⟩
  dsimp only [gName]
  refine ⟨_, rfl, s, i, 3, rfl, S2, by decide, fun ov H3 o x3 S3 ho o0 o3 fo => ?_⟩
  have hk3 := (S2.keep x3).dt hk
  dsimp only [gName]
  -- what stands behind the second if
  refine seq_with (fun R => ∀ (ov : V) (H : Hp) (o : List Ch), IsS K H s i → IsK K H kv k → IsK K H ov o → o ≠ [] → o.length ≤ 6 → (∀ c ∈ o, flC 3 c) → R [some (.ref a), some (.ref s), some kv, some ov, none] H) ?_ ?_
  · clear hk3 fo o3 o0 ho S3 x3 o H3 ov
    intro ov H3 o S3 hk3 ho o0 o6 fo
    refine seq_with (fun R => ∀ (ov : V) (H : Hp) (o : List Ch), IsK K H kv k → IsK K H ov o → o.length ≤ 7 → (∀ c ∈ o, flD 3 c) → R [some (.ref a), some (.ref s), some kv, some ov, none] H) ?_ ?_
    · clear fo o6 o0 ho hk3 S3 o H3 ov
      intro ov H4 o hk4 ho o7 fo
      refine ⟨_, rfl, _, rfl, fun b hb => ?_⟩
      have e5 := same_new hb (.dK [])
      refine ⟨kv, ov, b, k, o, rfl, (Same.keep e5).dt hk4, (Same.keep e5).dt ho, upd_same, k3, fk, o7, fo, fun H6 e6 => ?_⟩
      dsimp only [gName]
      refine ⟨_, rfl, _, _, _, _, true, rfl, .ty _, Dp.ty (.bl _), kit_ty (by cases fitL 3 k o <;> decide +kernel), _, rfl, iteT ?_⟩
      have e46 := Same.trans e5 e6
      refine ⟨_, rfl, _, rfl, _, rfl, kv, ov, k, o, 3, rfl, (Same.keep e46).dt hk4, (Same.keep e46).dt ho, by decide, k3, fk, o7, fo, by decide, fun H7 _ => ⟨rfl, ?_⟩⟩
      rw [decide_eq_true rfl]
      exact q _
    · intro rest
      have up : ∀ c ∈ o, flD 3 c := fun c m => .inl (fo c m)
      refine ⟨_, rfl, s, i, 4, rfl, S3, by decide, by decide, fun r H4 _ _ x4 S4 => ⟨rfl, _, rfl, ite2 (fun _ => ?_) (fun _ => rest ov H4 o ((S3.keep x4).dt hk3) ((S3.keep x4).dt ho) (by omega) up)⟩⟩
      obtain ⟨oa, ous, rfl, hot, hod⟩ := ho.open
      have hot4 := S3.keep x4 _ _ hot
      refine ⟨_, rfl, (by show 2 ≤ sizeLine; decide), fun p1 hp1 => ⟨(by show 2 ≤ sizeLine; decide), fun p2 hp2 => ⟨(by show 2 ≤ sizeLine; decide), fun p3 hp3 => ?_⟩⟩⟩
      have e1' := same_new hp1 (.tup [.str "some", .str "row"])
      have e2' := same_new hp2 (.tup [.str "some", .str "book"])
      have e3' := same_new hp3 (.lst [.ref p1, .ref p2])
      have ee := Same.trans e1' (Same.trans e2' e3')
      have g1 := e3' _ _ (e2' _ _ (upd_same (H := H4) (a := p1) (o := .tup [.str "some", .str "row"])))
      have g2 := e3' _ _ (upd_same (a := p2) (o := .tup [.str "some", .str "book"]) (H := upd H4 p1 (.tup [.str "some", .str "row"])))
      have n3 : p3 ≠ s := (S4.same (Same.trans e1' e2')).ne hp3
      have g3 : (upd (upd (upd H4 p1 (.tup [.str "some", .str "row"])) p2 (.tup [.str "some", .str "book"])) p3 (.lst [.ref p1, .ref p2])) p3 = some (.lst [.ref p1, .ref p2]) := upd_same
      have S5 := S4.same ee
      generalize (upd (upd (upd H4 p1 (.tup [.str "some", .str "row"])) p2 (.tup [.str "some", .str "book"])) p3 (.lst [.ref p1, .ref p2])) = H5 at ee g1 g2 g3 S5 ⊢
      refine ⟨_, rfl, s, i, 2, rfl, S5, by decide, by decide, fun r2 H6 a0 a2 x6 S6 => ?_⟩
      have g1' : SqT K H6 p1 [.str "some", .str "row"] := S5.keep x6 _ _ (SqT.of g1)
      have g2' : SqT K H6 p2 [.str "some", .str "book"] := S5.keep x6 _ _ (SqT.of g2)
      have h01 : r2 = 0 ∨ r2 = 1 := by omega
      have pick : ∃ (x : V) (z : Str), (z = "row" ∨ z = "book") ∧ atI [V.ref p1, V.ref p2] r2 = some x ∧ Dt K H6 x (pyC (.any z)) := by
        rcases h01 with h | h <;> rw [h]
        · exact ⟨.ref p1, "row", .inl rfl, rfl, ((Dts.nil.cons (.str _)).cons (.str _)).tup g1'⟩
        · exact ⟨.ref p2, "book", .inr rfl, rfl, ((Dts.nil.cons (.str _)).cons (.str _)).tup g2'⟩
      obtain ⟨x, z, hz, hx, hdx⟩ := pick
      refine ⟨p3, [.ref p1, .ref p2], r2, x, rfl, rfl, SqL.of (x6 _ _ n3 g3), hx, (by show 1 ≤ sizeLine; decide), fun t ht => ?_⟩
      have e7 := same_new ht (.tup [x])
      have k7 : Keep K H4 (upd H6 t (.tup [x])) := Keep.trans (Keep.trans (Same.keep ee) (S5.keep x6)) (Same.keep e7)
      refine ⟨oa, t, ous, [x], rfl, rfl, k7 _ _ hot4, SqT.of upd_same, tup_ne hod o0, sizeOk ?_, (fun z => by cases z), fun _ p hp => ?_⟩
      · have l1 : ous.length = o.length := by rw [hod.1, pyL_map, List.length_map]
        rw [l1]
        show o.length + 1 ≤ _
        omega
      have e8 := same_new hp (.tup (ous ++ [x]))
      have k8 := Keep.trans k7 (Same.keep e8)
      have k38 := Keep.trans (S3.keep x4) k8
      refine rest (.ref p) _ (o ++ [.any z]) (k38.dt hk3) ?_ (by rw [List.length_append]; show _ + 1 ≤ 7; omega) fun c m => ?_
      · refine Dts.tup (vs := ous ++ [x]) ?_ (SqT.of upd_same)
        rw [pyL_map, List.map_append, ← pyL_map]
        exact (k38.dts hod).snoc ((Keep.trans (Same.keep e7) (Same.keep e8)).dt hdx)
      · rcases List.mem_append.mp m with y | y
        · exact up c y
        · rw [List.mem_singleton.mp y]
          rcases hz with rfl | rfl
          · exact .inr (.inl rfl)
          · exact .inr (.inr rfl)
  · intro rest
    refine ⟨_, rfl, s, i, 3, rfl, S3, by decide, by decide, fun r H4 _ _ x4 S4 => ⟨rfl, _, rfl, ite2 (fun _ => ?_) (fun _ => rest ov H4 o S4 ((S3.keep x4).dt hk3) ((S3.keep x4).dt ho) o0 (by omega) fo)⟩⟩
    have hk4 := (S3.keep x4).dt hk3
    obtain ⟨oa, ous, rfl, hot, hod⟩ := ((S3.keep x4).dt ho).open
    obtain ⟨ka, kus, rfl, hkt, hkd⟩ := hk4.open
    have n1 : ous ≠ [] := tup_ne hod o0
    have n2 : kus ≠ [] := tup_ne hkd k0
    have l1 : ous.length = o.length := by rw [hod.1, pyL_map, List.length_map]
    have l2 : kus.length = k.length := by rw [hkd.1, pyL_map, List.length_map]
    refine ⟨_, rfl, _, rfl, oa, ka, ous, kus, rfl, rfl, hot, hkt, n1, sizeOk (by omega), fun z => absurd z n2, fun _ p hp => ?_⟩
    have e5 := same_new hp (.tup (ous ++ kus))
    refine rest (.ref p) _ (o ++ k) (S4.same e5) ((Same.keep e5).dt hk4) ?_ (fun z => o0 (List.append_eq_nil_iff.mp z).1) (by rw [List.length_append]; omega) fun c m => ?_
    · refine Dts.tup (vs := ous ++ kus) ?_ (SqT.of upd_same)
      rw [pyL_map, List.map_append, ← pyL_map, ← pyL_map]
      exact ((Same.keep e5).dts hod).app ((Same.keep e5).dts hkd)
    · rcases List.mem_append.mp m with z | z
      · exact fo c z
      · exact fk c z
end
end Sc
namespace Sc
open PySem PyProof.Rows L2
/-! ### what the top has written -/
theorem Def.of {K : PySem.W.Frag} {h : Heap} {mg : Str → Option Value} (X : K.In h) (G : h.Ns mainGlobals mg) {x : Str} {st : Stmt} {ps : List Str} {f : Addr} {oc : Value} {od an : Option Addr} {osl : Array (Option Value)} {kV doc pm cdv ct : Value}
    (a : PySem.W.nsIn K mainGlobals x = some (some (.ref f))) (l : K.lookup f = some ⟨oc, od, .func (PySem.W.fnOf x x (defArgs st) (defBody st) (defScope st) .none kV doc pm an cdv ct), osl⟩) (c : PySem.W.codeIn K cdv x = true) (k : PySem.W.keepIn K (.ref f) = true)
    (b : ∀ (kV doc pm : Value) (an : Option Addr) (cdv ct : Value) (us : List Value), us.length = ps.length → bindArgs (PySem.W.fnOf x x (defArgs st) (defBody st) (defScope st) .none kV doc pm an cdv ct) ⟨us, []⟩ = pure (ps.zip us)) : Def K mg x st ps :=
  have F := fun_mk (st := st) l c k
  ⟨⟨f, _, F, PySem.W.mg_of X G a, F.binds b⟩⟩
theorem law_end {l : PySem.W.OpenLaw} {w : World} {K : PySem.W.Frag} {h : Heap} {mg : Str → Option Value} {fa f C f1 f2 : Addr} (X : K.In h) (G : h.Ns mainGlobals mg) (hfa : mg "law" = some (.ref fa)) (T : Tx K mg) {oc : Value} {od an : Option Addr} {osl : Array (Option Value)} {kV doc pm cdv ct : Value}
    {od1 an1 od2 an2 : Option Addr} {sl1 sl2 : Array (Option Value)} {oc1 kV1 dc1 pm1 cd1 ct1 oc2 kV2 dc2 pm2 cd2 ct2 : Value}
    (aC : PySem.W.nsIn K mainGlobals "Search" = some (some (.ref C)))
    (a1 : PySem.W.findIn K (.ref C) "__init__" = some (some (.ref f1))) (i1 : PySem.W.isFn K (.ref f1) = true) (l1 : K.lookup f1 = some ⟨oc1, od1, .func (PySem.W.fnOf "__init__" "Search.__init__" (defArgs sSInit) (defBody sSInit) (defScope sSInit) .none kV1 dc1 pm1 an1 cd1 ct1), sl1⟩) (c1 : PySem.W.codeIn K cd1 "Search.__init__" = true) (k1 : PySem.W.keepIn K (.ref f1) = true)
    (a2 : PySem.W.findIn K (.ref C) "fresh" = some (some (.ref f2))) (i2 : PySem.W.isFn K (.ref f2) = true) (l2 : K.lookup f2 = some ⟨oc2, od2, .func (PySem.W.fnOf "fresh" "Search.fresh" (defArgs sSFresh) (defBody sSFresh) (defScope sSFresh) .none kV2 dc2 pm2 an2 cd2 ct2), sl2⟩) (c2 : PySem.W.codeIn K cd2 "Search.fresh" = true) (k2 : PySem.W.keepIn K (.ref f2) = true)
    (pg : PySem.W.plainGet K C Str.empty = true) (hd : PySem.W.hasDictIn K C = true) (po : PySem.W.plainOver K C = true) (sa : PySem.W.findIn K (.ref C) "__setattr__" = some (some (.builtin "object.__setattr__"))) (mk : PySem.W.makesIn K C = true) (kc : PySem.W.keepIn K (.ref C) = true)
    (nB : PySem.W.findIn K (.ref C) "bounds" = some none) (nL : PySem.W.findIn K (.ref C) "last" = some none)
    (a : PySem.W.nsIn K mainGlobals "law" = some (some (.ref f))) (lk : K.lookup f = some ⟨oc, od, .func (PySem.W.fnOf "law" "law" (defArgs sLaw) (defBody sLaw) (defScope sLaw) .none kV doc pm an cdv ct), osl⟩) (c : PySem.W.codeIn K cdv "law" = true) (k : PySem.W.keepIn K (.ref f) = true) :
    ∃ fd : FuncData, (∀ (s : Shared) (v : Value), BindsTo s fd ⟨[v], []⟩ [("_law_script", v)]) ∧ ∀ base : Heap, K.In base → base.Ns mainGlobals mg → FnOk l.prog w K mg base CX0 21 fa fd ["_law_script"] (spLaw K) := by
  have e := hfa.symm.trans (PySem.W.mg_of X G a)
  cases e
  have S : SrT K mg C := ⟨⟨pg, hd, po, sa⟩, nB, nL, PySem.W.mg_of X G aC⟩
  have F1 := fun_mk (st := sSInit) l1 c1 k1
  have F2 := fun_mk (st := sSFresh) l2 c2 k2
  have b1 := F1.binds (ps := ["self", "bounds"]) fun _ _ _ _ _ _ us hl => match us, hl with | [_, _], _ => rfl
  have b2 := F2.binds (ps := ["self"]) fun _ _ _ _ _ _ us hl => match us, hl with | [_], _ => rfl
  exact ⟨_, fun s v => .of_eq rfl, fun base _ _ => ok_law (fun_mk (st := sLaw) lk c k) T ⟨S, ⟨_, _, ok_sinit F1 S, ⟨mk, a1, i1, kc⟩, b1⟩, ⟨_, _, ok_sfresh F2 S, ⟨a2, i2, k2⟩, b2⟩⟩⟩
theorem walk {l : PySem.W.OpenLaw} {q : Program} {loose : List Str} {XP : (Str → Option Value) → Heap → Prop} {YP : World → Heap → Prop} {d : DefRec} {K : Params → PySem.W.Frag} (hn : l.most = some 63) (hdf : d.params.defaults = [])
    (hY : ∀ (w : World) (h : Heap), YP w h → (K w.params).In h)
    (F : ∀ (w : World) (mg : Str → Option Value) (fa : Addr) (h : Heap), (K w.params).In h → h.Ns mainGlobals mg → mg d.name = some (.ref fa) →
      ∃ fd : FuncData, (∀ (s : Shared) (u : Value), BindsTo s fd ⟨[u], []⟩ [("_law_script", u)]) ∧ ∀ base : Heap, (K w.params).In base → base.Ns mainGlobals mg → FnOk l.prog w (K w.params) mg base CX0 21 fa fd ["_law_script"] (spLaw (K w.params))) :
    PySem.W.WalkO q loose XP YP l.row.toRowW d [] (fun f vs => PySem.call f vs) :=
  L2.walk_of (n := 63) (k := 21) (x := "_law_script") (CX := fun _ => CX0) (sp := fun w => spLaw (K w.params)) hn (by decide) hdf ⟨rfl, by decide, by decide⟩ hY F (fun _ _ a ns hl _ hS => ⟨a, ns, rfl, hS, hl, fun _ => rfl⟩) fun _ _ _ _ _ z => z
end Sc
open PySem PySem.W PyProof.Rows
set_option maxRecDepth 100000 in
set_option maxHeartbeats 0 in
theorem PySem.Challenge.cw_soothcheck_k11_what_fits_without_shapes_holds : PySem.Challenge.rw_soothcheck_k11_what_fits_without_shapes.Holds := by
  w_on; o_law; k_head; (case hw => w_witness2)
  k_fill
  refine Sc.walk (l := PySem.Challenge.rw_soothcheck_k11_what_fits_without_shapes) rfl rfl (fun w h Y => PySem.W.kIn_of Y) ?F
  case F =>
    intro w mg fa h KX G hmg
    refine' Sc.law_end KX G hmg ⟨Sc.Def.of KX G ?a0 ?l0 ?c0 ?k0 ?b0, Sc.Def.of KX G ?a1 ?l1 ?c1 ?k1 ?b1, Sc.Def.of KX G ?a2 ?l2 ?c2 ?k2 ?b2, Sc.Def.of KX G ?a3 ?l3 ?c3 ?k3 ?b3, Sc.Def.of KX G ?a4 ?l4 ?c4 ?k4 ?b4, Sc.Def.of KX G ?a5 ?l5 ?c5 ?k5 ?b5, 
      Sc.Def.of KX G ?a6 ?l6 ?c6 ?k6 ?b6, Sc.Def.of KX G ?a7 ?l7 ?c7 ?k7 ?b7, Sc.Def.of KX G ?a8 ?l8 ?c8 ?k8 ?b8, Sc.Def.of KX G ?a9 ?l9 ?c9 ?k9 ?b9, Sc.Def.of KX G ?a10 ?l10 ?c10 ?k10 ?b10, 
      Sc.Def.of KX G ?a11 ?l11 ?c11 ?k11 ?b11, Sc.Def.of KX G ?a12 ?l12 ?c12 ?k12 ?b12, Sc.Def.of KX G ?a13 ?l13 ?c13 ?k13 ?b13, Sc.Def.of KX G ?a14 ?l14 ?c14 ?k14 ?b14, Sc.Def.of KX G ?a15 ?l15 ?c15 ?k15 ?b15, 
      Sc.Def.of KX G ?a16 ?l16 ?c16 ?k16 ?b16, Sc.Def.of KX G ?a17 ?l17 ?c17 ?k17 ?b17, Sc.Def.of KX G ?a18 ?l18 ?c18 ?k18 ?b18, Sc.Def.of KX G ?a19 ?l19 ?c19 ?k19 ?b19, Sc.Def.of KX G ?a20 ?l20 ?c20 ?k20 ?b20, 
      Sc.Def.of KX G ?a21 ?l21 ?c21 ?k21 ?b21, Sc.Def.of KX G ?a22 ?l22 ?c22 ?k22 ?b22, Sc.Def.of KX G ?a23 ?l23 ?c23 ?k23 ?b23, Sc.Def.of KX G ?a24 ?l24 ?c24 ?k24 ?b24, Sc.Def.of KX G ?a25 ?l25 ?c25 ?k25 ?b25, 
      Sc.Def.of KX G ?a26 ?l26 ?c26 ?k26 ?b26, Sc.Def.of KX G ?a27 ?l27 ?c27 ?k27 ?b27, Sc.Def.of KX G ?a28 ?l28 ?c28 ?k28 ?b28, Sc.Def.of KX G ?a29 ?l29 ?c29 ?k29 ?b29, Sc.Def.of KX G ?a30 ?l30 ?c30 ?k30 ?b30, 
      Sc.Def.of KX G ?a31 ?l31 ?c31 ?k31 ?b31, Sc.Def.of KX G ?a32 ?l32 ?c32 ?k32 ?b32, Sc.Def.of KX G ?a33 ?l33 ?c33 ?k33 ?b33, Sc.Def.of KX G ?a34 ?l34 ?c34 ?k34 ?b34, PySem.W.mg_none_of KX G ?z0, 
      PySem.W.mg_none_of KX G ?z1, PySem.W.mg_none_of KX G ?z2, PySem.W.mg_none_of KX G ?z3, PySem.W.mg_none_of KX G ?z4, PySem.W.mg_none_of KX G ?z5, PySem.W.mg_none_of KX G ?z6, PySem.W.mg_none_of KX G ?z7, 
      PySem.W.mg_none_of KX G ?z8, PySem.W.mg_none_of KX G ?z9, PySem.W.mg_none_of KX G ?z10, PySem.W.mg_none_of KX G ?z11, PySem.W.mg_none_of KX G ?z12, PySem.W.mg_none_of KX G ?z13, PySem.W.mg_none_of KX G ?z14, 
      PySem.W.mg_none_of KX G ?z15, PySem.W.mg_none_of KX G ?z16⟩ ?aC ?m1 ?i1 ?n1 ?o1 ?p1 ?m2 ?i2 ?n2 ?o2 ?p2 ?pg ?hd ?po ?sa ?mk ?kc ?nB ?nL ?a ?l ?c ?k
    (case b0 => exact fun _ _ _ _ _ _ us hl => match us, hl with | [_], _ => rfl)
    (case b1 => exact fun _ _ _ _ _ _ us hl => match us, hl with | [_], _ => rfl)
    (case b2 => exact fun _ _ _ _ _ _ us hl => match us, hl with | [_], _ => rfl)
    (case b3 => exact fun _ _ _ _ _ _ us hl => match us, hl with | [_], _ => rfl)
    (case b4 => exact fun _ _ _ _ _ _ us hl => match us, hl with | [_], _ => rfl)
    (case b5 => exact fun _ _ _ _ _ _ us hl => match us, hl with | [_], _ => rfl)
    (case b6 => exact fun _ _ _ _ _ _ us hl => match us, hl with | [_], _ => rfl)
    (case b7 => exact fun _ _ _ _ _ _ us hl => match us, hl with | [_, _], _ => rfl)
    (case b8 => exact fun _ _ _ _ _ _ us hl => match us, hl with | [_], _ => rfl)
    (case b9 => exact fun _ _ _ _ _ _ us hl => match us, hl with | [_], _ => rfl)
    (case b10 => exact fun _ _ _ _ _ _ us hl => match us, hl with | [_], _ => rfl)
    (case b11 => exact fun _ _ _ _ _ _ us hl => match us, hl with | [_], _ => rfl)
    (case b12 => exact fun _ _ _ _ _ _ us hl => match us, hl with | [_, _, _], _ => rfl)
    (case b13 => exact fun _ _ _ _ _ _ us hl => match us, hl with | [_, _, _], _ => rfl)
    (case b14 => exact fun _ _ _ _ _ _ us hl => match us, hl with | [_, _, _], _ => rfl)
    (case b15 => exact fun _ _ _ _ _ _ us hl => match us, hl with | [_, _, _], _ => rfl)
    (case b16 => exact fun _ _ _ _ _ _ us hl => match us, hl with | [_, _], _ => rfl)
    (case b17 => exact fun _ _ _ _ _ _ us hl => match us, hl with | [_, _, _], _ => rfl)
    (case b18 => exact fun _ _ _ _ _ _ us hl => match us, hl with | [_, _, _], _ => rfl)
    (case b19 => exact fun _ _ _ _ _ _ us hl => match us, hl with | [_, _], _ => rfl)
    (case b20 => exact fun _ _ _ _ _ _ us hl => match us, hl with | [_, _, _], _ => rfl)
    (case b21 => exact fun _ _ _ _ _ _ us hl => match us, hl with | [_, _, _], _ => rfl)
    (case b22 => exact fun _ _ _ _ _ _ us hl => match us, hl with | [_, _, _], _ => rfl)
    (case b23 => exact fun _ _ _ _ _ _ us hl => match us, hl with | [_, _, _], _ => rfl)
    (case b24 => exact fun _ _ _ _ _ _ us hl => match us, hl with | [_, _, _], _ => rfl)
    (case b25 => exact fun _ _ _ _ _ _ us hl => match us, hl with | [_, _, _], _ => rfl)
    (case b26 => exact fun _ _ _ _ _ _ us hl => match us, hl with | [_], _ => rfl)
    (case b27 => exact fun _ _ _ _ _ _ us hl => match us, hl with | [_, _, _], _ => rfl)
    (case b28 => exact fun _ _ _ _ _ _ us hl => match us, hl with | [_, _], _ => rfl)
    (case b29 => exact fun _ _ _ _ _ _ us hl => match us, hl with | [_, _, _], _ => rfl)
    (case b30 => exact fun _ _ _ _ _ _ us hl => match us, hl with | [_, _, _, _], _ => rfl)
    (case b31 => exact fun _ _ _ _ _ _ us hl => match us, hl with | [_], _ => rfl)
    (case b32 => exact fun _ _ _ _ _ _ us hl => match us, hl with | [_, _], _ => rfl)
    (case b33 => exact fun _ _ _ _ _ _ us hl => match us, hl with | [_, _], _ => rfl)
    (case b34 => exact fun _ _ _ _ _ _ us hl => match us, hl with | [_, _], _ => rfl)
    (case a0 => k_is); (case l0 => k_is); (case c0 => k_is); (case k0 => k_is)
    (case a1 => k_is); (case l1 => k_is); (case c1 => k_is); (case k1 => k_is)
    (case a2 => k_is); (case l2 => k_is); (case c2 => k_is); (case k2 => k_is)
    (case a3 => k_is); (case l3 => k_is); (case c3 => k_is); (case k3 => k_is)
    (case a4 => k_is); (case l4 => k_is); (case c4 => k_is); (case k4 => k_is)
    (case a5 => k_is); (case l5 => k_is); (case c5 => k_is); (case k5 => k_is)
    (case a6 => k_is); (case l6 => k_is); (case c6 => k_is); (case k6 => k_is)
    (case a7 => k_is); (case l7 => k_is); (case c7 => k_is); (case k7 => k_is)
    (case a8 => k_is); (case l8 => k_is); (case c8 => k_is); (case k8 => k_is)
    (case a9 => k_is); (case l9 => k_is); (case c9 => k_is); (case k9 => k_is)
    (case a10 => k_is); (case l10 => k_is); (case c10 => k_is); (case k10 => k_is)
    (case a11 => k_is); (case l11 => k_is); (case c11 => k_is); (case k11 => k_is)
    (case a12 => k_is); (case l12 => k_is); (case c12 => k_is); (case k12 => k_is)
    (case a13 => k_is); (case l13 => k_is); (case c13 => k_is); (case k13 => k_is)
    (case a14 => k_is); (case l14 => k_is); (case c14 => k_is); (case k14 => k_is)
    (case a15 => k_is); (case l15 => k_is); (case c15 => k_is); (case k15 => k_is)
    (case a16 => k_is); (case l16 => k_is); (case c16 => k_is); (case k16 => k_is)
    (case a17 => k_is); (case l17 => k_is); (case c17 => k_is); (case k17 => k_is)
    (case a18 => k_is); (case l18 => k_is); (case c18 => k_is); (case k18 => k_is)
    (case a19 => k_is); (case l19 => k_is); (case c19 => k_is); (case k19 => k_is)
    (case a20 => k_is); (case l20 => k_is); (case c20 => k_is); (case k20 => k_is)
    (case a21 => k_is); (case l21 => k_is); (case c21 => k_is); (case k21 => k_is)
    (case a22 => k_is); (case l22 => k_is); (case c22 => k_is); (case k22 => k_is)
    (case a23 => k_is); (case l23 => k_is); (case c23 => k_is); (case k23 => k_is)
    (case a24 => k_is); (case l24 => k_is); (case c24 => k_is); (case k24 => k_is)
    (case a25 => k_is); (case l25 => k_is); (case c25 => k_is); (case k25 => k_is)
    (case a26 => k_is); (case l26 => k_is); (case c26 => k_is); (case k26 => k_is)
    (case a27 => k_is); (case l27 => k_is); (case c27 => k_is); (case k27 => k_is)
    (case a28 => k_is); (case l28 => k_is); (case c28 => k_is); (case k28 => k_is)
    (case a29 => k_is); (case l29 => k_is); (case c29 => k_is); (case k29 => k_is)
    (case a30 => k_is); (case l30 => k_is); (case c30 => k_is); (case k30 => k_is)
    (case a31 => k_is); (case l31 => k_is); (case c31 => k_is); (case k31 => k_is)
    (case a32 => k_is); (case l32 => k_is); (case c32 => k_is); (case k32 => k_is)
    (case a33 => k_is); (case l33 => k_is); (case c33 => k_is); (case k33 => k_is)
    (case a34 => k_is); (case l34 => k_is); (case c34 => k_is); (case k34 => k_is)
    (case z0 => k_is)
    (case z1 => k_is)
    (case z2 => k_is)
    (case z3 => k_is)
    (case z4 => k_is)
    (case z5 => k_is)
    (case z6 => k_is)
    (case z7 => k_is)
    (case z8 => k_is)
    (case z9 => k_is)
    (case z10 => k_is)
    (case z11 => k_is)
    (case z12 => k_is)
    (case z13 => k_is)
    (case z14 => k_is)
    (case z15 => k_is)
    (case z16 => k_is)
    (case aC => k_is)
    (case m1 => k_is); (case i1 => k_is); (case n1 => k_is); (case o1 => k_is); (case p1 => k_is)
    (case m2 => k_is); (case i2 => k_is); (case n2 => k_is); (case o2 => k_is); (case p2 => k_is)
    (case pg => k_is); (case hd => k_is); (case po => k_is); (case sa => k_is); (case mk => k_is); (case kc => k_is); (case nB => k_is); (case nL => k_is)
    (case a => k_is); (case l => k_is); (case c => k_is); (case k => k_is)
