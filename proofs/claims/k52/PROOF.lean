import PyProof.Rows.All
import Wide.All
import OpenK.AllK
import Wide.FinOn
import HandS.Deep
import HandS.ForMost
import HandS.Set
import HandS.SetFor
import HandS.More
import HandS.Wide
import HandS.IsInst
import HandS.WordsDict
import HandS.FStr
import HandS.TupAny
import HandS.AnyAll
import HandS.ForExc
import HandS.WordsExc
import HandS.ExcIs
import HandS.RaiseMore
import HandS.ExcOwn
import PyProof.ExcBaseAll.ValueError
import HandS.WordsList
import HandS.CallLocal
import HandS.Zip
import HandS.ListItems
import KE.KDictZip
import KE.KTurns
import HandS.Strs
import PyProof.DictUpdate
import HandS.EndTab
import HandS.HeadHook3
import PySem.Challenge.RW_soothcheck_k52_whole_programs_that_are_r
set_option Elab.async false
set_option linter.all false
set_option maxRecDepth 100000
set_option maxHeartbeats 4000000

namespace Sc
open PySem PySem.Spec PyProof.Rows L2
/-! sets of texts: set(a list of texts), sorted of that -/
def txOf (c : Int × Value) : Str := match c.2 with | .str x _ => x | _ => Str.empty
def TxE (w : World) (c : Int × Value) : Prop := ∃ x tk, c.2 = Value.str x tk ∧ c.1 = hashStr w x
/-- a set of texts stands at a: which, how many; it can be walked -/
def TxSet (w : World) (h : Heap) (a : Addr) (S : Str → Bool) (n : Nat) : Prop :=
  ∃ ob cs ver tb, h.get? a = some ob ∧ ob.ExactSet ∧ ob.data = .set cs ver tb ∧ (∀ c ∈ cs.toList, TxE w c) ∧ (cs.toList.map txOf).Nodup ∧
    (∀ x, S x = true ↔ x ∈ cs.toList.map txOf) ∧ cs.size < scanBound ∧ tb.fits cs.size = true ∧ cs.size = n ∧ Ris tb.place.toList ∧
    (w.params.followText "set-order" = true ∨ tb.led = true)
section
variable {P : Program} {w : World} {h h' : Heap} {a : Addr} {S : Str → Bool} {n : Nat}
theorem TxSet.keep (R : TxSet w h a S n) (kp : ∀ ob, h.get? a = some ob → h'.get? a = some ob) : TxSet w h' a S n := by
  obtain ⟨ob, cs, ver, tb, hob, more⟩ := R
  exact ⟨ob, cs, ver, tb, kp ob hob, more⟩
theorem TxSet.say {S' : Str → Bool} (R : TxSet w h a S n) (same : ∀ x, S' x = S x) : TxSet w h a S' n := (funext same : S' = S) ▸ R
theorem tx_elems {l : List (Int × Value)} (g : ∀ c ∈ l, TxE w c) : ElemsOf (strKind P w) l := fun c hc => by
  obtain ⟨x, tk, h1, h2⟩ := g c hc
  refine ⟨⟨x, ?_, h2⟩, by rw [h1] <;> rfl⟩
  rw [h1]
  show Value.isStrOf x (.str x tk) = true
  simp [Value.isStrOf]
theorem tx_is {c : Int × Value} (g : TxE w c) (x : Str) : (strKind P w).is x c.2 = true ↔ txOf c = x := by
  obtain ⟨y, tk, h1, _⟩ := g
  unfold txOf
  rw [h1]
  show Value.isStrOf x (.str y tk) = true ↔ y = x
  constructor
  · intro q
    obtain ⟨t, e⟩ := Value.isStrOf_shape (x := x) (v := Value.str y tk) q
    injection e
  · rintro rfl
    simp [Value.isStrOf]
theorem tx_mem {l : List (Int × Value)} (g : ∀ c ∈ l, TxE w c) (x : Str) : x ∈ l.map txOf ↔ ∃ c ∈ l, (strKind P w).is x c.2 = true := by
  refine List.mem_map.trans ⟨fun ⟨c, hc, q⟩ => ⟨c, hc, (tx_is (g c hc) x).2 q⟩, fun ⟨c, hc, q⟩ => ⟨c, hc, (tx_is (g c hc) x).1 q⟩⟩
end
section
variable {P : Program} {w : World} {A : Around} {E : Value → Shared → Prop} {s : Shared} {a : Addr} {S : Str → Bool} {n : Nat}
theorem tx_add_tail {note : Bool → Sem Unit} (hnote : ∀ (b : Bool) (s1 : Shared) (R : Unit → Shared → Prop), R () s1 → wpAny (model P w) A (note b) R E s1)
    {ob : Obj} {cs : Array (Int × Value)} {ver : Nat} {tb : SetTable} (hob : s.heap.get? a = some ob) (ex : ob.ExactSet) (dt : ob.data = .set cs ver tb)
    {cs1 : Array (Int × Value)} {tb1 : SetTable} {S1 : Str → Bool} (gd : ∀ c ∈ cs1.toList, TxE w c) (nd : (cs1.toList.map txOf).Nodup) (mm : ∀ x, S1 x = true ↔ x ∈ cs1.toList.map txOf)
    (few : cs1.size < scanBound) (ft : tb1.fits cs1.size = true) (ri : Ris tb1.place.toList) (ld : w.params.followText "set-order" = true ∨ tb1.led = true) {dummy : Bool} {R : Option Bool → Shared → Prop}
    (fin : ∀ h', Heap.SameBut a s.heap h' → TxSet w h' a S1 cs1.size → R (some true) { s with heap := h' }) :
    wpAny (model P w) A (do
        storeSet a cs1 tb1
        if (!dummy && tb1.tooFull) = true then do
            note (relayAll tb1 cs1 (SetTable.grown cs1.size)).2.2
            storeSet a (relayAll tb1 cs1 (SetTable.grown cs1.size)).1 (relayAll tb1 cs1 (SetTable.grown cs1.size)).2.1
            pure (some true)
          else pure (some true)) R E s := by
  refine wpAny_bind (wpAny_storeSet_of hob dt ?_ (fits_of_scanBound few))
  have at1 := L2.store_at (es' := cs1) (t' := tb1) hob dt
  have sb := Heap.SameBut.update s.heap a (Obj.putSet cs1 tb1)
  by_cases hfull : (!dummy && tb1.tooFull) = true
  · rw [if_pos hfull]
    have r1 := relayAll_perm tb1 cs1 (SetTable.grown cs1.size)
    have r2 := relayAll_fits tb1 cs1 (SetTable.grown cs1.size)
    have r3 := relayAll_ris tb1 cs1 (SetTable.grown cs1.size)
    have r4 := relayAll_led tb1 cs1 (SetTable.grown cs1.size)
    generalize relayAll tb1 cs1 (SetTable.grown cs1.size) = Y at r1 r2 r3 r4 ⊢
    obtain ⟨cs2, tb2, way⟩ := Y
    dsimp only at r1 r2 r3 r4 ⊢
    have sz : cs2.size = cs1.size := by rw [← Array.length_toList, ← Array.length_toList]; exact r1.length_eq
    have few2 : cs2.size < scanBound := sz ▸ few
    refine wpAny_bind (hnote _ _ _ (wpAny_bind (wpAny_storeSet_of at1 rfl ?_ (fits_of_scanBound few2))))
    have at2 := L2.store_at (es' := cs2) (t' := tb2) at1 rfl
    refine wpAny_pure (fin _ (sb.trans (Heap.SameBut.update _ a _)) ⟨_, cs2, _, tb2, at2, ex, rfl, fun c hc => gd c (r1.mem_iff.mp hc), ?_, fun x => ?_, few2, r2, sz, r3, ?_⟩)
    · exact (r1.map txOf).nodup_iff.mpr nd
    · exact (mm x).trans (r1.map txOf).mem_iff.symm
    · exact ld.imp id fun z => r4 ▸ z
  · rw [if_neg hfull]
    exact wpAny_pure (fin _ sb ⟨_, cs1, _, tb1, at1, ex, rfl, gd, nd, mm, few, ft, rfl, ri, ld⟩)
theorem tx_add {x : Str} {tk : Tok} {Q : Bool → Shared → Prop} (R : TxSet w s.heap a S n) (room : n + 1 < scanBound)
    (fin : ∀ h', Heap.SameBut a s.heap h' → TxSet w h' a (fun y => S y || decide (y = x)) (if S x = true then n else n + 1) → Q (!S x) { s with heap := h' }) :
    wpAny (model P w) A (setAddHashed a (.str x tk) ((strKind P w).hash x)) Q E s := by
  obtain ⟨ob, cs, ver, tb, hob, ex, dt, gd, nd, mm, few, ft, sz, ri, ld⟩ := R
  have isx : (strKind P w).is x (.str x tk) = true := by
    show Value.isStrOf x (.str x tk) = true
    simp [Value.isStrOf]
  have scn : (Value.str x tk).scannable = true := rfl
  have els : ElemsOf (strKind P w) cs.toList := tx_elems gd
  unfold setAddHashed setAddHashedIn
  refine wpAny_holding (wpAny_bind (wpAny_setState_of hob dt ft ?_))
  dsimp only
  rw [byScan_of scn few els]
  simp only [↓reduceIte]
  unfold setAddByScan
  refine wpAny_bind (wpAny_bind (wpAny_rule (wpAny_bind (wpAny_setScan_of isx hob dt ft els ?_))))
  cases found : List.findIdx? (fun e => (strKind P w).is x e.2) cs.toList with
  | some j =>
    dsimp only
    obtain ⟨lt, yes, _⟩ := List.findIdx?_eq_some_iff_getElem.mp found
    have inS : S x = true := (mm x).2 ((tx_mem (P := P) (w := w) gd x).2 ⟨cs.toList[j], List.getElem_mem lt, yes⟩)
    refine wpAny_pure (wpAny_pure ?_)
    have z := fin s.heap (Heap.SameBut.refl a s.heap) ⟨ob, cs, ver, tb, hob, ex, dt, gd, nd, fun y => ?_, few, ft, by rw [if_pos inS]; exact sz, ri, ld⟩
    · rw [inS] at z
      exact z
    · rw [Bool.or_eq_true, decide_eq_true_eq, ← mm y]
      exact ⟨fun o => o.elim id fun e => e ▸ inS, .inl⟩
  | none =>
    dsimp only
    have out : x ∉ cs.toList.map txOf := fun z => by
      obtain ⟨c, hc, q⟩ := (tx_mem (P := P) (w := w) gd x).1 z
      exact absurd q (by rw [List.findIdx?_eq_none_iff.mp found c hc]; exact Bool.false_ne_true)
    have outS : S x = false := Bool.eq_false_iff.mpr fun q => out ((mm x).1 q)
    have gave : ∀ (b : Bool) {s1 : Shared} {R : Unit → Shared → Prop}, R () s1 → wpAny (model P w) A (match b with | true => rule "set.scan.the-table-gave-way" | false => pure ()) R E s1 :=
      fun b s1 R q => by cases b <;> first | exact wpAny_pure q | exact wpAny_rule q
    have l1 := layNew_perm tb cs ((strKind P w).hash x) (.str x tk)
    have l2 := layNew_fits tb cs ((strKind P w).hash x) (.str x tk)
    have l3 := layNew_ris tb cs ((strKind P w).hash x) (.str x tk) ri
    have l4 := layNew_led tb cs ((strKind P w).hash x) (.str x tk)
    generalize layNew tb cs ((strKind P w).hash x) (.str x tk) = Y at l1 l2 l3 l4 ⊢
    obtain ⟨cs1, tb1, dummy, way⟩ := Y
    dsimp only at l1 l2 l3 l4 ⊢
    rw [Array.toList_push] at l1
    have pm : cs1.toList.Perm (((strKind P w).hash x, Value.str x tk) :: cs.toList) := l1.trans (List.perm_append_singleton _ _)
    have pk : (cs1.toList.map txOf).Perm (x :: cs.toList.map txOf) := pm.map txOf
    have gd1 : ∀ c ∈ cs1.toList, TxE w c := fun c hc => (List.mem_cons.mp (pm.mem_iff.mp hc)).elim (fun z => z ▸ ⟨x, tk, rfl, rfl⟩) (gd c)
    have ndd : (cs1.toList.map txOf).Nodup := pk.nodup_iff.mpr (List.nodup_cons.mpr ⟨out, nd⟩)
    have mm1 : ∀ y, (S y || decide (y = x)) = true ↔ y ∈ cs1.toList.map txOf := fun y => by
      rw [pk.mem_iff, List.mem_cons, ← mm y, Bool.or_eq_true, decide_eq_true_eq]
      exact Or.comm
    have sz1 : cs1.size = n + 1 := by rw [← sz, ← Array.length_toList, pm.length_eq, List.length_cons, Array.length_toList]
    have few1 : cs1.size < scanBound := sz1 ▸ room
    have ld1 : w.params.followText "set-order" = true ∨ tb1.led = true := ld.imp id fun z => l4 ▸ z
    have done : ∀ h', Heap.SameBut a s.heap h' → TxSet w h' a (fun y => S y || decide (y = x)) cs1.size → Q true { s with heap := h' } := fun h' sb r => by
      have z := fin h' sb
      rw [outS] at z
      exact z (sz1 ▸ r)
    refine wpAny_bind (gave _ ?_)
    split
    · refine wpAny_bind ?_
      rw [hashByValue_scannable 8 scn]
      refine wpAny_pure (tx_add_tail (fun b s1 R q => ?_) hob ex dt gd1 ndd mm1 few1 ?_ ?_ ?_ fun h' sb r => ?_)
      · cases b <;> first | exact wpAny_pure q | exact wpAny_rule q
      · first | (split <;> first | exact l2 | exact SetTable.fits_plain_off l2) | exact l2
      · first | (split <;> exact l3) | exact l3
      · first | (split <;> exact ld1) | exact ld1
      · dsimp only
        exact wpAny_pure (done h' sb r)
    · refine wpAny_bind (wpAny_pure ?_)
      simp only [↓reduceIte]
      refine tx_add_tail (fun b s1 R q => ?_) hob ex dt gd1 ndd mm1 few1 l2 l3 ld1 fun h' sb r => ?_
      · cases b <;> first | exact wpAny_pure q | exact wpAny_rule q
      · dsimp only
        exact wpAny_pure (done h' sb r)
end

/-! the loop of update, the call set(l), sorted -/
abbrev bareSet (w : World) : Obj := { cls := .type "set", dict := none, data := .set #[] 0 (.fresh 0 0 (!w.params.followText "set-order")) }
theorem tx_bare {w : World} {h : Heap} {a : Addr} {zs : List Str} (hob : h.get? a = some (bareSet w)) : TxSet w h a (fun y => decide (y ∈ zs.take 0)) 0 := by
  refine ⟨_, #[], 0, _, hob, ⟨rfl, rfl, rfl⟩, rfl, ?_, ?_, ?_, by decide, by rfl, rfl, List.Pairwise.nil, ?_⟩
  · intro c hc
    simp at hc
  · simp
  · intro x
    simp
  · show _ ∨ (!w.params.followText "set-order") = true
    cases w.params.followText "set-order" <;> simp
section
variable {P : Program} {w : World} {A : Around} {E : Value → Shared → Prop} {s : Shared}
theorem tx_update {it : Addr} {fp wr : List Addr} {G : Array GenState → Array GenState → Prop} {n : Nat} {Pv : Nat → Value → Prop} {At : Nat → Shared → Prop} {R : Result → Shared → Prop}
    (W : WalksS P w A.in1 it fp wr G n Pv At) (d : Addr) (apart : d ∉ fp) (zs : List Str) (en : n = zs.length) (room : zs.length + 1 < scanBound) (item : ∀ i v, Pv i v → ∃ x t, zs[i]? = some x ∧ v = .str x t) :
    ∀ (left i : Nat) (s : Shared), n - i = left → i ≤ n → At i s → (∃ m, m ≤ i ∧ TxSet w s.heap d (fun y => decide (y ∈ zs.take i)) m) →
      (∀ s' m, Moved (d :: wr) G s s' → m ≤ n → TxSet w s'.heap d (fun y => decide (y ∈ zs)) m → R (.ok (.ret .none)) s') →
      codeAny (model P w) A (.builtin "set.update.loop" ⟨[.ref d, .ref it], []⟩) R s := by
  have dw : d ∉ wr := fun z => apart (W.sub _ z)
  have more : ∀ b ∈ wr, b ∈ d :: wr := fun b z => List.mem_cons_of_mem _ z
  intro left
  induction left with
  | zero =>
    intro i s el le at_ ⟨m, hm, R0⟩ go
    have ei : i = n := by omega
    subst ei
    refine codeAny_builtin PyProof.Rows.F.entry_set_update_loop ?_
    rw [Around.under_plainId PyProof.Rows.F.plain_set_update_loop _]
    show wpAny _ A.in1 (pyNext (.ref it) >>= _) _ _ s
    refine wpAny_bind (W.done s _ _ at_ fun s' mv => ?_)
    show wpAny _ A.in1 (ret Value.none) _ _ s'
    rw [show zs.take i = zs from List.take_of_length_le (by omega)] at R0
    exact wpAny_pure (go s' m (mv.mono more) hm (R0.keep fun ob e => mv.heap d ob dw e))
  | succ left ih =>
    intro i s el le at_ ⟨m, hm, R0⟩ go
    have lt : i < n := by omega
    refine codeAny_builtin PyProof.Rows.F.entry_set_update_loop ?_
    rw [Around.under_plainId PyProof.Rows.F.plain_set_update_loop _]
    show wpAny _ A.in1 (pyNext (.ref it) >>= _) _ _ s
    refine wpAny_bind (W.item i s _ _ lt at_ fun v s1 pv at1 mv => ?_)
    obtain ⟨x, t, hx, rfl⟩ := item i v pv
    have R1 : TxSet w s1.heap d (fun y => decide (y ∈ zs.take i)) m := R0.keep fun ob e => mv.heap d ob dw e
    show wpAny _ A.in1 (holding [Value.str x t] (setAdd d (.str x t)) >>= _) _ _ s1
    refine wpAny_bind (wpAny_holding ?_)
    unfold setAdd
    refine wpAny_holding (wpAny_bind ((strKind P w).pyHash (k := x) (v := .str x t) ?_ ?_))
    · show Value.isStrOf x (.str x t) = true
      simp [Value.isStrOf]
    refine tx_add (s := { s1 with toks := s1.toks + 1 }) R1 (by omega) fun h2 sb R2 => ?_
    have R3 : TxSet w h2 d (fun y => decide (y ∈ zs.take (i + 1))) (if decide (x ∈ zs.take i) = true then m else m + 1) := R2.say fun y => by
      rw [List.take_add_one, hx]
      simp [List.mem_append]
    have hm3 : (if decide (x ∈ zs.take i) = true then m else m + 1) ≤ i + 1 := by split <;> omega
    refine wpAny_pure ⟨plainId_quiet PyProof.Rows.F.plain_set_update_loop _, ih (i + 1) _ (by omega) lt (W.frame _ s1 _ _ at1 (Nat.le_succ _) fun b hb ob e => ?_) ⟨_, hm3, R3⟩ fun s3 m3 mv3 le3 R4 => ?_⟩
    · exact (sb.2 b fun z => apart (z ▸ hb)).trans e
    · refine go s3 m3 (Moved.trans W.gtrans ((mv.mono more).then_heap (Nat.le_succ _) fun b ob hb e => ?_) mv3) le3 R4
      exact (sb.2 b fun z => hb (z ▸ List.mem_cons_self)).trans e
theorem tx_item : ∀ {us : List Value} {zs : List Str}, StrsAre us zs → ∀ (i : Nat) (v : Value), us[i]? = some v → ∃ x t, zs[i]? = some x ∧ v = .str x t
  | _, _, .nil, i, v, hi => by simp at hi
  | _, _, .cons x t _, 0, v, hi => ⟨x, t, rfl, by simpa using hi.symm⟩
  | _, _, .cons _ _ rest, i + 1, v, hi => by simpa using tx_item rest i v (by simpa using hi)
/-- set(l), l a list of texts -/
theorem call_set_txs {l : Addr} {items : Array Value} (zs : List Str) {Q : Value → Shared → Prop} (calm : A.handled = none) (hl : s.heap.IsList l items) (hit : StrsAre items.toList zs) (room : zs.length + 1 < scanBound)
    (fin : ∀ (h' : Heap) (tk m : Nat), TxSet w h' s.heap.objs.size (fun y => decide (y ∈ zs)) m → m ≤ zs.length → (∀ b ob, s.heap.get? b = some ob → h'.get? b = some ob) → Q (.ref s.heap.objs.size) { s with heap := h', toks := tk }) :
    wpAny (model P w) A (call (.type "set") [.ref l]) Q E s := by
  have isz : items.size = zs.length := by
    have z := hit.length
    rw [Array.length_toList] at z
    exact z
  obtain ⟨c, tl, hmro⟩ := F.called_set.mro
  have hmade := F.called_set.made
  have hsub := F.called_set.sub
  refine wpAny_call (codeAny_of_tree ?_)
  show wpAny _ _ (callAny (.type "set") _) _ _ _
  refine wpAny_pure ⟨Code.quiet_builtin _ (by decide +kernel), codeAny_builtin F.entry_type_call ?_⟩
  rw [Around.under_plain (weight_type_call_type "set" [.ref l] []) rfl]
  have no_t := F.called_set.notType
  have can := F.called_set.canCreate
  have chk := PySem.F.typeCall_set_1 (.ref l)
  repeat (any_goals (first | assumption | wp_step))
  refine codeAny_mono (code_set_led1 (.ref l) (E := E) (Q₁ := fun obj s1 => obj = .ref s.heap.objs.size ∧ s1 = { s with heap := s.heap.push (bareSet w) }) ⟨rfl, rfl⟩) fun r s1 hr => ?_
  cases r with
  | error e => exact hr
  | ok fl =>
  cases fl with
  | next => exact hr.elim
  | brk => exact hr.elim
  | cont => exact hr.elim
  | ret obj =>
  obtain ⟨rfl, rfl⟩ := hr
  have atS : (s.heap.push (bareSet w)).get? s.heap.objs.size = some (bareSet w) := Heap.get?_push_size _ rfl
  have tyS : Shared.TypeIs { s with heap := s.heap.push (bareSet w) } (.ref s.heap.objs.size) "set" := ⟨_, atS, rfl⟩
  have ini := F.called_set.init.lookup
  have inb := F.called_set.init.bind (.ref s.heap.objs.size)
  repeat (any_goals (first | assumption | wp_step))
  refine codeAny_mono (codeAny_call_builtin (R := wants (fun r s2 => r = .none ∧ ∃ h' tk m, s2 = { s with heap := h', toks := tk } ∧ TxSet w h' s.heap.objs.size (fun y => decide (y ∈ zs)) m ∧ m ≤ zs.length ∧
      (∀ b ob, s.heap.get? b = some ob → h'.get? b = some ob)) E) F.called_set.init.plain F.entry_set_init (check_set_init_1 tyS ?_)) fun r2 s2 hr2 => ?_
  · obtain ⟨ob, hob, hc, nl, hd⟩ := hl
    obtain ⟨k1, k2, k3, k4⟩ := ob
    simp only at hc hd
    subst hc hd
    have ob1 : (s.heap.push (bareSet w)).get? l = some { cls := .type "list", dict := k2, data := .seq items nl, slots := k4 } := Heap.get?_push_of_some _ hob
    have not1 := F.sub_list_set
    have not2 := F.sub_list_frozenset
    have not3 : (Value.type "list" == Value.type "dict") = false := by decide
    have l1 : (s.heap.push (bareSet w)).IsList l items := ⟨_, ob1, rfl, nl, rfl⟩
    unfold Builtin.«set.__init__» noKeywords Builtin.Frozenset.updateFrom
    generalize hIt : pyIter = It
    wp_walk
    subst hIt
    refine wpAny_pyIter_list l1 (wpAny_bind (wpAny_runValue ?_))
    have low : l < s.heap.objs.size := Heap.lt_size hob
    have calm3 : A.in1.in1.in1.handled = none := by simp [calm]
    have one : (s.heap.push (bareSet w)).objs.size = s.heap.objs.size + 1 := Heap.size_push ..
    have n1 : l ≠ (s.heap.push (bareSet w)).objs.size := Nat.ne_of_lt (by rw [one]; exact Nat.lt_succ_of_lt low)
    have n2 : s.heap.objs.size ∉ [(s.heap.push (bareSet w)).objs.size, l] := by
      rw [List.mem_cons, List.mem_singleton, one]
      exact fun z => z.elim (Nat.ne_of_lt (Nat.lt_succ_self _)) (Nat.ne_of_gt low)
    refine tx_update ((Walks.list calm3 _ l n1 items).toS) s.heap.objs.size n2 zs isz room (fun i v hv => tx_item hit i v (by rw [Array.getElem?_toList]; exact hv)) (items.size - 0) 0 _ (by omega) (Nat.zero_le _)
      ⟨⟨_, Heap.get?_push_size _ rfl, rfl, rfl⟩, (l1.push _)⟩ ⟨0, Nat.le_refl 0, tx_bare (Heap.get?_push_of_some _ atS)⟩ ?_
    intro s3 m mv hm R3
    obtain ⟨h3, g3, d3, t3, o3⟩ := s3
    have z1 : g3 = s.gens := mv.gens
    have z2 : d3 = s.drawn := mv.drawn
    have z3 : o3 = s.os := mv.os
    subst z1 z2 z3
    show wpAny _ _ _ _ _ _
    refine wpAny_pure ?_
    show wpAny _ _ (ret Value.none) _ _ _
    refine wpAny_pure ⟨rfl, h3, t3, m, rfl, R3, isz ▸ hm, fun b ob e => ?_⟩
    have lb : b < s.heap.objs.size := Heap.lt_size e
    refine mv.heap b ob ?_ (Heap.get?_push_of_some _ (Heap.get?_push_of_some _ e))
    rw [List.mem_cons, List.mem_singleton, one]
    exact fun z => z.elim (Nat.ne_of_lt lb) (Nat.ne_of_lt (Nat.lt_succ_of_lt lb))
  · cases r2 with
    | error e => exact hr2
    | ok fl2 =>
    cases fl2 with
    | next => exact hr2.elim
    | brk => exact hr2.elim
    | cont => exact hr2.elim
    | ret r =>
    obtain ⟨rfl, h', tk, m, rfl, R2, hm, kp⟩ := hr2
    repeat (any_goals (first | assumption | wp_step))
    exact fin _ _ _ R2 hm kp

/-- sorted(d), d a set of texts -/
theorem call_sorted_txs {d : Addr} {S : Str → Bool} {n : Nat} {Q : Value → Shared → Prop} (R : TxSet w s.heap d S n) (calm : A.handled = none) (few : n < 64)
    (fin : ∀ s' p (out : Array Value) (c : Nat) (ys : List Str), (∀ b ob, s.heap.get? b = some ob → s'.heap.get? b = some ob) → s'.gens = s.gens → s'.os = s.os → s.heap.objs.size ≤ p →
      s'.heap.get? p = some (seqObj "list" out c) → StrsAre out.toList ys → sortedS ys = true → ys.Nodup → (∀ x, x ∈ ys ↔ S x = true) → ys.length = n → Q (.ref p) s') :
    wpAny (model P w) A (call (.builtin "sorted") [.ref d]) Q E s := by
  obtain ⟨ob, cs, ver, tb, hob, ex, dt, gd, nd, mm, sb, ft, sz, ri, ld⟩ := R
  refine Calls.call_function_entry PyProof.Rows.kind_sorted PyProof.Rows.plain_sorted PyProof.Rows.entry_sorted (PyProof.Rows.args_sorted1 _) ?_
  unfold Builtin.«sorted»
  refine wpAny_bind (m := checkCount "sorted" 1 1 _) (wpAny_pure ?_)
  refine wpAny_bind (collect_set (A := A.in1) calm ⟨ob, hob, ex.1, dt⟩ ft sb ri ld fun s1 us kp hz hg ho pm => ?_)
  have lu : us.length = n := by rw [pm.length_eq, List.length_map, Array.length_toList]; exact sz
  have txs : ∀ (ws : List Value), (∀ v ∈ ws, ∃ c ∈ cs.toList, v = c.2) → ∃ zs, StrsAre ws zs ∧ zs = ws.map fun v => txOf (0, v) := by
    intro ws
    induction ws with
    | nil => exact fun _ => ⟨[], .nil, rfl⟩
    | cons v ws ih =>
      intro al
      obtain ⟨zs, h1, h2⟩ := ih fun u hu => al u (List.mem_cons_of_mem _ hu)
      obtain ⟨c, hc, rfl⟩ := al v List.mem_cons_self
      obtain ⟨x, tk, e, _⟩ := gd c hc
      refine ⟨x :: zs, ?_, ?_⟩
      · rw [e]; exact .cons x tk h1
      · rw [List.map_cons, ← h2]
        unfold txOf
        rw [e]
  obtain ⟨zs, hS, ez⟩ := txs us fun v hv => by
    obtain ⟨c, hc, e⟩ := List.mem_map.mp (pm.mem_iff.mp hv)
    exact ⟨c, hc, e.symm⟩
  have pz : zs.Perm (cs.toList.map txOf) := by
    rw [ez]
    have z := pm.map fun v => txOf ((0 : Int), v)
    rw [List.map_map] at z
    exact z
  refine wpAny_bind (wpAny_newList ?_ (by rw [lu, sizeLine_eq]; omega))
  have atL : (s1.heap.push (seqObj "list" us.toArray 0)).get? s1.heap.objs.size = some (seqObj "list" us.toArray 0) := Heap.get?_push_size _ rfl
  refine wpAny_bind (wpAny_holding (wpAny_call_entry PyProof.Rows.slot_list_sort ⟨_, atL, rfl⟩ PyProof.Rows.entry_list_sort
    (list_sort_treeK strKind_oneLt atL hS.keysOf (fun u1 u2 more e => keyKind_strs (by rw [← e]; exact hS)) (by rw [lu]; exact few) fun st pp sp => ⟨_, rfl, ?_⟩) (PyProof.Rows.args_list_sort _)))
  obtain ⟨ys, g1, g2, g3⟩ := sorted_out_str hS pp sp
  obtain ⟨c, hc⟩ := PyProof.Rows.sortedHeap_at (vs := us) (out := (arrOf st).map (·.2)) atL
  have py := g2.trans pz
  refine wpAny_pure ⟨_, rfl, fin _ s1.heap.objs.size ((arrOf st).map (·.2)) c ys (fun b u e => ?_) hg ho hz hc g1 g3 (py.nodup_iff.mpr nd) (fun x => py.mem_iff.trans (mm x).symm) ?_⟩
  · have lt := Heap.lt_size (kp b u e)
    show (PyProof.Rows.sortedHeap (s1.heap.push (seqObj "list" us.toArray 0)) s1.heap.objs.size us _).get? b = some u
    rw [PyProof.Rows.sortedHeap_old (Nat.ne_of_lt lt) (by rw [size_push']; exact Nat.lt_succ_of_lt lt)]
    exact Heap.get?_push_of_some _ (kp b u e)
  · rw [py.length_eq, List.length_map, Array.length_toList]; exact sz
end
/-! as rules -/
def TxO (w : World) (a : Addr) (S : Str → Bool) (n : Nat) : HO := .ext fun h => TxSet w h a S n
section
variable {X : Cx}
def rTxSet (K : PySem.W.Frag) (w : World) : List V → Hp → VK → Prop := fun xs H Q => ∃ (l : Addr) (zs : List Str), xs = [V.ref l] ∧ SqL K H l (zs.map V.str) ∧ zs.length < 1000 ∧
  ∀ a m, H a = none → m ≤ zs.length → Q (.ref a) (upd H a (TxO w a (fun y => decide (y ∈ zs)) m))
theorem cr_txSet (hc : X.calm = true) : CallR X (.type "set") (rTxSet X.K X.w) := by
  intro pins s σ H xs us Q I r h
  obtain ⟨l, zs, rfl, hl, few, q⟩ := h
  rw [Vals.ref1 r]
  obtain ⟨its, rv, pl, hz⟩ := I.list hl
  have free : H s.heap.objs.size = none := I.hok.fresh (Nat.le_refl _)
  refine call_set_txs (P := X.prog) (w := X.w) zs (I.ok.hd hc) pl.isList rv.strs (by unfold scanBound; omega) fun h' tk m R hm kp => ?_
  have R' : ∀ H2 : Hp, ObjOk X.prog X.w H2 h' s.heap.objs.size (TxO X.w s.heap.objs.size (fun y => decide (y ∈ zs)) m) := fun H2 => by
    have ⟨ob, _, _, _, hob, _⟩ := R
    exact ⟨R, ⟨ob, hob⟩, fun h1 h2 p k => p.keep k⟩
  exact ⟨.ref s.heap.objs.size, _, I.laid (t' := tk) kp (Nat.le_refl _) (R' _), rfl, q _ m free hm⟩
def rTxSorted (w : World) : List V → Hp → VK → Prop := fun xs H Q => ∃ (d : Addr) (S : Str → Bool) (n : Nat), xs = [V.ref d] ∧ H d = some (TxO w d S n) ∧ n < 64 ∧
  ∀ (ys : List Str) (p : Addr), sortedS ys = true → ys.Nodup → (∀ x, x ∈ ys ↔ S x = true) → ys.length = n → H p = none → Q (.ref p) (upd H p (.lst (ys.map V.str)))
theorem cr_txSorted (hc : X.calm = true) : CallR X (.builtin "sorted") (rTxSorted X.w) := by
  intro pins s σ H xs us Q I r h
  obtain ⟨d, S, n, rfl, hd, few, q⟩ := h
  have R : TxSet X.w s.heap d S n := (I.hok d _ hd).1
  rw [Vals.ref1 r]
  refine call_sorted_txs (P := X.prog) R (I.ok.hd hc) few fun s' p out c ys kp hg ho hp at' hS so nd mem len => ?_
  have le : (ys.map V.str).length ≤ sizeLine := by rw [List.length_map, len, sizeLine_eq]; omega
  have free : H p = none := I.hok.fresh hp
  have J : Inv X pins σ (upd H p (.lst (ys.map V.str))) { s with heap := s'.heap, gens := s'.gens, drawn := s'.drawn, toks := s'.toks } :=
    I.call (ch := []) (Un.laid kp hp free) (I.hok.laid kp hp ⟨le, out.toList, c, vals_of_strs hS, at'⟩) (by rw [hg]; exact I.bare) (fun _ z => nomatch z)
  have e : s' = { s with heap := s'.heap, gens := s'.gens, drawn := s'.drawn, toks := s'.toks } := by
    obtain ⟨h1, h2, h3, h4, h5⟩ := s'
    cases ho
    rfl
  rw [e]
  exact ⟨.ref p, _, J, rfl, q ys p so nd mem len free⟩
end
end Sc
namespace Sc
open PySem PySem.Spec PyProof.Rows L2
/-! one sign, many times -/
def reps (c n : Nat) : Str := ⟨(List.replicate n c).toArray⟩
theorem fold_reps (c : Nat) : ∀ (n : Nat) (acc : Array Nat), (List.replicate n #[c]).foldl (· ++ ·) acc = acc ++ (List.replicate n c).toArray
  | 0, acc => by simp
  | n + 1, acc => by
    rw [List.replicate_succ, List.foldl_cons, fold_reps c n]
    apply Array.ext'
    simp [List.replicate_succ]
section
variable {X : Cx}
def rReps : V → V → Hp → VK → Prop := fun x y H Q => ∃ (c : Nat) (k : Int), x = .str ⟨#[c]⟩ ∧ y = .int k ∧ 0 ≤ k ∧ k ≤ 1000 ∧ Q (.str (reps c k.toNat)) H
theorem op_reps : OpR X (binaryOp .Mult) rReps := by
  intro pins s σ H x y v u Q I rx ry h
  obtain ⟨c, k, rfl, rfl, h0, h1, q⟩ := h
  obtain ⟨t, rfl⟩ := rx
  obtain ⟨t', rfl⟩ := ry
  have ln : (⟨#[c]⟩ : Str).length = 1 := rfl
  refine PySem.P.mul_str (by rw [decide_eq_false (by omega), decide_eq_false (by omega)]; rfl) (fun a b => ?_) (fun a b => ?_) ?_
  · rw [ln]
    have hk : k ≠ 0 := by omega
    have : 1 * k ≤ 2 ^ 63 - 1 := by omega
    have := (Int.le_ediv_iff_mul_le (a := 1) (b := 2 ^ 63 - 1) (c := k) (by omega)).mpr this
    show ¬ (1 : Int) > (2 ^ 63 - 1) / k
    omega
  · rw [ln]
    unfold Builtin.Str.tooLong
    rw [decide_eq_false]
    rw [sizeLine_eq]
    omega
  · by_cases a : k < 1
    · rw [if_pos a]
      have e : reps c k.toNat = Str.empty := by rw [show k.toNat = 0 by omega]; rfl
      rw [e] at q
      exact ⟨by decide, ⟨.str Str.empty, H, I.tok _, ⟨_, rfl⟩, q⟩⟩
    · rw [if_neg a]
      by_cases b : k = 1
      · subst b
        simp only [beq_self_eq_true, Bool.true_or, if_true]
        exact ⟨.str ⟨#[c]⟩, H, I, ⟨_, rfl⟩, q⟩
      · have e : (k == 1 || (⟨#[c]⟩ : Str).length == 0) = false := by
          rw [ln]
          simp [b]
        rw [if_neg (by rw [e]; exact Bool.false_ne_true)]
        have e2 : (⟨(List.replicate k.toNat (⟨#[c]⟩ : Str).cps).foldl (· ++ ·) #[]⟩ : Str) = reps c k.toNat := by
          unfold reps
          rw [show (⟨#[c]⟩ : Str).cps = #[c] from rfl, fold_reps]
          simp
        rw [e2]
        refine ⟨?_, ⟨.str (reps c k.toNat), H, I.tok _, ⟨_, rfl⟩, q⟩⟩
        show (reps c k.toNat).cps.size ≤ _
        unfold reps
        rw [List.size_toArray, List.length_replicate]
        first | omega | (rw [sizeLine_eq]; omega)
end

/-! ### defs that may be called, defs that stand -/
structure Cal (P : Program) (w : World) (K : PySem.W.Frag) (mg : Str → Option Value) (base : Heap) (k : Nat) (x : Str) (ps : List Str) (sp : Sp) : Prop where
  ex : ∃ f fd, FnOk P w K mg base CX0 k f fd ps sp ∧ mg x = some (.ref f) ∧ PySem.W.keepIn K (.ref f) = true ∧ Binds K fd ps []
structure Def (K : PySem.W.Frag) (mg : Str → Option Value) (x : Str) (st : Stmt) (ps : List Str) : Prop where
  ex : ∃ f fd, Fun K x x st f fd ∧ mg x = some (.ref f) ∧ Binds K fd ps []
theorem Cal.mono {P : Program} {w : World} {K : PySem.W.Frag} {mg : Str → Option Value} {base : Heap} {j k : Nat} {x : Str} {ps : List Str} {sp : Sp} (C : Cal P w K mg base j x ps sp) (h : j ≤ k) : Cal P w K mg base k x ps sp := by
  obtain ⟨f, fd, a, b⟩ := C.ex
  exact ⟨f, fd, a.mono h, b⟩
theorem Cal.imp {P : Program} {w : World} {K : PySem.W.Frag} {mg : Str → Option Value} {base : Heap} {k : Nat} {x : Str} {ps : List Str} {sp sp' : Sp} (C : Cal P w K mg base k x ps sp) (h : ∀ vs H Q E, sp' vs H Q E → sp vs H Q E) : Cal P w K mg base k x ps sp' := by
  obtain ⟨f, fd, a, b⟩ := C.ex
  exact ⟨f, fd, a.imp h, b⟩
theorem Def.never {P : Program} {w : World} {K : PySem.W.Frag} {mg : Str → Option Value} {base : Heap} {x : Str} {st : Stmt} {ps : List Str} {sp : Sp} (D : Def K mg x st ps) (no : ∀ vs H Q E, ¬ sp vs H Q E) : Cal P w K mg base 0 x ps sp := by
  obtain ⟨f, fd, F, m, b⟩ := D.ex
  exact ⟨f, fd, ⟨fun vs H Q E h => absurd h (no vs H Q E), fun A outer s H args us vs Q E _ _ _ _ h => absurd h (no vs H Q E)⟩, m, F.kp, b⟩
theorem Def.ok {P : Program} {w : World} {K : PySem.W.Frag} {mg : Str → Option Value} {base : Heap} {x : Str} {st : Stmt} {N ps : List Str} {k : Nat} {sp : Sp} (D : Def K mg x st ps) (S : FnScope N ps (defScope st)) (len : ∀ vs H Q E, sp vs H Q E → vs.length = ps.length)
    (body : ∀ (f : Addr) (cdv : Value) (A : Around) (outer : List Env) (s : Shared) (H : Hp) (vs : List V) (Q : VK) (E : XK), Room k (A.deeper (envOfC x (defScope st) s.heap.objs.size f cdv)) → sp vs H Q E →
      ∃ t, PSs (cxOf CX0 P w K mg base N x (defScope st) f cdv A outer s H E).nox (defBody st) t ∧ t { nx := fun _ H' => Q .non H', rt := Q } (start N vs) H) : Cal P w K mg base (k + 1) x ps sp := by
  obtain ⟨f, fd, F, m, b⟩ := D.ex
  exact ⟨f, fd, F.ok S len fun cdv A outer s H vs Q E hr h => body f cdv A outer s H vs Q E hr h, m, F.kp, b⟩
section
variable {X : Cx} {k : Nat} {x : Str} {ps : List Str} {sp : Sp} {e : Expr} {es : List Expr} {t : TA} {p pos : Pos}
theorem pe_cal (C : Cal X.prog X.w X.K X.mg X.base k x ps sp) (hr : Room k X.A) (ha : PA X (e :: es) t) (hg : Gl X x := by rfl) (hdb : (x == ("__debug__" : Str)) = false := by decide)
    (he : starEach (e :: es) X.env = (false, eval e X.env) :: starEach es X.env := by rfl) (hpl : (backTo pos (starEach es X.env)).any (·.1) = false := by rfl) :
    PE X (.Call (.Name x p) (e :: es) [] pos) (tCall sp [] E0 t) := by
  obtain ⟨f, fd, F, m, kp, b⟩ := C.ex
  exact pe_call F hr hg m kp b .nil pass0 ha hdb he hpl
end
/-! ### heaps -/
/-- all that was tracked, but what stands at s, is as it was -/
def Ext (s : Addr) (H H' : Hp) : Prop := ∀ b o, b ≠ s → H b = some o → H' b = some o
theorem Ext.refl (s : Addr) (H : Hp) : Ext s H H := fun _ _ _ h => h
theorem Ext.trans {s : Addr} {H H1 H2 : Hp} (a : Ext s H H1) (b : Ext s H1 H2) : Ext s H H2 := fun c o n h => b c o n (a c o n h)
theorem Ext.upd (s : Addr) (H : Hp) (o : HO) : Ext s H (upd H s o) := fun b u n h => by rw [upd_ne n]; exact h
theorem Ext.new {s p : Addr} {H : Hp} (o : HO) (hp : H p = none) : Ext s H (L2.upd H p o) := fun b u _ h => by
  rw [upd_ne (ne_of_none h hp)]; exact h
theorem Ext.same {s : Addr} {H H' : Hp} (e : Same H H') : Ext s H H' := fun b o _ h => e b o h
theorem same_new {H : Hp} {p : Addr} (h : H p = none) (o : HO) : Same H (upd H p o) := fun b u q => by rw [upd_ne (ne_of_none q h)]; exact q
theorem Ext.free {s l : Addr} {H H' : Hp} {o : HO} (e : Ext s H H') (hs : H s = some o) (hs' : ∃ o', H' s = some o') (h : H' l = none) : H l = none := by
  by_cases z : l = s
  · subst z
    obtain ⟨o', e'⟩ := hs'
    rw [e'] at h
    cases h
  · cases q : H l with
    | none => rfl
    | some u => rw [e l u z q] at h; cases h
theorem Ext.seq {K : PySem.W.Frag} {s a : Addr} {H H' : Hp} {kvs : List (Key × V)} {xs : List V} (e : Ext s H H') (hs : H s = some (.dK kvs)) (h : SqL K H a xs) : SqL K H' a xs := by
  have ne : ∀ o, (∀ q : HO.dK kvs = o, False) → H a = some o → a ≠ s := fun o hq ha z => by
    subst z; rw [hs] at ha; exact hq (Option.some.inj ha)
  rcases h with (h | ⟨o, h⟩) | h
  · exact .inl (.inl (e _ _ (ne _ (fun q => by cases q) h) h))
  · exact .inl (.inr ⟨o, e _ _ (ne _ (fun q => by cases q) h) h⟩)
  · exact .inr h
theorem Ext.tup {K : PySem.W.Frag} {s a : Addr} {H H' : Hp} {kvs : List (Key × V)} {xs : List V} (e : Ext s H H') (hs : H s = some (.dK kvs)) (h : SqT K H a xs) : SqT K H' a xs := by
  have ne : ∀ o, (∀ q : HO.dK kvs = o, False) → H a = some o → a ≠ s := fun o hq ha z => by
    subst z; rw [hs] at ha; exact hq (Option.some.inj ha)
  rcases h with (h | ⟨o, h⟩) | h
  · exact .inl (.inl (e _ _ (ne _ (fun q => by cases q) h) h))
  · exact .inl (.inr ⟨o, e _ _ (ne _ (fun q => by cases q) h) h⟩)
  · exact .inr h
theorem Same.tup {K : PySem.W.Frag} {a : Addr} {H H' : Hp} {xs : List V} (e : Same H H') (h : SqT K H a xs) : SqT K H' a xs := by
  rcases h with (h | ⟨o, h⟩) | h
  · exact .inl (.inl (e _ _ h))
  · exact .inl (.inr ⟨o, e _ _ h⟩)
  · exact .inr h
/-- tuples are kept: what a kind wants -/
def Keep (K : PySem.W.Frag) (H H' : Hp) : Prop := ∀ a xs, SqT K H a xs → SqT K H' a xs
theorem Keep.refl {K : PySem.W.Frag} (H : Hp) : Keep K H H := fun _ _ h => h
theorem Keep.trans {K : PySem.W.Frag} {H H1 H2 : Hp} (e : Keep K H H1) (f : Keep K H1 H2) : Keep K H H2 := fun _ _ h => f _ _ (e _ _ h)
theorem Ext.keep {K : PySem.W.Frag} {s : Addr} {H H' : Hp} {kvs : List (Key × V)} (e : Ext s H H') (hs : H s = some (.dK kvs)) : Keep K H H' := fun _ _ h => e.tup hs h
theorem Same.keep {K : PySem.W.Frag} {H H' : Hp} (e : Same H H') : Keep K H H' := fun _ _ h => Same.tup e h
/-- what may be stored to -/
def Soft : HO → Prop
  | .lst _ => True
  | .dK _ => True
  | _ => False
theorem Keep.upd {K : PySem.W.Frag} {H : Hp} {D : Addr} {o0 : HO} (h : H D = some o0) (t : Soft o0) (o : HO) : Keep K H (L2.upd H D o) := fun a xs q => by
  have ne : ∀ u, H a = some u → ¬ Soft u → a ≠ D := fun u e n z => by
    subst z
    rw [h] at e
    exact n (Option.some.inj e ▸ t)
  rcases q with (q | ⟨u, q⟩) | q
  · exact .inl (.inl (by rw [upd_ne (ne _ q (fun z => z))]; exact q))
  · exact .inl (.inr ⟨u, by rw [upd_ne (ne _ q (fun z => z))]; exact q⟩)
  · exact .inr q
/-- data of tuples, texts, numbers, truths, None -/
inductive Dt (K : PySem.W.Frag) (H : Hp) : V → PyData → Prop
  | non : Dt K H .non .none
  | bl (b : Bool) : Dt K H (.bl b) (.bool b)
  | int (i : Int) : Dt K H (.int i) (.int i)
  | str (x : Str) : Dt K H (.str x) (.str x)
  | tup {a : Addr} (vs : List V) {ds : List PyData} : SqT K H a vs → vs.length = ds.length → (∀ (j : Nat) (v : V) (d : PyData), vs[j]? = some v → ds[j]? = some d → Dt K H v d) → Dt K H (.ref a) (.tuple ds)
def Dts (K : PySem.W.Frag) (H : Hp) (vs : List V) (ds : List PyData) : Prop := vs.length = ds.length ∧ ∀ (j : Nat) (v : V) (d : PyData), vs[j]? = some v → ds[j]? = some d → Dt K H v d
theorem Dts.nil {K : PySem.W.Frag} {H : Hp} : Dts K H [] [] := ⟨rfl, fun j v d h => by simp at h⟩
theorem Dts.cons {K : PySem.W.Frag} {H : Hp} {v : V} {d : PyData} {vs : List V} {ds : List PyData} (h : Dt K H v d) (t : Dts K H vs ds) : Dts K H (v :: vs) (d :: ds) := ⟨congrArg (· + 1) t.1, fun j u e h1 h2 => by
  cases j with
  | zero => cases h1; cases h2; exact h
  | succ j => exact t.2 j u e h1 h2⟩
theorem Dts.head {K : PySem.W.Frag} {H : Hp} {v : V} {d : PyData} {vs : List V} {ds : List PyData} (h : Dts K H (v :: vs) (d :: ds)) : Dt K H v d := h.2 0 v d rfl rfl
theorem Dts.tail {K : PySem.W.Frag} {H : Hp} {v : V} {d : PyData} {vs : List V} {ds : List PyData} (h : Dts K H (v :: vs) (d :: ds)) : Dts K H vs ds := ⟨Nat.succ.inj h.1, fun j u e h1 h2 => h.2 (j + 1) u e h1 h2⟩
theorem Dts.at {K : PySem.W.Frag} {H : Hp} {vs : List V} {ds : List PyData} {j : Nat} {v : V} (h : Dts K H vs ds) (e : vs[j]? = some v) : ∃ d, ds[j]? = some d ∧ Dt K H v d := by
  have lt : j < ds.length := h.1 ▸ (List.getElem?_eq_some_iff.mp e).1
  exact ⟨ds[j], List.getElem?_eq_getElem lt, h.2 j v _ e (List.getElem?_eq_getElem lt)⟩
theorem Dts.snoc {K : PySem.W.Frag} {H : Hp} {v : V} {d : PyData} {vs : List V} {ds : List PyData} (t : Dts K H vs ds) (h : Dt K H v d) : Dts K H (vs ++ [v]) (ds ++ [d]) := by
  refine ⟨by rw [List.length_append, List.length_append, t.1]; rfl, fun j u e h1 h2 => ?_⟩
  by_cases lt : j < vs.length
  · rw [List.getElem?_append_left lt] at h1
    rw [List.getElem?_append_left (t.1 ▸ lt)] at h2
    exact t.2 j u e h1 h2
  · rw [List.getElem?_append_right (by omega)] at h1
    rw [List.getElem?_append_right (by have := t.1; omega)] at h2
    have z : j - vs.length = 0 := by
      have := (List.getElem?_eq_some_iff.mp h1).1
      simp at this
      omega
    rw [z] at h1
    rw [← t.1, z] at h2
    cases h1; cases h2; exact h
theorem Dts.tup {K : PySem.W.Frag} {H : Hp} {a : Addr} {vs : List V} {ds : List PyData} (t : Dts K H vs ds) (h : SqT K H a vs) : Dt K H (.ref a) (.tuple ds) := .tup vs h t.1 t.2
theorem Dt.open {K : PySem.W.Frag} {H : Hp} {v : V} {ds : List PyData} (h : Dt K H v (.tuple ds)) : ∃ a vs, v = .ref a ∧ SqT K H a vs ∧ Dts K H vs ds := by
  cases h with
  | tup vs hs hl ha => exact ⟨_, vs, rfl, hs, hl, ha⟩
theorem Keep.dt {K : PySem.W.Frag} {H H' : Hp} (e : Keep K H H') {v : V} {d : PyData} (h : Dt K H v d) : Dt K H' v d := by
  induction h with
  | non => exact .non
  | bl b => exact .bl b
  | int i => exact .int i
  | str x => exact .str x
  | tup vs hs hl _ ih => exact .tup vs (e _ _ hs) hl ih
theorem Keep.dts {K : PySem.W.Frag} {H H' : Hp} (e : Keep K H H') {vs : List V} {ds : List PyData} (h : Dts K H vs ds) : Dts K H' vs ds := ⟨h.1, fun j v d a b => e.dt (h.2 j v d a b)⟩
theorem dpAll_of {K : PySem.W.Frag} {H : Hp} : ∀ {vs : List V} {ds : List PyData}, vs.length = ds.length → (∀ (j : Nat) (v : V) (d : PyData), vs[j]? = some v → ds[j]? = some d → Dp K H v d) → DpAll K H vs ds
  | [], [], _, _ => .nil
  | v :: vs, d :: ds, hl, h => .cons (h 0 v d rfl rfl) (dpAll_of (Nat.succ.inj hl) fun j u e a b => h (j + 1) u e a b)
theorem Dt.dp {K : PySem.W.Frag} {H : Hp} {v : V} {d : PyData} (h : Dt K H v d) : Dp K H v d := by
  induction h with
  | non => exact .non
  | bl b => exact .bl b
  | int i => exact .int i
  | str x => exact .str x
  | tup vs hs hl _ ih => exact .tup hs (dpAll_of hl ih)
/-! ### a law's state -/
/-- what a law may put into its state later: letters, then what is bound -/
inductive Xt where
  | no | one (l : V) | two (l b : V)
def Xt.rows : Xt → List (Key × V)
  | .no => []
  | .one l => [(.inr "letters", l)]
  | .two l b => [(.inr "letters", l), (.inr "bound", b)]
structure Inf where
  c : Addr
  f : Addr
  size : Int
  place : Int
  turn : Int
  odd : Int
  talk : Int
  x : Xt := .no
structure Mv where
  att : Int
  rest : Int
  seed : Int
def stD (i : Inf) (m : Mv) : List (Key × V) :=
  [(.inr "cells", .ref i.c), (.inr "at", .int m.att), (.inr "rest", .int m.rest), (.inr "size", .int i.size), (.inr "place", .int i.place), (.inr "turn", .int i.turn),
   (.inr "talk", .int i.talk), (.inr "odd", .int i.odd), (.inr "functions", .ref i.f), (.inr "seed", .int m.seed)] ++ i.x.rows
theorem p_at (i : Inf) (m : Mv) (n : Int) : putK (stD i m) (.inr "at") (.int n) = stD i { m with att := n } := by obtain ⟨_, _, _, _, _, _, _, x⟩ := i; cases x <;> rfl
theorem p_rest (i : Inf) (m : Mv) (n : Int) : putK (stD i m) (.inr "rest") (.int n) = stD i { m with rest := n } := by obtain ⟨_, _, _, _, _, _, _, x⟩ := i; cases x <;> rfl
theorem p_seed (i : Inf) (m : Mv) (n : Int) : putK (stD i m) (.inr "seed") (.int n) = stD i { m with seed := n } := by obtain ⟨_, _, _, _, _, _, _, x⟩ := i; cases x <;> rfl
theorem p_size (i : Inf) (m : Mv) (n : Int) : putK (stD i m) (.inr "size") (.int n) = stD { i with size := n } m := by obtain ⟨_, _, _, _, _, _, _, x⟩ := i; cases x <;> rfl
theorem p_place (i : Inf) (m : Mv) (n : Int) : putK (stD i m) (.inr "place") (.int n) = stD { i with place := n } m := by obtain ⟨_, _, _, _, _, _, _, x⟩ := i; cases x <;> rfl
theorem p_turn (i : Inf) (m : Mv) (n : Int) : putK (stD i m) (.inr "turn") (.int n) = stD { i with turn := n } m := by obtain ⟨_, _, _, _, _, _, _, x⟩ := i; cases x <;> rfl
theorem p_talk (i : Inf) (m : Mv) (n : Int) : putK (stD i m) (.inr "talk") (.int n) = stD { i with talk := n } m := by obtain ⟨_, _, _, _, _, _, _, x⟩ := i; cases x <;> rfl
structure Inf.Ok (i : Inf) : Prop where
  s1 : 1 ≤ i.size
  s8 : i.size ≤ 8
  p0 : 0 ≤ i.place
  p1 : i.place < i.size
  t0 : 0 ≤ i.turn
  t1 : i.turn < 26
  k0 : 0 ≤ i.talk
  k1 : i.talk ≤ 1
structure Mv.Ok (m : Mv) : Prop where
  a0 : 0 ≤ m.att
  r0 : 0 ≤ m.rest
  e0 : 0 ≤ m.seed
/-- at s stands a law's state -/
def IsS (K : PySem.W.Frag) (H : Hp) (s : Addr) (i : Inf) : Prop := ∃ (ns : List Int) (m : Mv),
  H s = some (.dK (stD i m)) ∧ SqL K H i.c (ns.map V.int) ∧ ns.length ≤ 63 ∧ i.Ok ∧ m.Ok
theorem IsS.dk {K : PySem.W.Frag} {H : Hp} {s : Addr} {i : Inf} (h : IsS K H s i) : ∃ kvs, H s = some (.dK kvs) := let ⟨_, _, h, _⟩ := h; ⟨_, h⟩
theorem IsS.same {K : PySem.W.Frag} {H H' : Hp} {s : Addr} {i : Inf} (h : IsS K H s i) (e : Same H H') : IsS K H' s i := by
  obtain ⟨ns, m, a, b, c⟩ := h
  exact ⟨ns, m, e _ _ a, Same.seq e b, c⟩
theorem IsS.keep {K : PySem.W.Frag} {H H' : Hp} {s : Addr} {i : Inf} (h : IsS K H s i) (e : Ext s H H') : Keep K H H' := by
  obtain ⟨kvs, hk⟩ := h.dk
  exact e.keep hk
theorem IsS.seq {K : PySem.W.Frag} {H H' : Hp} {s a : Addr} {i : Inf} {xs : List V} (h : IsS K H s i) (e : Ext s H H') (q : SqL K H a xs) : SqL K H' a xs := by
  obtain ⟨kvs, hk⟩ := h.dk
  exact e.seq hk q
theorem IsS.ne {K : PySem.W.Frag} {H : Hp} {s D : Addr} {i : Inf} (h : IsS K H s i) (hD : H D = none) : D ≠ s := fun z => by
  obtain ⟨kvs, hk⟩ := h.dk
  rw [z, hk] at hD
  cases hD
/-- a list that is filled at D stands beside the state -/
theorem IsS.over {K : PySem.W.Frag} {H1 H3 : Hp} {s D : Addr} {i : Inf} {o : HO} (a : IsS K H1 s i) (b : IsS K H3 s i) (x : Ext s H1 (upd H3 D o)) (n : D ≠ s) : IsS K (upd H3 D o) s i := by
  obtain ⟨ns, m, a1, a2, a3, a4, _⟩ := a
  obtain ⟨_, m3, b1, _, _, _, b5⟩ := b
  exact ⟨ns, m3, by rw [upd_ne n.symm]; exact b1, x.seq a1 a2, a3, a4, b5⟩
theorem Ext.over {H1 H3 : Hp} {s D : Addr} (x : Ext s H1 H3) (hD : H1 D = none) (o : HO) : Ext s H1 (L2.upd H3 D o) := fun b u n h => by
  rw [upd_ne (ne_of_none h hD)]
  exact x b u n h
theorem gS {H : Hp} {s : Addr} {i : Inf} {m : Mv} {k : Str} {v : V} (h : H s = some (.dK (stD i m))) (e : valV (stD i m) (.inr k) = some v) : DGet H s (.str k) (some v) := by
  rw [← e]; exact DGet.k (k := Sum.inr k) h
theorem pS {H : Hp} {s : Addr} {i i' : Inf} {m m' : Mv} {k : Str} {v : V} (h : H s = some (.dK (stD i m))) (e : putK (stD i m) (.inr k) v = stD i' m') : DPut H s (.str k) v (upd H s (.dK (stD i' m'))) := by
  rw [← e]; exact DPut.k (k := Sum.inr k) h (by
    have z : i.x.rows.length ≤ 2 := by cases i.x <;> simp [Xt.rows]
    have y : (stD i m).length = 10 + i.x.rows.length := by unfold stD; rw [List.length_append]; rfl
    have u : sizeLine > 100 := by decide
    omega)
/-- what a drawn number promises -/
def spTaken (K : PySem.W.Frag) : Sp := fun vs H Q _ => ∃ (s : Addr) (i : Inf) (m : Int), vs = [.ref s, .int m] ∧ IsS K H s i ∧ 0 < m ∧ m.natAbs < 2 ^ 200 ∧
  ∀ (r : Int) (H' : Hp), 0 ≤ r → r < m → Ext s H H' → IsS K H' s i → Q (.int r) H'
end Sc
namespace Sc
open PySem PySem.Spec PyProof.Rows L2
/-- the state that a law begins with -/
def spBegun (K : PySem.W.Frag) : Sp := fun vs H Q _ => ∃ (c : Addr) (ns : List Int), vs = [.ref c] ∧ SqL K H c (ns.map V.int) ∧ ns.length ≤ 63 ∧
  ∀ (s : Addr) (i : Inf) (H' : Hp), Same H H' → H s = none → i.c = c → i.odd = 0 → H' i.f = some (.lst []) → H i.f = none → IsS K H' s i → Q (.ref s) H'
end Sc
namespace Sc
open PySem PySem.Spec PyProof.Rows L2
/-! ### words -/
/-- one to eight of the letters from a to z -/
def Word (z : Str) : Prop := 1 ≤ z.cps.toList.length ∧ z.cps.toList.length ≤ 8 ∧ ∀ c ∈ z.cps.toList, 97 ≤ c ∧ c ≤ 122
def talks : List Str := ["size", "at", "row", "is", "has", "get", "put", "look", "let", "each", "fold", "if", "plus", "minus", "join", "push", "name", "text", "book"]
def signAt (n : Nat) : Str := ⟨#[n]⟩
/-- the word of a number -/
def wordOf (i : Inf) (k : Int) : Str :=
  if i.talk = 1 ∧ k < 19 then talks.getD k.toNat Str.empty else reps 113 i.place.toNat ++ signAt (97 + ((k + i.turn) % 26).toNat) ++ reps 113 (i.size - i.place - 1).toNat
theorem app_list (x y : Str) : (x ++ y).cps.toList = x.cps.toList ++ y.cps.toList := Array.toList_append
theorem len_list (x : Str) : x.length = x.cps.toList.length := (Array.length_toList ..).symm
theorem reps_list (c n : Nat) : (reps c n).cps.toList = List.replicate n c := rfl
instance (z : Str) : Decidable (Word z) := by unfold Word; infer_instance
theorem talks_word : ∀ z ∈ talks, Word z := by decide +kernel
theorem word_of {i : Inf} (h : i.Ok) {k : Int} (k0 : 0 ≤ k) : Word (wordOf i k) := by
  unfold wordOf
  split
  · rename_i c
    have lt : k.toNat < talks.length := by show k.toNat < 19; omega
    rw [List.getD_eq_getElem?_getD, List.getElem?_eq_getElem lt]
    exact talks_word _ (List.getElem_mem lt)
  · obtain ⟨s1, s8, p0, p1, t0, t1, _, _⟩ := h
    refine ⟨?_, ?_, fun c hc => ?_⟩
    · rw [app_list, app_list, reps_list, reps_list, List.length_append, List.length_append, List.length_replicate, List.length_replicate]
      show 1 ≤ _ + 1 + _
      omega
    · rw [app_list, app_list, reps_list, reps_list, List.length_append, List.length_append, List.length_replicate, List.length_replicate]
      show _ + 1 + _ ≤ 8
      omega
    · rw [app_list, app_list, reps_list, reps_list, List.mem_append, List.mem_append, List.mem_replicate, List.mem_replicate] at hc
      rcases hc with (hc | hc) | hc
      · omega
      · have e : c = 97 + ((k + i.turn) % 26).toNat := List.mem_singleton.mp hc
        omega
      · omega
def spWord (K : PySem.W.Frag) : Sp := fun vs H Q _ => ∃ (s : Addr) (i : Inf) (k : Int), vs = [.ref s, .int k] ∧ IsS K H s i ∧ 0 ≤ k ∧
  ∀ (H' : Hp), Same H H' → Q (.str (wordOf i k)) H'
/-! ### kinds -/
inductive Ch where
  | num | txt
  | row (k : List Ch) | book (k : List Ch)
  | shape (fs : List (Str × List Ch))
  | letter (l : Str) | cut (l : Str) (hs : List Str)
  | any (w : Str) | wth (f : Str)
mutual
/-- a choice as Python's data -/
def pyC : Ch → PyData
  | .num => .tuple [.str "number"]
  | .txt => .tuple [.str "text"]
  | .row k => .tuple [.str "row", .tuple (pyL k)]
  | .book k => .tuple [.str "book", .tuple (pyL k)]
  | .shape fs => .tuple [.str "shape", .tuple (pyF fs)]
  | .letter l => .tuple [.str "letter", .str l]
  | .cut l hs => .tuple [.str "cut", .str l, .tuple (hs.map .str)]
  | .any w => .tuple [.str "some", .str w]
  | .wth f => .tuple [.str "with", .str f]
def pyL : List Ch → List PyData
  | [] => []
  | c :: r => pyC c :: pyL r
def pyF : List (Str × List Ch) → List PyData
  | [] => []
  | (f, k) :: r => .tuple [.str f, .tuple (pyL k)] :: pyF r
end
theorem pyL_map : ∀ k : List Ch, pyL k = k.map pyC
  | [] => rfl
  | c :: r => by rw [pyL, pyL_map r]; rfl
theorem pyF_map : ∀ fs : List (Str × List Ch), pyF fs = fs.map fun p => .tuple [.str p.1, .tuple (pyL p.2)]
  | [] => rfl
  | (f, k) :: r => by rw [pyF, pyF_map r]; rfl
/-- the value v is the kind k, the choice c -/
abbrev IsK (K : PySem.W.Frag) (H : Hp) (v : V) (k : List Ch) : Prop := Dt K H v (.tuple (pyL k))
abbrev IsC (K : PySem.W.Frag) (H : Hp) (v : V) (c : Ch) : Prop := Dt K H v (pyC c)
/-- a shape's fields: some words, ascending -/
def Fld (zs : List Str) : Prop := zs ≠ [] ∧ zs.length ≤ 26 ∧ zs.Nodup ∧ sortedS zs = true ∧ ∀ z ∈ zs, Word z
mutual
/-- what a law draws: to n deep, letters of ls -/
def okC (ls : List Str) : Nat → Ch → Prop
  | _, .num => True
  | _, .txt => True
  | n, .row k => 0 < n ∧ k ≠ [] ∧ k.length ≤ 3 ∧ okL ls (n - 1) k
  | n, .book k => 0 < n ∧ k ≠ [] ∧ k.length ≤ 3 ∧ okL ls (n - 1) k
  | n, .shape fs => 0 < n ∧ fs.length ≤ 2 ∧ Fld (fs.map (·.1)) ∧ okF ls (n - 1) fs
  | _, .letter l => l ∈ ls
  | _, _ => False
def okL (ls : List Str) : Nat → List Ch → Prop
  | _, [] => True
  | n, c :: r => okC ls n c ∧ okL ls n r
def okF (ls : List Str) : Nat → List (Str × List Ch) → Prop
  | _, [] => True
  | n, (f, k) :: r => Word f ∧ k ≠ [] ∧ k.length ≤ 3 ∧ okL ls n k ∧ okF ls n r
end
theorem okL_snoc {ls : List Str} {n : Nat} {c : Ch} (h : okC ls n c) : ∀ {k : List Ch}, okL ls n k → okL ls n (k ++ [c])
  | [], _ => ⟨h, trivial⟩
  | _ :: _, a => ⟨a.1, okL_snoc h a.2⟩
theorem okF_snoc {ls : List Str} {n : Nat} {f : Str} {l : List Ch} (w : Word f) (l0 : l ≠ []) (l3 : l.length ≤ 3) (h : okL ls n l) : ∀ {fs : List (Str × List Ch)}, okF ls n fs → okF ls n (fs ++ [(f, l)])
  | [], _ => ⟨w, l0, l3, h, trivial⟩
  | _ :: _, a => ⟨a.1, a.2.1, a.2.2.1, a.2.2.2.1, okF_snoc w l0 l3 h a.2.2.2.2⟩
/-- a drawn kind, a drawn choice, drawn fields -/
def spKind (K : PySem.W.Frag) (n : Nat) : Sp := fun vs H Q _ => ∃ (s l : Addr) (i : Inf) (d : Nat) (ls : List Str), vs = [.ref s, .int d, .ref l] ∧ IsS K H s i ∧ d < n ∧ SqL K H l (ls.map V.str) ∧ ls.length ≤ 1000 ∧
  ∀ (v : V) (H' : Hp) (k : List Ch), Ext s H H' → IsS K H' s i → IsK K H' v k → k ≠ [] → k.length ≤ 3 → okL ls d k → Q v H'
def spChoice (K : PySem.W.Frag) (n : Nat) : Sp := fun vs H Q _ => ∃ (s l : Addr) (i : Inf) (d : Nat) (ls : List Str), vs = [.ref s, .int d, .ref l] ∧ IsS K H s i ∧ d < n ∧ SqL K H l (ls.map V.str) ∧ ls.length ≤ 1000 ∧
  ∀ (v : V) (H' : Hp) (c : Ch), Ext s H H' → IsS K H' s i → IsC K H' v c → okC ls d c → Q v H'
def spFields (K : PySem.W.Frag) (n : Nat) : Sp := fun vs H Q _ => ∃ (s l : Addr) (i : Inf) (d : Nat) (ls : List Str), vs = [.ref s, .int (d + 1 : Nat), .ref l] ∧ IsS K H s i ∧ d < n ∧ SqL K H l (ls.map V.str) ∧ ls.length ≤ 1000 ∧
  ∀ (v : V) (H' : Hp) (fs : List (Str × List Ch)), Ext s H H' → IsS K H' s i → Dt K H' v (.tuple (pyF fs)) → fs.length ≤ 2 → Fld (fs.map (·.1)) → okF ls d fs → Q v H'
end Sc
namespace Sc
open PySem PySem.Spec PyProof.Rows L2
/-! ### tests that change nothing -/
theorem and_pure {t u : TT} {σ : L2.St} {H : Hp} {Q : Bool → Hp → Prop} (c1 c2 : Bool) (h1 : ∀ R : Bool → Hp → Prop, R c1 H → t σ H R) (h2 : c1 = true → ∀ R : Bool → Hp → Prop, R c2 H → u σ H R) (hT : c1 = true → c2 = true → Q true H) (hF : ¬ (c1 = true ∧ c2 = true) → Q false H) : tAnd t u σ H Q := by
  refine h1 _ (ite2 (fun a => h2 a _ ?_) fun a => hF fun z => a z.1)
  cases b : c2 with
  | true => exact hT a b
  | false => exact hF fun z => by rw [b] at z; exact Bool.false_ne_true z.2
theorem or_pure {t u : TT} {σ : L2.St} {H : Hp} {Q : Bool → Hp → Prop} (c1 c2 : Bool) (h1 : ∀ R : Bool → Hp → Prop, R c1 H → t σ H R) (h2 : c1 = false → ∀ R : Bool → Hp → Prop, R c2 H → u σ H R) (hT : (c1 = true ∨ c2 = true) → Q true H) (hF : c1 = false → c2 = false → Q false H) : tOr t u σ H Q := by
  refine h1 _ (ite2 (fun a => hT (.inl a)) fun a => h2 (Bool.eq_false_iff.mpr a) _ ?_)
  cases b : c2 with
  | true => exact hT (.inr b)
  | false => exact hF (Bool.eq_false_iff.mpr a) b
theorem eqV_str (x y : Str) : decide (V.str x = V.str y) = decide (x = y) := by
  by_cases h : x = y
  · subst h; simp
  · rw [decide_eq_false h, decide_eq_false]; exact fun z => h (V.str.inj z)
theorem eqV_int (x y : Int) : decide (V.int x = V.int y) = decide (x = y) := by
  by_cases h : x = y
  · subst h; simp
  · rw [decide_eq_false h, decide_eq_false]; exact fun z => h (V.int.inj z)
end Sc
namespace Sc
open PySem PySem.Spec PyProof.Rows L2
theorem iteNo {c A B : Prop} [Decidable c] (h : ¬ c) (b : B) : if c then A else B := by rw [if_neg h]; exact b
theorem iteYes {c A B : Prop} [Decidable c] (h : c) (a : A) : if c then A else B := by rw [if_pos h]; exact a
/-! ### values -/
inductive Vl where
  | num (n : Int) | text (t : Str)
  | row (xs : List Vl) | book (xs : List (Str × Vl)) | shape (xs : List (Str × Vl))
/-- the value x stands at v, its objects among B -/
inductive IsV (H : Hp) (B : Addr → Prop) : V → Vl → Prop
  | num (n : Int) : IsV H B (.int n) (.num n)
  | text (t : Str) : IsV H B (.str t) (.text t)
  | row {a : Addr} (vs : List V) (xs : List Vl) : B a → H a = some (.lst vs) → vs.length = xs.length → (∀ (j : Nat) (v : V) (x : Vl), vs[j]? = some v → xs[j]? = some x → IsV H B v x) → IsV H B (.ref a) (.row xs)
  | book {a : Addr} (vs : List V) (xs : List (Str × Vl)) : B a → H a = some (.dK ((xs.map fun q => Sum.inr q.1).zip vs)) → vs.length = xs.length → (xs.map (·.1)).Nodup → (∀ (j : Nat) (v : V) (q : Str × Vl), vs[j]? = some v → xs[j]? = some q → IsV H B v q.2) → IsV H B (.ref a) (.book xs)
  | shape {a : Addr} (as : List Addr) (vs : List V) (xs : List (Str × Vl)) : Fld (xs.map (·.1)) → B a → H a = some (.tup (as.map V.ref)) → as.length = xs.length → vs.length = xs.length →
      (∀ (j : Nat) (b : Addr) (v : V) (q : Str × Vl), as[j]? = some b → vs[j]? = some v → xs[j]? = some q → B b ∧ H b = some (.tup [.str q.1, v])) →
      (∀ (j : Nat) (v : V) (q : Str × Vl), vs[j]? = some v → xs[j]? = some q → IsV H B v q.2) → IsV H B (.ref a) (.shape xs)
theorem IsV.keep {H H' : Hp} {B B' : Addr → Prop} (e : ∀ a o, B a → H a = some o → B' a ∧ H' a = some o) {v : V} {x : Vl} (h : IsV H B v x) : IsV H' B' v x := by
  induction h with
  | num n => exact .num n
  | text t => exact .text t
  | row vs xs b hv hl _ ih => exact .row vs xs (e _ _ b hv).1 (e _ _ b hv).2 hl ih
  | book vs xs b hv hl nd _ ih => exact .book vs xs (e _ _ b hv).1 (e _ _ b hv).2 hl nd ih
  | shape as vs xs fld b ha hl hl2 hp _ ih => exact .shape as vs xs fld (e _ _ b ha).1 (e _ _ b ha).2 hl hl2 (fun j b v q h1 h2 h3 => let ⟨h4, h5⟩ := hp j b v q h1 h2 h3; e _ _ h4 h5) ih
/-- values one by one -/
def IsVs (H : Hp) (B : Addr → Prop) (vs : List V) (xs : List Vl) : Prop := vs.length = xs.length ∧ ∀ (j : Nat) (v : V) (x : Vl), vs[j]? = some v → xs[j]? = some x → IsV H B v x
theorem IsVs.nil {H : Hp} {B : Addr → Prop} : IsVs H B [] [] := ⟨rfl, fun j v d h => by simp at h⟩
theorem IsVs.keep {H H' : Hp} {B B' : Addr → Prop} (e : ∀ a o, B a → H a = some o → B' a ∧ H' a = some o) {vs : List V} {xs : List Vl} (h : IsVs H B vs xs) : IsVs H' B' vs xs := ⟨h.1, fun j v x a b => (h.2 j v x a b).keep e⟩
theorem IsVs.snoc {H : Hp} {B : Addr → Prop} {v : V} {d : Vl} {vs : List V} {ds : List Vl} (t : IsVs H B vs ds) (h : IsV H B v d) : IsVs H B (vs ++ [v]) (ds ++ [d]) := by
  refine ⟨by rw [List.length_append, List.length_append, t.1]; rfl, fun j u e h1 h2 => ?_⟩
  by_cases lt : j < vs.length
  · rw [List.getElem?_append_left lt] at h1
    rw [List.getElem?_append_left (t.1 ▸ lt)] at h2
    exact t.2 j u e h1 h2
  · rw [List.getElem?_append_right (by omega)] at h1
    rw [List.getElem?_append_right (by have := t.1; omega)] at h2
    have z : j - vs.length = 0 := by
      have := (List.getElem?_eq_some_iff.mp h1).1
      simp at this
      omega
    rw [z] at h1
    rw [← t.1, z] at h2
    cases h1; cases h2; exact h
/-- what a value's type is -/
def headT : Vl → String
  | .num _ => "int" | .text _ => "str" | .row _ => "list" | .book _ => "dict" | .shape _ => "tuple"
theorem IsV.ty {K : PySem.W.Frag} {H : Hp} {B : Addr → Prop} {v : V} {x : Vl} (h : IsV H B v x) : TyX K H v (.type (headT x)) := by
  cases h with
  | num n => exact .base (.int n)
  | text t => exact .base (.str t)
  | row vs xs b hv => exact .base (.lst hv)
  | book vs xs b hv => exact .base (.dK hv)
  | shape as vs xs _ b ha => exact .base (.tup ha)
/-! ### heads -/
def blank : Str := " "
/-- the head's text of fields, behind the word shape -/
def headV : Vl → Str
  | .num _ => "number" | .text _ => "text" | .row _ => "row" | .book _ => "book" | .shape xs => Txt.join " " ("shape" :: xs.map (·.1))
theorem joinL_cons (S p : List Nat) : ∀ ps : List (List Nat), ps ≠ [] → TL.joinL S (p :: ps) = p ++ (S ++ TL.joinL S ps)
  | [], h => absurd rfl h
  | _ :: _, _ => rfl
end Sc
namespace Sc
open PySem PySem.Spec PyProof.Rows L2
/-- a text of up to three signs, from the blank to ~ but the percent sign -/
def Tex (t : Str) : Prop := t.cps.toList.length ≤ 3 ∧ ∀ c ∈ t.cps.toList, 32 ≤ c ∧ c ≤ 126 ∧ c ≠ 37
def spText (K : PySem.W.Frag) : Sp := fun vs H Q _ => ∃ (s : Addr) (i : Inf), vs = [.ref s] ∧ IsS K H s i ∧
  ∀ (t : Str) (H' : Hp), Ext s H H' → IsS K H' s i → Tex t → Q (.str t) H'
def spNumber (K : PySem.W.Frag) : Sp := fun vs H Q _ => ∃ (s : Addr) (i : Inf), vs = [.ref s] ∧ IsS K H s i ∧
  ∀ (n : Int) (H' : Hp), Ext s H H' → IsS K H' s i → -10 ^ 30 < n → n < 10 ^ 30 → Q (.int n) H'
/-- a drawn value of a kind without letters -/
def spValue (K : PySem.W.Frag) (n : Nat) : Sp := fun vs H Q _ => ∃ (s : Addr) (i : Inf) (v st : V) (d : Nat) (k : List Ch), vs = [.ref s, v, st] ∧ IsS K H s i ∧ d < n ∧ IsK K H v k ∧ k ≠ [] ∧ k.length ≤ 3 ∧ okL [] d k ∧
  ∀ (r : V) (H' : Hp) (x : Vl), Ext s H H' → IsS K H' s i → IsV H' (fun a => H a = none) r x → Q r H'
theorem IsS.freed {K : PySem.W.Frag} {H H' : Hp} {s l : Addr} {i : Inf} (a : IsS K H s i) (b : IsS K H' s i) (e : Ext s H H') (h : H' l = none) : H l = none := by
  obtain ⟨k1, h1⟩ := a.dk
  obtain ⟨k2, h2⟩ := b.dk
  exact e.free h1 ⟨_, h2⟩ h
end Sc
namespace Sc
open PySem PySem.Spec PyProof.Rows L2
/-- what follows, once for all ways -/
theorem seq_with {t u : TS} {D : Ends} {σ : L2.St} {H : Hp} (F : (L2.St → Hp → Prop) → Prop) (h1 : F (u D)) (h2 : F (u D) → t { D with nx := u D } σ H) : tSeq t u D σ H := h2 h1
theorem mem_put {kvs : List (Key × V)} {k : Key} {v : V} {p : Key × V} (h : p ∈ putK kvs k v) : p = (k, v) ∨ p ∈ kvs := by
  unfold putK at h
  split at h
  · obtain ⟨q, hq, e⟩ := List.mem_map.mp h
    by_cases z : q.1 = k
    · rw [if_pos z] at e
      exact .inl (e ▸ z ▸ rfl)
    · rw [if_neg z] at e
      exact .inr (e ▸ hq)
  · rcases List.mem_append.mp h with h | h
    · exact .inr h
    · exact .inl (List.mem_singleton.mp h)
theorem nd_put {kvs : List (Key × V)} (k : Key) (v : V) (nd : (kvs.map (·.1)).Nodup) : ((putK kvs k v).map (·.1)).Nodup := by
  cases z : valV kvs k with
  | none => exact nd_putK v nd z
  | some y =>
    have e : (putK kvs k v).map (·.1) = kvs.map (·.1) := by
      unfold putK
      rw [valV_any, z, if_pos (show (some y).isSome = true from rfl), List.map_map]
      refine List.map_congr_left fun p _ => ?_
      show (if p.1 = k then (p.1, v) else p).1 = p.1
      split <;> rfl
    rw [e]
    exact nd
theorem put_len (kvs : List (Key × V)) (k : Key) (v : V) : (putK kvs k v).length ≤ kvs.length + 1 := by
  unfold putK
  split
  · rw [List.length_map]; omega
  · rw [List.length_append]; exact Nat.le_refl _
/-- a dict of texts with values, as a book -/
theorem book_of {H : Hp} {B : Addr → Prop} : ∀ kvs : List (Key × V), (∀ p ∈ kvs, ∃ t x, p.1 = Sum.inr t ∧ IsV H B p.2 x) → (kvs.map (·.1)).Nodup →
    ∃ (vs : List V) (xs : List (Str × Vl)), kvs = (xs.map fun q => Sum.inr q.1).zip vs ∧ vs.length = xs.length ∧ (xs.map (·.1)).Nodup ∧ (∀ t, t ∈ xs.map (·.1) → (Sum.inr t : Key) ∈ kvs.map (·.1)) ∧ ∀ (j : Nat) (v : V) (q : Str × Vl), vs[j]? = some v → xs[j]? = some q → IsV H B v q.2
  | [], _, _ => ⟨[], [], rfl, rfl, List.nodup_nil, fun t h => by simp at h, fun j v q h => by simp at h⟩
  | (k, v) :: r, h, nd => by
    obtain ⟨t, x, rfl, hx⟩ := h _ List.mem_cons_self
    have nd' : ((Sum.inr t : Key) :: r.map (·.1)).Nodup := nd
    obtain ⟨n1, n2⟩ := List.nodup_cons.mp nd'
    obtain ⟨vs, xs, e, hl, nd2, hm, ha⟩ := book_of r (fun p hp => h p (List.mem_cons_of_mem _ hp)) n2
    refine ⟨v :: vs, (t, x) :: xs, by rw [e]; rfl, congrArg (· + 1) hl, List.nodup_cons.mpr ⟨fun z => n1 (hm t z), nd2⟩, fun u hu => ?_, fun j v' q h1 h2 => ?_⟩
    · rcases List.mem_cons.mp hu with z | z
      · rw [z]; exact List.mem_cons_self
      · exact List.mem_cons_of_mem _ (hm u z)
    · cases j with
      | zero => cases h1; cases h2; exact hx
      | succ j => exact ha j v' q h1 h2
theorem okL_mem {ls : List Str} {n : Nat} {c : Ch} : ∀ {k : List Ch}, okL ls n k → c ∈ k → okC ls n c
  | _ :: _, h, m => by
    rcases List.mem_cons.mp m with z | z
    · rw [z]; exact h.1
    · exact okL_mem h.2 z
theorem okF_mem {ls : List Str} {n : Nat} {p : Str × List Ch} : ∀ {fs : List (Str × List Ch)}, okF ls n fs → p ∈ fs → Word p.1 ∧ p.2 ≠ [] ∧ p.2.length ≤ 3 ∧ okL ls n p.2
  | (_, _) :: _, h, m => by
    rcases List.mem_cons.mp m with z | z
    · rw [z]; exact ⟨h.1, h.2.1, h.2.2.1, h.2.2.2.1⟩
    · exact okF_mem h.2.2.2.2 z
end Sc
namespace Sc
open PySem PySem.Spec PyProof.Rows L2
section
variable {X : Cx}
/-! rules within a comprehension's block: the written part said by its name -/
theorem ix_tupK (K : PySem.W.Frag) (h : X.K = K := by rfl) : IxR X (rIxT K) := h ▸ ix_tup
theorem ix_listK (K : PySem.W.Frag) (h : X.K = K := by rfl) : IxR X (rIxL K) := h ▸ ix_list
end
end Sc
namespace Sc
open PySem PySem.Spec PyProof.Rows L2
theorem Dt.strOf {K : PySem.W.Frag} {H : Hp} {v : V} {z : Str} (h : Dt K H v (.str z)) : v = .str z := by cases h; rfl
theorem Dts.uncons {K : PySem.W.Frag} {H : Hp} {vs : List V} {d : PyData} {ds : List PyData} (h : Dts K H vs (d :: ds)) : ∃ v us, vs = v :: us ∧ Dt K H v d ∧ Dts K H us ds := by
  cases vs with
  | nil => exact absurd h.1 (by simp)
  | cons v us => exact ⟨v, us, rfl, h.head, h.tail⟩
theorem Dts.unnil {K : PySem.W.Frag} {H : Hp} {vs : List V} (h : Dts K H vs []) : vs = [] := List.length_eq_zero_iff.mp h.1
/-- a tuple of a text -/
theorem Dt.one {K : PySem.W.Frag} {H : Hp} {v : V} {z : Str} (h : Dt K H v (.tuple [.str z])) : ∃ a, v = .ref a ∧ SqT K H a [.str z] := by
  obtain ⟨a, vs, rfl, ht, hd⟩ := h.open
  obtain ⟨u, us, rfl, h1, h2⟩ := hd.uncons
  rw [h1.strOf, h2.unnil] at ht
  exact ⟨a, rfl, ht⟩
/-- a tuple of a text and more -/
theorem Dt.two {K : PySem.W.Frag} {H : Hp} {v : V} {z : Str} {d : PyData} (h : Dt K H v (.tuple [.str z, d])) : ∃ a u, v = .ref a ∧ SqT K H a [.str z, u] ∧ Dt K H u d := by
  obtain ⟨a, vs, rfl, ht, hd⟩ := h.open
  obtain ⟨u, us, rfl, h1, h2⟩ := hd.uncons
  obtain ⟨u2, us2, rfl, h3, h4⟩ := h2.uncons
  rw [h1.strOf, h4.unnil] at ht
  exact ⟨a, u2, rfl, ht, h3⟩
theorem drawn_form {d : Nat} {c : Ch} (h : okC [] d c) : c = .num ∨ c = .txt ∨ (∃ d' fs, d = d' + 1 ∧ c = .shape fs ∧ Fld (fs.map (·.1)) ∧ fs.length ≤ 2 ∧ okF [] d' fs) ∨
    ∃ (d' : Nat) (wd : Str) (kk : List Ch), d = d' + 1 ∧ (wd = "row" ∨ wd = "book") ∧ pyC c = .tuple [.str wd, .tuple (pyL kk)] ∧ kk ≠ [] ∧ kk.length ≤ 3 ∧ okL [] d' kk := by
  cases c with
  | num => exact .inl rfl
  | txt => exact .inr (.inl rfl)
  | row k =>
    obtain ⟨h0, h1, h2, h3⟩ : 0 < d ∧ k ≠ [] ∧ k.length ≤ 3 ∧ okL [] (d - 1) k := h
    exact .inr (.inr (.inr ⟨d - 1, "row", k, by omega, .inl rfl, rfl, h1, h2, h3⟩))
  | book k =>
    obtain ⟨h0, h1, h2, h3⟩ : 0 < d ∧ k ≠ [] ∧ k.length ≤ 3 ∧ okL [] (d - 1) k := h
    exact .inr (.inr (.inr ⟨d - 1, "book", k, by omega, .inr rfl, rfl, h1, h2, h3⟩))
  | shape fs =>
    obtain ⟨h0, h1, h2, h3⟩ : 0 < d ∧ fs.length ≤ 2 ∧ Fld (fs.map (·.1)) ∧ okF [] (d - 1) fs := h
    exact .inr (.inr (.inl ⟨d - 1, fs, by omega, rfl, h2, h1, h3⟩))
  | letter l => exact absurd (show l ∈ [] from h) (by simp)
  | cut l hs => exact (show False from h).elim
  | any l => exact (show False from h).elim
  | wth l => exact (show False from h).elim
end Sc
namespace Sc
open PySem PySem.Spec PyProof.Rows L2
/-! ### the names that lead pairs -/
def Names (K : PySem.W.Frag) (H : Hp) (a : Addr) (zs : List Str) : Prop := ∃ ps : List V, SqT K H a ps ∧ ps.length = zs.length ∧ ∀ (j : Nat) (p : V) (z : Str), ps[j]? = some p → zs[j]? = some z → ∃ b us, p = .ref b ∧ SqT K H b (.str z :: us)
theorem names_shape {K : PySem.W.Frag} {H : Hp} {B : Addr → Prop} {v : V} {xs : List (Str × Vl)} (h : IsV H B v (.shape xs)) : ∃ a, v = .ref a ∧ Names K H a (xs.map (·.1)) ∧ Fld (xs.map (·.1)) := by
  cases h with
  | @shape a as vs xs fld b ha hl hl2 hp hv =>
    refine ⟨a, rfl, ⟨as.map V.ref, SqT.of ha, by rw [List.length_map, List.length_map, hl], fun j p z h1 h2 => ?_⟩, fld⟩
    rw [List.getElem?_map] at h1 h2
    obtain ⟨b', h3, rfl⟩ := Option.map_eq_some_iff.mp h1
    obtain ⟨q, h4, rfl⟩ := Option.map_eq_some_iff.mp h2
    have lt : j < vs.length := by rw [hl2]; exact (List.getElem?_eq_some_iff.mp h4).1
    exact ⟨b', [vs[j]], rfl, SqT.of (hp j b' vs[j] q h3 (List.getElem?_eq_getElem lt) h4).2⟩
theorem names_kind {K : PySem.W.Frag} {H : Hp} {v : V} {fs : List (Str × List Ch)} (h : Dt K H v (.tuple (pyF fs))) : ∃ a, v = .ref a ∧ Names K H a (fs.map (·.1)) := by
  obtain ⟨a, ps, rfl, ht, hd⟩ := h.open
  refine ⟨a, rfl, ps, ht, by rw [hd.1, pyF_map, List.length_map, List.length_map], fun j p z h1 h2 => ?_⟩
  obtain ⟨d, h3, h4⟩ := hd.at h1
  rw [pyF_map, List.getElem?_map] at h3
  rw [List.getElem?_map] at h2
  obtain ⟨q, h5, rfl⟩ := Option.map_eq_some_iff.mp h3
  obtain ⟨q', h6, rfl⟩ := Option.map_eq_some_iff.mp h2
  rw [h5] at h6
  cases h6
  obtain ⟨b, u, e, hb, _⟩ := h4.two
  exact ⟨b, [u], e, hb⟩
theorem Keep.names {K : PySem.W.Frag} {H H' : Hp} {a : Addr} {zs : List Str} (e : Keep K H H') (h : Names K H a zs) : Names K H' a zs := by
  obtain ⟨ps, h1, h2, h3⟩ := h
  exact ⟨ps, e _ _ h1, h2, fun j p z g1 g2 => let ⟨b, us, e1, e2⟩ := h3 j p z g1 g2; ⟨b, us, e1, e _ _ e2⟩⟩
theorem Fld.sum {zs : List Str} (h : Fld zs) : (zs.map (·.length)).sum ≤ 208 := by
  obtain ⟨_, h26, _, _, hw⟩ := h
  have g : ∀ zs : List Str, (∀ z ∈ zs, Word z) → (zs.map (·.length)).sum ≤ zs.length * 8 := fun zs => by
    induction zs with
    | nil => exact fun _ => Nat.le_refl _
    | cons z zs ih =>
      intro h
      have := ih fun y hy => h y (List.mem_cons_of_mem _ hy)
      have := (h z List.mem_cons_self).2.1
      rw [List.map_cons, List.sum_cons, len_list, List.length_cons]
      omega
  have := g zs hw
  omega
def spShapeHead (K : PySem.W.Frag) : Sp := fun vs H Q _ => ∃ (a : Addr) (zs : List Str), vs = [.ref a] ∧ Names K H a zs ∧ zs.length ≤ 100 ∧ (zs.map (·.length)).sum ≤ 10000 ∧
  ∀ (H' : Hp), Same H H' → Q (.str (Txt.join " " ("shape" :: zs))) H'
def spHeadOf (K : PySem.W.Frag) : Sp := fun vs H Q _ => ∃ (v : V) (B : Addr → Prop) (x : Vl), vs = [v] ∧ IsV H B v x ∧
  ∀ (H' : Hp), Same H H' → Q (.str (headV x)) H'
theorem sum_le_add (zs : List Str) (n : Nat) : (zs.map (·.length)).sum + zs.length * n = (zs.map fun z => z.length + n).sum := by
  induction zs with
  | nil => simp
  | cons z zs ih =>
    rw [List.map_cons, List.map_cons, List.sum_cons, List.sum_cons, List.length_cons, ← ih, Nat.add_mul]
    omega
/-- shape, and the fields behind it -/
theorem head_text {zs : List Str} (h : zs ≠ []) : Txt.join " " ("shape" :: zs) = ("shape " : Str) ++ Txt.join " " zs := by
  refine TL.ext_tl ?_
  rw [TL.tl_append, TL.join_eq, TL.join_eq, TL.tl_join, TL.tl_join, List.map_cons, joinL_cons _ _ _ (by simpa using h), ← List.append_assoc]
  congr 1
/-! ### words that differ -/
def odds (z : Str) : Nat := (z.cps.toList.filter fun c => decide (c ≠ 113)).length
theorem talks_odds : ∀ z ∈ talks, 2 ≤ odds z := by decide +kernel
theorem talks_nodup : talks.Nodup := by decide +kernel
theorem plain_odds (p c r : Nat) : odds (reps 113 p ++ signAt c ++ reps 113 r) ≤ 1 := by
  unfold odds
  have z : ∀ n, (List.replicate n 113).filter (fun c => decide (c ≠ 113)) = [] := fun n => List.filter_eq_nil_iff.mpr fun a h => by
    rw [(List.mem_replicate.mp h).2]; decide
  rw [app_list, app_list, reps_list, reps_list, List.filter_append, List.filter_append, z, z, List.nil_append, List.append_nil]
  show ([c].filter _).length ≤ 1
  exact List.length_filter_le _ _
theorem word_inj {i : Inf} (ok : i.Ok) {a b : Int} (a0 : 0 ≤ a) (a26 : a < 26) (b0 : 0 ≤ b) (b26 : b < 26) (h : wordOf i a = wordOf i b) : a = b := by
  have tk : ∀ k : Int, 0 ≤ k → k < 19 → ∃ lt : k.toNat < talks.length, talks.getD k.toNat Str.empty = talks[k.toNat] := fun k k0 k1 => by
    have lt : k.toNat < talks.length := by show k.toNat < 19; omega
    exact ⟨lt, by rw [List.getD_eq_getElem?_getD, List.getElem?_eq_getElem lt]; rfl⟩
  unfold wordOf at h
  split at h <;> split at h
  · rename_i ca cb
    obtain ⟨la, ea⟩ := tk a a0 ca.2
    obtain ⟨lb, eb⟩ := tk b b0 cb.2
    rw [ea, eb] at h
    have := (List.getElem_inj talks_nodup).mp h
    omega
  · rename_i ca cb
    obtain ⟨la, ea⟩ := tk a a0 ca.2
    have := talks_odds _ (List.getElem_mem la)
    rw [← ea, h] at this
    exact absurd (Nat.le_trans this (plain_odds _ _ _)) (by decide)
  · rename_i ca cb
    obtain ⟨lb, eb⟩ := tk b b0 cb.2
    have := talks_odds _ (List.getElem_mem lb)
    rw [← eb, ← h] at this
    exact absurd (Nat.le_trans this (plain_odds _ _ _)) (by decide)
  · have e := congrArg (fun z : Str => z.cps.toList[i.place.toNat]?) h
    rw [app_list, app_list, app_list, app_list, reps_list, reps_list] at e
    have g : ∀ c : Nat, (List.replicate i.place.toNat 113 ++ (signAt c).cps.toList ++ List.replicate (i.size - i.place - 1).toNat 113)[i.place.toNat]? = some c := fun c => by
      rw [List.append_assoc, List.getElem?_append_right (by rw [List.length_replicate]; exact Nat.le_refl _), List.length_replicate, Nat.sub_self]
      rfl
    rw [g, g] at e
    have e2 := Option.some.inj e
    have t0 := ok.t0
    have t1 := ok.t1
    omega
end Sc
namespace Sc
open PySem PySem.Spec PyProof.Rows L2
theorem no_bool (x : Vl) : kitB (headT x) "bool" = some false := by
  cases x with
  | num _ => exact (by decide +kernel : kitB "int" "bool" = some false)
  | text _ => exact (by decide +kernel : kitB "str" "bool" = some false)
  | row _ => exact (by decide +kernel : kitB "list" "bool" = some false)
  | book _ => exact (by decide +kernel : kitB "dict" "bool" = some false)
  | shape _ => exact (by decide +kernel : kitB "tuple" "bool" = some false)
theorem joinL_len (S : List Nat) : ∀ ps : List (List Nat), (TL.joinL S ps).length ≤ (ps.map (·.length)).sum + ps.length * S.length
  | [] => Nat.zero_le _
  | [p] => by
    show p.length ≤ [p.length].sum + 1 * _
    simp
  | p :: q :: r => by
    have ih := joinL_len S (q :: r)
    rw [joinL_cons _ _ _ (by simp), List.length_append, List.length_append, List.map_cons, List.sum_cons, List.length_cons, Nat.add_mul]
    omega
theorem join_len (y : Str) (zs : List Str) : (Txt.join y zs).length ≤ (zs.map (·.length)).sum + zs.length * y.length := by
  have e : (Txt.join y zs).length = (TL.joinL (TL.tl y) (zs.map TL.tl)).length := by
    rw [len_list]
    exact congrArg List.length ((congrArg TL.tl (TL.join_eq y zs)).trans (TL.tl_join y zs))
  rw [e]
  refine Nat.le_trans (joinL_len _ _) ?_
  rw [List.map_map, List.length_map, len_list y]
  refine Nat.add_le_add_right (Nat.le_of_eq (congrArg List.sum (List.map_congr_left fun z _ => ?_))) _
  exact (len_list z).symm
end Sc
namespace Sc
open PySem PySem.Spec PyProof.Rows L2
/-! ### the texts of kinds -/
def mkS (l : List Nat) : Str := ⟨l.toArray⟩
theorem tl_mkS (l : List Nat) : TL.tl (mkS l) = l := rfl
theorem mkS_tl (z : Str) : mkS (TL.tl z) = z := TL.ext_tl rfl
def bar : List Nat := TL.tl " | "
def com : List Nat := TL.tl ", "
mutual
/-- the signs of a choice's text -/
def cC : Ch → List Nat
  | .num => TL.tl "number"
  | .txt => TL.tl "text"
  | .row k => TL.tl "row" ++ 40 :: (TL.joinL bar (cL k) ++ [41])
  | .book k => TL.tl "book" ++ 40 :: (TL.joinL bar (cL k) ++ [41])
  | .shape fs => 123 :: (TL.joinL com (cF fs) ++ [125])
  | .letter l => TL.tl l
  | .cut l hs => TL.tl l ++ 40 :: (TL.joinL com (hs.map TL.tl) ++ [41])
  | .any w => TL.tl "some" ++ 32 :: TL.tl w
  | .wth f => TL.tl "with" ++ 32 :: TL.tl f
def cL : List Ch → List (List Nat)
  | [] => []
  | c :: r => cC c :: cL r
def cF : List (Str × List Ch) → List (List Nat)
  | [] => []
  | (f, k) :: r => (TL.tl f ++ 58 :: 32 :: TL.joinL bar (cL k)) :: cF r
end
theorem cL_map : ∀ k : List Ch, cL k = k.map cC
  | [] => rfl
  | c :: r => by rw [cL, cL_map r]; rfl
theorem cF_map : ∀ fs : List (Str × List Ch), cF fs = fs.map fun p => TL.tl p.1 ++ 58 :: 32 :: TL.joinL bar (cL p.2)
  | [] => rfl
  | (f, k) :: r => by rw [cF, cF_map r]; rfl
def txC (c : Ch) : Str := mkS (cC c)
def txK (k : List Ch) : Str := mkS (TL.joinL bar (cL k))
def txF (p : Str × List Ch) : Str := mkS (TL.tl p.1 ++ 58 :: 32 :: TL.joinL bar (cL p.2))
theorem txK_join (k : List Ch) : Txt.join " | " (k.map txC) = txK k := by
  refine TL.ext_tl ?_
  rw [TL.join_eq, TL.tl_join, List.map_map]
  show TL.joinL bar (k.map cC) = TL.joinL bar (cL k)
  rw [cL_map]
mutual
/-- how deep -/
def dC : Ch → Nat
  | .row k => dL k + 1
  | .book k => dL k + 1
  | .shape fs => dF fs + 1
  | _ => 0
def dL : List Ch → Nat
  | [] => 0
  | c :: r => max (dC c) (dL r)
def dF : List (Str × List Ch) → Nat
  | [] => 0
  | (_, k) :: r => max (dL k) (dF r)
end
theorem dL_mem {c : Ch} : ∀ {k : List Ch}, c ∈ k → dC c ≤ dL k
  | d :: r, h => by
    rcases List.mem_cons.mp h with e | e
    · rw [e]; exact Nat.le_max_left _ _
    · exact Nat.le_trans (dL_mem e) (Nat.le_max_right _ _)
theorem dF_mem {p : Str × List Ch} : ∀ {fs : List (Str × List Ch)}, p ∈ fs → dL p.2 ≤ dF fs
  | (f, k) :: r, h => by
    rcases List.mem_cons.mp h with e | e
    · rw [e]; exact Nat.le_max_left _ _
    · exact Nat.le_trans (dF_mem e) (Nat.le_max_right _ _)
theorem joinL_mem (S : List Nat) {p : List Nat} : ∀ {ps : List (List Nat)}, p ∈ ps → p.length ≤ (TL.joinL S ps).length
  | [q], h => by rw [List.mem_singleton.mp h]; exact Nat.le_refl _
  | q :: r :: t, h => by
    rw [joinL_cons _ _ _ (by simp), List.length_append, List.length_append]
    rcases List.mem_cons.mp h with e | e
    · rw [e]; omega
    · have := joinL_mem S (ps := r :: t) e
      omega
theorem joinL_sum (S : List Nat) : ∀ (p : List Nat) (ps : List (List Nat)), (TL.joinL S (p :: ps)).length = p.length + ((ps.map (·.length)).sum + ps.length * S.length)
  | p, [] => by show p.length = _; simp
  | p, q :: r => by
    rw [joinL_cons _ _ _ (by simp), List.length_append, List.length_append, joinL_sum S q r, List.map_cons, List.sum_cons, List.length_cons, Nat.add_mul]
    omega
/-- what join asks of the parts' lengths -/
theorem join_room {y : Str} {zs : List Str} {n : Nat} (h : (TL.joinL (TL.tl y) (zs.map TL.tl)).length ≤ n) : (zs.map (·.length)).sum + zs.length * y.length ≤ n + y.length := by
  cases zs with
  | nil => simp
  | cons z zs =>
    rw [List.map_cons, joinL_sum] at h
    rw [List.map_cons, List.sum_cons, List.length_cons, Nat.add_mul, len_list y, len_list z]
    have e : ((zs.map TL.tl).map (·.length)).sum = (zs.map (·.length)).sum := by
      rw [List.map_map]
      exact congrArg List.sum (List.map_congr_left fun x _ => (len_list x).symm)
    rw [e, List.length_map] at h
    show z.cps.toList.length + _ + _ ≤ _
    have h' : z.cps.toList.length + ((zs.map (·.length)).sum + zs.length * y.cps.toList.length) ≤ n := h
    omega
theorem joinL_many (S : List Nat) (hS : 1 ≤ S.length) : ∀ ps : List (List Nat), ps.length ≤ (TL.joinL S ps).length + 1
  | [] => Nat.zero_le _
  | p :: ps => by
    rw [joinL_sum, List.length_cons]
    have : ps.length ≤ ps.length * S.length := Nat.le_mul_of_pos_right _ hS
    omega
/-! ### promises of what tells -/
def spTellK (K : PySem.W.Frag) (n : Nat) : Sp := fun vs H Q _ => ∃ (v : V) (k : List Ch), vs = [v] ∧ IsK K H v k ∧ dL k < n ∧ (txK k).length ≤ 1000000 ∧
  ∀ (H' : Hp), Same H H' → Q (.str (txK k)) H'
def spTellC (K : PySem.W.Frag) (n : Nat) : Sp := fun vs H Q _ => ∃ (v : V) (c : Ch), vs = [v] ∧ IsC K H v c ∧ dC c < n ∧ (txC c).length ≤ 1000000 ∧
  ∀ (H' : Hp), Same H H' → Q (.str (txC c)) H'
theorem tx_len (l : List Nat) : (mkS l).length = l.length := by rw [len_list]; rfl
/-- the word that leads a choice, what follows -/
def wdC : Ch → Str
  | .num => "number" | .txt => "text" | .row _ => "row" | .book _ => "book" | .shape _ => "shape" | .letter _ => "letter" | .cut _ _ => "cut" | .any _ => "some" | .wth _ => "with"
def restC : Ch → List PyData
  | .num => [] | .txt => []
  | .row k => [.tuple (pyL k)] | .book k => [.tuple (pyL k)]
  | .shape fs => [.tuple (pyF fs)]
  | .letter l => [.str l] | .cut l hs => [.str l, .tuple (hs.map .str)]
  | .any w => [.str w] | .wth f => [.str f]
theorem pyC_cons (c : Ch) : pyC c = .tuple (.str (wdC c) :: restC c) := by cases c <;> rfl
/-- a choice's tuple -/
theorem Dt.lead {K : PySem.W.Frag} {H : Hp} {v : V} {c : Ch} (h : Dt K H v (pyC c)) : ∃ a us, v = .ref a ∧ SqT K H a (.str (wdC c) :: us) ∧ Dts K H us (restC c) := by
  rw [pyC_cons c] at h
  obtain ⟨a, vs, rfl, ht, hd⟩ := h.open
  obtain ⟨u, us, rfl, h1, h2⟩ := hd.uncons
  rw [h1.strOf] at ht
  exact ⟨a, us, rfl, ht, h2⟩
theorem Dts.one {K : PySem.W.Frag} {H : Hp} {us : List V} {d : PyData} (h : Dts K H us [d]) : ∃ u, us = [u] ∧ Dt K H u d := by
  obtain ⟨u, us', rfl, h1, h2⟩ := h.uncons
  exact ⟨u, by rw [h2.unnil], h1⟩
/-- texts in a row -/
theorem Dts.strs {K : PySem.W.Frag} {H : Hp} : ∀ {zs : List Str} {vs : List V}, Dts K H vs (zs.map .str) → vs = zs.map V.str
  | [], vs, h => h.unnil
  | z :: zs, vs, h => by
    obtain ⟨u, us, rfl, h1, h2⟩ := Dts.uncons h
    rw [h1.strOf, Dts.strs h2]
    rfl
theorem strs_dts {K : PySem.W.Frag} {H : Hp} : ∀ zs : List Str, Dts K H (zs.map V.str) (zs.map .str)
  | [] => .nil
  | z :: zs => (strs_dts zs).cons (.str z)
theorem op_inT (K : PySem.W.Frag) {X : Cx} (h : X.K = K := by rfl) : OpR X (compareOp .In) (rIn K false) := h ▸ op_in_seq
end Sc
namespace Sc
open PySem PySem.Spec PyProof.Rows L2
theorem app_len (x y : Str) : (x ++ y).length = x.length + y.length := by
  rw [len_list, len_list, len_list, app_list, List.length_append]
theorem sizeOk {n : Nat} (h : n ≤ 2000000) : n ≤ sizeLine := by rw [sizeLine_eq]; omega
theorem txC_rb (k : List Ch) {c : Ch} (h : c = .row k ∨ c = .book k) : txC c = Str.empty ++ wdC c ++ ("(" : Str) ++ txK k ++ (")" : Str) := by
  refine TL.ext_tl ?_
  rcases h with rfl | rfl
  · show TL.tl "row" ++ 40 :: (TL.joinL bar (cL k) ++ [41]) = _
    simp only [TL.tl_append]
    show _ = TL.tl "row" ++ [40] ++ TL.joinL bar (cL k) ++ [41]
    simp only [List.append_assoc, List.cons_append, List.nil_append]
  · show TL.tl "book" ++ 40 :: (TL.joinL bar (cL k) ++ [41]) = _
    simp only [TL.tl_append]
    show _ = TL.tl "book" ++ [40] ++ TL.joinL bar (cL k) ++ [41]
    simp only [List.append_assoc, List.cons_append, List.nil_append]
theorem txF_eq (p : Str × List Ch) : txF p = Str.empty ++ p.1 ++ (": " : Str) ++ txK p.2 := by
  refine TL.ext_tl ?_
  simp only [TL.tl_append]
  show TL.tl p.1 ++ 58 :: 32 :: TL.joinL bar (cL p.2) = TL.tl p.1 ++ [58, 32] ++ TL.joinL bar (cL p.2)
  simp only [List.append_assoc, List.cons_append, List.nil_append]
theorem txC_shape (fs : List (Str × List Ch)) : txC (.shape fs) = ("{" : Str) ++ Txt.join ", " (fs.map txF) ++ ("}" : Str) := by
  refine TL.ext_tl ?_
  simp only [TL.tl_append]
  rw [TL.join_eq, TL.tl_join, List.map_map]
  show 123 :: (TL.joinL com (cF fs) ++ [125]) = [123] ++ TL.joinL com _ ++ [125]
  rw [cF_map]
  rfl
theorem txC_cut (l : Str) (hs : List Str) : txC (.cut l hs) = l ++ ("(" : Str) ++ Txt.join ", " hs ++ (")" : Str) := by
  refine TL.ext_tl ?_
  simp only [TL.tl_append]
  rw [TL.join_eq, TL.tl_join]
  show TL.tl l ++ 40 :: (TL.joinL com (hs.map TL.tl) ++ [41]) = TL.tl l ++ [40] ++ TL.joinL com (hs.map TL.tl) ++ [41]
  simp only [List.append_assoc, List.cons_append, List.nil_append]
theorem txC_any (w : Str) : txC (.any w) = Txt.join " " ["some", w] := by
  refine TL.ext_tl ?_
  rw [TL.join_eq, TL.tl_join]
  rfl
theorem txC_wth (w : Str) : txC (.wth w) = Txt.join " " ["with", w] := by
  refine TL.ext_tl ?_
  rw [TL.join_eq, TL.tl_join]
  rfl
theorem txC_num : txC .num = Txt.join " " ["number"] := by
  refine TL.ext_tl ?_
  rw [TL.join_eq, TL.tl_join]
  rfl
theorem txC_txt : txC .txt = Txt.join " " ["text"] := by
  refine TL.ext_tl ?_
  rw [TL.join_eq, TL.tl_join]
  rfl
end Sc
namespace Sc
open PySem PySem.Spec PyProof.Rows L2
/-- an f-string, its reading by a name -/
def tFs (ts : List TE) : TE := fun σ H Q => tJs ts Str.empty σ H fun out H1 => Q (.str out) H1
theorem pe_fs {X : Cx} {v1 v2 : Expr} {rest : List Expr} {ts : List TE} {pos : Pos} (h : PJ X (v1 :: v2 :: rest) ts) : PE X (.JoinedStr (v1 :: v2 :: rest) pos) (tFs ts) := pe_joined h
end Sc
namespace Sc
open PySem PySem.Spec PyProof.Rows L2
/-! ### a choice by its word -/
theorem wd_rb {c : Ch} (h : wdC c = "row" ∨ wdC c = "book") : ∃ k, c = .row k ∨ c = .book k := by
  cases c with
  | row k => exact ⟨k, .inl rfl⟩
  | book k => exact ⟨k, .inr rfl⟩
  | _ => exact absurd h (by simp only [wdC]; decide +kernel)
theorem wd_shape {c : Ch} (h : wdC c = "shape") : ∃ fs, c = .shape fs := by
  cases c with
  | shape fs => exact ⟨fs, rfl⟩
  | _ => exact absurd h (by simp only [wdC]; decide +kernel)
theorem wd_letter {c : Ch} (h : wdC c = "letter") : ∃ l, c = .letter l := by
  cases c with
  | letter l => exact ⟨l, rfl⟩
  | _ => exact absurd h (by simp only [wdC]; decide +kernel)
theorem wd_cut {c : Ch} (h : wdC c = "cut") : ∃ l hs, c = .cut l hs := by
  cases c with
  | cut l hs => exact ⟨l, hs, rfl⟩
  | _ => exact absurd h (by simp only [wdC]; decide +kernel)
theorem wd_due {c : Ch} (h : wdC c = "some" ∨ wdC c = "with") : ∃ z, c = .any z ∨ c = .wth z := by
  cases c with
  | any z => exact ⟨z, .inl rfl⟩
  | wth z => exact ⟨z, .inr rfl⟩
  | _ => exact absurd h (by simp only [wdC]; decide +kernel)
theorem wd_flat {c : Ch} (h1 : ¬ (wdC c = "row" ∨ wdC c = "book")) (h2 : wdC c ≠ "shape") (h3 : wdC c ≠ "letter") (h4 : wdC c ≠ "cut") (h5 : ¬ (wdC c = "some" ∨ wdC c = "with")) : c = .num ∨ c = .txt := by
  cases c with
  | num => exact .inl rfl
  | txt => exact .inr rfl
  | row k => exact absurd (.inl rfl) h1
  | book k => exact absurd (.inr rfl) h1
  | shape k => exact absurd rfl h2
  | letter k => exact absurd rfl h3
  | cut k _ => exact absurd rfl h4
  | any k => exact absurd (.inl rfl) h5
  | wth k => exact absurd (.inr rfl) h5
theorem txC_due {c : Ch} {z : Str} (h : c = .any z ∨ c = .wth z) : txC c = wdC c ++ (" " : Str) ++ z ∧ restC c = [.str z] := by
  rcases h with rfl | rfl
  · refine ⟨TL.ext_tl ?_, rfl⟩
    simp only [TL.tl_append]
    show TL.tl "some" ++ 32 :: TL.tl z = TL.tl "some" ++ [32] ++ TL.tl z
    simp only [List.append_assoc, List.cons_append, List.nil_append]
  · refine ⟨TL.ext_tl ?_, rfl⟩
    simp only [TL.tl_append]
    show TL.tl "with" ++ 32 :: TL.tl z = TL.tl "with" ++ [32] ++ TL.tl z
    simp only [List.append_assoc, List.cons_append, List.nil_append]
end Sc
namespace Sc
open PySem PySem.Spec PyProof.Rows L2
/-! ### letters -/
def Lett (z : Str) : Prop := 1 ≤ z.cps.toList.length ∧ z.cps.toList.length ≤ 8 ∧ ∀ c ∈ z.cps.toList, 65 ≤ c ∧ c ≤ 90
theorem upper_word {z : Str} (h : Word z) : Lett (Txt.upper z) := by
  obtain ⟨h1, h8, hc⟩ := h
  rw [upper_ascii fun c m => by have := hc c m; omega]
  have e : (⟨z.cps.map up1⟩ : Str).cps.toList = z.cps.toList.map up1 := Array.toList_map
  unfold Lett
  rw [e, List.length_map]
  refine ⟨h1, h8, fun c m => ?_⟩
  obtain ⟨d, hd, rfl⟩ := List.mem_map.mp m
  have := hc d hd
  unfold up1
  rw [if_pos this]
  omega
/-! ### dicts of texts -/
def zipK {β : Type} (xs : List (Str × β)) (vs : List V) : List (Key × V) := (xs.map fun q => Sum.inr q.1).zip vs
theorem zip_of {β : Type} {Pt : Str → Prop} {R : V → β → Prop} : ∀ kvs : List (Key × V), (∀ p ∈ kvs, ∃ t x, p.1 = Sum.inr t ∧ Pt t ∧ R p.2 x) → (kvs.map (·.1)).Nodup →
    ∃ (vs : List V) (xs : List (Str × β)), kvs = zipK xs vs ∧ vs.length = xs.length ∧ (xs.map (·.1)).Nodup ∧ (∀ t, t ∈ xs.map (·.1) → (Sum.inr t : Key) ∈ kvs.map (·.1)) ∧ ∀ (j : Nat) (v : V) (q : Str × β), vs[j]? = some v → xs[j]? = some q → Pt q.1 ∧ R v q.2
  | [], _, _ => ⟨[], [], rfl, rfl, List.nodup_nil, fun t h => by simp at h, fun j v q h => by simp at h⟩
  | (k, v) :: r, h, nd => by
    obtain ⟨t, x, rfl, ht, hx⟩ := h _ List.mem_cons_self
    have nd' : ((Sum.inr t : Key) :: r.map (·.1)).Nodup := nd
    obtain ⟨n1, n2⟩ := List.nodup_cons.mp nd'
    obtain ⟨vs, xs, e, hl, nd2, hm, ha⟩ := zip_of r (fun p hp => h p (List.mem_cons_of_mem _ hp)) n2
    refine ⟨v :: vs, (t, x) :: xs, by rw [e]; rfl, congrArg (· + 1) hl, List.nodup_cons.mpr ⟨fun z => n1 (hm t z), nd2⟩, fun u hu => ?_, fun j v' q h1 h2 => ?_⟩
    · rcases List.mem_cons.mp hu with z | z
      · rw [z]; exact List.mem_cons_self
      · exact List.mem_cons_of_mem _ (hm u z)
    · cases j with
      | zero => cases h1; cases h2; exact ⟨ht, hx⟩
      | succ j => exact ha j v' q h1 h2
theorem zipK_get {β : Type} : ∀ {xs : List (Str × β)} {vs : List V} {j : Nat} {q : Str × β} {v : V}, (xs.map (·.1)).Nodup → xs[j]? = some q → vs[j]? = some v → valV (zipK xs vs) (Sum.inr q.1) = some v
  | (t, x) :: xs, u :: us, 0, q, v, _, h1, h2 => by
    cases h1; cases h2
    exact valV_pos rfl
  | (t, x) :: xs, u :: us, j + 1, q, v, nd, h1, h2 => by
    obtain ⟨n1, n2⟩ := List.nodup_cons.mp (show (t :: xs.map (·.1)).Nodup from nd)
    refine (valV_neg fun e => n1 ?_).trans (zipK_get n2 h1 h2)
    have e2 : t = q.1 := Sum.inr.inj e
    rw [e2]
    exact List.mem_map_of_mem (List.mem_of_getElem? h1)
  | [], _, _, _, _, _, h1, _ => by simp at h1
  | _ :: _, [], _, _, _, _, _, h2 => by simp at h2
theorem zipK_keys {β : Type} : ∀ {xs : List (Str × β)} {vs : List V}, vs.length = xs.length → (zipK xs vs).map (fun kv => kV kv.1) = xs.map fun q => V.str q.1
  | [], [], _ => rfl
  | _ :: _, _ :: _, h => congrArg (_ :: ·) (zipK_keys (Nat.succ.inj h))
theorem zipK_len {β : Type} {xs : List (Str × β)} {vs : List V} (h : vs.length = xs.length) : (zipK xs vs).length = xs.length := by
  unfold zipK
  rw [List.length_zip, List.length_map, h, Nat.min_self]
/-! ### bounds -/
def IsB (K : PySem.W.Frag) (H : Hp) (b : Addr) (bs : List (Str × List Ch)) : Prop := ∃ vs : List V, H b = some (.dK (zipK bs vs)) ∧ vs.length = bs.length ∧ (bs.map (·.1)).Nodup ∧
  ∀ (j : Nat) (v : V) (q : Str × List Ch), vs[j]? = some v → bs[j]? = some q → IsK K H v q.2
theorem IsB.keep {K : PySem.W.Frag} {H H' : Hp} {b : Addr} {bs : List (Str × List Ch)} (h : IsB K H b bs) (k : Keep K H H') (e : ∀ o, H b = some o → H' b = some o) : IsB K H' b bs := by
  obtain ⟨vs, h1, h2, h3, h4⟩ := h
  exact ⟨vs, e _ h1, h2, h3, fun j v q a c => k.dt (h4 j v q a c)⟩
theorem IsB.same {K : PySem.W.Frag} {H H' : Hp} {b : Addr} {bs : List (Str × List Ch)} (h : IsB K H b bs) (e : Same H H') : IsB K H' b bs := h.keep (Same.keep e) fun o => e b o
theorem IsB.ext {K : PySem.W.Frag} {H H' : Hp} {s b : Addr} {i : Inf} {bs : List (Str × List Ch)} (h : IsB K H b bs) (S : IsS K H s i) (e : Ext s H H') (n : b ≠ s) : IsB K H' b bs := h.keep (S.keep e) fun o => e b o n
theorem IsB.at {K : PySem.W.Frag} {H : Hp} {b : Addr} {bs : List (Str × List Ch)} (h : IsB K H b bs) {j : Nat} {q : Str × List Ch} (e : bs[j]? = some q) : ∃ v, DGet H b (.str q.1) (some v) ∧ IsK K H v q.2 := by
  obtain ⟨vs, h1, h2, h3, h4⟩ := h
  have lt : j < vs.length := h2 ▸ (List.getElem?_eq_some_iff.mp e).1
  have g := zipK_get h3 e (List.getElem?_eq_getElem lt)
  exact ⟨vs[j], by rw [← g]; exact DGet.k (k := Sum.inr q.1) h1, h4 j _ q (List.getElem?_eq_getElem lt) e⟩
def okB (bs : List (Str × List Ch)) : Prop := ∀ q ∈ bs, Lett q.1 ∧ q.2 ≠ [] ∧ q.2.length ≤ 3 ∧ okL [] 1 q.2
def spBounds (K : PySem.W.Frag) : Sp := fun vs H Q _ => ∃ (s : Addr) (i : Inf) (m : Nat), vs = [.ref s, .int m] ∧ IsS K H s i ∧ m ≤ 10 ∧
  ∀ (b : Addr) (H' : Hp) (bs : List (Str × List Ch)), Ext s H H' → IsS K H' s i → H b = none → IsB K H' b bs → okB bs → bs.length ≤ m → Q (.ref b) H'
/-! ### heads of choices -/
def hdC : Ch → Str
  | .num => "number" | .txt => "text" | .row _ => "row" | .book _ => "book"
  | .shape fs => Txt.join " " ("shape" :: fs.map (·.1))
  | _ => Str.empty
/-- a choice with a head of its own -/
def hdOk : Ch → Prop
  | .num => True | .txt => True | .row _ => True | .book _ => True
  | .shape fs => Fld (fs.map (·.1))
  | _ => False
theorem hdOk_of {n : Nat} {c : Ch} (h : okC [] n c) : hdOk c := by
  cases c with
  | shape fs => exact (show 0 < n ∧ fs.length ≤ 2 ∧ Fld (fs.map (·.1)) ∧ okF [] (n - 1) fs from h).2.2.1
  | letter l => exact absurd (show l ∈ [] from h) (by simp)
  | cut l hs => exact (show False from h).elim
  | any l => exact (show False from h).elim
  | wth l => exact (show False from h).elim
  | _ => exact trivial
/-- the heads of a kind, ascending -/
def Hs (k : List Ch) (ys : List Str) : Prop := sortedS ys = true ∧ ys.Nodup ∧ ys.length ≤ k.length ∧ ∀ x, x ∈ ys ↔ x ∈ k.map hdC
def spHead (K : PySem.W.Frag) : Sp := fun vs H Q _ => ∃ (v : V) (c : Ch), vs = [v] ∧ IsC K H v c ∧ hdOk c ∧ ∀ (H' : Hp), Same H H' → Q (.str (hdC c)) H'
def headsR (bs : List (Str × List Ch)) (c : Ch) (ys : List Str) : Prop := (∃ l k, c = .letter l ∧ (l, k) ∈ bs ∧ Hs k ys) ∨ ∃ l, c = .cut l ys
def spHeads (K : PySem.W.Frag) : Sp := fun vs H Q _ => ∃ (v : V) (b : Addr) (c : Ch) (bs : List (Str × List Ch)), vs = [v, .ref b] ∧ IsC K H v c ∧ IsB K H b bs ∧ okB bs ∧ ((∃ l k, c = .letter l ∧ (l, k) ∈ bs) ∨ ∃ l hs, c = .cut l hs) ∧
  ∀ (v : V) (H' : Hp) (ys : List Str), Same H H' → Dt K H' v (.tuple (ys.map .str)) → headsR bs c ys → Q v H'
/-- a letter, or a cut of it -/
def okCut (bs : List (Str × List Ch)) (c : Ch) : Prop := ∃ l k, (l, k) ∈ bs ∧ (c = .letter l ∨ ∃ ys a m, c = .cut l ((ys.drop a).take m) ∧ Hs k ys ∧ 0 < m ∧ a + m ≤ ys.length ∧ m < ys.length)
def spCut (K : PySem.W.Frag) : Sp := fun vs H Q _ => ∃ (s b : Addr) (i : Inf) (bs : List (Str × List Ch)), vs = [.ref s, .ref b] ∧ IsS K H s i ∧ b ≠ s ∧ IsB K H b bs ∧ okB bs ∧ bs ≠ [] ∧ bs.length ≤ 10 ∧
  ∀ (v : V) (H' : Hp) (c : Ch), Ext s H H' → IsS K H' s i → IsC K H' v c → okCut bs c → Q v H'
/-- a kind with letters and, at its end, a cut -/
def okA (bs : List (Str × List Ch)) (d : Nat) (k : List Ch) : Prop := ∃ k0 cs, k = k0 ++ cs ∧ okL (bs.map (·.1)) d k0 ∧ k0 ≠ [] ∧ k0.length ≤ 3 ∧ (cs = [] ∨ ∃ c, cs = [c] ∧ okCut bs c)
def spAnyKind (K : PySem.W.Frag) (n : Nat) : Sp := fun vs H Q _ => ∃ (s b : Addr) (i : Inf) (d : Nat) (bs : List (Str × List Ch)), vs = [.ref s, .int d, .ref b] ∧ IsS K H s i ∧ d < n ∧ b ≠ s ∧ IsB K H b bs ∧ okB bs ∧ bs.length ≤ 10 ∧
  ∀ (v : V) (H' : Hp) (k : List Ch), Ext s H H' → IsS K H' s i → IsK K H' v k → okA bs d k → Q v H'
theorem Hs.few {k : List Ch} {ys : List Str} (h : Hs k ys) : ys.length ≤ k.length := h.2.2.1
end Sc
namespace Sc
open PySem PySem.Spec PyProof.Rows L2
/-! ### how long, how deep what is drawn may be -/
def wid : Nat → Nat
  | 0 => 8
  | n + 1 => 6 * wid n + 60
theorem joinL_max {S : List Nat} {B : Nat} : ∀ {ps : List (List Nat)}, (∀ p ∈ ps, p.length ≤ B) → (TL.joinL S ps).length ≤ ps.length * (B + S.length)
  | [], _ => Nat.zero_le _
  | [p], h => by
    have := h p List.mem_cons_self
    show p.length ≤ 1 * _
    omega
  | p :: q :: r, h => by
    have ih := joinL_max (S := S) (B := B) (ps := q :: r) fun x hx => h x (List.mem_cons_of_mem _ hx)
    have := h p List.mem_cons_self
    rw [joinL_cons _ _ _ (by simp), List.length_append, List.length_append, List.length_cons, Nat.add_mul]
    omega
theorem kind_len {B m : Nat} {k : List Ch} (h : ∀ p ∈ cL k, p.length ≤ B) (hk : k.length ≤ m) : (TL.joinL bar (cL k)).length ≤ m * (B + 3) := by
  refine Nat.le_trans (joinL_max h) ?_
  rw [cL_map, List.length_map]
  exact Nat.mul_le_mul_right _ hk
mutual
theorem lenC {ls : List Str} (hl : ∀ l ∈ ls, l.length ≤ 8) : ∀ {n : Nat} {c : Ch}, okC ls n c → (cC c).length ≤ wid n
  | 0, .num, _ => by decide
  | n + 1, .num, _ => Nat.le_trans (by decide : (cC .num).length ≤ 60) (Nat.le_add_left _ _)
  | 0, .txt, _ => by decide
  | n + 1, .txt, _ => Nat.le_trans (by decide : (cC .txt).length ≤ 60) (Nat.le_add_left _ _)
  | 0, .row k, h => absurd h.1 (Nat.lt_irrefl _)
  | n + 1, .row k, h => by
    have := kind_len (lenL hl (show okL ls n k from h.2.2.2)) h.2.2.1
    show (TL.tl "row" ++ 40 :: (TL.joinL bar (cL k) ++ [41])).length ≤ 6 * wid n + 60
    rw [List.length_append, List.length_cons, List.length_append]
    show 3 + (_ + 1 + 1) ≤ _
    omega
  | 0, .book k, h => absurd h.1 (Nat.lt_irrefl _)
  | n + 1, .book k, h => by
    have := kind_len (lenL hl (show okL ls n k from h.2.2.2)) h.2.2.1
    show (TL.tl "book" ++ 40 :: (TL.joinL bar (cL k) ++ [41])).length ≤ 6 * wid n + 60
    rw [List.length_append, List.length_cons, List.length_append]
    show 4 + (_ + 1 + 1) ≤ _
    omega
  | 0, .shape fs, h => absurd h.1 (Nat.lt_irrefl _)
  | n + 1, .shape fs, h => by
    have f := lenF hl (show okF ls n fs from h.2.2.2)
    have g := joinL_max (S := com) f
    rw [cF_map, List.length_map] at g
    have g2 : fs.length * (3 * wid n + 19 + com.length) ≤ 2 * (3 * wid n + 19 + 2) := Nat.mul_le_mul_right _ h.2.1
    rw [← cF_map] at g
    show (123 :: (TL.joinL com (cF fs) ++ [125])).length ≤ 6 * wid n + 60
    rw [List.length_cons, List.length_append]
    show _ + 1 + 1 ≤ _
    have : (TL.joinL com (cF fs)).length ≤ 2 * (3 * wid n + 19 + 2) := Nat.le_trans g g2
    omega
  | n, .letter l, h => by
    have := hl l h
    rw [len_list] at this
    refine Nat.le_trans this ?_
    cases n with
    | zero => exact Nat.le_refl _
    | succ n => show 8 ≤ 6 * wid n + 60; omega
  | _, .cut _ _, h => h.elim
  | _, .any _, h => h.elim
  | _, .wth _, h => h.elim
theorem lenL {ls : List Str} (hl : ∀ l ∈ ls, l.length ≤ 8) : ∀ {n : Nat} {k : List Ch}, okL ls n k → ∀ p ∈ cL k, p.length ≤ wid n
  | _, [], _, p, hp => by cases hp
  | n, c :: r, h, p, hp => by
    rcases List.mem_cons.mp hp with e | e
    · rw [e]; exact lenC hl h.1
    · exact lenL hl h.2 p e
theorem lenF {ls : List Str} (hl : ∀ l ∈ ls, l.length ≤ 8) : ∀ {n : Nat} {fs : List (Str × List Ch)}, okF ls n fs → ∀ p ∈ cF fs, p.length ≤ 3 * wid n + 19
  | _, [], _, p, hp => by cases hp
  | n, (f, k) :: r, h, p, hp => by
    rcases List.mem_cons.mp hp with e | e
    · have := kind_len (lenL hl h.2.2.2.1) h.2.2.1
      have w := h.1.2.1
      rw [e, List.length_append, List.length_cons, List.length_cons]
      show f.cps.toList.length + _ ≤ _
      omega
    · exact lenF hl h.2.2.2.2 p e
end
mutual
theorem deepC {ls : List Str} : ∀ {n : Nat} {c : Ch}, okC ls n c → dC c ≤ n
  | _, .num, _ => Nat.zero_le _
  | _, .txt, _ => Nat.zero_le _
  | 0, .row k, h => absurd h.1 (Nat.lt_irrefl _)
  | n + 1, .row k, h => Nat.succ_le_succ (deepL (show okL ls n k from h.2.2.2))
  | 0, .book k, h => absurd h.1 (Nat.lt_irrefl _)
  | n + 1, .book k, h => Nat.succ_le_succ (deepL (show okL ls n k from h.2.2.2))
  | 0, .shape fs, h => absurd h.1 (Nat.lt_irrefl _)
  | n + 1, .shape fs, h => Nat.succ_le_succ (deepF (show okF ls n fs from h.2.2.2))
  | _, .letter l, _ => Nat.zero_le _
  | _, .cut _ _, h => h.elim
  | _, .any _, h => h.elim
  | _, .wth _, h => h.elim
theorem deepL {ls : List Str} : ∀ {n : Nat} {k : List Ch}, okL ls n k → dL k ≤ n
  | _, [], _ => Nat.zero_le _
  | n, c :: r, h => Nat.max_le.mpr ⟨deepC h.1, deepL h.2⟩
theorem deepF {ls : List Str} : ∀ {n : Nat} {fs : List (Str × List Ch)}, okF ls n fs → dF fs ≤ n
  | _, [], _ => Nat.zero_le _
  | n, (_, k) :: r, h => Nat.max_le.mpr ⟨deepL h.2.2.2.1, deepF h.2.2.2.2⟩
end
end Sc
namespace Sc
open PySem PySem.Spec PyProof.Rows L2
theorem hd_len {n : Nat} {c : Ch} (h : okC [] n c) : (hdC c).length ≤ 300 := by
  cases c with
  | shape fs =>
    have fld : Fld (fs.map (·.1)) := hdOk_of h
    have := join_len " " ("shape" :: fs.map (·.1))
    have s := fld.sum
    have z := fld.2.1
    rw [List.map_cons, List.sum_cons, List.length_cons] at this
    show (Txt.join " " ("shape" :: fs.map (·.1))).length ≤ 300
    have e5 : ("shape" : Str).length = 5 := rfl
    have e1 : (" " : Str).length = 1 := rfl
    rw [e5, e1] at this
    omega
  | num => decide
  | txt => decide
  | row k => exact (by decide : ("row" : Str).length ≤ 300)
  | book k => exact (by decide : ("book" : Str).length ≤ 300)
  | letter l => exact Nat.zero_le _
  | cut l hs => exact Nat.zero_le _
  | any l => exact Nat.zero_le _
  | wth l => exact Nat.zero_le _
theorem cut_len {bs : List (Str × List Ch)} (ok : okB bs) {c : Ch} (h : okCut bs c) : (cC c).length ≤ 2000 ∧ dC c = 0 := by
  obtain ⟨l, k, hm, hc⟩ := h
  obtain ⟨lt, k0, k3, okk⟩ := ok _ hm
  have l8 : (TL.tl l).length ≤ 8 := lt.2.1
  rcases hc with rfl | ⟨ys, a, m, rfl, hs, m0, am, my⟩
  · exact ⟨Nat.le_trans l8 (by decide), rfl⟩
  · refine ⟨?_, rfl⟩
    have g : ∀ p ∈ ((ys.drop a).take m).map TL.tl, p.length ≤ 300 := fun p hp => by
      obtain ⟨y, hy, rfl⟩ := List.mem_map.mp hp
      have hy2 := (hs.2.2.2 y).mp (List.mem_of_mem_drop (List.mem_of_mem_take hy))
      obtain ⟨c, hc, rfl⟩ := List.mem_map.mp hy2
      have := hd_len (okL_mem okk hc)
      rw [len_list] at this
      exact this
    have j := joinL_max (S := com) g
    rw [List.length_map] at j
    have few := hs.2.2.1
    have k3' : k.length ≤ 3 := k3
    have tk : ((ys.drop a).take m).length ≤ 3 := by
      have := List.length_take_le' m (ys.drop a)
      rw [List.length_drop] at this
      omega
    have j2 : ((ys.drop a).take m).length * (300 + com.length) ≤ 3 * (300 + 2) := Nat.mul_le_mul_right _ tk
    show (TL.tl l ++ 40 :: (TL.joinL com (((ys.drop a).take m).map TL.tl) ++ [41])).length ≤ 2000
    rw [List.length_append, List.length_cons, List.length_append]
    show _ + (_ + 1 + 1) ≤ _
    omega
theorem names_len {bs : List (Str × List Ch)} (ok : okB bs) : ∀ l ∈ bs.map (·.1), l.length ≤ 8 := fun l hl => by
  obtain ⟨q, hq, rfl⟩ := List.mem_map.mp hl
  have := (ok q hq).1.2.1
  rw [len_list]
  exact this
theorem cL_app (a b : List Ch) : cL (a ++ b) = cL a ++ cL b := by rw [cL_map, cL_map, cL_map, List.map_append]
theorem dL_app : ∀ a b : List Ch, dL (a ++ b) = max (dL a) (dL b)
  | [], b => by show dL b = max 0 _; omega
  | c :: r, b => by
    have := dL_app r b
    show max (dC c) (dL (r ++ b)) = max (max (dC c) (dL r)) (dL b)
    omega
/-- such a kind's text, with something small behind -/
theorem any_len {bs : List (Str × List Ch)} (ok : okB bs) {d : Nat} {k : List Ch} (h : okA bs d k) : (∀ p ∈ cL k, p.length ≤ wid d + 2000) ∧ k.length ≤ 4 ∧ dL k ≤ d ∧ k ≠ [] := by
  obtain ⟨k0, cs, rfl, okk, n0, n3, hc⟩ := h
  have g := lenL (names_len ok) okk
  rcases hc with rfl | ⟨c, rfl, hc⟩
  · rw [List.append_nil]
    exact ⟨fun p hp => Nat.le_trans (g p hp) (Nat.le_add_right _ _), by omega, deepL okk, n0⟩
  · obtain ⟨h1, h2⟩ := cut_len ok hc
    refine ⟨fun p hp => ?_, by rw [List.length_append]; show _ + 1 ≤ _; omega, ?_, by simp⟩
    · rw [cL_app] at hp
      rcases List.mem_append.mp hp with e | e
      · exact Nat.le_trans (g p e) (Nat.le_add_right _ _)
      · rw [List.mem_singleton.mp e]
        exact Nat.le_trans h1 (Nat.le_add_left _ _)
    · rw [dL_app]
      have := deepL okk
      show max _ (max (dC c) 0) ≤ _
      omega
def spDue (K : PySem.W.Frag) : Sp := fun vs H Q _ => ∃ (s : Addr) (i : Inf), vs = [.ref s] ∧ IsS K H s i ∧
  ∀ (v : V) (H' : Hp) (c : Ch), Ext s H H' → IsS K H' s i → IsC K H' v c → (c = .any "row" ∨ c = .any "book" ∨ ∃ z, c = .wth z ∧ Word z) → Q v H'
end Sc
namespace Sc
open PySem PySem.Spec PyProof.Rows L2
/-! ### defs that may raise -/
structure CalX (P : Program) (w : World) (K : PySem.W.Frag) (mg : Str → Option Value) (base : Heap) (k : Nat) (x : Str) (ps : List Str) (sp : Sp) : Prop where
  ex : ∃ f fd, FnOk P w K mg base (L2.CX P w) k f fd ps sp ∧ mg x = some (.ref f) ∧ PySem.W.keepIn K (.ref f) = true ∧ Binds K fd ps []
theorem CalX.mono {P : Program} {w : World} {K : PySem.W.Frag} {mg : Str → Option Value} {base : Heap} {j k : Nat} {x : Str} {ps : List Str} {sp : Sp} (C : CalX P w K mg base j x ps sp) (h : j ≤ k) : CalX P w K mg base k x ps sp := by
  obtain ⟨f, fd, a, b⟩ := C.ex
  exact ⟨f, fd, a.mono h, b⟩
theorem Def.neverX {P : Program} {w : World} {K : PySem.W.Frag} {mg : Str → Option Value} {base : Heap} {x : Str} {st : Stmt} {ps : List Str} {sp : Sp} (D : Def K mg x st ps) (no : ∀ vs H Q E, ¬ sp vs H Q E) : CalX P w K mg base 0 x ps sp := by
  obtain ⟨f, fd, F, m, b⟩ := D.ex
  exact ⟨f, fd, ⟨fun vs H Q E h => absurd h (no vs H Q E), fun A outer s H args us vs Q E _ _ _ _ h => absurd h (no vs H Q E)⟩, m, F.kp, b⟩
theorem Def.okX {P : Program} {w : World} {K : PySem.W.Frag} {mg : Str → Option Value} {base : Heap} {x : Str} {st : Stmt} {N ps : List Str} {k : Nat} {sp : Sp} (D : Def K mg x st ps) (S : FnScope N ps (defScope st)) (len : ∀ vs H Q E, sp vs H Q E → vs.length = ps.length)
    (body : ∀ (f : Addr) (cdv : Value) (A : Around) (outer : List Env) (s : Shared) (H : Hp) (vs : List V) (Q : VK) (E : XK), Room k (A.deeper (envOfC x (defScope st) s.heap.objs.size f cdv)) → sp vs H Q E →
      ∃ t, PSs (cxOf (L2.CX P w) P w K mg base N x (defScope st) f cdv A outer s H E) (defBody st) t ∧ t { nx := fun _ H' => Q .non H', rt := Q } (start N vs) H) : CalX P w K mg base (k + 1) x ps sp := by
  obtain ⟨f, fd, F, m, b⟩ := D.ex
  exact ⟨f, fd, F.okX S len fun cdv A outer s H vs Q E hr h => body f cdv A outer s H vs Q E hr h, m, F.kp, b⟩
section
variable {X : Cx} {k : Nat} {x : Str} {ps : List Str} {sp : Sp} {e : Expr} {es : List Expr} {t : TA} {p pos : Pos} {E : XK}
/-- a call of a def that may raise: what it raises leaves -/
theorem pe_calX (C : CalX X.prog X.w X.K X.mg X.base k x ps sp) (hr : Room k X.A) (hx : Passes (L2.CX X.prog X.w) X E) (ha : PA X (e :: es) t) (hg : Gl X x := by rfl) (hdb : (x == ("__debug__" : Str)) = false := by decide)
    (he : starEach (e :: es) X.env = (false, eval e X.env) :: starEach es X.env := by rfl) (hpl : (backTo pos (starEach es X.env)).any (·.1) = false := by rfl) :
    PE X (.Call (.Name x p) (e :: es) [] pos) (tCall sp [] E t) := by
  obtain ⟨f, fd, F, m, kp, b⟩ := C.ex
  exact pe_call F hr hg m kp b .nil hx ha hdb he hpl
end
/-! ### data, tables -/
/-- lists and tuples are kept -/
def KeepL (K : PySem.W.Frag) (H H' : Hp) : Prop := (∀ a xs, SqL K H a xs → SqL K H' a xs) ∧ Keep K H H'
mutual
theorem KeepL.dp {K : PySem.W.Frag} {H H' : Hp} (e : KeepL K H H') : ∀ {v : V} {d : PyData}, Dp K H v d → Dp K H' v d
  | _, _, .non => .non
  | _, _, .bl b => .bl b
  | _, _, .int i => .int i
  | _, _, .str x => .str x
  | _, _, .lst h a => .lst (e.1 _ _ h) (KeepL.dps e a)
  | _, _, .tup h a => .tup (e.2 _ _ h) (KeepL.dps e a)
theorem KeepL.dps {K : PySem.W.Frag} {H H' : Hp} (e : KeepL K H H') : ∀ {vs : List V} {ds : List PyData}, DpAll K H vs ds → DpAll K H' vs ds
  | _, _, .nil => .nil
  | _, _, .cons h t => .cons (KeepL.dp e h) (KeepL.dps e t)
end
theorem DpAll.len {K : PySem.W.Frag} {H : Hp} : ∀ {vs : List V} {ds : List PyData}, DpAll K H vs ds → vs.length = ds.length
  | _, _, .nil => rfl
  | _, _, .cons _ t => congrArg (· + 1) (DpAll.len t)
theorem DpAll.get {K : PySem.W.Frag} {H : Hp} : ∀ {vs : List V} {ds : List PyData} {i : Nat} {v : V}, DpAll K H vs ds → vs[i]? = some v → ∃ d, ds[i]? = some d ∧ Dp K H v d
  | _, _, 0, _, .cons h _, e => ⟨_, rfl, by simp at e; subst e; exact h⟩
  | _, _, i + 1, v, .cons _ t, e => by
    obtain ⟨d, h1, h2⟩ := DpAll.get (i := i) (v := v) t (by simpa using e)
    exact ⟨d, by simpa using h1, h2⟩
/-- all but the tables is kept, the tables at T are tables -/
def Tb (T : List Addr) (H : Hp) : Prop := ∀ P ∈ T, GxR.TabG H P
structure Fr (T : List Addr) (H H' : Hp) : Prop where
  old : ∀ b o, H b = some o → b ∉ T → H' b = some o
  tab : Tb T H'
theorem Fr.refl {T : List Addr} {H : Hp} (t : Tb T H) : Fr T H H := ⟨fun _ _ h _ => h, t⟩
theorem Fr.trans {T : List Addr} {H H1 H2 : Hp} (a : Fr T H H1) (b : Fr T H1 H2) : Fr T H H2 := ⟨fun c o h n => b.old c o (a.old c o h n) n, b.tab⟩
theorem Fr.same {T : List Addr} {H H' : Hp} (t : Tb T H) (e : Same H H') : Fr T H H' := ⟨fun b o h _ => e b o h, fun P hP => let ⟨ps, h, g⟩ := t P hP; ⟨ps, e _ _ h, g⟩⟩
theorem Fr.tabbed {T : List Addr} {P : Addr} {H H' : Hp} (t : Tb T H) (h : GxR.Tabbed P H H') (hP : P ∈ T) : Fr T H H' := by
  refine ⟨fun b o e n => ?_, fun P' hP' => ?_⟩
  · rw [h.2 b fun z => n (z ▸ hP)]
    exact e
  · by_cases z : P' = P
    · rw [z]; exact h.1
    · obtain ⟨ps, e, g⟩ := t P' hP'
      exact ⟨ps, by rw [h.2 P' z]; exact e, g⟩
theorem Fr.free {T : List Addr} {H H' : Hp} {l : Addr} (t : Tb T H) (e : Fr T H H') (h : H' l = none) : H l = none := by
  by_cases hl : l ∈ T
  · obtain ⟨ps, g, _⟩ := e.tab l hl
    rw [g] at h
    cases h
  · cases q : H l with
    | none => rfl
    | some o => rw [e.old l o q hl] at h; cases h
theorem Fr.keep {K : PySem.W.Frag} {T : List Addr} {H H' : Hp} (t : Tb T H) (e : Fr T H H') : KeepL K H H' := by
  have ne : ∀ a o, H a = some o → (∀ ps, o ≠ .tbl ps) → a ∉ T := fun a o h n z => by
    obtain ⟨ps, g, _⟩ := t a z
    rw [h] at g
    exact n ps (Option.some.inj g)
  refine ⟨fun a xs h => ?_, fun a xs h => ?_⟩
  · rcases h with (h | ⟨o, h⟩) | h
    · exact .inl (.inl (e.old _ _ h (ne _ _ h fun ps z => by cases z)))
    · exact .inl (.inr ⟨o, e.old _ _ h (ne _ _ h fun ps z => by cases z)⟩)
    · exact .inr h
  · rcases h with (h | ⟨o, h⟩) | h
    · exact .inl (.inl (e.old _ _ h (ne _ _ h fun ps z => by cases z)))
    · exact .inl (.inr ⟨o, e.old _ _ h (ne _ _ h fun ps z => by cases z)⟩)
    · exact .inr h
/-- the type of data -/
def tyD : PyData → String
  | .none => "NoneType" | .bool _ => "bool" | .int _ => "int" | .str _ => "str" | .list _ => "list" | .tuple _ => "tuple" | .dict _ => "dict"
theorem Dp.ty {K : PySem.W.Frag} {H : Hp} {v : V} {d : PyData} (h : Dp K H v d) : TyX K H v (.type (tyD d)) := by
  cases h with
  | non => exact .base .non
  | bl b => exact .base (.bl b)
  | int i => exact .base (.int i)
  | str x => exact .base (.str x)
  | lst h _ =>
    rcases h with (h | ⟨o, h⟩) | ⟨o, its, n, h1, h2, _⟩
    · exact .base (.lst h)
    · exact .base (.frz h)
    · exact .kList h1 h2
  | tup h _ =>
    rcases h with (h | ⟨o, h⟩) | ⟨o, its, n, h1, h2, _⟩
    · exact .base (.tup h)
    · exact .fTuple h
    · exact .kTuple h1 h2
def isTupB : PyData → Bool
  | .tuple _ => true
  | _ => false
def isStrB : PyData → Bool
  | .str _ => true
  | _ => false
/-- is it of the type T: no dict among the data -/
theorem isTup {K : PySem.W.Frag} {H : Hp} {v : V} {d : PyData} (h : Dp K H v d) : kitB (tyD d) "tuple" = some (isTupB d) := by
  cases h with
  | non => exact (by decide +kernel : kitB "NoneType" "tuple" = some false)
  | bl b => exact (by decide +kernel : kitB "bool" "tuple" = some false)
  | int i => exact (by decide +kernel : kitB "int" "tuple" = some false)
  | str x => exact (by decide +kernel : kitB "str" "tuple" = some false)
  | lst _ _ => exact (by decide +kernel : kitB "list" "tuple" = some false)
  | tup _ _ => exact (by decide +kernel : kitB "tuple" "tuple" = some true)
theorem isStr {K : PySem.W.Frag} {H : Hp} {v : V} {d : PyData} (h : Dp K H v d) : kitB (tyD d) "str" = some (isStrB d) := by
  cases h with
  | non => exact (by decide +kernel : kitB "NoneType" "str" = some false)
  | bl b => exact (by decide +kernel : kitB "bool" "str" = some false)
  | int i => exact (by decide +kernel : kitB "int" "str" = some false)
  | str x => exact (by decide +kernel : kitB "str" "str" = some true)
  | lst _ _ => exact (by decide +kernel : kitB "list" "str" = some false)
  | tup _ _ => exact (by decide +kernel : kitB "tuple" "str" = some false)
end Sc
namespace Sc
open PySem PySem.Spec PyProof.Rows L2
mutual
/-- no long texts, no long rows -/
def sm : PyData → Bool
  | .str z => decide (z.length ≤ 1000)
  | .list xs => decide (xs.length ≤ 60) && smAll xs
  | .tuple xs => decide (xs.length ≤ 60) && smAll xs
  | .dict _ => false
  | _ => true
def smAll : List PyData → Bool
  | [] => true
  | x :: xs => sm x && smAll xs
end
def okD (d : PyData) : Prop := SeqAt.shaped d = true ∧ sm d = true
theorem smAll_mem {x : PyData} : ∀ {xs : List PyData}, smAll xs = true → x ∈ xs → sm x = true
  | y :: ys, h, m => by
    have h' : (sm y && smAll ys) = true := h
    rw [Bool.and_eq_true] at h'
    rcases List.mem_cons.mp m with e | e
    · rw [e]; exact h'.1
    · exact smAll_mem h'.2 e
theorem layAll_mem {x : PyData} : ∀ {xs : List PyData}, PyData.canLayAll0 xs = true → x ∈ xs → x.canLay0 = true
  | y :: ys, h, m => by
    have h' : (PyData.canLay0 y && PyData.canLayAll0 ys) = true := h
    rw [Bool.and_eq_true] at h'
    rcases List.mem_cons.mp m with e | e
    · rw [e]; exact h'.1
    · exact layAll_mem h'.2 e
theorem depthAll_mem {x : PyData} : ∀ {xs : List PyData}, x ∈ xs → x.depth ≤ PyData.depthAll xs
  | y :: ys, m => by
    have e0 : PyData.depthAll (y :: ys) = max y.depth (PyData.depthAll ys) := by simp [PyData.depthAll]
    rw [e0]
    rcases List.mem_cons.mp m with e | e
    · rw [e]; exact Nat.le_max_left _ _
    · exact Nat.le_trans (depthAll_mem e) (Nat.le_max_right _ _)
theorem okD.sub {ds : List PyData} (h : okD (.tuple ds)) : ds.length ≤ 60 ∧ ∀ x ∈ ds, okD x := by
  obtain ⟨h1, h2⟩ := h
  have h2' : (decide (ds.length ≤ 60) && smAll ds) = true := h2
  rw [Bool.and_eq_true, decide_eq_true_eq] at h2'
  refine ⟨h2'.1, fun x hx => ⟨?_, smAll_mem h2'.2 hx⟩⟩
  have l := SeqAt.canLay_of_shaped h1
  have d := SeqAt.depth_of_shaped h1
  have e0 : (PyData.tuple ds).depth = PyData.depthAll ds + 1 := by simp [PyData.depth]
  have := depthAll_mem hx
  exact Bool.and_eq_true_iff.mpr ⟨layAll_mem l hx, decide_eq_true (by omega)⟩
/-! ### what is a word, a letter -/
instance (z : Str) : Decidable (Lett z) := by unfold Lett; infer_instance
def isWordD : PyData → Bool
  | .str z => decide (Word z)
  | _ => false
def isLettD : PyData → Bool
  | .str z => decide (Lett z)
  | _ => false
def lenOkD : PyData → Bool
  | .str z => decide (1 ≤ z.length) && decide (z.length ≤ 8)
  | _ => false
/-- the promise of a test of data -/
def spTest (K : PySem.W.Frag) (T : List Addr) (p : PyData → Bool) : Sp := fun vs H Q _ => ∃ (v : V) (d : PyData), vs = [v] ∧ Dp K H v d ∧ okD d ∧ Tb T H ∧ ∀ (H' : Hp), Fr T H H' → Q (.bl (p d)) H'
/-- 'a' <= sign <= 'z' -/
theorem elt_between {prog : Program} {w : World} {scope : Scope} {x : Str} {a b : Nat} {j1 j2 : Nat} {p1 p2 p3 p4 : Pos} (hk : scope.kind = .function) (hl : scope.names.lookup x = some .local) (hd : (x == ("__debug__" : Str)) = false := by decide) :
    GxR.EltP prog w scope x (.Compare (.Constant (.str ⟨#[a]⟩) j1 p1) [.LtE, .LtE] [.Name x p2, .Constant (.str ⟨#[b]⟩) j2 p3] p4) (fun c => decide (a ≤ c) && decide (c ≤ b)) := by
  intro cenv A' E' c t s₂ m₂ hs hn hm
  refine Compare_chain (Calls.Constant_str (chain_link ?_)) (by with_unfolding_all rfl)
  refine wpAny_Name (wpAny_loadName_local (by rw [hs]; exact hk) (show cenv.scope.names.lookup x = some .local by rw [hs]; exact hl) hn hm ?_) hd
  refine PySem.P.le_str (wpAny_truthy_bool ?_)
  have l1 : (!decide ((⟨#[c]⟩ : Str).cps.toList < (⟨#[a]⟩ : Str).cps.toList)) = decide (a ≤ c) := by
    rw [← decide_not]
    refine decide_eq_decide.mpr ?_
    show ¬ [c] < [a] ↔ a ≤ c
    rw [List.cons_lt_cons_iff]
    simp
  have l2 : (!decide ((⟨#[b]⟩ : Str).cps.toList < (⟨#[c]⟩ : Str).cps.toList)) = decide (c ≤ b) := by
    rw [← decide_not]
    refine decide_eq_decide.mpr ?_
    show ¬ [b] < [c] ↔ c ≤ b
    rw [List.cons_lt_cons_iff]
    simp
  rw [l1]
  cases h : decide (a ≤ c) with
  | false =>
    rw [if_neg Bool.false_ne_true]
    refine ⟨?_, GxR.keeps_tok _ _⟩
    dsimp only
    rw [h]
    rfl
  | true =>
    rw [if_pos rfl]
    refine chain_last (Calls.Constant_str (PySem.P.le_str ?_))
    refine ⟨?_, GxR.keeps_tok _ _⟩
    dsimp only
    rw [l2, h, Bool.true_and]
end Sc
namespace Sc
open PySem PySem.Spec PyProof.Rows L2
/-! ### ascending texts -/
abbrev ltT (a b : Str) : Prop := a.cps.toList < b.cps.toList
def ascB (zs : List Str) : Bool := sortedS zs && decide zs.Nodup
theorem str_ext {a b : Str} (h : a.cps.toList = b.cps.toList) : a = b := by
  cases a; cases b
  exact congrArg _ (Array.toList_inj.mp h)
theorem rising_iff : ∀ (p : Str) (l : List Str), risingS p l = true ↔ (p :: l).Pairwise (fun a b => ¬ ltT b a)
  | p, [] => by simp [risingS]
  | p, x :: r => by
    unfold risingS
    rw [Bool.and_eq_true, rising_iff x r, Bool.not_eq_true', PyProof.Rows.ltCps_eq, decide_eq_false_iff_not]
    constructor
    · rintro ⟨h1, h2⟩
      refine List.pairwise_cons.mpr ⟨fun y hy => ?_, h2⟩
      rcases List.mem_cons.mp hy with e | e
      · rw [e]; exact h1
      · exact List.le_trans (α := Nat) h1 ((List.pairwise_cons.mp h2).1 y e)
    · intro h
      have h' := List.pairwise_cons.mp h
      exact ⟨h'.1 x List.mem_cons_self, h'.2⟩
theorem sorted_iff (l : List Str) : sortedS l = true ↔ l.Pairwise (fun a b => ¬ ltT b a) := by
  cases l with
  | nil => simp [sortedS]
  | cons p r => exact rising_iff p r
theorem asc_iff (l : List Str) : ascB l = true ↔ l.Pairwise ltT := by
  unfold ascB
  rw [Bool.and_eq_true, sorted_iff, decide_eq_true_eq]
  constructor
  · rintro ⟨h1, h2⟩
    refine List.Pairwise.imp₂ (fun a b h g => ?_) h1 h2
    exact Classical.byContradiction fun z => g (str_ext (List.le_antisymm (α := Nat) h z))
  · intro h
    exact ⟨h.imp fun g => List.lt_asymm g, h.imp fun {a b} g e => by rw [e] at g; exact List.lt_irrefl _ g⟩
theorem asc_uniq : ∀ (xs ys : List Str), xs.Pairwise ltT → ys.Pairwise ltT → (∀ x, x ∈ xs ↔ x ∈ ys) → xs = ys
  | [], [], _, _, _ => rfl
  | [], y :: _, _, _, h => absurd ((h y).mpr List.mem_cons_self) (by simp)
  | x :: _, [], _, _, h => absurd ((h x).mp List.mem_cons_self) (by simp)
  | x :: xs, y :: ys, hx, hy, h => by
    have hx' := List.pairwise_cons.mp hx
    have hy' := List.pairwise_cons.mp hy
    have e : x = y := by
      rcases List.mem_cons.mp ((h x).mp List.mem_cons_self) with e | e
      · exact e
      rcases List.mem_cons.mp ((h y).mpr List.mem_cons_self) with e2 | e2
      · exact e2.symm
      exact absurd (hy'.1 x e) (List.lt_asymm (hx'.1 y e2))
    subst e
    have irr : ∀ z, ltT x z → z ≠ x := fun z g e => by rw [e] at g; exact List.lt_irrefl _ g
    rw [asc_uniq xs ys hx'.2 hy'.2 fun z => ⟨fun m => ?_, fun m => ?_⟩]
    · rcases List.mem_cons.mp ((h z).mp (List.mem_cons_of_mem _ m)) with e | e
      · exact absurd e (irr z (hx'.1 z m))
      · exact e
    · rcases List.mem_cons.mp ((h z).mpr (List.mem_cons_of_mem _ m)) with e | e
      · exact absurd e (irr z (hy'.1 z m))
      · exact e
/-- a list against the sorted set of its members -/
theorem asc_eq {zs ys : List Str} (so : sortedS ys = true) (nd : ys.Nodup) (mem : ∀ x, x ∈ ys ↔ x ∈ zs) : decide (zs = ys) = ascB zs := by
  have hy : ascB ys = true := by unfold ascB; rw [so, decide_eq_true nd]; rfl
  rw [Bool.eq_iff_iff, decide_eq_true_eq]
  constructor
  · intro e; rw [e]; exact hy
  · intro h
    exact asc_uniq zs ys ((asc_iff _).mp h) ((asc_iff _).mp hy) fun x => (mem x).symm
theorem eqv_strs : ∀ (xs ys : List Str), PyData.eqvAll (xs.map .str) (ys.map .str) = decide (xs = ys)
  | [], [] => rfl
  | [], _ :: _ => rfl
  | _ :: _, [] => rfl
  | x :: xs, y :: ys => by
    have e : PyData.eqvAll ((x :: xs).map .str) ((y :: ys).map .str) = ((x == y) && PyData.eqvAll (xs.map .str) (ys.map .str)) := by
      simp [PyData.eqvAll, PyData.eqv]
    rw [e, eqv_strs xs ys, Bool.eq_iff_iff, Bool.and_eq_true, decide_eq_true_eq, beq_iff_eq, decide_eq_true_eq, List.cons.injEq]
theorem dp_strs {K : PySem.W.Frag} {H : Hp} : ∀ zs : List Str, DpAll K H (zs.map V.str) (zs.map .str)
  | [] => .nil
  | z :: zs => .cons (.str z) (dp_strs zs)
theorem lay_strs : ∀ {zs : List Str}, (∀ z ∈ zs, PyData.canLay0 (.str z) = true) → PyData.canLayAll0 (zs.map .str) = true
  | [], _ => rfl
  | z :: zs, h => by
    show (PyData.canLay0 (.str z) && PyData.canLayAll0 (zs.map .str)) = true
    rw [lay_strs fun x m => h x (List.mem_cons_of_mem _ m), Bool.and_true]
    exact h z List.mem_cons_self
theorem dep_strs : ∀ zs : List Str, PyData.depthAll (zs.map .str) ≤ 1
  | [] => by simp [PyData.depthAll]
  | z :: zs => by
    have := dep_strs zs
    simp only [List.map_cons, PyData.depthAll, PyData.depth]
    omega
theorem shaped_strs {zs : List Str} (h : ∀ z ∈ zs, PyData.canLay0 (.str z) = true) : SeqAt.shaped (.list (zs.map .str)) = true := by
  have d := dep_strs zs
  have e0 : (PyData.list (zs.map .str)).depth = PyData.depthAll (zs.map .str) + 1 := by simp [PyData.depth]
  exact Bool.and_eq_true_iff.mpr ⟨lay_strs h, decide_eq_true (by omega)⟩
end Sc
namespace Sc
open PySem PySem.Spec PyProof.Rows L2
/-! ### what is refused -/
/-- an own class of errors under ValueError -/
structure Ec (K : PySem.W.Frag) (mg : Str → Option Value) (x : Str) (C : Addr) : Prop where
  g : mg x = some (.ref C)
  q : PySem.W.excIn K C [.type "ValueError", .type "Exception", .type "BaseException", .type "object"] "ValueError.__new__" = true
  k : PySem.W.keepIn K (.ref C) = true
  b : PySem.W.subIn K (.ref C) (.type "BaseException") = some true
  t : PySem.W.typeIn K (.ref C) = some (.type "type")
def pairD : PyData → Bool
  | .tuple [.str _, _] => true
  | _ => false
def nameD : PyData → Str
  | .tuple (.str z :: _) => z
  | _ => Str.empty
def fldD : PyData → Bool
  | .tuple ds => !ds.isEmpty && ds.all pairD && ascB (ds.map nameD)
  | _ => false
theorem two_open {K : PySem.W.Frag} {H : Hp} {vs : List V} {ds : List PyData} (h : DpAll K H vs ds) (two : vs.length = 2) : ∃ x1 x2 d1 d2, vs = [x1, x2] ∧ ds = [d1, d2] ∧ Dp K H x1 d1 ∧ Dp K H x2 d2 := by
  cases h with
  | nil => cases two
  | cons h1 t => cases t with
    | nil => cases two
    | cons h2 t => cases t with
      | nil => exact ⟨_, _, _, _, rfl, rfl, h1, h2⟩
      | cons _ _ => exact absurd two (by simp)
theorem pair_len : ∀ {ds : List PyData}, ds.length ≠ 2 → pairD (.tuple ds) = false
  | [], _ => rfl
  | [u], _ => by cases u <;> rfl
  | [_, _], e => absurd rfl e
  | u :: _ :: _ :: _, _ => by cases u <;> rfl
theorem pair_two (d1 d2 : PyData) : pairD (.tuple [d1, d2]) = isStrB d1 := by cases d1 <;> rfl
def letD (ls : List Str) : PyData → Bool
  | .str z => isLettD (.str z) && decide (z ∈ ls)
  | _ => false
/-- choices, fields, by what is good within -/
def gPr (g : PyData → Bool) : PyData → Bool
  | .tuple [n, k] => isWordD n && g k
  | _ => false
def gFl (g : PyData → Bool) : PyData → Bool
  | .tuple ds => fldD (.tuple ds) && ds.all (gPr g)
  | _ => false
def gCh (ls : List Str) (g : PyData → Bool) : PyData → Bool
  | .tuple [.str w] => w == "number" || w == "text"
  | .tuple [.str w, t] => if w = "row" ∨ w = "book" then g t else if w = "shape" then gFl g t else if w = "letter" then letD ls t else false
  | _ => false
/-- a kind with room n - 1 -/
def gK (ls : List Str) : Nat → PyData → Bool
  | 0, _ => false
  | n + 1, d => match d with
    | .tuple ds => !ds.isEmpty && ds.all (gCh ls (gK ls n))
    | _ => false
/-- the promise of a def that refuses: rest behind the letters -/
def spNeed (K : PySem.W.Frag) (T : List Addr) (CB : Addr) (rest : List V) (p : List Str → PyData → Bool) : Sp := fun vs H Q E => ∃ (ls : List Str) (v : V) (d : PyData) (la : Addr), vs = v :: .ref la :: rest ∧ Dp K H v d ∧ okD d ∧ Tb T H ∧ SqT K H la (ls.map V.str) ∧
  (p ls d = true → ∀ (H' : Hp), Fr T H H' → Q .non H') ∧ (p ls d = false → ∀ (H' : Hp), Fr T H H' → E (.ref CB) none H')
theorem in_strs (z : Str) (ls : List Str) : inV (.str z) (ls.map V.str) = decide (z ∈ ls) := by
  unfold inV
  rw [Bool.eq_iff_iff, List.any_map, List.any_eq_true, decide_eq_true_eq]
  constructor
  · rintro ⟨y, hy, e⟩
    have e' : (y == z) = true := e
    rw [beq_iff_eq] at e'
    rw [← e']; exact hy
  · intro h
    exact ⟨z, h, by show (z == z) = true; rw [beq_iff_eq]⟩
theorem flat_strs : ∀ ls : List Str, (ls.map V.str).all flatV = true
  | [] => rfl
  | _ :: ls => by rw [List.map_cons, List.all_cons, flat_strs ls]; rfl
end Sc
namespace Sc
open PySem PySem.Spec PyProof.Rows L2
/-! ### literals -/
theorem Same.keepL {K : PySem.W.Frag} {H H' : Hp} (e : Same H H') : KeepL K H H' := ⟨fun _ _ h => Same.seq e h, fun _ _ h => Same.tup e h⟩
/-- a written value: the slot i holds g -/
def tLit (K : PySem.W.Frag) (i : Nat) (g d : PyData) : TE := fun σ H Q => (∃ v, σ[i]? = some (some v) ∧ Dp K H v g) ∧ ∀ v H', Same H H' → Dp K H' v d → Q v H'
def tLits (K : PySem.W.Frag) (i : Nat) (g : PyData) (ds : List PyData) : TA := fun σ H Q => (∃ v, σ[i]? = some (some v) ∧ Dp K H v g) ∧ ∀ vs H', Same H H' → DpAll K H' vs ds → Q vs H'
def tLitL (K : PySem.W.Frag) (i : Nat) (g : PyData) (ds : List PyData) : TE := fun σ H Q => (∃ v, σ[i]? = some (some v) ∧ Dp K H v g) ∧ ∀ l vs H', Same H H' → H' l = some (.lst vs) → DpAll K H' vs ds → Q (.ref l) H'
section
variable {X : Cx} {K : PySem.W.Frag} {i : Nat} {g d : PyData} {ds : List PyData} {e : Expr} {es : List Expr}
theorem pe_imp {t t' : TE} (h : PE X e t) (k : ∀ σ H Q, t' σ H Q → t σ H Q) : PE X e t' := ⟨fun pins s σ H Q I q => h.run pins s σ H Q I (k σ H Q q)⟩
theorem pa_imp {t t' : TA} (h : PA X es t) (k : ∀ σ H Q, t' σ H Q → t σ H Q) : PA X es t' := ⟨fun pos pins s σ H Q I q => h.run pos pins s σ H Q I (k σ H Q q)⟩
theorem lit_str {x : Str} {j : Nat} {pos : Pos} : PE X (.Constant (.str x) j pos) (tLit K i g (.str x)) := pe_imp pe_str fun _ _ _ q => q.2 _ _ (Same.refl _) (.str _)
theorem lit_int {x : Int} {j : Nat} {pos : Pos} : PE X (.Constant (.int x) j pos) (tLit K i g (.int x)) := pe_imp pe_int fun _ _ _ q => q.2 _ _ (Same.refl _) (.int _)
theorem lit_non {j : Nat} {pos : Pos} : PE X (.Constant .none j pos) (tLit K i g .none) := pe_imp pe_non fun _ _ _ q => q.2 _ _ (Same.refl _) .non
theorem lit_var (h : PE X e (tVar i)) : PE X e (tLit K i g g) := pe_imp h fun _ _ _ ⟨⟨v, a, b⟩, q⟩ => ⟨v, a, q _ _ (Same.refl _) b⟩
theorem lits_nil : PA X [] (tLits K i g []) := pa_imp pa_nil fun _ _ _ q => q.2 _ _ (Same.refl _) .nil
theorem lits_cons (h : PE X e (tLit K i g d)) (r : PA X es (tLits K i g ds)) (hs : starEach (e :: es) X.env = (false, eval e X.env) :: starEach es X.env := by rfl) : PA X (e :: es) (tLits K i g (d :: ds)) :=
  pa_imp (pa_cons h r hs) fun _ _ _ ⟨⟨v0, a, b⟩, q⟩ => ⟨⟨v0, a, b⟩, fun v H1 e1 d1 => ⟨⟨v0, a, KeepL.dp (Same.keepL e1) b⟩, fun vs H2 e2 d2 => q _ _ (Same.trans e1 e2) (.cons (KeepL.dp (Same.keepL e2) d1) d2)⟩⟩
theorem lit_tup {x1 : Nat} {pos : Pos} (h : PA X es (tLits K i g ds)) (hl : ds.length ≤ 1000) : PE X (.Tuple es x1 pos) (tLit K i g (.tuple ds)) :=
  pe_imp (pe_tup h) fun _ _ _ ⟨a, q⟩ => ⟨a, fun vs H1 e1 d1 => ⟨sizeOk (by rw [DpAll.len d1]; exact Nat.le_trans hl (by decide)), fun p hp => q _ _ (Same.trans e1 (same_new hp _)) (.tup (SqT.of upd_same) (KeepL.dps (Same.keepL (same_new hp _)) d1))⟩⟩
theorem lit_lst {pos : Pos} (h : PA X es (tLits K i g ds)) (hl : ds.length ≤ 1000) : PE X (.List es pos) (tLitL K i g ds) :=
  pe_imp (pe_lst h) fun _ _ _ ⟨a, q⟩ => ⟨a, fun vs H1 e1 d1 => ⟨sizeOk (by rw [DpAll.len d1]; exact Nat.le_trans hl (by decide)), fun p hp => q _ _ _ (Same.trans e1 (same_new hp _)) upd_same (KeepL.dps (Same.keepL (same_new hp _)) d1)⟩⟩
theorem lit_list {pos : Pos} (h : PA X es (tLits K i g ds)) (hl : ds.length ≤ 1000) : PE X (.List es pos) (tLit K i g (.list ds)) :=
  pe_imp (lit_lst h hl) fun _ _ _ ⟨a, q⟩ => ⟨a, fun _ _ _ e1 h1 d1 => q _ _ e1 (.lst (SqL.of h1) d1)⟩
end
theorem DpAll.app {K : PySem.W.Frag} {H : Hp} : ∀ {vs : List V} {ds : List PyData} {us : List V} {es : List PyData}, DpAll K H vs ds → DpAll K H us es → DpAll K H (vs ++ us) (ds ++ es)
  | _, _, _, _, .nil, h => h
  | _, _, _, _, .cons a b, h => .cons a (DpAll.app b h)
end Sc
namespace Sc
open PySem PySem.Spec PyProof.Rows L2
/-! ### good kinds, bad ones -/
theorem okL_mem' {ls : List Str} {d : Nat} {c : Ch} : ∀ {k : List Ch}, okL ls d k → c ∈ k → okC ls d c
  | _ :: _, h, m => by
    rcases List.mem_cons.mp m with e | e
    · rw [e]; exact h.1
    · exact okL_mem' h.2 e
theorem okF_mem' {ls : List Str} {d : Nat} {p : Str × List Ch} : ∀ {fs : List (Str × List Ch)}, okF ls d fs → p ∈ fs → Word p.1 ∧ p.2 ≠ [] ∧ p.2.length ≤ 3 ∧ okL ls d p.2
  | (f, k) :: r, h, m => by
    rcases List.mem_cons.mp m with e | e
    · rw [e]; exact ⟨h.1, h.2.1, h.2.2.1, h.2.2.2.1⟩
    · exact okF_mem' h.2.2.2.2 e
theorem gCh_two' {ls : List Str} {g : PyData → Bool} (w : Str) (t : PyData) : gCh ls g (.tuple [.str w, t]) = if w = "row" ∨ w = "book" then g t else if w = "shape" then gFl g t else if w = "letter" then letD ls t else false := rfl
theorem good_kind {ls : List Str} (hl : ∀ l ∈ ls, Lett l) : ∀ (d n : Nat), d < n → ∀ k : List Ch, k ≠ [] → okL ls d k → gK ls n (.tuple (pyL k)) = true := by
  intro d
  induction d with
  | zero => 
    intro n hn k k0 ok
    obtain ⟨m, rfl⟩ : ∃ m, n = m + 1 := ⟨n - 1, by omega⟩
    show (!(pyL k).isEmpty && (pyL k).all (gCh ls (gK ls m))) = true
    rw [pyL_map, Bool.and_eq_true]
    refine ⟨by cases k with | nil => exact absurd rfl k0 | cons _ _ => rfl, ?_⟩
    rw [List.all_map, List.all_eq_true]
    intro c hc
    have h := okL_mem' ok hc
    show gCh ls (gK ls m) (pyC c) = true
    cases c with
    | num => rw [pyC]; rfl
    | txt => rw [pyC]; rfl
    | row k => exact absurd h.1 (Nat.lt_irrefl _)
    | book k => exact absurd h.1 (Nat.lt_irrefl _)
    | shape fs => exact absurd h.1 (Nat.lt_irrefl _)
    | letter l =>
      have h' : l ∈ ls := by unfold okC at h; exact h
      rw [pyC, gCh_two', if_neg (by decide +kernel), if_neg (by decide +kernel), if_pos rfl]
      show (isLettD (.str l) && decide (l ∈ ls)) = true
      rw [decide_eq_true h', Bool.and_true]
      exact decide_eq_true (hl l h')
    | cut _ _ => unfold okC at h; exact h.elim
    | any _ => unfold okC at h; exact h.elim
    | wth _ => unfold okC at h; exact h.elim
  | succ d ih =>
    intro n hn k k0 ok
    obtain ⟨m, rfl⟩ : ∃ m, n = m + 1 := ⟨n - 1, by omega⟩
    show (!(pyL k).isEmpty && (pyL k).all (gCh ls (gK ls m))) = true
    rw [pyL_map, Bool.and_eq_true]
    refine ⟨by cases k with | nil => exact absurd rfl k0 | cons _ _ => rfl, ?_⟩
    rw [List.all_map, List.all_eq_true]
    intro c hc
    have h := okL_mem' ok hc
    show gCh ls (gK ls m) (pyC c) = true
    cases c with
    | num => rw [pyC]; rfl
    | txt => rw [pyC]; rfl
    | row k =>
      rw [pyC, gCh_two', if_pos (.inl rfl)]
      exact ih m (by omega) k h.2.1 h.2.2.2
    | book k =>
      rw [pyC, gCh_two', if_pos (.inr rfl)]
      exact ih m (by omega) k h.2.1 h.2.2.2
    | shape fs =>
      obtain ⟨_, _, fl, okf⟩ := h
      rw [pyC, gCh_two', if_neg (by decide +kernel), if_pos rfl]
      show (fldD (.tuple (pyF fs)) && (pyF fs).all (gPr (gK ls m))) = true
      rw [Bool.and_eq_true]
      obtain ⟨f0, f26, fnd, fso, fw⟩ := fl
      constructor
      · show (!(pyF fs).isEmpty && (pyF fs).all pairD && ascB ((pyF fs).map nameD)) = true
        rw [pyF_map, Bool.and_eq_true, Bool.and_eq_true]
        refine ⟨⟨by cases fs with | nil => exact absurd rfl f0 | cons _ _ => rfl, ?_⟩, ?_⟩
        · rw [List.all_map, List.all_eq_true]
          intro p _
          rfl
        · rw [List.map_map]
          show ascB (fs.map (·.1)) = true
          unfold ascB
          rw [fso, decide_eq_true fnd]
          rfl
      · rw [pyF_map, List.all_map, List.all_eq_true]
        intro p hp
        obtain ⟨w1, k1, _, o1⟩ := okF_mem' okf hp
        show (isWordD (.str p.1) && gK ls m (.tuple (pyL p.2))) = true
        rw [ih m (by omega) p.2 k1 o1, Bool.and_true]
        exact decide_eq_true w1
    | letter l =>
      have h' : l ∈ ls := by unfold okC at h; exact h
      rw [pyC, gCh_two', if_neg (by decide +kernel), if_neg (by decide +kernel), if_pos rfl]
      show (isLettD (.str l) && decide (l ∈ ls)) = true
      rw [decide_eq_true h', Bool.and_true]
      exact decide_eq_true (hl l h')
    | cut _ _ => unfold okC at h; exact h.elim
    | any _ => unfold okC at h; exact h.elim
    | wth _ => unfold okC at h; exact h.elim
/-- not too deep, not too long -/
def OkN (n : Nat) (d : PyData) : Prop := d.canLay0 = true ∧ sm d = true ∧ d.depth ≤ n
theorem OkN.ok {n : Nat} {d : PyData} (h : OkN n d) (hn : n ≤ 64) : okD d := ⟨Bool.and_eq_true_iff.mpr ⟨h.1, decide_eq_true (Nat.le_trans h.2.2 hn)⟩, h.2.1⟩
theorem OkN.mono {m n : Nat} {d : PyData} (h : OkN m d) (hn : m ≤ n) : OkN n d := ⟨h.1, h.2.1, Nat.le_trans h.2.2 hn⟩
theorem okN_tup {n : Nat} {ds : List PyData} (hl : ds.length ≤ 60) (h : ∀ d ∈ ds, OkN n d) : OkN (n + 1) (.tuple ds) := by
  have a : ∀ ds : List PyData, (∀ d ∈ ds, OkN n d) → PyData.canLayAll0 ds = true ∧ smAll ds = true ∧ PyData.depthAll ds ≤ n := fun ds => by
    induction ds with
    | nil => exact fun _ => ⟨rfl, rfl, by simp [PyData.depthAll]⟩
    | cons x xs ih =>
      intro h
      obtain ⟨h1, h2, h3⟩ := ih fun d m => h d (List.mem_cons_of_mem _ m)
      obtain ⟨g1, g2, g3⟩ := h x List.mem_cons_self
      refine ⟨?_, ?_, ?_⟩
      · show (x.canLay0 && PyData.canLayAll0 xs) = true
        rw [g1, h1]; rfl
      · show (sm x && smAll xs) = true
        rw [g2, h2]; rfl
      · have e0 : PyData.depthAll (x :: xs) = max x.depth (PyData.depthAll xs) := by simp [PyData.depthAll]
        rw [e0]
        omega
  obtain ⟨h1, h2, h3⟩ := a ds h
  refine ⟨h1, ?_, ?_⟩
  · show (decide (ds.length ≤ 60) && smAll ds) = true
    rw [h2, decide_eq_true hl]; rfl
  · have e0 : (PyData.tuple ds).depth = PyData.depthAll ds + 1 := by simp [PyData.depth]
    omega
end Sc
namespace Sc
open PySem PySem.Spec PyProof.Rows L2
theorem okN_str {z : Str} (h8 : z.cps.toList.length ≤ 8) (h : ∀ c ∈ z.cps.toList, c ≤ 122) : OkN 0 (.str z) := by
  refine ⟨?_, ?_, by simp [PyData.depth]⟩
  · show z.cps.all (· < 0x110000) = true
    rw [← Array.all_toList, List.all_eq_true]
    intro c hc
    have := h c hc
    exact decide_eq_true (by omega)
  · show decide (z.length ≤ 1000) = true
    rw [len_list]
    exact decide_eq_true (by omega)
theorem okN_word {z : Str} (h : Word z) : OkN 0 (.str z) := okN_str h.2.1 fun c hc => (h.2.2 c hc).2
theorem okN_lett {z : Str} (h : Lett z) : OkN 0 (.str z) := okN_str h.2.1 fun c hc => by have := h.2.2 c hc; omega
theorem okN_w {z : Str} {n : Nat} (h : (PyData.canLay0 (.str z) && sm (.str z)) = true) : OkN n (.str z) := by
  rw [Bool.and_eq_true] at h
  exact ⟨h.1, h.2, by simp [PyData.depth]⟩
theorem okN_one {z : Str} {n : Nat} (h : (PyData.canLay0 (.str z) && sm (.str z)) = true) : OkN (n + 1) (.tuple [.str z]) := okN_tup (by show 1 ≤ 60; decide) fun x m => by rw [List.mem_singleton.mp m]; exact okN_w h
theorem okN_num (n : Nat) : OkN (n + 1) (pyC .num) := by rw [pyC]; exact okN_one (by decide +kernel)
theorem okN_txt (n : Nat) : OkN (n + 1) (pyC .txt) := by rw [pyC]; exact okN_one (by decide +kernel)
theorem okN_two {n : Nat} {w : Str} {d : PyData} (hw : OkN n (.str w)) (h : OkN n d) : OkN (n + 1) (.tuple [.str w, d]) := okN_tup (by show 2 ≤ 60; decide) fun x m => by
  rcases List.mem_cons.mp m with e | e
  · rw [e]; exact hw
  · rw [List.mem_singleton.mp e]; exact h
theorem okN_kind {ls : List Str} (hl : ∀ l ∈ ls, Lett l) : ∀ (d : Nat) (k : List Ch), k.length ≤ 60 → okL ls d k → OkN (4 * d + 2) (.tuple (pyL k)) := by
  intro d
  induction d with
  | zero =>
    intro k kl ok
    refine okN_tup (by rw [pyL_map, List.length_map]; exact kl) fun x hx => ?_
    rw [pyL_map] at hx
    obtain ⟨c, hc, rfl⟩ := List.mem_map.mp hx
    have h := okL_mem' ok hc
    cases c with
    | num => exact okN_num 0
    | txt => exact okN_txt 0
    | row k => exact absurd h.1 (Nat.lt_irrefl _)
    | book k => exact absurd h.1 (Nat.lt_irrefl _)
    | shape fs => exact absurd h.1 (Nat.lt_irrefl _)
    | letter l =>
      have h' : l ∈ ls := by unfold okC at h; exact h
      rw [pyC]
      exact okN_two (okN_w (by decide +kernel)) (okN_lett (hl l h'))
    | cut _ _ => unfold okC at h; exact h.elim
    | any _ => unfold okC at h; exact h.elim
    | wth _ => unfold okC at h; exact h.elim
  | succ d ih =>
    intro k kl ok
    refine okN_tup (by rw [pyL_map, List.length_map]; exact kl) fun x hx => ?_
    rw [pyL_map] at hx
    obtain ⟨c, hc, rfl⟩ := List.mem_map.mp hx
    have h := okL_mem' ok hc
    cases c with
    | num => exact okN_num _
    | txt => exact okN_txt _
    | row k =>
      rw [pyC]
      exact okN_two (n := 4 * d + 4) (okN_w (by decide +kernel)) ((ih k (by have := h.2.2.1; omega) h.2.2.2).mono (by omega))
    | book k =>
      rw [pyC]
      exact okN_two (n := 4 * d + 4) (okN_w (by decide +kernel)) ((ih k (by have := h.2.2.1; omega) h.2.2.2).mono (by omega))
    | shape fs =>
      obtain ⟨_, f2, fl, okf⟩ := h
      rw [pyC]
      refine okN_two (n := 4 * d + 4) (okN_w (by decide +kernel)) (okN_tup (n := 4 * d + 3) (by rw [pyF_map, List.length_map]; omega) fun x hx => ?_)
      rw [pyF_map] at hx
      obtain ⟨p, hp, rfl⟩ := List.mem_map.mp hx
      obtain ⟨w1, k1, k3, o1⟩ := okF_mem' okf hp
      exact okN_two (n := 4 * d + 2) ((okN_word w1).mono (by omega)) (ih p.2 (by omega) o1)
    | letter l =>
      have h' : l ∈ ls := by unfold okC at h; exact h
      rw [pyC]
      exact okN_two (n := 4 * (d + 1)) (okN_w (by decide +kernel)) ((okN_lett (hl l h')).mono (by omega))
    | cut _ _ => unfold okC at h; exact h.elim
    | any _ => unfold okC at h; exact h.elim
    | wth _ => unfold okC at h; exact h.elim
/-- refused with any room to eight -/
def Bad (ls : List Str) (d : PyData) : Prop := ∀ n, n ≤ 9 → gK ls n d = false
theorem bad_in {ls : List Str} {c : PyData} {cs : List PyData} (m : c ∈ cs) (h : ∀ n, n ≤ 9 → gCh ls (gK ls n) c = false) : Bad ls (.tuple cs) := fun n hn => by
  cases n with
  | zero => rfl
  | succ n =>
    show (!cs.isEmpty && cs.all (gCh ls (gK ls n))) = false
    have e : cs.all (gCh ls (gK ls n)) = false := Bool.eq_false_iff.mpr fun z => by
      have := List.all_eq_true.mp z c m
      rw [h n (by omega)] at this
      cases this
    rw [e, Bool.and_false]
theorem ch_row {ls : List Str} {d : PyData} (h : Bad ls d) : ∀ n, n ≤ 9 → gCh ls (gK ls n) (.tuple [.str "row", d]) = false := fun n hn => by rw [gCh_two', if_pos (.inl rfl)]; exact h n hn
theorem ch_book {ls : List Str} {d : PyData} (h : Bad ls d) : ∀ n, n ≤ 9 → gCh ls (gK ls n) (.tuple [.str "book", d]) = false := fun n hn => by rw [gCh_two', if_pos (.inr rfl)]; exact h n hn
theorem ch_shape {ls : List Str} {d : PyData} (z : Str) (h : Bad ls d) : ∀ n, n ≤ 9 → gCh ls (gK ls n) (.tuple [.str "shape", .tuple [.tuple [.str z, d]]]) = false := fun n hn => by
  rw [gCh_two', if_neg (by decide +kernel), if_pos rfl]
  have e : gPr (gK ls n) (.tuple [.str z, d]) = false := by show (isWordD (.str z) && gK ls n d) = false; rw [h n hn, Bool.and_false]
  show (fldD (.tuple [.tuple [.str z, d]]) && [PyData.tuple [.str z, d]].all (gPr (gK ls n))) = false
  rw [List.all_cons, e, Bool.false_and, Bool.and_false]
theorem bad_deep (ls : List Str) (f : Nat → PyData) (f1 : ∀ n, f (n + 1) = .tuple [.tuple [.str "row", f n]]) : ∀ m n, n ≤ m → gK ls n (f m) = false := by
  intro m
  induction m with
  | zero =>
    intro n hn
    obtain rfl : n = 0 := by omega
    rfl
  | succ m ih =>
    intro n hn
    cases n with
    | zero => rfl
    | succ n =>
      rw [f1]
      show (!([PyData.tuple [.str "row", f m]]).isEmpty && [PyData.tuple [.str "row", f m]].all (gCh ls (gK ls n))) = false
      rw [List.all_cons, gCh_two', if_pos (.inl rfl), ih n (by omega), Bool.false_and, Bool.and_false]
/-! ### no drawn letter is ZZ -/
theorem word_zz {i : Inf} (h : i.Ok) {k : Int} (k0 : 0 ≤ k) : (wordOf i k).cps.toList ≠ [122, 122] := by
  unfold wordOf
  split
  · rename_i c
    have lt : k.toNat < talks.length := by show k.toNat < 19; omega
    rw [List.getD_eq_getElem?_getD, List.getElem?_eq_getElem lt]
    have : ∀ z ∈ talks, z.cps.toList ≠ [122, 122] := by decide +kernel
    exact this _ (List.getElem_mem lt)
  · obtain ⟨s1, s8, p0, p1, t0, t1, _, _⟩ := h
    rw [app_list, app_list, reps_list, reps_list]
    intro e
    have l := congrArg List.length e
    rw [List.length_append, List.length_append, List.length_replicate, List.length_replicate] at l
    have l' : i.place.toNat + 1 + (i.size - i.place - 1).toNat = 2 := l
    have m : 113 ∈ ([122, 122] : List Nat) := by
      rw [← e]
      by_cases z : i.place.toNat = 0
      · exact List.mem_append.mpr (.inr (List.mem_replicate.mpr ⟨by omega, rfl⟩))
      · exact List.mem_append.mpr (.inl (List.mem_append.mpr (.inl (List.mem_replicate.mpr ⟨z, rfl⟩))))
    exact absurd m (by decide)
theorem upper_zz {i : Inf} (h : i.Ok) {k : Int} (k0 : 0 ≤ k) : Txt.upper (wordOf i k) ≠ "ZZ" := fun e => by
  have w := word_of h k0
  have n := word_zz h k0
  generalize wordOf i k = z at e w n
  rw [upper_ascii fun c m => by have := w.2.2 c m; omega] at e
  have e' : z.cps.toList.map up1 = [90, 90] := by
    have a : (⟨z.cps.map up1⟩ : Str).cps.toList = z.cps.toList.map up1 := Array.toList_map
    rw [← a, e]
    rfl
  have w2 := w.2.2
  have h2 : z.cps.toList.length = 2 := by have := congrArg List.length e'; rw [List.length_map] at this; exact this
  obtain ⟨a, b, hl⟩ : ∃ a b, z.cps.toList = [a, b] := by
    generalize z.cps.toList = l at h2
    match l, h2 with
    | [a, b], _ => exact ⟨a, b, rfl⟩
  rw [hl] at e' w2 n
  have ha := w2 a List.mem_cons_self
  have hb := w2 b (List.mem_cons_of_mem _ List.mem_cons_self)
  have e1 : up1 a = 90 := by injection e'
  have e2 : up1 b = 90 := by injection e' with _ q; injection q
  unfold up1 at e1 e2
  rw [if_pos ha] at e1
  rw [if_pos hb] at e2
  refine n ?_
  rw [show a = 122 by omega, show b = 122 by omega]
end Sc
namespace Sc
open PySem PySem.Spec PyProof.Rows L2
/-! ### a law's state beside tables -/
theorem Tb.ext {K : PySem.W.Frag} {T : List Addr} {H H' : Hp} {s : Addr} {i : Inf} (t : Tb T H) (S : IsS K H s i) (x : Ext s H H') : Tb T H' := fun P hP => by
  obtain ⟨ps, e, g⟩ := t P hP
  obtain ⟨kvs, hk⟩ := S.dk
  exact ⟨ps, x _ _ (fun z => by rw [z, hk] at e; cases e) e, g⟩
theorem IsS.keepL {K : PySem.W.Frag} {H H' : Hp} {s : Addr} {i : Inf} (h : IsS K H s i) (e : Ext s H H') : KeepL K H H' := ⟨fun _ _ q => h.seq e q, h.keep e⟩
theorem IsS.fr {K : PySem.W.Frag} {T : List Addr} {H H' : Hp} {s : Addr} {i : Inf} (h : IsS K H s i) (t : Tb T H) (f : Fr T H H') : IsS K H' s i := by
  have kp := Fr.keep (K := K) t f
  obtain ⟨ns, m, a, b, c⟩ := h
  refine ⟨ns, m, f.old _ _ a fun z => ?_, kp.1 _ _ b, c⟩
  obtain ⟨ps, e, _⟩ := t s z
  rw [a] at e
  cases e
/-- what stays through the law -/
structure Bd (K : PySem.W.Frag) (T : List Addr) (s : Addr) (i : Inf) (l : Addr) (ls : List Str) (gv : V) (gd : PyData) (H : Hp) : Prop where
  S : IsS K H s i
  tb : Tb T H
  hl : SqL K H l (ls.map V.str)
  dg : Dp K H gv gd
section
variable {K : PySem.W.Frag} {T : List Addr} {s : Addr} {i : Inf} {l : Addr} {ls : List Str} {gv : V} {gd : PyData} {H H' : Hp}
theorem Bd.ext (b : Bd K T s i l ls gv gd H) (x : Ext s H H') (S' : IsS K H' s i) : Bd K T s i l ls gv gd H' := ⟨S', b.tb.ext b.S x, b.S.seq x b.hl, KeepL.dp (b.S.keepL x) b.dg⟩
theorem Bd.same (b : Bd K T s i l ls gv gd H) (e : Same H H') : Bd K T s i l ls gv gd H' := ⟨b.S.same e, (Fr.same b.tb e).tab, Same.seq e b.hl, KeepL.dp (Same.keepL e) b.dg⟩
theorem Bd.fr (b : Bd K T s i l ls gv gd H) (f : Fr T H H') : Bd K T s i l ls gv gd H' := ⟨b.S.fr b.tb f, f.tab, (Fr.keep b.tb f).1 _ _ b.hl, KeepL.dp (Fr.keep b.tb f) b.dg⟩
theorem Bd.keepF (b : Bd K T s i l ls gv gd H) (f : Fr T H H') : KeepL K H H' := Fr.keep b.tb f
end
theorem KeepL.trans {K : PySem.W.Frag} {H H1 H2 : Hp} (a : KeepL K H H1) (b : KeepL K H1 H2) : KeepL K H H2 := ⟨fun _ _ h => b.1 _ _ (a.1 _ _ h), fun _ _ h => b.2 _ _ (a.2 _ _ h)⟩
end Sc
namespace Sc
open PySem PyProof.Rows L2
/-- a def whose code object is known -/
structure DefT (K : PySem.W.Frag) (mg : Str → Option Value) (x : Str) (st : Stmt) (ps : List Str) (c : Addr) : Prop where
  ex : ∃ (f : Addr) (fd : FuncData) (oc : Value) (od : Option Addr) (kV doc pm : Value) (an : Option Addr) (ct : Value) (osl : Array (Option Value)),
    fd = PySem.W.fnOf x x (defArgs st) (defBody st) (defScope st) .none kV doc pm an (.ref c) ct ∧ K.lookup f = some ⟨oc, od, .func fd, osl⟩ ∧ PySem.W.codeIn K (.ref c) x = true ∧ PySem.W.keepIn K (.ref f) = true ∧ mg x = some (.ref f) ∧ Binds K fd ps []
theorem DefT.of {K : PySem.W.Frag} {h : Heap} {mg : Str → Option Value} (X : K.In h) (G : h.Ns mainGlobals mg) {x : Str} {st : Stmt} {ps : List Str} {f c : Addr} {oc : Value} {od an : Option Addr} {osl : Array (Option Value)} {kV doc pm ct : Value}
    (a : PySem.W.nsIn K mainGlobals x = some (some (.ref f))) (l : K.lookup f = some ⟨oc, od, .func (PySem.W.fnOf x x (defArgs st) (defBody st) (defScope st) .none kV doc pm an (.ref c) ct), osl⟩) (cc : PySem.W.codeIn K (.ref c) x = true) (k : PySem.W.keepIn K (.ref f) = true)
    (b : ∀ (kV doc pm : Value) (an : Option Addr) (cdv ct : Value) (us : List Value), us.length = ps.length → bindArgs (PySem.W.fnOf x x (defArgs st) (defBody st) (defScope st) .none kV doc pm an cdv ct) ⟨us, []⟩ = pure (ps.zip us)) : DefT K mg x st ps c :=
  ⟨⟨f, _, oc, od, kV, doc, pm, an, ct, osl, rfl, l, cc, k, PySem.W.mg_of X G a, (fun_mk (st := st) l cc k).binds b⟩⟩
theorem DefT.ok {P : Program} {w : World} {K : PySem.W.Frag} {mg : Str → Option Value} {base : Heap} {x : Str} {st : Stmt} {N ps : List Str} {c : Addr} {k : Nat} {sp : Sp} (D : DefT K mg x st ps c) (S : FnScope N ps (defScope st)) (len : ∀ vs H Q E, sp vs H Q E → vs.length = ps.length)
    (body : ∀ (f : Addr) (A : Around) (outer : List Env) (s : Shared) (H : Hp) (vs : List V) (Q : VK) (E : XK), Room k (A.deeper (envOfC x (defScope st) s.heap.objs.size f (.ref c))) → sp vs H Q E →
      ∃ t, PSs (cxOf CX0 P w K mg base N x (defScope st) f (.ref c) A outer s H E).nox (defBody st) t ∧ t { nx := fun _ H' => Q .non H', rt := Q } (start N vs) H) : Cal P w K mg base (k + 1) x ps sp := by
  obtain ⟨f, fd, oc, od, kV, doc, pm, an, ct, osl, rfl, lk, hcd, kp, m, b⟩ := D.ex
  exact ⟨f, _, fn_of lk hcd S len fun A outer s H vs Q E hr hsp => by
    obtain ⟨t, h, q⟩ := body f A outer s H vs Q E hr hsp
    exact ⟨t, h.nox, q⟩, m, kp, b⟩
theorem gen_by {env : Env} {scope : Scope} {x : Str} (h : ((scope.kind == .function) && !scope.isCoroutine && scope.names.all (fun y => y.2 != .cell && y.2 != .free) && (scope.names.lookup (".0" : Str) == some NameKind.local) && (scope.names.lookup x == some NameKind.local)) = true) : GxR.GenS env scope x := by
  simp only [Bool.and_eq_true, List.all_eq_true, bne_iff_ne, beq_iff_eq, Bool.not_eq_true'] at h
  obtain ⟨⟨⟨⟨h1, h2⟩, h3⟩, h4⟩, h5⟩ := h
  exact ⟨h1, h2, fun y m => (h3 y m).1, h4, h5, fun y m e => absurd e (h3 y m).2⟩
end Sc
namespace Sc
open PySem PySem.Spec PyProof.Rows L2
/-- a def that the top has under another name too -/
structure DefA (K : PySem.W.Frag) (mg : Str → Option Value) (x y : Str) (st : Stmt) (ps : List Str) : Prop where
  ex : ∃ f fd, Fun K y y st f fd ∧ mg x = some (.ref f) ∧ Binds K fd ps []
theorem DefA.okX {P : Program} {w : World} {K : PySem.W.Frag} {mg : Str → Option Value} {base : Heap} {x y : Str} {st : Stmt} {N ps : List Str} {k : Nat} {sp : Sp} (D : DefA K mg x y st ps) (S : FnScope N ps (defScope st)) (len : ∀ vs H Q E, sp vs H Q E → vs.length = ps.length)
    (body : ∀ (f : Addr) (cdv : Value) (A : Around) (outer : List Env) (s : Shared) (H : Hp) (vs : List V) (Q : VK) (E : XK), Room k (A.deeper (envOfC y (defScope st) s.heap.objs.size f cdv)) → sp vs H Q E →
      ∃ t, PSs (cxOf (L2.CX P w) P w K mg base N y (defScope st) f cdv A outer s H E) (defBody st) t ∧ t { nx := fun _ H' => Q .non H', rt := Q } (start N vs) H) : CalX P w K mg base (k + 1) x ps sp := by
  obtain ⟨f, fd, F, m, b⟩ := D.ex
  exact ⟨f, fd, F.okX S len fun cdv A outer s H vs Q E hr h => body f cdv A outer s H vs Q E hr h, m, F.kp, b⟩
/-- a def that may raise, by its address -/
structure HeldX (P : Program) (w : World) (K : PySem.W.Frag) (mg : Str → Option Value) (base : Heap) (k : Nat) (f : Addr) (sp : Sp) : Prop where
  ex : ∃ (fd : FuncData) (ps : List Str), FnOk P w K mg base (L2.CX P w) k f fd ps sp ∧ PySem.W.keepIn K (.ref f) = true ∧ Binds K fd ps []
theorem HeldX.mono {P : Program} {w : World} {K : PySem.W.Frag} {mg : Str → Option Value} {base : Heap} {j k : Nat} {f : Addr} {sp : Sp} (h : HeldX P w K mg base j f sp) (le : j ≤ k) : HeldX P w K mg base k f sp := by
  obtain ⟨fd, ps, a, b⟩ := h.ex
  exact ⟨fd, ps, a.mono le, b⟩
theorem CalX.held {P : Program} {w : World} {K : PySem.W.Frag} {mg : Str → Option Value} {base : Heap} {k : Nat} {x : Str} {ps : List Str} {sp : Sp} {f : Addr} (C : CalX P w K mg base k x ps sp) (e : mg x = some (.ref f)) : HeldX P w K mg base k f sp := by
  obtain ⟨f', fd, F, m, kp, b⟩ := C.ex
  rw [m] at e
  cases e
  exact ⟨fd, ps, F, kp, b⟩
section
variable {X : Cx} {k i : Nat} {x : Str} {e : Expr} {es : List Expr} {t : TA} {p pos : Pos} {E : XK}
def tCallAX (i : Nat) (S : Addr → Sp → Prop) (E : XK) (t : TA) : TE := fun σ H Q => ∃ f sp, σ[i]? = some (some (.ref f)) ∧ S f sp ∧ t σ H fun vs H1 => sp vs H1 Q E
/-- a call of a local name that holds one of several defs that may raise -/
theorem pe_callAX {S : Addr → Sp → Prop} (A : ∀ f sp, S f sp → HeldX X.prog X.w X.K X.mg X.base k f sp) (hr : Room k X.A) (hN : X.N[i]? = some x) (hv : Vis X.env.scope x) (hx : Passes (L2.CX X.prog X.w) X E) (ha : PA X (e :: es) t)
    (hdb : (x == ("__debug__" : Str)) = false := by decide) (hcd : (x == ("__classdict__" : Str)) = false := by decide)
    (he : starEach (e :: es) X.env = (false, eval e X.env) :: starEach es X.env := by rfl) (hpl : (backTo pos (starEach es X.env)).any (·.1) = false := by rfl) : PE X (.Call (.Name x p) (e :: es) [] pos) (tCallAX i S E t) := by
  refine ⟨fun pins s σ H Q I h => ?_⟩
  obtain ⟨f, sp, hs, hS, ht⟩ := h
  obtain ⟨fd, ps, F, hk, hb⟩ := (A f sp hS).ex
  refine (pe_callL (i := i) (f := f) (sp := sp) (dvs := []) (E := E) F hr hN hv hk hb .nil hx ha hdb hcd he hpl).run pins s σ H Q I ⟨hs, ?_⟩
  have e0 : (fun (vs : List V) (H1 : Hp) => sp (vs ++ []) H1 Q E) = fun vs H1 => sp vs H1 Q E := by
    funext vs H1
    rw [List.append_nil]
  show t σ H (fun vs H1 => sp (vs ++ []) H1 Q E)
  rw [e0]
  exact ht
end
end Sc
set_option linter.all false
namespace ScZ
open PySem PySem.Spec
open PySem.Sem (wp)
theorem zip_no_len : typeLookup (.type "zip") "__len__" = pure none := by rw [typeLookup_type, builtinLookup_eq_fast]; kernel_rfl
theorem zip_no_hint : typeLookup (.type "zip") "__length_hint__" = pure none := by rw [typeLookup_type, builtinLookup_eq_fast]; kernel_rfl
section
variable {prog : Program} {w : World} {A : Around} {E : Value → Shared → Prop} {s : Shared}
theorem held_item {z TI TO T i1 i2 l1 l2 : Addr} {f : Bool} {oT : Obj} {k1 k2 : Nat} {xs ys : Array Value} {x y : Value} {Q : Value → Shared → Prop} (D : ZipApart z TI TO i1 i2 l1 l2)
    (hz : IsZipHeld s.heap z TI TO T f) (hT : s.heap.get? T = some oT) (hTI : IsPair s.heap TI (.ref i1) (.ref i2))
    (h1 : s.heap.IsTupleIter i1 l1 k1) (h2 : s.heap.IsTupleIter i2 l2 k2) (hl1 : s.heap.IsTuple l1 xs) (hl2 : s.heap.IsTuple l2 ys) (hx : xs[k1]? = some x) (hy : ys[k2]? = some y)
    (hQ : ∀ h', IsZipHeld h' z TI TO T true → h'.IsTupleIter i1 l1 (k1 + 1) → h'.IsTupleIter i2 l2 (k2 + 1) → IsPair h' s.heap.objs.size x y → h'.objs.size = s.heap.objs.size + 1 →
      (∀ c o, c ≠ z → c ≠ i1 → c ≠ i2 → s.heap.get? c = some o → h'.get? c = some o) → Q (.ref s.heap.objs.size) { s with heap := h' }) :
    wpAny (model prog w) A (Builtin.«zip.__next__» ⟨[.ref z], []⟩) (fun fin s' => ∃ v, fin = .done (.ret v) ∧ Q v s') E s := by
  show wpAny _ _ (field (.ref z) 2 >>= _) _ _ _
  refine wpAny_bind (wpAny_field hz rfl (x := .bool false) rfl ?_)
  show wpAny _ _ (field (.ref z) 3 >>= _) _ _ _
  refine wpAny_bind (wpAny_field hz rfl (x := .ref TI) rfl ?_)
  refine wpAny_bind (wpAny_seqItems hTI rfl ?_)
  show wpAny _ _ (Builtin.SmallTypes.ownedTupleIsFree (.ref z) >>= _) _ _ _
  refine wpAny_bind (wpAny_tupleHeld_zip hz hT fun h₁ hz₁ hs₁ => ?_)
  simp only [Bool.false_eq_true, if_false]
  refine wpAny_bind ?_
  rw [← Array.forIn_toList]
  simp only [List.forIn_cons, List.forIn_nil]
  refine wpAny_bind (wpAny_bind (wpAny_holding ?_))
  show wpAny _ _ (Builtin.SmallTypes.nextOf (.ref i1) >>= _) _ _ _
  refine wpAny_bind (RZ.nextOf_tuple_item (s := { s with heap := h₁ }) (h1.extBut hs₁.extBut D.i1z) (hl1.extBut hs₁.extBut D.l1z) hx fun h₂ h1₂ hs₂ => wpAny_pure ?_)
  refine wpAny_pure ?_
  refine wpAny_bind (wpAny_bind (wpAny_holding ?_))
  show wpAny _ _ (Builtin.SmallTypes.nextOf (.ref i2) >>= _) _ _ _
  refine wpAny_bind (RZ.nextOf_tuple_item (s := { s with heap := h₂ }) ((h2.extBut hs₁.extBut D.i2z).extBut hs₂.extBut D.i12.symm) ((hl2.extBut hs₁.extBut D.l2z).extBut hs₂.extBut D.l2i1) hy fun h₃ h2₃ hs₃ => wpAny_pure ?_)
  refine wpAny_pure (wpAny_pure ?_)
  show wpAny _ _ (newTuple [x, y] >>= _) _ _ _
  refine wpAny_bind (wpAny_newTuple ?_)
  have hsz : h₃.objs.size = s.heap.objs.size := by rw [hs₃.1, hs₂.1, hs₁.1]
  have hz₃ : IsZipHeld h₃ z TI TO T true := hs₃.extBut _ _ D.i2z.symm (hs₂.extBut _ _ D.i1z.symm hz₁)
  have hk : ∀ c o, c ≠ z → c ≠ i1 → c ≠ i2 → s.heap.get? c = some o → h₃.get? c = some o := fun c o c1 c2 c3 e => hs₃.extBut _ _ c3 (hs₂.extBut _ _ c2 (hs₁.extBut _ _ c1 e))
  have h1₃ : h₃.IsTupleIter i1 l1 (k1 + 1) := h1₂.extBut hs₃.extBut D.i12
  refine wpAny_pure ⟨_, rfl, ?_⟩
  show Q (.ref h₃.objs.size) _
  have hp : IsPair (h₃.push { cls := .type "tuple", data := .seq #[x, y] }) h₃.objs.size x y := Heap.get?_push_size _ rfl
  have hz4 : (h₃.push { cls := .type "tuple", data := .seq #[x, y] }).objs.size = h₃.objs.size + 1 := Heap.size_push ..
  rw [hsz] at hp hz4 ⊢
  exact hQ _ (Heap.get?_push_of_some _ hz₃) (h1₃.at fun o e => Heap.get?_push_of_some _ e) (h2₃.at fun o e => Heap.get?_push_of_some _ e) hp hz4 fun c o c1 c2 c3 e => Heap.get?_push_of_some _ (hk c o c1 c2 c3 e)
theorem held_end {z TI TO T i1 i2 l1 l2 : Addr} {f : Bool} {oT : Obj} {k1 k2 : Nat} {xs ys : Array Value} {Q : PySem.Fin → Shared → Prop} (hh : A.handled = none) (D : ZipApart z TI TO i1 i2 l1 l2)
    (hz : IsZipHeld s.heap z TI TO T f) (hT : s.heap.get? T = some oT) (hTI : IsPair s.heap TI (.ref i1) (.ref i2))
    (h1 : s.heap.IsTupleIter i1 l1 k1) (hl1 : s.heap.IsTuple l1 xs) (hend : xs[k1]? = none)
    (hE : ∀ h' e, (∀ c o, c ≠ z → c ≠ i1 → s.heap.get? c = some o → h'.get? c = some o) → (∃ o, h'.get? e = some o ∧ o.cls = .type "StopIteration") → E (.ref e) { s with heap := h' }) :
    wpAny (model prog w) A (Builtin.«zip.__next__» ⟨[.ref z], []⟩) Q E s := by
  show wpAny _ _ (field (.ref z) 2 >>= _) _ _ _
  refine wpAny_bind (wpAny_field hz rfl (x := .bool false) rfl ?_)
  show wpAny _ _ (field (.ref z) 3 >>= _) _ _ _
  refine wpAny_bind (wpAny_field hz rfl (x := .ref TI) rfl ?_)
  refine wpAny_bind (wpAny_seqItems hTI rfl ?_)
  show wpAny _ _ (Builtin.SmallTypes.ownedTupleIsFree (.ref z) >>= _) _ _ _
  refine wpAny_bind (wpAny_tupleHeld_zip hz hT fun h₁ hz₁ hs₁ => ?_)
  simp only [Bool.false_eq_true, if_false]
  refine wpAny_bind ?_
  rw [← Array.forIn_toList]
  simp only [List.forIn_cons, List.forIn_nil]
  refine wpAny_bind (wpAny_bind (wpAny_holding ?_))
  show wpAny _ _ (Builtin.SmallTypes.nextOf (.ref i1) >>= _) _ _ _
  refine wpAny_bind (RZ.nextOf_tuple_end (s := { s with heap := h₁ }) hh (h1.extBut hs₁.extBut D.i1z) (hl1.extBut hs₁.extBut D.l1z) hend fun h₂ e hs₂ he => ?_)
  exact hE h₂ e (fun c o c1 c2 x => hs₂ _ _ c2 (hs₁.extBut _ _ c1 x)) he
theorem next_item {z TI TO T i1 i2 l1 l2 : Addr} {f : Bool} {oT : Obj} {k1 k2 : Nat} {xs ys : Array Value} {x y : Value} {Q : Option Value → Shared → Prop} (D : ZipApart z TI TO i1 i2 l1 l2)
    (hz : IsZipHeld s.heap z TI TO T f) (hT : s.heap.get? T = some oT) (hTI : IsPair s.heap TI (.ref i1) (.ref i2))
    (h1 : s.heap.IsTupleIter i1 l1 k1) (h2 : s.heap.IsTupleIter i2 l2 k2) (hl1 : s.heap.IsTuple l1 xs) (hl2 : s.heap.IsTuple l2 ys) (hx : xs[k1]? = some x) (hy : ys[k2]? = some y)
    (hQ : ∀ h', IsZipHeld h' z TI TO T true → h'.IsTupleIter i1 l1 (k1 + 1) → h'.IsTupleIter i2 l2 (k2 + 1) → IsPair h' s.heap.objs.size x y → h'.objs.size = s.heap.objs.size + 1 →
      (∀ c o, c ≠ z → c ≠ i1 → c ≠ i2 → s.heap.get? c = some o → h'.get? c = some o) → Q (some (.ref s.heap.objs.size)) { s with heap := h' }) :
    wpAny (model prog w) A (pyNext (.ref z)) Q E s := by
  have hTy : s.TypeIs (.ref z) "zip" := ⟨_, hz, rfl⟩
  unfold pyNext
  exact wpAny_bind (wpAny_attempt (wpAny_callSpecial?_slot (name := Str.ofString "__next__") hTy F.slot_zip_next
    (wpAny_call_entry F.slot_zip_next hTy F.entry_zip_next
      (held_item D hz hT hTI h1 h2 hl1 hl2 hx hy fun h' a1 a3 a4 a5 a6 a7 => wpAny_pure (hQ h' a1 a3 a4 a5 a6 a7)) (F.args_zip_next_1 _))))
theorem next_end {z TI TO T i1 i2 l1 l2 : Addr} {f : Bool} {oT : Obj} {k1 : Nat} {xs : Array Value} {Q : Option Value → Shared → Prop} (hh : A.handled = none) (D : ZipApart z TI TO i1 i2 l1 l2)
    (hz : IsZipHeld s.heap z TI TO T f) (hT : s.heap.get? T = some oT) (hTI : IsPair s.heap TI (.ref i1) (.ref i2))
    (h1 : s.heap.IsTupleIter i1 l1 k1) (hl1 : s.heap.IsTuple l1 xs) (hend : xs[k1]? = none)
    (hQ : ∀ h', (∀ c o, c ≠ z → c ≠ i1 → s.heap.get? c = some o → h'.get? c = some o) → Q none { s with heap := h' }) : wpAny (model prog w) A (pyNext (.ref z)) Q E s := by
  have hTy : s.TypeIs (.ref z) "zip" := ⟨_, hz, rfl⟩
  unfold pyNext
  refine wpAny_bind (wpAny_attempt (wpAny_callSpecial?_slot (name := Str.ofString "__next__") hTy F.slot_zip_next
    (wpAny_call_entry F.slot_zip_next hTy F.entry_zip_next (held_end (k2 := 0) (ys := #[]) hh D hz hT hTI h1 hl1 hend fun h' e hk he => ?_) (F.args_zip_next_1 _))))
  obtain ⟨o, ho, hc⟩ := he
  refine wpAny_bind (wpAny_isInstance (T := "StopIteration") (b := true) ⟨o, ho, hc⟩ isSubtype_stop ?_)
  exact wpAny_pure (hQ _ hk)
/-- where the zip stands -/
structure ZSt (h : Heap) (z TI TO i1 i2 a b S : Addr) (j : Nat) : Prop where
  ti : IsPair h TI (.ref i1) (.ref i2)
  t1 : h.IsTupleIter i1 a j
  t2 : h.IsTupleIter i2 b j
  st : (IsZip h z TI TO .none ∧ ∃ x y, IsPair h TO x y) ∨ ∃ (T : Addr) (f : Bool) (oT : Obj), IsZipHeld h z TI TO T f ∧ h.get? T = some oT ∧ T ≠ z ∧ T ≠ TO ∧ T ≠ i1 ∧ T ≠ i2 ∧ T ≠ S
theorem ZSt.keep {h h' : Heap} {z TI TO i1 i2 a b S : Addr} {j : Nat} (x : ZSt h z TI TO i1 i2 a b S j) (k : ∀ c o, c ≠ S → h.get? c = some o → h'.get? c = some o) (n1 : TI ≠ S) (n2 : i1 ≠ S) (n3 : i2 ≠ S) (n4 : z ≠ S) (n5 : TO ≠ S) : ZSt h' z TI TO i1 i2 a b S j := by
  refine ⟨k _ _ n1 x.ti, x.t1.at fun o e => k _ o n2 e, x.t2.at fun o e => k _ o n3 e, ?_⟩
  rcases x.st with ⟨p, x', y', q⟩ | ⟨T, f, oT, p, q, r⟩
  · exact .inl ⟨k _ _ n4 p, x', y', k _ _ n5 q⟩
  · exact .inr ⟨T, f, oT, k _ _ n4 p, k _ _ r.2.2.2.2 q, r⟩
theorem zs_item {z TI TO i1 i2 a b S : Addr} {j : Nat} {xs ys : Array Value} {x y : Value} {Q : Option Value → Shared → Prop} (D : ZipApart z TI TO i1 i2 a b) (st : ZSt s.heap z TI TO i1 i2 a b S j) (hS : S < s.heap.objs.size)
    (hl1 : s.heap.IsTuple a xs) (hl2 : s.heap.IsTuple b ys) (hx : xs[j]? = some x) (hy : ys[j]? = some y)
    (hQ : ∀ h', ZSt h' z TI TO i1 i2 a b S (j + 1) → IsPair h' s.heap.objs.size x y → h'.objs.size = s.heap.objs.size + 1 → (∀ c o, c ≠ z → c ≠ TO → c ≠ i1 → c ≠ i2 → s.heap.get? c = some o → h'.get? c = some o) → Q (some (.ref s.heap.objs.size)) { s with heap := h' }) :
    wpAny (model prog w) A (pyNext (.ref z)) Q E s := by
  obtain ⟨hTI, h1, h2, st⟩ := st
  have zl : ∀ {c : Addr} {o : Obj}, s.heap.get? c = some o → s.heap.objs.size ≠ c := fun e => Nat.ne_of_gt (Heap.lt_size e)
  have l1 : s.heap.objs.size ≠ i1 := let ⟨_, e, _⟩ := h1; zl e
  have l2 : s.heap.objs.size ≠ i2 := let ⟨_, e, _⟩ := h2; zl e
  rcases st with ⟨hz, x0, y0, hTO⟩ | ⟨T, f, oT, hz, hT, n1, n2, n3, n4, n5⟩
  · refine RZ.pyNext_zipT_item D hz hTI hTO h1 h2 hl1 hl2 hx hy fun h' z' TO' h1' h2' hT hsz hk => ?_
    exact hQ h' ⟨hk _ _ D.TIz D.TITO D.TIi1 D.TIi2 hTI, h1', h2', .inr ⟨_, false, _, z', hT, zl hz, zl hTO, l1, l2, Nat.ne_of_gt hS⟩⟩ hT hsz hk
  · refine next_item D hz hT hTI h1 h2 hl1 hl2 hx hy fun h' z' h1' h2' hp hsz hk => ?_
    exact hQ h' ⟨hk _ _ D.TIz D.TIi1 D.TIi2 hTI, h1', h2', .inr ⟨T, true, oT, z', hk _ _ n1 n3 n4 hT, n1, n2, n3, n4, n5⟩⟩ hp hsz fun c o c1 c2 c3 c4 e => hk c o c1 c3 c4 e
theorem zs_done {z TI TO i1 i2 a b S : Addr} {j : Nat} {xs ys : Array Value} {Q : Option Value → Shared → Prop} (hh : A.handled = none) (D : ZipApart z TI TO i1 i2 a b) (st : ZSt s.heap z TI TO i1 i2 a b S j)
    (hl1 : s.heap.IsTuple a xs) (hl2 : s.heap.IsTuple b ys) (hx : xs[j]? = none)
    (hQ : ∀ h', (∀ c o, c ≠ z → c ≠ TO → c ≠ i1 → c ≠ i2 → s.heap.get? c = some o → h'.get? c = some o) → Q none { s with heap := h' }) : wpAny (model prog w) A (pyNext (.ref z)) Q E s := by
  obtain ⟨hTI, h1, h2, st⟩ := st
  rcases st with ⟨hz, x0, y0, hTO⟩ | ⟨T, f, oT, hz, hT, n1, n2, n3, n4, n5⟩
  · exact RZ.pyNext_zipT_end hh D hz hTI hTO h1 h2 hl1 hl2 (.inl hx) hQ
  · exact next_end hh D hz hT hTI h1 hl1 hx fun h' hk => hQ h' fun c o c1 c2 c3 c4 e => hk c o c1 c3 e
structure ZG (xs ys : Array Value) (lo : Addr) (h : Heap) (as : List Addr) : Prop where
  rise : as.Pairwise (· < ·)
  above : ∀ a ∈ as, lo < a
  pairs : ∀ (j : Nat) (a : Addr), as[j]? = some a → ∃ x y, xs[j]? = some x ∧ ys[j]? = some y ∧ IsPair h a x y
theorem ZG.there {xs ys : Array Value} {lo : Addr} {h : Heap} {as : List Addr} (g : ZG xs ys lo h as) {a : Addr} (ha : a ∈ as) : a < h.objs.size := by
  obtain ⟨j, hj⟩ := List.mem_iff_getElem?.mp ha
  obtain ⟨_, _, _, _, e⟩ := g.pairs j a hj
  exact Heap.lt_size e
end
section
variable {prog : Program} {w : World} {A : Around} {s : Shared} {R : Result → Shared → Prop} {xs ys : Array Value}
theorem zl_loop {S z TI TO i1 i2 a b : Addr} (hh : A.handled = none) (D : ZipApart z TI TO i1 i2 a b) (nz : z < S) (nTI : TI < S) (nTO : TO < S) (n1 : i1 < S) (n2 : i2 < S) (na : a < S) (nb : b < S) (hn : xs.size ≤ sizeLine) (hxy : xs.size = ys.size) (res : Value) {h₁ : Heap}
    (hR : ∀ h' tk acc c as, (∀ b o, b ≠ S → b ≠ z → b ≠ TO → b ≠ i1 → b ≠ i2 → h₁.get? b = some o → h'.get? b = some o) → h'.get? S = some { cls := .type "list", dict := none, data := .seq acc c, slots := #[] } → as.length = xs.size → ZG xs ys S h' as →
      acc.toList = as.map Value.ref → R (.ok (.ret res)) { s with heap := h', toks := tk }) :
    ∀ (k i : Nat) (h : Heap) (tk c : Nat) (acc : Array Value) (as : List Addr), xs.size - i = k → i ≤ xs.size → ZSt h z TI TO i1 i2 a b S i → h.IsTuple a xs → h.IsTuple b ys → (∀ b o, b ≠ S → b ≠ z → b ≠ TO → b ≠ i1 → b ≠ i2 → h₁.get? b = some o → h.get? b = some o) →
      h.get? S = some { cls := .type "list", dict := none, data := .seq acc c, slots := #[] } → acc.toList = as.map Value.ref → as.length = i → ZG xs ys S h as →
      codeAny (model prog w) A (.builtin "list.extend.loop" ⟨[.ref S, .ref z, res], []⟩) R { s with heap := h, toks := tk } := by
  intro k
  induction k with
  | zero =>
    intro i h tk c acc as hk hi hst ha hb hkeep hS hacc hal hG
    have hin : i = xs.size := by omega
    refine codeAny_builtin PySem.F.entry_extend_loop ?_
    rw [Around.under_plainId PySem.F.plain_extend_loop _]
    show wpAny _ A.in1 (pyNext (.ref z) >>= _) _ _ _
    refine wpAny_bind (zs_done (s := { s with heap := h, toks := tk }) (A := A.in1) hh D hst ha hb (by rw [hin]; simp) fun h' he => ?_)
    refine wpAny_pure (hR h' tk acc c as (fun b o c0 c1 c2 c3 c4 e => he b o c1 c2 c3 c4 (hkeep b o c0 c1 c2 c3 c4 e)) (he S _ (Nat.ne_of_gt nz) (Nat.ne_of_gt nTO) (Nat.ne_of_gt n1) (Nat.ne_of_gt n2) hS) (by omega) ⟨hG.rise, hG.above, fun j t hj => ?_⟩ hacc)
    obtain ⟨x, y, e1, e2, e3⟩ := hG.pairs j t hj
    have ht := hG.above t (List.mem_of_getElem? hj)
    exact ⟨x, y, e1, e2, he t _ (Nat.ne_of_gt (Nat.lt_trans nz ht)) (Nat.ne_of_gt (Nat.lt_trans nTO ht)) (Nat.ne_of_gt (Nat.lt_trans n1 ht)) (Nat.ne_of_gt (Nat.lt_trans n2 ht)) e3⟩
  | succ k ih =>
    intro i h tk c acc as hk hi hst ha hb hkeep hS hacc hal hG
    have hlt : i < xs.size := by omega
    have hlt2 : i < ys.size := by omega
    have hx : xs[i]? = some xs[i] := Array.getElem?_eq_getElem hlt
    have hy : ys[i]? = some ys[i] := Array.getElem?_eq_getElem hlt2
    generalize xs[i] = x at hx
    generalize ys[i] = y at hy
    have hsz : acc.size = i := by rw [← Array.length_toList, hacc, List.length_map, hal]
    have hSl : S < h.objs.size := Heap.lt_size hS
    refine codeAny_builtin PySem.F.entry_extend_loop ?_
    rw [Around.under_plainId PySem.F.plain_extend_loop _]
    show wpAny _ A.in1 (pyNext (.ref z) >>= _) _ _ _
    refine wpAny_bind (zs_item (s := { s with heap := h, toks := tk }) (S := S) D hst hSl ha hb hx hy fun h' hst' ht hz hkp => ?_)
    dsimp only at ht hz hkp ⊢
    have hS' := hkp S _ (Nat.ne_of_gt nz) (Nat.ne_of_gt nTO) (Nat.ne_of_gt n1) (Nat.ne_of_gt n2) hS
    have up : ∀ b o, b ≠ S → h'.get? b = some o → (h'.update S (Obj.mapSeq (·.push (Value.ref h.objs.size)))).get? b = some o := fun b o hb e => (Heap.get?_update_other _ _ (Ne.symm hb)).trans e
    show wpAny _ A.in1 (updateSeq S (·.push (Value.ref h.objs.size)) >>= _) _ _ _
    refine wpAny_bind ?_
    refine wpAny_updateSeq hS' rfl (wpAny_pure ⟨plainId_quiet PySem.F.plain_extend_loop _, ih (i + 1) _ tk _ (acc.push (Value.ref h.objs.size)) (as ++ [h.objs.size]) (by omega) hlt (hst'.keep up (Nat.ne_of_lt nTI) (Nat.ne_of_lt n1) (Nat.ne_of_lt n2) (Nat.ne_of_lt nz) (Nat.ne_of_lt nTO))
      (ha.at fun o e => up _ o (Nat.ne_of_lt na) (hkp _ o D.l1z D.l1TO D.l1i1 D.l1i2 e)) (hb.at fun o e => up _ o (Nat.ne_of_lt nb) (hkp _ o D.l2z D.l2TO D.l2i1 D.l2i2 e))
      (fun b o c0 c1 c2 c3 c4 e => up b o c0 (hkp b o c1 c2 c3 c4 (hkeep b o c0 c1 c2 c3 c4 e))) (Heap.get?_update_self _ hS' rfl) (by rw [Array.toList_push, hacc, List.map_append]; rfl) (by rw [List.length_append, hal]; rfl) ⟨?_, ?_, ?_⟩⟩) (by rw [hsz]; omega) (by show (acc.push (Value.ref h.objs.size)).size ≤ sizeLine + 1; rw [Array.size_push, hsz]; omega)
    · refine List.pairwise_append.mpr ⟨hG.rise, List.pairwise_singleton _ _, fun a ha b hb => ?_⟩
      rw [List.mem_singleton.mp hb]
      exact hG.there ha
    · intro t ht'
      rcases List.mem_append.mp ht' with q | q
      · exact hG.above t q
      · rw [List.mem_singleton.mp q]; exact hSl
    · intro j t hj
      rcases Nat.lt_trichotomy j as.length with q | q | q
      · rw [List.getElem?_append_left q] at hj
        obtain ⟨x', y', e1, e2, e3⟩ := hG.pairs j t hj
        have ht' := hG.above t (List.mem_of_getElem? hj)
        exact ⟨x', y', e1, e2, up t _ (Nat.ne_of_gt ht') (hkp t _ (Nat.ne_of_gt (Nat.lt_trans nz ht')) (Nat.ne_of_gt (Nat.lt_trans nTO ht')) (Nat.ne_of_gt (Nat.lt_trans n1 ht')) (Nat.ne_of_gt (Nat.lt_trans n2 ht')) e3)⟩
      · subst q
        have hb' : h.objs.size = t := by simpa using hj
        subst hb'
        exact ⟨x, y, by rw [hal]; exact hx, by rw [hal]; exact hy, up _ _ (Nat.ne_of_gt hSl) ht⟩
      · have hnone : (as ++ [h.objs.size])[j]? = none := List.getElem?_eq_none (by rw [List.length_append, List.length_singleton]; omega)
        rw [hnone] at hj; cases hj
end
section
variable {prog : Program} {w : World} {A : Around} {E : Value → Shared → Prop} {s : Shared} {xs ys : Array Value} {z TI TO i1 i2 a b : Addr}
/-- a fresh zip -/
structure ZNew (h : Heap) (z TI TO i1 i2 a b : Addr) (xs ys : Array Value) : Prop where
  z : IsZip h z TI TO .none
  ti : IsPair h TI (.ref i1) (.ref i2)
  to : ∃ x y, IsPair h TO x y
  t1 : h.IsTupleIter i1 a 0
  t2 : h.IsTupleIter i2 b 0
  ha : h.IsTuple a xs
  hb : h.IsTuple b ys
theorem ZNew.keep {h h' : Heap} (x : ZNew h z TI TO i1 i2 a b xs ys) (k : ∀ c o, h.get? c = some o → h'.get? c = some o) : ZNew h' z TI TO i1 i2 a b xs ys :=
  ⟨k _ _ x.z, k _ _ x.ti, let ⟨p, q, e⟩ := x.to; ⟨p, q, k _ _ e⟩, x.t1.at fun o e => k _ o e, x.t2.at fun o e => k _ o e, x.ha.at fun o e => k _ o e, x.hb.at fun o e => k _ o e⟩
theorem ZNew.keepS {h h' : Heap} {S : Addr} (x : ZNew h z TI TO i1 i2 a b xs ys) (n : z < S ∧ TI < S ∧ TO < S ∧ i1 < S ∧ i2 < S ∧ a < S ∧ b < S) (k : ∀ c o, c ≠ S → h.get? c = some o → h'.get? c = some o) : ZNew h' z TI TO i1 i2 a b xs ys := by
  obtain ⟨m1, m2, m3, m4, m5, m6, m7⟩ := n
  exact ⟨k _ _ (Nat.ne_of_lt m1) x.z, k _ _ (Nat.ne_of_lt m2) x.ti, let ⟨p, q, e⟩ := x.to; ⟨p, q, k _ _ (Nat.ne_of_lt m3) e⟩, x.t1.at fun o e => k _ o (Nat.ne_of_lt m4) e, x.t2.at fun o e => k _ o (Nat.ne_of_lt m5) e, x.ha.at fun o e => k _ o (Nat.ne_of_lt m6) e, x.hb.at fun o e => k _ o (Nat.ne_of_lt m7) e⟩
theorem ZNew.lt {h : Heap} (x : ZNew h z TI TO i1 i2 a b xs ys) : z < h.objs.size ∧ TI < h.objs.size ∧ TO < h.objs.size ∧ i1 < h.objs.size ∧ i2 < h.objs.size ∧ a < h.objs.size ∧ b < h.objs.size :=
  ⟨Heap.lt_size x.z, Heap.lt_size x.ti, let ⟨_, _, e⟩ := x.to; Heap.lt_size e, let ⟨_, e, _⟩ := x.t1; Heap.lt_size e, let ⟨_, e, _⟩ := x.t2; Heap.lt_size e, let ⟨_, e, _⟩ := x.ha; Heap.lt_size e, let ⟨_, e, _⟩ := x.hb; Heap.lt_size e⟩
theorem zl_extend {R : Result → Shared → Prop} (hh : A.handled = none) (D : ZipApart z TI TO i1 i2 a b) (N : ZNew s.heap z TI TO i1 i2 a b xs ys) (S : Addr) (lt : z < S ∧ TI < S ∧ TO < S ∧ i1 < S ∧ i2 < S ∧ a < S ∧ b < S) (res : Value) (c₀ : Nat) (hS : s.heap.get? S = some { cls := .type "list", data := .seq #[] c₀ }) (hn : xs.size ≤ sizeLine) (hxy : xs.size = ys.size)
    (hR : ∀ h' tk acc c as, (∀ b o, b ≠ S → b ≠ z → b ≠ TO → b ≠ i1 → b ≠ i2 → s.heap.get? b = some o → h'.get? b = some o) → h'.get? S = some { cls := .type "list", dict := none, data := .seq acc c, slots := #[] } → as.length = xs.size → ZG xs ys S h' as →
      acc.toList = as.map Value.ref → R (.ok (.ret res)) { s with heap := h', toks := tk }) :
    wpAny (model prog w) A.in1 (Builtin.List.listExtendWith (.ref S) (.ref z) res)
      (fun fin s' => match fin with | .done f => R (.ok f) s' | .again c' => c'.quiet = true ∧ codeAny (model prog w) A c' R s') (fun e s' => R (.error e) s') s := by
  have hT : s.TypeIs (.ref z) "zip" := ⟨_, N.z, rfl⟩
  have nSz : S ≠ z := Nat.ne_of_gt lt.1
  unfold Builtin.List.listExtendWith
  refine wpAny_bind (wpAny_typeOf hT ?_)
  have h1 : Builtin.List.listSameRef (.ref S) (.ref z) = false := by simp [Builtin.List.listSameRef, nSz]
  have h2 : (Value.type "zip" == Value.type "list") = false := by decide
  have h3 : (Value.type "zip" == Value.type "tuple") = false := by decide
  simp only [h1, h2, h3, Bool.or_false, Bool.false_eq_true, if_false]
  refine wpAny_bind (wpAny_pyIter_zip N.z ?_)
  refine wpAny_bind (wpAny_holding ?_)
  unfold Builtin.List.listLengthHint
  refine wpAny_bind (wpAny_specialOf hT zip_no_len ?_)
  show wpAny _ A.in1 (specialOf (Value.ref z) (Str.ofString "__length_hint__") >>= _) _ _ _
  refine wpAny_bind (wpAny_specialOf hT zip_no_hint ?_)
  refine wpAny_pure ?_
  show wpAny _ A.in1 (rule "list.extend.makes-room" >>= fun _ => Builtin.List.listTouch (.ref S) >>= fun _ =>
    again (.builtin "list.extend.loop" ⟨[.ref S, .ref z, res], []⟩)) _ _ _
  refine wpAny_bind (wpAny_rule ?_)
  refine wpAny_bind ?_
  show wpAny _ A.in1 (updateSeq S (·.push .none) >>= fun _ => updateSeq S (·.pop)) _ _ _
  refine wpAny_bind (wpAny_updateSeq hS rfl ?_)
  have hS₂ := Heap.get?_update_self (Obj.mapSeq (·.push Value.none)) hS rfl
  refine wpAny_updateSeq (hz := by seq_fits) hS₂ rfl ?_
  have hS₃ := Heap.get?_update_self (Obj.mapSeq (·.pop)) hS₂ rfl
  have oth : ∀ b o, b ≠ S → s.heap.get? b = some o → ((s.heap.update S (Obj.mapSeq (·.push Value.none))).update S (Obj.mapSeq (·.pop))).get? b = some o :=
    fun b o hb e => (Heap.get?_update_other _ _ (Ne.symm hb)).trans ((Heap.get?_update_other _ _ (Ne.symm hb)).trans e)
  have N3 := N.keepS lt oth
  refine wpAny_pure ⟨plainId_quiet F.plain_extend_loop _, zl_loop (s := s) (h₁ := s.heap) hh D lt.1 lt.2.1 lt.2.2.1 lt.2.2.2.1 lt.2.2.2.2.1 lt.2.2.2.2.2.1 lt.2.2.2.2.2.2 hn hxy res hR xs.size 0 _ s.toks _ #[] [] (Nat.sub_zero _) (Nat.zero_le _)
    ⟨N3.ti, N3.t1, N3.t2, .inl ⟨N3.z, N3.to⟩⟩ N3.ha N3.hb (fun b o c0 _ _ _ _ e => oth b o c0 e) hS₃ rfl rfl ⟨List.Pairwise.nil, (fun _ ha => nomatch ha), (fun j a hj => by simp at hj)⟩⟩
theorem zl_init {R : Result → Shared → Prop} (hh : A.handled = none) (D : ZipApart z TI TO i1 i2 a b) (N : ZNew s.heap z TI TO i1 i2 a b xs ys) (S : Addr) (lt : z < S ∧ TI < S ∧ TO < S ∧ i1 < S ∧ i2 < S ∧ a < S ∧ b < S) (hS : s.heap.get? S = some { cls := .type "list", data := .seq #[] }) (hn : xs.size ≤ sizeLine) (hxy : xs.size = ys.size)
    (hR : ∀ h' tk acc c as, (∀ b o, b ≠ S → b ≠ z → b ≠ TO → b ≠ i1 → b ≠ i2 → s.heap.get? b = some o → h'.get? b = some o) → h'.get? S = some { cls := .type "list", dict := none, data := .seq acc c, slots := #[] } → as.length = xs.size → ZG xs ys S h' as →
      acc.toList = as.map Value.ref → R (.ok (.ret .none)) { s with heap := h', toks := tk }) :
    wpAny (model prog w) A.in1 (Builtin.«list.__init__» ⟨[.ref S, .ref z], []⟩)
      (fun fin s' => match fin with | .done f => R (.ok f) s' | .again c' => c'.quiet = true ∧ codeAny (model prog w) A c' R s') (fun e s' => R (.error e) s') s := by
  show wpAny _ _ (do let old ← Builtin.List.listItems (.ref S); Builtin.List.listUpdate (.ref S) (fun _ => #[]); letGo old.toList.reverse; Builtin.List.listExtendWith (.ref S) (.ref z) .none) _ _ s
  refine wpAny_bind ?_
  unfold Builtin.List.listItems
  refine wpAny_bind (wpAny_seqItems hS rfl (wpAny_pure ?_))
  show wpAny _ _ (updateSeq S (fun _ => #[]) >>= fun _ => letGo (#[] : Array Value).toList.reverse >>= fun _ => Builtin.List.listExtendWith (.ref S) (.ref z) .none) _ _ s
  refine wpAny_bind (wpAny_updateSeq hS rfl ?_)
  have hS₂ := Heap.get?_update_self (Obj.mapSeq (fun _ => (#[] : Array Value))) hS rfl
  have oth : ∀ b o, b ≠ S → s.heap.get? b = some o → (s.heap.update S (Obj.mapSeq (fun _ => (#[] : Array Value)))).get? b = some o :=
    fun b o hb e => (Heap.get?_update_other _ _ (Ne.symm hb)).trans e
  refine wpAny_bind (wpAny_letGo ?_)
  refine zl_extend (s := { s with heap := s.heap.update S (Obj.mapSeq (fun _ => (#[] : Array Value))) }) hh D (N.keepS lt oth) S lt .none _ hS₂ hn hxy (fun h' tk acc c as hk hS' hl hG hacc => ?_)
  exact hR h' tk acc c as (fun b o c0 c1 c2 c3 c4 e => hk b o c0 c1 c2 c3 c4 (oth b o c0 e)) hS' hl hG hacc
theorem zl_call {Q : Value → Shared → Prop} (hh : A.handled = none) (D : ZipApart z TI TO i1 i2 a b) (N : ZNew s.heap z TI TO i1 i2 a b xs ys) (hn : xs.size ≤ sizeLine) (hxy : xs.size = ys.size)
    (hQ : ∀ h' tk acc c as, (∀ b o, b ≠ z → b ≠ TO → b ≠ i1 → b ≠ i2 → s.heap.get? b = some o → h'.get? b = some o) → h'.get? s.heap.objs.size = some { cls := .type "list", dict := none, data := .seq acc c, slots := #[] } → as.length = xs.size → ZG xs ys s.heap.objs.size h' as →
      acc.toList = as.map Value.ref → Q (.ref s.heap.objs.size) { s with heap := h', toks := tk }) :
    wpAny (model prog w) A (call (.type "list") [.ref z]) Q E s := by
  refine callType_codes (Q₁ := fun obj s₁ => obj = .ref s.heap.objs.size ∧ s₁ = { s with heap := s.heap.push { cls := .type "list", data := .seq #[] } }) F.called_list (F.typeCall_list_1 _) F.entry_list_init
    (code_list_new _ ⟨rfl, rfl⟩) fun obj s₁ h₁ => ?_
  obtain ⟨rfl, rfl⟩ := h₁
  have hS : (s.heap.push { cls := .type "list", data := .seq #[] }).get? s.heap.objs.size = some { cls := .type "list", data := .seq #[] } := Heap.get?_push_size _ rfl
  refine ⟨⟨_, hS, rfl⟩, F.args_list_init_2 _ _, zl_init (A := A.in1) (s := { s with heap := s.heap.push { cls := .type "list", data := .seq #[] } }) hh D (N.keep fun c o e => Heap.get?_push_of_some _ e) _ N.lt hS hn hxy (fun h' tk acc c as hk hS' hl hG hacc => ?_)⟩
  exact ⟨rfl, hQ h' tk acc c as (fun b o c1 c2 c3 c4 e => hk b o (Nat.ne_of_lt (Heap.lt_size e)) c1 c2 c3 c4 (Heap.get?_push_of_some _ e)) hS' hl hG hacc⟩
end
end ScZ
set_option linter.all false
namespace ScZ
open PySem PySem.Spec PyProof.Rows L2
def putZ : Hp → List Addr → List (V × V) → Hp
  | H, a :: as, p :: kvs => putZ (upd H a (.tup [p.1, p.2])) as kvs
  | H, _, _ => H
theorem putZ_off {b : Addr} : ∀ (as : List Addr) (kvs : List (V × V)) (H : Hp), b ∉ as → putZ H as kvs b = H b
  | [], _, _, _ => rfl
  | _ :: _, [], _, _ => rfl
  | a :: as, p :: kvs, H, h => by
    show putZ (upd H a (.tup [p.1, p.2])) as kvs b = H b
    rw [putZ_off as kvs _ (fun z => h (List.mem_cons_of_mem _ z)), upd_ne (fun z => h (by rw [z]; exact List.mem_cons_self))]
theorem putZ_at : ∀ (as : List Addr) (kvs : List (V × V)) (H : Hp), as.length = kvs.length → as.Nodup → ∀ (j : Nat) (t : Addr) (p : V × V), as[j]? = some t → kvs[j]? = some p → putZ H as kvs t = some (.tup [p.1, p.2])
  | [], [], _, _, _, _, _, _, h, _ => by cases h
  | [], _ :: _, _, h, _, _, _, _, _, _ => by cases h
  | _ :: _, [], _, h, _, _, _, _, _, _ => by cases h
  | a :: as, q :: kvs, H, h, hn, j, t, p, h1, h2 => by
    have hn' := List.nodup_cons.mp hn
    cases j with
    | zero =>
      obtain rfl := Option.some.inj h1
      obtain rfl := Option.some.inj h2
      show putZ (upd H a (.tup [q.1, q.2])) as kvs a = some (.tup [q.1, q.2])
      rw [putZ_off as kvs _ hn'.1, upd_same]
    | succ j => exact putZ_at as kvs _ (Nat.succ.inj h) hn'.2 j t p h1 h2
section
variable {X : Cx} {e e2 : Expr} {ta : TA} {p p2 pos pos2 : Pos}
theorem zip_laid {pins : List (Addr × Obj)} {σ : L2.St} {H : Hp} {s : Shared} {h' : Heap} {tk : Nat} {xs ys : List V} {us ws : List Value} {acc : Array Value} {c : Nat} {as : List Addr} {S : Addr} (I : Inv X pins σ H s) (hz : xs.length ≤ sizeLine) (r1 : Vals xs us) (r2 : Vals ys ws) (hxy : xs.length = ys.length)
    (hk : ∀ b o, s.heap.get? b = some o → h'.get? b = some o) (hSl : s.heap.objs.size ≤ S) (hS : h'.get? S = some { cls := .type "list", dict := none, data := .seq acc c, slots := #[] }) (hl : as.length = us.toArray.size) (hG : ZG us.toArray ws.toArray S h' as) (hacc : acc.toList = as.map Value.ref) :
    ∃ H' : Hp, (∀ b o, H b = some o → H' b = some o) ∧ H S = none ∧ (∀ t ∈ as, H t = none) ∧ S ∉ as ∧ H' S = some (.lst (as.map V.ref)) ∧ (∀ (j : Nat) (t : Addr), as[j]? = some t → ∃ x y, xs[j]? = some x ∧ ys[j]? = some y ∧ H' t = some (.tup [x, y])) ∧ Inv X pins σ H' { s with heap := h', toks := tk } := by
  have lu := r1.length
  have lw := r2.length
  have la : as.length = xs.length := by rw [hl, lu]; simp
  have lz : (xs.zip ys).length = xs.length := by rw [List.length_zip]; omega
  have hSn : S ∉ as := fun z => Nat.lt_irrefl _ (hG.above _ z)
  have nd : as.Nodup := List.Pairwise.imp (fun {a b} (h : a < b) => Nat.ne_of_lt h) hG.rise
  have new : ∀ t ∈ as, H t = none := fun t ht => I.hok.fresh (Nat.le_of_lt (Nat.lt_of_le_of_lt hSl (hG.above t ht)))
  have newS : H S = none := I.hok.fresh hSl
  have atP := putZ_at as (xs.zip ys) (upd H S (.lst (as.map V.ref))) (by omega) nd
  have off : ∀ b, b ∉ as → b ≠ S → putZ (upd H S (.lst (as.map V.ref))) as (xs.zip ys) b = H b := fun b h1 h2 => by rw [putZ_off as _ _ h1, upd_ne h2]
  have low : ∀ b o, s.heap.get? b = some o → b ∉ as ∧ b ≠ S := fun b o e => ⟨fun z => absurd (Heap.lt_size e) (Nat.not_lt.mpr (Nat.le_of_lt (Nat.lt_of_le_of_lt hSl (hG.above b z)))), Nat.ne_of_lt (Nat.lt_of_lt_of_le (Heap.lt_size e) hSl)⟩
  have kp : ∀ b u, H b = some u → (putZ (upd H S (.lst (as.map V.ref))) as (xs.zip ys)) b = some u := fun b u e => by
    rw [off b (fun z => by rw [new b z] at e; cases e) (fun z => by rw [z, newS] at e; cases e)]
    exact e
  have eS : putZ (upd H S (.lst (as.map V.ref))) as (xs.zip ys) S = some (.lst (as.map V.ref)) := by rw [putZ_off as _ _ hSn, upd_same]
  have pr : ∀ (j : Nat) (t : Addr), as[j]? = some t → ∃ x y, xs[j]? = some x ∧ ys[j]? = some y ∧ putZ (upd H S (.lst (as.map V.ref))) as (xs.zip ys) t = some (.tup [x, y]) := fun j t hj => by
    have jl := (List.getElem?_eq_some_iff.mp hj).1
    have hx : xs[j]? = some (xs[j]'(by omega)) := List.getElem?_eq_getElem _
    have hy : ys[j]? = some (ys[j]'(by omega)) := List.getElem?_eq_getElem _
    exact ⟨_, _, hx, hy, atP j t (_, _) hj (List.getElem?_zip_eq_some.mpr ⟨hx, hy⟩)⟩
  refine ⟨putZ (upd H S (.lst (as.map V.ref))) as (xs.zip ys), kp, newS, new, hSn, eS, pr, ?_⟩
  refine I.call' (ch := []) rfl ⟨fun b o q _ _ _ => hk b o q, fun b o q _ _ _ => ⟨o.slots, hk b o q⟩, fun b o q n _ => ?_, fun b o q _ => ⟨o, hk b o q⟩, fun b xs q => kp b _ q, fun b o u q => kp b _ q, fun b ps q => ⟨#[], by rw [kp b _ q]; simp⟩⟩ (fun b u q => ?_) I.bare fun b z => by simp at z
  · obtain ⟨z1, z2⟩ := low b o q
    rw [off b z1 z2]
    exact n
  · by_cases hb : b ∈ as
    · obtain ⟨j, hj⟩ := List.mem_iff_getElem?.mp hb
      obtain ⟨x, y, e1, e2, e3⟩ := pr j b hj
      rw [e3] at q
      cases q
      obtain ⟨u, w, f1, f2, f3⟩ := hG.pairs j b hj
      obtain ⟨u', g1, g2⟩ := r1.get e1
      obtain ⟨w', g3, g4⟩ := r2.get e2
      have f1' : us[j]? = some u := by simpa using f1
      have f2' : ws[j]? = some w := by simpa using f2
      rw [g1] at f1'
      rw [g3] at f2'
      cases f1'
      cases f2'
      exact ⟨by show 2 ≤ sizeLine; decide, [u, w], .cons g2 (.cons g4 .nil), ⟨_, f3, rfl, _, rfl⟩⟩
    · by_cases hb2 : b = S
      · rw [hb2] at q ⊢
        rw [eS] at q
        cases q
        refine ⟨by rw [List.length_map]; omega, acc.toList, c, by rw [hacc]; exact LiI.vals_refs as, ?_⟩
        rw [Array.toArray_toList]
        exact hS
      · rw [off b hb hb2] at q
        exact (I.hok b u q).stay (fun d v _ y => hk d v y) (fun d y => kp d _ y) fun d xs y => kp d _ y
def tListZip (K : PySem.W.Frag) (ta : TA) : TE := fun σ H Q => ta σ H fun vs H1 => ∃ (a b : Addr) (xs ys : List V), vs = [.ref a, .ref b] ∧ SqT K H1 a xs ∧ SqT K H1 b ys ∧ xs.length = ys.length ∧
  ∀ (H' : Hp) (l : Addr) (ts : List Addr), (∀ b o, H1 b = some o → H' b = some o) → H1 l = none → (∀ t ∈ ts, H1 t = none) → l ∉ ts → H' l = some (.lst (ts.map V.ref)) → ts.length = xs.length →
    (∀ (j : Nat) (t : Addr), ts[j]? = some t → ∃ x y, xs[j]? = some x ∧ ys[j]? = some y ∧ H' t = some (.tup [x, y])) → Q (.ref l) H'
/-- list(zip(e, e2)), two tuples -/
theorem pe_listZip (hc : X.calm = true) (hg : Gl X "list") (hm : X.mg "list" = none) (hg2 : Gl X "zip") (hm2 : X.mg "zip" = none) (ha : PA X [e, e2] ta)
    (hs : starEach [.Call (.Name "zip" p2) [e, e2] [] pos2] X.env = (false, eval (.Call (.Name "zip" p2) [e, e2] [] pos2) X.env) :: starEach [] X.env := by rfl)
    (hs2 : starEach [e, e2] X.env = (false, eval e X.env) :: starEach [e2] X.env := by rfl) (hpl : (backTo pos2 (starEach [e2] X.env)).any (·.1) = false := by rfl) :
    PE X (.Call (.Name "list" p) [.Call (.Name "zip" p2) [e, e2] [] pos2] [] pos) (tListZip X.K ta) := by
  refine ⟨fun pins s σ H Q I hq => ?_⟩
  refine wpAny_Call_Name_kw (ld_blt I hg hm (show bootBuiltins "list" = some (.type "list") by decide +kernel) ?_)
  refine PyProof.Rows.callWith_type1 ?_ hs rfl
  rw [hs]
  show wpAny _ _ (spliced ((false, eval (.Call (.Name "zip" p2) [e, e2] [] pos2) X.env) :: backTo pos (starEach [] X.env))) _ _ s
  refine Calls.spliced_cons ?_
  refine Call_ (ld_blt I hg2 hm2 PyProof.Rows.boot_zip (PyProof.Rows.callWith_type1 (thn (ha.run pos2 pins s σ H _ I hq) fun us s1 ⟨vs, H1, I1, r1, q1⟩ => ?_) hs2 hpl))
  obtain ⟨a, b, xs, ys, ex, hqx, hqy, hxy, q⟩ := q1
  subst ex
  cases r1 with
  | cons r rr =>
    cases rr with
    | cons r' rr =>
      cases rr
      cases r
      cases r'
      obtain ⟨its, rv, p1, z1⟩ := I1.tuple hqx
      obtain ⟨its2, rv2, p2, z2⟩ := I1.tuple hqy
      have l1 := rv.length
      have l2 := rv2.length
      obtain ⟨o1, ho1, _⟩ := _root_.id p1
      obtain ⟨o2, ho2, _⟩ := _root_.id p2
      refine RZ.call_zipT (show s1.heap.IsTuple a its.toArray from p1) (show s1.heap.IsTuple b its2.toArray from p2) fun h' hz hTI hTO h1 h2 hsz hk => ?_
      refine Calls.spliced_nil ?_
      have D := PySem.W.ktu_apart s1.heap.objs.size a b (Heap.lt_size ho1) (Heap.lt_size ho2)
      refine zl_call (s := { s1 with heap := h' }) (xs := its.toArray) (ys := its2.toArray) (I1.ok.hd hc) D ⟨hz, hTI, ⟨_, _, hTO⟩, h1, h2, Heap.IsTuple.at p1 fun o e => hk _ o e, Heap.IsTuple.at p2 fun o e => hk _ o e⟩ (by simp only [List.size_toArray]; omega) (by simp only [List.size_toArray]; omega) fun h'' tk acc c as hk2 hS hl hG hacc => ?_
      have ge : ∀ b o, s1.heap.get? b = some o → b < s1.heap.objs.size := fun b o e => Heap.lt_size e
      have hk3 : ∀ b o, s1.heap.get? b = some o → h''.get? b = some o := fun b o e => by
        have lt : (b : Nat) < s1.heap.objs.size := ge b o e
        exact hk2 b o (Nat.ne_of_lt (Nat.lt_of_lt_of_le lt (Nat.le_add_right _ 4))) (Nat.ne_of_lt (Nat.lt_of_lt_of_le lt (Nat.le_add_right _ 3))) (Nat.ne_of_lt lt) (Nat.ne_of_lt (Nat.lt_of_lt_of_le lt (Nat.le_add_right _ 1))) (hk b o e)
      have hsz' : s1.heap.objs.size ≤ h'.objs.size := by omega
      obtain ⟨H', k1, k2, k3, k4, k5, k6, J⟩ := zip_laid (tk := tk) I1 (by omega) rv rv2 hxy hk3 hsz' hS hl hG hacc
      exact ⟨.ref _, H', J, rfl, q H' _ as k1 k2 k3 k4 k5 (by rw [hl]; simp; omega) k6⟩
end
end ScZ
namespace Sc
open PySem PySem.Spec PyProof.Rows L2
section
variable {P : Program} {w : World} {A : Around} {E : Value → Shared → Prop} {s : Shared}
/-- set(t), t a tuple of texts -/
theorem call_set_txsT {l : Addr} {items : Array Value} (zs : List Str) {Q : Value → Shared → Prop} (calm : A.handled = none) (hl : s.heap.IsTuple l items) (hit : StrsAre items.toList zs) (room : zs.length + 1 < scanBound)
    (fin : ∀ (h' : Heap) (tk m : Nat), TxSet w h' s.heap.objs.size (fun y => decide (y ∈ zs)) m → m ≤ zs.length → (∀ b ob, s.heap.get? b = some ob → h'.get? b = some ob) → Q (.ref s.heap.objs.size) { s with heap := h', toks := tk }) :
    wpAny (model P w) A (call (.type "set") [.ref l]) Q E s := by
  have isz : items.size = zs.length := by
    have z := hit.length
    rw [Array.length_toList] at z
    exact z
  obtain ⟨c, tl, hmro⟩ := F.called_set.mro
  have hmade := F.called_set.made
  have hsub := F.called_set.sub
  refine wpAny_call (codeAny_of_tree ?_)
  show wpAny _ _ (callAny (.type "set") _) _ _ _
  refine wpAny_pure ⟨Code.quiet_builtin _ (by decide +kernel), codeAny_builtin F.entry_type_call ?_⟩
  rw [Around.under_plain (weight_type_call_type "set" [.ref l] []) rfl]
  have no_t := F.called_set.notType
  have can := F.called_set.canCreate
  have chk := PySem.F.typeCall_set_1 (.ref l)
  repeat (any_goals (first | assumption | wp_step))
  refine codeAny_mono (code_set_led1 (.ref l) (E := E) (Q₁ := fun obj s1 => obj = .ref s.heap.objs.size ∧ s1 = { s with heap := s.heap.push (bareSet w) }) ⟨rfl, rfl⟩) fun r s1 hr => ?_
  cases r with
  | error e => exact hr
  | ok fl =>
  cases fl with
  | next => exact hr.elim
  | brk => exact hr.elim
  | cont => exact hr.elim
  | ret obj =>
  obtain ⟨rfl, rfl⟩ := hr
  have atS : (s.heap.push (bareSet w)).get? s.heap.objs.size = some (bareSet w) := Heap.get?_push_size _ rfl
  have tyS : Shared.TypeIs { s with heap := s.heap.push (bareSet w) } (.ref s.heap.objs.size) "set" := ⟨_, atS, rfl⟩
  have ini := F.called_set.init.lookup
  have inb := F.called_set.init.bind (.ref s.heap.objs.size)
  repeat (any_goals (first | assumption | wp_step))
  refine codeAny_mono (codeAny_call_builtin (R := wants (fun r s2 => r = .none ∧ ∃ h' tk m, s2 = { s with heap := h', toks := tk } ∧ TxSet w h' s.heap.objs.size (fun y => decide (y ∈ zs)) m ∧ m ≤ zs.length ∧
      (∀ b ob, s.heap.get? b = some ob → h'.get? b = some ob)) E) F.called_set.init.plain F.entry_set_init (check_set_init_1 tyS ?_)) fun r2 s2 hr2 => ?_
  · obtain ⟨ob, hob, hc, nl, hd⟩ := hl
    obtain ⟨k1, k2, k3, k4⟩ := ob
    simp only at hc hd
    subst hc hd
    have ob1 : (s.heap.push (bareSet w)).get? l = some { cls := .type "tuple", dict := k2, data := .seq items nl, slots := k4 } := Heap.get?_push_of_some _ hob
    have not1 := F.sub_tuple_set
    have not2 := F.sub_tuple_frozenset
    have not3 : (Value.type "tuple" == Value.type "dict") = false := by decide
    have l1 : (s.heap.push (bareSet w)).IsTuple l items := ⟨_, ob1, rfl, nl, rfl⟩
    unfold Builtin.«set.__init__» noKeywords Builtin.Frozenset.updateFrom
    generalize hIt : pyIter = It
    wp_walk
    subst hIt
    refine wpAny_pyIter_tuple l1 (wpAny_bind (wpAny_runValue ?_))
    have low : l < s.heap.objs.size := Heap.lt_size hob
    have calm3 : A.in1.in1.in1.handled = none := by simp [calm]
    have one : (s.heap.push (bareSet w)).objs.size = s.heap.objs.size + 1 := Heap.size_push ..
    have n1 : l ≠ (s.heap.push (bareSet w)).objs.size := Nat.ne_of_lt (by rw [one]; exact Nat.lt_succ_of_lt low)
    have n2 : s.heap.objs.size ∉ [(s.heap.push (bareSet w)).objs.size, l] := by
      rw [List.mem_cons, List.mem_singleton, one]
      exact fun z => z.elim (Nat.ne_of_lt (Nat.lt_succ_self _)) (Nat.ne_of_gt low)
    refine tx_update ((Walks.tuple calm3 _ l n1 items).toS) s.heap.objs.size n2 zs isz room (fun i v hv => tx_item hit i v (by rw [Array.getElem?_toList]; exact hv)) (items.size - 0) 0 _ (by omega) (Nat.zero_le _)
      ⟨⟨_, Heap.get?_push_size _ rfl, rfl, rfl⟩, (l1.push _)⟩ ⟨0, Nat.le_refl 0, tx_bare (Heap.get?_push_of_some _ atS)⟩ ?_
    intro s3 m mv hm R3
    obtain ⟨h3, g3, d3, t3, o3⟩ := s3
    have z1 : g3 = s.gens := mv.gens
    have z2 : d3 = s.drawn := mv.drawn
    have z3 : o3 = s.os := mv.os
    subst z1 z2 z3
    show wpAny _ _ _ _ _ _
    refine wpAny_pure ?_
    show wpAny _ _ (ret Value.none) _ _ _
    refine wpAny_pure ⟨rfl, h3, t3, m, rfl, R3, isz ▸ hm, fun b ob e => ?_⟩
    have lb : b < s.heap.objs.size := Heap.lt_size e
    refine mv.heap b ob ?_ (Heap.get?_push_of_some _ (Heap.get?_push_of_some _ e))
    rw [List.mem_cons, List.mem_singleton, one]
    exact fun z => z.elim (Nat.ne_of_lt lb) (Nat.ne_of_lt (Nat.lt_succ_of_lt lb))
  · cases r2 with
    | error e => exact hr2
    | ok fl2 =>
    cases fl2 with
    | next => exact hr2.elim
    | brk => exact hr2.elim
    | cont => exact hr2.elim
    | ret r =>
    obtain ⟨rfl, h', tk, m, rfl, R2, hm, kp⟩ := hr2
    repeat (any_goals (first | assumption | wp_step))
    exact fin _ _ _ R2 hm kp

end
section
variable {X : Cx}
def rTxSetT (K : PySem.W.Frag) (w : World) : List V → Hp → VK → Prop := fun xs H Q => ∃ (l : Addr) (zs : List Str), xs = [V.ref l] ∧ (SqL K H l (zs.map V.str) ∨ SqT K H l (zs.map V.str)) ∧ zs.length < 1000 ∧
  ∀ a m, H a = none → m ≤ zs.length → Q (.ref a) (upd H a (TxO w a (fun y => decide (y ∈ zs)) m))
theorem cr_txSetT (hc : X.calm = true) : CallR X (.type "set") (rTxSetT X.K X.w) := by
  intro pins s σ H xs us Q I r h
  obtain ⟨l, zs, e, hl | hl, few, q⟩ := h
  · exact cr_txSet hc pins s σ H xs us Q I r ⟨l, zs, e, hl, few, q⟩
  subst e
  rw [Vals.ref1 r]
  obtain ⟨its, rv, pl, hz⟩ := I.tuple hl
  have free : H s.heap.objs.size = none := I.hok.fresh (Nat.le_refl _)
  refine call_set_txsT (P := X.prog) (w := X.w) zs (I.ok.hd hc) pl rv.strs (by unfold scanBound; omega) fun h' tk m R hm kp => ?_
  have R' : ∀ H2 : Hp, ObjOk X.prog X.w H2 h' s.heap.objs.size (TxO X.w s.heap.objs.size (fun y => decide (y ∈ zs)) m) := fun H2 => by
    have ⟨ob, _, _, _, hob, _⟩ := R
    exact ⟨R, ⟨ob, hob⟩, fun h1 h2 p k => p.keep k⟩
  exact ⟨.ref s.heap.objs.size, _, I.laid (t' := tk) kp (Nat.le_refl _) (R' _), rfl, q _ m free hm⟩
/-- len(d), d a set of texts: as many as there are -/
def rTxLen (w : World) : List V → Hp → VK → Prop := fun xs H Q => ∃ (d : Addr) (S : Str → Bool) (n : Nat), xs = [V.ref d] ∧ H d = some (TxO w d S n) ∧
  ∀ ys : List Str, ys.Nodup → (∀ x, x ∈ ys ↔ S x = true) → ys.length = n → Q (.int (n : Nat)) H
theorem cr_txLen : CallR X (.builtin "len") (rTxLen X.w) := by
  intro pins s σ H xs us Q I r h
  obtain ⟨d, S, n, rfl, hd, q⟩ := h
  obtain ⟨ob, cs, ver, tb, hob, ex, dt, gd, nd, mm, sb, ft, sz, ri, ld⟩ : TxSet X.w s.heap d S n := (I.hok d _ hd).1
  rw [Vals.ref1 r]
  have lt : (cs.size : Int) < 2 ^ 63 := by
    have : scanBound ≤ 2 ^ 40 := by decide
    omega
  refine call_len_set hob ex dt ft lt ⟨.int (n : Nat), H, I.tok _, ⟨_, by rw [sz]⟩, q (cs.toList.map txOf) nd (fun x => (mm x).symm) (by rw [List.length_map, Array.length_toList]; exact sz)⟩
end
end Sc
namespace Sc
theorem nodup_sub {α : Type} [DecidableEq α] : ∀ {a b : List α}, a.Nodup → (∀ x ∈ a, x ∈ b) → a.length ≤ b.length
  | [], _, _, _ => Nat.zero_le _
  | x :: a, b, ha, hab => by
    obtain ⟨h1, h2⟩ := List.nodup_cons.mp ha
    have hx := hab x List.mem_cons_self
    have ih := nodup_sub (b := b.erase x) h2 fun y hy => (List.mem_erase_of_ne fun (z : y = x) => h1 (z ▸ hy)).mpr (hab y (List.mem_cons_of_mem _ hy))
    rw [List.length_erase_of_mem hx] at ih
    have : 0 < b.length := List.length_pos_of_mem hx
    rw [List.length_cons]
    omega
theorem dup_one {α : Type} [DecidableEq α] : ∀ {zs : List α}, ¬ zs.Nodup → ∃ x ∈ zs, ∀ y ∈ zs, y ∈ zs.erase x
  | [], h => absurd List.nodup_nil h
  | z :: r, h => by
    by_cases hz : z ∈ r
    · refine ⟨z, List.mem_cons_self, fun y hy => ?_⟩
      rw [List.erase_cons_head]
      rcases List.mem_cons.mp hy with e | e
      · rw [e]; exact hz
      · exact e
    · obtain ⟨x, hx, hr⟩ := dup_one (zs := r) fun n => h (List.nodup_cons.mpr ⟨hz, n⟩)
      have ne : z ≠ x := fun e => hz (e ▸ hx)
      refine ⟨x, List.mem_cons_of_mem _ hx, fun y hy => ?_⟩
      rw [List.erase_cons_tail (by simpa using ne)]
      rcases List.mem_cons.mp hy with e | e
      · rw [e]; exact List.mem_cons_self
      · exact List.mem_cons_of_mem _ (hr y e)
theorem nodup_len {α : Type} [DecidableEq α] {zs ys : List α} {n : Nat} (nd : ys.Nodup) (mem : ∀ x, x ∈ ys ↔ x ∈ zs) (ln : ys.length = n) : (n < zs.length ↔ ¬ zs.Nodup) ∧ n ≤ zs.length := by
  have le : n ≤ zs.length := by rw [← ln]; exact nodup_sub nd fun x hx => (mem x).mp hx
  refine ⟨⟨fun lt hz => ?_, fun hz => ?_⟩, le⟩
  · have := nodup_sub hz fun x hx => (mem x).mpr hx
    omega
  · obtain ⟨x, hx, hr⟩ := dup_one hz
    have := nodup_sub nd fun y hy => hr y ((mem y).mp hy)
    rw [List.length_erase_of_mem hx] at this
    have : 0 < zs.length := List.length_pos_of_mem hx
    omega
end Sc
namespace Sc
open PySem PySem.Spec PyProof.Rows L2
/-! ### programs: what is one, purely -/
inductive Wr where
  | bk | bp | nn | tt
deriving DecidableEq
/-- what is known where a part stands -/
structure Env0 where
  ls : List Str
  fs : List (Str × Nat × Nat)
  ns : List Str
def formTab : List (Str × List Str) :=
  [("num", ["whole"]), ("text", ["text"]), ("name", ["known"]), ("row", ["parts"]), ("norow", ["kind"]), ("nobook", ["kind"]), ("shape", ["fields"]), ("get", ["part", "field"]),
   ("plus", ["part", "part"]), ("minus", ["part", "part"]), ("join", ["part", "part"]), ("size", ["part"]), ("push", ["part", "part"]), ("at", ["part", "part", "part"]), ("put", ["part", "part", "part"]),
   ("look", ["part", "part", "part"]), ("let", ["given", "part", "last"]), ("each", ["given", "part", "last"]), ("fold", ["given", "part", "given", "kind", "part", "last"]), ("if", ["part", "part", "part", "part"]),
   ("is", ["known", "head", "part", "part"]), ("has", ["known", "field", "part", "part"]), ("call", ["function", "kinds", "handed"])]
/-- the first that is wrong -/
def firstBad : List (Option Wr) → Option Wr
  | [] => none
  | some b :: _ => some b
  | none :: r => firstBad r
def whenB (c : Bool) (b : Wr) : Option Wr := if c then none else some b
def gWhole : PyData → Option Wr
  | .int n => whenB (decide (n.natAbs < 10 ^ 30)) .bp
  | _ => some .bp
def gText : PyData → Option Wr
  | .str z => whenB ((z.cps.toList.all fun c => decide (32 ≤ c) && decide (c ≤ 126)) && !(z.cps.toList.any fun c => c == 37)) .bp
  | _ => some .bp
def gWord (d : PyData) : Option Wr := whenB (isWordD d) .bp
def gKnown (E : Env0) : PyData → Option Wr
  | .str z => if isWordD (.str z) then whenB (decide (z ∈ E.ns)) .nn else some .bp
  | _ => some .bp
def gHead : PyData → Option Wr
  | .str z => whenB (decide (z ∈ (["number", "text", "row", "book", "shape"] : List Str))) .bp
  | _ => some .bp
def gKind (ls : List Str) (d : PyData) : Option Wr := whenB (gK ls 9 d) .bk
def gFun (E : Env0) : PyData → Option Wr
  | .str z => if isWordD (.str z) then whenB (decide (z ∈ E.fs.map (·.1))) .nn else some .bp
  | _ => some .bp
def gKinds (ls : List Str) : PyData → Option Wr
  | .tuple ds => firstBad (ds.map (gKind ls))
  | _ => some .bp
def gHanded (rec : PyData → Option Wr) : PyData → Option Wr
  | .tuple ds => firstBad (ds.map rec)
  | _ => some .bp
def gParts (rec : PyData → Option Wr) (d : PyData) : Option Wr := match gHanded rec d with
  | some b => some b
  | none => match d with
    | .tuple [] => some .bp
    | _ => none
def gField (rec : PyData → Option Wr) : PyData → Option Wr
  | .tuple [f, p] => match gWord f with
    | some b => some b
    | none => rec p
  | _ => some .bp
def gFields (rec : PyData → Option Wr) : PyData → Option Wr
  | .tuple ds => if fldD (.tuple ds) then firstBad (ds.map (gField rec)) else some .bp
  | _ => some .bp
/-- what stands in one place of a part -/
def gSlot (rec : Env0 → PyData → Option Wr) (E : Env0) (s : Str) (d : PyData) : Option Wr :=
  if s = ("whole" : Str) then gWhole d else if s = ("text" : Str) then gText d else if s = ("known" : Str) then gKnown E d else if s = ("given" : Str) then gWord d else if s = ("field" : Str) then gWord d else if s = ("head" : Str) then gHead d
  else if s = ("kind" : Str) then gKind E.ls d else if s = ("part" : Str) then rec E d else if s = ("last" : Str) then rec E d else if s = ("parts" : Str) then gParts (rec E) d else if s = ("fields" : Str) then gFields (rec E) d
  else if s = ("function" : Str) then gFun E d else if s = ("kinds" : Str) then gKinds E.ls d else gHanded (rec E) d
def givens (fm : List Str) (ts : List PyData) : List PyData := ((fm.zip ts).filter fun p => p.1 == ("given" : Str)).map (·.2)
def strsD : List PyData → List Str
  | [] => []
  | .str z :: r => z :: strsD r
  | _ :: r => strsD r
def formOf : PyData → Option (Str × List Str × List PyData)
  | .tuple (.str w :: ts) => match formTab.lookup w with
    | some fm => if ts.length = fm.length then some (w, fm, ts) else none
    | none => none
  | _ => none
def callOk (E : Env0) (ts : List PyData) : Bool := match ts with
  | [.str f, .tuple ks, .tuple ps] => (match E.fs.lookup f with
    | some (nl, np) => decide (ks.length = nl) && decide (ps.length = np)
    | none => false)
  | _ => false
def gPart : Nat → Env0 → PyData → Option Wr
  | 0, _, _ => some .bp
  | n + 1, E, d => match formOf d with
    | none => some .bp
    | some (w, fm, ts) =>
      let L : Env0 := { E with ns := E.ns ++ strsD (givens fm ts) }
      match firstBad ((fm.zip ts).map fun p => gSlot (gPart n) (if p.1 = ("last" : Str) then L else E) p.1 p.2) with
      | some b => some b
      | none => if (strsD (givens fm ts)).Nodup then (if w = ("call" : Str) then whenB (callOk E ts) .bp else none) else some .tt
/-! ### where a part stands -/
def placeF (la fa na : Addr) (r : Int) : List (Str × V) := [("letters", V.ref la), ("functions", V.ref fa), ("names", V.ref na), ("room", V.int r)]
/-- the functions told earlier: by their names, how many letters and params -/
def FnsAt (K : PySem.W.Frag) (H : Hp) (fa : Addr) (fs : List (Str × Nat × Nat)) : Prop := ∃ kvs : List (Key × V), H fa = some (.dK kvs) ∧ kvs.map (·.1) = fs.map (fun q => (Sum.inr q.1 : Key)) ∧ (fs.map (·.1)).Nodup ∧
  ∀ (j : Nat) (k : Key) (v : V) (z : Str) (nl np : Nat), kvs[j]? = some (k, v) → fs[j]? = some (z, nl, np) → ∃ (d0 : PyData) (ls ps : List PyData) (d3 d4 : PyData), Dp K H v (.tuple [d0, .tuple ls, .tuple ps, d3, d4]) ∧ ls.length = nl ∧ ps.length = np
structure PlaceAt (K : PySem.W.Frag) (C : Addr) (H : Hp) (p : Addr) (E : Env0) (r : Int) : Prop where
  at_ : ∃ dx la fa na, H p = some (.ins C dx (placeF la fa na r)) ∧ SqT K H la (E.ls.map V.str) ∧ FnsAt K H fa E.fs ∧ SqT K H na (E.ns.map V.str)
theorem FnsAt.keep {K : PySem.W.Frag} {T : List Addr} {H H' : Hp} {fa : Addr} {fs : List (Str × Nat × Nat)} (h : FnsAt K H fa fs) (t : Tb T H) (f : Fr T H H') : FnsAt K H' fa fs := by
  obtain ⟨kvs, h1, h2, nd, h3⟩ := h
  refine ⟨kvs, f.old _ _ h1 fun z => ?_, h2, nd, fun j k v z nl np e1 e2 => ?_⟩
  · obtain ⟨ps, g, _⟩ := t fa z
    rw [h1] at g
    cases g
  · obtain ⟨d0, ls, ps, d3, d4, hd, r⟩ := h3 j k v z nl np e1 e2
    exact ⟨d0, ls, ps, d3, d4, (Fr.keep t f).dp hd, r⟩
theorem PlaceAt.keep {K : PySem.W.Frag} {T : List Addr} {C : Addr} {H H' : Hp} {p : Addr} {E : Env0} {r : Int} (h : PlaceAt K C H p E r) (t : Tb T H) (f : Fr T H H') : PlaceAt K C H' p E r := by
  obtain ⟨dx, la, fa, na, h1, h2, h3, h4⟩ := h.at_
  refine ⟨dx, la, fa, na, f.old _ _ h1 fun z => ?_, (Fr.keep t f).2 _ _ h2, h3.keep t f, (Fr.keep t f).2 _ _ h4⟩
  obtain ⟨ps, g, _⟩ := t p z
  rw [h1] at g
  cases g
/-- the promise of a def that refuses what stands in a place -/
def spAt (K : PySem.W.Frag) (T : List Addr) (C : Addr) (cls : Wr → Addr) (r : Int) (g : Env0 → PyData → Option Wr) : Sp := fun vs H Q Ex => ∃ (v : V) (d : PyData) (p : Addr) (E : Env0), vs = [v, .ref p] ∧ Dp K H v d ∧ okD d ∧ Tb T H ∧ PlaceAt K C H p E r ∧
  (g E d = none → ∀ H', Fr T H H' → Q .non H') ∧ (∀ b, g E d = some b → ∀ H', Fr T H H' → Ex (.ref (cls b)) none H')
/-- the classes -/
structure Ers (K : PySem.W.Frag) (mg : Str → Option Value) (cls : Wr → Addr) : Prop where
  bk : Ec K mg "BadKind" (cls .bk)
  bp : Ec K mg "BadProgram" (cls .bp)
  nn : Ec K mg "NoName" (cls .nn)
  tt : Ec K mg "TwiceTold" (cls .tt)
/-- the class Place -/
structure PlC (P : Program) (w : World) (K : PySem.W.Frag) (mg : Str → Option Value) (base : Heap) (C : Addr) : Prop where
  cl : Cls K C
  n1 : NoAttr K C "letters"
  n2 : NoAttr K C "functions"
  n3 : NoAttr K C "names"
  n4 : NoAttr K C "room"
  g : mg "Place" = some (.ref C)
  ini : ∃ f fd, FnOk P w K mg base CX0 1 f fd ["self", "letters", "functions", "names", "room"] (fun vs H Q _ => ∃ (p dx la fa na : Addr) (r : Int), vs = [.ref p, .ref la, .ref fa, .ref na, .int r] ∧ H p = some (.ins C dx []) ∧
      ∀ (H' : Hp), H' p = some (.ins C dx (placeF la fa na r)) → (∀ c o, H c = some o → c ≠ p → H' c = some o) → Q .non H') ∧ Mk K C f ∧ Binds K fd ["self", "letters", "functions", "names", "room"] []
end Sc
namespace Sc
open PySem PySem.Spec PyProof.Rows L2
/-! ### a generator over a text's signs whose element may read the module's names -/
/-- the module's names and the builtins, as the base has them -/
structure Grd (mg : Str → Option Value) (h : Heap) : Prop where
  own : h.Ns mainGlobals mg
  blt : ∃ mb, h.Ns builtinsNs mb ∧ ∀ x : Str, x ≠ "__name__" → mb x = bootBuiltins x
theorem Grd.but {mg : Str → Option Value} {h h' : Heap} {a : Addr} (G : Grd mg h) (k : ∀ b o, b ≠ a → h.get? b = some o → h'.get? b = some o) (n1 : mainGlobals ≠ a) (n2 : builtinsNs ≠ a) : Grd mg h' :=
  ⟨G.own.extBut (b := a) (fun b o hb e => k b o hb e) n1, let ⟨mb, u, q⟩ := G.blt; ⟨mb, u.extBut (b := a) (fun b o hb e => k b o hb e) n2, q⟩⟩
theorem ns_off {h : Heap} {a b : Addr} {m : Str → Option Value} {ps : Array Value} (n : h.Ns a m) (e : h.get? b = some { cls := .none, data := .fields ps }) : a ≠ b := by
  rintro rfl
  obtain ⟨u, es, ep, hu, hd, _⟩ := n
  rw [e] at hu
  cases hu
  cases hd
/-- the element: a test of the sign c, which may ask the module's names -/
def EltM (prog : Program) (w : World) (mg : Str → Option Value) (scope : Scope) (x : Str) (elt : Expr) (pb : Nat → Bool) : Prop :=
  ∀ (ce : Env) (Ar : Around) (Er : Value → Shared → Prop) (c : Nat) (t : Tok) (z : Shared) (m : Str → Option Value), (ce.scope = scope ∧ ce.globals = mainGlobals ∧ ce.builtins = builtinsNs) → Grd mg z.heap → (z.heap.Ns ce.locals m ∧ m x = some (.str ⟨#[c]⟩ t)) →
    wpAny (model prog w) Ar (eval elt ce) (fun y z' => y = .bool (pb c) ∧ Keeps z z') Er z
/-- ord(x) == G -/
theorem elt_ord {prog : Program} {w : World} {mg : Str → Option Value} {scope : Scope} {x g : Str} {n : Int} {tn : Tok} {p0 p1 p2 p3 p4 : Pos} (hk : scope.kind = .function) (hl : scope.names.lookup x = some .local) (ho : scope.names.lookup ("ord" : Str) = some .globalImplicit) (hg : scope.names.lookup g = some .globalImplicit)
    (mo : mg "ord" = none) (mn : mg g = some (.int n tn)) (hd : (x == ("__debug__" : Str)) = false := by decide) (hd2 : (g == ("__debug__" : Str)) = false := by decide) :
    EltM prog w mg scope x (.Compare (.Call (.Name "ord" p0) [.Name x p1] [] p2) [.Eq] [.Name g p3] p4) (fun c => ((c : Nat) : Int) == n) := by
  intro ce Ar Er c t z m ⟨hs, hgl, hbl⟩ G ⟨hn, hm⟩
  obtain ⟨mb, hb1, hb2⟩ := G.blt
  have kd : ce.scope.kind = .function := by rw [hs]; exact hk
  have he : starEach [.Name x p1] ce = (false, eval (.Name x p1) ce) :: starEach [] ce := rfl
  refine wpAny_Compare1 (wpAny_Call_Name_kw (Calls.Name_function_global kd (show ce.scope.names.lookup ("ord" : Str) = _ by rw [hs]; exact ho) (Calls.loadGlobal_builtin (by rw [hgl]; exact G.own) mo (by rw [hbl]; exact hb1) ((hb2 "ord" (by decide)).trans boot_ord) ?_)))
  refine PyProof.Rows.callWith_builtin1 ?_ he (by rfl)
  rw [he]
  show wpAny _ _ (spliced ((false, eval (.Name x p1) ce) :: backTo p2 (starEach [] ce))) _ _ z
  refine Calls.spliced_cons (wpAny_Name (wpAny_loadName_local kd (show ce.scope.names.lookup x = some .local by rw [hs]; exact hl) hn hm ?_) hd)
  refine Calls.spliced_nil (PySem.P.ord_of_char ?_)
  refine Calls.Name_function_global kd (show ce.scope.names.lookup g = _ by rw [hs]; exact hg) (Calls.loadGlobal_global (by rw [hgl]; exact G.own) mn ?_) hd2
  exact PySem.P.eq_int ⟨rfl, GxR.keeps_tok _ _⟩
section
variable {X : Cx} {pins : List (Addr × Obj)} {σ : L2.St} {H : Hp} {s : Shared}
theorem gen_code {M : Model} {A : Around} {E : Value → Shared → Prop} {env : Env} {c P : Addr} {ps : Array Value} {gpos : Pos} {q : Str} {scope : Scope} {Qc : Value → Shared → Prop} (hc : env.code = .ref c) (cd : s.heap.IsCode c P ps) (tb : s.heap.TableAt c P ps) (gP : s.heap.get? P = some { cls := .none, data := .fields ps }) (tri : TriplesOk ps.toList)
    (h : ∀ (cv : Value) (h3 : Heap) (tk : Nat) (more : Array Value), Heap.ExtBut P s.heap h3 → s.heap.objs.size ≤ h3.objs.size → h3.get? P = some { cls := .none, data := .fields (ps ++ more) } → TriplesOk (ps ++ more).toList → Qc cv { s with heap := h3, toks := tk }) :
    wpAny M A (genexprCode env gpos q scope) Qc E s := by
  cases hf : codeAmong gpos ps.toList with
  | some cv =>
    have e : ps ++ #[] = ps := by simp
    exact wpAny_genexprCode_hit hc cd hf (h cv s.heap s.toks #[] (Heap.ExtBut.refl _ _) (Nat.le_refl _) (by rw [e]; exact gP) (by rw [e]; exact tri))
  | none =>
    apply wpAny_genexprCodeX hc cd tb hf
    intro c' h3 tk hx hge hlt hco _ htab _
    obtain ⟨_, _, _, _, _, _, _, _, _, _, _, _, _, _, _, _, _, _, _, tr3, _⟩ := hco
    exact h _ h3 tk _ hx (Nat.le_trans hge (Nat.le_of_lt hlt)) htab.2 tr3
theorem gen_strM {c P : Addr} {elt iter : Expr} {x : Str} {px gpos : Pos} {scope : Scope} {pb : Nat → Bool} {te : TE} {k : Nat} {Q' : Value → Shared → Prop} {R : Str → Hp → Prop}
    (hr : Room k X.A) (TB : GxR.TabB X.base X.mg c P) (hcode : X.env.code = .ref c) (S : GxR.GenS X.env scope x) (hi : PE X iter te) (hel : EltM X.prog X.w X.mg scope x elt pb)
    (hs : ∀ v, genFold iter X.env v = pure v) (I : Inv X pins σ H s) (h : te σ H fun v H1 => ∃ a : Str, v = .str a ∧ GxR.TabG H1 P ∧ R a H1)
    (hQ : ∀ a H1 g s5, R a H1 → GxR.Ready X pins σ H1 P a pb g s5 → Q' (.ref g) s5) :
    wpAny (model X.prog X.w) X.A (eval (.GeneratorExp elt [⟨.Name x px, iter, [], 0⟩] scope gpos) X.env) Q' X.xe s := by
  apply wpAny_GeneratorExp_walksQ hr.hd S.co (closure_ok S.free) S.cell S.dot S.loc S.kind (Nat.lt_of_lt_of_le (Nat.lt_succ_self _) (by have := hr.dp; omega)) (hs := hs)
  apply thn (hi.run pins s σ H _ I h)
  rintro xv z ⟨v, H1, J, rv, a, rfl, ⟨ps, hP, tri⟩, hR⟩
  obtain ⟨u, rfl⟩ := (show ∃ u, xv = Value.str a u from rv)
  apply wpAny_pyIter_str
  intro it St W at0
  have gP : z.heap.get? P = some { cls := .none, data := .fields ps } := J.hok P _ hP
  have Plt := Heap.lt_size gP
  have base' : ∀ b o, X.base.get? b = some o → z.heap.get? b = some o := fun b o e => J.bk b o e
  have G0 : Grd X.mg z.heap := ⟨J.mod.glob.keeps base', let ⟨mb, q1, q2⟩ := J.mod.blt; ⟨mb, q1.keeps base', q2⟩⟩
  have nPb : builtinsNs ≠ P := let ⟨mb, q1, _⟩ := G0.blt; ns_off q1 gP
  have nPs : cStatics ≠ P := let ⟨mc, q1, _⟩ := J.nolimit; ns_off q1 gP
  have gltS : cStatics < z.heap.objs.size := let ⟨mc, q1, _⟩ := J.nolimit; q1.lt
  have gltG : mainGlobals < z.heap.objs.size := G0.own.lt
  have gltB : builtinsNs < z.heap.objs.size := let ⟨mb, q1, _⟩ := G0.blt; q1.lt
  have up : ∀ b o, z.heap.get? b = some o → (z.heap.push it).get? b = some o := fun b o e => Heap.get?_push_of_some _ e
  have codeP : PySem.W.CodeHd (z.heap.push it) c P := TB.code.keeps fun b o e => up b o (base' b o e)
  refine ⟨J.nolimit.push it, ?_⟩
  have gP' := up P _ gP
  refine gen_code hcode (codeP.code gP' tri) (codeP.tab gP') (show (z.heap.push it).get? P = _ from gP') tri fun cv h3 tk more hx hsz0 hP3 tr3 => ?_
  have hsz : z.heap.objs.size + 1 ≤ h3.objs.size := by
    have e := Heap.size_push z.heap it
    rw [← e]
    exact hsz0
  have k3 : ∀ b o, b ≠ P → z.heap.get? b = some o → h3.get? b = some o := fun b o hb e => hx b o hb (up b o e)
  have G3 : Grd X.mg h3 := G0.but k3 TB.gP nPb
  obtain ⟨bm, ob, e1, e2, e3, e4, e5, e6, e7, e8⟩ := TB.bm
  apply wpAny_builtinsFor (m := X.mg) (by rw [J.ok.glob]; exact G3.own) e1 e2 (k3 _ _ e4 (base' _ _ e5)) e6 e7 e8
  have inFp : ∀ b ∈ [z.heap.objs.size], b < h3.objs.size := fun b hb => by rw [List.mem_singleton.mp hb]; exact hsz
  refine ⟨z.heap.objs.size, [z.heap.objs.size], [z.heap.objs.size], a.cps.size, SignAt a, St, (fun _ => true), (fun i y => ∃ cc, a.cps[i]? = some cc ∧ y = .bool (pb cc)), rfl, W, ?_, inFp, (J.nolimit.push it).extBut hx nPs, ?_, ?_, ?_⟩
  · exact (W X.A hr.hd).frame _ _ _ at0 fun b hb o e => hx b o (fun q => absurd Plt (by rw [← q, List.mem_singleton.mp hb]; exact Nat.lt_irrefl _)) e
  · exact fun q => absurd gltS (by rw [List.mem_singleton.mp q]; exact Nat.lt_irrefl _)
  · intro href hh
    constructor
    · intro _ _ _ _ _ _ _ _ _ _ _
      simp only [List.forIn_nil]
      exact wpAny_pure ⟨rfl, GxR.keeps_refl _⟩
    · intro Ar Er i v z2 m2 _ hPv _ hn hm hk
      obtain ⟨cc, u, hcc, rfl⟩ := hPv
      have G2 : Grd X.mg z2.heap := G3.but (a := z.heap.objs.size) (fun b o hb e => hk b (List.mem_range.mpr (Heap.lt_size e)) (fun q => hb (List.mem_singleton.mp q)) o (hh b o e)) (Nat.ne_of_lt gltG) (Nat.ne_of_lt gltB)
      exact wpAny_mono (hel _ Ar Er cc u z2 m2 ⟨rfl, J.ok.glob, rfl⟩ G2 ⟨hn, hm⟩) (fun y z3 q => ⟨⟨cc, hcc, q.1⟩, q.2⟩) fun _ _ e => e
  · intro g h5 tk5 gs hgb hag hsz5 hk5 W5 hat
    simp only [GxR.passing_true, List.length_range] at W5
    refine hQ a H1 g _ hR ⟨_, _, _, _, _, W5.in4_1, hat, ?_, ?_⟩
    · rintro j y sj Qj Ej ⟨i, hij, cc, hcc, rfl⟩ hQj
      obtain ⟨hj, ej⟩ := List.getElem?_eq_some_iff.mp hij
      rw [List.getElem_range] at ej
      subst ej
      have tr0 : GxR.trF pb a.cps.toList j = pb cc := GxR.trF_some (by rw [Array.getElem?_toList]; exact hcc)
      exact wpAny_truthy_bool (by rw [← tr0]; exact hQj)
    · intro z' mv
      have off : ∀ b o, z.heap.get? b = some o → b ∉ h3.objs.size :: [z.heap.objs.size] := fun b o e q => by
        have lt := Heap.lt_size e
        rcases List.mem_cons.mp q with q | q
        · rw [q] at lt
          exact absurd (Nat.lt_of_lt_of_le lt (Nat.le_of_succ_le hsz)) (Nat.lt_irrefl _)
        · rw [List.mem_singleton.mp q] at lt
          exact Nat.lt_irrefl _ lt
      have J2 := GxR.inv_tab (more := more) (h' := z'.heap) (g' := z'.gens) (d' := z'.drawn) (t' := z'.toks) J hP (fun b o hb e => mv.heap b o (off b o e) (hk5 b o (k3 b o hb e))) (mv.heap P _ (off P _ gP) (hk5 P _ hP3)) (AllBare.movedS (J.bare.push hgb) mv)
      rw [GxR.sh_eta z z' mv.os] at J2
      exact ⟨_, ⟨⟨_, upd_same, tr3⟩, fun b hb => upd_ne hb⟩, J2⟩
/-- any(ord(x) == G for x in e) and its like -/
theorem pe_anyM {c P : Addr} {elt iter : Expr} {x : Str} {px p pos gpos : Pos} {scope : Scope} {pb : Nat → Bool} {te : TE} {k : Nat}
    (hr : Room k X.A) (hg : Gl X "any") (hm : X.mg "any" = none) (TB : GxR.TabB X.base X.mg c P) (hcode : X.env.code = .ref c) (S : GxR.GenS X.env scope x) (hi : PE X iter te) (hel : EltM X.prog X.w X.mg scope x elt pb)
    (hs : ∀ v, genFold iter X.env v = pure v)
    (he : starEach [.GeneratorExp elt [⟨.Name x px, iter, [], 0⟩] scope gpos] X.env = (false, eval (.GeneratorExp elt [⟨.Name x px, iter, [], 0⟩] scope gpos) X.env) :: starEach [] X.env := by rfl) :
    PE X (.Call (.Name "any" p) [.GeneratorExp elt [⟨.Name x px, iter, [], 0⟩] scope gpos] [] pos) (GxR.tAnyS P pb te) := by
  constructor
  intro pins s σ H Q I h
  refine wpAny_Call_Name_kw (ld_blt I hg hm boot_any (PyProof.Rows.callWith_builtin1 ?_ he (by rfl)))
  rw [he]
  show wpAny _ _ (spliced ((false, eval (.GeneratorExp elt [⟨.Name x px, iter, [], 0⟩] scope gpos) X.env) :: backTo pos (starEach [] X.env))) _ _ s
  apply Calls.spliced_cons
  refine gen_strM (R := fun a H1 => ∀ H2, GxR.Tabbed P H1 H2 → Q (.bl (a.cps.toList.any pb)) H2) hr TB hcode S hi hel hs I h ?_
  rintro a H1 g s5 hR ⟨fp, wr, G, F, St, W, hst, htr, hI⟩
  refine Calls.spliced_nil (call_any_walkS (W.self 0 _ _ _ hst ⟨g, fp, wr, G, _, F, St, _, rfl, W, hst, htr, ?_⟩))
  intro s' hmv
  obtain ⟨H2, hT, J⟩ := hI s' hmv
  refine ⟨.bl _, H2, J, rfl, ?_⟩
  rw [GxR.any_signs a pb]
  exact hR H2 hT
end
end Sc
/-! ScUpd: d.update(e) of two dicts with number and text keys. -/
namespace Sc
open PySem PySem.Spec PyProof.Rows L2
def rUpd : V → List V → Hp → VK → Prop := fun x vs H Q => ∃ a b ks ms, x = .ref a ∧ vs = [.ref b] ∧ a ≠ b ∧ H a = some (.dK ks) ∧ H b = some (.dK ms) ∧ ks.length + ms.length ≤ sizeLine ∧ Q .non (L2.upd H a (.dK (mergeK ks ms)))
theorem mt_update {X : Cx} : MtM X "dict.update" rUpd := by
  intro pins s σ H x vs v us Q I rx rv h
  obtain ⟨a, b, ks, ms, rfl, rfl, ne, ea, eb, hz, q⟩ := h
  cases rx
  obtain ⟨u, rfl, ru⟩ := rv.one
  cases ru
  obtain ⟨z, hd, vs, rel, dd⟩ := dk_of I.hok ea
  obtain ⟨z2, hd2, vs2, rel2, dd2⟩ := dk_of I.hok eb
  refine call_meetsIn F.slot_dict_update dd.typeIs F.entry_dict_update (F.args_dict_update_2 _ _) (meets_dict_update (mixKind X.prog X.w) a b ne hd2) ⟨vs, vs2, dd, dd2, by rw [← rel.length, ← rel2.length]; exact hz, fun h' dd' _ hs => ?_⟩
  have he : ∃ q, h'.get? a = some q := let ⟨q, _, _, hq, _⟩ := dd'; ⟨q, hq⟩
  exact ⟨.non, _, d_write (t' := s.toks) I (by rw [ea]; exact True.intro) hs he (dk_new (Nat.le_trans (length_mergeK ms ks) hz) hd (KV.merge rel2 rel) dd'), rfl, q⟩
end Sc
namespace Sc
open PySem PyProof.Rows L2
def top (i : Nat) : Stmt := PySem.Challenge.pw_soothcheck_k52_whole_programs_that_are_r.main.body.getD i (.Pass ⟨0, 0, 0, 0⟩)
abbrev sNeedKind : Stmt := top 9
abbrev sPNeedKindWithin : Stmt := top 10
abbrev sPNeedChoice : Stmt := top 11
abbrev sPNeedFields : Stmt := top 12
abbrev sPNeedLetter : Stmt := top 14
abbrev sIsWord : Stmt := top 15
abbrev sHasWordSigns : Stmt := top 16
abbrev sIsLetter : Stmt := top 17
abbrev sPHasWordLength : Stmt := top 18
abbrev sAreFields : Stmt := top 19
abbrev sNeedProgram : Stmt := top 26
abbrev sPNeedFunction : Stmt := top 27
abbrev sPNeedPairs : Stmt := top 28
abbrev sPNeedPart : Stmt := top 29
abbrev sPFormOf : Stmt := top 30
abbrev sPNeedAllHanded : Stmt := top 31
abbrev sPNeedWithin : Stmt := top 32
abbrev sPNeedWhole : Stmt := top 33
abbrev sPNeedText : Stmt := top 34
abbrev sPNeedKnown : Stmt := top 35
abbrev sPNeedWord : Stmt := top 36
abbrev sPNeedHead : Stmt := top 37
abbrev sPNeedKindHere : Stmt := top 38
abbrev sPNeedParts : Stmt := top 39
abbrev sPNeedHanded : Stmt := top 40
abbrev sPNeedFields2 : Stmt := top 41
abbrev sPNeedToldEarlier : Stmt := top 43
abbrev sPNeedKinds : Stmt := top 44
abbrev sBegin : Stmt := top 47
abbrev sTaken : Stmt := top 48
abbrev sAWord : Stmt := top 49
abbrev sTitle : Stmt := top 50
abbrev sAKind : Stmt := top 51
abbrev sAChoice : Stmt := top 52
abbrev sSomeFields : Stmt := top 53
abbrev sAText : Stmt := top 54
abbrev sRefusal : Stmt := top 55
abbrev sAmiss : Stmt := top 56
abbrev sFormOf : Stmt := top 57
abbrev sLooseKind : Stmt := top 58
abbrev sLoose : Stmt := top 59
abbrev sLoosePieces : Stmt := top 60
abbrev sLooseCall : Stmt := top 61
abbrev sLooseFunction : Stmt := top 62
abbrev sKindBad : Stmt := top 63
abbrev sWrongs : Stmt := top 64
abbrev sWrongsCall : Stmt := top 65
abbrev sWrongsOf : Stmt := top 66
abbrev sLaw : Stmt := top 67
abbrev sPlaceInit : Stmt := inClass (top 25) 0
structure Tx (K : PySem.W.Frag) (mg : Str → Option Value) : Prop where
  need_kind : Def K mg "need_kind" sNeedKind ["kind", "letters"]
  p_need_kind_within : Def K mg "_need_kind_within" sPNeedKindWithin ["kind", "letters", "room"]
  p_need_choice : Def K mg "_need_choice" sPNeedChoice ["choice", "letters", "room"]
  p_need_fields : DefA K mg "need_fields_kinds" "_need_fields" sPNeedFields ["fields", "letters", "room"]
  p_need_letter : Def K mg "_need_letter" sPNeedLetter ["letter", "letters"]
  is_word : Def K mg "is_word" sIsWord ["thing"]
  has_word_signs : Def K mg "has_word_signs" sHasWordSigns ["text"]
  is_letter : Def K mg "is_letter" sIsLetter ["thing"]
  p_has_word_length : Def K mg "_has_word_length" sPHasWordLength ["thing"]
  are_fields : Def K mg "are_fields" sAreFields ["thing"]
  need_program : Def K mg "need_program" sNeedProgram ["program"]
  p_need_function : Def K mg "_need_function" sPNeedFunction ["function", "earlier"]
  p_need_pairs : Def K mg "_need_pairs" sPNeedPairs ["pairs", "may_lead"]
  p_need_part : Def K mg "_need_part" sPNeedPart ["part", "place"]
  p_form_of : Def K mg "_form_of" sPFormOf ["part"]
  p_need_all_handed : Def K mg "_need_all_handed" sPNeedAllHanded ["part", "function"]
  p_need_within : Def K mg "_need_within" sPNeedWithin ["told", "place"]
  p_need_whole : Def K mg "_need_whole" sPNeedWhole ["told", "place"]
  p_need_text : Def K mg "_need_text" sPNeedText ["told", "place"]
  p_need_known : Def K mg "_need_known" sPNeedKnown ["told", "place"]
  p_need_word : Def K mg "_need_word" sPNeedWord ["told", "place"]
  p_need_head : Def K mg "_need_head" sPNeedHead ["told", "place"]
  p_need_kind_here : Def K mg "_need_kind_here" sPNeedKindHere ["told", "place"]
  p_need_parts : Def K mg "_need_parts" sPNeedParts ["told", "place"]
  p_need_handed : Def K mg "_need_handed" sPNeedHanded ["told", "place"]
  p_need_fields2 : Def K mg "_need_fields" sPNeedFields2 ["told", "place"]
  p_need_told_earlier : Def K mg "_need_told_earlier" sPNeedToldEarlier ["told", "place"]
  p_need_kinds : Def K mg "_need_kinds" sPNeedKinds ["told", "place"]
  begin : Def K mg "_law_begin" sBegin ["_law_script"]
  taken : Def K mg "_law_taken" sTaken ["_law_s", "_law_most"]
  a_word : Def K mg "_law_a_word" sAWord ["_law_s", "_law_k"]
  title : Def K mg "_law_title" sTitle ["_law_s", "_law_k"]
  a_kind : Def K mg "_law_a_kind" sAKind ["_law_s", "_law_deep", "_law_letters"]
  a_choice : Def K mg "_law_a_choice" sAChoice ["_law_s", "_law_deep", "_law_letters"]
  some_fields : Def K mg "_law_some_fields" sSomeFields ["_law_s", "_law_deep", "_law_letters"]
  a_text : Def K mg "_law_a_text" sAText ["_law_s"]
  refusal : Def K mg "_law_refusal" sRefusal ["_law_program"]
  amiss : Def K mg "_law_amiss" sAmiss ["_law_s"]
  form_of : Def K mg "_law_form_of" sFormOf ["_law_word"]
  loose_kind : Def K mg "_law_loose_kind" sLooseKind ["_law_s"]
  loose : Def K mg "_law_loose" sLoose ["_law_s", "_law_known", "_law_deep"]
  loose_pieces : Def K mg "_law_loose_pieces" sLoosePieces ["_law_s", "_law_word", "_law_known", "_law_deep"]
  loose_call : Def K mg "_law_loose_call" sLooseCall ["_law_s", "_law_known", "_law_deep"]
  loose_function : Def K mg "_law_loose_function" sLooseFunction ["_law_s", "_law_k"]
  kind_bad : Def K mg "_law_kind_bad" sKindBad ["_law_kind", "_law_letters"]
  wrongs : Def K mg "_law_wrongs" sWrongs ["_law_m", "_law_part", "_law_known"]
  wrongs_call : Def K mg "_law_wrongs_call" sWrongsCall ["_law_m", "_law_part", "_law_known"]
  wrongs_of : Def K mg "_law_wrongs_of" sWrongsOf ["_law_m", "_law_function"]
  m_ValueError : mg "ValueError" = none
  m_abs : mg "abs" = none
  m_all : mg "all" = none
  m_any : mg "any" = none
  m_bool : mg "bool" = none
  m_int : mg "int" = none
  m_isinstance : mg "isinstance" = none
  m_len : mg "len" = none
  m_list : mg "list" = none
  m_ord : mg "ord" = none
  m_range : mg "range" = none
  m_set : mg "set" = none
  m_sorted : mg "sorted" = none
  m_str : mg "str" = none
  m_sum : mg "sum" = none
  m_tuple : mg "tuple" = none
  m_zip : mg "zip" = none
end Sc
namespace Sc
open PySem PyProof.Rows L2
section
variable {P : Program} {w : World} {K : PySem.W.Frag} {mg : Str → Option Value} {base : Heap} {T0 : List Addr}
theorem scHasLen : FnScope ["thing"] ["thing"] (defScope sPHasWordLength) := ⟨rfl, rfl, rfl, by decide +kernel, rfl, by decide +kernel, by decide +kernel⟩
theorem c_has_len (T : Tx K mg) (hl8 : ∃ t, mg "LONGEST_WORD" = some (.int 8 t)) : Cal P w K mg base 1 "_has_word_length" ["thing"] (spTest K T0 lenOkD) := by
  refine T.p_has_word_length.ok scHasLen (fun vs H Q E h => ?_) (fun f cdv A outer s H vs Q E hr h => ?_)
  · obtain ⟨v, d, rfl, _⟩ := h
    rfl
  obtain ⟨v, d, rfl, hd, ok, tb, q⟩ := h
  obtain ⟨t8, m8⟩ := hl8
  refine ⟨_, pss_one (ps_ret (pe_and (pe_callB call_isi (by rfl) T.m_isinstance boot_isinstance (pa_cons (pv 0) (pa_cons (pe_bltn (v := .ty "str") (by rfl) T.m_str boot_str rfl) pa_nil)))
    (pe_one (pe_chain op_le op_le pe_int (pe_callB call_len_str (by rfl) T.m_len PySem.boot_len (pa_cons (pv 0) pa_nil)) (pe_glob (v := .int 8) (by rfl) m8 ⟨_, rfl⟩))))), ?_⟩
  refine ⟨_, rfl, v, _, _, _, _, rfl, .ty _, Dp.ty hd, kit_ty (isStr hd), _, rfl, ?_⟩
  have fin := q H (Fr.refl tb)
  cases hd with
  | str z =>
    refine iteT ⟨_, rfl, z, rfl, ?_, _, _, rfl, rfl, _, rfl, ?_⟩
    · have h2 : decide (z.length ≤ 1000) = true := ok.2
      exact sizeOk (by have := of_decide_eq_true h2; omega)
    · have e1 : decide ((1 : Int) ≤ (z.length : Int)) = decide (1 ≤ z.length) := decide_eq_decide.mpr (by omega)
      have e2 : decide ((z.length : Int) ≤ 8) = decide (z.length ≤ 8) := decide_eq_decide.mpr (by omega)
      have fin' : Q (.bl (decide (1 ≤ z.length) && decide (z.length ≤ 8))) H := fin
      rw [e1]
      cases h1 : decide (1 ≤ z.length) with
      | false =>
        rw [h1, Bool.false_and] at fin'
        exact iteF fin'
      | true =>
        rw [h1, Bool.true_and, ← e2] at fin'
        exact iteT ⟨_, _, rfl, rfl, fin'⟩
  | non => exact iteF fin
  | bl b => exact iteF fin
  | int b => exact iteF fin
  | lst _ _ => exact iteF fin
  | tup _ _ => exact iteF fin
end
end Sc
namespace Sc
open PySem PyProof.Rows L2
section
variable {P : Program} {w : World} {K : PySem.W.Frag} {mg : Str → Option Value} {base : Heap} {T0 : List Addr}
theorem word_iff (z : Str) : decide (Word z) = ((decide (1 ≤ z.length) && decide (z.length ≤ 8)) && z.cps.toList.all fun c => decide (97 ≤ c) && decide (c ≤ 122)) := by
  rw [Bool.eq_iff_iff]
  simp only [Bool.and_eq_true, decide_eq_true_eq, List.all_eq_true]
  exact ⟨fun h => ⟨⟨h.1, h.2.1⟩, h.2.2⟩, fun h => ⟨h.1.1, h.1.2, h.2⟩⟩
theorem lett_iff (z : Str) : decide (Lett z) = ((decide (1 ≤ z.length) && decide (z.length ≤ 8)) && z.cps.toList.all fun c => decide (65 ≤ c) && decide (c ≤ 90)) := by
  rw [Bool.eq_iff_iff]
  simp only [Bool.and_eq_true, decide_eq_true_eq, List.all_eq_true]
  exact ⟨fun h => ⟨⟨h.1, h.2.1⟩, h.2.2⟩, fun h => ⟨h.1.1, h.1.2, h.2⟩⟩
theorem scIsWord : FnScope ["thing"] ["thing"] (defScope sIsWord) := ⟨rfl, rfl, rfl, by decide +kernel, rfl, by decide +kernel, by decide +kernel⟩
theorem scIsLetter : FnScope ["thing"] ["thing"] (defScope sIsLetter) := ⟨rfl, rfl, rfl, by decide +kernel, rfl, by decide +kernel, by decide +kernel⟩
def spSigns (T : List Addr) : Sp := fun vs H Q _ => ∃ z : Str, vs = [.str z] ∧ Tb T H ∧ ∀ (H' : Hp), Fr T H H' → Q (.bl (z.cps.toList.all fun c => decide (97 ≤ c) && decide (c ≤ 122))) H'
theorem scWordSigns : FnScope ["text"] ["text"] (defScope sHasWordSigns) := ⟨rfl, rfl, rfl, by decide +kernel, rfl, by decide +kernel, by decide +kernel⟩
theorem c_word_signs {c Pa : Addr} (T : Tx K mg) (D : DefT K mg "has_word_signs" sHasWordSigns ["text"] c) (TB : GxR.TabB base mg c Pa) (hP : Pa ∈ T0) : Cal P w K mg base 1 "has_word_signs" ["text"] (spSigns T0) := by
  refine D.ok scWordSigns (fun vs H Q E h => ?_) (fun f A outer s H vs Q E hr h => ?_)
  · obtain ⟨z, rfl, _⟩ := h
    rfl
  obtain ⟨z, rfl, tb, q⟩ := h
  refine ⟨_, pss_one (ps_ret (GxR.pe_allS hr (by rfl) T.m_all (by decide +kernel) TB (by rfl) (gen_by (by decide +kernel)) (pv 0) (elt_between (a := 97) (b := 122) (by rfl) (by rfl)) (fun _ => rfl))), ?_⟩
  obtain ⟨ps, g, tr⟩ := tb Pa hP
  exact ⟨_, rfl, z, rfl, ⟨ps, g, tr⟩, fun H2 t2 => q H2 (Fr.tabbed tb t2 hP)⟩
theorem c_is_word (T : Tx K mg) (CS : Cal P w K mg base 1 "has_word_signs" ["text"] (spSigns T0)) (hl8 : ∃ t, mg "LONGEST_WORD" = some (.int 8 t)) : Cal P w K mg base 2 "is_word" ["thing"] (spTest K T0 isWordD) := by
  have CL : Cal P w K mg base 1 "_has_word_length" ["thing"] (spTest K T0 lenOkD) := c_has_len T hl8
  refine T.is_word.ok scIsWord (fun vs H Q E h => ?_) (fun f cdv A outer s H vs Q E hr h => ?_)
  · obtain ⟨v, d, rfl, _⟩ := h
    rfl
  obtain ⟨v, d, rfl, hd, ok, tb, q⟩ := h
  refine ⟨_, pss_one (ps_ret (pe_and (pe_cal CL hr (pa_cons (pv 0) pa_nil)) (pe_one (pe_cal CS hr (pa_cons (pv 0) pa_nil))))), ?_⟩
  refine ⟨_, rfl, v, d, rfl, hd, ok, tb, fun H1 f1 => ⟨_, rfl, ?_⟩⟩
  cases h1 : lenOkD d with
  | false =>
    have e : isWordD d = false := by
      cases d with
      | str z =>
        show decide (Word z) = false
        rw [word_iff, show (decide (1 ≤ z.length) && decide (z.length ≤ 8)) = false from h1, Bool.false_and]
      | _ => rfl
    have fin := q H1 f1
    rw [e] at fin
    exact iteF fin
  | true =>
    cases hd with
    | str z =>
      refine iteT ⟨_, rfl, z, rfl, f1.tab, fun H2 f2 => ?_⟩
      have fin := q H2 (f1.trans f2)
      have e : isWordD (.str z) = z.cps.toList.all fun c => decide (97 ≤ c) && decide (c ≤ 122) := by
        show decide (Word z) = _
        rw [word_iff, show (decide (1 ≤ z.length) && decide (z.length ≤ 8)) = true from h1, Bool.true_and]
      rw [e] at fin
      exact fin
    | non => cases h1
    | bl _ => cases h1
    | int _ => cases h1
    | lst _ _ => cases h1
    | tup _ _ => cases h1
theorem c_is_letter {c Pa : Addr} (T : Tx K mg) (D : DefT K mg "is_letter" sIsLetter ["thing"] c) (TB : GxR.TabB base mg c Pa) (hP : Pa ∈ T0) (hl8 : ∃ t, mg "LONGEST_WORD" = some (.int 8 t)) : Cal P w K mg base 2 "is_letter" ["thing"] (spTest K T0 isLettD) := by
  have CL : Cal P w K mg base 1 "_has_word_length" ["thing"] (spTest K T0 lenOkD) := c_has_len T hl8
  refine D.ok scIsLetter (fun vs H Q E h => ?_) (fun f A outer s H vs Q E hr h => ?_)
  · obtain ⟨v, d, rfl, _⟩ := h
    rfl
  obtain ⟨v, d, rfl, hd, ok, tb, q⟩ := h
  refine ⟨_, pss_one (ps_ret (pe_and (pe_cal CL hr (pa_cons (pv 0) pa_nil)) (pe_one (GxR.pe_allS hr (by rfl) T.m_all (by decide +kernel) TB (by rfl) (gen_by (by decide +kernel)) (pv 0) (elt_between (a := 65) (b := 90) (by rfl) (by rfl)) (fun _ => rfl))))), ?_⟩
  refine ⟨_, rfl, v, d, rfl, hd, ok, tb, fun H1 f1 => ⟨_, rfl, ?_⟩⟩
  cases h1 : lenOkD d with
  | false =>
    have e : isLettD d = false := by
      cases d with
      | str z =>
        show decide (Lett z) = false
        rw [lett_iff, show (decide (1 ≤ z.length) && decide (z.length ≤ 8)) = false from h1, Bool.false_and]
      | _ => rfl
    have fin := q H1 f1
    rw [e] at fin
    exact iteF fin
  | true =>
    cases hd with
    | str z =>
      obtain ⟨ps, g, tr⟩ := f1.tab Pa hP
      refine iteT ⟨_, rfl, z, rfl, ⟨ps, g, tr⟩, fun H2 t2 => ?_⟩
      have fin := q H2 (f1.trans (Fr.tabbed f1.tab t2 hP))
      have e : isLettD (.str z) = z.cps.toList.all fun c => decide (65 ≤ c) && decide (c ≤ 90) := by
        show decide (Lett z) = _
        rw [lett_iff, show (decide (1 ≤ z.length) && decide (z.length ≤ 8)) = true from h1, Bool.true_and]
      rw [e] at fin
      exact fin
    | non => cases h1
    | bl _ => cases h1
    | int _ => cases h1
    | lst _ _ => cases h1
    | tup _ _ => cases h1
end
end Sc
namespace Sc
open PySem PyProof.Rows L2
section
variable {P : Program} {w : World} {K : PySem.W.Frag} {mg : Str → Option Value} {base : Heap} {T0 : List Addr}
theorem scAreFields : FnScope ["thing", "pair", "fields"] ["thing"] (defScope sAreFields) := ⟨rfl, rfl, rfl, by decide +kernel, rfl, by decide +kernel, by decide +kernel⟩
theorem c_are_fields (T : Tx K mg) : Cal P w K mg base 1 "are_fields" ["thing"] (spTest K T0 fldD) := by
  refine T.are_fields.ok scAreFields (fun vs H Q E h => ?_) (fun f cdv A outer s H vs Q E hr h => ?_)
  · obtain ⟨v, d, rfl, _⟩ := h
    rfl
  obtain ⟨v, d, rfl, hd, ok, tb, q⟩ := h
  have hu := hr.units
  refine ⟨_, pss_cons (ps_if (PW.pt (pw_or (pt_not (pt_val (pe_callB call_isi (by rfl) T.m_isinstance boot_isinstance (pa_cons (pv 0) (pa_cons (pe_bltn (v := .ty "tuple") (by rfl) T.m_tuple boot_tuple rfl) pa_nil)))))
        (pw_or1 (pt_cmpR op_eq (pe_callB call_len_seq (by rfl) T.m_len PySem.boot_len (pa_cons (pv 0) pa_nil)) pe_int (nomark _))))) (pss_one (ps_ret pe_bl)) pss_nil)
    (pss_cons (ps_for PassesOwn.never rfl (pi_tup (pv 0)) (pg_name (i := 1) scAreFields.nd rfl (Or.inl rfl))
      (pss_one (ps_if (PW.pt (pw_or (pt_not (pt_val (pe_callB call_isi (by rfl) T.m_isinstance boot_isinstance (pa_cons (pv 1) (pa_cons (pe_bltn (v := .ty "tuple") (by rfl) T.m_tuple boot_tuple rfl) pa_nil)))))
        (pw_or (pt_cmpR op_ne (pe_callB call_len_seq (by rfl) T.m_len PySem.boot_len (pa_cons (pv 1) pa_nil)) pe_int (nomark _))
        (pw_or1 (pt_not (pt_val (pe_callB call_isi (by rfl) T.m_isinstance boot_isinstance (pa_cons (pe_ix ix_tup (pv 1) pe_int (fun _ _ => rfl)) (pa_cons (pe_bltn (v := .ty "str") (by rfl) T.m_str boot_str rfl) pa_nil)))))))))
        (pss_one (ps_ret pe_bl)) pss_nil)))
    (pss_cons (ps_setLc (i := 2) (own := [("pair", 1)]) (g := gName 1) (tt := tYes) rfl scAreFields.nd rfl rfl (sw_true rfl rfl rfl (by decide +kernel)) (pi_tup (pv 0)) (blkOk_by (N := ["thing", "pair", "fields"]) (sc := defScope sAreFields) (by decide +kernel))
        (fun _ _ _ _ _ => pg_name (i := 1) scAreFields.nd rfl (Or.inl rfl)) (fun _ _ _ _ _ => pts_nil) (fun _ _ _ _ _ => pe_ix (ix_tupK K) (pv 1) pe_int (fun _ _ => rfl)))
    (pss_one (ps_ret (pe_cmpR (op_eqD hu) (pv 2) (pe_callB (cr_txSorted rfl) (by rfl) T.m_sorted (by decide +kernel) (pa_cons (pe_callTy (cr_txSet rfl) (by rfl) T.m_set (by decide +kernel) (pa_cons (pv 2) pa_nil)) pa_nil)) (nomark _)))))), ?_⟩
  dsimp only [gName]
  have neg : fldD d = false → Q (.bl false) H := fun e => by
    have fin := q H (Fr.refl tb)
    rw [e] at fin
    exact fin
  show tOr _ _ _ _ _
  have ty := Dp.ty hd
  have it := isTup hd
  have dp := hd
  cases hd with
  | tup ht hds =>
    rename_i a vs ds
    obtain ⟨len, okx⟩ := ok.sub
    have lv := DpAll.len hds
    refine or_pure false (decide (vs.length = 0)) (fun R h => ⟨_, rfl, _, _, _, _, _, rfl, .ty _, ty, kit_ty it, _, rfl, h⟩) (fun _ R h => ⟨_, rfl, a, vs, rfl, .inr ht, rfl, _, rfl, ?_⟩) (fun h => ?_) (fun _ h => ?_)
    · rw [eqV_int, decide_eq_decide.mpr (show ((vs.length : Nat) : Int) = 0 ↔ vs.length = 0 by omega)]
      exact h
    · have z : vs.length = 0 := of_decide_eq_true (h.elim (fun z => by cases z) id)
      have z2 : ds = [] := List.length_eq_zero_iff.mp (lv.symm.trans z)
      exact neg (by rw [z2]; rfl)
    have n0 : vs.length ≠ 0 := of_decide_eq_false h
    have d0 : ds ≠ [] := fun z => n0 (by rw [lv, z]; rfl)
    refine ⟨_, rfl, a, rfl, ⟨_, ht⟩, ?_⟩
    refine for_tup (K := K) (a := a) (xs := vs) (fun j σ2 H2 => H2 = H ∧ (∃ o, σ2 = [some (.ref a), o, none]) ∧ (ds.take j).all pairD = true) ⟨rfl, ⟨_, rfl⟩, rfl⟩ (fun j σ2 H2 _ h => by rw [h.1]; exact ht) ?_ ?_
    · rintro j x σ2 H2 hx ⟨rfl, ⟨o, rfl⟩, hp⟩
      obtain ⟨d, hd1, hd2⟩ := DpAll.get hds hx
      have md := List.mem_of_getElem? hd1
      have negd : pairD d = false → Q (.bl false) H2 := fun e => neg (by
        have z : ds.all pairD = false := Bool.eq_false_iff.mpr fun z => by
          have := List.all_eq_true.mp z d md
          rw [e] at this
          cases this
        show (!ds.isEmpty && ds.all pairD && _) = false
        rw [z, Bool.and_false, Bool.false_and])
      dsimp only [gName]
      show tOr _ _ _ _ _
      have ty := Dp.ty hd2
      have it := isTup hd2
      have next : pairD d = true → H2 = H2 ∧ (∃ o, (([some (.ref a), o, none] : L2.St).set 1 (some x)) = [some (.ref a), o, none]) ∧ (ds.take (j + 1)).all pairD = true := fun e =>
        ⟨rfl, ⟨_, rfl⟩, by rw [List.take_add_one, hd1, List.all_append, hp]; simp [e]⟩
      cases hd2 with
      | tup ht2 hds2 =>
        rename_i a2 vs2 ds2
        have lv2 := DpAll.len hds2
        refine or_pure false (!pairD (.tuple ds2)) (fun R h => ⟨_, rfl, _, _, _, _, _, rfl, .ty _, ty, kit_ty it, _, rfl, h⟩) (fun _ R hR => ?_) (fun h => ?_) (fun _ h => ?_)
        · show tOr _ _ _ _ _
          refine or_pure (decide (¬ vs2.length = 2)) (!pairD (.tuple ds2)) (fun R h => ⟨_, rfl, a2, vs2, rfl, .inr ht2, rfl, _, rfl, ?_⟩) (fun e R h => ?_) (fun h => ?_) (fun _ h => ?_)
          · rw [eqV_int, decide_eq_decide.mpr (show ((vs2.length : Nat) : Int) = 2 ↔ vs2.length = 2 by omega), ← decide_not]
            exact h
          · have two : vs2.length = 2 := Classical.byContradiction fun z => by rw [decide_eq_true z] at e; cases e
            obtain ⟨x1, x2, d1, d2, rfl, rfl, h1, h2⟩ := two_open hds2 two
            rw [pair_two] at h
            exact ⟨_, rfl, a2, _, _, _, rfl, rfl, ht2, rfl, _, _, _, _, _, rfl, .ty _, Dp.ty h1, kit_ty (isStr h1), _, rfl, h⟩
          · have e5 : pairD (.tuple ds2) = false := h.elim (fun z => pair_len (by rw [← lv2]; exact of_decide_eq_true z)) (fun z => by simpa using z)
            rw [e5] at hR
            exact hR
          · rw [h] at hR
            exact hR
        · exact negd (by simpa using h.elim (fun z => by cases z) id)
        · exact next (by simpa using h)
      | str _ => exact or_pure true true (fun R h => ⟨_, rfl, _, _, _, _, _, rfl, .ty _, ty, kit_ty it, _, rfl, h⟩) (fun h => by cases h) (fun _ => negd rfl) (fun h => by cases h)
      | non => exact or_pure true true (fun R h => ⟨_, rfl, _, _, _, _, _, rfl, .ty _, ty, kit_ty it, _, rfl, h⟩) (fun h => by cases h) (fun _ => negd rfl) (fun h => by cases h)
      | bl b => exact or_pure true true (fun R h => ⟨_, rfl, _, _, _, _, _, rfl, .ty _, ty, kit_ty it, _, rfl, h⟩) (fun h => by cases h) (fun _ => negd rfl) (fun h => by cases h)
      | int b => exact or_pure true true (fun R h => ⟨_, rfl, _, _, _, _, _, rfl, .ty _, ty, kit_ty it, _, rfl, h⟩) (fun h => by cases h) (fun _ => negd rfl) (fun h => by cases h)
      | lst _ _ => exact or_pure true true (fun R h => ⟨_, rfl, _, _, _, _, _, rfl, .ty _, ty, kit_ty it, _, rfl, h⟩) (fun h => by cases h) (fun _ => negd rfl) (fun h => by cases h)
    · rintro σ2 H2 ⟨rfl, ⟨o, rfl⟩, hp⟩
      rw [lv, List.take_length] at hp
      have fields : ∀ {j : Nat} {x : V}, vs[j]? = some x → ∃ (a2 : Addr) (x1 x2 : V) (d2 : PyData) (z : Str), x = .ref a2 ∧ SqT K H2 a2 [x1, x2] ∧ x1 = .str z ∧ ds[j]? = some (.tuple [.str z, d2]) ∧ (ds.map nameD)[j]? = some z := fun {j x} hx => by
        obtain ⟨d, hd1, hd2⟩ := DpAll.get hds hx
        have pd := List.all_eq_true.mp hp d (List.mem_of_getElem? hd1)
        cases hd2 with
        | tup ht2 hds2 =>
          rename_i a2 vs2 ds2
          have two : vs2.length = 2 := Classical.byContradiction fun z => by rw [pair_len (by rw [← DpAll.len hds2]; exact z)] at pd; cases pd
          obtain ⟨x1, x2, d1, d2, rfl, rfl, h1, h2⟩ := two_open hds2 two
          cases h1 with
          | str z => exact ⟨a2, _, _, d2, z, rfl, ht2, rfl, hd1, by rw [List.getElem?_map, hd1]; rfl⟩
          | non => cases pd
          | bl _ => cases pd
          | int _ => cases pd
          | lst _ _ => cases pd
          | tup _ _ => cases pd
        | str _ => cases pd
        | non => cases pd
        | bl _ => cases pd
        | int _ => cases pd
        | lst _ _ => cases pd
      refine ⟨_, rfl, a, rfl, ⟨_, ht⟩, fun D hD => ?_⟩
      refine lc_tup (K := K) (a := a) (xs := vs) (fun j H3 => Same H2 H3 ∧ H3 D = some (.lst (((ds.map nameD).take j).map V.str))) ⟨same_new hD _, upd_same⟩ (fun j H3 _ h => (Same.keep h.1) _ _ ht) ?_ ?_
      · rintro j x H3 hx ⟨e3, h3⟩
        obtain ⟨a2, x1, x2, d2, z, rfl, ht2, rfl, hd1, hz⟩ := fields hx
        refine ⟨rfl, _, rfl, a2, _, _, _, rfl, rfl, (Same.keep e3) _ _ ht2, rfl, _, h3, ?_, fun b o hb => ?_, ?_⟩
        · rw [List.length_map]
          exact small1000 (Nat.le_trans (List.length_take_le' _ _) (by rw [List.length_map]; omega))
        · rw [upd_ne (ne_of_none hb hD)]
          exact e3 b o hb
        · rw [upd_same, List.take_add_one, hz, List.map_append]
          rfl
      rintro H3 ⟨e3, h3⟩
      rw [lv, List.take_of_length_le (by rw [List.length_map]; exact Nat.le_refl _)] at h3
      have zl : (ds.map nameD).length ≤ 60 := by rw [List.length_map]; exact len
      have zk : ∀ z ∈ ds.map nameD, PyData.canLay0 (.str z) = true := fun z hz => by
        obtain ⟨d, md, rfl⟩ := List.mem_map.mp hz
        have pd := List.all_eq_true.mp hp d md
        have l := SeqAt.canLay_of_shaped (okx d md).1
        match d, pd, l with
        | .tuple [.str y, e], _, l =>
          have l' : (PyData.canLay0 (.str y) && PyData.canLayAll0 [e]) = true := l
          exact (Bool.and_eq_true_iff.mp l').1
      have res : fldD (.tuple ds) = ascB (ds.map nameD) := by
        show (!ds.isEmpty && ds.all pairD && ascB (ds.map nameD)) = _
        rw [hp, show ds.isEmpty = false from by cases ds with | nil => exact absurd rfl d0 | cons _ _ => rfl]
        rfl
      generalize ds.map nameD = zs at h3 zl zk res
      refine ⟨_, rfl, _, rfl, D, zs, rfl, SqL.of h3, by omega, fun t m ht0 hm => ⟨t, _, m, rfl, upd_same, by omega, fun ys p so nd mem ln hp0 => ?_⟩⟩
      have mem' : ∀ x, x ∈ ys ↔ x ∈ zs := fun x => (mem x).trans decide_eq_true_iff
      generalize TxO _ t (fun y => decide (y ∈ zs)) m = o3 at hp0 ⊢
      have e5 := (same_new ht0 o3).trans (same_new hp0 (.lst (ys.map V.str)))
      refine ⟨.list (zs.map .str), .list (ys.map .str), .lst (SqL.of (e5 _ _ h3)) (dp_strs zs), .lst (SqL.of upd_same) (dp_strs ys), shaped_strs zk, shaped_strs fun z hz => zk z ((mem' z).mp hz), ?_⟩
      have fin := q _ ((Fr.same tb e3).trans (Fr.same (Fr.same tb e3).tab e5))
      rw [res, ← asc_eq so nd mem', ← eqv_strs] at fin
      exact fin
  | str _ => exact or_pure true true (fun R h => ⟨_, rfl, _, _, _, _, _, rfl, .ty _, ty, kit_ty it, _, rfl, h⟩) (fun h => by cases h) (fun _ => neg rfl) (fun h => by cases h)
  | non => exact or_pure true true (fun R h => ⟨_, rfl, _, _, _, _, _, rfl, .ty _, ty, kit_ty it, _, rfl, h⟩) (fun h => by cases h) (fun _ => neg rfl) (fun h => by cases h)
  | bl b => exact or_pure true true (fun R h => ⟨_, rfl, _, _, _, _, _, rfl, .ty _, ty, kit_ty it, _, rfl, h⟩) (fun h => by cases h) (fun _ => neg rfl) (fun h => by cases h)
  | int b => exact or_pure true true (fun R h => ⟨_, rfl, _, _, _, _, _, rfl, .ty _, ty, kit_ty it, _, rfl, h⟩) (fun h => by cases h) (fun _ => neg rfl) (fun h => by cases h)
  | lst _ _ => exact or_pure true true (fun R h => ⟨_, rfl, _, _, _, _, _, rfl, .ty _, ty, kit_ty it, _, rfl, h⟩) (fun h => by cases h) (fun _ => neg rfl) (fun h => by cases h)
end
end Sc
namespace Sc
open PySem PyProof.Rows L2
theorem len_app (x y : Str) : (x ++ y).length = x.length + y.length := by rw [len_list, len_list x, len_list y, app_list, List.length_append]
section
variable {P : Program} {w : World} {K : PySem.W.Frag} {mg : Str → Option Value} {base : Heap} {T0 : List Addr} {CB : Addr}
theorem scNeedLetter : FnScope ["letter", "letters"] ["letter", "letters"] (defScope sPNeedLetter) := ⟨rfl, rfl, rfl, by decide +kernel, rfl, by decide +kernel, by decide +kernel⟩
theorem c_need_letter (T : Tx K mg) (B : Ec K mg "BadKind" CB) (CL : Cal P w K mg base 2 "is_letter" ["thing"] (spTest K T0 isLettD)) (hl8 : ∃ t, mg "LONGEST_WORD" = some (.int 8 t)) : CalX P w K mg base 3 "_need_letter" ["letter", "letters"] (spNeed K T0 CB [] letD) := by
  refine T.p_need_letter.okX scNeedLetter (fun vs H Q E h => ?_) (fun f cdv A outer s H vs Q E hr h => ?_)
  · obtain ⟨ls, v, d, la, rfl, _⟩ := h
    rfl
  obtain ⟨ls, v, d, la, rfl, hd, ok, tb, hla, q1, q2⟩ := h
  obtain ⟨t8, m8⟩ := hl8
  refine ⟨_, pss_cons (ps_if (pt_not (pt_val (pe_cal CL hr (pa_cons (pv 0) pa_nil))))
      (pss_one (ps_raise rfl (takes_of rfl rfl rfl rfl) (SkE.pmk_own1 PySem.F.excBase_ValueError B.q B.g B.k (raises_own B.b B.t) (by exact rfl) (pe_fs (.cons pe_str (.cons (pe_fmt (pe_glob (v := .int 8) (by rfl) m8 ⟨_, rfl⟩)) (.cons pe_str .nil))))))) pss_nil)
    (pss_one (ps_if (pt_cmpR op_notIn_seq (pv 0) (pv 1) (by rfl))
      (pss_one (ps_raise rfl (takes_of rfl rfl rfl rfl) (SkE.pmk_own1 PySem.F.excBase_ValueError B.q B.g B.k (raises_own B.b B.t) (by exact rfl) (pe_fs (.cons pe_str (.cons (pe_fmt (pv 0)) (.cons pe_str .nil))))))) pss_nil)), ?_⟩
  refine ⟨_, rfl, v, d, rfl, hd, ok, tb, fun H1 f1 => ⟨_, rfl, ?_⟩⟩
  cases h1 : isLettD d with
  | false =>
    refine ⟨_, rfl, by decide +kernel, .inr ⟨8, rfl, by decide, _, rfl, by decide +kernel, _, rfl, by decide +kernel, ?_⟩⟩
    exact q2 (by cases d with | str z => show (isLettD (.str z) && _) = false; rw [h1]; rfl | _ => rfl) H1 f1
  | true =>
    cases hd with
    | str z =>
      have hla1 := (Fr.keep tb f1).2 _ _ hla
      refine ⟨_, rfl, _, rfl, la, _, rfl, .inr hla1, rfl, flat_strs ls, ?_⟩
      rw [in_strs]
      have z8 : z.length ≤ 8 := (of_decide_eq_true (show decide (Lett z) = true from h1)).2.1
      have e : letD ls (.str z) = decide (z ∈ ls) := by show (isLettD (.str z) && decide (z ∈ ls)) = _; rw [h1, Bool.true_and]
      cases h2 : decide (z ∈ ls) with
      | true =>
        exact ⟨_, rfl, q1 (by rw [e, h2]) H1 f1⟩
      | false =>
        refine ⟨_, rfl, _, rfl, by decide +kernel, _, rfl, .inl ⟨z, rfl, sizeOk (by omega), _, rfl, ?_, _, rfl, ?_, ?_⟩⟩
        · rw [len_app]
          have : (Str.empty ++ "the letter " : Str).length ≤ 100 := by decide +kernel
          exact sizeOk (by omega)
        · rw [len_app, len_app]
          have : (Str.empty ++ "the letter " : Str).length ≤ 100 := by decide +kernel
          have : (" is not among the told ones" : Str).length ≤ 100 := by decide +kernel
          exact sizeOk (by omega)
        · exact q2 (by rw [e, h2]) H1 f1
    | non => cases h1
    | bl _ => cases h1
    | int _ => cases h1
    | lst _ _ => cases h1
    | tup _ _ => cases h1
end
end Sc
namespace Sc
open PySem PyProof.Rows L2
section
variable {P : Program} {w : World} {K : PySem.W.Frag} {mg : Str → Option Value} {base : Heap} {T0 : List Addr} {CB : Addr}
theorem scNeedFields : FnScope ["fields", "letters", "room", "field", "kind"] ["fields", "letters", "room"] (defScope sPNeedFields) := ⟨rfl, rfl, rfl, by decide +kernel, rfl, by decide +kernel, by decide +kernel⟩
theorem c_need_fields {lv : Nat} {r : Int} {g : List Str → PyData → Bool} (T : Tx K mg) (B : Ec K mg "BadKind" CB) (lv2 : 2 ≤ lv) (CW : Cal P w K mg base 2 "is_word" ["thing"] (spTest K T0 isWordD)) (CF : Cal P w K mg base 1 "are_fields" ["thing"] (spTest K T0 fldD))
    (CK : CalX P w K mg base lv "_need_kind_within" ["kind", "letters", "room"] (spNeed K T0 CB [.int r] g)) (hl8 : ∃ t, mg "LONGEST_WORD" = some (.int 8 t)) :
    CalX P w K mg base (lv + 1) "need_fields_kinds" ["fields", "letters", "room"] (spNeed K T0 CB [.int r] (fun ls => gFl (g ls))) := by
  refine T.p_need_fields.okX scNeedFields (fun vs H Q E h => ?_) (fun f cdv A outer s H vs Q E hr h => ?_)
  · obtain ⟨ls, v, d, la, rfl, _⟩ := h
    rfl
  obtain ⟨ls, v, d, la, rfl, hd, ok, tb, hla, q1, q2⟩ := h
  dsimp only at q1 q2
  obtain ⟨t8, m8⟩ := hl8
  have r1 : Room 1 _ := hr.mono (by omega)
  have r2 : Room 2 _ := hr.mono lv2
  refine ⟨_, pss_cons (ps_if (pt_not (pt_val (pe_cal CF r1 (pa_cons (pv 0) pa_nil))))
      (pss_one (ps_raise rfl (takes_of rfl rfl rfl rfl) (pmk_own PySem.F.excBase_ValueError B.q B.g B.k (raises_own B.b B.t) (by exact rfl)))) pss_nil)
    (pss_one (ps_for (passes_of rfl) rfl (pi_tup (pv 0)) (pg_tup (by rfl) (pgs_cons (pg_name (i := 3) scNeedFields.nd rfl (Or.inl rfl)) (pgs_cons (pg_name (i := 4) scNeedFields.nd rfl (Or.inl rfl)) pgs_nil)))
      (pss_cons (ps_if (pt_not (pt_val (pe_cal CW r2 (pa_cons (pv 3) pa_nil))))
        (pss_one (ps_raise rfl (takes_of rfl rfl rfl rfl) (SkE.pmk_own1 PySem.F.excBase_ValueError B.q B.g B.k (raises_own B.b B.t) (by exact rfl) (pe_fs (.cons pe_str (.cons (pe_fmt (pe_glob (v := .int 8) (by rfl) m8 ⟨_, rfl⟩)) (.cons pe_str .nil))))))) pss_nil)
      (pss_one (ps_expr (pe_calX CK hr (passes_call (takes_of rfl rfl rfl rfl) (fun _ _ _ _ h => h)) (pa_cons (pv 4) (pa_cons (pv 1) (pa_cons (pv 2) pa_nil))))))))), ?_⟩
  refine ⟨_, rfl, v, d, rfl, hd, ok, tb, fun H1 f1 => ⟨_, rfl, ?_⟩⟩
  cases h1 : fldD d with
  | false => exact q2 (by cases d with | tuple ds => show (fldD (.tuple ds) && _) = false; rw [h1]; rfl | _ => rfl) H1 f1
  | true =>
    cases hd with
    | tup ht hds =>
      rename_i a vs ds
      obtain ⟨len, okx⟩ := ok.sub
      have lv0 := DpAll.len hds
      have hp : ds.all pairD = true := by
        have h' : (!ds.isEmpty && ds.all pairD && ascB (ds.map nameD)) = true := h1
        rw [Bool.and_eq_true, Bool.and_eq_true] at h'
        exact h'.1.2
      have eg : gFl (g ls) (.tuple ds) = ds.all (gPr (g ls)) := by show (fldD (.tuple ds) && ds.all (gPr (g ls))) = _; rw [h1, Bool.true_and]
      refine ⟨_, rfl, a, rfl, ⟨_, (Fr.keep tb f1).2 _ _ ht⟩, ?_⟩
      refine for_tup (K := K) (a := a) (xs := vs) (fun j σ2 H2 => Fr T0 H H2 ∧ (∃ o1 o2, σ2 = [some (.ref a), some (.ref la), some (.int r), o1, o2]) ∧ (ds.take j).all (gPr (g ls)) = true) ⟨f1, ⟨_, _, rfl⟩, rfl⟩ (fun j σ2 H2 _ h => (Fr.keep tb h.1).2 _ _ ht) ?_ ?_
      · rintro j x σ2 H2 hx ⟨f2, ⟨o1, o2, rfl⟩, hq⟩
        obtain ⟨d, hd1, hd2⟩ := DpAll.get hds hx
        have md := List.mem_of_getElem? hd1
        have pd := List.all_eq_true.mp hp d md
        have okd := okx d md
        have bad : gPr (g ls) d = false → ∀ H' : Hp, Fr T0 H H' → E (.ref CB) none H' := fun e => q2 (by
          rw [eg]
          refine Bool.eq_false_iff.mpr fun z => ?_
          have := List.all_eq_true.mp z d md
          rw [e] at this
          cases this)
        have good : gPr (g ls) d = true → (ds.take (j + 1)).all (gPr (g ls)) = true := fun e => by rw [List.take_add_one, hd1, List.all_append, hq]; simp [e]
        cases hd2 with
        | tup ht2 hds2 =>
          rename_i a2 vs2 ds2
          have two : vs2.length = 2 := Classical.byContradiction fun z => by rw [pair_len (by rw [← DpAll.len hds2]; exact z)] at pd; cases pd
          obtain ⟨x1, x2, d1, d2, rfl, rfl, h3, h4⟩ := two_open hds2 two
          have ok1 := okd.sub.2 d1 List.mem_cons_self
          have ok2 := okd.sub.2 d2 (List.mem_cons_of_mem _ List.mem_cons_self)
          refine ⟨a2, _, rfl, (Fr.keep tb f2).2 _ _ ht2, rfl, ?_⟩
          refine ⟨_, _, rfl, _, _, rfl, rfl, ?_⟩
          refine ⟨_, rfl, x1, d1, rfl, KeepL.dp (Fr.keep tb f2) h3, ok1, f2.tab, fun H3 f3 => ⟨_, rfl, ?_⟩⟩
          have f03 := f2.trans f3
          cases h5 : isWordD d1 with
          | false =>
            refine ⟨_, rfl, by decide +kernel, .inr ⟨8, rfl, by decide, _, rfl, by decide +kernel, _, rfl, by decide +kernel, ?_⟩⟩
            exact bad (by show (isWordD d1 && g ls d2) = false; rw [h5]; rfl) H3 f03
          | true =>
            refine ⟨_, rfl, _, rfl, _, rfl, ls, x2, d2, la, rfl, KeepL.dp (Fr.keep tb f03) h4, ok2, f03.tab, (Fr.keep tb f03).2 _ _ hla, fun e H4 f4 => ?_, fun e H4 f4 => ?_⟩
            · exact ⟨f03.trans f4, ⟨_, _, rfl⟩, good (by show (isWordD d1 && g ls d2) = true; rw [h5, e]; rfl)⟩
            · exact bad (by show (isWordD d1 && g ls d2) = false; rw [e, Bool.and_false]) H4 (f03.trans f4)
        | str _ => cases pd
        | non => cases pd
        | bl _ => cases pd
        | int _ => cases pd
        | lst _ _ => cases pd
      · rintro σ2 H2 ⟨f2, ⟨o1, o2, rfl⟩, hq⟩
        rw [lv0, List.take_length] at hq
        exact q1 (by rw [eg, hq]) H2 f2
    | str _ => cases h1
    | non => cases h1
    | bl _ => cases h1
    | int _ => cases h1
    | lst _ _ => cases h1
end
end Sc
namespace Sc
open PySem PyProof.Rows L2
theorem eqv_one (d : PyData) (w : Str) : PyData.eqv d (.tuple [.str w]) = true ↔ d = .tuple [.str w] := by
  constructor
  · intro h
    match d, h with
    | .tuple [.str z], h =>
      have h' : ((z == w) && true) = true := by simpa [PyData.eqv, PyData.eqvAll] using h
      rw [Bool.and_true, beq_iff_eq] at h'
      rw [h']
    | .tuple [], h => simp [PyData.eqv, PyData.eqvAll] at h
    | .tuple (_ :: _ :: _), h => simp [PyData.eqv, PyData.eqvAll] at h
    | .tuple [.none], h => simp [PyData.eqv, PyData.eqvAll] at h
    | .tuple [.bool _], h => simp [PyData.eqv, PyData.eqvAll] at h
    | .tuple [.int _], h => simp [PyData.eqv, PyData.eqvAll] at h
    | .tuple [.list _], h => simp [PyData.eqv, PyData.eqvAll] at h
    | .tuple [.tuple _], h => simp [PyData.eqv, PyData.eqvAll] at h
    | .tuple [.dict _], h => simp [PyData.eqv, PyData.eqvAll] at h
    | .none, h => simp [PyData.eqv] at h
    | .bool _, h => simp [PyData.eqv] at h
    | .int _, h => simp [PyData.eqv] at h
    | .str _, h => simp [PyData.eqv] at h
    | .list _, h => simp [PyData.eqv] at h
    | .dict _, h => simp [PyData.eqv] at h
  · rintro rfl
    simp [PyData.eqv, PyData.eqvAll]
theorem eqv_word (d : PyData) (w : Str) : PyData.eqv d (.str w) = true ↔ d = .str w := by
  cases d <;> simp [PyData.eqv]
theorem gCh_len {ls : List Str} {g : PyData → Bool} : ∀ {ds : List PyData}, ds.length ≠ 2 → PyData.tuple ds ≠ .tuple [.str "number"] → PyData.tuple ds ≠ .tuple [.str "text"] → gCh ls g (.tuple ds) = false
  | [], _, _, _ => rfl
  | [.str w], _, n1, n2 => by
    show (w == "number" || w == "text") = false
    rw [Bool.or_eq_false_iff, beq_eq_false_iff_ne, beq_eq_false_iff_ne]
    exact ⟨fun z => n1 (by rw [z]), fun z => n2 (by rw [z])⟩
  | [.none], _, _, _ => rfl
  | [.bool _], _, _, _ => rfl
  | [.int _], _, _, _ => rfl
  | [.list _], _, _, _ => rfl
  | [.tuple _], _, _, _ => rfl
  | [.dict _], _, _, _ => rfl
  | [_, _], e, _, _ => absurd rfl e
  | u :: _ :: _ :: _, _, _, _ => by cases u <;> rfl
theorem gCh_two {ls : List Str} {g : PyData → Bool} (w : Str) (t : PyData) : gCh ls g (.tuple [.str w, t]) = if w = "row" ∨ w = "book" then g t else if w = "shape" then gFl g t else if w = "letter" then letD ls t else false := rfl
theorem gCh_ns {ls : List Str} {g : PyData → Bool} {d1 d2 : PyData} (h : isStrB d1 = false) : gCh ls g (.tuple [d1, d2]) = false := by
  cases d1 with
  | str _ => cases h
  | _ => rfl
section
variable {P : Program} {w : World} {K : PySem.W.Frag} {mg : Str → Option Value} {base : Heap} {T0 : List Addr} {CB : Addr}
theorem scNeedChoice : FnScope ["choice", "letters", "room", "word", "told"] ["choice", "letters", "room"] (defScope sPNeedChoice) := ⟨rfl, rfl, rfl, by decide +kernel, rfl, by decide +kernel, by decide +kernel⟩
theorem c_need_choice {lv : Nat} {r : Int} {g : List Str → PyData → Bool} (T : Tx K mg) (B : Ec K mg "BadKind" CB) (lv2 : 3 ≤ lv)
    (CK : CalX P w K mg base lv "_need_kind_within" ["kind", "letters", "room"] (spNeed K T0 CB [.int (r - 1)] g)) (CF : CalX P w K mg base lv "need_fields_kinds" ["fields", "letters", "room"] (spNeed K T0 CB [.int (r - 1)] (fun ls => gFl (g ls))))
    (CL : CalX P w K mg base 3 "_need_letter" ["letter", "letters"] (spNeed K T0 CB [] letD)) :
    CalX P w K mg base (lv + 1) "_need_choice" ["choice", "letters", "room"] (spNeed K T0 CB [.int r] (fun ls => gCh ls (g ls))) := by
  refine T.p_need_choice.okX scNeedChoice (fun vs H Q E h => ?_) (fun f cdv A outer s H vs Q E hr h => ?_)
  · obtain ⟨ls, v, d, la, rfl, _⟩ := h
    rfl
  obtain ⟨ls, v, d, la, rfl, hd, ok, tb, hla, q1, q2⟩ := h
  dsimp only at q1 q2
  have r3 : Room 3 _ := hr.mono lv2
  have hu := hr.units
  refine ⟨_, pss_cons (ps_if (PW.pt (pw_or (pt_cmpR (op_eqD hu) (pv 0) (pe_tup (pa_cons pe_str pa_nil)) (nomark _)) (pw_or1 (pt_cmpR (op_eqD hu) (pv 0) (pe_tup (pa_cons pe_str pa_nil)) (nomark _)))))
      (pss_one ps_retN) pss_nil)
    (pss_cons (ps_if (PW.pt (pw_or (pt_not (pt_val (pe_callB call_isi (by rfl) T.m_isinstance boot_isinstance (pa_cons (pv 0) (pa_cons (pe_bltn (v := .ty "tuple") (by rfl) T.m_tuple boot_tuple rfl) pa_nil)))))
        (pw_or1 (pt_cmpR op_ne (pe_callB call_len_seq (by rfl) T.m_len PySem.boot_len (pa_cons (pv 0) pa_nil)) pe_int (nomark _)))))
      (pss_one (ps_raise rfl (takes_of rfl rfl rfl rfl) (pmk_own PySem.F.excBase_ValueError B.q B.g B.k (raises_own B.b B.t) (by exact rfl)))) pss_nil)
    (pss_cons (ps_asg (pv 0) (pg_tup (by rfl) (pgs_cons (pg_name (i := 3) scNeedChoice.nd rfl (Or.inl rfl)) (pgs_cons (pg_name (i := 4) scNeedChoice.nd rfl (Or.inl rfl)) pgs_nil))))
    (pss_one (ps_if (PW.pt (pw_or (pt_cmpR (op_eqD hu) (pv 3) pe_str (nomark _)) (pw_or1 (pt_cmpR (op_eqD hu) (pv 3) pe_str (nomark _)))))
      (pss_one (ps_expr (pe_calX CK hr (passes_call (takes_of rfl rfl rfl rfl) (fun _ _ _ _ h => h)) (pa_cons (pv 4) (pa_cons (pv 1) (pa_cons (pe_op op_sub (pv 2) pe_int) pa_nil))))))
      (pss_one (ps_if (pt_cmpR (op_eqD hu) (pv 3) pe_str (nomark _))
        (pss_one (ps_expr (pe_calX CF hr (passes_call (takes_of rfl rfl rfl rfl) (fun _ _ _ _ h => h)) (pa_cons (pv 4) (pa_cons (pv 1) (pa_cons (pe_op op_sub (pv 2) pe_int) pa_nil))))))
        (pss_one (ps_if (pt_cmpR (op_eqD hu) (pv 3) pe_str (nomark _))
          (pss_one (ps_expr (pe_calX CL r3 (passes_call (takes_of rfl rfl rfl rfl) (fun _ _ _ _ h => h)) (pa_cons (pv 4) (pa_cons (pv 1) pa_nil)))))
          (pss_one (ps_raise rfl (takes_of rfl rfl rfl rfl) (pmk_own PySem.F.excBase_ValueError B.q B.g B.k (raises_own B.b B.t) (by exact rfl)))))))))))), ?_⟩
  refine seq_with (fun R => ∀ H2, Fr T0 H H2 → d ≠ .tuple [.str "number"] → d ≠ .tuple [.str "text"] → R [some v, some (.ref la), some (.int r), none, none] H2) ?_ ?_
  · intro H2 f2 n1 n2
    have ty := Dp.ty (KeepL.dp (Fr.keep tb f2) hd)
    have it := isTup hd
    show tOr _ _ _ _ _
    cases hd with
    | tup ht hds =>
      rename_i a vs ds
      obtain ⟨len, okx⟩ := ok.sub
      have lv0 := DpAll.len hds
      refine or_pure false (decide (¬ vs.length = 2)) (fun R h => ⟨_, rfl, _, _, _, _, _, rfl, .ty _, ty, kit_ty it, _, rfl, h⟩) (fun _ R h => ⟨_, rfl, a, vs, rfl, .inr ((Fr.keep tb f2).2 _ _ ht), rfl, _, rfl, ?_⟩) (fun h => ?_) (fun _ h => ?_)
      · rw [eqV_int, decide_eq_decide.mpr (show ((vs.length : Nat) : Int) = 2 ↔ vs.length = 2 by omega), ← decide_not]
        exact h
      · have n : ds.length ≠ 2 := by rw [← lv0]; exact of_decide_eq_true (h.elim (fun z => by cases z) id)
        exact q2 (gCh_len n n1 n2) H2 f2
      have two : vs.length = 2 := Classical.byContradiction fun z => by rw [decide_eq_true z] at h; cases h
      obtain ⟨x1, x2, d1, d2, rfl, rfl, h1, h2⟩ := two_open hds two
      have ok1 := ok.sub.2 d1 List.mem_cons_self
      have ok2 := ok.sub.2 d2 (List.mem_cons_of_mem _ List.mem_cons_self)
      have g1 := KeepL.dp (Fr.keep tb f2) h1
      have g2 := KeepL.dp (Fr.keep tb f2) h2
      have hla2 := (Fr.keep tb f2).2 _ _ hla
      refine ⟨_, rfl, a, _, rfl, (Fr.keep tb f2).2 _ _ ht, rfl, _, _, rfl, _, _, rfl, rfl, ?_⟩
      dsimp only
      show tOr _ _ _ _ _
      refine or_pure (PyData.eqv d1 (.str "row")) (PyData.eqv d1 (.str "book")) (fun R h => ⟨_, rfl, d1, .str "row", g1, .str _, ok1.1, by decide +kernel, _, rfl, h⟩) (fun _ R h => ⟨_, rfl, d1, .str "book", g1, .str _, ok1.1, by decide +kernel, _, rfl, h⟩) (fun h => ?_) (fun e1 e2 => ?_)
      · have eg : gCh ls (g ls) (.tuple [d1, d2]) = g ls d2 := by
          rcases h with h | h
          · rw [(eqv_word _ _).mp h, gCh_two, if_pos (Or.inl rfl)]
          · rw [(eqv_word _ _).mp h, gCh_two, if_pos (Or.inr rfl)]
        rw [eg] at q1 q2
        refine ⟨_, rfl, _, rfl, _, rfl, _, _, rfl, rfl, ls, x2, d2, la, rfl, g2, ok2, f2.tab, hla2, fun e H3 f3 => q1 e H3 (f2.trans f3), fun e H3 f3 => q2 e H3 (f2.trans f3)⟩
      have n1 : ∀ w : Str, d1 = .str w → ¬ (w = "row" ∨ w = "book") := fun w e z => by
        rcases z with z | z
        · rw [(eqv_word d1 "row").mpr (by rw [e, z])] at e1; cases e1
        · rw [(eqv_word d1 "book").mpr (by rw [e, z])] at e2; cases e2
      refine ⟨_, rfl, d1, .str "shape", g1, .str _, ok1.1, by decide +kernel, _, rfl, ite2 (fun e => ?_) (fun e3 => ?_)⟩
      · have e' := (eqv_word _ _).mp e
        have eg : gCh ls (g ls) (.tuple [d1, d2]) = gFl (g ls) d2 := by rw [e', gCh_two, if_neg (n1 _ e'), if_pos rfl]
        rw [eg] at q1 q2
        exact ⟨_, rfl, _, rfl, _, rfl, _, _, rfl, rfl, ls, x2, d2, la, rfl, g2, ok2, f2.tab, hla2, fun e H3 f3 => q1 e H3 (f2.trans f3), fun e H3 f3 => q2 e H3 (f2.trans f3)⟩
      refine ⟨_, rfl, d1, .str "letter", g1, .str _, ok1.1, by decide +kernel, _, rfl, ite2 (fun e => ?_) (fun e4 => ?_)⟩
      · have e' := (eqv_word _ _).mp e
        have eg : gCh ls (g ls) (.tuple [d1, d2]) = letD ls d2 := by rw [e', gCh_two, if_neg (n1 _ e'), if_neg (by decide +kernel), if_pos rfl]
        rw [eg] at q1 q2
        exact ⟨_, rfl, _, rfl, ls, x2, d2, la, rfl, g2, ok2, f2.tab, hla2, fun e H3 f3 => q1 e H3 (f2.trans f3), fun e H3 f3 => q2 e H3 (f2.trans f3)⟩
      refine q2 ?_ H2 f2
      cases hs : isStrB d1 with
      | false => exact gCh_ns hs
      | true =>
        match d1, hs, n1, e3, e4 with
        | .str w, _, n1, e3, e4 =>
          rw [gCh_two, if_neg (n1 w rfl), if_neg fun z => e3 ((eqv_word _ _).mpr (by rw [z])), if_neg fun z => e4 ((eqv_word _ _).mpr (by rw [z]))]
    | str _ => exact or_pure true true (fun R h => ⟨_, rfl, _, _, _, _, _, rfl, .ty _, ty, kit_ty it, _, rfl, h⟩) (fun h => by cases h) (fun _ => q2 rfl H2 f2) (fun h => by cases h)
    | non => exact or_pure true true (fun R h => ⟨_, rfl, _, _, _, _, _, rfl, .ty _, ty, kit_ty it, _, rfl, h⟩) (fun h => by cases h) (fun _ => q2 rfl H2 f2) (fun h => by cases h)
    | bl b => exact or_pure true true (fun R h => ⟨_, rfl, _, _, _, _, _, rfl, .ty _, ty, kit_ty it, _, rfl, h⟩) (fun h => by cases h) (fun _ => q2 rfl H2 f2) (fun h => by cases h)
    | int b => exact or_pure true true (fun R h => ⟨_, rfl, _, _, _, _, _, rfl, .ty _, ty, kit_ty it, _, rfl, h⟩) (fun h => by cases h) (fun _ => q2 rfl H2 f2) (fun h => by cases h)
    | lst _ _ => exact or_pure true true (fun R h => ⟨_, rfl, _, _, _, _, _, rfl, .ty _, ty, kit_ty it, _, rfl, h⟩) (fun h => by cases h) (fun _ => q2 rfl H2 f2) (fun h => by cases h)
  · intro rest
    refine ⟨_, rfl, (by show 1 ≤ sizeLine; decide), fun p1 hp1 => ⟨d, .tuple [.str "number"], ?_, .tup (SqT.of upd_same) (.cons (.str _) .nil), ok.1, by decide +kernel, _, rfl, ite2 (fun e => ?_) (fun e => ?_)⟩⟩
    · exact KeepL.dp (Fr.keep tb (Fr.same tb (same_new hp1 _))) hd
    · have f1 := Fr.same tb (same_new hp1 (.tup [.str "number"]))
      exact q1 (by rw [(eqv_one _ _).mp e]; rfl) _ f1
    have f1 := Fr.same tb (same_new hp1 (.tup [.str "number"]))
    refine ⟨_, rfl, (by show 1 ≤ sizeLine; decide), fun p2 hp2 => ⟨d, .tuple [.str "text"], ?_, .tup (SqT.of upd_same) (.cons (.str _) .nil), ok.1, by decide +kernel, _, rfl, ite2 (fun e2 => ?_) (fun e2 => ?_)⟩⟩
    · exact KeepL.dp (Fr.keep tb (f1.trans (Fr.same f1.tab (same_new hp2 _)))) hd
    · exact q1 (by rw [(eqv_one _ _).mp e2]; rfl) _ (f1.trans (Fr.same f1.tab (same_new hp2 _)))
    · exact rest _ (f1.trans (Fr.same f1.tab (same_new hp2 _))) (fun z => e ((eqv_one _ _).mpr z)) (fun z => e2 ((eqv_one _ _).mpr z))
end
end Sc
namespace Sc
open PySem PyProof.Rows L2
section
variable {P : Program} {w : World} {K : PySem.W.Frag} {mg : Str → Option Value} {base : Heap} {T0 : List Addr} {CB : Addr}
theorem scNeedWithin : FnScope ["kind", "letters", "room", "choice"] ["kind", "letters", "room"] (defScope sPNeedKindWithin) := ⟨rfl, rfl, rfl, by decide +kernel, rfl, by decide +kernel, by decide +kernel⟩
theorem c_need_within {lv n : Nat} (T : Tx K mg) (B : Ec K mg "BadKind" CB) (h8 : ∃ t, mg "DEEPEST_KIND" = some (.int 8 t))
    (CC : 0 < n → CalX P w K mg base lv "_need_choice" ["choice", "letters", "room"] (spNeed K T0 CB [.int ((n : Int) - 1)] (fun ls => gCh ls (gK ls (n - 1)))))
    (CN : CalX P w K mg base lv "_need_choice" ["choice", "letters", "room"] (fun _ _ _ _ => False)) :
    CalX P w K mg base (lv + 1) "_need_kind_within" ["kind", "letters", "room"] (spNeed K T0 CB [.int ((n : Int) - 1)] (fun ls => gK ls n)) := by
  refine T.p_need_kind_within.okX scNeedWithin (fun vs H Q E h => ?_) (fun f cdv A outer s H vs Q E hr h => ?_)
  · obtain ⟨ls, v, d, la, rfl, _⟩ := h
    rfl
  obtain ⟨ls, v, d, la, rfl, hd, ok, tb, hla, q1, q2⟩ := h
  dsimp only at q1 q2
  obtain ⟨t8, m8⟩ := h8
  have CC' : ∃ sp, CalX P w K mg base lv "_need_choice" ["choice", "letters", "room"] sp ∧ (0 < n → sp = spNeed K T0 CB [.int ((n : Int) - 1)] (fun ls => gCh ls (gK ls (n - 1)))) := by
    by_cases h : 0 < n
    · exact ⟨_, CC h, fun _ => rfl⟩
    · exact ⟨_, CN, fun z => absurd z h⟩
  obtain ⟨sp, CS, es⟩ := CC'
  refine ⟨_, pss_cons (ps_if (pt_cmpR op_lt (pv 2) pe_int (nomark _))
      (pss_one (ps_raise rfl (takes_of rfl rfl rfl rfl) (SkE.pmk_own1 PySem.F.excBase_ValueError B.q B.g B.k (raises_own B.b B.t) (by exact rfl) (pe_fs (.cons pe_str (.cons (pe_fmt (pe_glob (v := .int 8) (by rfl) m8 ⟨_, rfl⟩)) (.cons pe_str .nil))))))) pss_nil)
    (pss_cons (ps_if (PW.pt (pw_or (pt_not (pt_val (pe_callB call_isi (by rfl) T.m_isinstance boot_isinstance (pa_cons (pv 0) (pa_cons (pe_bltn (v := .ty "tuple") (by rfl) T.m_tuple boot_tuple rfl) pa_nil)))))
        (pw_or1 (pt_cmpR op_eq (pe_callB call_len_seq (by rfl) T.m_len PySem.boot_len (pa_cons (pv 0) pa_nil)) pe_int (nomark _)))))
      (pss_one (ps_raise rfl (takes_of rfl rfl rfl rfl) (pmk_own PySem.F.excBase_ValueError B.q B.g B.k (raises_own B.b B.t) (by exact rfl)))) pss_nil)
    (pss_one (ps_for (passes_of rfl) rfl (pi_tup (pv 0)) (pg_name (i := 3) scNeedWithin.nd rfl (Or.inl rfl))
      (pss_one (ps_expr (pe_calX CS hr (passes_call (takes_of rfl rfl rfl rfl) (fun _ _ _ _ h => h)) (pa_cons (pv 3) (pa_cons (pv 1) (pa_cons (pv 2) pa_nil))))))))), ?_⟩
  refine ⟨_, rfl, _, _, rfl, rfl, _, rfl, ite2 (fun e => ?_) (fun e => ?_)⟩
  · have n0 : n = 0 := by have := of_decide_eq_true e; omega
    refine ⟨_, rfl, by decide +kernel, .inr ⟨8, rfl, by decide, _, rfl, by decide +kernel, _, rfl, by decide +kernel, ?_⟩⟩
    exact q2 (by rw [n0]; rfl) H (Fr.refl tb)
  have n1 : 0 < n := by
    have := of_decide_eq_false (Bool.eq_false_iff.mpr e)
    omega
  obtain ⟨m, rfl⟩ : ∃ m, n = m + 1 := ⟨n - 1, by omega⟩
  have es := es n1
  subst es
  dsimp only [tNext]
  show tOr _ _ _ _ _
  have ty := Dp.ty hd
  have it := isTup hd
  have dp := hd
  cases hd with
  | tup ht hds =>
    rename_i a vs ds
    obtain ⟨len, okx⟩ := ok.sub
    have lv0 := DpAll.len hds
    have bad0 : gK ls (m + 1) (.tuple ds) = (!ds.isEmpty && ds.all (gCh ls (gK ls m))) := rfl
    refine or_pure false (decide (vs.length = 0)) (fun R h => ⟨_, rfl, _, _, _, _, _, rfl, .ty _, ty, kit_ty it, _, rfl, h⟩) (fun _ R h => ⟨_, rfl, a, vs, rfl, .inr ht, rfl, _, rfl, ?_⟩) (fun h => ?_) (fun _ h => ?_)
    · rw [eqV_int, decide_eq_decide.mpr (show ((vs.length : Nat) : Int) = 0 ↔ vs.length = 0 by omega)]
      exact h
    · have z : vs.length = 0 := of_decide_eq_true (h.elim (fun z => by cases z) id)
      have z2 : ds = [] := List.length_eq_zero_iff.mp (lv0.symm.trans z)
      exact q2 (by rw [z2]; rfl) H (Fr.refl tb)
    have d0 : ds.isEmpty = false := by
      cases ds with
      | nil => exact absurd lv0 (of_decide_eq_false h)
      | cons _ _ => rfl
    rw [bad0, d0] at q1 q2
    refine ⟨_, rfl, a, rfl, ⟨_, ht⟩, ?_⟩
    refine for_tup (K := K) (a := a) (xs := vs) (fun j σ2 H2 => Fr T0 H H2 ∧ (∃ o, σ2 = [some (.ref a), some (.ref la), some (.int (((m + 1 : Nat) : Int) - 1)), o]) ∧ (ds.take j).all (gCh ls (gK ls m)) = true) ⟨Fr.refl tb, ⟨_, rfl⟩, rfl⟩ (fun j σ2 H2 _ h => (Fr.keep tb h.1).2 _ _ ht) ?_ ?_
    · rintro j x σ2 H2 hx ⟨f2, ⟨o, rfl⟩, hq⟩
      obtain ⟨d, hd1, hd2⟩ := DpAll.get hds hx
      have md := List.mem_of_getElem? hd1
      refine ⟨_, rfl, _, rfl, _, rfl, ls, x, d, la, rfl, KeepL.dp (Fr.keep tb f2) hd2, okx d md, f2.tab, (Fr.keep tb f2).2 _ _ hla, fun e H3 f3 => ?_, fun e H3 f3 => ?_⟩
      · exact ⟨f2.trans f3, ⟨_, rfl⟩, by rw [List.take_add_one, hd1, List.all_append, hq]; simpa using e⟩
      · refine q2 ?_ H3 (f2.trans f3)
        refine Bool.eq_false_iff.mpr fun z => ?_
        have := List.all_eq_true.mp z d md
        rw [show gCh ls (gK ls m) d = false from e] at this
        cases this
    · rintro σ2 H2 ⟨f2, ⟨o, rfl⟩, hq⟩
      rw [lv0, List.take_length] at hq
      exact q1 hq H2 f2
  | str _ => exact or_pure true true (fun R h => ⟨_, rfl, _, _, _, _, _, rfl, .ty _, ty, kit_ty it, _, rfl, h⟩) (fun h => by cases h) (fun _ => q2 rfl H (Fr.refl tb)) (fun h => by cases h)
  | non => exact or_pure true true (fun R h => ⟨_, rfl, _, _, _, _, _, rfl, .ty _, ty, kit_ty it, _, rfl, h⟩) (fun h => by cases h) (fun _ => q2 rfl H (Fr.refl tb)) (fun h => by cases h)
  | bl b => exact or_pure true true (fun R h => ⟨_, rfl, _, _, _, _, _, rfl, .ty _, ty, kit_ty it, _, rfl, h⟩) (fun h => by cases h) (fun _ => q2 rfl H (Fr.refl tb)) (fun h => by cases h)
  | int b => exact or_pure true true (fun R h => ⟨_, rfl, _, _, _, _, _, rfl, .ty _, ty, kit_ty it, _, rfl, h⟩) (fun h => by cases h) (fun _ => q2 rfl H (Fr.refl tb)) (fun h => by cases h)
  | lst _ _ => exact or_pure true true (fun R h => ⟨_, rfl, _, _, _, _, _, rfl, .ty _, ty, kit_ty it, _, rfl, h⟩) (fun h => by cases h) (fun _ => q2 rfl H (Fr.refl tb)) (fun h => by cases h)
end
end Sc
namespace Sc
open PySem PyProof.Rows L2
/-- what the errors' classes are -/
structure Er (K : PySem.W.Frag) (mg : Str → Option Value) (CS CB CP : Addr) : Prop where
  b : Ec K mg "BadKind" CB
  gS : mg "SoothError" = some (.ref CS)
  gP : mg "BadProgram" = some (.ref CP)
  xm : PySem.W.exmOne K (.ref CB) (.ref CS) = some true
  ec : ExcC K CB
  kP : PySem.W.kitOne K (.ref CB) (.ref CP) = some false
  kV : PySem.W.kitOne K (.ref CB) (.type "ValueError") = some true
  kB : PySem.W.kitOne K (.ref CB) (.ref CB) = some true
section
variable {P : Program} {w : World} {K : PySem.W.Frag} {mg : Str → Option Value} {base : Heap} {T0 : List Addr} {CB : Addr}
theorem c_withins (T : Tx K mg) (B : Ec K mg "BadKind" CB) (hl8 : ∃ t, mg "LONGEST_WORD" = some (.int 8 t)) (h8 : ∃ t, mg "DEEPEST_KIND" = some (.int 8 t))
    (CW : Cal P w K mg base 2 "is_word" ["thing"] (spTest K T0 isWordD)) (CF : Cal P w K mg base 1 "are_fields" ["thing"] (spTest K T0 fldD)) (CL : CalX P w K mg base 3 "_need_letter" ["letter", "letters"] (spNeed K T0 CB [] letD)) :
    ∀ n : Nat, CalX P w K mg base (3 * n + 3) "_need_kind_within" ["kind", "letters", "room"] (spNeed K T0 CB [.int ((n : Int) - 1)] (fun ls => gK ls n))
  | 0 => (c_need_within (lv := 2) (n := 0) T B h8 (fun z => absurd z (Nat.lt_irrefl _)) ((T.p_need_choice.neverX fun _ _ _ _ z => z).mono (by omega)))
  | n + 1 => by
    have ih := c_withins T B hl8 h8 CW CF CL n
    have cf := c_need_fields T B (by omega) CW CF ih hl8
    have cc := c_need_choice (r := (n : Int)) (g := fun ls => gK ls n) (lv := 3 * n + 4) T B (by omega) (ih.mono (by omega)) cf CL
    refine c_need_within (lv := 3 * n + 5) (n := n + 1) T B h8 (fun _ => ?_) ((T.p_need_choice.neverX fun _ _ _ _ z => z).mono (by omega))
    rw [show (((n + 1 : Nat) : Int) - 1) = (n : Int) by omega]
    exact cc
theorem scNeedKind : FnScope ["kind", "letters"] ["kind", "letters"] (defScope sNeedKind) := ⟨rfl, rfl, rfl, by decide +kernel, rfl, by decide +kernel, by decide +kernel⟩
theorem c_need_kind (T : Tx K mg) (h8 : ∃ t, mg "DEEPEST_KIND" = some (.int 8 t)) (CK : CalX P w K mg base 30 "_need_kind_within" ["kind", "letters", "room"] (spNeed K T0 CB [.int (((9 : Nat) : Int) - 1)] (fun ls => gK ls 9))) :
    CalX P w K mg base 31 "need_kind" ["kind", "letters"] (spNeed K T0 CB [] (fun ls => gK ls 9)) := by
  refine T.need_kind.okX scNeedKind (fun vs H Q E h => ?_) (fun f cdv A outer s H vs Q E hr h => ?_)
  · obtain ⟨ls, v, d, la, rfl, _⟩ := h
    rfl
  obtain ⟨ls, v, d, la, rfl, hd, ok, tb, hla, q1, q2⟩ := h
  dsimp only at q1 q2
  obtain ⟨t8, m8⟩ := h8
  refine ⟨_, pss_one (ps_expr (pe_calX CK hr (passes_call (takes_of rfl rfl rfl rfl) (fun _ _ _ _ h => h)) (pa_cons (pv 0) (pa_cons (pv 1) (pa_cons (pe_glob (v := .int 8) (by rfl) m8 ⟨_, rfl⟩) pa_nil))))), ?_⟩
  exact ⟨_, rfl, _, rfl, ls, v, d, la, rfl, hd, ok, tb, hla, q1, q2⟩
end
end Sc
namespace Sc
open PySem PyProof.Rows L2
abbrev sPlInit : Stmt := sPlaceInit
theorem noM {K : PySem.W.Frag} {H : Hp} {v : V} {d : PyData} (h : Dp K H v d) : kitB (tyD d) "bool" = some (match d with | .bool _ => true | _ => false) := by
  cases h with
  | non => exact (by decide +kernel : kitB "NoneType" "bool" = some false)
  | bl b => exact (by decide +kernel : kitB "bool" "bool" = some true)
  | int i => exact (by decide +kernel : kitB "int" "bool" = some false)
  | str x => exact (by decide +kernel : kitB "str" "bool" = some false)
  | lst _ _ => exact (by decide +kernel : kitB "list" "bool" = some false)
  | tup _ _ => exact (by decide +kernel : kitB "tuple" "bool" = some false)
theorem isIntD {K : PySem.W.Frag} {H : Hp} {v : V} {d : PyData} (h : Dp K H v d) : kitB (tyD d) "int" = some (match d with | .bool _ => true | .int _ => true | _ => false) := by
  cases h with
  | non => exact (by decide +kernel : kitB "NoneType" "int" = some false)
  | bl b => exact (by decide +kernel : kitB "bool" "int" = some true)
  | int i => exact (by decide +kernel : kitB "int" "int" = some true)
  | str x => exact (by decide +kernel : kitB "str" "int" = some false)
  | lst _ _ => exact (by decide +kernel : kitB "list" "int" = some false)
  | tup _ _ => exact (by decide +kernel : kitB "tuple" "int" = some false)
theorem plF (la fa na : Addr) (r : Int) : putF "room" (.int r) (putF "names" (.ref na) (putF "functions" (.ref fa) (putF "letters" (.ref la) []))) = placeF la fa na r := by
  have d1 : ¬ (("letters" : Str) = "functions") := by decide +kernel
  have d2 : ¬ (("letters" : Str) = "names") := by decide +kernel
  have d3 : ¬ (("letters" : Str) = "room") := by decide +kernel
  have d4 : ¬ (("functions" : Str) = "names") := by decide +kernel
  have d5 : ¬ (("functions" : Str) = "room") := by decide +kernel
  have d6 : ¬ (("names" : Str) = "room") := by decide +kernel
  simp only [putF, if_neg d1, if_neg d2, if_neg d3, if_neg d4, if_neg d5, if_neg d6]
  rfl
section
variable {P : Program} {w : World} {K : PySem.W.Frag} {mg : Str → Option Value} {base : Heap} {T0 : List Addr} {C : Addr} {cls : Wr → Addr} {r : Int}
theorem pl_letters (la fa na : Addr) : (placeF la fa na r).lookup ("letters" : Str) = some (.ref la) := rfl
theorem pl_functions (la fa na : Addr) : (placeF la fa na r).lookup ("functions" : Str) = some (.ref fa) := rfl
theorem pl_names (la fa na : Addr) : (placeF la fa na r).lookup ("names" : Str) = some (.ref na) := rfl
theorem pl_room (la fa na : Addr) : (placeF la fa na r).lookup ("room" : Str) = some (.int r) := rfl
theorem scPI : FnScope ["self", "letters", "functions", "names", "room"] ["self", "letters", "functions", "names", "room"] (defScope sPlInit) := ⟨rfl, rfl, rfl, by decide +kernel, rfl, by decide +kernel, by decide +kernel⟩
theorem ok_plinit {f : Addr} {fd : FuncData} (F : Fun K "__init__" "Place.__init__" sPlInit f fd) (cl : Cls K C) (n1 : NoAttr K C "letters") (n2 : NoAttr K C "functions") (n3 : NoAttr K C "names") (n4 : NoAttr K C "room") :
    FnOk P w K mg base CX0 1 f fd ["self", "letters", "functions", "names", "room"] (fun vs H Q _ => ∃ (p dx la fa na : Addr) (r : Int), vs = [.ref p, .ref la, .ref fa, .ref na, .int r] ∧ H p = some (.ins C dx []) ∧
      ∀ (H' : Hp), H' p = some (.ins C dx (placeF la fa na r)) → (∀ c o, H c = some o → c ≠ p → H' c = some o) → Q .non H') := by
  refine F.ok scPI (fun vs H Q E h => ?_) (fun cdv A outer s H vs Q E hr h => ?_)
  · obtain ⟨p, dx, la, fa, na, r, rfl, _⟩ := h
    rfl
  obtain ⟨p, dx, la, fa, na, r, rfl, hp, k⟩ := h
  refine ⟨_, pss_cons (ps_fld (pv 0) (pv 1) rfl) (pss_cons (ps_fld (pv 0) (pv 2) rfl) (pss_cons (ps_fld (pv 0) (pv 3) rfl) (pss_one (ps_fld (pv 0) (pv 4) rfl)))), ?_⟩
  have len : ∀ {x : Str} {v : V} {fs : List (Str × V)}, (putF x v fs).length ≤ fs.length + 1 := fun {x v fs} => by
    induction fs with
    | nil => exact Nat.le_refl _
    | cons q fs ih =>
      obtain ⟨a, b⟩ := q
      show (if a = x then _ else _ : List (Str × V)).length ≤ _
      split
      · exact Nat.le_succ _
      · exact Nat.succ_le_succ ih
  refine ⟨_, rfl, _, rfl, p, C, dx, [], rfl, hp, cl, n1, (by show 0 < 1000; decide), _, rfl, _, rfl, p, C, dx, _, rfl, upd_same, cl, n2, ?_, _, rfl, _, rfl, p, C, dx, _, rfl, upd_same, cl, n3, ?_, _, rfl, _, rfl, p, C, dx, _, rfl, upd_same, cl, n4, ?_, ?_⟩
  · have := len (x := "letters") (v := .ref la) (fs := []); exact Nat.lt_of_le_of_lt this (by decide)
  · have a1 := len (x := "letters") (v := .ref la) (fs := [])
    have a2 := len (x := "functions") (v := .ref fa) (fs := putF "letters" (.ref la) [])
    simp at a1
    omega
  · have a1 := len (x := "letters") (v := .ref la) (fs := [])
    have a2 := len (x := "functions") (v := .ref fa) (fs := putF "letters" (.ref la) [])
    have a3 := len (x := "names") (v := .ref na) (fs := putF "functions" (.ref fa) (putF "letters" (.ref la) []))
    simp at a1
    omega
  refine k _ (by rw [upd_same, plF]) fun c o e hc => ?_
  rw [upd_ne hc, upd_ne hc, upd_ne hc, upd_ne hc]
  exact e
/-- raising with a plain text -/
theorem scNeedWord : FnScope ["told", "place"] ["told", "place"] (defScope sPNeedWord) := ⟨rfl, rfl, rfl, by decide +kernel, rfl, by decide +kernel, by decide +kernel⟩
theorem c_need_word (T : Tx K mg) (R : Ers K mg cls) (CW : Cal P w K mg base 2 "is_word" ["thing"] (spTest K T0 isWordD)) : CalX P w K mg base 3 "_need_word" ["told", "place"] (spAt K T0 C cls r fun _ => gWord) := by
  refine T.p_need_word.okX scNeedWord (fun vs H Q E h => ?_) (fun f cdv A outer s H vs Q Ex hr h => ?_)
  · obtain ⟨v, d, p, E, rfl, _⟩ := h
    rfl
  obtain ⟨v, d, p, E, rfl, hd, ok, tb, hp, q1, q2⟩ := h
  refine ⟨_, pss_one (ps_if (pt_not (pt_val (pe_cal CW hr (pa_cons (pv 0) pa_nil))))
      (pss_one (ps_raise rfl (takes_of rfl rfl rfl rfl) (pmk_own PySem.F.excBase_ValueError R.bp.q R.bp.g R.bp.k (raises_own R.bp.b R.bp.t) (by exact rfl)))) pss_nil), ?_⟩
  refine ⟨_, rfl, v, d, rfl, hd, ok, tb, fun H1 f1 => ⟨_, rfl, ?_⟩⟩
  cases h1 : isWordD d with
  | false => exact q2 .bp (by show whenB (isWordD d) .bp = some .bp; rw [h1]; rfl) H1 f1
  | true => exact q1 (by show whenB (isWordD d) .bp = none; rw [h1]; rfl) H1 f1
theorem gWord_none {d : PyData} (h : gWord d = none) : ∃ z, d = .str z ∧ isWordD (.str z) = true := by
  cases d with
  | str z =>
    refine ⟨z, rfl, ?_⟩
    cases h1 : isWordD (.str z) with
    | true => rfl
    | false => rw [show gWord (.str z) = some .bp by show whenB (isWordD (.str z)) .bp = _; rw [h1]; rfl] at h; cases h
  | _ => cases h
theorem gWord_some {d : PyData} {b : Wr} (h : gWord d = some b) : b = .bp ∧ isWordD d = false := by
  have h' : whenB (isWordD d) .bp = some b := h
  cases h1 : isWordD d with
  | true => rw [h1] at h'; cases h'
  | false => rw [h1] at h'; exact ⟨(Option.some.inj h').symm, rfl⟩
theorem scNeedKnown : FnScope ["told", "place"] ["told", "place"] (defScope sPNeedKnown) := ⟨rfl, rfl, rfl, by decide +kernel, rfl, by decide +kernel, by decide +kernel⟩
theorem c_need_known (T : Tx K mg) (R : Ers K mg cls) (L : PlC P w K mg base C) (CW : CalX P w K mg base 3 "_need_word" ["told", "place"] (spAt K T0 C cls r fun _ => gWord)) : CalX P w K mg base 4 "_need_known" ["told", "place"] (spAt K T0 C cls r gKnown) := by
  refine T.p_need_known.okX scNeedKnown (fun vs H Q E h => ?_) (fun f cdv A outer s H vs Q Ex hr h => ?_)
  · obtain ⟨v, d, p, E, rfl, _⟩ := h
    rfl
  obtain ⟨v, d, p, E, rfl, hd, ok, tb, hp, q1, q2⟩ := h
  refine ⟨_, pss_cons (ps_expr (pe_calX CW hr (passes_call (takes_of rfl rfl rfl rfl) (fun _ _ _ _ h => h)) (pa_cons (pv 0) (pa_cons (pv 1) pa_nil))))
    (pss_one (ps_if (pt_cmpR op_notIn_seq (pv 0) (pe_fld (pv 1) rfl) (by rfl))
      (pss_one (ps_raise rfl (takes_of rfl rfl rfl rfl) (SkE.pmk_own1 PySem.F.excBase_ValueError R.nn.q R.nn.g R.nn.k (raises_own R.nn.b R.nn.t) (by exact rfl) (pe_fs (.cons pe_str (.cons (pe_fmt (pv 0)) (.cons pe_str .nil))))))) pss_nil)), ?_⟩
  refine ⟨_, rfl, _, rfl, v, d, p, E, rfl, hd, ok, tb, hp, fun e H1 f1 => ?_, fun b e H1 f1 => ?_⟩
  · obtain ⟨z, rfl, hz⟩ := gWord_none e
    cases hd
    have hp1 := hp.keep tb f1
    obtain ⟨dx, la, fa, na, h1, h2, h3, h4⟩ := hp1.at_
    have eg : gKnown E (.str z) = whenB (decide (z ∈ E.ns)) .nn := by show (if isWordD (.str z) = true then _ else _) = _; rw [if_pos hz]
    refine ⟨_, rfl, _, rfl, p, C, dx, _, _, rfl, h1, L.cl, L.n3, pl_names la fa na, na, _, rfl, .inr h4, rfl, flat_strs _, ?_⟩
    rw [in_strs]
    have z8 : z.length ≤ 8 := (of_decide_eq_true (show decide (Word z) = true from hz)).2.1
    cases hm : decide (z ∈ E.ns) with
    | true => exact ⟨_, rfl, q1 (by rw [eg, hm]; rfl) H1 f1⟩
    | false =>
      refine ⟨_, rfl, _, rfl, by decide +kernel, _, rfl, .inl ⟨z, rfl, sizeOk (by omega), _, rfl, ?_, _, rfl, ?_, ?_⟩⟩
      · rw [len_app]
        have : (Str.empty ++ "the name " : Str).length ≤ 100 := by decide +kernel
        exact sizeOk (by omega)
      · rw [len_app, len_app]
        have : (Str.empty ++ "the name " : Str).length ≤ 100 := by decide +kernel
        have : (" is not known where it stands" : Str).length ≤ 100 := by decide +kernel
        exact sizeOk (by omega)
      · exact q2 .nn (by rw [eg, hm]; rfl) H1 f1
  · obtain ⟨rfl, hw⟩ := gWord_some e
    refine q2 .bp ?_ H1 f1
    cases d with
    | str z => show (if isWordD (.str z) = true then _ else _) = _; rw [if_neg (by rw [hw]; decide)]
    | _ => rfl
end
end Sc
namespace Sc
open PySem PyProof.Rows L2
section
variable {X : Cx}
def rNotInTD (K : PySem.W.Frag) : R2 := fun x y H Q => ∃ d ds, Dp K H x d ∧ Dp K H y (.tuple ds) ∧ SeqAt.shaped d = true ∧ SeqAt.shaped (.tuple ds) = true ∧ Q (.bl (!ds.any fun z => PyData.eqv z d)) H
theorem op_notInTD (hu : X.A.units + 65 < cLine) : OpR X (compareOp .NotIn) (rNotInTD X.K) := by
  intro pins s σ H x y v u Q I rx ry h
  obtain ⟨d, ds, hd, he, sd, se, q⟩ := h
  obtain ⟨as, r1⟩ := Dp.reads I d x v hd rx
  obtain ⟨bs, r2⟩ := Dp.reads I (.tuple ds) y u he ry
  exact SeqAt.notIn_tuple_reads r2 r1 (SeqAt.canLay_of_shaped se) (SeqAt.canLay_of_shaped sd) (room_in_shaped sd hu) ⟨.bl _, H, I, rfl, q⟩
end
def strIn (ls : List Str) : PyData → Bool
  | .str z => decide (z ∈ ls)
  | _ => false
theorem any_strD (d : PyData) : ∀ ls : List Str, ((ls.map PyData.str).any fun z => PyData.eqv z d) = strIn ls d
  | [] => by cases d <;> rfl
  | l :: ls => by
    rw [List.map_cons, List.any_cons, any_strD d ls]
    cases d with
    | str z =>
      have e : PyData.eqv (.str l) (.str z) = decide (l = z) := by
        rw [Bool.eq_iff_iff, decide_eq_true_eq]
        exact ⟨fun h => PyData.str.inj ((eqv_word _ _).mp h), fun h => (eqv_word _ _).mpr (by rw [h])⟩
      show (PyData.eqv (.str l) (.str z) || decide (z ∈ ls)) = decide (z ∈ l :: ls)
      rw [e, Bool.eq_iff_iff, Bool.or_eq_true, decide_eq_true_eq, decide_eq_true_eq, decide_eq_true_eq, List.mem_cons]
      exact ⟨fun h => h.imp Eq.symm id, fun h => h.imp Eq.symm id⟩
    | _ => simp [PyData.eqv, strIn]
section
variable {P : Program} {w : World} {K : PySem.W.Frag} {mg : Str → Option Value} {base : Heap} {T0 : List Addr} {C : Addr} {cls : Wr → Addr} {r : Int}
theorem scNeedHead : FnScope ["told", "place"] ["told", "place"] (defScope sPNeedHead) := ⟨rfl, rfl, rfl, by decide +kernel, rfl, by decide +kernel, by decide +kernel⟩
theorem c_need_head (T : Tx K mg) (R : Ers K mg cls) : CalX P w K mg base 1 "_need_head" ["told", "place"] (spAt K T0 C cls r fun _ => gHead) := by
  refine T.p_need_head.okX scNeedHead (fun vs H Q E h => ?_) (fun f cdv A outer s H vs Q Ex hr h => ?_)
  · obtain ⟨v, d, p, E, rfl, _⟩ := h
    rfl
  obtain ⟨v, d, p, E, rfl, hd, ok, tb, hp, q1, q2⟩ := h
  have hu65 : (A.deeper (envOfC "_need_head" (defScope sPNeedHead) s.heap.objs.size f cdv)).units + 65 < cLine := by have := hr.un; omega
  refine ⟨_, pss_one (ps_if (pt_cmpR (op_notInTD hu65) (pv 0) (pe_tup (pa_cons pe_str (pa_cons pe_str (pa_cons pe_str (pa_cons pe_str (pa_cons pe_str pa_nil)))))) (by rfl))
      (pss_one (ps_raise rfl (takes_of rfl rfl rfl rfl) (pmk_own PySem.F.excBase_ValueError R.bp.q R.bp.g R.bp.k (raises_own R.bp.b R.bp.t) (by exact rfl)))) pss_nil), ?_⟩
  refine ⟨_, rfl, (by show 5 ≤ sizeLine; decide), fun t ht => ?_⟩
  have e1 := same_new ht (.tup [.str "number", .str "text", .str "row", .str "book", .str "shape"])
  have f1 : Fr T0 H (upd H t (.tup [.str "number", .str "text", .str "row", .str "book", .str "shape"])) := Fr.same tb e1
  refine ⟨d, (["number", "text", "row", "book", "shape"] : List Str).map .str, (Same.keepL e1).dp hd, .tup (SqT.of upd_same) (.cons (.str _) (.cons (.str _) (.cons (.str _) (.cons (.str _) (.cons (.str _) .nil))))), ok.1, by decide +kernel, _, rfl, ?_⟩
  rw [any_strD]
  have eg : gHead d = whenB (strIn ["number", "text", "row", "book", "shape"] d) .bp := by cases d <;> rfl
  cases hm : strIn ["number", "text", "row", "book", "shape"] d with
  | true => exact q1 (by show gHead d = none; rw [eg, hm]; rfl) _ f1
  | false => exact q2 .bp (by show gHead d = some .bp; rw [eg, hm]; rfl) _ f1
theorem scNeedKindHere : FnScope ["told", "place"] ["told", "place"] (defScope sPNeedKindHere) := ⟨rfl, rfl, rfl, by decide +kernel, rfl, by decide +kernel, by decide +kernel⟩
theorem c_need_kind_here (T : Tx K mg) (L : PlC P w K mg base C) (CN : CalX P w K mg base 31 "need_kind" ["kind", "letters"] (spNeed K T0 (cls .bk) [] (fun ls => gK ls 9))) : CalX P w K mg base 32 "_need_kind_here" ["told", "place"] (spAt K T0 C cls r fun E => gKind E.ls) := by
  refine T.p_need_kind_here.okX scNeedKindHere (fun vs H Q E h => ?_) (fun f cdv A outer s H vs Q Ex hr h => ?_)
  · obtain ⟨v, d, p, E, rfl, _⟩ := h
    rfl
  obtain ⟨v, d, p, E, rfl, hd, ok, tb, hp, q1, q2⟩ := h
  dsimp only at q1 q2
  refine ⟨_, pss_one (ps_expr (pe_calX CN hr (passes_call (takes_of rfl rfl rfl rfl) (fun _ _ _ _ h => h)) (pa_cons (pv 0) (pa_cons (pe_fld (pv 1) rfl) pa_nil)))), ?_⟩
  obtain ⟨dx, la, fa, na, h1, h2, h3, h4⟩ := hp.at_
  refine ⟨_, rfl, _, rfl, p, C, dx, _, _, rfl, h1, L.cl, L.n1, pl_letters la fa na, E.ls, v, d, la, rfl, hd, ok, tb, h2, fun e H1 f1 => ?_, fun e H1 f1 => ?_⟩
  · exact q1 (by show whenB (gK E.ls 9 d) .bk = none; rw [show gK E.ls 9 d = true from e]; rfl) H1 f1
  · exact q2 .bk (by show whenB (gK E.ls 9 d) .bk = some .bk; rw [show gK E.ls 9 d = false from e]; rfl) H1 f1
theorem fb_none {l : List (Option Wr)} : firstBad l = none ↔ ∀ x ∈ l, x = none := by
  induction l with
  | nil => exact ⟨fun _ x h => (by cases h), fun _ => rfl⟩
  | cons a l ih =>
    cases a with
    | none => exact ⟨fun h x m => (List.mem_cons.mp m).elim id fun m => ih.mp h x m, fun h => ih.mpr fun x m => h x (List.mem_cons_of_mem _ m)⟩
    | some b => exact ⟨fun h => (by cases h), fun h => (by cases h _ List.mem_cons_self)⟩
theorem fb_at {l : List (Option Wr)} {j : Nat} {b : Wr} (h1 : ∀ i x, i < j → l[i]? = some x → x = none) (h2 : l[j]? = some (some b)) : firstBad l = some b := by
  induction l generalizing j with
  | nil => cases h2
  | cons a l ih =>
    cases j with
    | zero =>
      obtain rfl := Option.some.inj h2
      rfl
    | succ j =>
      obtain rfl := h1 0 a (Nat.succ_pos _) rfl
      exact ih (fun i x hi hx => h1 (i + 1) x (Nat.succ_lt_succ hi) hx) h2
/-- a loop over a tuple that asks each thing in turn -/
theorem loop_bad {g : PyData → Option Wr} {ds : List PyData} {j : Nat} (h : ∀ i d, i < j → ds[i]? = some d → g d = none) {d : PyData} (hd : ds[j]? = some d) :
    (g d = none → ∀ i d, i < j + 1 → ds[i]? = some d → g d = none) ∧ (∀ b, g d = some b → firstBad (ds.map g) = some b) := by
  refine ⟨fun e i x hi hx => ?_, fun b e => fb_at (j := j) (fun i x hi hx => ?_) (by rw [List.getElem?_map, hd]; exact congrArg some e)⟩
  · rcases Nat.lt_succ_iff_lt_or_eq.mp hi with z | z
    · exact h i x z hx
    · subst z
      rw [hd] at hx
      cases hx
      exact e
  · rw [List.getElem?_map] at hx
    obtain ⟨y, hy, rfl⟩ := Option.map_eq_some_iff.mp hx
    exact h i y hi hy
theorem loop_good {g : PyData → Option Wr} {ds : List PyData} (h : ∀ i d, i < ds.length → ds[i]? = some d → g d = none) : firstBad (ds.map g) = none := fb_none.mpr fun x m => by
  obtain ⟨d, hd, rfl⟩ := List.mem_map.mp m
  obtain ⟨i, hi⟩ := List.getElem?_of_mem hd
  exact h i d (List.getElem?_eq_some_iff.mp hi).1 hi
theorem scNeedKinds : FnScope ["told", "place", "kind"] ["told", "place"] (defScope sPNeedKinds) := ⟨rfl, rfl, rfl, by decide +kernel, rfl, by decide +kernel, by decide +kernel⟩
theorem c_need_kinds (T : Tx K mg) (R : Ers K mg cls) (L : PlC P w K mg base C) (CN : CalX P w K mg base 31 "need_kind" ["kind", "letters"] (spNeed K T0 (cls .bk) [] (fun ls => gK ls 9))) : CalX P w K mg base 32 "_need_kinds" ["told", "place"] (spAt K T0 C cls r fun E => gKinds E.ls) := by
  refine T.p_need_kinds.okX scNeedKinds (fun vs H Q E h => ?_) (fun f cdv A outer s H vs Q Ex hr h => ?_)
  · obtain ⟨v, d, p, E, rfl, _⟩ := h
    rfl
  obtain ⟨v, d, p, E, rfl, hd, ok, tb, hp, q1, q2⟩ := h
  dsimp only at q1 q2
  refine ⟨_, pss_cons (ps_if (pt_not (pt_val (pe_callB call_isi (by rfl) T.m_isinstance boot_isinstance (pa_cons (pv 0) (pa_cons (pe_bltn (v := .ty "tuple") (by rfl) T.m_tuple boot_tuple rfl) pa_nil)))))
      (pss_one (ps_raise rfl (takes_of rfl rfl rfl rfl) (pmk_own PySem.F.excBase_ValueError R.bp.q R.bp.g R.bp.k (raises_own R.bp.b R.bp.t) (by exact rfl)))) pss_nil)
    (pss_one (ps_for (passes_of rfl) rfl (pi_tup (pv 0)) (pg_name (i := 2) scNeedKinds.nd rfl (Or.inl rfl))
      (pss_one (ps_expr (pe_calX CN hr (passes_call (takes_of rfl rfl rfl rfl) (fun _ _ _ _ h => h)) (pa_cons (pv 2) (pa_cons (pe_fld (pv 1) rfl) pa_nil))))))), ?_⟩
  refine ⟨_, rfl, _, _, _, _, _, rfl, .ty _, Dp.ty hd, kit_ty (isTup hd), _, rfl, ?_⟩
  cases hd with
  | tup ht hds =>
    rename_i a vs ds
    have okx := ok.sub.2
    have lv := DpAll.len hds
    refine ⟨_, rfl, a, rfl, ⟨_, ht⟩, ?_⟩
    refine for_tup (K := K) (a := a) (xs := vs) (fun j σ2 H2 => Fr T0 H H2 ∧ (∃ o, σ2 = [some (.ref a), some (.ref p), o]) ∧ ∀ i d, i < j → ds[i]? = some d → gKind E.ls d = none) ⟨Fr.refl tb, ⟨_, rfl⟩, fun i d h => absurd h (Nat.not_lt_zero _)⟩ (fun j σ2 H2 _ h => (Fr.keep tb h.1).2 _ _ ht) ?_ ?_
    · rintro j x σ2 H2 hx ⟨f2, ⟨o, rfl⟩, al⟩
      obtain ⟨d, hd1, hd2⟩ := DpAll.get hds hx
      obtain ⟨n1, n2⟩ := loop_bad (g := gKind E.ls) al hd1
      obtain ⟨dx, la, fa, na, h1, h2, h3, h4⟩ := (hp.keep tb f2).at_
      dsimp only [gName]
      refine ⟨_, rfl, _, rfl, p, C, dx, _, _, rfl, h1, L.cl, L.n1, pl_letters la fa na, E.ls, x, d, la, rfl, (Fr.keep tb f2).dp hd2, okx d (List.mem_of_getElem? hd1), f2.tab, h2, fun e H3 f3 => ?_, fun e H3 f3 => ?_⟩
      · exact ⟨f2.trans f3, ⟨_, rfl⟩, n1 (by show whenB (gK E.ls 9 d) .bk = none; rw [show gK E.ls 9 d = true from e]; rfl)⟩
      · exact q2 .bk (n2 .bk (by show whenB (gK E.ls 9 d) .bk = some .bk; rw [show gK E.ls 9 d = false from e]; rfl)) H3 (f2.trans f3)
    · rintro σ2 H2 ⟨f2, ⟨o, rfl⟩, al⟩
      exact q1 (loop_good (g := gKind E.ls) (by rw [← lv]; exact al)) H2 f2
  | str _ => exact q2 .bp rfl H (Fr.refl tb)
  | non => exact q2 .bp rfl H (Fr.refl tb)
  | bl b => exact q2 .bp rfl H (Fr.refl tb)
  | int b => exact q2 .bp rfl H (Fr.refl tb)
  | lst _ _ => exact q2 .bp rfl H (Fr.refl tb)
theorem scNeedWhole : FnScope ["told", "place"] ["told", "place"] (defScope sPNeedWhole) := ⟨rfl, rfl, rfl, by decide +kernel, rfl, by decide +kernel, by decide +kernel⟩
theorem c_need_whole (T : Tx K mg) (R : Ers K mg cls) : CalX P w K mg base 1 "_need_whole" ["told", "place"] (spAt K T0 C cls r fun _ => gWhole) := by
  refine T.p_need_whole.okX scNeedWhole (fun vs H Q E h => ?_) (fun f cdv A outer s H vs Q Ex hr h => ?_)
  · obtain ⟨v, d, p, E, rfl, _⟩ := h
    rfl
  obtain ⟨v, d, p, E, rfl, hd, ok, tb, hp, q1, q2⟩ := h
  dsimp only at q1 q2
  refine ⟨_, pss_one (ps_if (PW.pt (pw_or (pt_val (pe_callB call_isi (by rfl) T.m_isinstance boot_isinstance (pa_cons (pv 0) (pa_cons (pe_bltn (v := .ty "bool") (by rfl) T.m_bool boot_bool rfl) pa_nil))))
      (pw_or (pt_not (pt_val (pe_callB call_isi (by rfl) T.m_isinstance boot_isinstance (pa_cons (pv 0) (pa_cons (pe_bltn (v := .ty "int") (by rfl) T.m_int boot_int rfl) pa_nil)))))
      (pw_or1 (pt_cmpR op_ge (pe_callB call_abs (by rfl) T.m_abs (by decide +kernel) (pa_cons (pv 0) pa_nil)) (pe_op op_pow pe_int pe_int) (nomark _))))))
      (pss_one (ps_raise rfl (takes_of rfl rfl rfl rfl) (pmk_own PySem.F.excBase_ValueError R.bp.q R.bp.g R.bp.k (raises_own R.bp.b R.bp.t) (by exact rfl)))) pss_nil), ?_⟩
  have neg : gWhole d = some .bp → Ex (.ref (cls .bp)) none H := fun e => q2 .bp e H (Fr.refl tb)
  have ty := Dp.ty hd
  have i1 := noM hd
  have i2 := isIntD hd
  show tOr _ _ _ _ _
  cases hd with
  | int n =>
    refine or_pure false (decide ((10 : Int) ^ 30 ≤ (if n < 0 then -n else n))) (fun R1 h => ⟨_, rfl, _, _, _, _, _, rfl, .ty _, ty, kit_ty i1, _, rfl, h⟩) (fun _ R1 h => ?_) (fun h => ?_) (fun _ h => ?_)
    · show tOr _ _ _ _ _
      refine or_pure false (decide ((10 : Int) ^ 30 ≤ (if n < 0 then -n else n))) (fun R2 h => ⟨_, rfl, _, _, _, _, _, rfl, .ty _, ty, kit_ty i2, _, rfl, h⟩) (fun _ R2 h => ⟨_, rfl, n, rfl, _, _, rfl, rfl, ⟨by decide, by decide, by decide⟩, _, _, rfl, rfl, _, rfl, h⟩) (fun e => ?_) (fun _ e => ?_)
      · rw [e.elim (fun z => by cases z) id] at h
        exact h
      · rw [e] at h
        exact h
    · have e := of_decide_eq_true (h.elim (fun z => by cases z) id)
      refine neg ?_
      show whenB (decide (n.natAbs < 10 ^ 30)) .bp = some .bp
      rw [decide_eq_false (by split at e <;> omega)]
      rfl
    · have e := of_decide_eq_false h
      refine q1 ?_ H (Fr.refl tb)
      show whenB (decide (n.natAbs < 10 ^ 30)) .bp = none
      rw [decide_eq_true (by split at e <;> omega)]
      rfl
  | bl b => exact or_pure true true (fun R1 h => ⟨_, rfl, _, _, _, _, _, rfl, .ty _, ty, kit_ty i1, _, rfl, h⟩) (fun h => by cases h) (fun _ => neg rfl) (fun h => by cases h)
  | str _ => exact or_pure false true (fun R1 h => ⟨_, rfl, _, _, _, _, _, rfl, .ty _, ty, kit_ty i1, _, rfl, h⟩) (fun _ R1 h => by
      show tOr _ _ _ _ _
      exact or_pure true true (fun R2 h => ⟨_, rfl, _, _, _, _, _, rfl, .ty _, ty, kit_ty i2, _, rfl, h⟩) (fun h => by cases h) (fun _ => h) (fun h => by cases h)) (fun _ => neg rfl) (fun _ h => by cases h)
  | non => exact or_pure false true (fun R1 h => ⟨_, rfl, _, _, _, _, _, rfl, .ty _, ty, kit_ty i1, _, rfl, h⟩) (fun _ R1 h => by
      show tOr _ _ _ _ _
      exact or_pure true true (fun R2 h => ⟨_, rfl, _, _, _, _, _, rfl, .ty _, ty, kit_ty i2, _, rfl, h⟩) (fun h => by cases h) (fun _ => h) (fun h => by cases h)) (fun _ => neg rfl) (fun _ h => by cases h)
  | lst _ _ => exact or_pure false true (fun R1 h => ⟨_, rfl, _, _, _, _, _, rfl, .ty _, ty, kit_ty i1, _, rfl, h⟩) (fun _ R1 h => by
      show tOr _ _ _ _ _
      exact or_pure true true (fun R2 h => ⟨_, rfl, _, _, _, _, _, rfl, .ty _, ty, kit_ty i2, _, rfl, h⟩) (fun h => by cases h) (fun _ => h) (fun h => by cases h)) (fun _ => neg rfl) (fun _ h => by cases h)
  | tup _ _ => exact or_pure false true (fun R1 h => ⟨_, rfl, _, _, _, _, _, rfl, .ty _, ty, kit_ty i1, _, rfl, h⟩) (fun _ R1 h => by
      show tOr _ _ _ _ _
      exact or_pure true true (fun R2 h => ⟨_, rfl, _, _, _, _, _, rfl, .ty _, ty, kit_ty i2, _, rfl, h⟩) (fun h => by cases h) (fun _ => h) (fun h => by cases h)) (fun _ => neg rfl) (fun _ h => by cases h)
end
end Sc
namespace Sc
open PySem PyProof.Rows L2
def slotIn (rec tOk : PyData → Prop) (s : Str) (d : PyData) : Prop :=
  (s = ("text" : Str) → tOk d) ∧ ((s = ("part" : Str) ∨ s = ("last" : Str)) → rec d) ∧
    ∀ ds, d = .tuple ds → ((s = ("parts" : Str) ∨ s = ("handed" : Str)) → ∀ x ∈ ds, rec x) ∧ (s = ("fields" : Str) → ∀ f p, PyData.tuple [f, p] ∈ ds → rec p)
/-- all texts in parts are such -/
def txs (tOk : PyData → Prop) : Nat → PyData → Prop
  | 0, _ => True
  | n + 1, d => ∀ w fm ts, formOf d = some (w, fm, ts) → ∀ (j : Nat) (s : Str) (t : PyData), fm[j]? = some s → ts[j]? = some t → slotIn (txs tOk n) tOk s t
def spAtG (K : PySem.W.Frag) (T : List Addr) (C : Addr) (cls : Wr → Addr) (r : Int) (G : Env0 → PyData → Prop) (g : Env0 → PyData → Option Wr) : Sp := fun vs H Q Ex => ∃ (v : V) (d : PyData) (p : Addr) (E : Env0), vs = [v, .ref p] ∧ Dp K H v d ∧ okD d ∧ Tb T H ∧ PlaceAt K C H p E r ∧ G E d ∧
  (g E d = none → ∀ H', Fr T H H' → Q .non H') ∧ (∀ b, g E d = some b → ∀ H', Fr T H H' → Ex (.ref (cls b)) none H')
section
variable {P : Program} {w : World} {K : PySem.W.Frag} {mg : Str → Option Value} {base : Heap} {T0 : List Addr} {C : Addr} {cls : Wr → Addr} {r : Int}
theorem fn_at {K : PySem.W.Frag} {H : Hp} {kvs : List (Key × V)} {fs : List (Str × Nat × Nat)} (z : Str) (h : kvs.map (·.1) = fs.map (fun q => (Sum.inr q.1 : Key))) : (valV kvs (Sum.inr z)).isSome = decide (z ∈ fs.map (·.1)) := by
  unfold valV
  induction kvs generalizing fs with
  | nil =>
    cases fs with
    | nil => rfl
    | cons _ _ => cases h
  | cons a kvs ih =>
    cases fs with
    | nil => cases h
    | cons b fs =>
      rw [List.map_cons, List.map_cons] at h
      injection h with h1 h2
      have i := ih h2
      rw [List.find?_cons, List.map_cons]
      by_cases e : b.1 = z
      · rw [show decide (a.1 = Sum.inr z) = true from decide_eq_true (by rw [h1, e])]
        rw [decide_eq_true (show z ∈ b.1 :: fs.map (·.1) by rw [e]; exact List.mem_cons_self)]
        rfl
      · have ne : ¬ a.1 = (Sum.inr z : Key) := fun q => e (by rw [h1] at q; exact Sum.inr.inj q)
        rw [show decide (a.1 = Sum.inr z) = false from decide_eq_false ne]
        have mm : decide (z ∈ b.1 :: fs.map (·.1)) = decide (z ∈ fs.map (·.1)) := decide_eq_decide.mpr ⟨fun m => (List.mem_cons.mp m).elim (fun q => absurd q.symm e) id, List.mem_cons_of_mem _⟩
        rw [mm]
        exact i
theorem scNeedTold : FnScope ["told", "place"] ["told", "place"] (defScope sPNeedToldEarlier) := ⟨rfl, rfl, rfl, by decide +kernel, rfl, by decide +kernel, by decide +kernel⟩
theorem c_need_told (T : Tx K mg) (R : Ers K mg cls) (L : PlC P w K mg base C) (CW : CalX P w K mg base 3 "_need_word" ["told", "place"] (spAt K T0 C cls r fun _ => gWord)) : CalX P w K mg base 4 "_need_told_earlier" ["told", "place"] (spAt K T0 C cls r gFun) := by
  refine T.p_need_told_earlier.okX scNeedTold (fun vs H Q E h => ?_) (fun f cdv A outer s H vs Q Ex hr h => ?_)
  · obtain ⟨v, d, p, E, rfl, _⟩ := h
    rfl
  obtain ⟨v, d, p, E, rfl, hd, ok, tb, hp, q1, q2⟩ := h
  have hu1 : (A.deeper (envOfC "_need_told_earlier" (defScope sPNeedToldEarlier) s.heap.objs.size f cdv)).units + 1 < cLine := by have := hr.un; omega
  refine ⟨_, pss_cons (ps_expr (pe_calX CW hr (passes_call (takes_of rfl rfl rfl rfl) (fun _ _ _ _ h => h)) (pa_cons (pv 0) (pa_cons (pv 1) pa_nil))))
    (pss_one (ps_if (pt_cmp (pc_dnotin hu1 (pv 0) (pe_fld (pv 1) rfl)) (by rfl))
      (pss_one (ps_raise rfl (takes_of rfl rfl rfl rfl) (SkE.pmk_own1 PySem.F.excBase_ValueError R.nn.q R.nn.g R.nn.k (raises_own R.nn.b R.nn.t) (by exact rfl) (pe_fs (.cons pe_str (.cons (pe_fmt (pv 0)) (.cons pe_str .nil))))))) pss_nil)), ?_⟩
  refine ⟨_, rfl, _, rfl, v, d, p, E, rfl, hd, ok, tb, hp, fun e H1 f1 => ?_, fun b e H1 f1 => ?_⟩
  · obtain ⟨z, rfl, hz⟩ := gWord_none e
    cases hd
    have hp1 := hp.keep tb f1
    obtain ⟨dx, la, fa, na, h1, h2, ⟨kvs, k1, k2, nd, k3⟩, h4⟩ := hp1.at_
    have eg : gFun E (.str z) = whenB (decide (z ∈ E.fs.map (·.1))) .nn := by show (if isWordD (.str z) = true then _ else _) = _; rw [if_pos hz]
    refine ⟨_, rfl, _, rfl, p, C, dx, _, _, rfl, h1, L.cl, L.n2, pl_functions la fa na, fa, _, rfl, DGet.k (k := Sum.inr z) k1, _, rfl, ?_⟩
    rw [fn_at (K := K) (H := H1) z k2]
    have z8 : z.length ≤ 8 := (of_decide_eq_true (show decide (Word z) = true from hz)).2.1
    cases hm : decide (z ∈ E.fs.map (·.1)) with
    | true => exact q1 (by rw [eg, hm]; rfl) H1 f1
    | false =>
      refine ⟨_, rfl, by decide +kernel, _, rfl, .inl ⟨z, rfl, sizeOk (by omega), _, rfl, ?_, _, rfl, ?_, ?_⟩⟩
      · rw [len_app]
        have : (Str.empty ++ "no function " : Str).length ≤ 100 := by decide +kernel
        exact sizeOk (by omega)
      · rw [len_app, len_app]
        have : (Str.empty ++ "no function " : Str).length ≤ 100 := by decide +kernel
        have : (" is told earlier" : Str).length ≤ 100 := by decide +kernel
        exact sizeOk (by omega)
      · exact q2 .nn (by rw [eg, hm]; rfl) H1 f1
  · obtain ⟨rfl, hw⟩ := gWord_some e
    refine q2 .bp ?_ H1 f1
    cases d with
    | str z => show (if isWordD (.str z) = true then _ else _) = _; rw [if_neg (by rw [hw]; decide)]
    | _ => rfl
theorem scNeedIn : FnScope ["told", "place"] ["told", "place"] (defScope sPNeedWithin) := ⟨rfl, rfl, rfl, by decide +kernel, rfl, by decide +kernel, by decide +kernel⟩
theorem c_need_in {n lv : Nat} {G : Env0 → PyData → Prop} {g : Env0 → PyData → Option Wr} (T : Tx K mg) (L : PlC P w K mg base C) (lv2 : 2 ≤ lv) (CP : CalX P w K mg base lv "_need_part" ["part", "place"] (spAtG K T0 C cls (n : Nat) G g)) : CalX P w K mg base (lv + 1) "_need_within" ["told", "place"] (spAtG K T0 C cls ((n + 1 : Nat) : Int) G g) := by
  obtain ⟨fI, fdI, GI, MI, BI⟩ := L.ini
  refine T.p_need_within.okX scNeedIn (fun vs H Q E h => ?_) (fun f cdv A outer s H vs Q Ex hr h => ?_)
  · obtain ⟨v, d, p, E, rfl, _⟩ := h
    rfl
  obtain ⟨v, d, p, E, rfl, hd, ok, tb, hp, hG, q1, q2⟩ := h
  have r2 : Room 2 _ := hr.mono lv2
  refine ⟨_, pss_one (ps_expr (pe_calX CP hr (passes_call (takes_of rfl rfl rfl rfl) (fun _ _ _ _ h => h)) (pa_cons (pv 0) (pa_cons (pe_make MI GI r2 (by rfl) L.g BI .nil pass0 (pa_cons (pe_fld (pv 1) rfl) (pa_cons (pe_fld (pv 1) rfl) (pa_cons (pe_fld (pv 1) rfl) (pa_cons (pe_op op_sub (pe_fld (pv 1) rfl) pe_int) pa_nil))))) pa_nil)))), ?_⟩
  obtain ⟨dx, la, fa, na, h1, h2, h3, h4⟩ := hp.at_
  refine ⟨_, rfl, _, rfl, p, C, dx, _, _, rfl, h1, L.cl, L.n1, pl_letters la fa na, _, rfl, p, C, dx, _, _, rfl, h1, L.cl, L.n2, pl_functions la fa na, _, rfl, p, C, dx, _, _, rfl, h1, L.cl, L.n3, pl_names la fa na, _, rfl, p, C, dx, _, _, rfl, h1, L.cl, L.n4, pl_room la fa na, _, _, rfl, rfl, fun x dx' nx ndx nex => ?_⟩
  have s0 : Same H (upd (upd H dx' (.own x)) x (.ins C dx' [])) := fun b o e => by
    rw [upd_ne (ne_of_none e nx), upd_ne (ne_of_none e ndx)]
    exact e
  refine ⟨x, dx', la, fa, na, _, rfl, upd_same, fun H1 hx kp => ⟨rfl, ?_⟩⟩
  have s1 : Same H H1 := fun c o e => kp c o (s0 c o e) (ne_of_none e nx)
  have f1 : Fr T0 H H1 := Fr.same tb s1
  have kl := Fr.keep (K := K) tb f1
  have en : ((n + 1 : Nat) : Int) - 1 = (n : Int) := by omega
  rw [en] at hx
  exact ⟨v, d, x, E, rfl, kl.dp hd, ok, f1.tab, ⟨⟨dx', la, fa, na, hx, kl.2 _ _ h2, h3.keep tb f1, kl.2 _ _ h4⟩⟩, hG, fun e H2 f2 => q1 e H2 (f1.trans f2), fun b e H2 f2 => q2 b e H2 (f1.trans f2)⟩
theorem scNeedHanded : FnScope ["told", "place", "part"] ["told", "place"] (defScope sPNeedHanded) := ⟨rfl, rfl, rfl, by decide +kernel, rfl, by decide +kernel, by decide +kernel⟩
theorem c_need_handed {lv : Nat} {G : Env0 → PyData → Prop} {g : Env0 → PyData → Option Wr} (T : Tx K mg) (R : Ers K mg cls) (CW : CalX P w K mg base lv "_need_within" ["told", "place"] (spAtG K T0 C cls r G g)) :
    CalX P w K mg base (lv + 1) "_need_handed" ["told", "place"] (spAtG K T0 C cls r (fun E d => ∀ ds, d = .tuple ds → ∀ x ∈ ds, G E x) fun E => gHanded (g E)) := by
  refine T.p_need_handed.okX scNeedHanded (fun vs H Q E h => ?_) (fun f cdv A outer s H vs Q Ex hr h => ?_)
  · obtain ⟨v, d, p, E, rfl, _⟩ := h
    rfl
  obtain ⟨v, d, p, E, rfl, hd, ok, tb, hp, hG, q1, q2⟩ := h
  dsimp only at q1 q2
  refine ⟨_, pss_cons (ps_if (pt_not (pt_val (pe_callB call_isi (by rfl) T.m_isinstance boot_isinstance (pa_cons (pv 0) (pa_cons (pe_bltn (v := .ty "tuple") (by rfl) T.m_tuple boot_tuple rfl) pa_nil)))))
      (pss_one (ps_raise rfl (takes_of rfl rfl rfl rfl) (pmk_own PySem.F.excBase_ValueError R.bp.q R.bp.g R.bp.k (raises_own R.bp.b R.bp.t) (by exact rfl)))) pss_nil)
    (pss_one (ps_for (passes_of rfl) rfl (pi_tup (pv 0)) (pg_name (i := 2) scNeedHanded.nd rfl (Or.inl rfl))
      (pss_one (ps_expr (pe_calX CW hr (passes_call (takes_of rfl rfl rfl rfl) (fun _ _ _ _ h => h)) (pa_cons (pv 2) (pa_cons (pv 1) pa_nil))))))), ?_⟩
  refine ⟨_, rfl, _, _, _, _, _, rfl, .ty _, Dp.ty hd, kit_ty (isTup hd), _, rfl, ?_⟩
  cases hd with
  | tup ht hds =>
    rename_i a vs ds
    have okx := ok.sub.2
    have lv := DpAll.len hds
    refine ⟨_, rfl, a, rfl, ⟨_, ht⟩, ?_⟩
    refine for_tup (K := K) (a := a) (xs := vs) (fun j σ2 H2 => Fr T0 H H2 ∧ (∃ o, σ2 = [some (.ref a), some (.ref p), o]) ∧ ∀ i d, i < j → ds[i]? = some d → g E d = none) ⟨Fr.refl tb, ⟨_, rfl⟩, fun i d h => absurd h (Nat.not_lt_zero _)⟩ (fun j σ2 H2 _ h => (Fr.keep tb h.1).2 _ _ ht) ?_ ?_
    · rintro j x σ2 H2 hx ⟨f2, ⟨o, rfl⟩, al⟩
      obtain ⟨d, hd1, hd2⟩ := DpAll.get hds hx
      have md := List.mem_of_getElem? hd1
      obtain ⟨n1, n2⟩ := loop_bad (g := g E) al hd1
      dsimp only [gName]
      refine ⟨_, rfl, _, rfl, x, d, p, E, rfl, (Fr.keep tb f2).dp hd2, okx d md, f2.tab, hp.keep tb f2, hG ds rfl d md, fun e H3 f3 => ⟨f2.trans f3, ⟨_, rfl⟩, n1 e⟩, fun b e H3 f3 => q2 b (n2 b e) H3 (f2.trans f3)⟩
    · rintro σ2 H2 ⟨f2, ⟨o, rfl⟩, al⟩
      exact q1 (loop_good (g := g E) (by rw [← lv]; exact al)) H2 f2
  | str _ => exact q2 .bp rfl H (Fr.refl tb)
  | non => exact q2 .bp rfl H (Fr.refl tb)
  | bl b => exact q2 .bp rfl H (Fr.refl tb)
  | int b => exact q2 .bp rfl H (Fr.refl tb)
  | lst _ _ => exact q2 .bp rfl H (Fr.refl tb)
theorem scNeedParts : FnScope ["told", "place"] ["told", "place"] (defScope sPNeedParts) := ⟨rfl, rfl, rfl, by decide +kernel, rfl, by decide +kernel, by decide +kernel⟩
theorem gHanded_tuple {rec : PyData → Option Wr} {d : PyData} (h : gHanded rec d = none) : ∃ ds, d = .tuple ds := by
  cases d with
  | tuple ds => exact ⟨ds, rfl⟩
  | _ => cases h
theorem c_need_parts {lv : Nat} {G : Env0 → PyData → Prop} {g : Env0 → PyData → Option Wr} (T : Tx K mg) (R : Ers K mg cls) (CH : CalX P w K mg base lv "_need_handed" ["told", "place"] (spAtG K T0 C cls r G fun E => gHanded (g E))) :
    CalX P w K mg base (lv + 1) "_need_parts" ["told", "place"] (spAtG K T0 C cls r G fun E => gParts (g E)) := by
  refine T.p_need_parts.okX scNeedParts (fun vs H Q E h => ?_) (fun f cdv A outer s H vs Q Ex hr h => ?_)
  · obtain ⟨v, d, p, E, rfl, _⟩ := h
    rfl
  obtain ⟨v, d, p, E, rfl, hd, ok, tb, hp, hG, q1, q2⟩ := h
  dsimp only at q1 q2
  refine ⟨_, pss_cons (ps_expr (pe_calX CH hr (passes_call (takes_of rfl rfl rfl rfl) (fun _ _ _ _ h => h)) (pa_cons (pv 0) (pa_cons (pv 1) pa_nil))))
    (pss_one (ps_if (pt_cmpR op_eq (pe_callB call_len_seq (by rfl) T.m_len PySem.boot_len (pa_cons (pv 0) pa_nil)) pe_int (nomark _))
      (pss_one (ps_raise rfl (takes_of rfl rfl rfl rfl) (pmk_own PySem.F.excBase_ValueError R.bp.q R.bp.g R.bp.k (raises_own R.bp.b R.bp.t) (by exact rfl)))) pss_nil)), ?_⟩
  refine ⟨_, rfl, _, rfl, v, d, p, E, rfl, hd, ok, tb, hp, hG, fun e H1 f1 => ?_, fun b e H1 f1 => ?_⟩
  · obtain ⟨ds, rfl⟩ := gHanded_tuple e
    have e : gHanded (g E) (.tuple ds) = none := e
    have hd1 := (Fr.keep tb f1).dp hd
    cases hd1 with
    | tup ht hds =>
      rename_i a vs
      have lv := DpAll.len hds
      refine ⟨_, rfl, a, vs, rfl, .inr ht, rfl, _, rfl, ite2 (fun z => ?_) (fun z => ?_)⟩
      · have z' := V.int.inj (of_decide_eq_true z)
        have d0 : ds = [] := List.length_eq_zero_iff.mp (by omega)
        exact q2 .bp (by subst d0; unfold gParts; rw [e]) H1 f1
      · refine q1 ?_ H1 f1
        unfold gParts
        rw [e]
        cases ds with
        | nil => exact absurd (decide_eq_true (by rw [lv]; rfl)) z
        | cons _ _ => rfl
  · have e : gHanded (g E) d = some b := e
    exact q2 b (by unfold gParts; rw [e]) H1 f1
theorem scNeedFields2 : FnScope ["told", "place", "field", "part"] ["told", "place"] (defScope sPNeedFields2) := ⟨rfl, rfl, rfl, by decide +kernel, rfl, by decide +kernel, by decide +kernel⟩
theorem c_need_fields2 {lv : Nat} {G : Env0 → PyData → Prop} {g : Env0 → PyData → Option Wr} (T : Tx K mg) (R : Ers K mg cls) (lv3 : 3 ≤ lv) (CF : Cal P w K mg base 1 "are_fields" ["thing"] (spTest K T0 fldD)) (CN : CalX P w K mg base 3 "_need_word" ["told", "place"] (spAt K T0 C cls r fun _ => gWord))
    (CW : CalX P w K mg base lv "_need_within" ["told", "place"] (spAtG K T0 C cls r G g)) :
    CalX P w K mg base (lv + 1) "_need_fields" ["told", "place"] (spAtG K T0 C cls r (fun E d => ∀ ds, d = .tuple ds → ∀ f p, PyData.tuple [f, p] ∈ ds → G E p) fun E => gFields (g E)) := by
  refine T.p_need_fields2.okX scNeedFields2 (fun vs H Q E h => ?_) (fun f cdv A outer s H vs Q Ex hr h => ?_)
  · obtain ⟨v, d, p, E, rfl, _⟩ := h
    rfl
  obtain ⟨v, d, p, E, rfl, hd, ok, tb, hp, hG, q1, q2⟩ := h
  dsimp only at q1 q2
  have r1 : Room 1 _ := hr.mono (by omega)
  have r3 : Room 3 _ := hr.mono lv3
  refine ⟨_, pss_cons (ps_if (pt_not (pt_val (pe_cal CF r1 (pa_cons (pv 0) pa_nil))))
      (pss_one (ps_raise rfl (takes_of rfl rfl rfl rfl) (pmk_own PySem.F.excBase_ValueError R.bp.q R.bp.g R.bp.k (raises_own R.bp.b R.bp.t) (by exact rfl)))) pss_nil)
    (pss_one (ps_for (passes_of rfl) rfl (pi_tup (pv 0)) (pg_tup (by rfl) (pgs_cons (pg_name (i := 2) scNeedFields2.nd rfl (Or.inl rfl)) (pgs_cons (pg_name (i := 3) scNeedFields2.nd rfl (Or.inl rfl)) pgs_nil)))
      (pss_cons (ps_expr (pe_calX CN r3 (passes_call (takes_of rfl rfl rfl rfl) (fun _ _ _ _ h => h)) (pa_cons (pv 2) (pa_cons (pv 1) pa_nil))))
      (pss_one (ps_expr (pe_calX CW hr (passes_call (takes_of rfl rfl rfl rfl) (fun _ _ _ _ h => h)) (pa_cons (pv 3) (pa_cons (pv 1) pa_nil)))))))), ?_⟩
  refine ⟨_, rfl, v, d, rfl, hd, ok, tb, fun H1 f1 => ⟨_, rfl, ?_⟩⟩
  cases h1 : fldD d with
  | false => exact q2 .bp (by cases d with | tuple ds => show (if fldD (.tuple ds) = true then _ else _) = _; rw [h1]; rfl | _ => rfl) H1 f1
  | true =>
    cases hd with
    | tup ht hds =>
      rename_i a vs ds
      obtain ⟨len, okx⟩ := ok.sub
      have lv0 := DpAll.len hds
      have hpd : ds.all pairD = true := by
        have h' : (!ds.isEmpty && ds.all pairD && ascB (ds.map nameD)) = true := h1
        rw [Bool.and_eq_true, Bool.and_eq_true] at h'
        exact h'.1.2
      have eg : gFields (g E) (.tuple ds) = firstBad (ds.map (gField (g E))) := by show (if fldD (.tuple ds) = true then _ else _) = _; rw [if_pos h1]
      refine ⟨_, rfl, a, rfl, ⟨_, (Fr.keep tb f1).2 _ _ ht⟩, ?_⟩
      refine for_tup (K := K) (a := a) (xs := vs) (fun j σ2 H2 => Fr T0 H H2 ∧ (∃ o1 o2, σ2 = [some (.ref a), some (.ref p), o1, o2]) ∧ ∀ i d, i < j → ds[i]? = some d → gField (g E) d = none) ⟨f1, ⟨_, _, rfl⟩, fun i d h => absurd h (Nat.not_lt_zero _)⟩ (fun j σ2 H2 _ h => (Fr.keep tb h.1).2 _ _ ht) ?_ ?_
      · rintro j x σ2 H2 hx ⟨f2, ⟨o1, o2, rfl⟩, al⟩
        obtain ⟨d, hd1, hd2⟩ := DpAll.get hds hx
        have md := List.mem_of_getElem? hd1
        have pd := List.all_eq_true.mp hpd d md
        have okd := okx d md
        obtain ⟨n1, n2⟩ := loop_bad (g := gField (g E)) al hd1
        have hd2' := (Fr.keep tb f2).dp hd2
        cases hd2' with
        | tup ht2 hds2 =>
          rename_i a2 vs2 ds2
          have two : vs2.length = 2 := Classical.byContradiction fun z => by rw [pair_len (by rw [← DpAll.len hds2]; exact z)] at pd; cases pd
          obtain ⟨x1, x2, d1, d2, rfl, rfl, h3, h4⟩ := two_open hds2 two
          have ok1 := okd.sub.2 d1 List.mem_cons_self
          have ok2 := okd.sub.2 d2 (List.mem_cons_of_mem _ List.mem_cons_self)
          dsimp only [gName]
          refine ⟨a2, _, rfl, ht2, rfl, _, _, rfl, _, _, rfl, rfl, ?_⟩
          dsimp only [gName]
          refine ⟨_, rfl, _, rfl, x1, d1, p, E, rfl, h3, ok1, f2.tab, hp.keep tb f2, fun e H3 f3 => ?_, fun b e H3 f3 => ?_⟩
          · have f23 := f2.trans f3
            refine ⟨_, rfl, _, rfl, x2, d2, p, E, rfl, (Fr.keep f2.tab f3).dp h4, ok2, f3.tab, hp.keep tb f23, hG ds rfl d1 d2 md, fun e2 H4 f4 => ?_, fun b e2 H4 f4 => ?_⟩
            · exact ⟨f23.trans f4, ⟨_, _, rfl⟩, n1 (by show (match gWord d1 with | some b => some b | none => g E d2) = none; rw [show gWord d1 = none from e]; exact e2)⟩
            · exact q2 b (by rw [eg]; exact n2 b (by show (match gWord d1 with | some b => some b | none => g E d2) = some b; rw [show gWord d1 = none from e]; exact e2)) H4 (f23.trans f4)
          · exact q2 b (by rw [eg]; exact n2 b (by show (match gWord d1 with | some b => some b | none => g E d2) = some b; rw [show gWord d1 = some b from e])) H3 (f2.trans f3)
        | str _ => cases pd
        | non => cases pd
        | bl _ => cases pd
        | int _ => cases pd
        | lst _ _ => cases pd
      · rintro σ2 H2 ⟨f2, ⟨o1, o2, rfl⟩, al⟩
        exact q1 (by rw [eg]; exact loop_good (g := gField (g E)) (by rw [← lv0]; exact al)) H2 f2
    | str _ => cases h1
    | non => cases h1
    | bl _ => cases h1
    | int _ => cases h1
    | lst _ _ => cases h1
end
end Sc
namespace Sc
open PySem PyProof.Rows L2
def slotNames : List Str := ["whole", "text", "known", "given", "field", "head", "kind", "part", "last", "parts", "fields", "function", "kinds", "handed"]
theorem formlook_mem {z : Str} {fm : List Str} : ∀ {l : List (Str × List Str)}, l.lookup z = some fm → (z, fm) ∈ l
  | (a, b) :: l, h => by
    rw [List.lookup_cons] at h
    by_cases e : z = a
    · rw [show (z == a) = true by rw [e]; exact beq_self_eq_true a] at h
      have h' : b = fm := Option.some.inj h
      rw [e, h']
      exact List.mem_cons_self
    · rw [show (z == a) = false from beq_eq_false_iff_ne.mpr e] at h
      exact List.mem_cons_of_mem _ (formlook_mem h)
theorem form_slots {z : Str} {fm : List Str} (h : formTab.lookup z = some fm) : (∀ s ∈ fm, s ∈ slotNames) ∧ fm.length ≤ 6 ∧ z.length ≤ 8 := by
  have all : ∀ p ∈ formTab, (∀ s ∈ p.2, s ∈ slotNames) ∧ p.2.length ≤ 6 ∧ p.1.length ≤ 8 := by decide +kernel
  exact all _ (formlook_mem h)
/-- the table of forms, as the top has it -/
structure FT (K : PySem.W.Frag) (w : World) (mg : Str → Option Value) (FA : Addr) : Prop where
  g : mg "FORMS" = some (.ref FA)
  d : ∃ es n, KDict K w FA es n
  some_ : ∀ z fm, formTab.lookup z = some fm → ∃ t : Addr, PySem.W.nsIn K FA z = some (some (.ref t)) ∧ ∀ H : Hp, SqT K H t (fm.map V.str)
  none_ : ∀ z, formTab.lookup z = none → PySem.W.nsIn K FA z = some none
theorem FT.at_ {K : PySem.W.Frag} {w : World} {mg : Str → Option Value} {FA : Addr} (F : FT K w mg FA) {z : Str} {fm : List Str} (h : formTab.lookup z = some fm) : ∃ t : Addr, KDct K w FA z (.ref t) ∧ ∀ H : Hp, SqT K H t (fm.map V.str) := by
  obtain ⟨t, h1, h2⟩ := F.some_ z fm h
  obtain ⟨es, n, D⟩ := F.d
  exact ⟨t, ⟨es, n, .ref t, D.at_, D.lit, h1, rfl⟩, h2⟩
section
variable {P : Program} {w : World} {K : PySem.W.Frag} {mg : Str → Option Value} {base : Heap} {T0 : List Addr} {C FA : Addr} {cls : Wr → Addr}
def spForm (K : PySem.W.Frag) (T : List Addr) (cls : Wr → Addr) : Sp := fun vs H Q Ex => ∃ (v : V) (d : PyData), vs = [v] ∧ Dp K H v d ∧ okD d ∧ Tb T H ∧
  (∀ w fm ts, formOf d = some (w, fm, ts) → ∀ t, (∀ H' : Hp, SqT K H' t (fm.map V.str)) → Q (.ref t) H) ∧ (formOf d = none → ∀ H', Fr T H H' → Ex (.ref (cls .bp)) none H')
theorem scForm : FnScope ["part", "form"] ["part"] (defScope sPFormOf) := ⟨rfl, rfl, rfl, by decide +kernel, rfl, by decide +kernel, by decide +kernel⟩
theorem c_form_of (T : Tx K mg) (R : Ers K mg cls) (F : FT K w mg FA) : CalX P w K mg base 1 "_form_of" ["part"] (spForm K T0 cls) := by
  obtain ⟨es, nn, D⟩ := F.d
  refine T.p_form_of.okX scForm (fun vs H Q E h => ?_) (fun f cdv A outer s H vs Q Ex hr h => ?_)
  · obtain ⟨v, d, rfl, _⟩ := h
    rfl
  obtain ⟨v, d, rfl, hd, ok, tb, q1, q2⟩ := h
  refine ⟨_, pss_cons (ps_if (PW.pt (pw_or (pt_not (pt_val (pe_callB call_isi (by rfl) T.m_isinstance boot_isinstance (pa_cons (pv 0) (pa_cons (pe_bltn (v := .ty "tuple") (by rfl) T.m_tuple boot_tuple rfl) pa_nil)))))
        (pw_or1 (pt_cmpR op_eq (pe_callB call_len_seq (by rfl) T.m_len PySem.boot_len (pa_cons (pv 0) pa_nil)) pe_int (nomark _)))))
      (pss_one (ps_raise rfl (takes_of rfl rfl rfl rfl) (pmk_own PySem.F.excBase_ValueError R.bp.q R.bp.g R.bp.k (raises_own R.bp.b R.bp.t) (by exact rfl)))) pss_nil)
    (pss_cons (ps_if (PW.pt (pw_or (pt_not (pt_val (pe_callB call_isi (by rfl) T.m_isinstance boot_isinstance (pa_cons (pe_ix ix_tup (pv 0) pe_int (fun _ _ => rfl)) (pa_cons (pe_bltn (v := .ty "str") (by rfl) T.m_str boot_str rfl) pa_nil)))))
        (pw_or1 (pt_cmpR (op_notIn_kd D) (pe_ix ix_tup (pv 0) pe_int (fun _ _ => rfl)) (pe_glob (v := .ref FA) (by rfl) F.g rfl) (by rfl)))))
      (pss_one (ps_raise rfl (takes_of rfl rfl rfl rfl) (pmk_own PySem.F.excBase_ValueError R.bp.q R.bp.g R.bp.k (raises_own R.bp.b R.bp.t) (by exact rfl)))) pss_nil)
    (pss_cons (ps_set (i := 1) scForm.nd rfl (Or.inl rfl) (pe_ix ix_kdict (pe_glob (v := .ref FA) (by rfl) F.g rfl) (pe_ix ix_tup (pv 0) pe_int (fun _ _ => rfl)) (fun _ _ => rfl)))
    (pss_cons (ps_if (pt_cmpR op_ne (pe_callB call_len_seq (by rfl) T.m_len PySem.boot_len (pa_cons (pv 0) pa_nil)) (pe_op op_add (pe_callB call_len_seq (by rfl) T.m_len PySem.boot_len (pa_cons (pv 1) pa_nil)) pe_int) (nomark _))
      (pss_one (ps_raise rfl (takes_of rfl rfl rfl rfl) (SkE.pmk_own1 PySem.F.excBase_ValueError R.bp.q R.bp.g R.bp.k (raises_own R.bp.b R.bp.t) (by exact rfl)
        (pe_fs (.cons pe_str (.cons (pe_fmt (pe_ix ix_tup (pv 0) pe_int (fun _ _ => rfl))) (.cons pe_str (.cons (pe_fmt (pe_callB call_len_seq (by rfl) T.m_len PySem.boot_len (pa_cons (pv 1) pa_nil))) (.cons pe_str .nil))))))))) pss_nil)
    (pss_one (ps_ret (pv 1)))))), ?_⟩
  have neg : formOf d = none → Ex (.ref (cls .bp)) none H := fun e => q2 e H (Fr.refl tb)
  show tOr _ _ _ _ _
  have ty := Dp.ty hd
  have it := isTup hd
  cases hd with
  | tup ht hds =>
    rename_i a vs ds
    obtain ⟨len, okx⟩ := ok.sub
    have lv := DpAll.len hds
    refine or_pure false (decide (vs.length = 0)) (fun R h => ⟨_, rfl, _, _, _, _, _, rfl, .ty _, ty, kit_ty it, _, rfl, h⟩) (fun _ R h => ⟨_, rfl, a, vs, rfl, .inr ht, rfl, _, rfl, ?_⟩) (fun h => ?_) (fun _ h => ?_)
    · rw [eqV_int, decide_eq_decide.mpr (show ((vs.length : Nat) : Int) = 0 ↔ vs.length = 0 by omega)]
      exact h
    · have z : vs.length = 0 := of_decide_eq_true (h.elim (fun z => by cases z) id)
      have z2 : ds = [] := List.length_eq_zero_iff.mp (lv.symm.trans z)
      exact neg (by rw [z2]; rfl)
    have n0 : vs.length ≠ 0 := of_decide_eq_false h
    refine iteF ?_
    cases hds with
    | nil => exact absurd rfl n0
    | cons h0 hr0 =>
      rename_i x0 vr d0 dr
      dsimp only [tNext, gName]
      show tOr _ _ _ _ _
      have ty0 := Dp.ty h0
      have is0 := isStr h0
      have l2 := DpAll.len hr0
      cases h0 with
      | str z =>
        obtain ⟨r0, r1, r2⟩ : ∃ r : Option Value, PySem.W.nsIn K FA z = some r ∧ r.isSome = (formTab.lookup z).isSome := by
          cases e : formTab.lookup z with
          | none => exact ⟨_, F.none_ z e, rfl⟩
          | some fm =>
            obtain ⟨t, e1, _⟩ := F.some_ z fm e
            exact ⟨_, e1, rfl⟩
        refine or_pure false (formTab.lookup z).isNone (fun R h => ⟨_, rfl, a, _, _, _, rfl, rfl, ht, at_of (j := 0) rfl rfl, _, _, _, _, _, rfl, .ty _, ty0, kit_ty is0, _, rfl, h⟩) (fun _ R h => ⟨_, rfl, a, _, _, _, rfl, rfl, ht, at_of (j := 0) rfl rfl, z, r0, rfl, rfl, r1, _, rfl, ?_⟩) (fun h => ?_) (fun _ h => ?_)
        · rw [r2, Option.not_isSome]
          exact h
        · refine neg ?_
          have e := h.elim (fun z => by cases z) id
          show (match formTab.lookup z with | some fm => _ | none => none) = none
          rw [Option.isNone_iff_eq_none.mp e]
        · obtain ⟨fm, e⟩ : ∃ fm, formTab.lookup z = some fm := by
            cases e : formTab.lookup z with
            | none => rw [e] at h; cases h
            | some fm => exact ⟨fm, rfl⟩
          obtain ⟨t, kd, hq⟩ := F.at_ e
          obtain ⟨_, l6, z8⟩ := form_slots e
          dsimp only [gName]
          refine ⟨_, rfl, a, _, _, _, rfl, rfl, ht, at_of (j := 0) rfl rfl, FA, z, _, rfl, rfl, kd, ?_⟩
          dsimp only [gName]
          refine ⟨_, rfl, a, _, rfl, .inr ht, _, rfl, t, _, rfl, .inr (hq H), _, _, rfl, rfl, rfl, _, rfl, ?_⟩
          have ef : formOf (.tuple (.str z :: dr)) = if dr.length = fm.length then some (z, fm, dr) else none := by
            show (match formTab.lookup z with | some fm => _ | none => none) = _
            rw [e]
          refine ite2 (fun c => ?_) (fun c => ?_)
          · have ne : dr.length ≠ fm.length := fun q => by
              refine absurd c ?_
              rw [show (((V.str z :: vr).length : Nat) : Int) = (((fm.map V.str).length : Nat) : Int) + 1 by rw [List.length_cons, List.length_map, l2, q]; omega]
              simp
            have c1 : (Str.empty ++ "a part " : Str).length ≤ 100 := by decide +kernel
            have c2 : (" has not " : Str).length ≤ 100 := by decide +kernel
            have c3 : (" things behind its word" : Str).length ≤ 100 := by decide +kernel
            have lg : (((fm.map V.str).length : Nat) : Int).natAbs.log2 < 1920 := Nat.lt_trans (PySem.Flt.log2_lt_of (k := 40) (by decide) (Nat.lt_of_le_of_lt (show (((fm.map V.str).length : Nat) : Int).natAbs ≤ 6 by rw [List.length_map]; omega) (by decide))) (by decide)
            have lt := PyProof.Rows.int_text_len_1921 lg
            refine ⟨_, rfl, by decide +kernel, _, rfl, a, _, _, _, rfl, rfl, ht, at_of (j := 0) rfl rfl, .inl ⟨z, rfl, sizeOk (by omega), _, rfl, ?_, _, rfl, ?_, _, rfl, t, _, rfl, .inr (hq H), .inr ⟨_, rfl, lg, _, rfl, ?_, _, rfl, ?_, ?_⟩⟩⟩
            · rw [len_app]; exact sizeOk (by omega)
            · rw [len_app, len_app]; exact sizeOk (by omega)
            · rw [len_app, len_app, len_app]; exact sizeOk (by omega)
            · rw [len_app, len_app, len_app, len_app]; exact sizeOk (by omega)
            · exact neg (by rw [ef, if_neg ne])
          · have q : dr.length = fm.length := Classical.byContradiction fun q => c (by
              have : ¬ ((((V.str z :: vr).length : Nat) : Int) = (((fm.map V.str).length : Nat) : Int) + 1) := by rw [List.length_cons, List.length_map, l2]; omega
              simpa using this)
            exact ⟨_, rfl, q1 z fm dr (by rw [ef, if_pos q]) t hq⟩
      | non => exact or_pure true true (fun R h => ⟨_, rfl, a, _, _, _, rfl, rfl, ht, at_of (j := 0) rfl rfl, _, _, _, _, _, rfl, .ty _, ty0, kit_ty is0, _, rfl, h⟩) (fun h => by cases h) (fun _ => neg rfl) (fun h => by cases h)
      | bl b => exact or_pure true true (fun R h => ⟨_, rfl, a, _, _, _, rfl, rfl, ht, at_of (j := 0) rfl rfl, _, _, _, _, _, rfl, .ty _, ty0, kit_ty is0, _, rfl, h⟩) (fun h => by cases h) (fun _ => neg rfl) (fun h => by cases h)
      | int b => exact or_pure true true (fun R h => ⟨_, rfl, a, _, _, _, rfl, rfl, ht, at_of (j := 0) rfl rfl, _, _, _, _, _, rfl, .ty _, ty0, kit_ty is0, _, rfl, h⟩) (fun h => by cases h) (fun _ => neg rfl) (fun h => by cases h)
      | lst _ _ => exact or_pure true true (fun R h => ⟨_, rfl, a, _, _, _, rfl, rfl, ht, at_of (j := 0) rfl rfl, _, _, _, _, _, rfl, .ty _, ty0, kit_ty is0, _, rfl, h⟩) (fun h => by cases h) (fun _ => neg rfl) (fun h => by cases h)
      | tup _ _ => exact or_pure true true (fun R h => ⟨_, rfl, a, _, _, _, rfl, rfl, ht, at_of (j := 0) rfl rfl, _, _, _, _, _, rfl, .ty _, ty0, kit_ty is0, _, rfl, h⟩) (fun h => by cases h) (fun _ => neg rfl) (fun h => by cases h)
  | str _ => exact or_pure true true (fun R h => ⟨_, rfl, _, _, _, _, _, rfl, .ty _, ty, kit_ty it, _, rfl, h⟩) (fun h => by cases h) (fun _ => neg rfl) (fun h => by cases h)
  | non => exact or_pure true true (fun R h => ⟨_, rfl, _, _, _, _, _, rfl, .ty _, ty, kit_ty it, _, rfl, h⟩) (fun h => by cases h) (fun _ => neg rfl) (fun h => by cases h)
  | bl b => exact or_pure true true (fun R h => ⟨_, rfl, _, _, _, _, _, rfl, .ty _, ty, kit_ty it, _, rfl, h⟩) (fun h => by cases h) (fun _ => neg rfl) (fun h => by cases h)
  | int b => exact or_pure true true (fun R h => ⟨_, rfl, _, _, _, _, _, rfl, .ty _, ty, kit_ty it, _, rfl, h⟩) (fun h => by cases h) (fun _ => neg rfl) (fun h => by cases h)
  | lst _ _ => exact or_pure true true (fun R h => ⟨_, rfl, _, _, _, _, _, rfl, .ty _, ty, kit_ty it, _, rfl, h⟩) (fun h => by cases h) (fun _ => neg rfl) (fun h => by cases h)
end
end Sc
namespace Sc
open PySem PyProof.Rows L2
theorem Same.fr {T : List Addr} {H H' : Hp} (t : Tb T H) (e : Same H H') : Fr T H H' := Fr.same t e
section
variable {P : Program} {w : World} {K : PySem.W.Frag} {mg : Str → Option Value} {base : Heap} {T0 : List Addr} {C FA NA : Addr} {cls : Wr → Addr}
def spAll (K : PySem.W.Frag) (T : List Addr) (cls : Wr → Addr) : Sp := fun vs H Q Ex => ∃ (v fv : V) (e0 e1 : PyData) (ks ps : List PyData) (d0 d3 d4 : PyData) (ls qs : List PyData), vs = [v, fv] ∧ Dp K H v (.tuple [e0, e1, .tuple ks, .tuple ps]) ∧ Dp K H fv (.tuple [d0, .tuple ls, .tuple qs, d3, d4]) ∧ Tb T H ∧
  (ks.length = ls.length → ps.length = qs.length → Q .non H) ∧ (¬ (ks.length = ls.length ∧ ps.length = qs.length) → ∀ H', Fr T H H' → Ex (.ref (cls .bp)) none H')
theorem tup_get {K : PySem.W.Frag} {H : Hp} {v : V} {ds : List PyData} {j : Nat} {d : PyData} (h : Dp K H v (.tuple ds)) (e : ds[j]? = some d) : ∃ (a : Addr) (vs : List V) (x : V), v = .ref a ∧ SqT K H a vs ∧ vs[j]? = some x ∧ Dp K H x d := by
  cases h with
  | tup ht hds =>
    have l := DpAll.len hds
    have jl := (List.getElem?_eq_some_iff.mp e).1
    obtain ⟨d', h1, h2⟩ := DpAll.get hds (List.getElem?_eq_getElem (show j < _ by rw [l]; exact jl))
    rw [e] at h1
    cases h1
    exact ⟨_, _, _, rfl, ht, List.getElem?_eq_getElem _, h2⟩
theorem tup_len {K : PySem.W.Frag} {H : Hp} {v : V} {ds : List PyData} (h : Dp K H v (.tuple ds)) : ∃ (a : Addr) (vs : List V), v = .ref a ∧ SqT K H a vs ∧ vs.length = ds.length := by
  cases h with
  | tup ht hds => exact ⟨_, _, rfl, ht, DpAll.len hds⟩
theorem scAll : FnScope ["part", "function"] ["part", "function"] (defScope sPNeedAllHanded) := ⟨rfl, rfl, rfl, by decide +kernel, rfl, by decide +kernel, by decide +kernel⟩
theorem c_need_all (T : Tx K mg) (R : Ers K mg cls) : CalX P w K mg base 1 "_need_all_handed" ["part", "function"] (spAll K T0 cls) := by
  refine T.p_need_all_handed.okX scAll (fun vs H Q E h => ?_) (fun f cdv A outer s H vs Q Ex hr h => ?_)
  · obtain ⟨v, fv, _, _, _, _, _, _, _, _, _, rfl, _⟩ := h
    rfl
  obtain ⟨v, fv, e0, e1, ks, ps, d0, d3, d4, ls, qs, rfl, hv, hf, tb, q1, q2⟩ := h
  refine ⟨_, pss_one (ps_if (PW.pt (pw_or (pt_cmpR op_ne (pe_callB call_len_seq (by rfl) T.m_len PySem.boot_len (pa_cons (pe_ix ix_tup (pv 0) pe_int (fun _ _ => rfl)) pa_nil)) (pe_callB call_len_seq (by rfl) T.m_len PySem.boot_len (pa_cons (pe_ix ix_tup (pv 1) pe_int (fun _ _ => rfl)) pa_nil)) (nomark _))
        (pw_or1 (pt_cmpR op_ne (pe_callB call_len_seq (by rfl) T.m_len PySem.boot_len (pa_cons (pe_ix ix_tup (pv 0) pe_int (fun _ _ => rfl)) pa_nil)) (pe_callB call_len_seq (by rfl) T.m_len PySem.boot_len (pa_cons (pe_ix ix_tup (pv 1) pe_int (fun _ _ => rfl)) pa_nil)) (nomark _)))))
      (pss_one (ps_raise rfl (takes_of rfl rfl rfl rfl) (pmk_own PySem.F.excBase_ValueError R.bp.q R.bp.g R.bp.k (raises_own R.bp.b R.bp.t) (by exact rfl)))) pss_nil), ?_⟩
  obtain ⟨a, vs, x2, rfl, ha, hx2, hd2⟩ := tup_get (j := 2) hv rfl
  obtain ⟨a', vs', x3, ea, ha', hx3, hd3⟩ := tup_get (j := 3) hv rfl
  obtain ⟨b, ws, y1, rfl, hb, hy1, he1⟩ := tup_get (j := 1) hf rfl
  obtain ⟨b', ws', y2, eb, hb', hy2, he2⟩ := tup_get (j := 2) hf rfl
  obtain rfl := V.ref.inj ea
  obtain rfl := V.ref.inj eb
  obtain ⟨c2, u2, rfl, hc2, l2⟩ := tup_len hd2
  obtain ⟨c3, u3, rfl, hc3, l3⟩ := tup_len hd3
  obtain ⟨g1, w1, rfl, hg1, m1⟩ := tup_len he1
  obtain ⟨g2, w2, rfl, hg2, m2⟩ := tup_len he2
  show tOr _ _ _ _ _
  refine or_pure (decide (¬ ks.length = ls.length)) (decide (¬ ps.length = qs.length)) (fun R1 h => ⟨_, rfl, a, vs, 2, _, rfl, rfl, ha, at_of (j := 2) rfl hx2, c2, _, rfl, .inr hc2, _, rfl, b, ws, 1, _, rfl, rfl, hb, at_of (j := 1) rfl hy1, g1, _, rfl, .inr hg1, rfl, _, rfl, ?_⟩)
    (fun _ R1 h => ⟨_, rfl, a, vs', 3, _, rfl, rfl, ha', at_of (j := 3) rfl hx3, c3, _, rfl, .inr hc3, _, rfl, b, ws', 2, _, rfl, rfl, hb', at_of (j := 2) rfl hy2, g2, _, rfl, .inr hg2, rfl, _, rfl, ?_⟩) (fun h => ?_) (fun h1 h2 => ?_)
  · rw [eqV_int, l2, m1, ← decide_not] at *
    rw [decide_eq_decide.mpr (show ¬ ((ks.length : Nat) : Int) = ((ls.length : Nat) : Int) ↔ ¬ ks.length = ls.length by omega)]
    exact h
  · rw [eqV_int, l3, m2, ← decide_not] at *
    rw [decide_eq_decide.mpr (show ¬ ((ps.length : Nat) : Int) = ((qs.length : Nat) : Int) ↔ ¬ ps.length = qs.length by omega)]
    exact h
  · refine q2 (fun z => ?_) H (Fr.refl tb)
    rcases h with h | h
    · exact of_decide_eq_true h z.1
    · exact of_decide_eq_true h z.2
  · exact q1 (Classical.byContradiction fun z => by rw [decide_eq_true z] at h1; cases h1) (Classical.byContradiction fun z => by rw [decide_eq_true z] at h2; cases h2)
end
end Sc
namespace Sc
open PySem PyProof.Rows L2
theorem cut1 (x : V) (xs : List V) : cutV (x :: xs) (some 1) none = xs := by
  unfold cutV
  rw [show (some (1 : Int)) = some ((1 : Nat) : Int) from rfl, HT.sIx_nat, HT.sIx_none, List.length_cons, Nat.min_eq_left (by omega)]
  rw [List.drop_one, List.tail_cons, List.take_of_length_le (by omega)]
def givV {α : Type} (l : List (Str × α)) : List α := (l.filter fun p => p.1 == ("given" : Str)).map (·.2)
theorem givV_snoc {α : Type} (l : List (Str × α)) (s : Str) (y : α) : givV (l ++ [(s, y)]) = givV l ++ (if s = ("given" : Str) then [y] else []) := by
  unfold givV
  rw [List.filter_append, List.map_append]
  congr 1
  by_cases e : s = ("given" : Str)
  · rw [if_pos e, List.filter_cons_of_pos (by rw [e]; exact beq_self_eq_true _)]
    rfl
  · rw [if_neg e, List.filter_cons_of_neg (by simpa using e)]
    rfl
theorem giv_strs : ∀ {fm : List Str} {vs : List V} {ts : List PyData}, vs.length = fm.length → ts.length = fm.length → (∀ (i : Nat) (s : Str) (t : PyData) (y : V), fm[i]? = some s → ts[i]? = some t → vs[i]? = some y → s = ("given" : Str) → ∃ z, t = .str z ∧ y = .str z) →
    givV (fm.zip vs) = (strsD (givens fm ts)).map V.str ∧ (strsD (givens fm ts)).length ≤ fm.length
  | [], vs, ts, _, _, _ => by cases vs <;> cases ts <;> exact ⟨rfl, Nat.le_refl _⟩
  | s :: fm, [], _, h, _, _ => by cases h
  | s :: fm, _ :: _, [], _, h, _ => by cases h
  | s :: fm, y :: vs, t :: ts, h1, h2, h => by
    obtain ⟨ih, il⟩ := giv_strs (fm := fm) (vs := vs) (ts := ts) (Nat.succ.inj h1) (Nat.succ.inj h2) fun i s t y a b c => h (i + 1) s t y a b c
    by_cases e : s = ("given" : Str)
    · obtain ⟨z, rfl, rfl⟩ := h 0 s t y rfl rfl rfl e
      subst e
      have e1 : givV ((("given" : Str) :: fm).zip (V.str z :: vs)) = V.str z :: givV (fm.zip vs) := by
        unfold givV
        rw [List.zip_cons_cons, List.filter_cons_of_pos (by show (("given" : Str) == ("given" : Str)) = true; exact beq_self_eq_true _)]
        rfl
      have e2 : givens (("given" : Str) :: fm) (PyData.str z :: ts) = PyData.str z :: givens fm ts := by
        unfold givens
        rw [List.zip_cons_cons, List.filter_cons_of_pos (by show (("given" : Str) == ("given" : Str)) = true; exact beq_self_eq_true _)]
        rfl
      rw [e1, e2, ih]
      exact ⟨rfl, Nat.succ_le_succ il⟩
    · have e1 : givV ((s :: fm).zip (y :: vs)) = givV (fm.zip vs) := by
        unfold givV
        rw [List.zip_cons_cons, List.filter_cons_of_neg (by simpa using e)]
      have e2 : givens (s :: fm) (t :: ts) = givens fm ts := by
        unfold givens
        rw [List.zip_cons_cons, List.filter_cons_of_neg (by simpa using e)]
      rw [e1, e2]
      exact ⟨ih, Nat.le_succ_of_le il⟩
theorem last_last {z : Str} {fm : List Str} (h : formTab.lookup z = some fm) {i j : Nat} (h1 : fm[j]? = some ("last" : Str)) (h2 : fm[i]? = some ("given" : Str)) : i < j := by
  have all : ∀ p ∈ formTab, ∀ j < 6, ∀ i < 6, p.2[j]? = some ("last" : Str) → p.2[i]? = some ("given" : Str) → i < j := by decide +kernel
  have l := (form_slots h).2.1
  exact all _ (formlook_mem h) j (by have := (List.getElem?_eq_some_iff.mp h1).1; omega) i (by have := (List.getElem?_eq_some_iff.mp h2).1; omega) h1 h2
theorem form_inv {d : PyData} {w : Str} {fm : List Str} {ts : List PyData} (h : formOf d = some (w, fm, ts)) : d = .tuple (.str w :: ts) ∧ formTab.lookup w = some fm ∧ ts.length = fm.length := by
  cases d with
  | tuple ds =>
    cases ds with
    | nil => cases h
    | cons d0 dr =>
      cases d0 with
      | str z =>
        have h' : (match formTab.lookup z with | some fm => if dr.length = fm.length then some (z, fm, dr) else none | none => none) = some (w, fm, ts) := h
        cases e : formTab.lookup z with
        | none => rw [e] at h'; cases h'
        | some fm' =>
          rw [e] at h'
          by_cases q : dr.length = fm'.length
          · have h2 : (if dr.length = fm'.length then some (z, fm', dr) else none) = some (w, fm, ts) := h'
            rw [if_pos q] at h2
            have h3 := Option.some.inj h2
            injection h3 with a b
            injection b with b c
            subst a b c
            exact ⟨rfl, e, q⟩
          · have h2 : (if dr.length = fm'.length then some (z, fm', dr) else none) = some (w, fm, ts) := h'
            rw [if_neg q] at h2
            cases h2
      | _ => cases h
  | _ => cases h
theorem fn_get {K : PySem.W.Frag} {kvs : List (Key × V)} {fs : List (Str × Nat × Nat)} {z : Str} (h : kvs.map (·.1) = fs.map (fun q => (Sum.inr q.1 : Key))) (hz : z ∈ fs.map (·.1)) : ∃ (j : Nat) (v : V) (nl np : Nat), valV kvs (Sum.inr z) = some v ∧ kvs[j]? = some (Sum.inr z, v) ∧ fs[j]? = some (z, nl, np) ∧ fs.lookup z = some (nl, np) := by
  unfold valV
  induction kvs generalizing fs with
  | nil =>
    cases fs with
    | nil => cases hz
    | cons _ _ => cases h
  | cons a kvs ih =>
    cases fs with
    | nil => cases h
    | cons b fs =>
      obtain ⟨k, v⟩ := a
      obtain ⟨y, nl, np⟩ := b
      rw [List.map_cons, List.map_cons] at h
      injection h with h1 h2
      have h1 : k = Sum.inr y := h1
      subst h1
      rw [List.find?_cons, List.lookup_cons]
      by_cases e : y = z
      · subst e
        rw [show decide ((Sum.inr y : Key) = Sum.inr y) = true from decide_eq_true rfl, beq_self_eq_true]
        exact ⟨0, v, nl, np, rfl, rfl, rfl, rfl⟩
      · have hz' : z ∈ fs.map (·.1) := (List.mem_cons.mp hz).elim (fun q => absurd q.symm e) id
        obtain ⟨j, v', nl', np', a1, a2, a3, a4⟩ := ih h2 hz'
        rw [show decide ((Sum.inr y : Key) = Sum.inr z) = false from decide_eq_false fun q => e (Sum.inr.inj q), show (z == y) = false from beq_eq_false_iff_ne.mpr fun q => e q.symm]
        exact ⟨j + 1, v', nl', np', a1, a2, a3, a4⟩
end Sc
namespace Sc
open PySem PyProof.Rows L2
theorem slot_function {rec : Env0 → PyData → Option Wr} {E : Env0} {d : PyData} : gSlot rec E ("function" : Str) d = gFun E d := by
  unfold gSlot
  repeat rw [if_neg (by decide +kernel)]
  rw [if_pos rfl]
theorem slot_kinds {rec : Env0 → PyData → Option Wr} {E : Env0} {d : PyData} : gSlot rec E ("kinds" : Str) d = gKinds E.ls d := by
  unfold gSlot
  repeat rw [if_neg (by decide +kernel)]
  rw [if_pos rfl]
theorem slot_handed {rec : Env0 → PyData → Option Wr} {E : Env0} {d : PyData} : gSlot rec E ("handed" : Str) d = gHanded (rec E) d := by
  unfold gSlot
  repeat rw [if_neg (by decide +kernel)]
theorem gFun_none {E : Env0} {d : PyData} (h : gFun E d = none) : ∃ z, d = .str z ∧ z ∈ E.fs.map (·.1) := by
  cases d with
  | str z =>
    refine ⟨z, rfl, ?_⟩
    have h' : (if isWordD (.str z) = true then whenB (decide (z ∈ E.fs.map (·.1))) .nn else some .bp) = none := h
    split at h'
    · cases c : decide (z ∈ E.fs.map (·.1)) with
      | true => exact of_decide_eq_true c
      | false => rw [c] at h'; cases h'
    · cases h'
  | _ => cases h
theorem gKinds_tuple {ls : List Str} {d : PyData} (h : gKinds ls d = none) : ∃ ds, d = .tuple ds := by
  cases d with
  | tuple ds => exact ⟨ds, rfl⟩
  | _ => cases h
section
variable {P : Program} {w : World} {K : PySem.W.Frag} {mg : Str → Option Value} {base : Heap} {T0 : List Addr} {C FA NA : Addr} {cls : Wr → Addr}
theorem scPart : FnScope ["part", "place", "slots", "slot", "told", "given", "last", "need"] ["part", "place"] (defScope sPNeedPart) := ⟨rfl, rfl, rfl, by decide +kernel, rfl, by decide +kernel, by decide +kernel⟩
theorem c_need_part {n lv : Nat} (tOk : PyData → Prop) (T : Tx K mg) (R : Ers K mg cls) (L : PlC P w K mg base C) (NG : mg "NEEDS" = some (.ref NA)) (m12 : ∃ t, mg "DEEPEST_BODY" = some (.int 12 t)) (lv2 : 2 ≤ lv)
    (CF : CalX P w K mg base 1 "_form_of" ["part"] (spForm K T0 cls)) (CA : CalX P w K mg base 1 "_need_all_handed" ["part", "function"] (spAll K T0 cls))
    (NN : ∀ m, n = m + 1 → ∀ s ∈ slotNames, ∃ f, KDct K w NA s (.ref f) ∧ HeldX P w K mg base lv f (spAtG K T0 C cls (n : Int) (fun E d => slotIn (txs tOk m) tOk s d ∧ E.ns.length + 10 * m ≤ 2008) (fun E => gSlot (gPart m) E s))) :
    CalX P w K mg base (lv + 1) "_need_part" ["part", "place"] (spAtG K T0 C cls (n : Int) (fun E d => txs tOk n d ∧ E.ns.length + 10 * n ≤ 2012) (gPart n)) := by
  obtain ⟨t12, m12⟩ := m12
  obtain ⟨fI, fdI, GI, MI, BI⟩ := L.ini
  refine T.p_need_part.okX scPart (fun vs H Q E h => ?_) (fun f cdv A outer s H vs Q Ex hr h => ?_)
  · obtain ⟨v, d, p, E, rfl, _⟩ := h
    rfl
  obtain ⟨v, d, p, E, rfl, hd, ok, tb, hp, ⟨hG, few⟩, q1, q2⟩ := h
  have r1 : Room 1 _ := hr.mono (by omega)
  have r2 : Room 2 _ := hr.mono lv2
  have hu1 : (A.deeper (envOfC "_need_part" (defScope sPNeedPart) s.heap.objs.size f cdv)).units + 1 < cLine := by have := hr.un; omega
  refine ⟨_, pss_cons (ps_if (pt_cmpR op_lt (pe_fld (pv 1) rfl) pe_int (nomark _))
      (pss_one (ps_raise rfl (takes_of rfl rfl rfl rfl) (SkE.pmk_own1 PySem.F.excBase_ValueError R.bp.q R.bp.g R.bp.k (raises_own R.bp.b R.bp.t) (by exact rfl) (pe_fs (.cons pe_str (.cons (pe_fmt (pe_glob (v := .int 12) (by rfl) m12 ⟨_, rfl⟩)) (.cons pe_str .nil))))))) pss_nil)
    (pss_cons (ps_set (i := 2) scPart.nd rfl (Or.inl rfl) (ScZ.pe_listZip rfl (by rfl) T.m_list (by rfl) T.m_zip (pa_cons (pe_calX CF r1 (passes_call (takes_of rfl rfl rfl rfl) (fun _ _ _ _ h => h)) (pa_cons (pv 0) pa_nil)) (pa_cons (pe_slice sl_tup (pv 0) (po_some pe_int) po_none) pa_nil))))
    (pss_cons (ps_set (i := 5) scPart.nd rfl (Or.inl rfl) (pe_callTy call_tuple_of (by rfl) T.m_tuple (by decide +kernel) (pa_cons
        (pe_lc (own := [("slot", 3), ("told", 4)]) (g := gTup K 2 (gCons (gName 3) (gCons (gName 4) gNil))) rfl scPart.nd (pi_list (pv 2)) (blkOk_by (N := ["part", "place", "slots", "slot", "told", "given", "last", "need"]) (sc := defScope sPNeedPart) (by decide +kernel))
          (fun _ _ _ _ _ => pg_tup (by rfl) (pgs_cons (pg_name (i := 3) scPart.nd rfl (Or.inl rfl)) (pgs_cons (pg_name (i := 4) scPart.nd rfl (Or.inl rfl)) pgs_nil))) (fun _ _ _ _ _ => pts_one (pt_cmpR op_eq (pv 3) pe_str (nomark _))) (fun _ _ _ _ _ => pv 4)) pa_nil)))
    (pss_cons (ps_set (i := 6) scPart.nd rfl (Or.inl rfl) (pe_make MI GI r2 (by rfl) L.g BI .nil pass0 (pa_cons (pe_fld (pv 1) rfl) (pa_cons (pe_fld (pv 1) rfl) (pa_cons (pe_op op_catA (pe_fld (pv 1) rfl) (pv 5)) (pa_cons (pe_fld (pv 1) rfl) pa_nil))))))
    (pss_cons (ps_for (passes_of rfl) rfl (pi_list (pv 2)) (pg_tup (by rfl) (pgs_cons (pg_name (i := 3) scPart.nd rfl (Or.inl rfl)) (pgs_cons (pg_name (i := 4) scPart.nd rfl (Or.inl rfl)) pgs_nil)))
      (pss_cons (ps_set (i := 7) scPart.nd rfl (Or.inl rfl) (pe_ix ix_kdict (pe_glob (v := .ref NA) (by rfl) NG rfl) (pv 3) (fun _ _ => rfl)))
      (pss_one (ps_expr (pe_callAX (i := 7) (S := fun f sp => HeldX P w K mg base lv f sp) (fun f sp h => h) hr rfl (Or.inl rfl) (passes_call (takes_of rfl rfl rfl rfl) (fun _ _ _ _ h => h)) (pa_cons (pv 4) (pa_cons (pe_ifExp (pt_cmpR op_eq (pv 3) pe_str (nomark _)) (pv 6) (pv 1)) pa_nil)))))))
    (pss_cons (ps_if (pt_cmpR op_lt (pe_callB cr_txLen (by rfl) T.m_len PySem.boot_len (pa_cons (pe_callTy (cr_txSetT rfl) (by rfl) T.m_set (by decide +kernel) (pa_cons (pv 5) pa_nil)) pa_nil)) (pe_callB call_len_seq (by rfl) T.m_len PySem.boot_len (pa_cons (pv 5) pa_nil)) (nomark _))
      (pss_one (ps_raise rfl (takes_of rfl rfl rfl rfl) (pmk_own PySem.F.excBase_ValueError R.tt.q R.tt.g R.tt.k (raises_own R.tt.b R.tt.t) (by exact rfl)))) pss_nil)
    (pss_one (ps_if (pt_cmpR op_eq (pe_ix ix_tup (pv 0) pe_int (fun _ _ => rfl)) pe_str (nomark _))
      (pss_one (ps_expr (pe_calX CA r1 (passes_call (takes_of rfl rfl rfl rfl) (fun _ _ _ _ h => h)) (pa_cons (pv 0) (pa_cons (pe_dget hu1 (pe_fld (pv 1) rfl) (pe_ix ix_tup (pv 0) pe_int (fun _ _ => rfl)) (fun _ _ => rfl)) pa_nil))))) pss_nil))))))), ?_⟩
  obtain ⟨dx, la, fa, na, h1, h2, h3, h4⟩ := id hp.at_
  refine ⟨_, rfl, p, C, dx, _, _, rfl, h1, L.cl, L.n4, pl_room la fa na, _, _, rfl, rfl, _, rfl, ite2 (fun e => ?_) (fun e => ?_)⟩
  · have n0 : n = 0 := by have := of_decide_eq_true e; omega
    refine ⟨_, rfl, by decide +kernel, .inr ⟨12, rfl, by decide, _, rfl, by decide +kernel, _, rfl, by decide +kernel, ?_⟩⟩
    subst n0
    exact q2 .bp rfl H (Fr.refl tb)
  have n1 : 0 < n := by
    have := of_decide_eq_false (Bool.eq_false_iff.mpr e)
    omega
  obtain ⟨m, rfl⟩ : ∃ m, n = m + 1 := ⟨n - 1, by omega⟩
  have NN := NN m rfl
  refine ⟨_, rfl, v, d, rfl, hd, ok, tb, fun wd fm ts ef tf hq => ?_, fun e H' f' => q2 .bp (by show (match formOf d with | none => _ | some (w, fm, ts) => _) = _; rw [e]) H' f'⟩
  obtain ⟨rfl, et, el⟩ := form_inv ef
  obtain ⟨slots, l6, _⟩ := form_slots et
  have dp0 := hd
  cases hd with
  | tup ht hds =>
    rename_i a vs
    obtain ⟨len, okx⟩ := ok.sub
    cases hds with
    | cons h0 hr0 =>
      rename_i x0 vr
      obtain rfl : x0 = .str wd := by cases h0; rfl
      have lr := DpAll.len hr0
      have lvf : vr.length = fm.length := lr.trans el
      refine ⟨_, rfl, _, rfl, a, _, rfl, ht, ?_, fun s1 hs1 => ?_⟩
      · rw [show (some (1 : Int)) = some ((1 : Nat) : Int) from rfl, HT.sIx_nat, List.length_cons, Nat.min_eq_left (by omega)]
        exact fun z => absurd z.1 (by decide)
      rw [cut1]
      have e1 := same_new hs1 (.tup vr)
      refine ⟨tf, s1, fm.map V.str, vr, rfl, hq _, SqT.of upd_same, by rw [List.length_map, lvf], fun H2 l ts' ex nl nts nin hl lts pr => ?_⟩
      have e2 : Same H H2 := Same.trans e1 ex
      rw [List.length_map] at lts
      have pr' : ∀ (j : Nat) (x : V), (ts'.map V.ref)[j]? = some x → ∃ (t : Addr) (s : Str) (y : V) (td : PyData), x = .ref t ∧ H2 t = some (.tup [.str s, y]) ∧ fm[j]? = some s ∧ vr[j]? = some y ∧ ts[j]? = some td ∧ Dp K H y td ∧ s ∈ slotNames := fun j x hx => by
        rw [List.getElem?_map] at hx
        obtain ⟨t, ht', rfl⟩ := Option.map_eq_some_iff.mp hx
        obtain ⟨x', y, a1, a2, a3⟩ := pr j t ht'
        rw [List.getElem?_map] at a1
        obtain ⟨s, b1, rfl⟩ := Option.map_eq_some_iff.mp a1
        obtain ⟨td, c1, c2⟩ := DpAll.get hr0 a2
        exact ⟨t, s, y, td, rfl, a3, b1, a2, c1, c2, slots s (List.mem_of_getElem? b1)⟩
      have lz : (fm.zip vr).length = fm.length := by rw [List.length_zip, lvf, Nat.min_self]
      dsimp only [gName]
      refine ⟨_, rfl, l, rfl, ⟨_, SqL.of hl⟩, fun D hD => ?_⟩
      refine lc_list (K := K) (a := l) (xs := ts'.map V.ref) (fun j H3 => Same H2 H3 ∧ H3 D = some (.lst (givV ((fm.zip vr).take j)))) ⟨same_new hD _, upd_same⟩ (fun j H3 _ h => SqL.of (h.1 _ _ hl)) ?_ ?_
      · rintro j x H3 hx ⟨e3, h3'⟩
        obtain ⟨t, s, y, td, rfl, a1, a2, a3, _⟩ := pr' j x hx
        have hz : (fm.zip vr)[j]? = some (s, y) := List.getElem?_zip_eq_some.mpr ⟨a2, a3⟩
        have jl := (List.getElem?_eq_some_iff.mp a2).1
        have st : givV ((fm.zip vr).take (j + 1)) = givV ((fm.zip vr).take j) ++ (if s = ("given" : Str) then [y] else []) := by rw [List.take_add_one, hz]; exact givV_snoc _ s y
        refine ⟨t, _, rfl, SqT.of (e3 _ _ a1), rfl, _, _, rfl, _, _, rfl, rfl, rfl, _, rfl, rfl, _, rfl, ite2 (fun e => ?_) (fun e => ?_)⟩
        · have es : s = ("given" : Str) := V.str.inj (of_decide_eq_true e)
          rw [if_pos es] at st
          refine ⟨_, rfl, _, h3', small1000 ?_, fun b o hb => ?_, by rw [upd_same, st]⟩
          · unfold givV
            rw [List.length_map]
            have := List.length_filter_le (fun p : Str × V => p.1 == ("given" : Str)) ((fm.zip vr).take j)
            have := List.length_take_le' j (fm.zip vr)
            omega
          · rw [upd_ne (ne_of_none hb hD)]
            exact e3 b o hb
        · have es : ¬ s = ("given" : Str) := fun z => e (decide_eq_true (congrArg V.str z))
          rw [if_neg es, List.append_nil] at st
          exact ⟨e3, by rw [st]; exact h3'⟩
      rintro H3 ⟨e3, h3'⟩
      rw [List.take_of_length_le (by rw [List.length_map]; omega)] at h3'
      generalize hgv : givV (fm.zip vr) = gv at h3'
      have gl : gv.length ≤ 6 := by
        rw [← hgv]
        unfold givV
        rw [List.length_map]
        have := List.length_filter_le (fun p : Str × V => p.1 == ("given" : Str)) (fm.zip vr)
        omega
      refine ⟨D, gv, rfl, .inl ⟨SqL.of h3', fun g hg => ?_⟩⟩
      have e4 : Same H (upd H3 g (.tup gv)) := Same.trans e2 (Same.trans e3 (same_new hg _))
      have hg4 : SqT K (upd H3 g (.tup gv)) g gv := SqT.of upd_same
      have hl4 : SqL K (upd H3 g (.tup gv)) l (ts'.map V.ref) := SqL.of (same_new hg _ _ _ (e3 _ _ hl))
      have e24 : Same H2 (upd H3 g (.tup gv)) := Same.trans e3 (same_new hg _)
      generalize (upd H3 g (.tup gv)) = H4 at e4 hg4 hl4 e24 ⊢
      have f4 : Fr T0 H H4 := Fr.same tb e4
      obtain ⟨h1a, h2a, h3a, h4a⟩ : H4 p = some (.ins C dx (placeF la fa na ((m + 1 : Nat) : Int))) ∧ SqT K H4 la (E.ls.map V.str) ∧ FnsAt K H4 fa E.fs ∧ SqT K H4 na (E.ns.map V.str) := ⟨e4 _ _ h1, (Fr.keep tb f4).2 _ _ h2, h3.keep tb f4, (Fr.keep tb f4).2 _ _ h4⟩
      have key : ∀ Q' : V → Hp → Prop, (∀ c H5, Same H4 H5 → SqT K H5 c (E.ns.map V.str ++ gv) → Q' (.ref c) H5) → rCatA K (.ref na) (.ref g) H4 Q' := fun Q' k => by
        refine ⟨na, g, _, _, rfl, rfl, h4a, hg4, ?_, fun z => ?_, fun _ z => ?_, fun _ _ q hq' => ?_⟩
        · rw [List.length_map]; exact sizeOk (by omega)
        · exact k g H4 (fun _ _ e => e) (by rw [z]; exact hg4)
        · exact k na H4 (fun _ _ e => e) (by rw [z, List.append_nil]; exact h4a)
        · exact k q _ (same_new hq' _) (SqT.of upd_same)
      dsimp only [gName]
      refine ⟨_, rfl, p, C, dx, _, _, rfl, h1a, L.cl, L.n1, pl_letters la fa na, _, rfl, p, C, dx, _, _, rfl, h1a, L.cl, L.n2, pl_functions la fa na, _, rfl, p, C, dx, _, _, rfl, h1a, L.cl, L.n3, pl_names la fa na, _, rfl, key _ fun c H5 e5 hc => ?_⟩
      refine ⟨_, rfl, p, C, dx, _, _, rfl, e5 _ _ h1a, L.cl, L.n4, pl_room la fa na, fun x dx' nx ndx nex => ?_⟩
      have s0 : Same H5 (upd (upd H5 dx' (.own x)) x (.ins C dx' [])) := fun b o e => by
        rw [upd_ne (ne_of_none e nx), upd_ne (ne_of_none e ndx)]
        exact e
      refine ⟨x, dx', la, fa, c, _, rfl, upd_same, fun H6 hx kp => ⟨rfl, ?_⟩⟩
      have e56 : Same H5 H6 := fun b o e => kp b o (s0 b o e) (ne_of_none e nx)
      have e46 := Same.trans e5 e56
      have e6 : Same H H6 := Same.trans e4 e46
      have f6 : Fr T0 H H6 := Fr.same tb e6
      have hc6 : SqT K H6 c (E.ns.map V.str ++ gv) := (Same.keep e56) _ _ hc
      have hg6 : SqT K H6 g gv := (Same.keep e46) _ _ hg4
      have hl6 : H6 l = some (.lst (ts'.map V.ref)) := e46 _ _ (e24 _ _ hl)
      have pr6 : ∀ (j : Nat) (x : V), (ts'.map V.ref)[j]? = some x → ∃ (t : Addr) (s : Str) (y : V) (td : PyData), x = .ref t ∧ H6 t = some (.tup [.str s, y]) ∧ fm[j]? = some s ∧ vr[j]? = some y ∧ ts[j]? = some td ∧ Dp K H y td ∧ s ∈ slotNames := fun j x hx => by
        obtain ⟨t, s, y, td, a0, a1, a2⟩ := pr' j x hx
        exact ⟨t, s, y, td, a0, e46 _ _ (e24 _ _ a1), a2⟩
      obtain ⟨Le, hLe⟩ : ∃ Le : Env0, Le = { E with ns := E.ns ++ strsD (givens fm ts) } := ⟨_, rfl⟩
      have gdef : gPart (m + 1) E (.tuple (.str wd :: ts)) = (match firstBad ((fm.zip ts).map fun p => gSlot (gPart m) (if p.1 = ("last" : Str) then Le else E) p.1 p.2) with
          | some b => some b
          | none => if (strsD (givens fm ts)).Nodup then (if wd = ("call" : Str) then whenB (callOk E ts) .bp else none) else some .tt) := by
        subst hLe
        show (match formOf (.tuple (.str wd :: ts)) with | none => some Wr.bp | some (w, fm, ts) => _) = _
        rw [ef] <;> rfl
      have words : (∀ i s t, fm[i]? = some s → ts[i]? = some t → s = ("given" : Str) → gWord t = none) → gv = (strsD (givens fm ts)).map V.str ∧ (strsD (givens fm ts)).length ≤ fm.length := fun hw => by
        rw [← hgv]
        refine giv_strs lvf el fun i s t y a1 a2 a3 a4 => ?_
        obtain ⟨z, rfl, _⟩ := gWord_none (hw i s t a1 a2 a4)
        obtain ⟨td, b1, b2⟩ := DpAll.get hr0 a3
        rw [a2] at b1
        cases b1
        cases b2
        exact ⟨z, rfl, rfl⟩
      have zz : ∀ (j : Nat) (s : Str) (td : PyData), fm[j]? = some s → ts[j]? = some td → ((fm.zip ts).map fun p => gSlot (gPart m) (if p.1 = ("last" : Str) then Le else E) p.1 p.2)[j]? = some (gSlot (gPart m) (if s = ("last" : Str) then Le else E) s td) := fun j s td a b => by
        have hz : (fm.zip ts)[j]? = some (s, td) := List.getElem?_zip_eq_some.mpr ⟨a, b⟩
        rw [List.getElem?_map, hz]
        rfl
      have lzt : ((fm.zip ts).map fun p => gSlot (gPart m) (if p.1 = ("last" : Str) then Le else E) p.1 p.2).length = fm.length := by rw [List.length_map, List.length_zip, el, Nat.min_self]
      dsimp only [gName]
      refine ⟨_, rfl, l, rfl, ⟨_, SqL.of hl6⟩, ?_⟩
      refine for_list (K := K) (a := l) (xs := ts'.map V.ref) (fun j σ2 H7 => Fr T0 H6 H7 ∧ (∃ o3 o4 o7, σ2 = [some (.ref a), some (.ref p), some (.ref l), o3, o4, some (.ref g), some (.ref x), o7]) ∧
          ∀ i s td, i < j → fm[i]? = some s → ts[i]? = some td → gSlot (gPart m) (if s = ("last" : Str) then Le else E) s td = none) ⟨Fr.refl f6.tab, ⟨_, _, _, rfl⟩, fun i s td h => absurd h (Nat.not_lt_zero _)⟩ (fun j σ2 H7 _ h => (Fr.keep f6.tab h.1).1 _ _ (SqL.of hl6)) ?_ ?_
      · rintro j xx σ2 H7 hxx ⟨f7, ⟨o3, o4, o7, rfl⟩, al⟩
        obtain ⟨t, s, y, td, rfl, a1, a2, a3, a4, a5, a6⟩ := pr6 j xx hxx
        have f07 := f6.trans f7
        have jl := (List.getElem?_eq_some_iff.mp a2).1
        have mt := List.mem_of_getElem? a4
        have ht7 : SqT K H7 t [.str s, y] := (Fr.keep f6.tab f7).2 _ _ (SqT.of a1)
        have hy7 : Dp K H7 y td := (Fr.keep tb f07).dp a5
        have okt := okx td (List.mem_cons_of_mem _ mt)
        obtain ⟨f, kd, hX⟩ := NN s a6
        have grd : slotIn (txs tOk m) tOk s td := hG wd fm ts ef j s td a2 a4
        have nxt : gSlot (gPart m) (if s = ("last" : Str) then Le else E) s td = none → ∀ i s' td', i < j + 1 → fm[i]? = some s' → ts[i]? = some td' → gSlot (gPart m) (if s' = ("last" : Str) then Le else E) s' td' = none := fun e i s' td' hi b1 b2 => by
          rcases Nat.lt_succ_iff_lt_or_eq.mp hi with z | z
          · exact al i s' td' z b1 b2
          · subst z
            rw [a2] at b1
            rw [a4] at b2
            cases b1
            cases b2
            exact e
        have bad : ∀ b, gSlot (gPart m) (if s = ("last" : Str) then Le else E) s td = some b → ∀ H', Fr T0 H H' → Ex (.ref (cls b)) none H' := fun b e => q2 b (by
          rw [gdef, fb_at (j := j) (b := b) (fun i x' hi hx' => ?_) (by rw [zz j s td a2 a4, e])]
          have il : i < fm.length := by omega
          have c1 : fm[i]? = some fm[i] := List.getElem?_eq_getElem il
          have c2 : ts[i]? = some (ts[i]'(by omega)) := List.getElem?_eq_getElem _
          rw [zz i _ _ c1 c2] at hx'
          rw [← Option.some.inj hx']
          exact al i _ _ hi c1 c2)
        refine ⟨t, _, rfl, ht7, rfl, _, _, rfl, _, _, rfl, rfl, ?_⟩
        dsimp only [gName]
        refine ⟨_, rfl, NA, s, _, rfl, rfl, kd, ?_⟩
        dsimp only [gName]
        refine ⟨f, _, rfl, hX, _, rfl, _, rfl, rfl, _, rfl, ite2 (fun e => ?_) (fun e => ?_)⟩
        · have es : s = ("last" : Str) := V.str.inj (of_decide_eq_true e)
          rw [if_pos es] at nxt bad
          obtain ⟨gs, gsl⟩ := words fun i s' t' b1 b2 b3 => by
            subst b3
            have lt := last_last et (by rw [a2, es]) b1
            have z := al i _ t' lt b1 b2
            rw [if_neg (show ¬ (("given" : Str) = "last") by decide +kernel)] at z
            exact z
          have hpl : PlaceAt K C H7 x Le ((m + 1 : Nat) : Int) := by
            rw [hLe]
            refine PlaceAt.keep (T := T0) ⟨⟨dx', la, fa, c, hx, (Same.keep e46) _ _ h2a, h3a.keep f4.tab (Fr.same f4.tab e46), ?_⟩⟩ f6.tab f7
            show SqT K H6 c ((E.ns ++ strsD (givens fm ts)).map V.str)
            rw [List.map_append, ← gs]
            exact hc6
          refine ⟨_, rfl, y, td, x, Le, rfl, hy7, okt, f7.tab, hpl, ⟨grd, ?_⟩, fun e2 H8 f8 => ⟨f7.trans f8, ⟨_, _, _, rfl⟩, nxt e2⟩, fun b e2 H8 f8 => bad b e2 H8 (f07.trans f8)⟩
          rw [hLe]
          show (E.ns ++ strsD (givens fm ts)).length + 10 * m ≤ 2008
          rw [List.length_append]
          omega
        · have es : ¬ s = ("last" : Str) := fun z => e (decide_eq_true (congrArg V.str z))
          rw [if_neg es] at nxt bad
          exact ⟨_, rfl, y, td, p, E, rfl, hy7, okt, f7.tab, hp.keep tb f07, ⟨grd, by omega⟩, fun e2 H8 f8 => ⟨f7.trans f8, ⟨_, _, _, rfl⟩, nxt e2⟩, fun b e2 H8 f8 => bad b e2 H8 (f07.trans f8)⟩
      rintro σ2 H7 ⟨f7, ⟨o3, o4, o7, rfl⟩, al⟩
      rw [List.length_map] at al
      have f07 := f6.trans f7
      have all : firstBad ((fm.zip ts).map fun p => gSlot (gPart m) (if p.1 = ("last" : Str) then Le else E) p.1 p.2) = none := fb_none.mpr fun y hy => by
        obtain ⟨i, hi⟩ := List.getElem?_of_mem hy
        have il : i < fm.length := by have := (List.getElem?_eq_some_iff.mp hi).1; omega
        have c1 : fm[i]? = some fm[i] := List.getElem?_eq_getElem il
        have c2 : ts[i]? = some (ts[i]'(by omega)) := List.getElem?_eq_getElem _
        rw [zz i _ _ c1 c2] at hi
        rw [← Option.some.inj hi]
        exact al i _ _ (by omega) c1 c2
      rw [all] at gdef
      have gdef : gPart (m + 1) E (.tuple (.str wd :: ts)) = if (strsD (givens fm ts)).Nodup then (if wd = ("call" : Str) then whenB (callOk E ts) .bp else none) else some .tt := gdef
      obtain ⟨gs, gsl⟩ := words fun i s' t' b1 b2 b3 => by
        subst b3
        have il := (List.getElem?_eq_some_iff.mp b1).1
        have z := al i _ t' (by omega) b1 b2
        rw [if_neg (show ¬ (("given" : Str) = "last") by decide +kernel)] at z
        exact z
      have hg7 : SqT K H7 g ((strsD (givens fm ts)).map V.str) := by rw [← gs]; exact (Fr.keep f6.tab f7).2 _ _ hg6
      generalize strsD (givens fm ts) = zs at gs gsl hg7 gdef
      have ht7 : SqT K H7 a (.str wd :: vr) := (Fr.keep tb f07).2 _ _ ht
      refine ⟨_, rfl, g, zs, rfl, .inr hg7, by omega, fun u mm hu hm => ⟨u, _, mm, rfl, upd_same, fun ys nd mem ln => ?_⟩⟩
      have mem' : ∀ x, x ∈ ys ↔ x ∈ zs := fun x => (mem x).trans decide_eq_true_iff
      obtain ⟨nl1, nl2⟩ := nodup_len nd mem' ln
      have e8 := same_new hu (TxO w u (fun y => decide (y ∈ zs)) mm)
      have f08 : Fr T0 H _ := f07.trans (Fr.same f7.tab e8)
      refine ⟨_, rfl, g, _, rfl, .inr ((Same.keep e8) _ _ hg7), _, _, rfl, rfl, _, rfl, ite2 (fun c => ?_) (fun c => ?_)⟩
      · have lt := of_decide_eq_true c
        rw [List.length_map] at lt
        have nn := nl1.mp (by omega)
        exact q2 .tt (by rw [gdef, if_neg nn]) _ f08
      · have ge := of_decide_eq_false (Bool.eq_false_iff.mpr c)
        rw [List.length_map] at ge
        have nn : zs.Nodup := Classical.byContradiction fun z => absurd (nl1.mpr z) (by omega)
        rw [if_pos nn] at gdef
        have ht8 := (Same.keep e8) _ _ ht7
        refine ⟨_, rfl, a, _, _, _, rfl, rfl, ht8, at_of (j := 0) rfl rfl, rfl, _, rfl, ite2 (fun e => ?_) (fun e => ?_)⟩
        · have es : wd = ("call" : Str) := V.str.inj (of_decide_eq_true e)
          subst es
          rw [if_pos rfl] at gdef
          have efm : formTab.lookup ("call" : Str) = some (["function", "kinds", "handed"] : List Str) := by decide +kernel
          rw [efm] at et
          obtain rfl := Option.some.inj et
          have a0 := al 0 ("function" : Str)
          have a1 := al 1 ("kinds" : Str)
          have a2 := al 2 ("handed" : Str)
          obtain ⟨t0, t1, t2, rfl⟩ : ∃ t0 t1 t2, ts = [t0, t1, t2] := by
            match ts, el with
            | [t0, t1, t2], _ => exact ⟨t0, t1, t2, rfl⟩
          have l3 : ts'.length = 3 := lts
          have g0 := a0 t0 (by omega) rfl rfl
          have g1 := a1 t1 (by omega) rfl rfl
          have g2 := a2 t2 (by omega) rfl rfl
          rw [if_neg (show ¬ (("function" : Str) = "last") by decide +kernel), slot_function] at g0
          rw [if_neg (show ¬ (("kinds" : Str) = "last") by decide +kernel), slot_kinds] at g1
          rw [if_neg (show ¬ (("handed" : Str) = "last") by decide +kernel), slot_handed] at g2
          obtain ⟨z, rfl, hz⟩ := gFun_none g0
          obtain ⟨ks, rfl⟩ := gKinds_tuple g1
          obtain ⟨ps, rfl⟩ := gHanded_tuple g2
          have dp8 := (Fr.keep tb f08).dp dp0
          have hp8 := hp.keep tb f08
          obtain ⟨dx8, la8, fa8, na8, k1, k2, ⟨kvs, m1, m2, nd8, m3⟩, k4⟩ := hp8.at_
          obtain ⟨j, fv, nlq, npq, v1, v2, v3, v4⟩ := fn_get (K := K) m2 hz
          obtain ⟨d0, lq, qs, d3, d4, hf, ll, lp⟩ := m3 j _ _ _ _ _ v2 v3
          cases hr0 with
          | cons hy0 hr1 =>
            rename_i y0 vr1
            obtain rfl : y0 = .str z := by cases hy0; rfl
            have eok : callOk E [.str z, .tuple ks, .tuple ps] = (decide (ks.length = nlq) && decide (ps.length = npq)) := by
              show (match E.fs.lookup z with | some (nl9, np9) => _ | none => false) = _
              rw [v4]
            refine ⟨_, rfl, _, rfl, p, C, dx8, _, _, rfl, k1, L.cl, L.n2, pl_functions la8 fa8 na8, _, rfl, a, _, _, _, rfl, rfl, ht8, at_of (j := 1) rfl rfl, fa8, fv, rfl, ?_, .ref a, fv, .str ("call" : Str), .str z, ks, ps, d0, d3, d4, lq, qs, rfl, dp8, hf, f08.tab, fun c1 c2 => ?_, fun c H9 f9 => ?_⟩
            · rw [← v1]
              exact DGet.k (k := Sum.inr z) m1
            · exact q1 (by rw [gdef, eok, decide_eq_true (c1.trans ll), decide_eq_true (c2.trans lp)]; rfl) _ f08
            · refine q2 .bp ?_ H9 (f08.trans f9)
              rw [gdef, eok]
              have : (decide (ks.length = nlq) && decide (ps.length = npq)) = false := by
                refine Bool.eq_false_iff.mpr fun z => c ?_
                rw [Bool.and_eq_true, decide_eq_true_eq, decide_eq_true_eq] at z
                exact ⟨z.1.trans ll.symm, z.2.trans lp.symm⟩
              rw [this]
              rfl
        · have ne : ¬ wd = ("call" : Str) := fun z => e (decide_eq_true (congrArg V.str z))
          exact q1 (by rw [gdef, if_neg ne]) _ f08
end
end Sc
namespace Sc
open PySem PyProof.Rows L2
def pairOk (p : PyData → Bool) : PyData → Option Wr
  | .tuple [n, _] => whenB (p n) .bp
  | _ => some .bp
def leadD : PyData → PyData
  | .tuple (n :: _) => n
  | _ => .none
/-- pairs, led by what p lets lead, each once -/
def gPairs (p : PyData → Bool) : PyData → Option Wr
  | .tuple ds => match firstBad (ds.map (pairOk p)) with
    | some b => some b
    | none => if (strsD (ds.map leadD)).Nodup then none else some .tt
  | _ => some .bp
theorem pairOk_none {p : PyData → Bool} (hp : ∀ d, p d = true → ∃ z, d = .str z) {d : PyData} (h : pairOk p d = none) : ∃ z k, d = .tuple [.str z, k] ∧ p (.str z) = true := by
  match d, h with
  | .tuple [n, k], h =>
    have h' : whenB (p n) .bp = none := h
    cases hn : p n with
    | true =>
      obtain ⟨z, rfl⟩ := hp n hn
      exact ⟨z, k, rfl, hn⟩
    | false => rw [hn] at h'; cases h'
theorem lead_strs {p : PyData → Bool} (hp : ∀ d, p d = true → ∃ z, d = .str z) : ∀ {ds : List PyData}, (∀ d ∈ ds, pairOk p d = none) → strsD (ds.map leadD) = ds.map nameD
  | [], _ => rfl
  | d :: ds, h => by
    obtain ⟨z, k, rfl, _⟩ := pairOk_none hp (h d List.mem_cons_self)
    show z :: strsD (ds.map leadD) = z :: ds.map nameD
    rw [lead_strs hp fun d m => h d (List.mem_cons_of_mem _ m)]
section
variable {P : Program} {w : World} {K : PySem.W.Frag} {mg : Str → Option Value} {base : Heap} {T0 : List Addr} {cls : Wr → Addr}
/-- a test that is handed over by its address -/
structure Tst (P : Program) (w : World) (K : PySem.W.Frag) (mg : Str → Option Value) (base : Heap) (T0 : List Addr) (f : Addr) (p : PyData → Bool) : Prop where
  ex : ∃ (fd : FuncData) (ps : List Str), FnOk P w K mg base CX0 2 f fd ps (spTest K T0 p) ∧ PySem.W.keepIn K (.ref f) = true ∧ Binds K fd ps []
theorem gPairs_eq (p : PyData → Bool) (ds : List PyData) : gPairs p (.tuple ds) = (match firstBad (ds.map (pairOk p)) with
    | some b => some b
    | none => if (strsD (ds.map leadD)).Nodup then none else some .tt) := rfl
def spPairs (P : Program) (w : World) (K : PySem.W.Frag) (mg : Str → Option Value) (base : Heap) (T : List Addr) (cls : Wr → Addr) : Sp := fun vs H Q Ex => ∃ (v : V) (d : PyData) (f : Addr) (p : PyData → Bool), vs = [v, .ref f] ∧ Dp K H v d ∧ okD d ∧ Tb T H ∧ Tst P w K mg base T f p ∧ (∀ d, p d = true → ∃ z, d = .str z) ∧
  (gPairs p d = none → ∀ H', Fr T H H' → Q .non H') ∧ (∀ b, gPairs p d = some b → ∀ H', Fr T H H' → Ex (.ref (cls b)) none H')
theorem scPairs : FnScope ["pairs", "may_lead", "pair"] ["pairs", "may_lead"] (defScope sPNeedPairs) := ⟨rfl, rfl, rfl, by decide +kernel, rfl, by decide +kernel, by decide +kernel⟩
/-- a call of a local name that holds one of several tests -/
def tCallT (i : Nat) (S : Addr → Sp → Prop) (t : TA) : TE := fun σ H Q => ∃ f sp, σ[i]? = some (some (.ref f)) ∧ S f sp ∧ t σ H fun vs H1 => sp vs H1 Q E0
theorem pe_callT {X : Cx} {k i : Nat} {x : Str} {e : Expr} {es : List Expr} {t : TA} {p pos : Pos} {S : Addr → Sp → Prop} (A : ∀ f sp, S f sp → ∃ (fd : FuncData) (ps : List Str), FnOk X.prog X.w X.K X.mg X.base CX0 k f fd ps sp ∧ PySem.W.keepIn X.K (.ref f) = true ∧ Binds X.K fd ps []) (hr : Room k X.A) (hN : X.N[i]? = some x) (hv : Vis X.env.scope x) (ha : PA X (e :: es) t)
    (hdb : (x == ("__debug__" : Str)) = false := by decide) (hcd : (x == ("__classdict__" : Str)) = false := by decide)
    (he : starEach (e :: es) X.env = (false, eval e X.env) :: starEach es X.env := by rfl) (hpl : (backTo pos (starEach es X.env)).any (·.1) = false := by rfl) : PE X (.Call (.Name x p) (e :: es) [] pos) (tCallT i S t) := by
  refine ⟨fun pins s σ H Q I h => ?_⟩
  obtain ⟨f, sp, hs, hS, ht⟩ := h
  obtain ⟨fd, ps, F, hk, hb⟩ := A f sp hS
  refine (pe_callL (i := i) (f := f) (sp := sp) (dvs := []) (E := E0) F hr hN hv hk hb .nil pass0 ha hdb hcd he hpl).run pins s σ H Q I ⟨hs, ?_⟩
  have e0 : (fun (vs : List V) (H1 : Hp) => sp (vs ++ []) H1 Q E0) = fun vs H1 => sp vs H1 Q E0 := by
    funext vs H1
    rw [List.append_nil]
  show t σ H (fun vs H1 => sp (vs ++ []) H1 Q E0)
  rw [e0]
  exact ht
theorem strsD_map : ∀ (zs : List Str), strsD (zs.map PyData.str) = zs
  | [] => rfl
  | z :: zs => by show z :: strsD (zs.map PyData.str) = _; rw [strsD_map zs]
theorem c_need_pairs (T : Tx K mg) (R : Ers K mg cls) : CalX P w K mg base 3 "_need_pairs" ["pairs", "may_lead"] (spPairs P w K mg base T0 cls) := by
  refine T.p_need_pairs.okX scPairs (fun vs H Q E h => ?_) (fun f cdv A outer s H vs Q Ex hr h => ?_)
  · obtain ⟨v, d, f, p, rfl, _⟩ := h
    rfl
  obtain ⟨v, d, fT, p, rfl, hd, ok, tb, hT, hp, q1, q2⟩ := h
  refine ⟨_, pss_cons (ps_if (pt_not (pt_val (pe_callB call_isi (by rfl) T.m_isinstance boot_isinstance (pa_cons (pv 0) (pa_cons (pe_bltn (v := .ty "tuple") (by rfl) T.m_tuple boot_tuple rfl) pa_nil)))))
      (pss_one (ps_raise rfl (takes_of rfl rfl rfl rfl) (pmk_own PySem.F.excBase_ValueError R.bp.q R.bp.g R.bp.k (raises_own R.bp.b R.bp.t) (by exact rfl)))) pss_nil)
    (pss_cons (ps_for (passes_of rfl) rfl (pi_tup (pv 0)) (pg_name (i := 2) scPairs.nd rfl (Or.inl rfl))
      (pss_one (ps_if (PW.pt (pw_or (pt_not (pt_val (pe_callB call_isi (by rfl) T.m_isinstance boot_isinstance (pa_cons (pv 2) (pa_cons (pe_bltn (v := .ty "tuple") (by rfl) T.m_tuple boot_tuple rfl) pa_nil)))))
        (pw_or (pt_cmpR op_ne (pe_callB call_len_seq (by rfl) T.m_len PySem.boot_len (pa_cons (pv 2) pa_nil)) pe_int (nomark _))
        (pw_or1 (pt_not (pt_val (pe_callT (i := 1) (S := fun f sp => ∃ p, sp = spTest K T0 p ∧ Tst P w K mg base T0 f p) (fun f sp h => by obtain ⟨p, rfl, h⟩ := h; exact h.ex) hr rfl (Or.inl rfl) (pa_cons (pe_ix ix_tup (pv 2) pe_int (fun _ _ => rfl)) pa_nil))))))))
        (pss_one (ps_raise rfl (takes_of rfl rfl rfl rfl) (pmk_own PySem.F.excBase_ValueError R.bp.q R.bp.g R.bp.k (raises_own R.bp.b R.bp.t) (by exact rfl)))) pss_nil)))
    (pss_one (ps_if (pt_cmpR op_lt (pe_callB cr_txLen (by rfl) T.m_len PySem.boot_len (pa_cons (pe_callTy (cr_txSetT rfl) (by rfl) T.m_set (by decide +kernel) (pa_cons
          (pe_lc (own := [("pair", 2)]) (g := gName 2) (tt := tYes) rfl scPairs.nd (pi_tup (pv 0)) (blkOk_by (N := ["pairs", "may_lead", "pair"]) (sc := defScope sPNeedPairs) (by decide +kernel))
            (fun _ _ _ _ _ => pg_name (i := 2) scPairs.nd rfl (Or.inl rfl)) (fun _ _ _ _ _ => pts_nil) (fun _ _ _ _ _ => pe_ix (ix_tupK K) (pv 2) pe_int (fun _ _ => rfl))) pa_nil)) pa_nil)) (pe_callB call_len_seq (by rfl) T.m_len PySem.boot_len (pa_cons (pv 0) pa_nil)) (nomark _))
      (pss_one (ps_raise rfl (takes_of rfl rfl rfl rfl) (pmk_own PySem.F.excBase_ValueError R.tt.q R.tt.g R.tt.k (raises_own R.tt.b R.tt.t) (by exact rfl)))) pss_nil))), ?_⟩
  refine ⟨_, rfl, _, _, _, _, _, rfl, .ty _, Dp.ty hd, kit_ty (isTup hd), _, rfl, ?_⟩
  cases hd with
  | tup ht hds =>
    rename_i a vs ds
    obtain ⟨len, okx⟩ := ok.sub
    have lv := DpAll.len hds
    rw [gPairs_eq] at q1
    have q2 : ∀ b, (match firstBad (ds.map (pairOk p)) with | some b => some b | none => if (strsD (ds.map leadD)).Nodup then none else some .tt) = some b → ∀ H', Fr T0 H H' → Ex (.ref (cls b)) none H' := fun b e => q2 b (by rw [gPairs_eq]; exact e)
    refine ⟨_, rfl, a, rfl, ⟨_, ht⟩, ?_⟩
    refine for_tup (K := K) (a := a) (xs := vs) (fun j σ2 H2 => Fr T0 H H2 ∧ (∃ o, σ2 = [some (.ref a), some (.ref fT), o]) ∧ ∀ i d, i < j → ds[i]? = some d → pairOk p d = none) ⟨Fr.refl tb, ⟨_, rfl⟩, fun i d h => absurd h (Nat.not_lt_zero _)⟩ (fun j σ2 H2 _ h => (Fr.keep tb h.1).2 _ _ ht) ?_ ?_
    · rintro j x σ2 H2 hx ⟨f2, ⟨o, rfl⟩, al⟩
      obtain ⟨d, hd1, hd2⟩ := DpAll.get hds hx
      have md := List.mem_of_getElem? hd1
      have okd := okx d md
      obtain ⟨n1, n2⟩ := loop_bad (g := pairOk p) al hd1
      have bad : pairOk p d = some .bp → ∀ H', Fr T0 H H' → Ex (.ref (cls .bp)) none H' := fun e => q2 .bp (by rw [n2 .bp e])
      have hd2' := (Fr.keep tb f2).dp hd2
      have ty := Dp.ty hd2'
      have it := isTup hd2'
      dsimp only [gName]
      cases hd2' with
      | tup ht2 hds2 =>
        rename_i a2 vs2 ds2
        have lv2 := DpAll.len hds2
        refine ⟨_, rfl, _, _, _, _, _, rfl, .ty _, ty, kit_ty it, _, rfl, ?_⟩
        refine iteNo (by show ¬ ((!true) = true); decide) ?_
        refine ⟨_, rfl, a2, vs2, rfl, .inr ht2, rfl, _, rfl, ite2 (fun c => ?_) (fun c => ?_)⟩
        · have ne : ¬ vs2.length = 2 := fun z => by rw [z] at c; exact absurd c (by decide)
          refine iteYes rfl ?_
          refine bad ?_ H2 f2
          match ds2, lv2 with
          | [], _ => rfl
          | [_], _ => rfl
          | [_, _], l => exact absurd l ne
          | _ :: _ :: _ :: _, _ => rfl
        · have two : vs2.length = 2 := Classical.byContradiction fun z => c (by
            have : ¬ ((vs2.length : Nat) : Int) = 2 := by omega
            simpa using this)
          obtain ⟨x1, x2, d1, d2, rfl, rfl, h3, h4⟩ := two_open hds2 two
          have ok1 := okd.sub.2 d1 List.mem_cons_self
          refine ⟨fT, _, rfl, ⟨p, rfl, hT⟩, _, rfl, a2, _, _, _, rfl, rfl, ht2, at_of (j := 0) rfl rfl, x1, d1, rfl, h3, ok1, f2.tab, fun H3 f3 => ⟨_, rfl, ?_⟩⟩
          cases hp1 : p d1 with
          | false => exact iteYes rfl (bad (by show whenB (p d1) .bp = _; rw [hp1]; rfl) H3 (f2.trans f3))
          | true => exact iteNo (by decide) ⟨f2.trans f3, ⟨_, rfl⟩, n1 (by show whenB (p d1) .bp = _; rw [hp1]; rfl)⟩
      | str _ => exact ⟨_, rfl, _, _, _, _, _, rfl, .ty _, ty, kit_ty it, _, rfl, iteYes rfl (iteYes rfl (bad rfl H2 f2))⟩
      | non => exact ⟨_, rfl, _, _, _, _, _, rfl, .ty _, ty, kit_ty it, _, rfl, iteYes rfl (iteYes rfl (bad rfl H2 f2))⟩
      | bl b => exact ⟨_, rfl, _, _, _, _, _, rfl, .ty _, ty, kit_ty it, _, rfl, iteYes rfl (iteYes rfl (bad rfl H2 f2))⟩
      | int b => exact ⟨_, rfl, _, _, _, _, _, rfl, .ty _, ty, kit_ty it, _, rfl, iteYes rfl (iteYes rfl (bad rfl H2 f2))⟩
      | lst _ _ => exact ⟨_, rfl, _, _, _, _, _, rfl, .ty _, ty, kit_ty it, _, rfl, iteYes rfl (iteYes rfl (bad rfl H2 f2))⟩
    · rintro σ2 H2 ⟨f2, ⟨o, rfl⟩, al⟩
      have all : ∀ d ∈ ds, pairOk p d = none := fun d m => by
        obtain ⟨i, hi⟩ := List.getElem?_of_mem m
        exact al i d (by rw [lv]; exact (List.getElem?_eq_some_iff.mp hi).1) hi
      have fb : firstBad (ds.map (pairOk p)) = none := fb_none.mpr fun x m => by
        obtain ⟨d, hd, rfl⟩ := List.mem_map.mp m
        exact all d hd
      rw [fb, lead_strs hp all] at q1
      rw [fb, lead_strs hp all] at q2
      have q1 : (if (ds.map nameD).Nodup then (none : Option Wr) else some .tt) = none → ∀ H', Fr T0 H H' → Q .non H' := q1
      have q2 : ∀ b, (if (ds.map nameD).Nodup then (none : Option Wr) else some .tt) = some b → ∀ H', Fr T0 H H' → Ex (.ref (cls b)) none H' := q2
      have fields : ∀ {j : Nat} {x : V}, vs[j]? = some x → ∃ (a2 : Addr) (x2 : V) (z : Str), x = .ref a2 ∧ SqT K H2 a2 [.str z, x2] ∧ (ds.map nameD)[j]? = some z := fun {j x} hx => by
        obtain ⟨d, hd1, hd2⟩ := DpAll.get hds hx
        obtain ⟨z, k, rfl, _⟩ := pairOk_none hp (all d (List.mem_of_getElem? hd1))
        have hd2' := (Fr.keep tb f2).dp hd2
        cases hd2' with
        | tup ht2 hds2 =>
          rename_i a2 vs2
          cases hds2 with
          | cons g1 g2 => cases g2 with
            | cons g3 g4 => cases g4 with
              | nil =>
                cases g1
                exact ⟨a2, _, z, rfl, ht2, by rw [List.getElem?_map, hd1]; rfl⟩
      refine ⟨_, rfl, a, rfl, ⟨_, (Fr.keep tb f2).2 _ _ ht⟩, fun D hD => ?_⟩
      have ht2 := (Fr.keep tb f2).2 _ _ ht
      refine lc_tup (K := K) (a := a) (xs := vs) (fun j H3 => Same H2 H3 ∧ H3 D = some (.lst (((ds.map nameD).take j).map V.str))) ⟨same_new hD _, upd_same⟩ (fun j H3 _ h => (Same.keep h.1) _ _ ht2) ?_ ?_
      · rintro j x H3 hx ⟨e3, h3⟩
        obtain ⟨a2, x2, z, rfl, hp2, hz⟩ := fields hx
        refine ⟨rfl, _, rfl, a2, _, _, _, rfl, rfl, (Same.keep e3) _ _ hp2, at_of (j := 0) rfl rfl, _, h3, ?_, fun b o hb => ?_, ?_⟩
        · rw [List.length_map]
          exact small1000 (Nat.le_trans (List.length_take_le' _ _) (by rw [List.length_map]; omega))
        · rw [upd_ne (ne_of_none hb hD)]
          exact e3 b o hb
        · rw [upd_same, List.take_add_one, hz, List.map_append]
          rfl
      rintro H3 ⟨e3, h3⟩
      rw [lv, List.take_of_length_le (by rw [List.length_map]; exact Nat.le_refl _)] at h3
      have zl : (ds.map nameD).length = vs.length := by rw [List.length_map, lv]
      generalize ds.map nameD = zs at h3 zl q1 q2
      refine ⟨D, zs, rfl, .inl (SqL.of h3), by omega, fun u mm hu hm => ⟨u, _, mm, rfl, upd_same, fun ys nd mem ln => ?_⟩⟩
      have mem' : ∀ x, x ∈ ys ↔ x ∈ zs := fun x => (mem x).trans decide_eq_true_iff
      obtain ⟨nl1, nl2⟩ := nodup_len nd mem' ln
      have e8 := same_new hu (TxO w u (fun y => decide (y ∈ zs)) mm)
      have e38 := Same.trans e3 e8
      have f08 := f2.trans (Fr.same f2.tab e38)
      refine ⟨_, rfl, a, _, rfl, .inr ((Same.keep e38) _ _ ht2), _, _, rfl, rfl, _, rfl, ite2 (fun c => ?_) (fun c => ?_)⟩
      · have lt := of_decide_eq_true c
        have nn := nl1.mp (by omega)
        exact q2 .tt (by rw [if_neg nn]) _ f08
      · have ge := of_decide_eq_false (Bool.eq_false_iff.mpr c)
        have nn : zs.Nodup := Classical.byContradiction fun z => absurd (nl1.mpr z) (by omega)
        exact q1 (by rw [if_pos nn]) _ f08
  | str _ => exact q2 .bp rfl H (Fr.refl tb)
  | non => exact q2 .bp rfl H (Fr.refl tb)
  | bl b => exact q2 .bp rfl H (Fr.refl tb)
  | int b => exact q2 .bp rfl H (Fr.refl tb)
  | lst _ _ => exact q2 .bp rfl H (Fr.refl tb)
end
end Sc
namespace Sc
open PySem PyProof.Rows L2
def sndK (g : PyData → Option Wr) : PyData → Option Wr
  | .tuple [_, k] => g k
  | _ => none
def gSnd (g : PyData → Option Wr) : PyData → Option Wr
  | .tuple ds => firstBad (ds.map (sndK g))
  | _ => none
def leads : PyData → List Str
  | .tuple ds => ds.map nameD
  | _ => []
def gFn (fs : List (Str × Nat × Nat)) (d0 d1 d2 d3 d4 : PyData) : Option Wr := match gWord d0 with
  | some b => some b
  | none => match strsD [d0] with
    | z :: _ => if (formTab.lookup z).isSome then some .bp else if z ∈ fs.map (·.1) then some .tt else
        firstBad [gPairs isLettD d1, gSnd (gKind []) d1, gPairs isWordD d2, gSnd (gKind (leads d1)) d2, gKind (leads d1) d3, gPart 12 ⟨leads d1, fs, leads d2⟩ d4]
    | [] => some .bp
section
variable {P : Program} {w : World} {K : PySem.W.Frag} {mg : Str → Option Value} {base : Heap} {T0 : List Addr} {C FA : Addr} {cls : Wr → Addr}
def spFn (K : PySem.W.Frag) (T : List Addr) (cls : Wr → Addr) (tOk : PyData → Prop) : Sp := fun vs H Q Ex => ∃ (v : V) (fa : Addr) (fs : List (Str × Nat × Nat)) (d0 d1 d2 d3 d4 : PyData), vs = [v, .ref fa] ∧ Dp K H v (.tuple [d0, d1, d2, d3, d4]) ∧ okD (.tuple [d0, d1, d2, d3, d4]) ∧ Tb T H ∧ FnsAt K H fa fs ∧ txs tOk 12 d4 ∧
  (gFn fs d0 d1 d2 d3 d4 = none → ∀ H', Fr T H H' → Q .non H') ∧ (∀ b, gFn fs d0 d1 d2 d3 d4 = some b → ∀ H', Fr T H H' → Ex (.ref (cls b)) none H')
abbrev nF : List Str := ["function", "earlier", "name", "letters", "params", "result", "body", "_", "bound", "own", "kind", "names", "letter", "param"]
theorem scFn : FnScope nF ["function", "earlier"] (defScope sPNeedFunction) := ⟨rfl, rfl, rfl, by decide +kernel, rfl, by decide +kernel, by decide +kernel⟩
/-- what pairs are, once they are let by -/
theorem pairs_open {p : PyData → Bool} (hp : ∀ d, p d = true → ∃ z, d = .str z) {d : PyData} (h : gPairs p d = none) : ∃ ds, d = .tuple ds ∧ (∀ d ∈ ds, ∃ z k, d = .tuple [.str z, k] ∧ p (.str z) = true) ∧ (ds.map nameD).Nodup := by
  cases d with
  | tuple ds =>
    have h' : (match firstBad (ds.map (pairOk p)) with | some b => some b | none => if (strsD (ds.map leadD)).Nodup then none else some Wr.tt) = none := h
    cases fb : firstBad (ds.map (pairOk p)) with
    | some b => rw [fb] at h'; cases h'
    | none =>
      rw [fb] at h'
      have al : ∀ d ∈ ds, pairOk p d = none := fun d m => fb_none.mp fb _ (List.mem_map.mpr ⟨d, m, rfl⟩)
      have h2 : (if (strsD (ds.map leadD)).Nodup then none else some Wr.tt) = none := h'
      rw [lead_strs hp al] at h2
      refine ⟨ds, rfl, fun d m => pairOk_none hp (al d m), ?_⟩
      by_cases nn : (ds.map nameD).Nodup
      · exact nn
      · rw [if_neg nn] at h2; cases h2
  | _ => cases h
theorem lett_str (d : PyData) (h : isLettD d = true) : ∃ z, d = .str z := by
  cases d with
  | str z => exact ⟨z, rfl⟩
  | _ => cases h
theorem word_str (d : PyData) (h : isWordD d = true) : ∃ z, d = .str z := by
  cases d with
  | str z => exact ⟨z, rfl⟩
  | _ => cases h
/-- a pair among pairs -/
theorem pair_at {K : PySem.W.Frag} {H : Hp} {vs : List V} {ds : List PyData} (hds : DpAll K H vs ds) (all : ∀ d ∈ ds, ∃ z k, d = .tuple [.str z, k]) {j : Nat} {x : V} (hx : vs[j]? = some x) :
    ∃ (a2 : Addr) (xk : V) (z : Str) (k : PyData), x = .ref a2 ∧ SqT K H a2 [.str z, xk] ∧ Dp K H xk k ∧ ds[j]? = some (.tuple [.str z, k]) ∧ (ds.map nameD)[j]? = some z := by
  obtain ⟨d, hd1, hd2⟩ := DpAll.get hds hx
  obtain ⟨z, k, rfl⟩ := all d (List.mem_of_getElem? hd1)
  cases hd2 with
  | tup ht2 hds2 =>
    cases hds2 with
    | cons g1 g2 => cases g2 with
      | cons g3 g4 => cases g4 with
        | nil =>
          cases g1
          exact ⟨_, _, z, k, rfl, ht2, g3, hd1, by rw [List.getElem?_map, hd1]; rfl⟩
theorem KeepL.dpA {K : PySem.W.Frag} {H H' : Hp} (e : KeepL K H H') {vs : List V} {ds : List PyData} (h : DpAll K H vs ds) : DpAll K H' vs ds := KeepL.dps e h
theorem c_need_function (tOk : PyData → Prop) (T : Tx K mg) (R : Ers K mg cls) (L : PlC P w K mg base C) (F : FT K w mg FA) (m12 : ∃ t, mg "DEEPEST_BODY" = some (.int 12 t)) {lv : Nat} (lv31 : 31 ≤ lv)
    (CW : Cal P w K mg base 2 "is_word" ["thing"] (spTest K T0 isWordD)) (CL : Cal P w K mg base 2 "is_letter" ["thing"] (spTest K T0 isLettD)) (CP : CalX P w K mg base 3 "_need_pairs" ["pairs", "may_lead"] (spPairs P w K mg base T0 cls))
    (CN : CalX P w K mg base 31 "need_kind" ["kind", "letters"] (spNeed K T0 (cls .bk) [] (fun ls => gK ls 9))) (CB : CalX P w K mg base lv "_need_part" ["part", "place"] (spAtG K T0 C cls ((12 : Nat) : Int) (fun E d => txs tOk 12 d ∧ E.ns.length + 10 * 12 ≤ 2012) (gPart 12))) :
    CalX P w K mg base (lv + 1) "_need_function" ["function", "earlier"] (spFn K T0 cls tOk) := by
  obtain ⟨es, nn, D⟩ := F.d
  obtain ⟨t12, m12⟩ := m12
  obtain ⟨fI, fdI, GI, MI, BI⟩ := L.ini
  obtain ⟨fW, fdW, FW, mW, kW, bW⟩ := id CW.ex
  obtain ⟨fL, fdL, FL, mL, kL, bL⟩ := id CL.ex
  refine T.p_need_function.okX scFn (fun vs H Q E h => ?_) (fun f cdv A outer s H vs Q Ex hr h => ?_)
  · obtain ⟨v, fa, fs, _, _, _, _, _, rfl, _⟩ := h
    rfl
  obtain ⟨v, fa, fs, d0, d1, d2, d3, d4, rfl, hd, ok, tb, hf, hG, q1, q2⟩ := h
  have r2 : Room 2 _ := hr.mono (by omega)
  have r3 : Room 3 _ := hr.mono (by omega)
  have r31 : Room 31 _ := hr.mono lv31
  have hu1 : (A.deeper (envOfC "_need_function" (defScope sPNeedFunction) s.heap.objs.size f cdv)).units + 1 < cLine := by have := hr.un; omega
  refine ⟨_, pss_cons (ps_if (PW.pt (pw_or (pt_not (pt_val (pe_callB call_isi (by rfl) T.m_isinstance boot_isinstance (pa_cons (pv 0) (pa_cons (pe_bltn (v := .ty "tuple") (by rfl) T.m_tuple boot_tuple rfl) pa_nil)))))
        (pw_or1 (pt_cmpR op_ne (pe_callB call_len_seq (by rfl) T.m_len PySem.boot_len (pa_cons (pv 0) pa_nil)) pe_int (nomark _)))))
      (pss_one (ps_raise rfl (takes_of rfl rfl rfl rfl) (pmk_own PySem.F.excBase_ValueError R.bp.q R.bp.g R.bp.k (raises_own R.bp.b R.bp.t) (by exact rfl)))) pss_nil)
    (pss_cons (ps_asg (pv 0) (pg_tup (by rfl) (pgs_cons (pg_name (i := 2) scFn.nd rfl (Or.inl rfl)) (pgs_cons (pg_name (i := 3) scFn.nd rfl (Or.inl rfl)) (pgs_cons (pg_name (i := 4) scFn.nd rfl (Or.inl rfl)) (pgs_cons (pg_name (i := 5) scFn.nd rfl (Or.inl rfl)) (pgs_cons (pg_name (i := 6) scFn.nd rfl (Or.inl rfl)) pgs_nil)))))))
    (pss_cons (ps_if (PW.pt (pw_or (pt_not (pt_val (pe_cal CW r2 (pa_cons (pv 2) pa_nil)))) (pw_or1 (pt_cmpR (op_in_kd D) (pv 2) (pe_glob (v := .ref FA) (by rfl) F.g rfl) (by rfl)))))
      (pss_one (ps_raise rfl (takes_of rfl rfl rfl rfl) (pmk_own PySem.F.excBase_ValueError R.bp.q R.bp.g R.bp.k (raises_own R.bp.b R.bp.t) (by exact rfl)))) pss_nil)
    (pss_cons (ps_if (pt_cmp (pc_din hu1 (pv 2) (pv 1)) (by rfl))
      (pss_one (ps_raise rfl (takes_of rfl rfl rfl rfl) (SkE.pmk_own1 PySem.F.excBase_ValueError R.tt.q R.tt.g R.tt.k (raises_own R.tt.b R.tt.t) (by exact rfl) (pe_fs (.cons pe_str (.cons (pe_fmt (pv 2)) (.cons pe_str .nil))))))) pss_nil)
    (pss_cons (ps_expr (pe_calX CP r3 (passes_call (takes_of rfl rfl rfl rfl) (fun _ _ _ _ h => h)) (pa_cons (pv 3) (pa_cons (pe_glob (v := .ref fL) (by rfl) mL rfl) pa_nil))))
    (pss_cons (ps_for (passes_of rfl) rfl (pi_tup (pv 3)) (pg_tup (by rfl) (pgs_cons (pg_name (i := 7) scFn.nd rfl (Or.inl rfl)) (pgs_cons (pg_name (i := 8) scFn.nd rfl (Or.inl rfl)) pgs_nil)))
      (pss_one (ps_expr (pe_calX CN r31 (passes_call (takes_of rfl rfl rfl rfl) (fun _ _ _ _ h => h)) (pa_cons (pv 8) (pa_cons (pe_tup pa_nil) pa_nil))))))
    (pss_cons (ps_set (i := 9) scFn.nd rfl (Or.inl rfl) (pe_callTy call_tuple_of (by rfl) T.m_tuple (by decide +kernel) (pa_cons
        (pe_lc (own := [("letter", 12), ("_", 7)]) (g := gTup K 2 (gCons (gName 12) (gCons (gName 7) gNil))) (tt := tYes) rfl scFn.nd (pi_tup (pv 3)) (blkOk_by (N := nF) (sc := defScope sPNeedFunction) (by decide +kernel))
          (fun _ _ _ _ _ => pg_tup (by rfl) (pgs_cons (pg_name (i := 12) scFn.nd rfl (Or.inl rfl)) (pgs_cons (pg_name (i := 7) scFn.nd rfl (Or.inl rfl)) pgs_nil))) (fun _ _ _ _ _ => pts_nil) (fun _ _ _ _ _ => pv 12)) pa_nil)))
    (pss_cons (ps_expr (pe_calX CP r3 (passes_call (takes_of rfl rfl rfl rfl) (fun _ _ _ _ h => h)) (pa_cons (pv 4) (pa_cons (pe_glob (v := .ref fW) (by rfl) mW rfl) pa_nil))))
    (pss_cons (ps_for (passes_of rfl) rfl (pi_tup (pv 4)) (pg_tup (by rfl) (pgs_cons (pg_name (i := 7) scFn.nd rfl (Or.inl rfl)) (pgs_cons (pg_name (i := 10) scFn.nd rfl (Or.inl rfl)) pgs_nil)))
      (pss_one (ps_expr (pe_calX CN r31 (passes_call (takes_of rfl rfl rfl rfl) (fun _ _ _ _ h => h)) (pa_cons (pv 10) (pa_cons (pv 9) pa_nil))))))
    (pss_cons (ps_expr (pe_calX CN r31 (passes_call (takes_of rfl rfl rfl rfl) (fun _ _ _ _ h => h)) (pa_cons (pv 5) (pa_cons (pv 9) pa_nil))))
    (pss_cons (ps_set (i := 11) scFn.nd rfl (Or.inl rfl) (pe_callTy call_tuple_of (by rfl) T.m_tuple (by decide +kernel) (pa_cons
        (pe_lc (own := [("param", 13), ("_", 7)]) (g := gTup K 2 (gCons (gName 13) (gCons (gName 7) gNil))) (tt := tYes) rfl scFn.nd (pi_tup (pv 4)) (blkOk_by (N := nF) (sc := defScope sPNeedFunction) (by decide +kernel))
          (fun _ _ _ _ _ => pg_tup (by rfl) (pgs_cons (pg_name (i := 13) scFn.nd rfl (Or.inl rfl)) (pgs_cons (pg_name (i := 7) scFn.nd rfl (Or.inl rfl)) pgs_nil))) (fun _ _ _ _ _ => pts_nil) (fun _ _ _ _ _ => pv 13)) pa_nil)))
    (pss_one (ps_expr (pe_calX CB hr (passes_call (takes_of rfl rfl rfl rfl) (fun _ _ _ _ h => h)) (pa_cons (pv 6) (pa_cons (pe_make MI GI r2 (by rfl) L.g BI .nil pass0 (pa_cons (pv 9) (pa_cons (pv 1) (pa_cons (pv 11) (pa_cons (pe_glob (v := .int 12) (by rfl) m12 ⟨_, rfl⟩) pa_nil))))) pa_nil))))))))))))))), ?_⟩
  have is5 : ∃ (a : Addr) (v0 v1 v2 v3 v4 : V), v = .ref a ∧ SqT K H a [v0, v1, v2, v3, v4] ∧ Dp K H v0 d0 ∧ Dp K H v1 d1 ∧ Dp K H v2 d2 ∧ Dp K H v3 d3 ∧ Dp K H v4 d4 := by
    cases hd with
    | tup ht hds => cases hds with
      | cons g0 hds => cases hds with
        | cons g1 hds => cases hds with
          | cons g2 hds => cases hds with
            | cons g3 hds => cases hds with
              | cons g4 hds => cases hds with
                | nil => exact ⟨_, _, _, _, _, _, rfl, ht, g0, g1, g2, g3, g4⟩
  have ty := Dp.ty hd
  have it := isTup hd
  obtain ⟨a, v0, v1, v2, v3, v4, rfl, ht, g0, g1, g2, g3, g4⟩ := is5
  have okm := ok.sub.2
  have ok0 := okm d0 (by simp)
  have ok1 := okm d1 (by simp)
  have ok2 := okm d2 (by simp)
  have ok3 := okm d3 (by simp)
  have ok4 := okm d4 (by simp)
  show tOr _ _ _ _ _
  refine or_pure false false (fun R1 h => ⟨_, rfl, _, _, _, _, _, rfl, .ty _, ty, kit_ty it, _, rfl, h⟩) (fun _ R1 h => ⟨_, rfl, a, _, rfl, .inr ht, rfl, _, rfl, h⟩) (fun h => by rcases h with h | h <;> cases h) (fun _ _ => iteF ?_)
  dsimp only [tNext, gName]
  refine ⟨_, rfl, a, _, rfl, ht, rfl, _, _, rfl, _, _, rfl, _, _, rfl, _, _, rfl, _, _, rfl, rfl, ?_⟩
  dsimp only [gName]
  -- the name
  show tOr _ _ _ _ _
  refine ⟨_, rfl, v0, d0, rfl, g0, ok0, tb, fun H1 f1 => ⟨_, rfl, ?_⟩⟩
  cases hw : isWordD d0 with
  | false =>
    refine iteYes rfl (iteYes rfl (q2 .bp ?_ H1 f1))
    unfold gFn
    rw [show gWord d0 = some .bp by show whenB (isWordD d0) .bp = _; rw [hw]; rfl]
  | true =>
  refine iteNo (by decide) ?_
  obtain ⟨z, rfl⟩ := word_str d0 hw
  cases g0
  have ef : gFn fs (.str z) d1 d2 d3 d4 = if (formTab.lookup z).isSome then some .bp else if z ∈ fs.map (·.1) then some .tt else
        firstBad [gPairs isLettD d1, gSnd (gKind []) d1, gPairs isWordD d2, gSnd (gKind (leads d1)) d2, gKind (leads d1) d3, gPart 12 ⟨leads d1, fs, leads d2⟩ d4] := by
    unfold gFn
    rw [show gWord (.str z) = none by show whenB (isWordD (.str z)) .bp = _; rw [hw]; rfl]
    rfl
  rw [ef] at q1
  have q2 : ∀ b, (if (formTab.lookup z).isSome then some Wr.bp else if z ∈ fs.map (·.1) then some .tt else
        firstBad [gPairs isLettD d1, gSnd (gKind []) d1, gPairs isWordD d2, gSnd (gKind (leads d1)) d2, gKind (leads d1) d3, gPart 12 ⟨leads d1, fs, leads d2⟩ d4]) = some b → ∀ H', Fr T0 H H' → Ex (.ref (cls b)) none H' := fun b e => q2 b (by rw [ef]; exact e)
  obtain ⟨r0, e1, e2⟩ : ∃ r : Option Value, PySem.W.nsIn K FA z = some r ∧ r.isSome = (formTab.lookup z).isSome := by
    cases e : formTab.lookup z with
    | none => exact ⟨_, F.none_ z e, rfl⟩
    | some fm =>
      obtain ⟨t, e1, _⟩ := F.some_ z fm e
      exact ⟨_, e1, rfl⟩
  refine ⟨_, rfl, z, r0, rfl, rfl, e1, _, rfl, ?_⟩
  rw [e2]
  cases hl : (formTab.lookup z).isSome with
  | true => exact iteYes rfl (q2 .bp (by rw [if_pos hl]) H1 f1)
  | false =>
  rw [if_neg (by rw [hl]; decide)] at q1
  have q2 : ∀ b, (if z ∈ fs.map (·.1) then some Wr.tt else
        firstBad [gPairs isLettD d1, gSnd (gKind []) d1, gPairs isWordD d2, gSnd (gKind (leads d1)) d2, gKind (leads d1) d3, gPart 12 ⟨leads d1, fs, leads d2⟩ d4]) = some b → ∀ H', Fr T0 H H' → Ex (.ref (cls b)) none H' := fun b e => q2 b (by rw [if_neg (by rw [hl]; decide)]; exact e)
  refine iteNo (by decide) ?_
  dsimp only [tNext, gName]
  have z8 : z.length ≤ 8 := (of_decide_eq_true (show decide (Word z) = true from hw)).2.1
  have hf1 := hf.keep tb f1
  obtain ⟨kvs, k1, k2, nd, k3⟩ := id hf1
  refine ⟨_, rfl, _, rfl, fa, _, rfl, DGet.k (k := Sum.inr z) k1, _, rfl, ?_⟩
  rw [fn_at (K := K) (H := H1) z k2]
  refine ite2 (fun hm => ?_) (fun hm => ?_)
  · have hm' := of_decide_eq_true hm
    refine ⟨_, rfl, by decide +kernel, _, rfl, .inl ⟨z, rfl, sizeOk (by omega), _, rfl, ?_, _, rfl, ?_, ?_⟩⟩
    · rw [len_app]
      have : (Str.empty ++ "the function " : Str).length ≤ 100 := by decide +kernel
      exact sizeOk (by omega)
    · rw [len_app, len_app]
      have : (Str.empty ++ "the function " : Str).length ≤ 100 := by decide +kernel
      have : (" is told twice" : Str).length ≤ 100 := by decide +kernel
      exact sizeOk (by omega)
    · exact q2 .tt (by rw [if_pos hm']) H1 f1
  have hm' : ¬ z ∈ fs.map (·.1) := fun y => hm (decide_eq_true y)
  rw [if_neg hm'] at q1
  have q2 : ∀ b, firstBad [gPairs isLettD d1, gSnd (gKind []) d1, gPairs isWordD d2, gSnd (gKind (leads d1)) d2, gKind (leads d1) d3, gPart 12 ⟨leads d1, fs, leads d2⟩ d4] = some b → ∀ H', Fr T0 H H' → Ex (.ref (cls b)) none H' := fun b e => q2 b (by rw [if_neg hm']; exact e)
  dsimp only [tNext, gName]
  have fbS : ∀ (l r : List (Option Wr)) (b : Wr), (∀ x ∈ l, x = none) → firstBad (l ++ some b :: r) = some b := fun l r b h => fb_at (j := l.length) (fun i x hi hx => h x (List.mem_of_getElem? (by rw [List.getElem?_append_left hi] at hx; exact hx))) (by rw [List.getElem?_append_right (Nat.le_refl _), Nat.sub_self]; rfl)
  -- the letters
  refine ⟨_, rfl, v1, d1, fL, isLettD, rfl, (Fr.keep tb f1).dp g1, ok1, f1.tab, ⟨fdL, _, FL, kL, bL⟩, lett_str, fun p1 H2 f2 => ?_, fun b e H2 f2 => q2 b (by rw [e]; exact fbS [] _ b fun x h => by cases h) H2 (f1.trans f2)⟩
  have f02 := f1.trans f2
  obtain ⟨ds1, rfl, al1, nd1⟩ := pairs_open lett_str p1
  have al1' : ∀ d ∈ ds1, ∃ z k, d = .tuple [.str z, k] := fun d m => let ⟨z, k, e, _⟩ := al1 d m; ⟨z, k, e⟩
  have g1c := g1
  cases g1 with
  | tup ht1 hds1 =>
  rename_i a1 vs1
  have lv1 := DpAll.len hds1
  dsimp only [tNext, gName]
  refine ⟨_, rfl, a1, rfl, ⟨_, (Fr.keep tb f02).2 _ _ ht1⟩, ?_⟩
  refine for_tup (K := K) (a := a1) (xs := vs1) (fun j σ2 H3 => Fr T0 H H3 ∧ (∃ o7 o8, σ2 = [some (.ref a), some (.ref fa), some (.str z), some (.ref a1), some v2, some v3, some v4, o7, o8, none, none, none, none, none]) ∧ ∀ i d, i < j → ds1[i]? = some d → sndK (gKind []) d = none) ⟨f02, ⟨_, _, rfl⟩, fun i d h => absurd h (Nat.not_lt_zero _)⟩ (fun j σ2 H3 _ h => (Fr.keep tb h.1).2 _ _ ht1) ?_ ?_
  · rintro j x σ2 H3 hx ⟨f3, ⟨o7, o8, rfl⟩, al⟩
    obtain ⟨a2, xk, y, k, rfl, hp2, hk, hd1, _⟩ := pair_at ((Fr.keep tb f3).dpA hds1) al1' hx
    obtain ⟨n1, n2⟩ := loop_bad (g := sndK (gKind [])) al hd1
    have okk := (ok1.sub.2 _ (List.mem_of_getElem? hd1)).sub.2 k (by simp)
    refine ⟨a2, _, rfl, hp2, rfl, _, _, rfl, _, _, rfl, rfl, ?_⟩
    dsimp only [gName]
    refine ⟨_, rfl, Nat.zero_le _, fun u hu => ?_⟩
    have e4 := same_new hu (.tup [])
    have f4 := f3.trans (Fr.same f3.tab e4)
    refine ⟨[], xk, k, u, rfl, (Same.keepL e4).dp hk, okk, f4.tab, SqT.of upd_same, fun e H5 f5 => ?_, fun e H5 f5 => ?_⟩
    · exact ⟨f4.trans f5, ⟨_, _, rfl⟩, n1 (by show whenB (gK [] 9 k) .bk = none; rw [show gK [] 9 k = true from e]; rfl)⟩
    · refine q2 .bk ?_ H5 (f4.trans f5)
      have e0 : gSnd (gKind []) (.tuple ds1) = some .bk := n2 .bk (by show whenB (gK [] 9 k) .bk = some .bk; rw [show gK [] 9 k = false from e]; rfl)
      rw [e0]
      exact fbS [_] _ _ fun x h => by rw [List.mem_singleton.mp h]; exact p1
  rintro σ2 H3 ⟨f3, ⟨o7, o8, rfl⟩, al⟩
  have p2 : gSnd (gKind []) (.tuple ds1) = none := loop_good (g := sndK (gKind [])) (by rw [← lv1]; exact al)
  -- the letters alone
  have ht3 := (Fr.keep tb f3).2 _ _ ht1
  refine ⟨_, rfl, a1, rfl, ⟨_, ht3⟩, fun D hD => ?_⟩
  refine lc_tup (K := K) (a := a1) (xs := vs1) (fun j H4 => Same H3 H4 ∧ H4 D = some (.lst (((ds1.map nameD).take j).map V.str))) ⟨same_new hD _, upd_same⟩ (fun j H4 _ h => (Same.keep h.1) _ _ ht3) ?_ ?_
  · rintro j x H4 hx ⟨e4, h4⟩
    obtain ⟨a2, xk, y, k, rfl, hp2, hk, hd1, hn⟩ := pair_at ((Fr.keep tb f3).dpA hds1) al1' hx
    refine ⟨a2, _, rfl, (Same.keep e4) _ _ hp2, rfl, _, _, rfl, _, _, rfl, rfl, rfl, _, rfl, _, h4, ?_, fun b o hb => ?_, ?_⟩
    · rw [List.length_map]
      have := ok1.sub.1
      exact small1000 (Nat.le_trans (List.length_take_le' _ _) (by rw [List.length_map]; omega))
    · rw [upd_ne (ne_of_none hb hD)]
      exact e4 b o hb
    · rw [upd_same, List.take_add_one, hn, List.map_append]
      rfl
  rintro H4 ⟨e4, h4⟩
  rw [lv1, List.take_of_length_le (by rw [List.length_map]; exact Nat.le_refl _)] at h4
  refine ⟨D, _, rfl, .inl ⟨SqL.of h4, fun la hla => ?_⟩⟩
  have e5 := Same.trans e4 (same_new hla (.tup ((ds1.map nameD).map V.str)))
  have hla5 : SqT K (upd H4 la (.tup ((ds1.map nameD).map V.str))) la ((ds1.map nameD).map V.str) := SqT.of upd_same
  have f5 := f3.trans (Fr.same f3.tab e5)
  generalize (upd H4 la (.tup ((ds1.map nameD).map V.str))) = H5 at hla5 f5 ⊢
  have ell : leads (.tuple ds1) = ds1.map nameD := rfl
  rw [ell] at q1 q2
  generalize ds1.map nameD = own at q1 q2 hla5
  dsimp only [gName]
  -- the params
  refine ⟨_, rfl, v2, d2, fW, isWordD, rfl, (Fr.keep tb f5).dp g2, ok2, f5.tab, ⟨fdW, _, FW, kW, bW⟩, word_str, fun p3 H6 f6 => ?_, fun b e H6 f6 => q2 b (by
      rw [e]
      exact fbS [_, _] _ b fun x h => by
        rcases List.mem_cons.mp h with h | h
        · rw [h]; exact p1
        · rw [List.mem_singleton.mp h]; exact p2) H6 (f5.trans f6)⟩
  have f06 := f5.trans f6
  obtain ⟨ds2, rfl, al2, nd2⟩ := pairs_open word_str p3
  have al2' : ∀ d ∈ ds2, ∃ z k, d = .tuple [.str z, k] := fun d m => let ⟨z, k, e, _⟩ := al2 d m; ⟨z, k, e⟩
  cases g2 with
  | tup ht2 hds2 =>
  rename_i a2 vs2
  have lv2 := DpAll.len hds2
  have l60 := ok2.sub.1
  dsimp only [tNext, gName]
  refine ⟨_, rfl, a2, rfl, ⟨_, (Fr.keep tb f06).2 _ _ ht2⟩, ?_⟩
  refine for_tup (K := K) (a := a2) (xs := vs2) (fun j σ2 H7 => Fr T0 H H7 ∧ SqT K H7 la (own.map V.str) ∧ (∃ o7 o8 o10, σ2 = [some (.ref a), some (.ref fa), some (.str z), some (.ref a1), some (.ref a2), some v3, some v4, o7, o8, some (.ref la), o10, none, none, none]) ∧ ∀ i d, i < j → ds2[i]? = some d → sndK (gKind own) d = none) ⟨f06, (Fr.keep f5.tab f6).2 _ _ hla5, ⟨_, _, _, rfl⟩, fun i d h => absurd h (Nat.not_lt_zero _)⟩ (fun j σ2 H7 _ h => (Fr.keep tb h.1).2 _ _ ht2) ?_ ?_
  · rintro j x σ2 H7 hx ⟨f7, hla7, ⟨o7, o8, o10, rfl⟩, al⟩
    obtain ⟨b2, xk, y, k, rfl, hp2, hk, hd1, _⟩ := pair_at ((Fr.keep tb f7).dpA hds2) al2' hx
    obtain ⟨n1, n2⟩ := loop_bad (g := sndK (gKind own)) al hd1
    have okk := (ok2.sub.2 _ (List.mem_of_getElem? hd1)).sub.2 k (by simp)
    refine ⟨b2, _, rfl, hp2, rfl, _, _, rfl, _, _, rfl, rfl, ?_⟩
    dsimp only [gName]
    refine ⟨_, rfl, _, rfl, own, xk, k, la, rfl, hk, okk, f7.tab, hla7, fun e H8 f8 => ?_, fun e H8 f8 => ?_⟩
    · exact ⟨f7.trans f8, (Fr.keep f7.tab f8).2 _ _ hla7, ⟨_, _, _, rfl⟩, n1 (by show whenB (gK own 9 k) .bk = none; rw [show gK own 9 k = true from e]; rfl)⟩
    · refine q2 .bk ?_ H8 (f7.trans f8)
      have e0 : gSnd (gKind own) (.tuple ds2) = some .bk := n2 .bk (by show whenB (gK own 9 k) .bk = some .bk; rw [show gK own 9 k = false from e]; rfl)
      rw [e0]
      exact fbS [_, _, _] _ _ fun x h => by
        rcases List.mem_cons.mp h with h | h
        · rw [h]; exact p1
        rcases List.mem_cons.mp h with h | h
        · rw [h]; exact p2
        · rw [List.mem_singleton.mp h]; exact p3
  rintro σ2 H7 ⟨f7, hla7, ⟨o7, o8, o10, rfl⟩, al⟩
  have p4 : gSnd (gKind own) (.tuple ds2) = none := loop_good (g := sndK (gKind own)) (by rw [← lv2]; exact al)
  -- the result
  refine ⟨_, rfl, _, rfl, own, v3, d3, la, rfl, (Fr.keep tb f7).dp g3, ok3, f7.tab, hla7, fun e H8 f8 => ?_, fun e H8 f8 => ?_⟩
  rotate_left
  · refine q2 .bk ?_ H8 (f7.trans f8)
    have e0 : gKind own d3 = some .bk := by show whenB (gK own 9 d3) .bk = some .bk; rw [show gK own 9 d3 = false from e]; rfl
    rw [e0]
    exact fbS [_, _, _, _] _ _ fun x h => by
      rcases List.mem_cons.mp h with h | h
      · rw [h]; exact p1
      rcases List.mem_cons.mp h with h | h
      · rw [h]; exact p2
      rcases List.mem_cons.mp h with h | h
      · rw [h]; exact p3
      · rw [List.mem_singleton.mp h]; exact p4
  have p5 : gKind own d3 = none := by show whenB (gK own 9 d3) .bk = none; rw [show gK own 9 d3 = true from e]; rfl
  have f08 := f7.trans f8
  have ht8 := (Fr.keep tb f08).2 _ _ ht2
  have hla8 := (Fr.keep f7.tab f8).2 _ _ hla7
  dsimp only [tNext, gName]
  -- the names
  refine ⟨_, rfl, a2, rfl, ⟨_, ht8⟩, fun D hD => ?_⟩
  refine lc_tup (K := K) (a := a2) (xs := vs2) (fun j H9 => Same H8 H9 ∧ H9 D = some (.lst (((ds2.map nameD).take j).map V.str))) ⟨same_new hD _, upd_same⟩ (fun j H9 _ h => (Same.keep h.1) _ _ ht8) ?_ ?_
  · rintro j x H9 hx ⟨e9, h9⟩
    obtain ⟨b2, xk, y, k, rfl, hp2, hk, hd1, hn⟩ := pair_at ((Fr.keep tb f08).dpA hds2) al2' hx
    refine ⟨b2, _, rfl, (Same.keep e9) _ _ hp2, rfl, _, _, rfl, _, _, rfl, rfl, rfl, _, rfl, _, h9, ?_, fun b o hb => ?_, ?_⟩
    · rw [List.length_map]
      exact small1000 (Nat.le_trans (List.length_take_le' _ _) (by rw [List.length_map]; omega))
    · rw [upd_ne (ne_of_none hb hD)]
      exact e9 b o hb
    · rw [upd_same, List.take_add_one, hn, List.map_append]
      rfl
  rintro H9 ⟨e9, h9⟩
  rw [lv2, List.take_of_length_le (by rw [List.length_map]; exact Nat.le_refl _)] at h9
  refine ⟨D, _, rfl, .inl ⟨SqL.of h9, fun na hna => ?_⟩⟩
  have e10 := Same.trans e9 (same_new hna (.tup ((ds2.map nameD).map V.str)))
  have hna10 : SqT K (upd H9 na (.tup ((ds2.map nameD).map V.str))) na ((ds2.map nameD).map V.str) := SqT.of upd_same
  have f10 := f08.trans (Fr.same f08.tab e10)
  have hla10 := (Same.keep e10) _ _ hla8
  generalize (upd H9 na (.tup ((ds2.map nameD).map V.str))) = H10 at hna10 f10 hla10 ⊢
  have e11 : leads (.tuple ds2) = ds2.map nameD := rfl
  rw [e11] at q1 q2
  have lns : (ds2.map nameD).length ≤ 60 := by rw [List.length_map]; exact l60
  generalize ds2.map nameD = ns at q1 q2 hna10 lns
  dsimp only [gName]
  -- the body
  refine ⟨_, rfl, _, rfl, _, rfl, _, rfl, fun x dx' nx ndx nex => ?_⟩
  have s0 : Same H10 (upd (upd H10 dx' (.own x)) x (.ins C dx' [])) := fun b o e => by
    rw [upd_ne (ne_of_none e nx), upd_ne (ne_of_none e ndx)]
    exact e
  refine ⟨x, dx', la, fa, na, _, rfl, upd_same, fun H11 hx kp => ⟨rfl, ?_⟩⟩
  have s1 : Same H10 H11 := fun c o e => kp c o (s0 c o e) (ne_of_none e nx)
  have f11 := f10.trans (Fr.same f10.tab s1)
  refine ⟨v4, d4, x, ⟨own, fs, ns⟩, rfl, (Fr.keep tb f11).dp g4, ok4, f11.tab, ⟨⟨dx', la, fa, na, hx, (Same.keep s1) _ _ hla10, hf.keep tb f11, (Same.keep s1) _ _ hna10⟩⟩, ⟨hG, ?_⟩, fun e H12 f12 => q1 ?_ H12 (f11.trans f12), fun b e H12 f12 => q2 b ?_ H12 (f11.trans f12)⟩
  · show ns.length + 10 * 12 ≤ 2012
    omega
  · rw [p1, p2, p3, p4, p5, e]
    rfl
  · rw [p1, p2, p3, p4, p5, e]
    rfl
end
end Sc
namespace Sc
open PySem PyProof.Rows L2
theorem HeldX.imp {P : Program} {w : World} {K : PySem.W.Frag} {mg : Str → Option Value} {base : Heap} {k : Nat} {f : Addr} {sp sp' : Sp} (h : HeldX P w K mg base k f sp) (i : ∀ vs H Q E, sp' vs H Q E → sp vs H Q E) : HeldX P w K mg base k f sp' := by
  obtain ⟨fd, ps, a, b⟩ := h.ex
  exact ⟨fd, ps, a.imp i, b⟩
theorem CalX.imp {P : Program} {w : World} {K : PySem.W.Frag} {mg : Str → Option Value} {base : Heap} {k : Nat} {x : Str} {ps : List Str} {sp sp' : Sp} (h : CalX P w K mg base k x ps sp) (i : ∀ vs H Q E, sp' vs H Q E → sp vs H Q E) : CalX P w K mg base k x ps sp' := by
  obtain ⟨f, fd, a, b⟩ := h.ex
  exact ⟨f, fd, a.imp i, b⟩
def needTab : List (Str × Str) := [("whole", "_need_whole"), ("text", "_need_text"), ("known", "_need_known"), ("given", "_need_word"), ("field", "_need_word"), ("head", "_need_head"), ("kind", "_need_kind_here"), ("part", "_need_within"), ("last", "_need_within"),
  ("parts", "_need_parts"), ("fields", "_need_fields"), ("function", "_need_told_earlier"), ("kinds", "_need_kinds"), ("handed", "_need_handed")]
theorem slot_all {rec : Env0 → PyData → Option Wr} {E : Env0} {d : PyData} : gSlot rec E ("whole" : Str) d = gWhole d ∧ gSlot rec E ("text" : Str) d = gText d ∧ gSlot rec E ("known" : Str) d = gKnown E d ∧ gSlot rec E ("given" : Str) d = gWord d ∧ gSlot rec E ("field" : Str) d = gWord d ∧
    gSlot rec E ("head" : Str) d = gHead d ∧ gSlot rec E ("kind" : Str) d = gKind E.ls d ∧ gSlot rec E ("part" : Str) d = rec E d ∧ gSlot rec E ("last" : Str) d = rec E d ∧ gSlot rec E ("parts" : Str) d = gParts (rec E) d ∧ gSlot rec E ("fields" : Str) d = gFields (rec E) d := by
  refine ⟨?_, ?_, ?_, ?_, ?_, ?_, ?_, ?_, ?_, ?_, ?_⟩ <;> (unfold gSlot; repeat (first | rw [if_pos rfl] | rw [if_neg (by decide +kernel)]))
section
variable {P : Program} {w : World} {K : PySem.W.Frag} {mg : Str → Option Value} {base : Heap} {T0 : List Addr} {C FA NA : Addr} {cls : Wr → Addr}
theorem at_g {r : Int} {G : Env0 → PyData → Prop} {g g' : Env0 → PyData → Option Wr} (e : ∀ E d, g E d = g' E d) : ∀ vs H Q Ex, spAtG K T0 C cls r G g' vs H Q Ex → spAt K T0 C cls r g vs H Q Ex := fun vs H Q Ex ⟨v, d, p, E, h1, h2, h3, h4, h5, _, h6, h7⟩ =>
  ⟨v, d, p, E, h1, h2, h3, h4, h5, fun z => h6 (by rw [← e]; exact z), fun b z => h7 b (by rw [← e]; exact z)⟩
theorem gg_g {r : Int} {G G' : Env0 → PyData → Prop} {g g' : Env0 → PyData → Option Wr} (e : ∀ E d, g E d = g' E d) (i : ∀ E d, G' E d → G E d) : ∀ vs H Q Ex, spAtG K T0 C cls r G' g' vs H Q Ex → spAtG K T0 C cls r G g vs H Q Ex := fun vs H Q Ex ⟨v, d, p, E, h1, h2, h3, h4, h5, hG, h6, h7⟩ =>
  ⟨v, d, p, E, h1, h2, h3, h4, h5, i E d hG, fun z => h6 (by rw [← e]; exact z), fun b z => h7 b (by rw [← e]; exact z)⟩
/-- the needs' table, as the top has it -/
structure NT (K : PySem.W.Frag) (w : World) (mg : Str → Option Value) (NA : Addr) : Prop where
  g : mg "NEEDS" = some (.ref NA)
  at_ : ∀ q ∈ needTab, ∃ f, KDct K w NA q.1 (.ref f) ∧ mg q.2 = some (.ref f)
/-- what a part needs, at any depth -/
theorem c_parts (tOk : PyData → Prop) (T : Tx K mg) (R : Ers K mg cls) (L : PlC P w K mg base C) (F : FT K w mg FA) (N : NT K w mg NA) (m12 : ∃ t, mg "DEEPEST_BODY" = some (.int 12 t))
    (CW : Cal P w K mg base 2 "is_word" ["thing"] (spTest K T0 isWordD)) (CAF : Cal P w K mg base 1 "are_fields" ["thing"] (spTest K T0 fldD))
    (CN : CalX P w K mg base 31 "need_kind" ["kind", "letters"] (spNeed K T0 (cls .bk) [] (fun ls => gK ls 9)))
    (CT : ∀ r, CalX P w K mg base 3 "_need_text" ["told", "place"] (spAtG K T0 C cls r (fun _ d => tOk d) (fun _ => gText))) :
    ∀ n : Nat, CalX P w K mg base (4 * n + 36) "_need_part" ["part", "place"] (spAtG K T0 C cls (n : Int) (fun E d => txs tOk n d ∧ E.ns.length + 10 * n ≤ 2012) (gPart n)) := by
  have CF : CalX P w K mg base 1 "_form_of" ["part"] (spForm K T0 cls) := c_form_of T R F
  have CA : CalX P w K mg base 1 "_need_all_handed" ["part", "function"] (spAll K T0 cls) := c_need_all T R
  intro n
  induction n with
  | zero => exact (c_need_part (n := 0) (lv := 2) tOk T R L N.g m12 (by omega) CF CA fun m h => by cases h).mono (by omega)
  | succ m ih =>
    have wd : ∀ r, CalX P w K mg base 3 "_need_word" ["told", "place"] (spAt K T0 C cls r fun _ => gWord) := fun r => c_need_word T R CW
    have cin := (c_need_in (n := m) T L (by omega) ih)
    have chd := c_need_handed T R cin
    have cpt := c_need_parts T R chd
    have cfd := c_need_fields2 T R (by omega) CAF (wd _) cin
    refine (c_need_part (n := m + 1) (lv := 4 * m + 39) tOk T R L N.g m12 (by omega) CF CA fun m' h s hs => ?_).mono (by omega)
    obtain rfl : m = m' := Nat.succ.inj h
    have fnd : ∀ x : Str, (s, x) ∈ needTab → ∃ f, KDct K w NA s (.ref f) ∧ mg x = some (.ref f) := fun x hx => N.at_ (s, x) hx
    have sa : ∀ {E : Env0} {d : PyData}, _ := fun {E d} => slot_all (rec := gPart m) (E := E) (d := d)
    have hs' : s = "whole" ∨ s = "text" ∨ s = "known" ∨ s = "given" ∨ s = "field" ∨ s = "head" ∨ s = "kind" ∨ s = "part" ∨ s = "last" ∨ s = "parts" ∨ s = "fields" ∨ s = "function" ∨ s = "kinds" ∨ s = "handed" := by
      simpa [slotNames] using hs
    rcases hs' with rfl | rfl | rfl | rfl | rfl | rfl | rfl | rfl | rfl | rfl | rfl | rfl | rfl | rfl
    · obtain ⟨f, k, e⟩ := fnd "_need_whole" (by decide +kernel)
      exact ⟨f, k, (((c_need_whole T R).held e).mono (by omega)).imp (at_g fun E d => sa.1.symm)⟩
    · obtain ⟨f, k, e⟩ := fnd "_need_text" (by decide +kernel)
      exact ⟨f, k, (((CT _).held e).mono (by omega)).imp (gg_g (fun E d => sa.2.1.symm) fun E d h => h.1.1 rfl)⟩
    · obtain ⟨f, k, e⟩ := fnd "_need_known" (by decide +kernel)
      exact ⟨f, k, (((c_need_known T R L (wd _)).held e).mono (by omega)).imp (at_g fun E d => sa.2.2.1.symm)⟩
    · obtain ⟨f, k, e⟩ := fnd "_need_word" (by decide +kernel)
      exact ⟨f, k, (((wd _).held e).mono (by omega)).imp (at_g fun E d => sa.2.2.2.1.symm)⟩
    · obtain ⟨f, k, e⟩ := fnd "_need_word" (by decide +kernel)
      exact ⟨f, k, (((wd _).held e).mono (by omega)).imp (at_g fun E d => sa.2.2.2.2.1.symm)⟩
    · obtain ⟨f, k, e⟩ := fnd "_need_head" (by decide +kernel)
      exact ⟨f, k, (((c_need_head T R).held e).mono (by omega)).imp (at_g fun E d => sa.2.2.2.2.2.1.symm)⟩
    · obtain ⟨f, k, e⟩ := fnd "_need_kind_here" (by decide +kernel)
      exact ⟨f, k, (((c_need_kind_here T L CN).held e).mono (by omega)).imp (at_g fun E d => sa.2.2.2.2.2.2.1.symm)⟩
    · obtain ⟨f, k, e⟩ := fnd "_need_within" (by decide +kernel)
      exact ⟨f, k, ((cin.held e).mono (by omega)).imp (gg_g (fun E d => sa.2.2.2.2.2.2.2.1.symm) fun E d h => ⟨h.1.2.1 (.inl rfl), by have := h.2; omega⟩)⟩
    · obtain ⟨f, k, e⟩ := fnd "_need_within" (by decide +kernel)
      exact ⟨f, k, ((cin.held e).mono (by omega)).imp (gg_g (fun E d => sa.2.2.2.2.2.2.2.2.1.symm) fun E d h => ⟨h.1.2.1 (.inr rfl), by have := h.2; omega⟩)⟩
    · obtain ⟨f, k, e⟩ := fnd "_need_parts" (by decide +kernel)
      exact ⟨f, k, ((cpt.held e).mono (by omega)).imp (gg_g (fun E d => sa.2.2.2.2.2.2.2.2.2.1.symm) fun E d h ds q x mx => ⟨(h.1.2.2 ds q).1 (.inl rfl) x mx, by have := h.2; omega⟩)⟩
    · obtain ⟨f, k, e⟩ := fnd "_need_fields" (by decide +kernel)
      exact ⟨f, k, ((cfd.held e).mono (by omega)).imp (gg_g (fun E d => sa.2.2.2.2.2.2.2.2.2.2.symm) fun E d h ds q x y mx => ⟨(h.1.2.2 ds q).2 rfl x y mx, by have := h.2; omega⟩)⟩
    · obtain ⟨f, k, e⟩ := fnd "_need_told_earlier" (by decide +kernel)
      exact ⟨f, k, (((c_need_told T R L (wd _)).held e).mono (by omega)).imp (at_g fun E d => slot_function.symm)⟩
    · obtain ⟨f, k, e⟩ := fnd "_need_kinds" (by decide +kernel)
      exact ⟨f, k, (((c_need_kinds T R L CN).held e).mono (by omega)).imp (at_g fun E d => slot_kinds.symm)⟩
    · obtain ⟨f, k, e⟩ := fnd "_need_handed" (by decide +kernel)
      exact ⟨f, k, ((chd.held e).mono (by omega)).imp (gg_g (fun E d => slot_handed.symm) fun E d h ds q x mx => ⟨(h.1.2.2 ds q).1 (.inr rfl) x mx, by have := h.2; omega⟩)⟩
end
end Sc
namespace Sc
open PySem PyProof.Rows L2
def fnOf3 : PyData → Str × Nat × Nat
  | .tuple [.str z, .tuple ls, .tuple ps, _, _] => (z, ls.length, ps.length)
  | _ => (Str.empty, 0, 0)
def gProg : List (Str × Nat × Nat) → List PyData → Option Wr
  | _, [] => none
  | fs, .tuple [d0, d1, d2, d3, d4] :: r => match gFn fs d0 d1 d2 d3 d4 with
    | some b => some b
    | none => gProg (fs ++ [fnOf3 (.tuple [d0, d1, d2, d3, d4])]) r
  | _, _ :: _ => some .bp
def is5 (tOk : PyData → Prop) (d : PyData) : Prop := ∃ d0 d1 d2 d3 d4, d = .tuple [d0, d1, d2, d3, d4] ∧ txs tOk 12 d4
theorem gFn_open {fs : List (Str × Nat × Nat)} {d0 d1 d2 d3 d4 : PyData} (h : gFn fs d0 d1 d2 d3 d4 = none) : ∃ z ls ps, d0 = .str z ∧ d1 = .tuple ls ∧ d2 = .tuple ps ∧ ¬ z ∈ fs.map (·.1) := by
  have h0 := h
  unfold gFn at h
  cases hw : gWord d0 with
  | some b => rw [hw] at h; cases h
  | none =>
    obtain ⟨z, rfl, _⟩ := gWord_none hw
    rw [hw] at h
    have h : (if (formTab.lookup z).isSome then some Wr.bp else if z ∈ fs.map (·.1) then some .tt else
        firstBad [gPairs isLettD d1, gSnd (gKind []) d1, gPairs isWordD d2, gSnd (gKind (leads d1)) d2, gKind (leads d1) d3, gPart 12 ⟨leads d1, fs, leads d2⟩ d4]) = none := h
    split at h
    · cases h
    split at h
    · cases h
    · rename_i hz
      have al := fb_none.mp h
      obtain ⟨ls, rfl, _⟩ := pairs_open lett_str (al (gPairs isLettD d1) (by simp))
      obtain ⟨ps, rfl, _⟩ := pairs_open word_str (al (gPairs isWordD d2) (by simp))
      exact ⟨z, ls, ps, rfl, rfl, rfl, hz⟩
theorem put_new {kvs : List (Key × V)} {k : Key} {v : V} (h : ∀ q ∈ kvs, q.1 ≠ k) : putK kvs k v = kvs ++ [(k, v)] := by
  unfold putK
  rw [if_neg]
  intro z
  obtain ⟨q, hq, e⟩ := List.any_eq_true.mp z
  exact h q hq (of_decide_eq_true e)
section
variable {P : Program} {w : World} {K : PySem.W.Frag} {mg : Str → Option Value} {base : Heap} {T0 : List Addr} {C FA NA : Addr} {cls : Wr → Addr}
def spProg (K : PySem.W.Frag) (T : List Addr) (cls : Wr → Addr) (tOk : PyData → Prop) : Sp := fun vs H Q Ex => ∃ (l : Addr) (us : List V) (ds : List PyData), vs = [.ref l] ∧ SqL K H l us ∧ DpAll K H us ds ∧ ds.length ≤ 12 ∧ (∀ d ∈ ds, okD d ∧ is5 tOk d) ∧ Tb T H ∧
  (gProg [] ds = none → ∀ (b : Addr) (H' : Hp) (kvs : List (Key × V)), Fr T H H' → H' b = some (.dK kvs) → kvs.map (·.1) = ds.map (fun d => (Sum.inr (fnOf3 d).1 : Key)) → kvs.map (·.2) = us → Q (.ref b) H') ∧ (∀ e, gProg [] ds = some e → ∀ H', Fr T H H' → Ex (.ref (cls e)) none H')
theorem gProg_step {tOk : PyData → Prop} : ∀ {ds : List PyData} {fs : List (Str × Nat × Nat)} {j : Nat}, (∀ d ∈ ds, is5 tOk d) → (∀ i d0 d1 d2 d3 d4, i < j → ds[i]? = some (.tuple [d0, d1, d2, d3, d4]) → gFn (fs ++ (ds.take i).map fnOf3) d0 d1 d2 d3 d4 = none) →
    gProg fs ds = gProg (fs ++ (ds.take j).map fnOf3) (ds.drop j)
  | [], fs, j, _, _ => by simp
  | d :: ds, fs, 0, _, _ => by simp
  | d :: ds, fs, j + 1, h5, h => by
    obtain ⟨d0, d1, d2, d3, d4, rfl, _⟩ := h5 d List.mem_cons_self
    have e := h 0 d0 d1 d2 d3 d4 (Nat.succ_pos _) rfl
    rw [List.take_zero, List.map_nil, List.append_nil] at e
    have ih := gProg_step (ds := ds) (fs := fs ++ [fnOf3 (.tuple [d0, d1, d2, d3, d4])]) (j := j) (fun d m => h5 d (List.mem_cons_of_mem _ m)) fun i e0 e1 e2 e3 e4 hi hd => by
      have := h (i + 1) e0 e1 e2 e3 e4 (Nat.succ_lt_succ hi) hd
      rw [List.take_succ_cons, List.map_cons] at this
      rw [List.append_assoc]
      exact this
    show (match gFn fs d0 d1 d2 d3 d4 with | some b => some b | none => gProg (fs ++ [fnOf3 (.tuple [d0, d1, d2, d3, d4])]) ds) = _
    rw [e]
    show gProg (fs ++ [fnOf3 (.tuple [d0, d1, d2, d3, d4])]) ds = _
    rw [ih, List.append_assoc]
    rfl
theorem scProg : FnScope ["program", "functions", "function"] ["program"] (defScope sNeedProgram) := ⟨rfl, rfl, rfl, by decide +kernel, rfl, by decide +kernel, by decide +kernel⟩
theorem c_need_program (tOk : PyData → Prop) {lv : Nat} (T : Tx K mg) (R : Ers K mg cls) (m12 : ∃ t, mg "MOST_FUNCTIONS" = some (.int 12 t)) (CF : CalX P w K mg base lv "_need_function" ["function", "earlier"] (spFn K T0 cls tOk)) : CalX P w K mg base (lv + 1) "need_program" ["program"] (spProg K T0 cls tOk) := by
  obtain ⟨t12, m12⟩ := m12
  refine T.need_program.okX scProg (fun vs H Q E h => ?_) (fun f cdv A outer s H vs Q Ex hr h => ?_)
  · obtain ⟨l, us, ds, rfl, _⟩ := h
    rfl
  obtain ⟨l, us, ds, rfl, hl, hds, l12, h5, tb, q1, q2⟩ := h
  have hu1 : (A.deeper (envOfC "need_program" (defScope sNeedProgram) s.heap.objs.size f cdv)).units + 1 < cLine := by have := hr.un; omega
  refine ⟨_, pss_cons (ps_if (PW.pt (pw_or (pt_not (pt_val (pe_callB call_isi (by rfl) T.m_isinstance boot_isinstance (pa_cons (pv 0) (pa_cons (pe_bltn (v := .ty "list") (by rfl) T.m_list boot_list rfl) pa_nil)))))
        (pw_or1 (pt_cmpR op_gt (pe_callB call_len_seq (by rfl) T.m_len PySem.boot_len (pa_cons (pv 0) pa_nil)) (pe_glob (v := .int 12) (by rfl) m12 ⟨_, rfl⟩) (nomark _)))))
      (pss_one (ps_raise rfl (takes_of rfl rfl rfl rfl) (SkE.pmk_own1 PySem.F.excBase_ValueError R.bp.q R.bp.g R.bp.k (raises_own R.bp.b R.bp.t) (by exact rfl) (pe_fs (.cons pe_str (.cons (pe_fmt (pe_glob (v := .int 12) (by rfl) m12 ⟨_, rfl⟩)) (.cons pe_str .nil))))))) pss_nil)
    (pss_cons (ps_set (i := 1) scProg.nd rfl (Or.inl rfl) pe_dnewK)
    (pss_cons (ps_for (passes_of rfl) rfl (pi_list (pv 0)) (pg_name (i := 2) scProg.nd rfl (Or.inl rfl))
      (pss_cons (ps_expr (pe_calX CF hr (passes_call (takes_of rfl rfl rfl rfl) (fun _ _ _ _ h => h)) (pa_cons (pv 2) (pa_cons (pv 1) pa_nil))))
      (pss_one (ps_dput hu1 (pv 1) (pe_ix ix_tup (pv 2) pe_int (fun _ _ => rfl)) (pv 2) rfl))))
    (pss_one (ps_ret (pv 1))))), ?_⟩
  have lu := DpAll.len hds
  have dpl : Dp K H (.ref l) (.list ds) := .lst hl hds
  show tOr _ _ _ _ _
  refine or_pure false (decide (((us.length : Nat) : Int) > 12)) (fun R1 h => ⟨_, rfl, _, _, _, _, true, rfl, .ty _, Dp.ty dpl, kit_ty (by show kitB "list" "list" = some true; decide +kernel), _, rfl, h⟩) (fun _ R1 h => ⟨_, rfl, l, us, rfl, .inl hl, _, _, rfl, rfl, _, rfl, h⟩) (fun h => ?_) (fun _ _ => iteF ?_)
  · exact absurd (of_decide_eq_true (h.elim (fun z => by cases z) id)) (by omega)
  dsimp only [tNext, gName]
  refine fun b hb => ?_
  have e1 := same_new hb (.dK [])
  have f1 : Fr T0 H (upd H b (.dK [])) := Fr.same tb e1
  have hb1 : (upd H b (.dK [])) b = some (.dK []) := upd_same
  generalize (upd H b (.dK [])) = H1 at e1 f1 hb1 ⊢
  dsimp only [gName]
  refine ⟨_, rfl, l, rfl, ⟨_, (Fr.keep tb f1).1 _ _ hl⟩, ?_⟩
  refine for_list (K := K) (a := l) (xs := us) (fun j σ2 H2 => Fr T0 H H2 ∧ (∃ o, σ2 = [some (.ref l), some (.ref b), o]) ∧ (∃ kvs, H2 b = some (.dK kvs) ∧ kvs.map (·.1) = (ds.take j).map (fun d => (Sum.inr (fnOf3 d).1 : Key)) ∧ kvs.map (·.2) = us.take j) ∧ (((ds.take j).map fnOf3).map (·.1)).Nodup ∧
      ∀ i d0 d1 d2 d3 d4, i < j → ds[i]? = some (.tuple [d0, d1, d2, d3, d4]) → gFn ([] ++ (ds.take i).map fnOf3) d0 d1 d2 d3 d4 = none) ⟨f1, ⟨_, rfl⟩, ⟨[], hb1, rfl, rfl⟩, List.nodup_nil, fun i _ _ _ _ _ h => absurd h (Nat.not_lt_zero _)⟩ (fun j σ2 H2 _ h => (Fr.keep tb h.1).1 _ _ hl) ?_ ?_
  · rintro j x σ2 H2 hx ⟨f2, ⟨o, rfl⟩, ⟨kvs, hk, k1, k2⟩, nd, al⟩
    obtain ⟨d, hd1, hd2⟩ := DpAll.get hds hx
    obtain ⟨okd, d0, d1, d2, d3, d4, rfl, tx⟩ := h5 d (List.mem_of_getElem? hd1)
    have jl := (List.getElem?_eq_some_iff.mp hd1).1
    have kl : kvs.length = j := by
      have := congrArg List.length k2
      rw [List.length_map, List.length_take] at this
      omega
    have hfn : FnsAt K H2 b ((ds.take j).map fnOf3) := by
      refine ⟨kvs, hk, by rw [k1, List.map_map]; rfl, nd, fun i k v z nl np a1 a2 => ?_⟩
      have il : i < j := by have := (List.getElem?_eq_some_iff.mp a1).1; omega
      have b1 : (us.take j)[i]? = some v := by rw [← k2, List.getElem?_map, a1]; rfl
      rw [List.getElem?_take_of_lt il] at b1
      rw [List.getElem?_map, List.getElem?_take_of_lt il] at a2
      obtain ⟨d', c1, c2⟩ := Option.map_eq_some_iff.mp a2
      obtain ⟨d'', c3, c4⟩ := DpAll.get hds b1
      rw [c1] at c3
      cases c3
      obtain ⟨_, e0, e1, e2, e3, e4, rfl, _⟩ := h5 d' (List.mem_of_getElem? c1)
      obtain ⟨z', ls, ps, rfl, rfl, rfl, _⟩ := gFn_open (al i _ _ _ _ _ il c1)
      have c2' : (z', ls.length, ps.length) = (z, nl, np) := c2
      injection c2' with g1 g2
      injection g2 with g2 g3
      exact ⟨_, ls, ps, _, _, (Fr.keep tb f2).dp c4, g2, g3⟩
    have step := gProg_step (tOk := tOk) (fs := []) (j := j) (fun d m => (h5 d m).2) al
    have dr : ds.drop j = .tuple [d0, d1, d2, d3, d4] :: ds.drop (j + 1) := by
      rw [List.drop_eq_getElem_cons jl]
      congr 1
      exact (List.getElem?_eq_some_iff.mp hd1).2
    rw [dr, List.nil_append] at step
    have step : gProg [] ds = (match gFn ((ds.take j).map fnOf3) d0 d1 d2 d3 d4 with | some b => some b | none => gProg ((ds.take j).map fnOf3 ++ [fnOf3 (.tuple [d0, d1, d2, d3, d4])]) (ds.drop (j + 1))) := step
    dsimp only [gName]
    refine ⟨_, rfl, _, rfl, x, b, (ds.take j).map fnOf3, d0, d1, d2, d3, d4, rfl, (Fr.keep tb f2).dp hd2, okd, f2.tab, hfn, tx, fun e H3 f3 => ?_, fun bb e H3 f3 => q2 bb (by rw [step, e]) H3 (f2.trans f3)⟩
    obtain ⟨z, ls, ps, rfl, rfl, rfl, hz⟩ := gFn_open e
    have f23 := f2.trans f3
    have hk3 : H3 b = some (.dK kvs) := f3.old _ _ hk fun y => by
      obtain ⟨ps, g, _⟩ := f2.tab b y
      rw [hk] at g
      cases g
    obtain ⟨a, vs, x0, rfl, ha, hx0, hd0⟩ := tup_get (j := 0) ((Fr.keep tb f23).dp hd2) rfl
    cases hd0
    refine ⟨_, rfl, _, rfl, _, rfl, a, vs, 0, _, rfl, rfl, ha, at_of (j := 0) rfl hx0, b, _, rfl, DPut.k (k := Sum.inr z) hk3 (small1000 (by omega)), ?_⟩
    have new : putK kvs (Sum.inr z) (.ref a) = kvs ++ [(Sum.inr z, .ref a)] := put_new fun q hq e => hz (by
      have m : (Sum.inr z : Key) ∈ kvs.map (·.1) := List.mem_map.mpr ⟨q, hq, e⟩
      rw [k1] at m
      obtain ⟨d, hd, e2⟩ := List.mem_map.mp m
      have e3 : (fnOf3 d).1 = z := Sum.inr.inj e2
      exact List.mem_map.mpr ⟨fnOf3 d, List.mem_map.mpr ⟨d, hd, rfl⟩, e3⟩)
    rw [new]
    refine ⟨⟨fun c o hc nc => ?_, fun P' hP' => ?_⟩, ⟨_, rfl⟩, ⟨_, upd_same, ?_, ?_⟩, ?_, ?_⟩
    · rw [upd_ne (ne_of_none hc hb)]
      exact f23.old c o hc nc
    · obtain ⟨ps', g, gg⟩ := f3.tab P' hP'
      exact ⟨ps', by rw [upd_ne (fun y => by rw [y, hk3] at g; cases g)]; exact g, gg⟩
    · rw [List.map_append, k1, List.take_add_one, hd1, List.map_append]
      rfl
    · rw [List.map_append, k2, List.take_add_one, hx]
      rfl
    · rw [List.take_add_one, hd1, List.map_append, List.map_append]
      refine List.nodup_append.mpr ⟨nd, List.nodup_cons.mpr ⟨by simp, List.nodup_nil⟩, fun y hy y2 hy2 e9 => ?_⟩
      have e8 : y2 = z := List.mem_singleton.mp hy2
      exact hz (by rw [← e8, ← e9]; exact hy)
    · intro i e0 e1 e2 e3 e4 hi he
      rcases Nat.lt_succ_iff_lt_or_eq.mp hi with y | y
      · exact al i e0 e1 e2 e3 e4 y he
      · subst y
        rw [hd1] at he
        cases he
        rw [List.nil_append]
        exact e
  · rintro σ2 H2 ⟨f2, ⟨o, rfl⟩, ⟨kvs, hk, k1, k2⟩, nd, al⟩
    have ld : us.length = ds.length := lu
    rw [ld, List.take_of_length_le (Nat.le_refl _)] at k1
    rw [List.take_of_length_le (Nat.le_refl _)] at k2
    have step := gProg_step (tOk := tOk) (fs := []) (j := ds.length) (fun d m => (h5 d m).2) (by rw [← ld]; exact al)
    rw [List.drop_of_length_le (Nat.le_refl _)] at step
    exact ⟨_, rfl, q1 (by rw [step]; rfl) b H2 kvs f2 hk k1 k2⟩
end
end Sc
namespace Sc
open PySem PyProof.Rows L2
theorem DefT.okX {P : Program} {w : World} {K : PySem.W.Frag} {mg : Str → Option Value} {base : Heap} {x : Str} {st : Stmt} {N ps : List Str} {c : Addr} {k : Nat} {sp : Sp} (D : DefT K mg x st ps c) (S : FnScope N ps (defScope st)) (len : ∀ vs H Q E, sp vs H Q E → vs.length = ps.length)
    (body : ∀ (f : Addr) (A : Around) (outer : List Env) (s : Shared) (H : Hp) (vs : List V) (Q : VK) (E : XK), Room k (A.deeper (envOfC x (defScope st) s.heap.objs.size f (.ref c))) → sp vs H Q E →
      ∃ t, PSs (cxOf (L2.CX P w) P w K mg base N x (defScope st) f (.ref c) A outer s H E) (defBody st) t ∧ t { nx := fun _ H' => Q .non H', rt := Q } (start N vs) H) : CalX P w K mg base (k + 1) x ps sp := by
  obtain ⟨f, fd, oc, od, kV, doc, pm, an, ct, osl, rfl, lk, hcd, kp, m, b⟩ := D.ex
  exact ⟨f, _, fn_of lk hcd S len fun A outer s H vs Q E hr hsp => body f A outer s H vs Q E hr hsp, m, kp, b⟩
section
variable {P : Program} {w : World} {K : PySem.W.Frag} {mg : Str → Option Value} {base : Heap} {T0 : List Addr} {C : Addr} {cls : Wr → Addr} {r : Int}
theorem scNeedText : FnScope ["told", "place"] ["told", "place"] (defScope sPNeedText) := ⟨rfl, rfl, rfl, by decide +kernel, rfl, by decide +kernel, by decide +kernel⟩
theorem c_need_text {c Pa : Addr} (T : Tx K mg) (R : Ers K mg cls) (D : DefT K mg "_need_text" sPNeedText ["told", "place"] c) (TB : GxR.TabB base mg c Pa) (hP : Pa ∈ T0) (hbar : ∃ t, mg "BARRED_SIGN" = some (.int 37 t)) :
    CalX P w K mg base 2 "_need_text" ["told", "place"] (spAt K T0 C cls r fun _ => gText) := by
  obtain ⟨tk, hbar⟩ := hbar
  refine D.okX scNeedText (fun vs H Q E h => ?_) (fun f A outer s H vs Q Ex hr h => ?_)
  · obtain ⟨v, d, p, E, rfl, _⟩ := h
    rfl
  obtain ⟨v, d, p, E, rfl, hd, ok, tb, hp, q1, q2⟩ := h
  dsimp only at q1 q2
  refine ⟨_, pss_cons (ps_if (PW.pt (pw_or (pt_not (pt_val (pe_callB call_isi (by rfl) T.m_isinstance boot_isinstance (pa_cons (pv 0) (pa_cons (pe_bltn (v := .ty "str") (by rfl) T.m_str boot_str rfl) pa_nil)))))
        (pw_or1 (pt_not (pt_val (GxR.pe_allS hr (by rfl) T.m_all (by decide +kernel) TB (by rfl) (gen_by (by decide +kernel)) (pv 0) (elt_between (a := 32) (b := 126) (by rfl) (by rfl)) (fun _ => rfl)))))))
      (pss_one (ps_raise rfl (takes_of rfl rfl rfl rfl) (pmk_own PySem.F.excBase_ValueError R.bp.q R.bp.g R.bp.k (raises_own R.bp.b R.bp.t) (by exact rfl)))) pss_nil)
    (pss_one (ps_if (pt_val (pe_anyM hr (by rfl) T.m_any TB (by rfl) (gen_by (by decide +kernel)) (pv 0) (elt_ord (n := 37) (by rfl) (by rfl) (by rfl) (by rfl) T.m_ord hbar) (fun _ => rfl)))
      (pss_one (ps_raise rfl (takes_of rfl rfl rfl rfl) (pmk_own PySem.F.excBase_ValueError R.bp.q R.bp.g R.bp.k (raises_own R.bp.b R.bp.t) (by exact rfl)))) pss_nil)), ?_⟩
  have neg : gText d = some .bp → ∀ H', Fr T0 H H' → Ex (.ref (cls .bp)) none H' := fun e => q2 .bp e
  have ty := Dp.ty hd
  have is := isStr hd
  show tOr _ _ _ _ _
  cases hd with
  | str z =>
    refine ⟨_, rfl, _, _, _, _, _, rfl, .ty _, ty, kit_ty is, _, rfl, ?_⟩
    refine iteF ?_
    obtain ⟨ps, g, tr⟩ := tb Pa hP
    refine ⟨_, rfl, z, rfl, ⟨ps, g, tr⟩, fun H2 t2 => ?_⟩
    have f2 := Fr.tabbed tb t2 hP
    have G : gText (.str z) = whenB ((z.cps.toList.all fun c => decide (32 ≤ c) && decide (c ≤ 126)) && !(z.cps.toList.any fun c => c == 37)) .bp := rfl
    refine ⟨_, rfl, ?_⟩
    cases h1 : (z.cps.toList.all fun c => decide (32 ≤ c) && decide (c ≤ 126)) with
    | false => exact iteT (neg (by rw [G, h1]; rfl) H2 f2)
    | true =>
      refine iteF ?_
      obtain ⟨ps2, g2, tr2⟩ := f2.tab Pa hP
      refine ⟨_, rfl, z, rfl, ⟨ps2, g2, tr2⟩, fun H3 t3 => ?_⟩
      have f3 := f2.trans (Fr.tabbed f2.tab t3 hP)
      refine ⟨_, rfl, ?_⟩
      have e9 : (z.cps.toList.any fun c => ((c : Nat) : Int) == 37) = z.cps.toList.any fun c => c == 37 := by
        congr 1
        funext c
        rw [Bool.eq_iff_iff, beq_iff_eq, beq_iff_eq]
        omega
      rw [e9]
      cases h2 : (z.cps.toList.any fun c => c == 37) with
      | true => exact iteT (neg (by rw [G, h1, h2]; rfl) H3 f3)
      | false => exact iteF (q1 (by rw [G, h1, h2]; rfl) H3 f3)
  | non => exact ⟨_, rfl, _, _, _, _, _, rfl, .ty _, ty, kit_ty is, _, rfl, iteT (iteT (neg rfl H (Fr.refl tb)))⟩
  | bl _ => exact ⟨_, rfl, _, _, _, _, _, rfl, .ty _, ty, kit_ty is, _, rfl, iteT (iteT (neg rfl H (Fr.refl tb)))⟩
  | int _ => exact ⟨_, rfl, _, _, _, _, _, rfl, .ty _, ty, kit_ty is, _, rfl, iteT (iteT (neg rfl H (Fr.refl tb)))⟩
  | lst _ _ => exact ⟨_, rfl, _, _, _, _, _, rfl, .ty _, ty, kit_ty is, _, rfl, iteT (iteT (neg rfl H (Fr.refl tb)))⟩
  | tup _ _ => exact ⟨_, rfl, _, _, _, _, _, rfl, .ty _, ty, kit_ty is, _, rfl, iteT (iteT (neg rfl H (Fr.refl tb)))⟩
end
end Sc
namespace Sc
open PySem PyProof.Rows L2
section
variable {P : Program} {w : World} {K : PySem.W.Frag} {mg : Str → Option Value} {base : Heap}
theorem scTaken : FnScope ["_law_s", "_law_most", "_law_found"] ["_law_s", "_law_most"] (defScope sTaken) := ⟨rfl, rfl, rfl, by decide +kernel, rfl, by decide +kernel, by decide +kernel⟩
theorem c_taken (T : Tx K mg) : Cal P w K mg base 1 "_law_taken" ["_law_s", "_law_most"] (spTaken K) := by
  refine T.taken.ok scTaken (fun vs H Q E h => ?_) (fun f cdv A outer s H vs Q E hr h => ?_)
  · obtain ⟨s, i, m, rfl, _⟩ := h
    rfl
  obtain ⟨s, i, m, rfl, ⟨ns, g, hs, hc, hl, iok, ok⟩, m0, mb, q⟩ := h
  have hu := hu_of hr
  have ml := T.m_len
  refine ⟨_, pss_cons (ps_if (pt_cmpR op_eq (pe_dget hu (pv 0) pe_str (fun _ _ => rfl)) pe_int (nomark _))
      (pss_cons (ps_dput hu (pv 0) pe_str (pe_op op_add (pe_dget hu (pv 0) pe_str (fun _ _ => rfl)) pe_int) rfl)
      (pss_cons (ps_if (pt_cmpR op_gt (pe_dget hu (pv 0) pe_str (fun _ _ => rfl)) (pe_callB call_len_seq (by rfl) ml PySem.boot_len (pa_cons (pe_dget hu (pv 0) pe_str (fun _ _ => rfl)) pa_nil)) (nomark _))
        (pss_cons (ps_dput hu (pv 0) pe_str (pe_op op_mod (pe_op op_add (pe_op op_mul (pe_dget hu (pv 0) pe_str (fun _ _ => rfl)) pe_int) pe_int) pe_int) rfl)
        (pss_cons (ps_set (i := 2) scTaken.nd rfl (Or.inl rfl) (pe_op op_fdiv (pe_dget hu (pv 0) pe_str (fun _ _ => rfl)) pe_int))
        (pss_one (ps_ret (pe_ifExp (pt_cmpR op_gt (pv 1) (pe_op op_pow pe_int pe_int) (nomark _)) (pe_op op_modN (pe_op op_pow (pv 2) pe_int) (pv 1)) (pe_op op_modN (pv 2) (pv 1)))))))
        pss_nil)
      (pss_cons (ps_if (pt_cmpR op_lt (pe_ix ix_list (pe_dget hu (pv 0) pe_str (fun _ _ => rfl)) (pe_op op_sub (pe_dget hu (pv 0) pe_str (fun _ _ => rfl)) pe_int) (fun _ _ => rfl)) (pe_op op_pow pe_int pe_int) (nomark _))
        (pss_one (ps_ret (pe_op op_modN (pe_ix ix_list (pe_dget hu (pv 0) pe_str (fun _ _ => rfl)) (pe_op op_sub (pe_dget hu (pv 0) pe_str (fun _ _ => rfl)) pe_int) (fun _ _ => rfl)) (pv 1))))
        pss_nil)
      (pss_one (ps_dput hu (pv 0) pe_str (pe_ix ix_list (pe_dget hu (pv 0) pe_str (fun _ _ => rfl)) (pe_op op_sub (pe_dget hu (pv 0) pe_str (fun _ _ => rfl)) pe_int) (fun _ _ => rfl)) rfl)))))
      pss_nil)
    (pss_cons (ps_set (i := 2) scTaken.nd rfl (Or.inl rfl) (pe_op op_modN (pe_dget hu (pv 0) pe_str (fun _ _ => rfl)) (pv 1)))
    (pss_cons (ps_dput hu (pv 0) pe_str (pe_op op_fdivW (pe_dget hu (pv 0) pe_str (fun _ _ => rfl)) (pv 1)) rfl)
    (pss_one (ps_ret (pv 2))))), ?_⟩
  -- the rows behind the if, from any state
  have last : ∀ (H1 : Hp) (g1 : Mv) (v2 : Option V), H1 s = some (.dK (stD i g1)) → SqL K H1 i.c (ns.map V.int) → g1.Ok → Ext s H H1 →
      tSeq (tAsg (tOp (rI (fun _ j => j ≠ 0) fun i j => V.int (i.fmod j)) (tDGet (tVar 0) (tC (.str "rest"))) (tVar 1)) (gName 2))
        (tSeq (sDPut (tVar 0) (tC (.str "rest")) (tOp (rI CDivW fun i j => V.int (i / j)) (tDGet (tVar 0) (tC (.str "rest"))) (tVar 1))) (tRet (tVar 2)))
        { nx := fun _ H' => Q .non H', rt := Q } [some (.ref s), some (.int m), v2] H1 := fun H1 g1 v2 hs1 hc1 ok1 e1 => by
    refine ⟨_, rfl, s, _, rfl, gS hs1 rfl, _, rfl, _, _, rfl, rfl, by omega, ?_⟩
    refine ⟨_, rfl, s, _, rfl, gS hs1 rfl, _, rfl, _, _, rfl, rfl, ⟨m0, ?_⟩, _, rfl, s, _, rfl, pS hs1 (p_rest i g1 _), _, rfl, ?_⟩
    · exact Nat.lt_trans (PySem.Flt.log2_lt_of (by decide) mb) (by decide)
    have em : g1.rest.fmod m = g1.rest % m := Int.fmod_eq_emod_of_nonneg _ (by omega)
    refine q _ _ (by rw [em]; exact Int.emod_nonneg _ (by omega)) (by rw [em]; exact Int.emod_lt_of_pos _ m0) (e1.trans (Ext.upd _ _ _)) ⟨ns, _, upd_same, (Ext.upd s H1 _).seq hs1 hc1, hl, iok, ?_⟩
    exact { ok1 with r0 := Int.ediv_nonneg ok1.r0 (by omega) }
  refine ⟨_, rfl, s, _, rfl, gS hs rfl, rfl, _, rfl, ite2 (fun c1 => ?_) (fun c1 => last H g none hs hc ok (Ext.refl s H))⟩
  refine ⟨_, rfl, s, _, rfl, gS hs rfl, _, _, rfl, rfl, _, rfl, s, _, rfl, pS hs (p_at i g _), ?_⟩
  have hs1 : (upd H s (.dK (stD i { g with att := g.att + 1 }))) s = _ := upd_same
  have e1 := Ext.upd s H (.dK (stD i { g with att := g.att + 1 }))
  have hc1 := e1.seq hs hc
  have ok1 : ({ g with att := g.att + 1 } : Mv).Ok := { ok with a0 := by have := ok.a0; show 0 ≤ g.att + 1; omega }
  generalize upd H s (.dK (stD i { g with att := g.att + 1 })) = H1 at hs1 e1 hc1 ⊢
  have a1 : 1 ≤ ({ g with att := g.att + 1 } : Mv).att := by have := ok.a0; show 1 ≤ g.att + 1; omega
  generalize ({ g with att := g.att + 1 } : Mv) = g1 at hs1 ok1 a1 ⊢
  refine ⟨_, rfl, s, _, rfl, gS hs1 rfl, _, rfl, s, _, rfl, gS hs1 rfl, i.c, _, rfl, .inl hc1, _, _, rfl, rfl, _, rfl, ite2 (fun c2 => ?_) (fun c2 => ?_)⟩
  · refine ⟨_, rfl, s, _, rfl, gS hs1 rfl, _, _, rfl, rfl, .inr (by decide), _, _, rfl, rfl, _, _, rfl, rfl, (by show (0 : Int) < 2147483647; decide), _, rfl, s, _, rfl, pS hs1 (p_seed i g1 _), ?_⟩
    have s0 : 0 ≤ (g1.seed * 48271 + 11) % 2147483647 := Int.emod_nonneg _ (by decide)
    have s1 : (g1.seed * 48271 + 11) % 2147483647 < 2147483647 := Int.emod_lt_of_pos _ (by decide)
    generalize (g1.seed * 48271 + 11) % 2147483647 = sd at s0 s1 ⊢
    have hs2 : (upd H1 s (.dK (stD i { g1 with seed := sd }))) s = _ := upd_same
    have e2 := Ext.upd s H1 (.dK (stD i { g1 with seed := sd }))
    have hc2 := e2.seq hs1 hc1
    have ok2 : ({ g1 with seed := sd } : Mv).Ok := { ok1 with e0 := s0 }
    generalize upd H1 s (.dK (stD i { g1 with seed := sd })) = H2 at hs2 e2 hc2 ⊢
    refine ⟨_, rfl, s, _, rfl, gS hs2 rfl, _, _, rfl, rfl, ⟨by decide, by decide⟩, _, rfl, _, _, rfl, rfl, ⟨by decide, by decide, by decide⟩, _, _, rfl, rfl, _, rfl, ?_⟩
    have fin : ∀ x : Int, Q (.int (x.fmod m)) H2 := fun x => by
      have em : x.fmod m = x % m := Int.fmod_eq_emod_of_nonneg _ (by omega)
      rw [em]
      exact q _ _ (Int.emod_nonneg _ (by omega)) (Int.emod_lt_of_pos _ m0) (e1.trans e2) ⟨ns, _, hs2, hc2, hl, iok, ok2⟩
    refine ite2 (fun c3 => ?_) (fun c3 => ?_)
    · refine ⟨_, rfl, _, _, rfl, rfl, ⟨by decide, by decide, ?_⟩, _, rfl, _, _, rfl, rfl, by omega, fin _⟩
      show (sd / 64).natAbs < 2 ^ 64
      omega
    · exact ⟨_, rfl, _, rfl, _, _, rfl, rfl, by omega, fin _⟩
  · have hlt : g1.att - 1 < (ns.length : Int) := by
      have c2' : ¬ (((ns.map V.int).length : Nat) : Int) < g1.att := of_decide_eq_false (Bool.eq_false_iff.mpr c2)
      rw [List.length_map] at c2'
      omega
    obtain ⟨j, hj⟩ : ∃ j : Nat, g1.att - 1 = (j : Int) := ⟨(g1.att - 1).toNat, by omega⟩
    have hjl : j < ns.length := by omega
    have hat : atI (ns.map V.int) (g1.att - 1) = some (.int ns[j]) := by
      rw [hj]
      exact atI_nat (by rw [List.getElem?_map, List.getElem?_eq_getElem hjl] <;> rfl)
    refine ⟨_, rfl, s, _, rfl, gS hs1 rfl, _, rfl, s, _, rfl, gS hs1 rfl, _, _, rfl, rfl, i.c, _, _, _, rfl, rfl, hc1, hat, _, _, rfl, rfl, ⟨by decide, by decide, by decide⟩, _, _, rfl, rfl, _, rfl, ite2 (fun c3 => ?_) (fun c3 => ?_)⟩
    · have em : ns[j].fmod m = ns[j] % m := Int.fmod_eq_emod_of_nonneg _ (by omega)
      refine ⟨_, rfl, s, _, rfl, gS hs1 rfl, _, rfl, s, _, rfl, gS hs1 rfl, _, _, rfl, rfl, i.c, _, _, _, rfl, rfl, hc1, hat, _, rfl, _, _, rfl, rfl, by omega, ?_⟩
      exact q _ _ (by rw [em]; exact Int.emod_nonneg _ (by omega)) (by rw [em]; exact Int.emod_lt_of_pos _ m0) e1 ⟨ns, _, hs1, hc1, hl, iok, ok1⟩
    · refine ⟨_, rfl, s, _, rfl, gS hs1 rfl, _, rfl, s, _, rfl, gS hs1 rfl, _, _, rfl, rfl, i.c, _, _, _, rfl, rfl, hc1, hat, _, rfl, s, _, rfl, pS hs1 (p_rest i g1 _), ?_⟩
      have c3' : ¬ ns[j] < 10 ^ 18 := of_decide_eq_false (Bool.eq_false_iff.mpr c3)
      exact last _ _ none upd_same ((Ext.upd s H1 _).seq hs1 hc1) { ok1 with r0 := by show 0 ≤ ns[j]; omega } (e1.trans (Ext.upd _ _ _))
end
end Sc
namespace Sc
open PySem PyProof.Rows L2
section
variable {P : Program} {w : World} {K : PySem.W.Frag} {mg : Str → Option Value} {base : Heap}
def d8 (c : Addr) : List (Key × V) := [(.inr "cells", .ref c), (.inr "at", .int 0), (.inr "rest", .int 0), (.inr "size", .int 1), (.inr "place", .int 0), (.inr "turn", .int 0), (.inr "talk", .int 0), (.inr "odd", .int 0)]
def d9 (c fl : Addr) : List (Key × V) := d8 c ++ [(.inr "functions", .ref fl)]
theorem merge8 (c : Addr) : mergeK [] (d8 c) = d8 c := by kernel_rfl
theorem fn8 (c fl : Addr) : putK (d8 c) (.inr "functions") (.ref fl) = d9 c fl := by rfl
theorem seed9 (c fl : Addr) (n : Int) : putK (d9 c fl) (.inr "seed") (.int n) = stD ⟨c, fl, 1, 0, 0, 0, 0, .no⟩ ⟨0, 0, n⟩ := by rfl
theorem scBegin : FnScope ["_law_script", "_law_s", "_law_cell"] ["_law_script"] (defScope sBegin) := ⟨rfl, rfl, rfl, by decide +kernel, rfl, by decide +kernel, by decide +kernel⟩
theorem c_begin (T : Tx K mg) : Cal P w K mg base 2 "_law_begin" ["_law_script"] (spBegun K) := by
  have CT : Cal P w K mg base 1 "_law_taken" ["_law_s", "_law_most"] (spTaken K) := c_taken T
  refine T.begin.ok scBegin (fun vs H Q E h => ?_) (fun f cdv A outer s H vs Q E hr h => ?_)
  · obtain ⟨c, ns, rfl, _⟩ := h
    rfl
  obtain ⟨c, ns, rfl, hc, hl, q⟩ := h
  have hu := hu_of hr
  refine ⟨_, pss_cons (ps_set (i := 1) scBegin.nd rfl (Or.inl rfl) (pe_disp (pps_cons pe_str (pv 0) (pps_cons pe_str pe_int (pps_cons pe_str pe_int (pps_cons pe_str pe_int (pps_cons pe_str pe_int (pps_cons pe_str pe_int
        (pps_cons pe_str pe_int (pps_cons pe_str pe_int pps_nil)))))))) (by rfl) (by rfl) (fun z => by cases z) (by decide)))
    (pss_cons (ps_dput hu (pv 1) pe_str (pe_lst pa_nil) rfl)
    (pss_cons (ps_dput hu (pv 1) pe_str (pe_op op_add pe_int (pe_callB (cr_sum rfl) (by rfl) T.m_sum (by decide +kernel) (pa_cons
        (pe_lc (own := [("_law_cell", 2)]) (g := gName 2) (tt := tYes) rfl scBegin.nd (pi_list (pv 0)) (blkOk_by (N := ["_law_script", "_law_s", "_law_cell"]) (sc := defScope sBegin) (by decide +kernel))
          (fun _ _ _ _ _ => pg_name (i := 2) scBegin.nd rfl (Or.inl rfl)) (fun _ _ _ _ _ => pts_nil)
          (fun _ _ _ _ _ => pe_op op_mul pe_int (pe_callB call_abs (by rfl) T.m_abs (by decide +kernel) (pa_cons (pv 2) pa_nil)))) pa_nil))) rfl)
    (pss_cons (ps_dput hu (pv 1) pe_str (pe_op op_add pe_int (pe_cal CT hr (pa_cons (pv 1) (pa_cons pe_int pa_nil)))) rfl)
    (pss_cons (ps_dput hu (pv 1) pe_str (pe_cal CT hr (pa_cons (pv 1) (pa_cons (pe_dget hu (pv 1) pe_str (fun _ _ => rfl)) pa_nil))) rfl)
    (pss_cons (ps_dput hu (pv 1) pe_str (pe_cal CT hr (pa_cons (pv 1) (pa_cons pe_int pa_nil))) rfl)
    (pss_cons (ps_dput hu (pv 1) pe_str (pe_callTy call_int1 (by rfl) T.m_int (by decide +kernel) (pa_cons (pe_cmpR op_eq (pe_cal CT hr (pa_cons (pv 1) (pa_cons pe_int pa_nil))) pe_int (nomark _)) pa_nil)) rfl)
    (pss_one (ps_ret (pv 1))))))))), ?_⟩
  refine fun s hs0 => ⟨_, rfl, upd_same, d8 c, rfl, by show 8 ≤ 15; decide, ?_⟩
  rw [merge8]
  have hs1 : (upd (upd H s (.dK [])) s (.dK (d8 c))) s = some (.dK (d8 c)) := upd_same
  have e00 : Same H (upd (upd H s (.dK [])) s (.dK (d8 c))) := fun b o h => by
    rw [upd_ne (ne_of_none h hs0), upd_ne (ne_of_none h hs0)]
    exact h
  generalize (upd (upd H s (.dK [])) s (.dK (d8 c))) = H0 at hs1 e00 ⊢
  dsimp only [gName]
  refine ⟨Nat.zero_le _, fun fl hfl => ?_⟩
  have hfl0 : H fl = none := e00.free hfl
  have nsf : s ≠ fl := ne_of_none hs1 hfl
  refine ⟨_, rfl, s, _, rfl, DPut.k (k := Sum.inr "functions") (by rw [upd_ne nsf]; exact hs1) (by show 8 < sizeLine; decide), ?_⟩
  rw [fn8]
  have e0 : Same H (upd (upd H0 fl (.lst [])) s (.dK (d9 c fl))) := fun b o h => by
    rw [upd_ne (ne_of_none h hs0), upd_ne (ne_of_none h hfl0)]
    exact e00 b o h
  have f0 : (upd (upd H0 fl (.lst [])) s (.dK (d9 c fl))) fl = some (.lst []) := by rw [upd_ne nsf.symm, upd_same]
  have d0 : (upd (upd H0 fl (.lst [])) s (.dK (d9 c fl))) s = some (.dK (d9 c fl)) := upd_same
  generalize (upd (upd H0 fl (.lst [])) s (.dK (d9 c fl))) = H1 at e0 f0 d0 ⊢
  refine ⟨_, rfl, c, rfl, ⟨_, Same.seq e0 hc⟩, fun D hD => lc_list (K := K) (a := c) (xs := ns.map V.int) (fun j H2 => Same H1 H2 ∧ H2 D = some (.lst ((ns.take j).map fun z => V.int (31 * (if z < 0 then -z else z))))) ⟨same_new hD _, upd_same⟩
    (fun j H2 _ h => Same.seq (e0.trans h.1) hc) ?_ ?_⟩
  · rintro j x H2 hx ⟨e2, h2⟩
    rw [List.getElem?_map] at hx
    obtain ⟨z, hz, rfl⟩ := Option.map_eq_some_iff.mp hx
    refine ⟨rfl, _, rfl, z, rfl, _, _, rfl, rfl, .inl ⟨by decide, by decide⟩, _, h2, ?_, fun b o hb => ?_, ?_⟩
    · rw [List.length_map]
      exact small1000 (Nat.le_trans (List.length_take_le' _ _) (by omega))
    · rw [upd_ne (ne_of_none hb hD)]
      exact e2 b o hb
    · rw [upd_same, List.take_add_one, hz, List.map_append]
      rfl
  rintro H2 ⟨e2, h2⟩
  refine ⟨D, ns.map fun z => 31 * (if z < 0 then -z else z), rfl, ?_, _, _, rfl, rfl, _, rfl, s, _, rfl, DPut.k (k := Sum.inr "seed") (e2 _ _ d0) (by show 9 < sizeLine; decide), ?_⟩
  · rw [List.length_map, List.take_length] at h2
    rw [List.map_map]
    exact SqL.of h2
  rw [seed9]
  have hc2 : SqL K H2 c (ns.map V.int) := Same.seq (e0.trans e2) hc
  have x3 := Ext.upd s H2 (.dK (stD ⟨c, fl, 1, 0, 0, 0, 0, .no⟩ ⟨0, 0, 7 + (ns.map fun z => 31 * (if z < 0 then -z else z)).sum⟩))
  have hs2 : (upd H2 s (.dK (stD ⟨c, fl, 1, 0, 0, 0, 0, .no⟩ ⟨0, 0, 7 + (ns.map fun z => 31 * (if z < 0 then -z else z)).sum⟩))) s = _ := upd_same
  have hf2 : (upd H2 s (.dK (stD ⟨c, fl, 1, 0, 0, 0, 0, .no⟩ ⟨0, 0, 7 + (ns.map fun z => 31 * (if z < 0 then -z else z)).sum⟩))) fl = some (.lst []) := by rw [upd_ne nsf.symm]; exact e2 _ _ f0
  have x03 : Ext s H (upd H2 s (.dK (stD ⟨c, fl, 1, 0, 0, 0, 0, .no⟩ ⟨0, 0, 7 + (ns.map fun z => 31 * (if z < 0 then -z else z)).sum⟩))) := (Ext.same (e0.trans e2)).trans x3
  have hc3 := x3.seq (e2 _ _ d0) hc2
  generalize (upd H2 s (.dK (stD ⟨c, fl, 1, 0, 0, 0, 0, .no⟩ ⟨0, 0, 7 + (ns.map fun z => 31 * (if z < 0 then -z else z)).sum⟩))) = H3 at hs2 hf2 x03 hc3 ⊢
  have sum0 : ∀ l : List Int, 0 ≤ (l.map fun z => 31 * (if z < 0 then -z else z)).sum := fun l => by
    induction l with
    | nil => exact Int.le_refl 0
    | cons z l ih =>
      rw [List.map_cons, List.sum_cons]
      split <;> omega
  have S3 : IsS K H3 s ⟨c, fl, 1, 0, 0, 0, 0, .no⟩ := ⟨ns, _, hs2, hc3, hl, ⟨by show (1 : Int) ≤ 1; decide, by show (1 : Int) ≤ 8; decide, by show (0 : Int) ≤ 0; decide, by show (0 : Int) < 1; decide, by show (0 : Int) ≤ 0; decide, by show (0 : Int) < 26; decide, by show (0 : Int) ≤ 0; decide, by show (0 : Int) ≤ 1; decide⟩,
    ⟨by show (0 : Int) ≤ 0; decide, by show (0 : Int) ≤ 0; decide, by have := sum0 ns; show 0 ≤ 7 + _; omega⟩⟩
  -- the four draws
  have put : ∀ {H4 : Hp} {i i' : Inf} {k : Str} {v : V}, IsS K H4 s i → (∀ m, putK (stD i m) (.inr k) v = stD i' m) → i'.c = i.c → i'.Ok → ∃ H5, DPut H4 s (.str k) v H5 ∧ IsS K H5 s i' ∧ Ext s H4 H5 := fun {H4 i i' k v} h hp hi ho => by
    obtain ⟨ns, m, a1, a2, a3, a4, a5⟩ := h
    exact ⟨_, pS a1 (hp m), ⟨ns, m, upd_same, by rw [hi]; exact (Ext.upd s H4 _).seq a1 a2, a3, ho, a5⟩, Ext.upd s H4 _⟩
  refine ⟨_, rfl, s, _, 8, rfl, S3, by decide, by decide, fun r1 H4 a1 b1 x4 S4 => ?_⟩
  obtain ⟨H5, p5, S5, x5⟩ := put (k := "size") (v := .int (1 + r1)) S4 (fun m => p_size _ m _) rfl { s1 := by show 1 ≤ 1 + r1; omega, s8 := by show 1 + r1 ≤ 8; omega, p0 := by show (0 : Int) ≤ 0; decide, p1 := by show 0 < 1 + r1; omega, t0 := by show (0 : Int) ≤ 0; decide, t1 := by show (0 : Int) < 26; decide, k0 := by show (0 : Int) ≤ 0; decide, k1 := by show (0 : Int) ≤ 1; decide }
  refine ⟨_, _, rfl, rfl, _, rfl, s, _, rfl, p5, ?_⟩
  obtain ⟨ns5, m5, h5, _⟩ := id S5
  refine ⟨_, rfl, _, rfl, s, _, rfl, gS h5 rfl, s, _, _, rfl, S5, by show 0 < 1 + r1; omega, ?_, fun r2 H6 a2 b2 x6 S6 => ?_⟩
  · show (1 + r1).natAbs < 2 ^ 200
    exact Nat.lt_trans (show (1 + r1).natAbs < 100 by omega) (by decide)
  have b2' : r2 < 1 + r1 := b2
  obtain ⟨H7, p7, S7, x7⟩ := put (k := "place") (v := .int r2) S6 (fun m => p_place _ m _) rfl { s1 := by show 1 ≤ 1 + r1; omega, s8 := by show 1 + r1 ≤ 8; omega, p0 := a2, p1 := b2, t0 := by show (0 : Int) ≤ 0; decide, t1 := by show (0 : Int) < 26; decide, k0 := by show (0 : Int) ≤ 0; decide, k1 := by show (0 : Int) ≤ 1; decide }
  refine ⟨_, rfl, s, _, rfl, p7, ?_⟩
  refine ⟨_, rfl, s, _, 26, rfl, S7, by decide, by decide, fun r3 H8 a3 b3 x8 S8 => ?_⟩
  obtain ⟨H9, p9, S9, x9⟩ := put (k := "turn") (v := .int r3) S8 (fun m => p_turn _ m _) rfl { s1 := by show 1 ≤ 1 + r1; omega, s8 := by show 1 + r1 ≤ 8; omega, p0 := a2, p1 := b2, t0 := a3, t1 := b3, k0 := by show (0 : Int) ≤ 0; decide, k1 := by show (0 : Int) ≤ 1; decide }
  refine ⟨_, rfl, s, _, rfl, p9, ?_⟩
  refine ⟨_, rfl, s, _, 9, rfl, S9, by decide, by decide, fun r4 Ha a4 b4 xa Sa => ⟨rfl, .inr ⟨_, rfl, ?_⟩⟩⟩
  obtain ⟨Hb, pb, Sb, xb⟩ := put (k := "talk") (v := .int (if decide (V.int r4 = V.int 8) = true then 1 else 0)) Sa (fun m => p_talk _ m _) rfl { s1 := by show 1 ≤ 1 + r1; omega, s8 := by show 1 + r1 ≤ 8; omega, p0 := a2, p1 := b2, t0 := a3, t1 := b3, k0 := by show (0 : Int) ≤ ite _ _ _; split <;> decide, k1 := by show ite _ _ _ ≤ (1 : Int); split <;> decide }
  refine ⟨_, rfl, s, _, rfl, pb, _, rfl, ?_⟩
  have xx := x4.trans (x5.trans (x6.trans (x7.trans (x8.trans (x9.trans (xa.trans xb))))))
  refine q s _ Hb (fun b o h => ?_) hs0 rfl rfl (xx _ _ nsf.symm hf2) hfl0 Sb
  exact (x03.trans xx) b o (ne_of_none h hs0) h
end
end Sc
namespace Sc
open PySem PyProof.Rows L2
section
variable {P : Program} {w : World} {K : PySem.W.Frag} {mg : Str → Option Value} {base : Heap}
theorem scAWord : FnScope ["_law_s", "_law_k", "_law_words", "_law_sign"] ["_law_s", "_law_k"] (defScope sAWord) := ⟨rfl, rfl, rfl, by decide +kernel, rfl, by decide +kernel, by decide +kernel⟩
theorem abc_at : ∀ n : Nat, n < 26 → ("abcdefghijklmnopqrstuvwxyz" : Str).cps[n]? = some (97 + n) := by decide +kernel
theorem abc_len : ("abcdefghijklmnopqrstuvwxyz" : Str).length = 26 := by decide +kernel
theorem c_a_word (T : Tx K mg) : Cal P w K mg base 1 "_law_a_word" ["_law_s", "_law_k"] (spWord K) := by
  refine T.a_word.ok scAWord (fun vs H Q E h => ?_) (fun f cdv A outer s H vs Q E hr h => ?_)
  · obtain ⟨s, i, k, rfl, _⟩ := h
    rfl
  obtain ⟨s, i, k, rfl, ⟨ns, m, hs, hc, hl, iok, ok⟩, k0, q⟩ := h
  have hu := hu_of hr
  refine ⟨_, pss_cons (ps_if (PW.pt (pw_and (pt_cmpR op_eq (pe_dget hu (pv 0) pe_str (fun _ _ => rfl)) pe_int (nomark _)) (pw_and1 (pt_cmpR op_lt (pv 1) pe_int (nomark _)))))
      (pss_cons (ps_set (i := 2) scAWord.nd rfl (Or.inl rfl) (pe_lst (pa_cons pe_str (pa_cons pe_str (pa_cons pe_str (pa_cons pe_str (pa_cons pe_str (pa_cons pe_str (pa_cons pe_str (pa_cons pe_str (pa_cons pe_str (pa_cons pe_str (pa_cons pe_str pa_nil)))))))))))))
      (pss_one (ps_ret (pe_ix ix_list (pe_op op_cat (pv 2) (pe_lst (pa_cons pe_str (pa_cons pe_str (pa_cons pe_str (pa_cons pe_str (pa_cons pe_str (pa_cons pe_str (pa_cons pe_str (pa_cons pe_str pa_nil)))))))))) (pv 1) (fun _ _ => rfl)))))
      pss_nil)
    (pss_cons (ps_set (i := 3) scAWord.nd rfl (Or.inl rfl) (pe_item_str pe_str (pe_op op_mod (pe_op op_add (pv 1) (pe_dget hu (pv 0) pe_str (fun _ _ => rfl))) pe_int) (fun _ _ => rfl)))
    (pss_one (ps_ret (pe_op op_add_str (pe_op op_add_str (pe_op op_reps pe_str (pe_dget hu (pv 0) pe_str (fun _ _ => rfl))) (pv 3))
      (pe_op op_reps pe_str (pe_op op_sub (pe_op op_sub (pe_dget hu (pv 0) pe_str (fun _ _ => rfl)) (pe_dget hu (pv 0) pe_str (fun _ _ => rfl))) pe_int)))))), ?_⟩
  have plain : ¬ (i.talk = 1 ∧ k < 19) → ∀ v2, tSeq (tAsg (tOp (fun x y H Q => ∃ z i c, x = .str z ∧ y = .int i ∧ 0 ≤ i ∧ i < 2 ^ 63 ∧ i < z.length ∧ z.cps[i.toNat]? = some c ∧ Q (.str ⟨#[c]⟩) H) (tC (.str "abcdefghijklmnopqrstuvwxyz"))
      (tOp (rI (fun _ j => 0 < j) fun i j => V.int (i % j)) (tOp (rI0 fun i j => V.int (i + j)) (tVar 1) (tDGet (tVar 0) (tC (.str "turn")))) (tC (.int 26)))) (gName 3))
      (tRet (tOp (fun x y H Q => ∃ i j, x = .str i ∧ y = .str j ∧ i.length + j.length ≤ sizeLine ∧ Q (.str (i ++ j)) H) (tOp (fun x y H Q => ∃ i j, x = .str i ∧ y = .str j ∧ i.length + j.length ≤ sizeLine ∧ Q (.str (i ++ j)) H)
        (tOp rReps (tC (.str "q")) (tDGet (tVar 0) (tC (.str "place")))) (tVar 3)) (tOp rReps (tC (.str "q")) (tOp (rI0 fun i j => V.int (i - j)) (tOp (rI0 fun i j => V.int (i - j)) (tDGet (tVar 0) (tC (.str "size"))) (tDGet (tVar 0) (tC (.str "place")))) (tC (.int 1))))))
      { nx := fun _ H' => Q .non H', rt := Q } [some (.ref s), some (.int k), v2, none] H := fun no v2 => by
    have j0 : 0 ≤ (k + i.turn) % 26 := Int.emod_nonneg _ (by decide)
    have j1 : (k + i.turn) % 26 < 26 := Int.emod_lt_of_pos _ (by decide)
    have ew : wordOf i k = reps 113 i.place.toNat ++ signAt (97 + ((k + i.turn) % 26).toNat) ++ reps 113 (i.size - i.place - 1).toNat := if_neg no
    obtain ⟨s1, s8, p0, p1, t0, t1, _, _⟩ := iok
    refine ⟨_, rfl, _, rfl, s, _, rfl, gS hs rfl, _, _, rfl, rfl, _, _, rfl, rfl, (by show (0 : Int) < 26; decide), _, _, _, rfl, rfl, j0, by omega, by rw [abc_len]; exact j1, abc_at _ (by omega), ?_⟩
    refine ⟨_, rfl, s, _, rfl, gS hs rfl, 113, _, rfl, rfl, p0, by omega, _, rfl, _, _, rfl, rfl, ?_, _, rfl, s, _, rfl, gS hs rfl, _, rfl, s, _, rfl, gS hs rfl, _, _, rfl, rfl, _, _, rfl, rfl, 113, _, rfl, rfl, by omega, by omega, _, _, rfl, rfl, ?_, ?_⟩
    · rw [len_list, len_list, reps_list, List.length_replicate]
      show _ + 1 ≤ sizeLine
      rw [sizeLine_eq]; omega
    · rw [len_list, len_list, app_list, reps_list, reps_list, List.length_append, List.length_replicate, List.length_replicate]
      show _ + 1 + _ ≤ sizeLine
      rw [sizeLine_eq]; omega
    · have z := q H (Same.refl H)
      rw [ew] at z
      exact z
  refine ⟨_, rfl, s, _, rfl, gS hs rfl, rfl, _, rfl, ite2 (fun c1 => ?_) (fun c1 => ?_)⟩
  · refine ⟨_, rfl, _, _, rfl, rfl, _, rfl, ite2 (fun c2 => ?_) (fun c2 => plain (fun z => c2 (decide_eq_true z.2)) none)⟩
    have c1' : i.talk = 1 := by
      have z := of_decide_eq_true c1
      injection z
    have c2' : k < 19 := of_decide_eq_true c2
    refine ⟨(by show 11 ≤ sizeLine; decide), fun p hp => ⟨_, rfl, (by show 8 ≤ sizeLine; decide), fun p2 hp2 => ?_⟩⟩
    refine ⟨p, p2, _, _, rfl, rfl, by rw [upd_ne (ne_of_none upd_same hp2)]; exact upd_same, upd_same, (by show 11 + 8 ≤ sizeLine; decide), fun p3 hp3 => ⟨_, rfl, p3, talks.map V.str, k, .str (wordOf i k), rfl, rfl, SqL.of upd_same, ?_, ?_⟩⟩
    · have lt : k.toNat < talks.length := by show k.toNat < 19; omega
      have e : wordOf i k = talks[k.toNat] := by
        unfold wordOf
        rw [if_pos ⟨c1', c2'⟩, List.getD_eq_getElem?_getD, List.getElem?_eq_getElem lt]
        rfl
      rw [e]
      exact at_of (j := k.toNat) (by omega) (by rw [List.getElem?_map, List.getElem?_eq_getElem lt]; rfl)
    · exact q _ (((same_new hp _).trans (same_new hp2 _)).trans (same_new hp3 _))
  · refine plain (fun z => c1 (decide_eq_true ?_)) none
    show V.int i.talk = V.int 1
    rw [z.1]
end
end Sc
namespace Sc
open PySem PySem.Spec PyProof.Rows L2
/-! ### the tables of the top, read -/
def keyT (e : DictEntry) : Option Str := match e.key with
  | .str x _ => some x
  | _ => none
def strsV : List Value → Option (List Str)
  | [] => some []
  | .str x _ :: r => (strsV r).map (x :: ·)
  | _ :: _ => none
def tupV (K : PySem.W.Frag) : Value → Option (List Str)
  | .ref t => match K.lookup t with
    | some ⟨.type c, _, .seq its _, _⟩ => if c = "tuple" ∧ its.size ≤ 100 then strsV its.toList else none
    | _ => none
  | _ => none
theorem strsV_vals : ∀ {us : List Value} {zs : List Str}, strsV us = some zs → Vals (zs.map V.str) us
  | [], zs, h => by
    have e : zs = [] := (Option.some.inj h).symm
    rw [e]
    exact .nil
  | u :: us, zs, h => by
    cases u with
    | str x t =>
      have h' : (strsV us).map (x :: ·) = some zs := h
      obtain ⟨ys, h1, h2⟩ := Option.map_eq_some_iff.mp h'
      rw [← h2]
      exact .cons ⟨t, rfl⟩ (strsV_vals h1)
    | _ => cases h
theorem tupV_at {K : PySem.W.Frag} {v : Value} {zs : List Str} (h : tupV K v = some zs) : ∃ t : Addr, v = .ref t ∧ ∀ H : Hp, SqT K H t (zs.map V.str) := by
  cases v with
  | ref t =>
    refine ⟨t, rfl, fun H => .inr ?_⟩
    unfold tupV at h
    dsimp only at h
    split at h
    · rename_i c dd its n sl e
      split at h
      · rename_i q
        exact ⟨_, its, n, e, by show Value.type c = .type "tuple"; rw [q.1], rfl, sizeOk (by omega), strsV_vals h⟩
      · cases h
    · cases h
  | _ => cases h
theorem entries_at {α : Type} {rd : Value → Option α} : ∀ {es : List DictEntry} {tb : List (Str × α)}, es.map (fun e => (keyT e, rd e.val)) = tb.map (fun p => (some p.1, some p.2)) →
    (∀ z, match tb.lookup z with
      | some x => ∃ e, es.find? (·.key.isStr z) = some e ∧ rd e.val = some x
      | none => es.find? (·.key.isStr z) = none) ∧ es.any (·.refKey) = false
  | [], [], _ => ⟨fun z => rfl, rfl⟩
  | [], _ :: _, h => by cases h
  | _ :: _, [], h => by cases h
  | e :: es, (k, x) :: tb, h => by
    rw [List.map_cons, List.map_cons] at h
    injection h with h1 h2
    injection h1 with h3 h4
    obtain ⟨i1, i2⟩ := entries_at h2
    have hk : ∃ t, e.key = .str k t := by
      unfold keyT at h3
      split at h3
      · rename_i y t q
        have h3' : some y = some k := h3
        exact ⟨t, by rw [q, Option.some.inj h3']⟩
      · cases h3
    obtain ⟨t, hk⟩ := hk
    refine ⟨fun z => ?_, ?_⟩
    · rw [List.lookup_cons, List.find?_cons]
      have e1 : e.key.isStr z = (z == k) := by
        have e0 : e.key.isStr z = (k == z) := by rw [hk]; rfl
        rw [e0]
        exact BEq.comm
      rw [e1]
      cases q : (z == k) with
      | true => exact ⟨e, rfl, h4⟩
      | false => exact i1 z
    · rw [List.any_cons, i2]
      have : e.refKey = false := by
        unfold DictEntry.refKey
        rw [hk]
      rw [this]
      rfl
theorem ns_at {α : Type} {K : PySem.W.Frag} {rd : Value → Option α} {d : Addr} {es : Array DictEntry} {n : Nat} {tb : List (Str × α)} (l : K.lookup d = some ⟨.type "dict", none, .dict es n, #[]⟩) (h : es.toList.map (fun e => (keyT e, rd e.val)) = tb.map (fun p => (some p.1, some p.2))) :
    (∀ z x, tb.lookup z = some x → ∃ u, PySem.W.nsIn K d z = some (some u) ∧ rd u = some x) ∧ ∀ z, tb.lookup z = none → PySem.W.nsIn K d z = some none := by
  obtain ⟨h1, h2⟩ := entries_at h
  refine ⟨fun z x e => ?_, fun z e => ?_⟩
  · have := h1 z
    rw [e] at this
    obtain ⟨en, a, b⟩ := this
    refine ⟨en.val, ?_, b⟩
    unfold PySem.W.nsIn
    rw [l]
    dsimp only
    rw [a]
  · have := h1 z
    rw [e] at this
    unfold PySem.W.nsIn
    rw [l]
    dsimp only
    rw [this]
    dsimp only
    rw [h2]
    rfl
theorem FT.of {K : PySem.W.Frag} {w : World} {h : Heap} {mg : Str → Option Value} (X : K.In h) (G : h.Ns mainGlobals mg) {FA : Addr} {es : Array DictEntry} {n : Nat} (a : PySem.W.nsIn K mainGlobals "FORMS" = some (some (.ref FA))) (l : K.lookup FA = some ⟨.type "dict", none, .dict es n, #[]⟩) (kl : PySem.W.KeysLit w.params es.toList) (low : (FA == sysModules) = false)
    (e : es.toList.map (fun e => (keyT e, tupV K e.val)) = formTab.map (fun p => (some p.1, some p.2))) : FT K w mg FA := by
  obtain ⟨h1, h2⟩ := ns_at l e
  refine ⟨PySem.W.mg_of X G a, ⟨es, n, l, kl, low⟩, fun z fm q => ?_, h2⟩
  obtain ⟨u, a1, a2⟩ := h1 z fm q
  obtain ⟨t, rfl, a3⟩ := tupV_at a2
  exact ⟨t, a1, a3⟩
def refV : Value → Option Addr
  | .ref f => some f
  | _ => none
theorem NT.of {K : PySem.W.Frag} {w : World} {h : Heap} {mg : Str → Option Value} (X : K.In h) (G : h.Ns mainGlobals mg) {NA : Addr} {es : Array DictEntry} {n : Nat} (a : PySem.W.nsIn K mainGlobals "NEEDS" = some (some (.ref NA))) (l : K.lookup NA = some ⟨.type "dict", none, .dict es n, #[]⟩) (kl : PySem.W.KeysLit w.params es.toList)
    (e : needTab.map (fun q => PySem.W.nsIn K NA q.1) = needTab.map (fun q => PySem.W.nsIn K mainGlobals q.2)) (e2 : (needTab.all fun q => match PySem.W.nsIn K NA q.1 with | some (some (.ref _)) => true | _ => false) = true) : NT K w mg NA := by
  refine ⟨PySem.W.mg_of X G a, fun q hq => ?_⟩
  have z := List.all_eq_true.mp e2 q hq
  split at z
  · rename_i f hf
    have e3 : PySem.W.nsIn K NA q.1 = PySem.W.nsIn K mainGlobals q.2 := List.map_inj_left.mp e q hq
    exact ⟨f, ⟨es, n, .ref f, l, kl, hf, rfl⟩, PySem.W.mg_of X G (by rw [← e3]; exact hf)⟩
  · cases z
end Sc
namespace Sc
open PySem PyProof.Rows L2
/-! ### _law_refusal -/
theorem pss_when {X : Cx} {b : List Stmt} {t : TS} {p : Prop} (h : p → PSs X b t) : PSs X b (fun D σ H => p ∧ t D σ H) := ⟨fun pins s σ H D I q => (h q.1).run pins s σ H D I q.2⟩
theorem pe_calXS {X : Cx} {k : Nat} {x : Str} {ps : List Str} {sp : Sp} {e : Expr} {es : List Expr} {t : TA} {p pos : Pos} {E : L2.St → XK} (C : CalX X.prog X.w X.K X.mg X.base k x ps sp) (hr : Room k X.A) (hx : ∀ σ, PassesAt (L2.CX X.prog X.w) X σ (E σ)) (ha : PA X (e :: es) t) (hg : Gl X x := by rfl) (hdb : (x == ("__debug__" : Str)) = false := by decide)
    (he : starEach (e :: es) X.env = (false, eval e X.env) :: starEach es X.env := by rfl) (hpl : (backTo pos (starEach es X.env)).any (·.1) = false := by rfl) :
    PE X (.Call (.Name x p) (e :: es) [] pos) (tCallS sp E t) := by
  obtain ⟨f, fd, F, m, kp, b⟩ := C.ex
  exact pe_callS F hr hg m kp b hx ha hdb he hpl
theorem pss_some {α : Type} {X : Cx} {b : List Stmt} {t : α → TS} {p : α → Prop} (h : ∀ x, p x → PSs X b (t x)) : PSs X b (fun D σ H => ∃ x, p x ∧ t x D σ H) := ⟨fun pins s σ H D I ⟨x, px, q⟩ => (h x px).run pins s σ H D I q⟩
def kitW : Wr → Wr → Bool
  | .bk, .bk | .bp, .bp | .nn, .nn | .tt, .tt | .nn, .bp | .tt, .bp => true
  | _, _ => false
structure Er4 (K : PySem.W.Frag) (mg : Str → Option Value) (CS : Addr) (cls : Wr → Addr) : Prop where
  e : Ers K mg cls
  gS : mg "SoothError" = some (.ref CS)
  xm : ∀ x, PySem.W.exmOne K (.ref (cls x)) (.ref CS) = some true
  ec : ∀ x, ExcC K (cls x)
  kV : ∀ x, PySem.W.kitOne K (.ref (cls x)) (.type "ValueError") = some true
  kt : ∀ x y, PySem.W.kitOne K (.ref (cls x)) (.ref (cls y)) = some (kitW x y)
def refW : Option Wr → Str
  | none => "good"
  | some .bk => "kind"
  | some .bp => "program"
  | some .nn => "name"
  | some .tt => "twice"
def tIsE (K : PySem.W.Frag) (C a : Addr) (v : V) : TT := tB (tCB (rIsE K C a) (tCons (tVar 1) (tCons (tC v) tNil)))
def tRSuite (K : PySem.W.Frag) (cls : Wr → Addr) (a : Addr) (x : Wr) : TS :=
  tSeq (tIfS (tNot (tIsE K (cls x) a (.ty "ValueError"))) (tRet (tC (.str "none"))) tNext)
  (tSeq (tIfS (tIsE K (cls x) a (.ref (cls .nn))) (tRet (tIf (tAnd (tIsE K (cls x) a (.ref (cls .bp))) (tNot (tIsE K (cls x) a (.ref (cls .tt))))) (tC (.str "name")) (tC (.str "none")))) tNext)
  (tSeq (tIfS (tIsE K (cls x) a (.ref (cls .tt))) (tRet (tIf (tIsE K (cls x) a (.ref (cls .bp))) (tC (.str "twice")) (tC (.str "none")))) tNext)
  (tSeq (tIfS (tIsE K (cls x) a (.ref (cls .bp))) (tRet (tC (.str "program"))) tNext)
  (tRet (tIf (tIsE K (cls x) a (.ref (cls .bk))) (tC (.str "kind")) (tC (.str "none")))))))
section
variable {P : Program} {w : World} {K : PySem.W.Frag} {mg : Str → Option Value} {base : Heap} {T0 : List Addr} {CS : Addr} {cls : Wr → Addr}
def spRefP (K : PySem.W.Frag) (T : List Addr) (tOk : PyData → Prop) : Sp := fun vs H Q _ => ∃ (l : Addr) (us : List V) (ds : List PyData), vs = [.ref l] ∧ SqL K H l us ∧ DpAll K H us ds ∧ ds.length ≤ 12 ∧ (∀ d ∈ ds, okD d ∧ is5 tOk d) ∧ Tb T H ∧ ∀ H', Fr T H H' → Q (.str (refW (gProg [] ds))) H'
theorem scRefP : FnScope ["_law_program", "e"] ["_law_program"] (defScope sRefusal) := ⟨rfl, rfl, rfl, by decide +kernel, rfl, by decide +kernel, by decide +kernel⟩
theorem is_at {σ : L2.St} {H : Hp} {C a : Addr} {v : V} {m : Value} {b : Bool} {Q : Bool → Hp → Prop} (h1 : σ[1]? = some (some (.ref a))) (h2 : ∀ u, RelV v u → u = m) (k : PySem.W.kitOne K (.ref C) m = some b) (h : Q b H) : tIsE K C a v σ H Q :=
  ⟨_, h1, v, m, b, rfl, h2, k, _, rfl, h⟩
theorem c_refusal (tOk : PyData → Prop) {lv : Nat} (T : Tx K mg) (R : Er4 K mg CS cls) (CN : CalX P w K mg base lv "need_program" ["program"] (spProg K T0 cls tOk)) : Cal P w K mg base (lv + 1) "_law_refusal" ["_law_program"] (spRefP K T0 tOk) := by
  refine T.refusal.ok scRefP (fun vs H Q E h => ?_) (fun f cdv A outer s H vs Q E hr h => ?_)
  · obtain ⟨l, us, ds, rfl, _⟩ := h
    rfl
  obtain ⟨l, us, ds, rfl, hl, hds, l12, h5, tb, q⟩ := h
  refine ⟨_, pss_cons (ps_try_as (i := 1) (c := .ref CS) (tb := fun W => tDrop (tCallS (spProg K T0 cls tOk) (WE W) (tCons (tVar 0) tNil))) (ts := fun a c d D σ H => ∃ x : Wr, (c = .ref (cls x) ∧ d = none) ∧ tRSuite K cls a x D σ H) (Wout := fun _ _ _ _ => False) rfl rfl scRefP.nd rfl rfl ⟨by rfl, by decide, Or.inl R.gS⟩ takes0
      (fun W pn xe tk po => pss_one (ps_expr (by exact pe_calXS CN hr (fun σ => passAt tk σ) (pa_cons (pv 0) pa_nil))))
      (fun a oe c d pn hz hf => pss_some fun x hp => ?_))
    (pss_one (ps_ret pe_str)), ?_⟩
  · obtain ⟨rfl, rfl⟩ := hp
    exact pss_cons (ps_if (pt_not (pt_val (pe_callB (call_isE (R.ec x) hz hf) (by rfl) T.m_isinstance boot_isinstance (pa_cons (pv 1) (pa_cons (pe_bltn (v := .ty "ValueError") (by rfl) T.m_ValueError (by decide +kernel) rfl) pa_nil))))) (pss_one (ps_ret pe_str)) pss_nil)
      (pss_cons (ps_if (pt_val (pe_callB (call_isE (R.ec x) hz hf) (by rfl) T.m_isinstance boot_isinstance (pa_cons (pv 1) (pa_cons (pe_glob (v := .ref (cls .nn)) (by rfl) R.e.nn.g rfl) pa_nil))))
        (pss_one (ps_ret (pe_ifExp (PW.pt (pw_and (pt_val (pe_callB (call_isE (R.ec x) hz hf) (by rfl) T.m_isinstance boot_isinstance (pa_cons (pv 1) (pa_cons (pe_glob (v := .ref (cls .bp)) (by rfl) R.e.bp.g rfl) pa_nil))))
          (pw_and1 (pt_not (pt_val (pe_callB (call_isE (R.ec x) hz hf) (by rfl) T.m_isinstance boot_isinstance (pa_cons (pv 1) (pa_cons (pe_glob (v := .ref (cls .tt)) (by rfl) R.e.tt.g rfl) pa_nil)))))))) pe_str pe_str))) pss_nil)
      (pss_cons (ps_if (pt_val (pe_callB (call_isE (R.ec x) hz hf) (by rfl) T.m_isinstance boot_isinstance (pa_cons (pv 1) (pa_cons (pe_glob (v := .ref (cls .tt)) (by rfl) R.e.tt.g rfl) pa_nil))))
        (pss_one (ps_ret (pe_ifExp (pt_val (pe_callB (call_isE (R.ec x) hz hf) (by rfl) T.m_isinstance boot_isinstance (pa_cons (pv 1) (pa_cons (pe_glob (v := .ref (cls .bp)) (by rfl) R.e.bp.g rfl) pa_nil)))) pe_str pe_str))) pss_nil)
      (pss_cons (ps_if (pt_val (pe_callB (call_isE (R.ec x) hz hf) (by rfl) T.m_isinstance boot_isinstance (pa_cons (pv 1) (pa_cons (pe_glob (v := .ref (cls .bp)) (by rfl) R.e.bp.g rfl) pa_nil)))) (pss_one (ps_ret pe_str)) pss_nil)
      (pss_one (ps_ret (pe_ifExp (pt_val (pe_callB (call_isE (R.ec x) hz hf) (by rfl) T.m_isinstance boot_isinstance (pa_cons (pv 1) (pa_cons (pe_glob (v := .ref (cls .bk)) (by rfl) R.e.bk.g rfl) pa_nil)))) pe_str pe_str))))))
  refine ⟨_, rfl, l, us, ds, rfl, hl, hds, l12, h5, tb, fun e b H1 kvs f1 _ _ _ => ?_, fun x e H1 f1 => ?_⟩
  · have fin := q H1 f1
    rw [e] at fin
    exact fin
  · have fin := q H1 f1
    rw [e] at fin
    refine ⟨true, R.xm x, fun _ a ha => ⟨x, ⟨rfl, rfl⟩, ?_⟩, fun z => by cases z⟩
    refine is_at rfl (fun u z => z) (R.kV x) ?_
    refine is_at rfl (fun u z => z) (R.kt x .nn) ?_
    cases x with
    | bk => exact is_at rfl (fun u z => z) (R.kt .bk .tt) (is_at rfl (fun u z => z) (R.kt .bk .bp) (is_at rfl (fun u z => z) (R.kt .bk .bk) fin))
    | bp => exact is_at rfl (fun u z => z) (R.kt .bp .tt) (is_at rfl (fun u z => z) (R.kt .bp .bp) fin)
    | nn => exact is_at rfl (fun u z => z) (R.kt .nn .bp) (is_at rfl (fun u z => z) (R.kt .nn .tt) fin)
    | tt => exact is_at rfl (fun u z => z) (R.kt .tt .tt) (is_at rfl (fun u z => z) (R.kt .tt .bp) fin)
end
end Sc
namespace Sc
open PySem PySem.Spec PyProof.Rows L2
/-! ### t + u, whichever it is -/
def rCatW (K : PySem.W.Frag) : R2 := fun x y H Q => ∃ a b xs ys, x = .ref a ∧ y = .ref b ∧ SqT K H a xs ∧ SqT K H b ys ∧ xs.length + ys.length ≤ sizeLine ∧ ∀ (p : Addr) (H' : Hp), Same H H' → SqT K H' p (xs ++ ys) → Q (.ref p) H'
theorem op_catW {X : Cx} : OpR X (binaryOp .Add) (rCatW X.K) := by
  intro pins s σ H x y v u Q I rx ry h
  obtain ⟨a, b, xs, ys, rfl, rfl, ha, hb, hz, q⟩ := h
  exact op_catA pins s σ H _ _ v u Q I rx ry ⟨a, b, xs, ys, rfl, rfl, ha, hb, hz, fun e => q b H (Same.refl _) (by rw [e]; exact hb), fun _ e => q a H (Same.refl _) (by rw [e, List.append_nil]; exact ha), fun _ _ p hp => q p _ (same_new hp _) (SqT.of upd_same)⟩
/-! ### parts, reckoned -/
theorem formOf_eq {w : Str} {fm : List Str} {ts : List PyData} (hl : formTab.lookup w = some fm) (len : ts.length = fm.length) : formOf (.tuple (.str w :: ts)) = some (w, fm, ts) := by
  show (match formTab.lookup w with
    | some fm => if ts.length = fm.length then some (w, fm, ts) else none
    | none => none) = _
  rw [hl]
  exact if_pos len
theorem gPart_eq {n : Nat} {E : Env0} {w : Str} {fm : List Str} {ts : List PyData} (hl : formTab.lookup w = some fm) (len : ts.length = fm.length) :
    gPart (n + 1) E (.tuple (.str w :: ts)) = (match firstBad ((fm.zip ts).map fun p => gSlot (gPart n) (if p.1 = ("last" : Str) then { E with ns := E.ns ++ strsD (givens fm ts) } else E) p.1 p.2) with
      | some b => some b
      | none => if (strsD (givens fm ts)).Nodup then (if w = ("call" : Str) then whenB (callOk E ts) .bp else none) else some .tt) := by
  show (match formOf (.tuple (.str w :: ts)) with
    | none => some Wr.bp
    | some (w, fm, ts) => _) = _
  rw [formOf_eq hl len] <;> rfl
theorem gPart_one {n : Nat} {E : Env0} {w s : Str} {t : PyData} (hl : formTab.lookup w = some [s]) (sl : s ≠ "last") (sg : (s == ("given" : Str)) = false) (nc : w ≠ "call") : gPart (n + 1) E (.tuple [.str w, t]) = gSlot (gPart n) E s t := by
  rw [gPart_eq hl rfl]
  have e : givens [s] [t] = [] := by
    unfold givens
    rw [show ([s].zip [t]) = [(s, t)] from rfl, List.filter_cons_of_neg (by show ¬ (s == ("given" : Str)) = true; rw [sg]; exact Bool.false_ne_true)]
    rfl
  rw [e]
  show (match firstBad [gSlot (gPart n) (if s = ("last" : Str) then _ else E) s t] with
    | some b => some b
    | none => if (strsD []).Nodup then (if w = ("call" : Str) then whenB (callOk E [t]) .bp else none) else some .tt) = _
  rw [if_neg sl, if_neg nc, if_pos (show (strsD []).Nodup from List.nodup_nil)]
  cases gSlot (gPart n) E s t <;> rfl
theorem slot_whole {rec : Env0 → PyData → Option Wr} {E : Env0} {d : PyData} : gSlot rec E ("whole" : Str) d = gWhole d := slot_all.1
theorem slot_kind {rec : Env0 → PyData → Option Wr} {E : Env0} {d : PyData} : gSlot rec E ("kind" : Str) d = gKind E.ls d := slot_all.2.2.2.2.2.2.1
theorem slot_part {rec : Env0 → PyData → Option Wr} {E : Env0} {d : PyData} : gSlot rec E ("part" : Str) d = rec E d := slot_all.2.2.2.2.2.2.2.1
theorem slot_last {rec : Env0 → PyData → Option Wr} {E : Env0} {d : PyData} : gSlot rec E ("last" : Str) d = rec E d := slot_all.2.2.2.2.2.2.2.2.1
theorem slot_parts {rec : Env0 → PyData → Option Wr} {E : Env0} {d : PyData} : gSlot rec E ("parts" : Str) d = gParts (rec E) d := slot_all.2.2.2.2.2.2.2.2.2.1
theorem slot_given {rec : Env0 → PyData → Option Wr} {E : Env0} {d : PyData} : gSlot rec E ("given" : Str) d = gWord d := slot_all.2.2.2.1
theorem slot_known {rec : Env0 → PyData → Option Wr} {E : Env0} {d : PyData} : gSlot rec E ("known" : Str) d = gKnown E d := slot_all.2.2.1
theorem slot_field {rec : Env0 → PyData → Option Wr} {E : Env0} {d : PyData} : gSlot rec E ("field" : Str) d = gWord d := slot_all.2.2.2.2.1
theorem slot_head {rec : Env0 → PyData → Option Wr} {E : Env0} {d : PyData} : gSlot rec E ("head" : Str) d = gHead d := slot_all.2.2.2.2.2.1
theorem slot_fields {rec : Env0 → PyData → Option Wr} {E : Env0} {d : PyData} : gSlot rec E ("fields" : Str) d = gFields (rec E) d := slot_all.2.2.2.2.2.2.2.2.2.2
theorem gWord_of {z : Str} (h : Word z) : gWord (.str z) = none := by
  unfold gWord whenB
  rw [show isWordD (.str z) = true from decide_eq_true h]
  rfl
/-- a written number, at any room -/
def numP (n : Int) : PyData := .tuple [.str "num", .int n]
theorem part_num {n : Nat} {E : Env0} {k : Int} (h : k.natAbs < 10 ^ 30) : gPart (n + 1) E (numP k) = none := by
  unfold numP
  rw [gPart_one (s := "whole") (by decide +kernel) (by decide +kernel) (by decide +kernel) (by decide +kernel), slot_whole]
  show whenB (decide (k.natAbs < 10 ^ 30)) .bp = none
  rw [decide_eq_true h]
  rfl
theorem part_kind {n : Nat} {E : Env0} {w : Str} {k : PyData} (hw : w = "norow" ∨ w = "nobook") : gPart (n + 1) E (.tuple [.str w, k]) = gKind E.ls k := by
  rcases hw with h | h <;> subst h <;>
    rw [gPart_one (s := "kind") (by decide +kernel) (by decide +kernel) (by decide +kernel) (by decide +kernel), slot_kind]
theorem part_row {n : Nat} {E : Env0} {a b : PyData} (h : gPart n E a = none) : gPart (n + 1) E (.tuple [.str "row", .tuple [a, b]]) = gPart n E b := by
  rw [gPart_one (s := "parts") (by decide +kernel) (by decide +kernel) (by decide +kernel) (by decide +kernel), slot_parts]
  show (match firstBad [gPart n E a, gPart n E b] with
    | some b => some b
    | none => none) = _
  rw [h]
  show (match firstBad [gPart n E b] with
    | some b => some b
    | none => none) = _
  cases gPart n E b <;> rfl
theorem part_fold {n : Nat} {E : Env0} {x y : Str} {e k f g : PyData} (hx : Word x) (hy : Word y) (ne : x ≠ y) (he : gPart n E e = none) (hf : gPart n E f = none) (hg : gPart n { E with ns := E.ns ++ [x, y] } g = none) :
    gPart (n + 1) E (.tuple [.str "fold", .str x, e, .str y, k, f, g]) = gKind E.ls k := by
  rw [gPart_eq (w := "fold") (fm := ["given", "part", "given", "kind", "part", "last"]) (by decide +kernel) rfl]
  have eg : strsD (givens ["given", "part", "given", "kind", "part", "last"] [.str x, e, .str y, k, f, g]) = [x, y] := by kernel_rfl
  rw [eg]
  have ez : ((["given", "part", "given", "kind", "part", "last"] : List Str).zip [PyData.str x, e, .str y, k, f, g]) = [(("given" : Str), PyData.str x), (("part" : Str), e), (("given" : Str), .str y), (("kind" : Str), k), (("part" : Str), f), (("last" : Str), g)] := rfl
  rw [ez]
  have n1 : ¬ (("given" : Str) = "last") := by decide +kernel
  have n2 : ¬ (("part" : Str) = "last") := by decide +kernel
  have n3 : ¬ (("kind" : Str) = "last") := by decide +kernel
  simp only [List.map_cons, List.map_nil, if_neg n1, if_neg n2, if_neg n3, if_true]
  rw [slot_given, slot_part, slot_given, slot_kind, slot_part, slot_last, gWord_of hx, gWord_of hy, he, hf, hg, if_pos (show [x, y].Nodup by simp [ne]), if_neg (show ¬ (("fold" : Str) = "call") by decide +kernel)]
  cases gKind E.ls k <;> rfl
theorem part_call {n : Nat} {E : Env0} {f : Str} {k : PyData} (hw : Word f) (hf : E.fs.lookup f = some (1, 0)) : gPart (n + 1) E (.tuple [.str "call", .str f, .tuple [k], .tuple []]) = gKind E.ls k := by
  rw [gPart_eq (w := "call") (fm := ["function", "kinds", "handed"]) (by decide +kernel) rfl]
  have eg : strsD (givens ["function", "kinds", "handed"] [.str f, .tuple [k], .tuple []]) = [] := by kernel_rfl
  rw [eg]
  have ez : ((["function", "kinds", "handed"] : List Str).zip [PyData.str f, .tuple [k], .tuple []]) = [(("function" : Str), PyData.str f), (("kinds" : Str), .tuple [k]), (("handed" : Str), .tuple [])] := rfl
  rw [ez]
  have n1 : ¬ (("function" : Str) = "last") := by decide +kernel
  have n2 : ¬ (("kinds" : Str) = "last") := by decide +kernel
  have n3 : ¬ (("handed" : Str) = "last") := by decide +kernel
  simp only [List.map_cons, List.map_nil, if_neg n1, if_neg n2, if_neg n3, if_true]
  rw [slot_function, slot_kinds, slot_handed]
  have hm : f ∈ E.fs.map (·.1) := by
    generalize E.fs = l at hf
    induction l with
    | nil => cases hf
    | cons q l ih =>
      obtain ⟨a, b⟩ := q
      rw [List.lookup_cons] at hf
      split at hf
      · rename_i z
        rw [eq_of_beq z]; exact List.mem_cons_self
      · exact List.mem_cons_of_mem _ (ih hf)
  have h1 : gFun E (.str f) = none := by
    show (if isWordD (.str f) = true then whenB (decide (f ∈ E.fs.map (·.1))) .nn else some .bp) = none
    rw [if_pos (show isWordD (.str f) = true from decide_eq_true hw), decide_eq_true hm]
    rfl
  have h2 : callOk E [.str f, .tuple [k], .tuple []] = true := by
    show (match E.fs.lookup f with
      | some (nl, np) => decide ([k].length = nl) && decide (([] : List PyData).length = np)
      | none => false) = true
    rw [hf]
    rfl
  rw [h1, h2, if_pos (show ([] : List Str).Nodup from List.nodup_nil)]
  show (match firstBad [none, firstBad [gKind E.ls k], firstBad []] with
    | some b => some b
    | none => none) = _
  cases gKind E.ls k <;> rfl
/-! ### no text stands in these -/
def noT : PyData → Prop := fun _ => False
theorem txs_of {n : Nat} {w : Str} {fm : List Str} {ts : List PyData} (hl : formTab.lookup w = some fm) (h : ∀ (j : Nat) (s : Str) (t : PyData), fm[j]? = some s → ts[j]? = some t → slotIn (txs noT n) noT s t) : txs noT (n + 1) (.tuple (.str w :: ts)) := by
  intro w' fm' ts' hf
  obtain ⟨h1, h2, h3⟩ := form_inv hf
  injection h1 with h1
  injection h1 with h4 h5
  injection h4 with h4
  subst h4 h5
  rw [hl] at h2
  cases h2
  exact h
theorem slot_flat {n : Nat} {s : Str} {t : PyData} (h : ((s == "text") || (s == "part") || (s == "last") || (s == "parts") || (s == "handed") || (s == "fields")) = false) : slotIn (txs noT n) noT s t := by
  simp only [Bool.or_eq_false_iff, beq_eq_false_iff_ne, ne_eq] at h
  obtain ⟨⟨⟨⟨⟨h1, h2⟩, h3⟩, h4⟩, h5⟩, h6⟩ := h
  exact ⟨fun e => absurd e h1, fun e => e.elim (fun z => absurd z h2) (fun z => absurd z h3), fun ds _ => ⟨fun e => e.elim (fun z => absurd z h4) (fun z => absurd z h5), fun e => absurd e h6⟩⟩
theorem txs_num (n : Nat) (k : Int) : txs noT n (numP k) := by
  cases n with
  | zero => trivial
  | succ n =>
    refine txs_of (w := "num") (fm := ["whole"]) (by decide +kernel) fun j s t h1 h2 => ?_
    match j, h1 with
    | 0, h1 => cases h1; exact slot_flat (by decide +kernel)
theorem txs_kind (n : Nat) {w : Str} (hw : w = "norow" ∨ w = "nobook") (k : PyData) : txs noT n (.tuple [.str w, k]) := by
  cases n with
  | zero => trivial
  | succ n =>
    rcases hw with h | h <;> subst h
    · refine txs_of (w := "norow") (fm := ["kind"]) (by decide +kernel) fun j s t h1 h2 => ?_
      match j, h1 with
      | 0, h1 => cases h1; exact slot_flat (by decide +kernel)
    · refine txs_of (w := "nobook") (fm := ["kind"]) (by decide +kernel) fun j s t h1 h2 => ?_
      match j, h1 with
      | 0, h1 => cases h1; exact slot_flat (by decide +kernel)
theorem slot_in {n : Nat} {s : Str} {t : PyData} (hs : s = "part" ∨ s = "last") (h : txs noT n t) : slotIn (txs noT n) noT s t := by
  have n1 : s ≠ "text" ∧ s ≠ "parts" ∧ s ≠ "handed" ∧ s ≠ "fields" := by rcases hs with h | h <;> subst h <;> decide +kernel
  exact ⟨fun e => absurd e n1.1, fun _ => h, fun ds _ => ⟨fun e => e.elim (fun z => absurd z n1.2.1) (fun z => absurd z n1.2.2.1), fun e => absurd e n1.2.2.2⟩⟩
theorem slot_all_in {n : Nat} {s : Str} {ds : List PyData} (hs : s = "parts" ∨ s = "handed") (h : ∀ d ∈ ds, txs noT n d) : slotIn (txs noT n) noT s (.tuple ds) := by
  have n1 : s ≠ "text" ∧ s ≠ "part" ∧ s ≠ "last" ∧ s ≠ "fields" := by rcases hs with h | h <;> subst h <;> decide +kernel
  exact ⟨fun e => absurd e n1.1, fun e => e.elim (fun z => absurd z n1.2.1) (fun z => absurd z n1.2.2.1), fun ds' e => ⟨fun _ x hx => h x (by injection e with e; rw [e]; exact hx), fun e => absurd e n1.2.2.2⟩⟩
theorem txs_row (n : Nat) {a b : PyData} (ha : ∀ n, txs noT n a) (hb : ∀ n, txs noT n b) : txs noT n (.tuple [.str "row", .tuple [a, b]]) := by
  cases n with
  | zero => trivial
  | succ n =>
    refine txs_of (w := "row") (fm := ["parts"]) (by decide +kernel) fun j s t h1 h2 => ?_
    match j, h1, h2 with
    | 0, h1, h2 =>
      cases h1; cases h2
      refine slot_all_in (.inl rfl) fun d hd => ?_
      rcases List.mem_cons.mp hd with e | e
      · rw [e]; exact ha n
      · rw [List.mem_singleton.mp e]; exact hb n
theorem txs_fold (n : Nat) {x y e k f g : PyData} (he : ∀ n, txs noT n e) (hf : ∀ n, txs noT n f) (hg : ∀ n, txs noT n g) : txs noT n (.tuple [.str "fold", x, e, y, k, f, g]) := by
  cases n with
  | zero => trivial
  | succ n =>
    refine txs_of (w := "fold") (fm := ["given", "part", "given", "kind", "part", "last"]) (by decide +kernel) fun j s t h1 h2 => ?_
    match j, h1, h2 with
    | 0, h1, h2 => cases h1; exact slot_flat (by decide +kernel)
    | 1, h1, h2 => cases h1; cases h2; exact slot_in (.inl rfl) (he n)
    | 2, h1, h2 => cases h1; exact slot_flat (by decide +kernel)
    | 3, h1, h2 => cases h1; exact slot_flat (by decide +kernel)
    | 4, h1, h2 => cases h1; cases h2; exact slot_in (.inl rfl) (hf n)
    | 5, h1, h2 => cases h1; cases h2; exact slot_in (.inr rfl) (hg n)
theorem txs_call (n : Nat) {f k : PyData} : txs noT n (.tuple [.str "call", f, .tuple [k], .tuple []]) := by
  cases n with
  | zero => trivial
  | succ n =>
    refine txs_of (w := "call") (fm := ["function", "kinds", "handed"]) (by decide +kernel) fun j s t h1 h2 => ?_
    match j, h1, h2 with
    | 0, h1, h2 => cases h1; exact slot_flat (by decide +kernel)
    | 1, h1, h2 => cases h1; exact slot_flat (by decide +kernel)
    | 2, h1, h2 => cases h1; cases h2; exact slot_all_in (.inr rfl) fun d hd => by cases hd
end Sc
namespace Sc
open PySem PySem.Spec PyProof.Rows L2
def mkP (q : Str × PyData) : PyData := .tuple [.str q.1, q.2]
theorem fb_all {ws : List (Option Wr)} (h : ∀ w ∈ ws, w = none) : firstBad ws = none := fb_none.mpr h
theorem gPairs_of {p : PyData → Bool} {prs : List (Str × PyData)} (hp : ∀ q ∈ prs, p (.str q.1) = true) (nd : (prs.map (·.1)).Nodup) : gPairs p (.tuple (prs.map mkP)) = none := by
  rw [gPairs_eq]
  have e1 : firstBad ((prs.map mkP).map (pairOk p)) = none := fb_all fun w hw => by
    obtain ⟨d, hd, rfl⟩ := List.mem_map.mp hw
    obtain ⟨q, hq, rfl⟩ := List.mem_map.mp hd
    show whenB (p (.str q.1)) .bp = none
    rw [hp q hq]
    rfl
  rw [e1]
  have e2 : strsD ((prs.map mkP).map leadD) = prs.map (·.1) := by
    clear hp nd e1
    induction prs with
    | nil => rfl
    | cons q prs ih =>
      show q.1 :: strsD ((prs.map mkP).map leadD) = _
      rw [ih]
      rfl
  first
    | (show (if (strsD ((prs.map mkP).map leadD)).Nodup then none else some Wr.tt) = none; rw [e2, if_pos nd])
    | (have e3 : (prs.map mkP).map nameD = prs.map (·.1) := by rw [List.map_map]; rfl
       show (if ((prs.map mkP).map nameD).Nodup then none else some Wr.tt) = none
       rw [e3, if_pos nd])
theorem gSnd_of (g : PyData → Option Wr) (prs : List (Str × PyData)) : gSnd g (.tuple (prs.map mkP)) = firstBad (prs.map fun q => g q.2) := by
  show firstBad ((prs.map mkP).map (sndK g)) = _
  rw [List.map_map]
  rfl
theorem leads_of (prs : List (Str × PyData)) : leads (.tuple (prs.map mkP)) = prs.map (·.1) := by
  show (prs.map mkP).map nameD = _
  rw [List.map_map]
  rfl
/-- a function with pairs for its letters and params -/
theorem gFn_of {fs : List (Str × Nat × Nat)} {z : Str} {prl prp : List (Str × PyData)} {res body : PyData} (hz : Word z) (nf : formTab.lookup z = none) (nz : ¬ z ∈ fs.map (·.1)) (hl : ∀ q ∈ prl, Lett q.1) (ndl : (prl.map (·.1)).Nodup) (hp : ∀ q ∈ prp, Word q.1) (ndp : (prp.map (·.1)).Nodup) :
    gFn fs (.str z) (.tuple (prl.map mkP)) (.tuple (prp.map mkP)) res body = firstBad [firstBad (prl.map fun q => gKind [] q.2), firstBad (prp.map fun q => gKind (prl.map (·.1)) q.2), gKind (prl.map (·.1)) res, gPart 12 ⟨prl.map (·.1), fs, prp.map (·.1)⟩ body] := by
  unfold gFn
  rw [gWord_of hz]
  show (if (formTab.lookup z).isSome then some Wr.bp else if z ∈ fs.map (·.1) then some .tt else firstBad _) = _
  rw [nf, if_neg (by show ¬ (false = true); exact Bool.false_ne_true), if_neg nz, gPairs_of (fun q m => decide_eq_true (hl q m)) ndl, gPairs_of (fun q m => decide_eq_true (hp q m)) ndp, gSnd_of, gSnd_of, leads_of, leads_of]
  cases firstBad (prl.map fun q => gKind [] q.2) <;> rfl
end Sc
namespace Sc
open PySem PySem.Spec PyProof.Rows L2
/-! ### what is drawn loosely, and what is wrong with it -/
def nineQ : Str := "qqqqqqqqq"
/-- a kind, or what is none -/
inductive Lk : PyData → Prop
  | e0 : Lk (.tuple [])
  | e1 : Lk (.tuple [.tuple [.str "row", .tuple []]])
  | e2 : Lk (.tuple [.tuple [.str "shape", .tuple []]])
  | e3 : Lk (.str "text")
  | e4 : Lk (.tuple [.tuple [.str "number", .int 1]])
  | ok {ls : List Str} {k : List Ch} : (∀ l ∈ ls, Lett l) → k ≠ [] → k.length ≤ 3 → okL ls 1 k → Lk (.tuple (pyL k))
def frmL : List (Str × List Str) :=
  [("name", ["x"]), ("norow", ["k"]), ("nobook", ["k"]), ("size", ["e"]), ("get", ["e", "f"]), ("plus", ["e", "e"]), ("minus", ["e", "e"]), ("join", ["e", "e"]), ("push", ["e", "e"]), ("at", ["e", "e", "e"]), ("put", ["e", "e", "e"]),
   ("look", ["e", "e", "e"]), ("if", ["e", "e", "e", "e"]), ("let", ["w", "e", "l"]), ("each", ["w", "e", "l"]), ("fold", ["w", "e", "w", "k", "e", "l"]), ("is", ["x", "a", "e", "e"]), ("has", ["x", "f", "e", "e"])]
def slotL : Str → Str := fun c => if c = ("w" : Str) then "given" else if c = ("e" : Str) then "part" else if c = ("l" : Str) then "last" else if c = ("k" : Str) then "kind" else if c = ("x" : Str) then "known" else if c = ("f" : Str) then "field" else "head"
theorem frm_form : ∀ q ∈ frmL, formTab.lookup q.1 = some (q.2.map slotL) ∧ q.1 ≠ ("call" : Str) ∧ q.1 ≠ ("num" : Str) ∧ q.1 ≠ ("text" : Str) ∧ q.1 ≠ ("row" : Str) ∧ q.1 ≠ ("shape" : Str) ∧ q.2.length ≤ 6 := by decide +kernel
/-- what stands in a place that is no part -/
def SlB (c : Str) (d : PyData) : Prop :=
  (c = ("w" : Str) → ∃ z, d = .str z ∧ Word z) ∧ (c = ("k" : Str) → Lk d) ∧ (c = ("x" : Str) → ∃ z, d = .str z ∧ Word z) ∧ (c = ("f" : Str) → ∃ z, d = .str z ∧ (z = "A" ∨ Word z)) ∧
  (c = ("a" : Str) → ∃ z, d = .str z ∧ (z = "rows" ∨ z ∈ (["number", "text", "row", "book", "shape"] : List Str)))
def isSub (c : Str) : Prop := c = ("e" : Str) ∨ c = ("l" : Str)
inductive Lo (fn : Str → Prop) : Nat → PyData → Prop
  | num {m : Nat} {n : Int} : n.natAbs ≤ 10 ^ 30 → Lo fn (m + 1) (.tuple [.str "num", .int n])
  | text {m : Nat} {t : Str} : Tex t → Lo fn (m + 1) (.tuple [.str "text", .str t])
  | textN {m : Nat} {t : Str} : Tex t → Lo fn (m + 1) (.tuple [.str "text", .str (t ++ ("\n" : Str))])
  | row {m : Nat} {ds : List PyData} : ds.length ≤ 3 → (∀ d ∈ ds, Lo fn m d) → Lo fn (m + 1) (.tuple [.str "row", .tuple ds])
  | shape {m : Nat} {qs : List (Str × PyData)} : qs.length ≤ 4 → (∀ q ∈ qs, Word q.1 ∨ q.1 = "A" ∨ q.1 = nineQ) → (∀ q ∈ qs, Lo fn m q.2) → Lo fn (m + 1) (.tuple [.str "shape", .tuple (qs.map mkP)])
  | call {m : Nat} {f : Str} {ks ds : List PyData} : fn f → ks.length ≤ 5 → ds.length ≤ 5 → (∀ k ∈ ks, Lk k) → (∀ d ∈ ds, Lo fn m d) → Lo fn (m + 1) (.tuple [.str "call", .str f, .tuple ks, .tuple ds])
  | form {m : Nat} {w : Str} {sg : List Str} {ds : List PyData} : (w, sg) ∈ frmL → ds.length = sg.length → (∀ (j : Nat) (c : Str) (d : PyData), sg[j]? = some c → ds[j]? = some d → SlB c d) →
      (∀ (j : Nat) (c : Str) (d : PyData), sg[j]? = some c → ds[j]? = some d → isSub c → Lo fn m d) → Lo fn (m + 1) (.tuple (.str w :: ds))
theorem Lo.mono {fn gn : Str → Prop} (h : ∀ z, fn z → gn z) {n : Nat} {d : PyData} (l : Lo fn n d) : ∀ {m : Nat}, n ≤ m → Lo gn m d := by
  induction l with
  | num a => intro m hm; obtain ⟨m', rfl⟩ : ∃ m', m = m' + 1 := ⟨m - 1, by omega⟩; exact .num a
  | text a => intro m hm; obtain ⟨m', rfl⟩ : ∃ m', m = m' + 1 := ⟨m - 1, by omega⟩; exact .text a
  | textN a => intro m hm; obtain ⟨m', rfl⟩ : ∃ m', m = m' + 1 := ⟨m - 1, by omega⟩; exact .textN a
  | row a _ ih => intro m hm; obtain ⟨m', rfl⟩ : ∃ m', m = m' + 1 := ⟨m - 1, by omega⟩; exact .row a fun d hd => ih d hd (by omega)
  | shape a b _ ih => intro m hm; obtain ⟨m', rfl⟩ : ∃ m', m = m' + 1 := ⟨m - 1, by omega⟩; exact .shape a b fun q hq => ih q hq (by omega)
  | call a b c e _ ih => intro m hm; obtain ⟨m', rfl⟩ : ∃ m', m = m' + 1 := ⟨m - 1, by omega⟩; exact .call (h _ a) b c e fun d hd => ih d hd (by omega)
  | form a b c _ ih => intro m hm; obtain ⟨m', rfl⟩ : ∃ m', m = m' + 1 := ⟨m - 1, by omega⟩; exact .form a b c fun j s d h1 h2 h3 => ih j s d h1 h2 h3 (by omega)
/-! ### what the law finds wrong -/
def lP : List Str := ["program"]
def lK : List Str := ["kind"]
def lN : List Str := ["name"]
def lT : List Str := ["twice"]
def nmW : Wr → Str
  | .bk => "kind"
  | .bp => "program"
  | .nn => "name"
  | .tt => "twice"
def badFs (fs : List Str) : Bool := fs.isEmpty || !(ascB fs) || decide (("A" : Str) ∈ fs) || decide (nineQ ∈ fs)
def wsOf (sg : List Str) (ts : List PyData) : List Str := strsD (((sg.zip ts).filter fun p => p.1 == ("w" : Str)).map (·.2))
def strO : PyData → Option Str
  | .str z => some z
  | _ => none
/-- at one place of a form -/
def wrAt (rec : List Str → PyData → List Str) (ls ns : List Str) (w : Str) (sg : List Str) (ts : List PyData) (k : Nat) : List Str := match sg[k]?, ts[k]? with
  | some c, some d =>
    if c = ("w" : Str) then (if w = ("fold" : Str) ∧ k = 2 ∧ ts[2]?.map strO = ts[0]?.map strO then lT else [])
    else if c = ("e" : Str) then rec ns d else if c = ("l" : Str) then rec (ns ++ wsOf (sg.take k) (ts.take k)) d
    else if c = ("k" : Str) then (if gK ls 9 d then [] else lK)
    else if c = ("x" : Str) then (match d with | .str z => if z ∈ ns then [] else lN | _ => [])
    else if c = ("f" : Str) then (match d with | .str z => if z = ("A" : Str) then lP else [] | _ => [])
    else (match d with | .str z => if z = ("rows" : Str) then lP else [] | _ => [])
  | _, _ => []
def wrCall (rec : PyData → List Str) (ls : List Str) (fs : List (Str × Nat × Nat)) (f : Str) (ks ds : List PyData) : List Str :=
  (match fs.filter (fun q => q.1 == f) with
    | [] => lN
    | q :: r => if r ≠ [] ∨ ks.length ≠ q.2.1 ∨ ds.length ≠ q.2.2 then lP else []) ++ (if ks.any (fun k => !gK ls 9 k) then lK else []) ++ ds.flatMap rec
def sndP : PyData → PyData
  | .tuple [_, p] => p
  | d => d
def wrP : Nat → List Str → List (Str × Nat × Nat) → List Str → PyData → List Str
  | 0, _, _, _, _ => []
  | n + 1, ls, fs, ns, .tuple (.str w :: ts) =>
    if w = ("num" : Str) then (match ts with | [.int k] => if 10 ^ 30 ≤ k.natAbs then lP else [] | _ => []) else if w = ("text" : Str) then (match ts with | [.str t] => if 10 ∈ t.cps.toList then lP else [] | _ => [])
    else if w = ("call" : Str) then (match ts with | [.str f, .tuple ks, .tuple ds] => wrCall (wrP n ls fs ns) ls fs f ks ds | _ => [])
    else if w = ("row" : Str) then (match ts with | [.tuple ds] => ds.flatMap (wrP n ls fs ns) ++ (if ds.isEmpty then lP else []) | _ => [])
    else if w = ("shape" : Str) then (match ts with | [.tuple ds] => ds.flatMap (fun d => wrP n ls fs ns (sndP d)) ++ (if badFs (ds.map nameD) then lP else []) | _ => [])
    else match frmL.lookup w with
      | some sg => (List.range sg.length).flatMap (wrAt (wrP n ls fs) ls ns w sg ts)
      | none => []
  | _ + 1, _, _, _, _ => []
/-- one is wrong if the other is, and for a reason that is told -/
def Rel (o : Option Wr) (l : List Str) : Prop := match o with
  | none => l = []
  | some e => nmW e ∈ l
theorem rel_first : ∀ {os : List (Option Wr)} {ll : List (List Str)}, os.length = ll.length → (∀ (j : Nat) (o : Option Wr) (l : List Str), os[j]? = some o → ll[j]? = some l → Rel o l) → Rel (firstBad os) ll.flatten
  | [], [], _, _ => rfl
  | [], _ :: _, h, _ => by cases h
  | _ :: _, [], h, _ => by cases h
  | some e :: os, l :: ll, h, r => by
    have z : nmW e ∈ l := r 0 (some e) l rfl rfl
    show nmW e ∈ (l :: ll).flatten
    rw [List.flatten_cons]
    exact List.mem_append_left _ z
  | none :: os, l :: ll, h, r => by
    have z : l = [] := r 0 none l rfl rfl
    have ih := rel_first (os := os) (ll := ll) (by simpa using h) fun j o l h1 h2 => r (j + 1) o l h1 h2
    rw [List.flatten_cons, z, List.nil_append]
    exact ih
theorem rel_map {α : Type} {l : List α} {f : α → Option Wr} {g : α → List Str} (h : ∀ a ∈ l, Rel (f a) (g a)) : Rel (firstBad (l.map f)) (l.flatMap g) := by
  rw [List.flatMap_def]
  refine rel_first (by rw [List.length_map, List.length_map]) fun j o x h1 h2 => ?_
  rw [List.getElem?_map] at h1 h2
  obtain ⟨a, ha, rfl⟩ := Option.map_eq_some_iff.mp h1
  obtain ⟨b, hb, rfl⟩ := Option.map_eq_some_iff.mp h2
  rw [ha] at hb
  cases hb
  exact h a (List.mem_of_getElem? ha)
theorem Rel.left {o : Option Wr} {l m : List Str} (h : Rel o l) (hm : o = none → m = []) : Rel o (l ++ m) := by
  cases o with
  | none =>
    rw [show l = [] from h, hm rfl]
    rfl
  | some e => exact List.mem_append_left _ h
end Sc
namespace Sc
open PySem PySem.Spec PyProof.Rows L2
theorem slot_w {c : Str} (h : (slotL c == ("given" : Str)) = true) : c = ("w" : Str) := by
  unfold slotL at h
  split at h
  · assumption
  all_goals (exfalso; revert h; (repeat' split) <;> (intro h; revert h; decide +kernel))
theorem givens_no {sg : List Str} (h : ("w" : Str) ∉ sg) (ds : List PyData) : givens (sg.map slotL) ds = [] := by
  unfold givens
  rw [List.filter_eq_nil_iff.mpr]
  · rfl
  · intro p hp
    have := List.of_mem_zip (show (p.1, p.2) ∈ (sg.map slotL).zip ds from hp)
    obtain ⟨c, hc, e⟩ := List.mem_map.mp this.1
    intro z
    rw [← e] at z
    exact h (slot_w z ▸ hc)
abbrev welL : List Str := ["w", "e", "l"]
abbrev wewL : List Str := ["w", "e", "w", "k", "e", "l"]
theorem frm_plain : ∀ q ∈ frmL, (q.1 = ("let" : Str) ∨ q.1 = ("each" : Str)) ∧ q.2 = welL ∨ q.1 = ("fold" : Str) ∧ q.2 = wewL ∨ ("w" : Str) ∉ q.2 ∧ ("l" : Str) ∉ q.2 := by decide +kernel
def twn (w : Str) (ds : List PyData) : Prop := w = ("fold" : Str) ∧ ds[2]?.map strO = ds[0]?.map strO
/-- the names that a form gives -/
theorem frm_names {w : Str} {sg : List Str} {ds : List PyData} (h : (w, sg) ∈ frmL) (len : ds.length = sg.length) (sl : ∀ (j : Nat) (c : Str) (d : PyData), sg[j]? = some c → ds[j]? = some d → SlB c d) :
    (∀ k, sg[k]? = some ("l" : Str) → wsOf (sg.take k) (ds.take k) = strsD (givens (sg.map slotL) ds)) ∧ ((strsD (givens (sg.map slotL) ds)).Nodup ↔ ¬ twn w ds) ∧ (twn w ds → sg[2]? = some ("w" : Str) ∧ 2 < ds.length) := by
  rcases frm_plain _ h with ⟨hw, e⟩ | ⟨hw, e⟩ | ⟨n1, n2⟩
  · have e : sg = welL := e
    have hw : w = ("let" : Str) ∨ w = ("each" : Str) := hw
    subst e
    obtain ⟨a, b, c, rfl⟩ : ∃ a b c, ds = [a, b, c] := by
      match ds, len with
      | [a, b, c], _ => exact ⟨a, b, c, rfl⟩
    obtain ⟨x, rfl, wx⟩ := (sl 0 "w" a rfl rfl).1 rfl
    have g : strsD (givens (welL.map slotL) [.str x, b, c]) = [x] := by kernel_rfl
    have nf : ¬ twn w [.str x, b, c] := fun z => by
      have z1 := z.1
      have z1 : w = ("fold" : Str) := z1
      rcases hw with q | q
      · have q : w = ("let" : Str) := q
        rw [q] at z1
        revert z1
        decide +kernel
      · have q : w = ("each" : Str) := q
        rw [q] at z1
        revert z1
        decide +kernel
    refine ⟨fun k hk => ?_, ⟨fun _ => nf, fun _ => by rw [g]; exact List.nodup_cons.mpr ⟨List.not_mem_nil, List.nodup_nil⟩⟩, fun z => absurd z nf⟩
    rw [g]
    match k, hk with
    | 0, hk => exact absurd (Option.some.inj hk) (by decide +kernel)
    | 1, hk => exact absurd (Option.some.inj hk) (by decide +kernel)
    | 2, _ => kernel_rfl
  · have e : sg = wewL := e
    have hw : w = ("fold" : Str) := hw
    subst e hw
    obtain ⟨a, b, c, d, e, f, rfl⟩ : ∃ a b c d e f, ds = [a, b, c, d, e, f] := by
      match ds, len with
      | [a, b, c, d, e, f], _ => exact ⟨a, b, c, d, e, f, rfl⟩
    obtain ⟨x, rfl, wx⟩ := (sl 0 "w" a rfl rfl).1 rfl
    obtain ⟨y, rfl, wy⟩ := (sl 2 "w" c rfl rfl).1 rfl
    have g : strsD (givens (wewL.map slotL) [.str x, b, .str y, d, e, f]) = [x, y] := by kernel_rfl
    have tw : twn "fold" [.str x, b, .str y, d, e, f] ↔ y = x := ⟨fun z => Option.some.inj (Option.some.inj (show some (some y) = some (some x) from z.2)), fun z => ⟨rfl, by show some (some y) = some (some x); rw [z]⟩⟩
    refine ⟨fun k hk => ?_, ?_, fun _ => ⟨rfl, by show 2 < 6; decide⟩⟩
    · rw [g]
      match k, hk with
      | 0, hk => exact absurd (Option.some.inj hk) (by decide +kernel)
      | 1, hk => exact absurd (Option.some.inj hk) (by decide +kernel)
      | 2, hk => exact absurd (Option.some.inj hk) (by decide +kernel)
      | 3, hk => exact absurd (Option.some.inj hk) (by decide +kernel)
      | 4, hk => exact absurd (Option.some.inj hk) (by decide +kernel)
      | 5, _ => kernel_rfl
    · rw [g, tw]
      constructor
      · intro n z
        exact (List.nodup_cons.mp n).1 (List.mem_singleton.mpr z.symm)
      · intro n
        exact List.nodup_cons.mpr ⟨fun m => n (List.mem_singleton.mp m).symm, List.nodup_cons.mpr ⟨List.not_mem_nil, List.nodup_nil⟩⟩
  · have n1 : ("w" : Str) ∉ sg := n1
    have n2 : ("l" : Str) ∉ sg := n2
    have nf : ¬ twn w ds := fun z => by
      have hm := h
      have z1 : w = ("fold" : Str) := z.1
      rw [z1] at hm
      have : ∀ q ∈ frmL, q.1 = ("fold" : Str) → ("w" : Str) ∈ q.2 := by decide +kernel
      exact n1 (this _ hm rfl)
    refine ⟨fun k hk => absurd (List.mem_of_getElem? hk) n2, ?_, fun z => absurd z nf⟩
    rw [givens_no n1]
    exact ⟨fun _ => nf, fun _ => List.nodup_nil⟩
theorem slot_known_eq {rec : Env0 → PyData → Option Wr} {E : Env0} {z : Str} (wz : Word z) : gSlot rec E ("known" : Str) (.str z) = whenB (decide (z ∈ E.ns)) .nn := by
  rw [slot_known]
  show (if isWordD (.str z) then whenB (decide (z ∈ E.ns)) .nn else some Wr.bp) = _
  rw [show isWordD (.str z) = true from decide_eq_true wz]
  rfl
theorem not_word_A : ¬ Word ("A" : Str) := fun h => by
  have := h.2.2 65 (by decide +kernel)
  omega
/-- at one place, but for what is given -/
theorem rel_at {rec : Env0 → PyData → Option Wr} {wr : List Str → PyData → List Str} {ls ns : List Str} {fs : List (Str × Nat × Nat)} {w : Str} {sg : List Str} {ds : List PyData} {L : Env0} {j : Nat} {c : Str} {d : PyData} (h : (w, sg) ∈ frmL)
    (hc : sg[j]? = some c) (hd : ds[j]? = some d) (sl : SlB c d) (hL : c = ("l" : Str) → L = ⟨ls, fs, ns ++ wsOf (sg.take j) (ds.take j)⟩) (hr : ∀ ns', isSub c → Rel (rec ⟨ls, fs, ns'⟩ d) (wr ns' d)) (nt : ¬ twn w ds ∨ c ≠ ("w" : Str)) :
    Rel (gSlot rec (if slotL c = ("last" : Str) then L else ⟨ls, fs, ns⟩) (slotL c) d) (wrAt wr ls ns w sg ds j) := by
  obtain ⟨s1, s2, s3, s4, s5⟩ := sl
  have srt : c = ("w" : Str) ∨ c = ("e" : Str) ∨ c = ("l" : Str) ∨ c = ("k" : Str) ∨ c = ("x" : Str) ∨ c = ("f" : Str) ∨ c = ("a" : Str) := by
    have : ∀ q ∈ frmL, ∀ c ∈ q.2, c = ("w" : Str) ∨ c = ("e" : Str) ∨ c = ("l" : Str) ∨ c = ("k" : Str) ∨ c = ("x" : Str) ∨ c = ("f" : Str) ∨ c = ("a" : Str) := by decide +kernel
    exact this _ h c (List.mem_of_getElem? hc)
  unfold wrAt
  rw [hc, hd]
  rcases srt with e | e | e | e | e | e | e <;> subst e
  · obtain ⟨z, rfl, wz⟩ := s1 rfl
    rw [show slotL ("w" : Str) = "given" by decide +kernel, slot_given, gWord_of wz]
    show (if ("w" : Str) = ("w" : Str) then _ else _) = []
    rw [if_pos rfl, if_neg]
    rintro ⟨a, b, e⟩
    rcases nt with n | n
    · exact n ⟨a, e⟩
    · exact n rfl
  · rw [show slotL ("e" : Str) = "part" by decide +kernel, if_neg (by decide +kernel), slot_part]
    exact hr ns (.inl rfl)
  · rw [show slotL ("l" : Str) = "last" by decide +kernel, if_pos rfl, slot_last, hL rfl]
    exact hr _ (.inr rfl)
  · rw [show slotL ("k" : Str) = "kind" by decide +kernel, if_neg (by decide +kernel), slot_kind]
    show Rel (whenB (gK ls 9 d) .bk) (if gK ls 9 d then [] else lK)
    cases gK ls 9 d
    · exact List.mem_singleton.mpr rfl
    · rfl
  · obtain ⟨z, rfl, wz⟩ := s3 rfl
    rw [show slotL ("x" : Str) = "known" by decide +kernel, if_neg (by decide +kernel), slot_known_eq wz]
    show Rel (whenB (decide (z ∈ ns)) .nn) (if z ∈ ns then [] else lN)
    by_cases m : z ∈ ns
    · rw [decide_eq_true m, if_pos m]
      rfl
    · rw [decide_eq_false m, if_neg m]
      exact List.mem_singleton.mpr rfl
  · obtain ⟨z, rfl, wz⟩ := s4 rfl
    rw [show slotL ("f" : Str) = "field" by decide +kernel, if_neg (by decide +kernel), slot_field]
    show Rel (whenB (isWordD (.str z)) .bp) (if z = ("A" : Str) then lP else [])
    rcases wz with e | wz
    · rw [e, if_pos rfl, show isWordD (.str ("A" : Str)) = false from decide_eq_false not_word_A]
      exact List.mem_singleton.mpr rfl
    · rw [show isWordD (.str z) = true from decide_eq_true wz, if_neg (fun e : z = ("A" : Str) => not_word_A (e ▸ wz))]
      rfl
  · obtain ⟨z, rfl, wz⟩ := s5 rfl
    rw [show slotL ("a" : Str) = "head" by decide +kernel, if_neg (by decide +kernel), slot_head]
    show Rel (whenB (decide (z ∈ (["number", "text", "row", "book", "shape"] : List Str))) .bp) (if z = ("rows" : Str) then lP else [])
    rcases wz with e | m
    · rw [e, if_pos rfl]
      exact List.mem_singleton.mpr rfl
    · rw [decide_eq_true m, if_neg (fun e : z = ("rows" : Str) => by rw [e] at m; revert m; decide +kernel)]
      rfl
end Sc
namespace Sc
open PySem PySem.Spec PyProof.Rows L2
theorem Rel.mono {o : Option Wr} {l m : List Str} (h : Rel o l) (s : ∀ x ∈ l, x ∈ m) (e : o = none → m = []) : Rel o m := by
  cases o with
  | none => exact e rfl
  | some b => exact s _ h
theorem rel_form {n : Nat} {ls ns : List Str} {fs : List (Str × Nat × Nat)} {w : Str} {sg : List Str} {ds : List PyData} (h : (w, sg) ∈ frmL) (len : ds.length = sg.length)
    (sl : ∀ (j : Nat) (c : Str) (d : PyData), sg[j]? = some c → ds[j]? = some d → SlB c d) (hr : ∀ ns' (j : Nat) (c : Str) (d : PyData), sg[j]? = some c → ds[j]? = some d → isSub c → Rel (gPart n ⟨ls, fs, ns'⟩ d) (wrP n ls fs ns' d)) :
    Rel (gPart (n + 1) ⟨ls, fs, ns⟩ (.tuple (.str w :: ds))) ((List.range sg.length).flatMap (wrAt (wrP n ls fs) ls ns w sg ds)) := by
  obtain ⟨ff, nc, _⟩ := frm_form _ h
  have ff : formTab.lookup w = some (sg.map slotL) := ff
  have nc : w ≠ ("call" : Str) := nc
  obtain ⟨f1, f2, f3⟩ := frm_names h len sl
  rw [gPart_eq ff (by rw [List.length_map]; exact len)]
  have at_ : ∀ (j : Nat) (o : Option Wr), (((sg.map slotL).zip ds).map fun p => gSlot (gPart n) (if p.1 = ("last" : Str) then { (⟨ls, fs, ns⟩ : Env0) with ns := ns ++ strsD (givens (sg.map slotL) ds) } else ⟨ls, fs, ns⟩) p.1 p.2)[j]? = some o →
      ∃ c d, sg[j]? = some c ∧ ds[j]? = some d ∧ o = gSlot (gPart n) (if slotL c = ("last" : Str) then ⟨ls, fs, ns ++ strsD (givens (sg.map slotL) ds)⟩ else ⟨ls, fs, ns⟩) (slotL c) d := by
    intro j o ho
    rw [List.getElem?_map] at ho
    obtain ⟨p, hp, rfl⟩ := Option.map_eq_some_iff.mp ho
    obtain ⟨p1, p2⟩ := p
    have hz := List.getElem?_zip_eq_some.mp hp
    rw [List.getElem?_map] at hz
    obtain ⟨c, hc, rfl⟩ := Option.map_eq_some_iff.mp hz.1
    exact ⟨c, p2, hc, hz.2, rfl⟩
  have ll : (((sg.map slotL).zip ds).map fun p => gSlot (gPart n) (if p.1 = ("last" : Str) then { (⟨ls, fs, ns⟩ : Env0) with ns := ns ++ strsD (givens (sg.map slotL) ds) } else ⟨ls, fs, ns⟩) p.1 p.2).length = sg.length := by
    rw [List.length_map, List.length_zip, List.length_map, len, Nat.min_self]
  generalize (((sg.map slotL).zip ds).map fun p => gSlot (gPart n) (if p.1 = ("last" : Str) then { (⟨ls, fs, ns⟩ : Env0) with ns := ns ++ strsD (givens (sg.map slotL) ds) } else ⟨ls, fs, ns⟩) p.1 p.2) = os at at_ ll ⊢
  by_cases tw : twn w ds
  · -- the two names are one
    have nd : ¬ (strsD (givens (sg.map slotL) ds)).Nodup := fun z => f2.mp z tw
    obtain ⟨g1, g2⟩ := f3 tw
    have mem : ("twice" : Str) ∈ (List.range sg.length).flatMap (wrAt (wrP n ls fs) ls ns w sg ds) := by
      refine List.mem_flatMap.mpr ⟨2, List.mem_range.mpr (by omega), ?_⟩
      unfold wrAt
      rw [g1, List.getElem?_eq_getElem g2]
      show ("twice" : Str) ∈ (if ("w" : Str) = ("w" : Str) then _ else _)
      rw [if_pos rfl, if_pos ⟨tw.1, rfl, by rw [← List.getElem?_eq_getElem g2]; exact tw.2⟩]
      exact List.mem_singleton.mpr rfl
    cases fb : firstBad os with
    | none =>
      show Rel (if (strsD (givens (sg.map slotL) ds)).Nodup then _ else some .tt) _
      rw [if_neg nd]
      exact mem
    | some e =>
      show nmW e ∈ _
      -- some slot says so
      have some_ : ∃ j : Nat, os[j]? = some (some e) := by
        clear at_ ll
        induction os with
        | nil => cases fb
        | cons o os ih =>
          cases o with
          | none =>
            obtain ⟨j, hj⟩ := ih fb
            exact ⟨j + 1, hj⟩
          | some b => exact ⟨0, congrArg some (show some b = some e from fb)⟩
      obtain ⟨j, hj⟩ := some_
      obtain ⟨c, d, hc, hd, ho⟩ := at_ j _ hj
      have cw : c ≠ ("w" : Str) := fun z => by
        subst z
        obtain ⟨z, rfl, wz⟩ := (sl j _ d hc hd).1 rfl
        rw [show slotL ("w" : Str) = "given" by decide +kernel, slot_given, gWord_of wz] at ho
        cases ho
      have r := rel_at (wr := wrP n ls fs) (ns := ns) (fs := fs) (ls := ls) (rec := gPart n) (L := ⟨ls, fs, ns ++ strsD (givens (sg.map slotL) ds)⟩) h hc hd (sl j c d hc hd) (fun z => by rw [f1 j (z ▸ hc)]) (fun ns' s => hr ns' j c d hc hd s) (.inr cw)
      rw [← ho] at r
      exact List.mem_flatMap.mpr ⟨j, List.mem_range.mpr (by have := (List.getElem?_eq_some_iff.mp hc).1; exact this), r⟩
  · have nd := f2.mpr tw
    have r : Rel (firstBad os) ((List.range sg.length).flatMap (wrAt (wrP n ls fs) ls ns w sg ds)) := by
      rw [List.flatMap_def]
      refine rel_first (by rw [ll, List.length_map, List.length_range]) fun j o l h1 h2 => ?_
      obtain ⟨c, d, hc, hd, rfl⟩ := at_ j o h1
      rw [List.getElem?_map] at h2
      obtain ⟨k, hk, rfl⟩ := Option.map_eq_some_iff.mp h2
      have : k = j := by
        have hlt : j < sg.length := (List.getElem?_eq_some_iff.mp hc).1
        rw [List.getElem?_range hlt] at hk
        exact (Option.some.inj hk).symm
      subst this
      exact rel_at h hc hd (sl k c d hc hd) (fun z => by rw [f1 k (z ▸ hc)]) (fun ns' s => hr ns' k c d hc hd s) (.inl tw)
    cases fb : firstBad os with
    | none =>
      rw [fb] at r
      show Rel (if (strsD (givens (sg.map slotL) ds)).Nodup then (if w = ("call" : Str) then _ else none) else some .tt) _
      rw [if_pos nd, if_neg nc]
      exact r
    | some e =>
      rw [fb] at r
      exact r
theorem wr_num {n : Nat} {ls ns : List Str} {fs : List (Str × Nat × Nat)} {k : Int} : wrP (n + 1) ls fs ns (.tuple [.str "num", .int k]) = if 10 ^ 30 ≤ k.natAbs then lP else [] := by
  show (if ("num" : Str) = ("num" : Str) then _ else _) = _
  rw [if_pos rfl]
theorem wr_text {n : Nat} {ls ns : List Str} {fs : List (Str × Nat × Nat)} {t : Str} : wrP (n + 1) ls fs ns (.tuple [.str "text", .str t]) = if 10 ∈ t.cps.toList then lP else [] := by
  show (if ("text" : Str) = ("num" : Str) then _ else if ("text" : Str) = ("text" : Str) then _ else _) = _
  rw [if_neg (by decide +kernel), if_pos rfl]
theorem wr_call {n : Nat} {ls ns : List Str} {fs : List (Str × Nat × Nat)} {f : Str} {ks ds : List PyData} : wrP (n + 1) ls fs ns (.tuple [.str "call", .str f, .tuple ks, .tuple ds]) = wrCall (wrP n ls fs ns) ls fs f ks ds := by
  show (if ("call" : Str) = ("num" : Str) then _ else if ("call" : Str) = ("text" : Str) then _ else if ("call" : Str) = ("call" : Str) then _ else _) = _
  rw [if_neg (by decide +kernel), if_neg (by decide +kernel), if_pos rfl]
theorem wr_row {n : Nat} {ls ns : List Str} {fs : List (Str × Nat × Nat)} {ds : List PyData} : wrP (n + 1) ls fs ns (.tuple [.str "row", .tuple ds]) = ds.flatMap (wrP n ls fs ns) ++ (if ds.isEmpty then lP else []) := by
  show (if ("row" : Str) = ("num" : Str) then _ else if ("row" : Str) = ("text" : Str) then _ else if ("row" : Str) = ("call" : Str) then _ else if ("row" : Str) = ("row" : Str) then _ else _) = _
  rw [if_neg (by decide +kernel), if_neg (by decide +kernel), if_neg (by decide +kernel), if_pos rfl]
theorem wr_shape {n : Nat} {ls ns : List Str} {fs : List (Str × Nat × Nat)} {ds : List PyData} : wrP (n + 1) ls fs ns (.tuple [.str "shape", .tuple ds]) = ds.flatMap (fun d => wrP n ls fs ns (sndP d)) ++ (if badFs (ds.map nameD) then lP else []) := by
  show (if ("shape" : Str) = ("num" : Str) then _ else if ("shape" : Str) = ("text" : Str) then _ else if ("shape" : Str) = ("call" : Str) then _ else if ("shape" : Str) = ("row" : Str) then _ else if ("shape" : Str) = ("shape" : Str) then _ else _) = _
  rw [if_neg (by decide +kernel), if_neg (by decide +kernel), if_neg (by decide +kernel), if_neg (by decide +kernel), if_pos rfl]
theorem frm_at : ∀ q ∈ frmL, frmL.lookup q.1 = some q.2 := by decide +kernel
theorem wr_form {n : Nat} {ls ns : List Str} {fs : List (Str × Nat × Nat)} {w : Str} {sg : List Str} {ds : List PyData} (h : (w, sg) ∈ frmL) : wrP (n + 1) ls fs ns (.tuple (.str w :: ds)) = (List.range sg.length).flatMap (wrAt (wrP n ls fs) ls ns w sg ds) := by
  obtain ⟨_, n1, n2, n3, n4, n5, _⟩ := frm_form _ h
  show (if w = ("num" : Str) then _ else if w = ("text" : Str) then _ else if w = ("call" : Str) then _ else if w = ("row" : Str) then _ else if w = ("shape" : Str) then _ else match frmL.lookup w with | some sg => _ | none => _) = _
  rw [if_neg n2, if_neg n3, if_neg n1, if_neg n4, if_neg n5, show frmL.lookup w = some sg from frm_at _ h]
end Sc
namespace Sc
open PySem PySem.Spec PyProof.Rows L2
theorem rel_when (c : Bool) (b : Wr) (l : List Str) (h : l = [nmW b]) : Rel (whenB c b) (if c then [] else l) := by
  cases c
  · show nmW b ∈ l
    rw [h]
    exact List.mem_singleton.mpr rfl
  · rfl
theorem gHanded_tup (rec : PyData → Option Wr) (ds : List PyData) : gHanded rec (.tuple ds) = firstBad (ds.map rec) := rfl
theorem slot_text {rec : Env0 → PyData → Option Wr} {E : Env0} {d : PyData} : gSlot rec E ("text" : Str) d = gText d := slot_all.2.1
theorem nine_not : ¬ Word nineQ := fun z => by
  have := z.2.1
  revert this
  decide +kernel
theorem fld_eq (qs : List (Str × PyData)) : fldD (.tuple (qs.map mkP)) = (!(qs.map (·.1)).isEmpty && ascB (qs.map (·.1))) := by
  have e1 : (qs.map mkP).map nameD = qs.map (·.1) := by
    rw [List.map_map]
    rfl
  have e2 : (qs.map mkP).isEmpty = (qs.map (·.1)).isEmpty := by cases qs <;> rfl
  have e3 : (qs.map mkP).all pairD = true := by
    rw [List.all_map, List.all_eq_true]
    intro q _
    rfl
  show (!(qs.map mkP).isEmpty && (qs.map mkP).all pairD && ascB ((qs.map mkP).map nameD)) = _
  rw [e1, e2, e3, Bool.and_true]
theorem bad_no {qs : List (Str × PyData)} (h : fldD (.tuple (qs.map mkP)) = false) : badFs ((qs.map mkP).map nameD) = true := by
  have e1 : (qs.map mkP).map nameD = qs.map (·.1) := by
    rw [List.map_map]
    rfl
  rw [fld_eq] at h
  rw [e1]
  unfold badFs
  revert h
  cases (qs.map (·.1)).isEmpty <;> cases ascB (qs.map (·.1)) <;> intro h <;> first | rfl | cases h
theorem bad_all {qs : List (Str × PyData)} (h : fldD (.tuple (qs.map mkP)) = true) (g : ∀ q ∈ qs, Word q.1) : badFs ((qs.map mkP).map nameD) = false := by
  have e1 : (qs.map mkP).map nameD = qs.map (·.1) := by
    rw [List.map_map]
    rfl
  rw [fld_eq] at h
  rw [e1]
  have a2 : ¬ ("A" : Str) ∈ qs.map (·.1) := fun m => by
    obtain ⟨q, hq, e⟩ := List.mem_map.mp m
    exact not_word_A (e ▸ g q hq)
  have a3 : ¬ nineQ ∈ qs.map (·.1) := fun m => by
    obtain ⟨q, hq, e⟩ := List.mem_map.mp m
    exact nine_not (e ▸ g q hq)
  unfold badFs
  rw [decide_eq_false a2, decide_eq_false a3]
  revert h
  cases (qs.map (·.1)).isEmpty <;> cases ascB (qs.map (·.1)) <;> intro h <;> first | rfl | cases h
theorem bad_one {qs : List (Str × PyData)} (h : ∀ q ∈ qs, Word q.1 ∨ q.1 = "A" ∨ q.1 = nineQ) {q : Str × PyData} (hq : q ∈ qs) (nw : ¬ Word q.1) : badFs ((qs.map mkP).map nameD) = true := by
  have e1 : (qs.map mkP).map nameD = qs.map (·.1) := by
    rw [List.map_map]
    rfl
  rw [e1]
  unfold badFs
  have m : q.1 ∈ qs.map (·.1) := List.mem_map_of_mem hq
  rcases h q hq with w | w | w
  · exact absurd w nw
  · rw [w] at m
    rw [decide_eq_true m]
    cases (qs.map (·.1)).isEmpty <;> cases ascB (qs.map (·.1)) <;> rfl
  · rw [w] at m
    rw [decide_eq_true m]
    cases (qs.map (·.1)).isEmpty <;> cases ascB (qs.map (·.1)) <;> cases decide (("A" : Str) ∈ qs.map (·.1)) <;> rfl
theorem filt_nodup {f : Str} {q : Str × Nat × Nat} : ∀ {fs : List (Str × Nat × Nat)}, (fs.map (·.1)).Nodup → fs.lookup f = some q.2 → q.1 = f → fs.filter (fun q => q.1 == f) = [q]
  | [], _, h, _ => by cases h
  | p :: fs, nd, h, e => by
    obtain ⟨n1, n2⟩ := List.nodup_cons.mp nd
    obtain ⟨p1, p2⟩ := p
    rw [List.lookup_cons] at h
    by_cases z : p1 = f
    · have hb : (f == p1) = true := by rw [z]; exact beq_self_eq_true f
      rw [hb] at h
      have e2 : p2 = q.2 := Option.some.inj h
      rw [List.filter_cons_of_pos (by show (p1 == f) = true; rw [z]; exact beq_self_eq_true f), List.filter_eq_nil_iff.mpr fun x hx => ?_]
      · rw [← e] at z
        rw [z, e2]
      · intro y
        have : x.1 = f := eq_of_beq y
        exact n1 (by show p1 ∈ _; rw [z, ← this]; exact List.mem_map_of_mem hx)
    · have hb : (f == p1) = false := Bool.eq_false_iff.mpr fun y => z (eq_of_beq y).symm
      rw [hb] at h
      rw [List.filter_cons_of_neg (by show ¬ (p1 == f) = true; exact fun y => z (eq_of_beq y))]
      exact filt_nodup n2 h e
theorem look_none {f : Str} {fs : List (Str × Nat × Nat)} (h : f ∉ fs.map (·.1)) : fs.filter (fun q => q.1 == f) = [] := List.filter_eq_nil_iff.mpr fun x hx y => h (eq_of_beq (show (x.1 == f) = true from y) ▸ List.mem_map_of_mem hx)
theorem look_some {f : Str} : ∀ {fs : List (Str × Nat × Nat)}, f ∈ fs.map (·.1) → ∃ q, fs.lookup f = some q
  | [], h => by cases h
  | p :: fs, h => by
    obtain ⟨p1, p2⟩ := p
    rw [List.lookup_cons]
    cases hb : f == p1 with
    | true => exact ⟨_, rfl⟩
    | false =>
      rcases List.mem_cons.mp h with e | e
      · rw [show f = p1 from e, beq_self_eq_true] at hb
        cases hb
      · exact look_some e
theorem rel_part {fn : Str → Prop} {ls : List Str} {fs : List (Str × Nat × Nat)} (hf : ∀ z, fn z → Word z) (nd : (fs.map (·.1)).Nodup) {m : Nat} {d : PyData} (h : Lo fn m d) :
    ∀ {n : Nat} {ns : List Str}, m ≤ n → Rel (gPart n ⟨ls, fs, ns⟩ d) (wrP n ls fs ns d) := by
  induction h with
  | @num m k a =>
    intro n ns hn
    obtain ⟨n, rfl⟩ : ∃ n', n = n' + 1 := ⟨n - 1, by omega⟩
    rw [gPart_one (s := "whole") (by decide +kernel) (by decide +kernel) (by decide +kernel) (by decide +kernel), slot_whole, wr_num]
    show Rel (whenB (decide (k.natAbs < 10 ^ 30)) .bp) _
    by_cases z : k.natAbs < 10 ^ 30
    · rw [decide_eq_true z, if_neg (by omega)]
      rfl
    · rw [decide_eq_false z, if_pos (by omega)]
      exact List.mem_singleton.mpr rfl
  | @text m t a =>
    intro n ns hn
    obtain ⟨n, rfl⟩ : ∃ n', n = n' + 1 := ⟨n - 1, by omega⟩
    rw [gPart_one (s := "text") (by decide +kernel) (by decide +kernel) (by decide +kernel) (by decide +kernel), slot_text, wr_text]
    have a1 : (t.cps.toList.all fun c => decide (32 ≤ c) && decide (c ≤ 126)) = true := List.all_eq_true.mpr fun c hc => by
      have := a.2 c hc
      rw [decide_eq_true this.1, decide_eq_true this.2.1]
      rfl
    have a2 : (t.cps.toList.any fun c => c == 37) = false := Bool.eq_false_iff.mpr fun z => by
      obtain ⟨c, hc, e⟩ := List.any_eq_true.mp z
      exact (a.2 c hc).2.2 (eq_of_beq e)
    show Rel (whenB ((t.cps.toList.all fun c => decide (32 ≤ c) && decide (c ≤ 126)) && !(t.cps.toList.any fun c => c == 37)) .bp) _
    rw [a1, a2, if_neg fun z => by have := (a.2 10 z).1; omega]
    rfl
  | @textN m t a =>
    intro n ns hn
    obtain ⟨n, rfl⟩ : ∃ n', n = n' + 1 := ⟨n - 1, by omega⟩
    rw [gPart_one (s := "text") (by decide +kernel) (by decide +kernel) (by decide +kernel) (by decide +kernel), slot_text, wr_text]
    have m10 : 10 ∈ (t ++ ("\n" : Str)).cps.toList := by
      rw [app_list]
      exact List.mem_append_right _ (by decide +kernel)
    have a1 : ((t ++ ("\n" : Str)).cps.toList.all fun c => decide (32 ≤ c) && decide (c ≤ 126)) = false := Bool.eq_false_iff.mpr fun z => by
      have := List.all_eq_true.mp z 10 m10
      revert this
      decide
    show Rel (whenB (((t ++ ("\n" : Str)).cps.toList.all fun c => decide (32 ≤ c) && decide (c ≤ 126)) && !((t ++ ("\n" : Str)).cps.toList.any fun c => c == 37)) .bp) _
    rw [a1, if_pos m10]
    exact List.mem_singleton.mpr rfl
  | @row m ds a _ ih =>
    intro n ns hn
    obtain ⟨n, rfl⟩ : ∃ n', n = n' + 1 := ⟨n - 1, by omega⟩
    rw [gPart_one (s := "parts") (by decide +kernel) (by decide +kernel) (by decide +kernel) (by decide +kernel), slot_parts, wr_row]
    have r : Rel (firstBad (ds.map (gPart n ⟨ls, fs, ns⟩))) (ds.flatMap (wrP n ls fs ns)) := rel_map fun d hd => ih d hd (by omega)
    unfold gParts
    rw [gHanded_tup]
    cases ds with
    | nil => exact List.mem_singleton.mpr rfl
    | cons d ds =>
      cases fb : firstBad ((d :: ds).map (gPart n ⟨ls, fs, ns⟩)) with
      | none =>
        rw [fb] at r
        show (d :: ds).flatMap (wrP n ls fs ns) ++ (if false = true then lP else []) = []
        rw [show (d :: ds).flatMap (wrP n ls fs ns) = [] from r]
        rfl
      | some b =>
        rw [fb] at r
        exact List.mem_append_left _ (show nmW b ∈ _ from r)
  | @shape m qs a b _ ih =>
    intro n ns hn
    obtain ⟨n, rfl⟩ : ∃ n', n = n' + 1 := ⟨n - 1, by omega⟩
    rw [gPart_one (s := "fields") (by decide +kernel) (by decide +kernel) (by decide +kernel) (by decide +kernel), slot_fields, wr_shape]
    show Rel (if fldD (.tuple (qs.map mkP)) then firstBad ((qs.map mkP).map (gField (gPart n ⟨ls, fs, ns⟩))) else some .bp) _
    cases fd : fldD (.tuple (qs.map mkP)) with
    | false =>
      rw [if_neg Bool.false_ne_true, bad_no fd]
      exact List.mem_append_right _ (List.mem_singleton.mpr rfl)
    | true =>
      rw [if_pos rfl, List.flatMap_map, List.map_map]
      have r : Rel (firstBad (qs.map (gField (gPart n ⟨ls, fs, ns⟩) ∘ mkP))) (qs.flatMap fun q => (if isWordD (.str q.1) then [] else lP) ++ wrP n ls fs ns q.2) := rel_map fun q hq => by
        show Rel (match whenB (isWordD (.str q.1)) .bp with | some b => some b | none => gPart n ⟨ls, fs, ns⟩ q.2) _
        cases isWordD (.str q.1)
        · exact List.mem_append_left _ (List.mem_singleton.mpr rfl)
        · exact ih q hq (by omega)
      refine r.mono (fun x hx => ?_) fun e => ?_
      · obtain ⟨q, hq, hx⟩ := List.mem_flatMap.mp hx
        rcases List.mem_append.mp hx with hx | hx
        · by_cases wq : Word q.1
          · rw [show isWordD (.str q.1) = true from decide_eq_true wq] at hx
            cases hx
          · rw [show isWordD (.str q.1) = false from decide_eq_false wq] at hx
            rw [bad_one b hq wq]
            exact List.mem_append_right _ hx
        · exact List.mem_append_left _ (List.mem_flatMap.mpr ⟨q, hq, hx⟩)
      · rw [e] at r
        have r : (qs.flatMap fun q => (if isWordD (.str q.1) then [] else lP) ++ wrP n ls fs ns q.2) = [] := r
        have al := List.flatMap_eq_nil_iff.mp r
        have ws : ∀ q ∈ qs, Word q.1 := fun q hq => by
          have z := (List.append_eq_nil_iff.mp (al q hq)).1
          by_cases wq : Word q.1
          · exact wq
          · rw [show isWordD (.str q.1) = false from decide_eq_false wq] at z
            cases z
        rw [bad_all fd ws]
        show (qs.flatMap fun q => wrP n ls fs ns (sndP (mkP q))) ++ [] = []
        rw [List.append_nil]
        exact List.flatMap_eq_nil_iff.mpr fun q hq => (List.append_eq_nil_iff.mp (al q hq)).2
  | @call m f ks ds a b c e _ ih =>
    intro n ns hn
    obtain ⟨n, rfl⟩ : ∃ n', n = n' + 1 := ⟨n - 1, by omega⟩
    rw [gPart_eq (fm := ["function", "kinds", "handed"]) (by decide +kernel) rfl, wr_call]
    have wf : Word f := hf f a
    have r3 : Rel (firstBad (ds.map (gPart n ⟨ls, fs, ns⟩))) (ds.flatMap (wrP n ls fs ns)) := rel_map fun d hd => ih d hd (by omega)
    have g : strsD (givens ["function", "kinds", "handed"] [.str f, .tuple ks, .tuple ds]) = [] := by kernel_rfl
    rw [g]
    show Rel (match firstBad [gSlot (gPart n) (if ("function" : Str) = ("last" : Str) then _ else ⟨ls, fs, ns⟩) "function" (.str f), gSlot (gPart n) (if ("kinds" : Str) = ("last" : Str) then _ else ⟨ls, fs, ns⟩) "kinds" (.tuple ks), gSlot (gPart n) (if ("handed" : Str) = ("last" : Str) then _ else ⟨ls, fs, ns⟩) "handed" (.tuple ds)] with
      | some b => some b
      | none => if (strsD []).Nodup then (if ("call" : Str) = ("call" : Str) then whenB (callOk ⟨ls, fs, ns⟩ [.str f, .tuple ks, .tuple ds]) .bp else none) else some .tt) _
    rw [if_neg (by decide +kernel), if_neg (by decide +kernel), if_neg (by decide +kernel), if_pos (show (strsD []).Nodup from List.nodup_nil), if_pos rfl, slot_function, slot_kinds, slot_handed, gHanded_tup]
    have gf : gFun ⟨ls, fs, ns⟩ (.str f) = whenB (decide (f ∈ fs.map (·.1))) .nn := by
      show (if isWordD (.str f) then whenB (decide (f ∈ fs.map (·.1))) .nn else some Wr.bp) = _
      rw [show isWordD (.str f) = true from decide_eq_true wf]
      rfl
    rw [gf]
    unfold wrCall
    by_cases mf : f ∈ fs.map (·.1)
    · obtain ⟨q, hq⟩ := look_some mf
      rw [decide_eq_true mf, filt_nodup (q := (f, q)) nd hq rfl]
      show Rel (match firstBad [gKinds ls (.tuple ks), firstBad (ds.map (gPart n ⟨ls, fs, ns⟩))] with | some b => some b | none => whenB (callOk ⟨ls, fs, ns⟩ [.str f, .tuple ks, .tuple ds]) .bp) _
      have rk : Rel (gKinds ls (.tuple ks)) (if ks.any (fun k => !gK ls 9 k) then lK else []) := by
        show Rel (firstBad (ks.map (gKind ls))) _
        clear b e ih g
        induction ks with
        | nil => rfl
        | cons k ks ih =>
          show Rel (firstBad (whenB (gK ls 9 k) .bk :: ks.map (gKind ls))) (if ((!gK ls 9 k) || ks.any (fun k => !gK ls 9 k)) = true then lK else [])
          cases gK ls 9 k
          · exact List.mem_singleton.mpr rfl
          · exact ih
      have co : callOk ⟨ls, fs, ns⟩ [.str f, .tuple ks, .tuple ds] = (decide (ks.length = q.1) && decide (ds.length = q.2)) := by
        show (match fs.lookup f with | some (nl, np) => decide (ks.length = nl) && decide (ds.length = np) | none => false) = _
        rw [hq]
      rw [co]
      cases fk : gKinds ls (.tuple ks) with
      | some b =>
        rw [fk] at rk
        exact List.mem_append_left _ (List.mem_append_right _ (show nmW b ∈ _ from rk))
      | none =>
        rw [fk] at rk
        rw [show (if ks.any (fun k => !gK ls 9 k) then lK else []) = [] from rk, List.append_nil]
        cases fd : firstBad (ds.map (gPart n ⟨ls, fs, ns⟩)) with
        | some b =>
          rw [fd] at r3
          exact List.mem_append_right _ (show nmW b ∈ _ from r3)
        | none =>
          rw [fd] at r3
          rw [show ds.flatMap (wrP n ls fs ns) = [] from r3, List.append_nil]
          show Rel (whenB (decide (ks.length = q.1) && decide (ds.length = q.2)) .bp) (if ([] : List (Str × Nat × Nat)) ≠ [] ∨ ks.length ≠ q.1 ∨ ds.length ≠ q.2 then lP else [])
          by_cases h1 : ks.length = q.1
          · by_cases h2 : ds.length = q.2
            · rw [decide_eq_true h1, decide_eq_true h2, if_neg (by rintro (z | z | z) <;> exact z (by first | rfl | assumption))]
              rfl
            · rw [decide_eq_true h1, decide_eq_false h2, if_pos (.inr (.inr h2))]
              exact List.mem_singleton.mpr rfl
          · rw [decide_eq_false h1, if_pos (.inr (.inl h1))]
            exact List.mem_singleton.mpr rfl
    · rw [decide_eq_false mf, look_none mf]
      exact List.mem_append_left _ (List.mem_append_left _ (List.mem_singleton.mpr rfl))
  | @form m w sg ds a b c _ ih =>
    intro n ns hn
    obtain ⟨n, rfl⟩ : ∃ n', n = n' + 1 := ⟨n - 1, by omega⟩
    rw [wr_form a]
    exact rel_form a b c fun ns' j s d h1 h2 h3 => ih j s d h1 h2 h3 (by omega)
end Sc
namespace Sc
open PySem PySem.Spec PyProof.Rows L2
/-! ### functions drawn loosely -/
def nameS : PyData → Str
  | .str z => z
  | _ => Str.empty
def oddNames : List Str := ["get", "Ab", "aaaaaaaaa", "nobook"]
def sndsD : PyData → List PyData
  | .tuple ds => ds.map sndP
  | _ => []
/-- what the law finds wrong with a function -/
def wrF (fs : List (Str × Nat × Nat)) (d0 d1 d2 d3 d4 : PyData) : List Str :=
  wrP 12 (leads d1) fs (leads d2) d4 ++ (if nameS d0 ∈ fs.map (·.1) then lT else []) ++ (if ¬ (leads d1).Nodup ∨ ¬ (leads d2).Nodup then lT else []) ++ (if nameS d0 ∈ oddNames then lP else []) ++
    (if (sndsD d1).any (fun k => !gK [] 9 k) then lK else []) ++ (if (sndsD d2 ++ [d3]).any (fun k => !gK (leads d1) 9 k) then lK else [])
inductive LoF (names : List Str) : PyData → Prop
  | mk {z : Str} {prl prp : List (Str × PyData)} {res body : PyData} : (Word z ∧ formTab.lookup z = none ∨ z ∈ names ∨ z ∈ oddNames) → prl.length ≤ 4 → (∀ q ∈ prl, Lett q.1) → (∀ q ∈ prl, Lk q.2) → prp.length ≤ 4 → (∀ q ∈ prp, Word q.1) → (∀ q ∈ prp, Lk q.2) →
      Lk res → Lo (fun f => Word f ∨ f ∈ names) 6 body → LoF names (.tuple [.str z, .tuple (prl.map mkP), .tuple (prp.map mkP), res, body])
theorem sndsD_of (prs : List (Str × PyData)) : sndsD (.tuple (prs.map mkP)) = prs.map (·.2) := by
  show (prs.map mkP).map sndP = _
  rw [List.map_map]
  rfl
theorem rel_pairs {p : PyData → Bool} {prs : List (Str × PyData)} (hp : ∀ q ∈ prs, p (.str q.1) = true) : Rel (gPairs p (.tuple (prs.map mkP))) (if ¬ (prs.map (·.1)).Nodup then lT else []) := by
  by_cases nd : (prs.map (·.1)).Nodup
  · rw [gPairs_of hp nd, if_neg fun z => z nd]
    rfl
  · rw [if_pos nd, gPairs_eq]
    have e1 : firstBad ((prs.map mkP).map (pairOk p)) = none := fb_all fun w hw => by
      obtain ⟨d, hd, rfl⟩ := List.mem_map.mp hw
      obtain ⟨q, hq, rfl⟩ := List.mem_map.mp hd
      show whenB (p (.str q.1)) .bp = none
      rw [hp q hq]
      rfl
    rw [e1]
    have e2 : strsD ((prs.map mkP).map leadD) = prs.map (·.1) := by
      clear hp nd e1
      induction prs with
      | nil => rfl
      | cons q prs ih =>
        show q.1 :: strsD ((prs.map mkP).map leadD) = _
        rw [ih]
        rfl
    show Rel (if (strsD ((prs.map mkP).map leadD)).Nodup then none else some Wr.tt) lT
    rw [e2, if_neg nd]
    exact List.mem_singleton.mpr rfl
theorem rel_kinds {ls : List Str} {ks : List PyData} : Rel (firstBad (ks.map (gKind ls))) (if ks.any (fun k => !gK ls 9 k) then lK else []) := by
  induction ks with
  | nil => rfl
  | cons k ks ih =>
    show Rel (firstBad (whenB (gK ls 9 k) .bk :: ks.map (gKind ls))) (if ((!gK ls 9 k) || ks.any (fun k => !gK ls 9 k)) = true then lK else [])
    cases gK ls 9 k
    · exact List.mem_singleton.mpr rfl
    · exact ih
theorem odd_word : ∀ z ∈ oddNames, Word z → (formTab.lookup z).isSome = true := by
  intro z hz w
  have : ∀ z ∈ oddNames, (formTab.lookup z).isSome = true ∨ ¬ (z.cps.toList.length ≤ 8 ∧ z.cps.toList.all (fun c => decide (97 ≤ c)) = true) := by decide +kernel
  rcases this z hz with h | h
  · exact h
  · exact absurd ⟨w.2.1, List.all_eq_true.mpr fun c hc => decide_eq_true (w.2.2 c hc).1⟩ h
theorem any_app {ls : List Str} {a b : List PyData} : (if (a ++ b).any (fun k => !gK ls 9 k) then lK else []) = [] → (if a.any (fun k => !gK ls 9 k) then lK else []) = [] ∧ (if b.any (fun k => !gK ls 9 k) then lK else []) = [] := by
  rw [List.any_append]
  cases a.any (fun k => !gK ls 9 k) <;> cases b.any (fun k => !gK ls 9 k) <;> intro h <;> first | exact ⟨rfl, rfl⟩ | cases h
/-- which names stand earlier, all of them good -/
structure Earl (fs : List (Str × Nat × Nat)) : Prop where
  nd : (fs.map (·.1)).Nodup
  ok : ∀ q ∈ fs, Word q.1 ∧ formTab.lookup q.1 = none
theorem rel_cons {o : Option Wr} {os : List (Option Wr)} {l m : List Str} (h : Rel o l) (g : Rel (firstBad os) m) : Rel (firstBad (o :: os)) (l ++ m) := by
  cases o with
  | none =>
    rw [show l = [] from h]
    exact g
  | some b => exact List.mem_append_left _ (show nmW b ∈ l from h)
theorem rel_one {o : Option Wr} {l : List Str} (h : Rel (firstBad [o]) l) : Rel o l := by
  cases o with
  | none => exact h
  | some b => exact h
theorem rel_nil : Rel (firstBad []) [] := rfl
set_option maxHeartbeats 4000000 in
theorem rel_fn {fs : List (Str × Nat × Nat)} {names : List Str} {d0 d1 d2 d3 d4 : PyData} (e : Earl fs) (hn : ∀ z ∈ names, z ∈ fs.map (·.1)) (h : LoF names (.tuple [d0, d1, d2, d3, d4])) : Rel (gFn fs d0 d1 d2 d3 d4) (wrF fs d0 d1 d2 d3 d4) := by
  cases h with
  | @mk z prl prp _ _ hz l4 ll lk p4 pw pk rk bd =>
  have nw : ∀ z ∈ names, Word z ∧ formTab.lookup z = none := fun z m => by
    obtain ⟨q, hq, e1⟩ := List.mem_map.mp (hn z m)
    exact e1 ▸ e.ok q hq
  have lp : leads (.tuple (prp.map mkP)) = prp.map (·.1) := leads_of prp
  have l_l : leads (.tuple (prl.map mkP)) = prl.map (·.1) := leads_of prl
  have sl : sndsD (.tuple (prl.map mkP)) = prl.map (·.2) := sndsD_of prl
  have sp : sndsD (.tuple (prp.map mkP)) = prp.map (·.2) := sndsD_of prp
  unfold wrF
  rw [lp, l_l, sl, sp]
  unfold gFn
  by_cases wz : Word z
  · rw [gWord_of wz]
    show Rel (if (formTab.lookup z).isSome then some Wr.bp else if z ∈ fs.map (·.1) then some .tt else firstBad [gPairs isLettD (.tuple (prl.map mkP)), gSnd (gKind []) (.tuple (prl.map mkP)), gPairs isWordD (.tuple (prp.map mkP)), gSnd (gKind (leads (.tuple (prl.map mkP)))) (.tuple (prp.map mkP)), gKind (leads (.tuple (prl.map mkP))) d3, gPart 12 ⟨leads (.tuple (prl.map mkP)), fs, leads (.tuple (prp.map mkP))⟩ d4]) _
    show Rel _ (_ ++ (if z ∈ fs.map (·.1) then lT else []) ++ _ ++ (if z ∈ oddNames then lP else []) ++ _ ++ _)
    cases fz : formTab.lookup z with
    | some fm =>
      have od : z ∈ oddNames := by
        rcases hz with ⟨_, h⟩ | h | h
        · rw [h] at fz; cases fz
        · rw [(nw z h).2] at fz; cases fz
        · exact h
      rw [if_pos (show (some fm).isSome = true from rfl), if_pos od]
      exact List.mem_append_left _ (List.mem_append_left _ (List.mem_append_right _ (List.mem_singleton.mpr rfl)))
    | none =>
      rw [if_neg (by show ¬ (false = true); exact Bool.false_ne_true)]
      have od : z ∉ oddNames := fun m => by
        have := odd_word z m wz
        rw [fz] at this
        cases this
      by_cases mz : z ∈ fs.map (·.1)
      · rw [if_pos mz, if_pos mz]
        exact List.mem_append_left _ (List.mem_append_left _ (List.mem_append_left _ (List.mem_append_left _ (List.mem_append_right _ (List.mem_singleton.mpr rfl)))))
      · rw [if_neg mz, if_neg mz, if_neg od, List.append_nil, List.append_nil, lp, l_l, gSnd_of, gSnd_of]
        have r1 : Rel (gPairs isLettD (.tuple (prl.map mkP))) _ := rel_pairs fun q m => decide_eq_true (ll q m)
        have r3 : Rel (gPairs isWordD (.tuple (prp.map mkP))) _ := rel_pairs fun q m => decide_eq_true (pw q m)
        have r2 : Rel (firstBad (prl.map fun q => gKind [] q.2)) (if (prl.map (·.2)).any (fun k => !gK [] 9 k) then lK else []) := by
          have := rel_kinds (ls := []) (ks := prl.map (·.2))
          rw [List.map_map] at this
          exact this
        have r4 : Rel (firstBad (prp.map fun q => gKind (prl.map (·.1)) q.2)) (if (prp.map (·.2)).any (fun k => !gK (prl.map (·.1)) 9 k) then lK else []) := by
          have := rel_kinds (ls := prl.map (·.1)) (ks := prp.map (·.2))
          rw [List.map_map] at this
          exact this
        have r5 : Rel (gKind (prl.map (·.1)) d3) (if [d3].any (fun k => !gK (prl.map (·.1)) 9 k) then lK else []) := by
          have := rel_kinds (ls := prl.map (·.1)) (ks := [d3])
          rw [List.map_cons, List.map_nil] at this
          exact rel_one this
        have r6 : Rel (gPart 12 ⟨prl.map (·.1), fs, prp.map (·.1)⟩ d4) (wrP 12 (prl.map (·.1)) fs (prp.map (·.1)) d4) := rel_part (fn := fun f => Word f ∨ f ∈ names) (fun z h => h.elim id fun m => (nw z m).1) e.nd bd (by decide)
        have r := rel_cons r1 (rel_cons r2 (rel_cons r3 (rel_cons r4 (rel_cons r5 (rel_cons r6 rel_nil)))))
        refine r.mono (fun x hx => ?_) fun en => ?_
        · simp only [List.append_nil, List.mem_append] at hx
          rcases hx with hx | hx | hx | hx | hx | hx
          · refine List.mem_append_left _ (List.mem_append_left _ (List.mem_append_right _ ?_))
            by_cases q : (prl.map (·.1)).Nodup
            · rw [if_neg fun z => z q] at hx; cases hx
            · rw [if_pos (.inl q)]
              rw [if_pos q] at hx
              exact hx
          · exact List.mem_append_left _ (List.mem_append_right _ hx)
          · refine List.mem_append_left _ (List.mem_append_left _ (List.mem_append_right _ ?_))
            by_cases q : (prp.map (·.1)).Nodup
            · rw [if_neg fun z => z q] at hx; cases hx
            · rw [if_pos (.inr q)]
              rw [if_pos q] at hx
              exact hx
          · refine List.mem_append_right _ ?_
            rw [List.any_append]
            cases q : (prp.map (·.2)).any (fun k => !gK (prl.map (·.1)) 9 k) with
            | true => rw [q] at hx; exact hx
            | false => rw [q] at hx; cases hx
          · refine List.mem_append_right _ ?_
            rw [List.any_append]
            cases q : [d3].any (fun k => !gK (prl.map (·.1)) 9 k) with
            | true => rw [q] at hx; rw [Bool.or_true]; exact hx
            | false => rw [q] at hx; cases hx
          · exact List.mem_append_left _ (List.mem_append_left _ (List.mem_append_left _ hx))
        · rw [en] at r
          simp only [Rel, List.append_nil, List.append_eq_nil_iff] at r
          obtain ⟨a1, a2, a3, a4, a5, a6⟩ := r
          have n1 : (prl.map (·.1)).Nodup := by
            by_cases q : (prl.map (·.1)).Nodup
            · exact q
            · rw [if_pos q] at a1; cases a1
          have n2 : (prp.map (·.1)).Nodup := by
            by_cases q : (prp.map (·.1)).Nodup
            · exact q
            · rw [if_pos q] at a3; cases a3
          rw [a6, a2, if_neg (fun z => z.elim (fun z => z n1) fun z => z n2), List.any_append]
          revert a4 a5
          cases (prp.map (·.2)).any (fun k => !gK (prl.map (·.1)) 9 k) <;> cases [d3].any (fun k => !gK (prl.map (·.1)) 9 k) <;> intro a4 a5 <;> first | rfl | exact absurd a5 (by decide +kernel) | exact absurd a4 (by decide +kernel)
  · have od : z ∈ oddNames := by
      rcases hz with ⟨h, _⟩ | h | h
      · exact absurd h wz
      · exact absurd (nw z h).1 wz
      · exact h
    rw [show gWord (.str z) = some .bp by unfold gWord whenB; rw [show isWordD (.str z) = false from decide_eq_false wz]; rfl]
    show nmW .bp ∈ _ ++ (if z ∈ fs.map (·.1) then lT else []) ++ _ ++ (if z ∈ oddNames then lP else []) ++ _ ++ _
    rw [if_pos od]
    exact List.mem_append_left _ (List.mem_append_left _ (List.mem_append_right _ (List.mem_singleton.mpr rfl)))
end Sc
namespace Sc
open PySem PySem.Spec PyProof.Rows L2
def wrAll : List (Str × Nat × Nat) → List PyData → List Str
  | _, [] => []
  | fs, .tuple [d0, d1, d2, d3, d4] :: r => wrF fs d0 d1 d2 d3 d4 ++ wrAll (fs ++ [fnOf3 (.tuple [d0, d1, d2, d3, d4])]) r
  | fs, _ :: r => wrAll fs r
inductive LoPs : List Str → List PyData → Prop
  | nil (names : List Str) : LoPs names []
  | cons {names : List Str} {d : PyData} {r : List PyData} : LoF names d → LoPs (names ++ [(fnOf3 d).1]) r → LoPs names (d :: r)
theorem LoPs.snoc {d : PyData} : ∀ {ds : List PyData} {names : List Str}, LoPs names ds → LoF (names ++ ds.map fun d => (fnOf3 d).1) d → LoPs names (ds ++ [d])
  | [], names, _, h => .cons (by simpa using h) (.nil _)
  | e :: ds, names, h, g => by
    cases h with
    | cons h1 h2 =>
      refine .cons h1 (LoPs.snoc h2 ?_)
      rw [List.append_assoc]
      exact g
theorem rel_prog : ∀ {ds : List PyData} {fs : List (Str × Nat × Nat)}, Earl fs → LoPs (fs.map (·.1)) ds → Rel (gProg fs ds) (wrAll fs ds)
  | [], fs, _, _ => rfl
  | d :: r, fs, e, h => by
    cases h with
    | cons h1 h2 =>
    obtain ⟨d0, d1, d2, d3, d4, rfl⟩ : ∃ d0 d1 d2 d3 d4, d = .tuple [d0, d1, d2, d3, d4] := by
      cases h1
      exact ⟨_, _, _, _, _, rfl⟩
    have rf := rel_fn e (fun z m => m) h1
    show Rel (match gFn fs d0 d1 d2 d3 d4 with | some b => some b | none => gProg (fs ++ [fnOf3 (.tuple [d0, d1, d2, d3, d4])]) r) (wrF fs d0 d1 d2 d3 d4 ++ wrAll (fs ++ [fnOf3 (.tuple [d0, d1, d2, d3, d4])]) r)
    cases g : gFn fs d0 d1 d2 d3 d4 with
    | some b =>
      rw [g] at rf
      exact List.mem_append_left _ (show nmW b ∈ _ from rf)
    | none =>
      rw [g] at rf
      rw [show wrF fs d0 d1 d2 d3 d4 = [] from rf, List.nil_append]
      obtain ⟨z, ls, ps, rfl, rfl, rfl, nz⟩ := gFn_open g
      have g2 := g
      unfold gFn at g2
      have wz : Word z := by
        by_cases wz : Word z
        · exact wz
        · rw [show gWord (.str z) = some .bp by unfold gWord whenB; rw [show isWordD (.str z) = false from decide_eq_false wz]; rfl] at g2
          cases g2
      rw [gWord_of wz] at g2
      have fz : formTab.lookup z = none := by
        cases q : formTab.lookup z with
        | none => rfl
        | some fm =>
          have g3 : (if (formTab.lookup z).isSome then some Wr.bp else _) = none := g2
          rw [q, if_pos (show (some fm).isSome = true from rfl)] at g3
          cases g3
      have e2 : Earl (fs ++ [fnOf3 (.tuple [.str z, .tuple ls, .tuple ps, d3, d4])]) := by
        constructor
        · rw [List.map_append]
          exact List.nodup_append.mpr ⟨e.nd, List.nodup_cons.mpr ⟨List.not_mem_nil, List.nodup_nil⟩, fun a ha b hb => by
            rw [List.mem_singleton.mp hb]
            exact fun y => nz ((show a = z from y) ▸ ha)⟩
        · intro q hq
          rcases List.mem_append.mp hq with m | m
          · exact e.ok q m
          · rw [List.mem_singleton.mp m]
            exact ⟨wz, fz⟩
      refine rel_prog e2 ?_
      rw [List.map_append]
      exact h2
end Sc
namespace Sc
open PySem PyProof.Rows L2
section
variable {P : Program} {w : World} {K : PySem.W.Frag} {mg : Str → Option Value} {base : Heap}
theorem scKind : FnScope ["_law_s", "_law_deep", "_law_letters", "_law_k"] ["_law_s", "_law_deep", "_law_letters"] (defScope sAKind) := ⟨rfl, rfl, rfl, by decide +kernel, rfl, by decide +kernel, by decide +kernel⟩
theorem c_kind {n lv : Nat} (T : Tx K mg) (lv1 : 1 ≤ lv) (CC : Cal P w K mg base lv "_law_a_choice" ["_law_s", "_law_deep", "_law_letters"] (spChoice K n)) : Cal P w K mg base (lv + 1) "_law_a_kind" ["_law_s", "_law_deep", "_law_letters"] (spKind K n) := by
  have CT : Cal P w K mg base 1 "_law_taken" ["_law_s", "_law_most"] (spTaken K) := c_taken T
  refine T.a_kind.ok scKind (fun vs H Q E h => ?_) (fun f cdv A outer s H vs Q E hr h => ?_)
  · obtain ⟨s, l, i, d, ls, rfl, _⟩ := h
    rfl
  obtain ⟨s, l, i, d, ls, rfl, S, dn, hl, hls, q⟩ := h
  have hr1 : Room 1 _ := hr.mono lv1
  refine ⟨_, pss_one (ps_ret (pe_callTy call_tuple_of (by rfl) T.m_tuple (by decide +kernel) (pa_cons
      (pe_lc (own := [("_law_k", 3)]) (g := gName 3) (tt := tYes) rfl scKind.nd (pi_range1 rfl T.m_range (pa_cons (pe_op op_add pe_int (pe_cal CT hr1 (pa_cons (pv 0) (pa_cons pe_int pa_nil)))) pa_nil))
        (blkOk_by (N := ["_law_s", "_law_deep", "_law_letters", "_law_k"]) (sc := defScope sAKind) (by decide +kernel))
        (fun _ _ _ _ _ => pg_name (i := 3) scKind.nd rfl (Or.inl rfl)) (fun _ _ _ _ _ => pts_nil)
        (fun _ _ _ _ _ => pe_cal CC hr (pa_cons (pv 0) (pa_cons (pv 1) (pa_cons (pv 2) pa_nil))))) pa_nil))), ?_⟩
  refine ⟨_, rfl, s, i, 3, rfl, S, by decide, by decide, fun r H1 r0 r3 x1 S1 => ⟨_, _, rfl, rfl, _, rfl, by omega, by omega, fun D hD => ?_⟩⟩
  have nds : D ≠ s := S1.ne hD
  have hl1 : SqL K H1 l (ls.map V.str) := S.seq x1 hl
  refine lc_range (lo := 0) (n := (1 + r).toNat) (fun j H2 => Ext s H1 H2 ∧ IsS K H2 s i ∧ ∃ vs k, H2 D = some (.lst vs) ∧ Dts K H2 vs (pyL k) ∧ okL ls d k ∧ k.length = j)
    ⟨Ext.new _ hD, S1.same (same_new hD _), [], [], upd_same, .nil, trivial, rfl⟩ ?_ ?_
  · rintro j H2 hj ⟨x2, S2, us, k, hd, dp, okk, lk⟩
    refine ⟨rfl, _, rfl, _, rfl, _, rfl, s, l, i, d, ls, rfl, S2, dn, S1.seq x2 hl1, hls, fun v H3 c x3 S3 dv oc => ⟨us, x3 _ _ nds hd, ?_, ?_⟩⟩
    · rw [dp.1, pyL_map, List.length_map]
      exact small1000 (by omega)
    · have x4 : Ext s H1 (upd H3 D (.lst (us ++ [v]))) := (x2.trans x3).over hD _
      have k4 : Keep K H3 (upd H3 D (.lst (us ++ [v]))) := Keep.upd (x3 _ _ nds hd) trivial _
      refine ⟨x4, S1.over S3 x4 nds, us ++ [v], k ++ [c], upd_same, ?_, okL_snoc oc okk, by rw [List.length_append, lk]; rfl⟩
      rw [pyL_map, List.map_append, ← pyL_map]
      exact (k4.dts ((S2.keep x3).dts dp)).snoc (k4.dt dv)
  · rintro H2 ⟨x2, S2, us, k, hd, dp, okk, lk⟩
    refine ⟨D, us, rfl, .inl ⟨SqL.of hd, fun t ht => ?_⟩⟩
    refine q _ _ k (x1.trans (x2.trans (Ext.new _ ht))) (S2.same (same_new ht _)) (((Same.keep (same_new ht _)).dts dp).tup (SqT.of upd_same)) ?_ ?_ okk
    · intro z
      rw [z] at lk
      have : 0 = (1 + r).toNat := lk
      omega
    · omega
end
end Sc
namespace Sc
open PySem PyProof.Rows L2
section
variable {P : Program} {w : World} {K : PySem.W.Frag} {mg : Str → Option Value} {base : Heap}
theorem scChoice : FnScope ["_law_s", "_law_deep", "_law_letters", "_law_way"] ["_law_s", "_law_deep", "_law_letters"] (defScope sAChoice) := ⟨rfl, rfl, rfl, by decide +kernel, rfl, by decide +kernel, by decide +kernel⟩
theorem c_choice {n lv : Nat} (T : Tx K mg) (lv1 : 1 ≤ lv) (CK : Cal P w K mg base lv "_law_a_kind" ["_law_s", "_law_deep", "_law_letters"] (spKind K n)) (CF : Cal P w K mg base lv "_law_some_fields" ["_law_s", "_law_deep", "_law_letters"] (spFields K n)) :
    Cal P w K mg base (lv + 1) "_law_a_choice" ["_law_s", "_law_deep", "_law_letters"] (spChoice K (n + 1)) := by
  have CT : Cal P w K mg base 1 "_law_taken" ["_law_s", "_law_most"] (spTaken K) := c_taken T
  refine T.a_choice.ok scChoice (fun vs H Q E h => ?_) (fun f cdv A outer s H vs Q E hr h => ?_)
  · obtain ⟨s, l, i, d, ls, rfl, _⟩ := h
    rfl
  obtain ⟨s, l, i, d, ls, rfl, S, dn, hl, hls, q⟩ := h
  have hr1 : Room 1 _ := hr.mono lv1
  refine ⟨_, pss_cons (ps_set (i := 3) scChoice.nd rfl (Or.inl rfl) (pe_cal CT hr1 (pa_cons (pv 0) (pa_cons pe_int pa_nil))))
    (pss_cons (ps_if (PW.pt (pw_and (pt_cmpR op_eq (pv 3) pe_int (nomark _)) (pw_and1 (pt_cmpR op_gt (pe_callB call_len_seq (by rfl) T.m_len PySem.boot_len (pa_cons (pv 2) pa_nil)) pe_int (nomark _)))))
      (pss_one (ps_ret (pe_tup (pa_cons pe_str (pa_cons (pe_ix ix_list (pv 2) (pe_cal CT hr1 (pa_cons (pv 0) (pa_cons (pe_callB call_len_seq (by rfl) T.m_len PySem.boot_len (pa_cons (pv 2) pa_nil)) pa_nil))) (fun _ _ => rfl)) pa_nil))))) pss_nil)
    (pss_cons (ps_if (PW.pt (pw_and (pt_cmpR op_gt (pv 1) pe_int (nomark _)) (pw_and1 (pt_chain op_le op_le pe_int (pv 3) pe_int))))
      (pss_one (ps_ret (pe_tup (pa_cons (pe_ix ix_list (pe_lst (pa_cons pe_str (pa_cons pe_str pa_nil))) (pe_op op_sub (pv 3) pe_int) (fun _ _ => rfl)) (pa_cons (pe_cal CK hr (pa_cons (pv 0) (pa_cons (pe_op op_sub (pv 1) pe_int) (pa_cons (pv 2) pa_nil)))) pa_nil))))) pss_nil)
    (pss_cons (ps_if (PW.pt (pw_and (pt_cmpR op_gt (pv 1) pe_int (nomark _)) (pw_and1 (pt_cmpR op_ge (pv 3) pe_int (nomark _)))))
      (pss_one (ps_ret (pe_tup (pa_cons pe_str (pa_cons (pe_cal CF hr (pa_cons (pv 0) (pa_cons (pv 1) (pa_cons (pv 2) pa_nil)))) pa_nil))))) pss_nil)
    (pss_one (ps_ret (pe_ix ix_list (pe_lst (pa_cons (pe_tup (pa_cons pe_str pa_nil)) (pa_cons (pe_tup (pa_cons pe_str pa_nil)) pa_nil))) (pe_op op_mod (pv 3) pe_int) (fun _ _ => rfl))))))), ?_⟩
  refine ⟨_, rfl, s, i, 7, rfl, S, by decide, by decide, fun r H1 r0 r7 x1 S1 => ?_⟩
  have hl1 : SqL K H1 l (ls.map V.str) := S.seq x1 hl
  -- the last row
  have last : tRet (tOp (rIxL K) (tLst (tCons (tTup (tCons (tC (.str "number")) tNil)) (tCons (tTup (tCons (tC (.str "text")) tNil)) tNil))) (tOp (rI (fun _ j => 0 < j) fun i j => V.int (i % j)) (tVar 3) (tC (.int 2))))
      { nx := fun _ H' => Q .non H', rt := Q } [some (.ref s), some (.int d), some (.ref l), some (.int r)] H1 := by
    refine ⟨(by show 1 ≤ sizeLine; decide), fun p1 hp1 => ⟨(by show 1 ≤ sizeLine; decide), fun p2 hp2 => ⟨(by show 2 ≤ sizeLine; decide), fun p3 hp3 => ?_⟩⟩⟩
    have e1 := same_new hp1 (.tup [.str "number"])
    have e2 := same_new hp2 (.tup [.str "text"])
    have e3 := same_new hp3 (.lst [.ref p1, .ref p2])
    have g1 := e3 _ _ (e2 _ _ (upd_same (H := H1) (a := p1) (o := .tup [.str "number"])))
    have g2 := e3 _ _ (upd_same (a := p2) (o := .tup [.str "text"]) (H := upd H1 p1 (.tup [.str "number"])))
    have ee := e1.trans (e2.trans e3)
    have h01 : r % 2 = 0 ∨ r % 2 = 1 := by omega
    refine ⟨_, rfl, _, _, rfl, rfl, (by show (0 : Int) < 2; decide), p3, [.ref p1, .ref p2], r % 2, (if r % 2 = 0 then .ref p1 else .ref p2), rfl, rfl, SqL.of upd_same, ?_, ?_⟩
    · rcases h01 with h | h <;> rw [h] <;> rfl
    · rcases h01 with h | h <;> rw [h]
      · exact q _ _ .num (x1.trans (Ext.same ee)) (S1.same ee) ((Dts.nil.cons (.str _)).tup (SqT.of g1)) trivial
      · exact q _ _ .txt (x1.trans (Ext.same ee)) (S1.same ee) ((Dts.nil.cons (.str _)).tup (SqT.of g2)) trivial
  have hd1 : ∀ {k : Nat}, d = k + 1 → k < n := fun h => by omega
  dsimp only [tNext, gName]
  show tAnd _ _ _ _ _
  refine and_pure (decide (V.int r = V.int 6)) (decide ((((ls.map V.str).length : Nat) : Int) > 0)) (fun R h => ⟨_, rfl, rfl, _, rfl, h⟩) (fun _ R h => ⟨_, rfl, l, _, rfl, .inl hl1, _, _, rfl, rfl, _, rfl, h⟩) (fun c1 c2 => iteT ?_) (fun _ => iteF ?_)
  · have c2' : 0 < (ls.length : Int) := by
      have z := of_decide_eq_true c2
      rw [List.length_map] at z
      exact z
    refine ⟨_, rfl, _, rfl, _, rfl, l, _, rfl, .inl hl1, s, i, ls.length, by simp, S1, c2', ?_, fun r2 H2 a2 b2 x2 S2 => ?_⟩
    · exact Nat.lt_of_le_of_lt (show (ls.length : Int).natAbs ≤ 1000 by omega) (by decide)
    have lt : r2.toNat < ls.length := by omega
    refine ⟨l, ls.map V.str, r2, .str ls[r2.toNat], rfl, rfl, S1.seq x2 hl1, at_of (j := r2.toNat) (by omega) (by rw [List.getElem?_map, List.getElem?_eq_getElem lt]; rfl), (by show 2 ≤ sizeLine; decide), fun t ht => ?_⟩
    exact q _ _ (.letter ls[r2.toNat]) (x1.trans (x2.trans (Ext.new _ ht))) (S2.same (same_new ht _)) (((Dts.nil.cons (.str _)).cons (.str _)).tup (SqT.of upd_same)) (List.getElem_mem lt)
  dsimp only [tNext, gName]
  show tAnd _ _ _ _ _
  refine and_pure (decide ((d : Int) > 0)) (decide (2 ≤ r) && decide (r ≤ 3)) (fun R h => ⟨_, rfl, _, _, rfl, rfl, _, rfl, h⟩) (fun _ R h => ⟨_, rfl, _, _, rfl, rfl, _, rfl, ?_⟩) (fun c1 c2 => iteT ?_) (fun _ => iteF ?_)
  · by_cases a : 2 ≤ r
    · rw [decide_eq_true a] at h ⊢
      exact iteT ⟨_, _, rfl, rfl, _, rfl, h⟩
    · rw [decide_eq_false a] at h ⊢
      exact iteF ⟨_, rfl, h⟩
  · have c1' : (d : Int) > 0 := of_decide_eq_true c1
    rw [Bool.and_eq_true, decide_eq_true_eq, decide_eq_true_eq] at c2
    obtain ⟨k, rfl⟩ : ∃ k : Nat, d = k + 1 := ⟨d - 1, by omega⟩
    have r23 : r = 2 ∨ r = 3 := by omega
    refine ⟨(by show 2 ≤ sizeLine; decide), fun p hp => ⟨_, rfl, _, _, rfl, rfl, p, [.str "row", .str "book"], r - 2, .str (if r = 2 then "row" else "book"), rfl, rfl, SqL.of upd_same, ?_, _, rfl, _, rfl, _, _, rfl, rfl, _, rfl, s, l, i, k, ls, ?_, S1.same (same_new hp _), hd1 rfl, Same.seq (same_new hp _) hl1, hls,
      fun v H2 kk x2 S2 dv k0 k3 ok => ⟨(by show 2 ≤ sizeLine; decide), fun t ht => ?_⟩⟩⟩
    · rcases r23 with h | h <;> rw [h] <;> rfl
    · show ([.ref s, .int (((k + 1 : Nat) : Int) - 1), .ref l] : List V) = _
      rw [show ((k + 1 : Nat) : Int) - 1 = (k : Int) by omega]
    · have ex : Ext s H (upd H2 t (.tup [.str (if r = 2 then "row" else "book"), v])) := x1.trans ((Ext.same (same_new hp _)).trans (x2.trans (Ext.new _ ht)))
      have dt : Dt K (upd H2 t (.tup [.str (if r = 2 then "row" else "book"), v])) (.ref t) (.tuple [.str (if r = 2 then "row" else "book"), .tuple (pyL kk)]) := ((Dts.nil.cons ((Same.keep (same_new ht _)).dt dv)).cons (.str _)).tup (SqT.of upd_same)
      have S3 := S2.same (same_new ht (.tup [.str (if r = 2 then "row" else "book"), v]))
      rcases r23 with h | h
      · rw [if_pos h] at ex dt S3 ⊢
        exact q _ _ (.row kk) ex S3 dt ⟨Nat.succ_pos _, k0, k3, ok⟩
      · rw [if_neg (by omega)] at ex dt S3 ⊢
        exact q _ _ (.book kk) ex S3 dt ⟨Nat.succ_pos _, k0, k3, ok⟩
  dsimp only [tNext, gName]
  show tAnd _ _ _ _ _
  refine and_pure (decide ((d : Int) > 0)) (decide (r ≥ 4)) (fun R h => ⟨_, rfl, _, _, rfl, rfl, _, rfl, h⟩) (fun _ R h => ⟨_, rfl, _, _, rfl, rfl, _, rfl, h⟩) (fun c1 c2 => iteT ?_) (fun _ => iteF last)
  have c1' : (d : Int) > 0 := of_decide_eq_true c1
  obtain ⟨k, rfl⟩ : ∃ k : Nat, d = k + 1 := ⟨d - 1, by omega⟩
  refine ⟨_, rfl, _, rfl, _, rfl, s, l, i, k, ls, rfl, S1, hd1 rfl, hl1, hls, fun v H2 fs x2 S2 dv f2 fld ok => ⟨(by show 2 ≤ sizeLine; decide), fun t ht => ?_⟩⟩
  exact q _ _ (.shape fs) (x1.trans (x2.trans (Ext.new _ ht))) (S2.same (same_new ht _)) (((Dts.nil.cons ((Same.keep (same_new ht _)).dt dv)).cons (.str _)).tup (SqT.of upd_same)) ⟨Nat.succ_pos _, f2, fld, ok⟩
end
end Sc
namespace Sc
open PySem PyProof.Rows L2
section
variable {P : Program} {w : World} {K : PySem.W.Frag} {mg : Str → Option Value} {base : Heap}
theorem scFields : FnScope ["_law_s", "_law_deep", "_law_letters", "_law_words", "_law_k", "_law_word"] ["_law_s", "_law_deep", "_law_letters"] (defScope sSomeFields) := ⟨rfl, rfl, rfl, by decide +kernel, rfl, by decide +kernel, by decide +kernel⟩
theorem c_fields {n lv : Nat} (T : Tx K mg) (lv1 : 1 ≤ lv) (CK : Cal P w K mg base lv "_law_a_kind" ["_law_s", "_law_deep", "_law_letters"] (spKind K n)) :
    Cal P w K mg base (lv + 1) "_law_some_fields" ["_law_s", "_law_deep", "_law_letters"] (spFields K n) := by
  have CT : Cal P w K mg base 1 "_law_taken" ["_law_s", "_law_most"] (spTaken K) := c_taken T
  have CW : Cal P w K mg base 1 "_law_a_word" ["_law_s", "_law_k"] (spWord K) := c_a_word T
  refine T.some_fields.ok scFields (fun vs H Q E h => ?_) (fun f cdv A outer s H vs Q E hr h => ?_)
  · obtain ⟨s, l, i, d, ls, rfl, _⟩ := h
    rfl
  obtain ⟨s, l, i, d, ls, rfl, S, dn, hl, hls, q⟩ := h
  have hr1 : Room 1 _ := hr.mono lv1
  refine ⟨_, pss_cons (ps_set (i := 3) scFields.nd rfl (Or.inl rfl) (pe_callB (cr_txSorted rfl) (by rfl) T.m_sorted (by decide +kernel) (pa_cons (pe_callTy (cr_txSet rfl) (by rfl) T.m_set (by decide +kernel) (pa_cons
        (pe_lc (own := [("_law_k", 4)]) (g := gName 4) (tt := tYes) rfl scFields.nd (pi_range1 rfl T.m_range (pa_cons (pe_op op_add pe_int (pe_cal CT hr1 (pa_cons (pv 0) (pa_cons pe_int pa_nil)))) pa_nil))
        (blkOk_by (N := ["_law_s", "_law_deep", "_law_letters", "_law_words", "_law_k", "_law_word"]) (sc := defScope sSomeFields) (by decide +kernel))
        (fun _ _ _ _ _ => pg_name (i := 4) scFields.nd rfl (Or.inl rfl)) (fun _ _ _ _ _ => pts_nil)
        (fun _ _ _ _ _ => pe_cal CW hr1 (pa_cons (pv 0) (pa_cons (pe_cal CT hr1 (pa_cons (pv 0) (pa_cons pe_int pa_nil))) pa_nil)))) pa_nil)) pa_nil)))
    (pss_one (ps_ret (pe_callTy call_tuple_of (by rfl) T.m_tuple (by decide +kernel) (pa_cons
      (pe_lc (own := [("_law_word", 5)]) (g := gName 5) (tt := tYes) rfl scFields.nd (pi_list (pv 3))
        (blkOk_by (N := ["_law_s", "_law_deep", "_law_letters", "_law_words", "_law_k", "_law_word"]) (sc := defScope sSomeFields) (by decide +kernel))
        (fun _ _ _ _ _ => pg_name (i := 5) scFields.nd rfl (Or.inl rfl)) (fun _ _ _ _ _ => pts_nil)
        (fun _ _ _ _ _ => pe_tup (pa_cons (pv 5) (pa_cons (pe_cal CK hr (pa_cons (pv 0) (pa_cons (pe_op op_sub (pv 1) pe_int) (pa_cons (pv 2) pa_nil)))) pa_nil)))) pa_nil)))), ?_⟩
  refine ⟨_, rfl, s, i, 2, rfl, S, by decide, by decide, fun r H1 r0 r2 x1 S1 => ⟨_, _, rfl, rfl, _, rfl, by omega, by omega, fun D hD => ?_⟩⟩
  have nds : D ≠ s := S1.ne hD
  refine lc_range (lo := 0) (n := (1 + r).toNat) (fun j H2 => Ext s H1 H2 ∧ IsS K H2 s i ∧ ∃ zs : List Str, H2 D = some (.lst (zs.map V.str)) ∧ (∀ z ∈ zs, Word z) ∧ zs.length = j)
    ⟨Ext.new _ hD, S1.same (same_new hD _), [], upd_same, (fun z hz => by cases hz), rfl⟩ ?_ ?_
  · rintro j H2 hj ⟨x2, S2, zs, hd, wd, lz⟩
    refine ⟨rfl, _, rfl, _, rfl, s, i, 3, rfl, S2, by decide, by decide, fun k H3 k0 k3 x3 S3 => ⟨s, i, k, rfl, S3, k0, fun H4 e4 => ⟨zs.map V.str, e4 _ _ (x3 _ _ nds hd), ?_, ?_⟩⟩⟩
    · rw [List.length_map]
      exact small1000 (by omega)
    · have x5 : Ext s H1 (upd H4 D (.lst (zs.map V.str ++ [.str (wordOf i k)]))) := ((x2.trans x3).trans (Ext.same e4)).over hD _
      obtain ⟨_, _, _, _, _, iok, _⟩ := id S1
      refine ⟨x5, S1.over (S3.same e4) x5 nds, zs ++ [wordOf i k], by rw [upd_same, List.map_append]; rfl, fun z hz => ?_, by rw [List.length_append, lz]; rfl⟩
      rcases List.mem_append.mp hz with h | h
      · exact wd z h
      · rw [List.mem_singleton.mp h]
        exact word_of iok k0
  rintro H2 ⟨x2, S2, zs, hd, wd, lz⟩
  have lz' : zs.length = (1 + r).toNat := lz
  refine ⟨D, zs, rfl, SqL.of hd, by omega, fun a m ha hm => ⟨a, _, m, rfl, upd_same, by omega, fun ys p so nd mem len hp => ?_⟩⟩
  generalize TxO _ a (fun y => decide (y ∈ zs)) m = o3 at hp ⊢
  have e3 := (same_new ha o3).trans (same_new hp (.lst (ys.map V.str)))
  have hp3 : (upd (upd H2 a o3) p (.lst (ys.map V.str))) p = _ := upd_same
  have x3 := x1.trans (x2.trans (Ext.same e3))
  have S3 := S2.same e3
  have wy : ∀ y ∈ ys, Word y := fun y hy => wd y (of_decide_eq_true ((mem y).mp hy))
  have y0 : ys ≠ [] := fun z => by
    cases zs with
    | nil => 
      have : 0 = (1 + r).toNat := lz'
      omega
    | cons z0 zs =>
      have h := (mem z0).mpr (decide_eq_true List.mem_cons_self)
      rw [z] at h
      cases h
  have y2 : ys.length ≤ 2 := by omega
  generalize (upd (upd H2 a o3) p (.lst (ys.map V.str))) = H3 at hp3 x3 S3 ⊢
  have hl3 : SqL K H3 l (ls.map V.str) := S.seq x3 hl
  refine ⟨_, rfl, p, rfl, ⟨_, SqL.of hp3⟩, fun F hF => ?_⟩
  have nfs : F ≠ s := S3.ne hF
  refine lc_list (K := K) (a := p) (xs := ys.map V.str) (fun j H4 => Ext s H3 H4 ∧ IsS K H4 s i ∧ ∃ vs fs, H4 F = some (.lst vs) ∧ Dts K H4 vs (pyF fs) ∧ okF ls d fs ∧ fs.map (·.1) = ys.take j)
    ⟨Ext.new _ hF, S3.same (same_new hF _), [], [], upd_same, .nil, trivial, rfl⟩ (fun j H4 _ h => S3.seq h.1 (SqL.of hp3)) ?_ ?_
  · rintro j x H4 hx ⟨x4, S4, us, fs, hf, dts, okf, efs⟩
    rw [List.getElem?_map] at hx
    obtain ⟨z, hz, rfl⟩ := Option.map_eq_some_iff.mp hx
    have hlen : fs.length ≤ 2 := by
      have e := congrArg List.length efs
      rw [List.length_map, List.length_take] at e
      omega
    refine ⟨rfl, _, rfl, _, rfl, _, rfl, _, _, rfl, rfl, _, rfl, s, l, i, d, ls, ?_, S4, dn, S3.seq x4 hl3, hls, fun v H5 kk x5 S5 dv k0 k3 ok => ⟨(by show 2 ≤ sizeLine; decide), fun t ht => ⟨us, (same_new ht _) _ _ (x5 _ _ nfs hf), ?_, ?_⟩⟩⟩
    · show ([.ref s, .int (((d + 1 : Nat) : Int) - 1), .ref l] : List V) = _
      rw [show ((d + 1 : Nat) : Int) - 1 = (d : Int) by omega]
    · rw [dts.1, pyF_map, List.length_map]
      exact small1000 (by omega)
    · have e6 := same_new ht (.tup [.str z, v])
      have x7 : Ext s H3 (upd (upd H5 t (.tup [.str z, v])) F (.lst (us ++ [.ref t]))) := ((x4.trans x5).trans (Ext.same e6)).over hF _
      have k7 : Keep K (upd H5 t (.tup [.str z, v])) (upd (upd H5 t (.tup [.str z, v])) F (.lst (us ++ [.ref t]))) := Keep.upd (e6 _ _ (x5 _ _ nfs hf)) trivial _
      refine ⟨x7, S3.over (S5.same e6) x7 nfs, us ++ [.ref t], fs ++ [(z, kk)], upd_same, ?_, okF_snoc (wy z (List.mem_of_getElem? hz)) k0 k3 ok okf, ?_⟩
      · rw [pyF_map, List.map_append, ← pyF_map]
        refine (k7.dts ((Same.keep e6).dts ((S4.keep x5).dts dts))).snoc (k7.dt ?_)
        exact ((Dts.nil.cons ((Same.keep e6).dt dv)).cons (.str _)).tup (SqT.of upd_same)
      · rw [List.map_append, efs, List.take_add_one, hz]
        rfl
  rintro H4 ⟨x4, S4, us, fs, hf, dts, okf, efs⟩
  rw [List.length_map, List.take_length] at efs
  refine ⟨F, us, rfl, .inl ⟨SqL.of hf, fun t ht => ?_⟩⟩
  have e5 := same_new ht (.tup us)
  have fl2 : fs.length ≤ 2 := by
    have e := congrArg List.length efs
    rw [List.length_map] at e
    omega
  refine q _ _ fs (x3.trans (x4.trans (Ext.same e5))) (S4.same e5) (((Same.keep e5).dts dts).tup (SqT.of upd_same)) fl2 ?_ okf
  rw [efs]
  exact ⟨y0, by omega, nd, so, wy⟩
end
end Sc
namespace Sc
open PySem PyProof.Rows L2
section
variable {P : Program} {w : World} {K : PySem.W.Frag} {mg : Str → Option Value} {base : Heap}
theorem c_kinds (T : Tx K mg) : ∀ n : Nat, Cal P w K mg base (3 * n + 1) "_law_a_kind" ["_law_s", "_law_deep", "_law_letters"] (spKind K n)
  | 0 => (T.a_kind.never fun vs H Q E ⟨_, _, _, _, _, _, _, h, _⟩ => absurd h (Nat.not_lt_zero _)).mono (Nat.zero_le _)
  | n + 1 => by
    have ih := c_kinds T n
    have cf := c_fields T (by omega) ih
    have cc := c_choice T (lv := 3 * n + 1 + 1) (by omega) (ih.mono (by omega)) cf
    exact c_kind T (by omega) cc
end
end Sc
namespace Sc
open PySem PySem.Spec PyProof.Rows L2
/-! ### _law_title, _law_leaf, _law_around -/
def titleOf (i : Inf) (k : Int) : Str := ("q" : Str) ++ cutS (wordOf i 22) none (some 6) ++ signAt (97 + k.toNat)
theorem abc12_at : ∀ n : Nat, n < 12 → ("abcdefghijkl" : Str).cps[n]? = some (97 + n) := by decide +kernel
theorem cut6 (z : Str) : (cutS z none (some 6)).cps.toList = z.cps.toList.take (min 6 z.length) := by
  show (((z.cps.toList.drop 0).take (HT.sIx z.length z.length (some 6) - 0)).toArray).toList = _
  rw [List.drop_zero, Nat.sub_zero]
  rfl
theorem title_list (i : Inf) (k : Int) : (titleOf i k).cps.toList = [113] ++ (wordOf i 22).cps.toList.take (min 6 (wordOf i 22).length) ++ [97 + k.toNat] := by
  unfold titleOf
  rw [app_list, app_list, cut6]
  rfl
theorem title_word {i : Inf} (ok : i.Ok) {k : Int} (k0 : 0 ≤ k) (k12 : k < 12) : Word (titleOf i k) := by
  have w := word_of ok (k := 22) (by decide)
  unfold Word
  rw [title_list]
  refine ⟨by simp, ?_, fun c hc => ?_⟩
  · rw [List.length_append, List.length_append, List.length_take]
    show 1 + _ + 1 ≤ 8
    omega
  · rcases List.mem_append.mp hc with h | h
    · rcases List.mem_append.mp h with h | h
      · rw [List.mem_singleton.mp h]; decide
      · exact w.2.2 c (List.mem_of_mem_take h)
    · rw [List.mem_singleton.mp h]; omega
theorem lookup_mem {α : Type} : ∀ {l : List (Str × α)} {z : Str}, (l.lookup z).isSome = true → z ∈ l.map (·.1)
  | [], _, h => by cases h
  | (a, b) :: l, z, h => by
    rw [List.lookup_cons] at h
    cases e : z == a with
    | true => rw [eq_of_beq e]; exact List.mem_cons_self
    | false => rw [e] at h; exact List.mem_cons_of_mem _ (lookup_mem h)
/-- no drawn word is a word of parts, where none is talked -/
theorem form_noq : ∀ z ∈ formTab.map (·.1), (113 : Nat) ∉ z.cps.toList := by decide +kernel
theorem title_form (i : Inf) (k : Int) : formTab.lookup (titleOf i k) = none := by
  cases e : formTab.lookup (titleOf i k) with
  | none => rfl
  | some fm =>
    have m := form_noq _ (lookup_mem (z := titleOf i k) (by rw [e]; rfl))
    rw [title_list] at m
    exact absurd (List.mem_append.mpr (.inl (List.mem_append.mpr (.inl List.mem_cons_self)))) m
theorem title_inj {i : Inf} {a b : Int} (a0 : 0 ≤ a) (b0 : 0 ≤ b) (h : titleOf i a = titleOf i b) : a = b := by
  have e := congrArg (fun z : Str => z.cps.toList) h
  simp only [title_list] at e
  have e2 := List.append_cancel_left e
  injection e2 with e3
  omega
theorem len1 {α : Type} {l : List α} (h : l.length = 1) : ∃ a, l = [a] := by
  match l, h with
  | [a], _ => exact ⟨a, rfl⟩
theorem len2 {α : Type} {l : List α} (h : l.length = 2) : ∃ a b, l = [a, b] := by
  match l, h with
  | [a, b], _ => exact ⟨a, b, rfl⟩
theorem len3 {α : Type} {l : List α} (h : l.length = 3) : ∃ a b c, l = [a, b, c] := by
  match l, h with
  | [a, b, c], _ => exact ⟨a, b, c, rfl⟩
theorem len4 {α : Type} {l : List α} (h : l.length = 4) : ∃ a b c d, l = [a, b, c, d] := by
  match l, h with
  | [a, b, c, d], _ => exact ⟨a, b, c, d, rfl⟩
section
variable {P : Program} {w : World} {K : PySem.W.Frag} {mg : Str → Option Value} {base : Heap}
def spTitle (K : PySem.W.Frag) : Sp := fun vs H Q _ => ∃ (s : Addr) (i : Inf) (k : Int), vs = [.ref s, .int k] ∧ IsS K H s i ∧ 0 ≤ k ∧ k < 12 ∧ ∀ (H' : Hp), Same H H' → Q (.str (titleOf i k)) H'
theorem scTitle : FnScope ["_law_s", "_law_k"] ["_law_s", "_law_k"] (defScope sTitle) := ⟨rfl, rfl, rfl, by decide +kernel, rfl, by decide +kernel, by decide +kernel⟩
theorem c_title (T : Tx K mg) : Cal P w K mg base 2 "_law_title" ["_law_s", "_law_k"] (spTitle K) := by
  have CW : Cal P w K mg base 1 "_law_a_word" ["_law_s", "_law_k"] (spWord K) := c_a_word T
  refine T.title.ok scTitle (fun vs H Q E h => ?_) (fun f cdv A outer s H vs Q E hr h => ?_)
  · obtain ⟨s, i, k, rfl, _⟩ := h
    rfl
  obtain ⟨s, i, k, rfl, S, k0, k12, q⟩ := h
  refine ⟨_, pss_one (ps_ret (pe_op op_add_str (pe_op op_add_str pe_str (pe_slice sl_str (pe_cal CW hr (pa_cons (pv 0) (pa_cons pe_int pa_nil))) po_none (po_some pe_int))) (pe_item_str pe_str (pv 1) (fun _ _ => rfl)))), ?_⟩
  obtain ⟨_, _, _, _, _, iok, _⟩ := id S
  have w8 := (word_of iok (k := 22) (by decide)).2.1
  refine ⟨_, rfl, s, i, 22, rfl, S, by decide, fun H1 e1 => ⟨6, rfl, _, rfl, sizeOk (by rw [len_list]; omega), _, _, rfl, rfl, ?_, _, rfl, _, _, 97 + k.toNat, rfl, rfl, k0, by omega, ?_, abc12_at _ (by omega), _, _, rfl, rfl, ?_, ?_⟩⟩
  · have := cutS_length (wordOf i 22) none (some 6)
    have e := len_list (wordOf i 22)
    show 1 + (cutS (wordOf i 22) none (some 6)).length ≤ sizeLine
    exact sizeOk (by omega)
  · show k < ((12 : Nat) : Int)
    omega
  · have := cutS_length (wordOf i 22) none (some 6)
    have e := len_list (wordOf i 22)
    rw [len_list, app_list, List.length_append, ← len_list, ← len_list]
    show 1 + (cutS (wordOf i 22) none (some 6)).length + 1 ≤ sizeLine
    exact sizeOk (by omega)
  · exact q H1 e1
end
end Sc
namespace Sc
open PySem PyProof.Rows L2
section
variable {P : Program} {w : World} {K : PySem.W.Frag} {mg : Str → Option Value} {base : Heap}
theorem scText : FnScope ["_law_s", "_law_some", "_law_k"] ["_law_s"] (defScope sAText) := ⟨rfl, rfl, rfl, by decide +kernel, rfl, by decide +kernel, by decide +kernel⟩
def signs : Str := (" !\"#$&'()*+,-./0123456789:;<=>?@ABCDEFGHIJKLMNOPQRSTUVWXYZ[\\]^_`" : Str) ++ ("abcdefghijklmnopqrstuvwxyz{|}~" : Str)
theorem signs_len : signs.length = 94 := by decide +kernel
theorem signs_at : ∀ n : Nat, n < 94 → ∃ c, signs.cps[n]? = some c ∧ 32 ≤ c ∧ c ≤ 126 ∧ c ≠ 37 := by
  have h : ∀ n : Nat, n < 94 → (signs.cps[n]?.any fun c => decide (32 ≤ c ∧ c ≤ 126 ∧ c ≠ 37)) = true := by decide +kernel
  intro n hn
  have e := h n hn
  cases z : signs.cps[n]? with
  | none => rw [z] at e; cases e
  | some c => rw [z] at e; exact ⟨c, rfl, of_decide_eq_true e⟩
theorem c_text (T : Tx K mg) : Cal P w K mg base 2 "_law_a_text" ["_law_s"] (spText K) := by
  have CT : Cal P w K mg base 1 "_law_taken" ["_law_s", "_law_most"] (spTaken K) := c_taken T
  refine T.a_text.ok scText (fun vs H Q E h => ?_) (fun f cdv A outer s H vs Q E hr h => ?_)
  · obtain ⟨s, i, rfl, _⟩ := h
    rfl
  obtain ⟨s, i, rfl, S, q⟩ := h
  refine ⟨_, pss_cons (ps_set (i := 1) scText.nd rfl (Or.inr rfl) pe_str)
    (pss_cons (ps_set (i := 1) scText.nd rfl (Or.inr rfl) (pe_op op_add_str (pv 1) pe_str))
    (pss_one (ps_ret (pe_join pe_str (pe_lc (own := [("_law_k", 2)]) (g := gName 2) (tt := tYes) rfl scText.nd (pi_range1 rfl T.m_range (pa_cons (pe_cal CT hr (pa_cons (pv 0) (pa_cons pe_int pa_nil))) pa_nil))
        (blkOk_by (N := ["_law_s", "_law_some", "_law_k"]) (sc := defScope sAText) (by decide +kernel))
        (fun _ _ _ _ _ => pg_name (i := 2) scText.nd rfl (Or.inl rfl)) (fun _ _ _ _ _ => pts_nil)
        (fun _ _ _ _ _ => pe_item_str (pv 1) (pe_cal CT hr (pa_cons (pv 0) (pa_cons pe_int pa_nil))) (fun _ _ => rfl))))))), ?_⟩
  refine ⟨_, rfl, _, _, rfl, rfl, (by decide +kernel), ⟨_, rfl⟩, _, rfl, s, i, 4, rfl, S, by decide, by decide, fun r H1 r0 r4 x1 S1 => ⟨_, rfl, by omega, by omega, fun D hD => ?_⟩⟩
  have nds : D ≠ s := S1.ne hD
  refine lc_range (lo := 0) (n := r.toNat) (fun j H2 => Ext s H1 H2 ∧ IsS K H2 s i ∧ ∃ cs : List Nat, H2 D = some (.lst (cs.map fun c => V.str (signAt c))) ∧ (∀ c ∈ cs, 32 ≤ c ∧ c ≤ 126 ∧ c ≠ 37) ∧ cs.length = j)
    ⟨Ext.new _ hD, S1.same (same_new hD _), [], upd_same, (fun z hz => by cases hz), rfl⟩ ?_ ?_
  · rintro j H2 hj ⟨x2, S2, cs, hd, wd, lz⟩
    refine ⟨rfl, _, rfl, _, rfl, s, i, 94, rfl, S2, by decide, by decide, fun k H3 k0 k3 x3 S3 => ?_⟩
    obtain ⟨c, hc, hb⟩ := signs_at k.toNat (by omega)
    refine ⟨signs, k, c, rfl, rfl, k0, by omega, by rw [signs_len]; exact k3, hc, cs.map (fun c => V.str (signAt c)), x3 _ _ nds hd, ?_, ?_⟩
    · rw [List.length_map]
      exact small1000 (by omega)
    · have x5 : Ext s H1 (upd H3 D (.lst (cs.map (fun c => V.str (signAt c)) ++ [.str (signAt c)]))) := (x2.trans x3).over hD _
      refine ⟨x5, S1.over S3 x5 nds, cs ++ [c], by rw [upd_same, List.map_append]; rfl, fun z hz => ?_, by rw [List.length_append, lz]; rfl⟩
      rcases List.mem_append.mp hz with h | h
      · exact wd z h
      · rw [List.mem_singleton.mp h]
        exact hb
  rintro H2 ⟨x2, S2, cs, hd, wd, lz⟩
  have lz' : cs.length = r.toNat := lz
  have hj : ∀ cs : List Nat, TL.joinL [] (cs.map fun c => [c]) = cs := fun cs => by
    induction cs with
    | nil => rfl
    | cons c cs ih =>
      cases cs with
      | nil => rfl
      | cons c' cs => rw [List.map_cons, joinL_cons _ _ _ (by simp), ih]; rfl
  have ej : (Txt.join Str.empty (cs.map signAt)).cps.toList = cs := by
    have e := congrArg TL.tl (TL.join_eq Str.empty (cs.map signAt))
    rw [TL.tl_join] at e
    refine e.trans ?_
    rw [List.map_map]
    exact hj cs
  refine ⟨Str.empty, D, cs.map signAt, rfl, rfl, .inl (SqL.of (by rw [List.map_map]; exact hd)), ?_, ?_⟩
  · have s1 : ∀ cs : List Nat, ((cs.map signAt).map (·.length)).sum = cs.length := fun cs => by
      induction cs with
      | nil => rfl
      | cons c cs ih => rw [List.map_cons, List.map_cons, List.sum_cons, ih, List.length_cons]; show 1 + _ = _; omega
    rw [s1]
    show _ + _ * 0 ≤ _
    omega
  · exact q _ _ (x1.trans x2) S2 ⟨by rw [ej]; omega, by rw [ej]; exact wd⟩
end
end Sc
namespace Sc
open PySem PyProof.Rows L2
section
variable {P : Program} {w : World} {K : PySem.W.Frag} {mg : Str → Option Value} {base : Heap}
def spAmiss (K : PySem.W.Frag) : Sp := fun vs H Q _ => ∃ (s : Addr) (i : Inf), vs = [.ref s] ∧ IsS K H s i ∧ 0 ≤ i.odd ∧ i.odd ≤ 40 ∧ ∀ (b : Bool) (H' : Hp), Ext s H H' → IsS K H' s i → Q (.bl b) H'
theorem scAmiss : FnScope ["_law_s"] ["_law_s"] (defScope sAmiss) := ⟨rfl, rfl, rfl, by decide +kernel, rfl, by decide +kernel, by decide +kernel⟩
theorem c_amiss (T : Tx K mg) : Cal P w K mg base 2 "_law_amiss" ["_law_s"] (spAmiss K) := by
  have CT : Cal P w K mg base 1 "_law_taken" ["_law_s", "_law_most"] (spTaken K) := c_taken T
  refine T.amiss.ok scAmiss (fun vs H Q E h => ?_) (fun f cdv A outer s0 H vs Q E hr h => ?_)
  · obtain ⟨s, i, rfl, _⟩ := h
    rfl
  obtain ⟨s, i, rfl, S, o0, o40, q⟩ := h
  have hu := hu_of hr
  obtain ⟨ns, g, hs, hc, hl, iok, gok⟩ := id S
  refine ⟨_, pss_one (ps_ret (pe_and (pe_cmpR op_gt (pe_dget hu (pv 0) pe_str (fun _ _ => rfl)) pe_int (nomark _)) (pe_one (pe_cmpR op_eq (pe_cal CT hr (pa_cons (pv 0) (pa_cons (pe_dget hu (pv 0) pe_str (fun _ _ => rfl)) pa_nil))) pe_int (nomark _))))), ?_⟩
  refine ⟨_, rfl, s, .int i.odd, rfl, gS hs rfl, _, _, rfl, rfl, _, rfl, ?_⟩
  by_cases c : (0 : Int) < i.odd
  · rw [if_pos (decide_eq_true c)]
    refine ⟨_, rfl, _, rfl, s, .int i.odd, rfl, gS hs rfl, s, i, i.odd, rfl, S, c, Nat.lt_of_le_of_lt (show i.odd.natAbs ≤ 40 by omega) (by decide), fun r H1 r0 r7 x1 S1 => ?_⟩
    exact ⟨rfl, q _ _ x1 S1⟩
  · rw [if_neg (by rw [decide_eq_false c]; exact Bool.false_ne_true)]
    exact q _ _ (Ext.refl s H) S
end
end Sc
namespace Sc
open PySem PySem.Spec PyProof.Rows L2
def catL : List Str → Str
  | [] => Str.empty
  | x :: r => x ++ catL r
def kvFa : List (Key × V) := [(.inr "name", .str "x"), (.inr "norow", .str "k"), (.inr "nobook", .str "k"), (.inr "size", .str "e"), (.inr "get", .str "ef"), (.inr "plus", .str "ee"), (.inr "minus", .str "ee")]
def kvFb : List (Key × V) := [(.inr "join", .str "ee"), (.inr "push", .str "ee"), (.inr "at", .str "eee"), (.inr "put", .str "eee"), (.inr "look", .str "eee"), (.inr "if", .str "eeee"), (.inr "let", .str "wel")]
def kvFc : List (Key × V) := [(.inr "each", .str "wel"), (.inr "fold", .str "wewkel"), (.inr "is", .str "xaee"), (.inr "has", .str "xfee")]
def kvFd : List (Key × V) := kvFa ++ kvFb
theorem form_at : ∀ q ∈ frmL, (valV kvFd (.inr q.1)).getD ((valV kvFc (.inr q.1)).getD (.str "")) = .str (catL q.2) := by
  intro q hq
  simp only [frmL, List.mem_cons, List.not_mem_nil, or_false] at hq
  rcases hq with h | h | h | h | h | h | h | h | h | h | h | h | h | h | h | h | h | h <;> subst h <;> kernel_rfl
section
variable {P : Program} {w : World} {K : PySem.W.Frag} {mg : Str → Option Value} {base : Heap}
def spFormL (K : PySem.W.Frag) : Sp := fun vs H Q _ => ∃ (w : Str) (sg : List Str), vs = [.str w] ∧ (w, sg) ∈ frmL ∧ ∀ H', Same H H' → Q (.str (catL sg)) H'
theorem scFormL : FnScope ["_law_word", "_law_forms", "_law_more"] ["_law_word"] (defScope sFormOf) := ⟨rfl, rfl, rfl, by decide +kernel, rfl, by decide +kernel, by decide +kernel⟩
theorem c_l_form (T : Tx K mg) : Cal P w K mg base 1 "_law_form_of" ["_law_word"] (spFormL K) := by
  refine T.form_of.ok scFormL (fun vs H Q E h => ?_) (fun f cdv A outer s0 H vs Q E hr h => ?_)
  · obtain ⟨w, sg, rfl, _⟩ := h
    rfl
  obtain ⟨w, sg, rfl, hw, q⟩ := h
  have hu := hu_of hr
  refine ⟨_, pss_cons (ps_set (i := 1) scFormL.nd rfl (Or.inl rfl) (pe_disp (pps_cons pe_str pe_str (pps_cons pe_str pe_str (pps_cons pe_str pe_str (pps_cons pe_str pe_str (pps_cons pe_str pe_str (pps_cons pe_str pe_str (pps_cons pe_str pe_str pps_nil))))))) (by rfl) (by rfl) (fun z => by cases z) (by decide)))
    (pss_cons (ps_set (i := 2) scFormL.nd rfl (Or.inl rfl) (pe_disp (pps_cons pe_str pe_str (pps_cons pe_str pe_str (pps_cons pe_str pe_str (pps_cons pe_str pe_str (pps_cons pe_str pe_str (pps_cons pe_str pe_str (pps_cons pe_str pe_str pps_nil))))))) (by rfl) (by rfl) (fun z => by cases z) (by decide)))
    (pss_cons (ps_expr (pe_bm PySem.F.plainAttrs_dict PySem.F.slot_dict_update PySem.F.type_dict_update mt_update (pv 1) (pa_cons (pv 2) pa_nil)))
    (pss_one (ps_ret (pe_dget2 hu (pv 1) (pv 0) (pe_dget2 hu (pe_disp (pps_cons pe_str pe_str (pps_cons pe_str pe_str (pps_cons pe_str pe_str (pps_cons pe_str pe_str pps_nil)))) (by rfl) (by rfl) (fun z => by cases z) (by decide)) (pv 0) pe_str ⟨rfl, rfl, rfl, rfl⟩) ⟨rfl, rfl, rfl, rfl⟩))))), ?_⟩
  refine fun A1 hA1 => ⟨upd_same, kvFa, rfl, (by show 7 ≤ 15; decide), ?_⟩
  have m1 : mergeK [] kvFa = kvFa := by kernel_rfl
  rw [m1]
  have g1 : Same H (upd (upd H A1 (.dK [])) A1 (.dK kvFa)) := fun b o h => by rw [upd_ne (ne_of_none h hA1), upd_ne (ne_of_none h hA1)]; exact h
  have d1 : (upd (upd H A1 (.dK [])) A1 (.dK kvFa)) A1 = some (.dK kvFa) := upd_same
  generalize (upd (upd H A1 (.dK [])) A1 (.dK kvFa)) = H1 at d1 g1 ⊢
  dsimp only [gName]
  refine fun A2 hA2 => ⟨upd_same, kvFb, rfl, (by show 7 ≤ 15; decide), ?_⟩
  have m2 : mergeK [] kvFb = kvFb := by kernel_rfl
  rw [m2]
  have n12 : A1 ≠ A2 := ne_of_none d1 hA2
  have g2 : Same H (upd (upd H1 A2 (.dK [])) A2 (.dK kvFb)) := fun b o h => by rw [upd_ne (ne_of_none (g1 _ _ h) hA2), upd_ne (ne_of_none (g1 _ _ h) hA2)]; exact g1 _ _ h
  have d2 : (upd (upd H1 A2 (.dK [])) A2 (.dK kvFb)) A2 = some (.dK kvFb) := upd_same
  have d1' : (upd (upd H1 A2 (.dK [])) A2 (.dK kvFb)) A1 = some (.dK kvFa) := by rw [upd_ne n12, upd_ne n12]; exact d1
  generalize (upd (upd H1 A2 (.dK [])) A2 (.dK kvFb)) = H2 at d2 d1' g2 ⊢
  dsimp only [gName]
  refine ⟨_, rfl, .inr (.inr (.inl ⟨rfl, .inl ⟨_, d1'⟩⟩)), _, rfl, A1, A2, kvFa, kvFb, rfl, rfl, n12, d1', d2, (by show 14 ≤ sizeLine; decide), ?_⟩
  have m3 : mergeK kvFa kvFb = kvFd := by kernel_rfl
  rw [m3]
  have g3 : Same H (upd H2 A1 (.dK kvFd)) := fun b o h => by rw [upd_ne (ne_of_none h hA1)]; exact g2 _ _ h
  have d3 : (upd H2 A1 (.dK kvFd)) A1 = some (.dK kvFd) := upd_same
  generalize (upd H2 A1 (.dK kvFd)) = H3 at d3 g3 ⊢
  dsimp only [gName]
  refine ⟨_, rfl, A1, rfl, .inl ⟨_, .inl d3⟩, _, rfl, ?_⟩
  refine fun A4 hA4 => ⟨upd_same, kvFc, rfl, (by show 4 ≤ 15; decide), ?_⟩
  have m4 : mergeK [] kvFc = kvFc := by kernel_rfl
  rw [m4]
  have g4 : Same H3 (upd (upd H3 A4 (.dK [])) A4 (.dK kvFc)) := fun b o h => by rw [upd_ne (ne_of_none h hA4), upd_ne (ne_of_none h hA4)]; exact h
  have d4 : (upd (upd H3 A4 (.dK [])) A4 (.dK kvFc)) A4 = some (.dK kvFc) := upd_same
  generalize (upd (upd H3 A4 (.dK [])) A4 (.dK kvFc)) = H4 at d4 g4 ⊢
  refine ⟨A4, rfl, .inl ⟨_, .inl d4⟩, _, rfl, _, DGet.k (k := Sum.inr w) d4, _, DGet.k (k := Sum.inr w) (g4 _ _ d3), ?_⟩
  have z := form_at _ hw
  rw [show (valV kvFd (.inr w)).getD ((valV kvFc (.inr w)).getD (.str "")) = .str (catL sg) from z]
  exact q _ (g3.trans g4)
end
end Sc
namespace Sc
open PySem PySem.Spec PyProof.Rows L2
/-! ### written constants -/
mutual
def tupD : PyData → Bool
  | .tuple ds => tupAll ds
  | .list _ => false
  | .dict _ => false
  | _ => true
def tupAll : List PyData → Bool
  | [] => true
  | d :: ds => tupD d && tupAll ds
end
mutual
theorem Dp.dtT {K : PySem.W.Frag} {H : Hp} : ∀ {v : V} {d : PyData}, Dp K H v d → tupD d = true → Dt K H v d
  | _, _, .non, _ => .non
  | _, _, .bl b, _ => .bl b
  | _, _, .int i, _ => .int i
  | _, _, .str x, _ => .str x
  | _, _, .lst _ _, t => by unfold tupD at t; cases t
  | _, _, .tup h a, t => (Dp.dtsT a (by unfold tupD at t; exact t)).tup h
theorem Dp.dtsT {K : PySem.W.Frag} {H : Hp} : ∀ {vs : List V} {ds : List PyData}, DpAll K H vs ds → tupAll ds = true → Dts K H vs ds
  | _, _, .nil, _ => .nil
  | _, _, .cons h t, e => by
    simp only [tupAll, Bool.and_eq_true] at e
    exact (Dp.dtsT t e.2).cons (Dp.dtT h e.1)
end
def tK0 (K : PySem.W.Frag) (d : PyData) : TE := fun _ H Q => ∀ v H', Same H H' → Dp K H' v d → Q v H'
def tK0s (K : PySem.W.Frag) (ds : List PyData) : TA := fun _ H Q => ∀ vs H', Same H H' → DpAll K H' vs ds → Q vs H'
def tK0L (K : PySem.W.Frag) (ds : List PyData) : TE := fun _ H Q => ∀ l vs H', Same H H' → H l = none → H' l = some (.lst vs) → DpAll K H' vs ds → Q (.ref l) H'
section
variable {X : Cx} {K : PySem.W.Frag} {d : PyData} {ds : List PyData} {e : Expr} {es : List Expr}
theorem k0_str {x : Str} {j : Nat} {pos : Pos} : PE X (.Constant (.str x) j pos) (tK0 K (.str x)) := pe_imp pe_str fun _ _ _ q => q _ _ (Same.refl _) (.str _)
theorem k0_int {x : Int} {j : Nat} {pos : Pos} : PE X (.Constant (.int x) j pos) (tK0 K (.int x)) := pe_imp pe_int fun _ _ _ q => q _ _ (Same.refl _) (.int _)
theorem k0s_nil : PA X [] (tK0s K []) := pa_imp pa_nil fun _ _ _ q => q _ _ (Same.refl _) .nil
theorem k0s_cons (h : PE X e (tK0 K d)) (r : PA X es (tK0s K ds)) (hs : starEach (e :: es) X.env = (false, eval e X.env) :: starEach es X.env := by rfl) : PA X (e :: es) (tK0s K (d :: ds)) :=
  pa_imp (pa_cons h r hs) fun _ _ _ q => fun v H1 e1 d1 => fun vs H2 e2 d2 => q _ _ (Same.trans e1 e2) (.cons (KeepL.dp (Same.keepL e2) d1) d2)
theorem k0_tup {x1 : Nat} {pos : Pos} (h : PA X es (tK0s K ds)) (hl : ds.length ≤ 1000) : PE X (.Tuple es x1 pos) (tK0 K (.tuple ds)) :=
  pe_imp (pe_tup h) fun _ _ _ q => fun vs H1 e1 d1 => ⟨sizeOk (by rw [DpAll.len d1]; exact Nat.le_trans hl (by decide)), fun p hp => q _ _ (Same.trans e1 (same_new hp _)) (.tup (SqT.of upd_same) (KeepL.dps (Same.keepL (same_new hp _)) d1))⟩
theorem k0_lst {pos : Pos} (h : PA X es (tK0s K ds)) (hl : ds.length ≤ 1000) : PE X (.List es pos) (tK0L K ds) :=
  pe_imp (pe_lst h) fun _ _ _ q => fun vs H1 e1 d1 => ⟨sizeOk (by rw [DpAll.len d1]; exact Nat.le_trans hl (by decide)), fun p hp => q _ _ _ (Same.trans e1 (same_new hp _)) (Same.free e1 hp) upd_same (KeepL.dps (Same.keepL (same_new hp _)) d1)⟩
end
/-- the state, with letters -/
structure St2 (K : PySem.W.Frag) (H : Hp) (s : Addr) (i : Inf) (la : Addr) (ls : List Str) : Prop where
  S : IsS K H s i
  o0 : 0 ≤ i.odd
  o40 : i.odd ≤ 40
  nt : i.talk = 0
  x : i.x = .one (.ref la) ∨ ∃ b, i.x = .two (.ref la) b
  l : SqL K H la (ls.map V.str)
  few : ls.length ≤ 4
  ok : ∀ l ∈ ls, Lett l
theorem St2.ext {K : PySem.W.Frag} {H H' : Hp} {s : Addr} {i : Inf} {la : Addr} {ls : List Str} (h : St2 K H s i la ls) (e : Ext s H H') (S : IsS K H' s i) : St2 K H' s i la ls := ⟨S, h.o0, h.o40, h.nt, h.x, h.S.seq e h.l, h.few, h.ok⟩
theorem st_letters {i : Inf} {m : Mv} {la : Addr} (h : i.x = .one (.ref la) ∨ ∃ b, i.x = .two (.ref la) b) : valV (stD i m) (.inr "letters") = some (.ref la) := by
  obtain ⟨_, _, _, _, _, _, _, x⟩ := i
  rcases h with h | ⟨b, h⟩ <;> (have h : x = _ := h; subst h; rfl)
def lkBad : List PyData := [.tuple [], .tuple [.tuple [.str "row", .tuple []]], .tuple [.tuple [.str "shape", .tuple []]], .str "text", .tuple [.tuple [.str "number", .int 1]]]
theorem lkBad_tup : ∀ d ∈ lkBad, tupD d = true := by
  intro d hd
  simp only [lkBad, List.mem_cons, List.not_mem_nil, or_false] at hd
  rcases hd with h | h | h | h | h <;> subst h <;> rfl
theorem lkBad_ok : ∀ d ∈ lkBad, Lk d := by
  intro d hd
  simp only [lkBad, List.mem_cons, List.not_mem_nil, or_false] at hd
  rcases hd with h | h | h | h | h <;> subst h
  · exact .e0
  · exact .e1
  · exact .e2
  · exact .e3
  · exact .e4
section
variable {P : Program} {w : World} {K : PySem.W.Frag} {mg : Str → Option Value} {base : Heap}
def spLk (K : PySem.W.Frag) : Sp := fun vs H Q _ => ∃ (s : Addr) (i : Inf) (la : Addr) (ls : List Str), vs = [.ref s] ∧ St2 K H s i la ls ∧ ∀ (v : V) (d : PyData) (H' : Hp), Ext s H H' → IsS K H' s i → Dt K H' v d → Lk d → Q v H'
theorem scLk : FnScope ["_law_s", "_law_wrong", "_law_letters", "_law_k"] ["_law_s"] (defScope sLooseKind) := ⟨rfl, rfl, rfl, by decide +kernel, rfl, by decide +kernel, by decide +kernel⟩
theorem c_lk (T : Tx K mg) : Cal P w K mg base 8 "_law_loose_kind" ["_law_s"] (spLk K) := by
  have CT : Cal P w K mg base 1 "_law_taken" ["_law_s", "_law_most"] (spTaken K) := c_taken T
  have CA : Cal P w K mg base 2 "_law_amiss" ["_law_s"] (spAmiss K) := c_amiss T
  have CW : Cal P w K mg base 1 "_law_a_word" ["_law_s", "_law_k"] (spWord K) := c_a_word T
  have CK : Cal P w K mg base 7 "_law_a_kind" ["_law_s", "_law_deep", "_law_letters"] (spKind K 2) := c_kinds T 2
  refine T.loose_kind.ok scLk (fun vs H Q E h => ?_) (fun f cdv A outer s0 H vs Q E hr h => ?_)
  · obtain ⟨s, i, la, ls, rfl, _⟩ := h
    rfl
  obtain ⟨s, i, la, ls, rfl, W, q⟩ := h
  have hu := hu_of hr
  have r1 : Room 1 _ := hr.mono (show 1 ≤ 7 by decide)
  have r2 : Room 2 _ := hr.mono (show 2 ≤ 7 by decide)
  refine ⟨_, pss_cons (ps_if (pt_val (pe_cal CA r2 (pa_cons (pv 0) pa_nil)))
      (pss_cons (ps_set (i := 1) scLk.nd rfl (Or.inl rfl) (k0_lst (K := K) (ds := lkBad) (k0s_cons (k0_tup k0s_nil (by decide)) (k0s_cons (k0_tup (k0s_cons (k0_tup (k0s_cons k0_str (k0s_cons (k0_tup k0s_nil (by decide)) k0s_nil)) (by decide)) k0s_nil) (by decide))
          (k0s_cons (k0_tup (k0s_cons (k0_tup (k0s_cons k0_str (k0s_cons (k0_tup k0s_nil (by decide)) k0s_nil)) (by decide)) k0s_nil) (by decide)) (k0s_cons k0_str (k0s_cons (k0_tup (k0s_cons (k0_tup (k0s_cons k0_str (k0s_cons k0_int k0s_nil)) (by decide)) k0s_nil) (by decide)) k0s_nil))))) (by decide)))
        (pss_one (ps_ret (pe_ix ix_list (pv 1) (pe_cal CT r1 (pa_cons (pv 0) (pa_cons pe_int pa_nil))) (fun _ _ => rfl)))))
      pss_nil) <|
    pss_cons (ps_setLc (i := 2) (own := [("_law_k", 3)]) (g := gName 3) (tt := tYes) rfl scLk.nd rfl rfl (sw_true rfl rfl rfl (by decide +kernel)) (pi_range1 rfl T.m_range (pa_cons pe_int pa_nil))
        (blkOk_by (N := ["_law_s", "_law_wrong", "_law_letters", "_law_k"]) (sc := defScope sLooseKind) (by decide +kernel))
        (fun _ _ _ _ _ => pg_name (i := 3) scLk.nd rfl (Or.inl rfl)) (fun _ _ _ _ _ => pts_nil)
        (fun _ _ _ _ _ => pe_upper (pe_cal CW r1 (pa_cons (pv 0) (pa_cons (pv 3) pa_nil))))) <|
    pss_one (ps_ret (pe_cal CK hr (pa_cons (pv 0) (pa_cons pe_int (pa_cons (pe_ifExp (pt_val (pe_cal CA r2 (pa_cons (pv 0) pa_nil))) (pv 2) (pe_dget hu (pv 0) pe_str (fun _ _ => rfl))) pa_nil))))), ?_⟩
  obtain ⟨ns, g, hs, hc, hl, iok, gok⟩ := id W.S
  refine ⟨_, rfl, s, i, rfl, W.S, W.o0, W.o40, fun b H1 x1 S1 => ⟨b, rfl, ?_⟩⟩
  have W1 := W.ext x1 S1
  cases b with
  | true =>
    refine iteT ?_
    dsimp only [gName]
    refine fun l vs H2 e2 hln hl2 dp2 => ?_
    have nls : l ≠ s := S1.ne hln
    have S2 := S1.same e2
    dsimp only [gName]
    refine ⟨_, rfl, _, rfl, s, i, 5, rfl, S2, by decide, by decide, fun r H3 r0 r5 x3 S3 => ?_⟩
    have lt : r.toNat < lkBad.length := by show r.toNat < 5; omega
    have lv : r.toNat < vs.length := by rw [DpAll.len dp2]; exact lt
    obtain ⟨d, hd, dv⟩ := DpAll.get dp2 (List.getElem?_eq_getElem lv)
    refine ⟨l, vs, r, vs[r.toNat], rfl, rfl, SqL.of (x3 _ _ nls hl2), at_of (j := r.toNat) (by omega) (List.getElem?_eq_getElem lv), ?_⟩
    exact q _ d _ (x1.trans ((Ext.same e2).trans x3)) S3 (Dp.dtT (KeepL.dp (S2.keepL x3) dv) (lkBad_tup _ (List.mem_of_getElem? hd))) (lkBad_ok _ (List.mem_of_getElem? hd))
  | false =>
    refine iteF ?_
    dsimp only [gName]
    refine ⟨_, rfl, by decide, by decide, fun D hD => ?_⟩
    have nds : D ≠ s := S1.ne hD
    obtain ⟨_, _, _, _, _, iok1, _⟩ := id S1
    refine lc_range (lo := 0) (n := 3) (fun j H3 => Ext s H1 H3 ∧ IsS K H3 s i ∧ ∃ zs : List Str, H3 D = some (.lst (zs.map V.str)) ∧ (∀ z ∈ zs, Lett z) ∧ zs.length = j)
      ⟨Ext.new _ hD, S1.same (same_new hD _), [], upd_same, (fun z hz => by cases hz), rfl⟩ ?_ ?_
    · rintro j H3 hj ⟨x3, S3, zs, hd, wd, lz⟩
      refine ⟨rfl, _, rfl, _, rfl, s, i, 0 + (j : Int), rfl, S3, by omega, fun H4 e4 => ?_⟩
      have w8 := (word_of iok1 (k := 0 + (j : Int)) (by omega)).2.1
      refine ⟨⟨_, rfl⟩, _, rfl, rfl, by rw [len_list]; omega, zs.map V.str, e4 _ _ hd, ?_, ?_⟩
      · rw [List.length_map]
        exact small1000 (by omega)
      · have x5 : Ext s H1 (upd H4 D (.lst (zs.map V.str ++ [.str (Txt.upper (wordOf i (0 + (j : Int))))]))) := (x3.trans (Ext.same e4)).over hD _
        refine ⟨x5, ?_, zs ++ [Txt.upper (wordOf i (0 + (j : Int)))], by rw [upd_same, List.map_append]; rfl, fun z hz => ?_, by rw [List.length_append, lz]; rfl⟩
        · exact S1.over (S3.same e4) x5 nds
        rcases List.mem_append.mp hz with h | h
        · exact wd z h
        · rw [List.mem_singleton.mp h]
          exact upper_word (word_of iok1 (by omega))
    rintro H3 ⟨x3, S3, zs, hd3, wd, lz⟩
    have W3 := W1.ext x3 S3
    dsimp only [gName]
    refine ⟨_, rfl, _, rfl, s, i, rfl, S3, W.o0, W.o40, fun b2 H4 x4 S4 => ⟨b2, rfl, ?_⟩⟩
    have W4 := W3.ext x4 S4
    have fin : ∀ (l : Addr) (zs : List Str), SqL K H4 l (zs.map V.str) → zs.length ≤ 4 → (∀ z ∈ zs, Lett z) → _ := fun l zs a1 a2 a3 => (⟨s, l, i, 1, zs, rfl, S4, by decide, a1, by omega, fun v H5 k x5 S5 dk k0 k3 okk => q v _ H5 (x1.trans (x3.trans (x4.trans x5))) S5 dk (.ok a3 k0 k3 okk)⟩ : spKind K 2 [.ref s, .int (1 : Nat), .ref l] H4 _ _)
    cases b2 with
    | true => exact iteT ⟨_, rfl, fin D zs (SqL.of (x4 _ _ nds hd3)) (by omega) wd⟩
    | false =>
      obtain ⟨_, g4, hs4, _⟩ := id S4
      exact iteF ⟨_, rfl, s, _, rfl, gS hs4 (st_letters W.x), fin la ls W4.l W4.few W4.ok⟩
end
end Sc
namespace Sc
open PySem PySem.Spec PyProof.Rows L2
/-! ### kinds that are none, as the law finds them -/
def kInner (w : Str) (r : List PyData) : List PyData := if w = ("row" : Str) ∨ w = ("book" : Str) then r.take 1 else if w = ("shape" : Str) then (match r with | d :: _ => sndsD d | [] => []) else []
def cB (rec : PyData → Bool) (ls : List Str) : PyData → Bool
  | .tuple (.str w :: r) => (decide (w = ("shape" : Str)) && (kInner w r).isEmpty) || ((decide (w = ("letter" : Str)) && (match r with | .str l :: _ => !decide (l ∈ ls) | _ => true)) || (decide (w = ("number" : Str)) && !r.isEmpty)) || (kInner w r).any rec
  | _ => true
def kB : Nat → List Str → PyData → Bool
  | 0, _, _ => true
  | n + 1, ls, .tuple ds => ds.isEmpty || ds.any (cB (kB n ls) ls)
  | _ + 1, _, _ => true
theorem gK_tup (ls : List Str) (n : Nat) (ds : List PyData) : gK ls (n + 1) (.tuple ds) = (!ds.isEmpty && ds.all (gCh ls (gK ls n))) := rfl
theorem kB_tup (n : Nat) (ls : List Str) (ds : List PyData) : kB (n + 1) ls (.tuple ds) = (ds.isEmpty || ds.any (cB (kB n ls) ls)) := rfl
theorem all_any {α : Type} {l : List α} {f g : α → Bool} (h : ∀ a ∈ l, f a = !g a) : l.all f = !l.any g := by
  induction l with
  | nil => rfl
  | cons a l ih =>
    rw [List.all_cons, List.any_cons, h a List.mem_cons_self, ih fun b hb => h b (List.mem_cons_of_mem _ hb), Bool.not_or]
theorem kb_kind {ls' ls : List Str} (hl : ∀ l ∈ ls', Lett l) : ∀ (n : Nat),
    (∀ {c : Ch} {m : Nat}, okC ls' n c → n ≤ m → gCh ls (gK ls m) (pyC c) = !cB (kB m ls) ls (pyC c)) ∧ (∀ {k : List Ch} {m : Nat}, okL ls' n k → n ≤ m → gK ls (m + 1) (.tuple (pyL k)) = !kB (m + 1) ls (.tuple (pyL k))) := by
  have lst : ∀ n, (∀ {c : Ch} {m : Nat}, okC ls' n c → n ≤ m → gCh ls (gK ls m) (pyC c) = !cB (kB m ls) ls (pyC c)) → ∀ {k : List Ch} {m : Nat}, okL ls' n k → n ≤ m → gK ls (m + 1) (.tuple (pyL k)) = !kB (m + 1) ls (.tuple (pyL k)) := by
    intro n hc k m h hm
    rw [gK_tup, kB_tup, Bool.not_or, all_any fun d hd => ?_]
    rw [pyL_map] at hd
    obtain ⟨c, mc, rfl⟩ := List.mem_map.mp hd
    exact hc (okL_mem' h mc) hm
  have flat : ∀ {c : Ch} {n m : Nat}, (c = .num ∨ c = .txt ∨ ∃ l, c = .letter l ∧ l ∈ ls') → gCh ls (gK ls m) (pyC c) = !cB (kB m ls) ls (pyC c) := by
    rintro c n m (h | h | ⟨l, h, ml⟩) <;> subst h
    · rw [pyC]; kernel_rfl
    · rw [pyC]; kernel_rfl
    · rw [pyC, gCh_two', if_neg (by decide +kernel), if_neg (by decide +kernel), if_pos rfl]
      show (isLettD (.str l) && decide (l ∈ ls)) = !((decide (("letter" : Str) = ("shape" : Str)) && _) || ((decide (("letter" : Str) = ("letter" : Str)) && !decide (l ∈ ls)) || (decide (("letter" : Str) = ("number" : Str)) && _)) || (kInner "letter" [.str l]).any _)
      rw [show isLettD (.str l) = true from decide_eq_true (hl l ml), show kInner "letter" [.str l] = [] by kernel_rfl, show decide (("letter" : Str) = ("shape" : Str)) = false by decide +kernel, show decide (("letter" : Str) = ("letter" : Str)) = true by decide +kernel, show decide (("letter" : Str) = ("number" : Str)) = false by decide +kernel]
      cases decide (l ∈ ls) <;> rfl
  have rows : ∀ {w : Str} {k : List Ch} {n m : Nat}, (w = ("row" : Str) ∨ w = ("book" : Str)) → gK ls m (.tuple (pyL k)) = !kB m ls (.tuple (pyL k)) → gCh ls (gK ls m) (.tuple [.str w, .tuple (pyL k)]) = !cB (kB m ls) ls (.tuple [.str w, .tuple (pyL k)]) := by
    intro w k n m hw e
    rw [gCh_two', if_pos hw, e]
    show _ = !((decide (w = ("shape" : Str)) && _) || ((decide (w = ("letter" : Str)) && _) || (decide (w = ("number" : Str)) && _)) || (kInner w [.tuple (pyL k)]).any _)
    have n1 : decide (w = ("shape" : Str)) = false := by rcases hw with h | h <;> rw [h] <;> decide +kernel
    have n2 : decide (w = ("letter" : Str)) = false := by rcases hw with h | h <;> rw [h] <;> decide +kernel
    have n3 : decide (w = ("number" : Str)) = false := by rcases hw with h | h <;> rw [h] <;> decide +kernel
    rw [n1, n2, n3, show kInner w [.tuple (pyL k)] = [.tuple (pyL k)] by unfold kInner; rw [if_pos hw]; rfl]
    show _ = !(kB m ls (.tuple (pyL k)) || false)
    rw [Bool.or_false]
  intro n
  induction n with
  | zero =>
    have hc : ∀ {c : Ch} {m : Nat}, okC ls' 0 c → 0 ≤ m → gCh ls (gK ls m) (pyC c) = !cB (kB m ls) ls (pyC c) := by
      intro c m h _
      cases c with
      | num => exact flat (n := 0) (.inl rfl)
      | txt => exact flat (n := 0) (.inr (.inl rfl))
      | row k => exact absurd h.1 (Nat.lt_irrefl _)
      | book k => exact absurd h.1 (Nat.lt_irrefl _)
      | shape fs => exact absurd h.1 (Nat.lt_irrefl _)
      | letter l => exact flat (n := 0) (.inr (.inr ⟨l, rfl, by unfold okC at h; exact h⟩))
      | cut _ _ => unfold okC at h; exact h.elim
      | any _ => unfold okC at h; exact h.elim
      | wth _ => unfold okC at h; exact h.elim
    exact ⟨hc, lst 0 hc⟩
  | succ n ih =>
    have hc : ∀ {c : Ch} {m : Nat}, okC ls' (n + 1) c → n + 1 ≤ m → gCh ls (gK ls m) (pyC c) = !cB (kB m ls) ls (pyC c) := by
      intro c m h hm
      obtain ⟨m, rfl⟩ : ∃ m', m = m' + 1 := ⟨m - 1, by omega⟩
      cases c with
      | num => exact flat (n := 0) (.inl rfl)
      | txt => exact flat (n := 0) (.inr (.inl rfl))
      | row k => rw [pyC]; exact rows (n := n) (.inl rfl) (ih.2 h.2.2.2 (by omega))
      | book k => rw [pyC]; exact rows (n := n) (.inr rfl) (ih.2 h.2.2.2 (by omega))
      | shape fs =>
        obtain ⟨_, f2, fl, okf⟩ := h
        obtain ⟨f0, f26, fnd, fso, fw⟩ := fl
        rw [pyC, gCh_two', if_neg (by decide +kernel), if_pos rfl]
        show (fldD (.tuple (pyF fs)) && (pyF fs).all (gPr (gK ls (m + 1)))) = !((decide (("shape" : Str) = ("shape" : Str)) && (kInner "shape" [.tuple (pyF fs)]).isEmpty) || ((decide (("shape" : Str) = ("letter" : Str)) && _) || (decide (("shape" : Str) = ("number" : Str)) && _)) || (kInner "shape" [.tuple (pyF fs)]).any (kB (m + 1) ls))
        have fd : fldD (.tuple (pyF fs)) = true := by
          show (!(pyF fs).isEmpty && (pyF fs).all pairD && ascB ((pyF fs).map nameD)) = true
          rw [pyF_map, Bool.and_eq_true, Bool.and_eq_true]
          refine ⟨⟨by cases fs with | nil => exact absurd rfl f0 | cons _ _ => rfl, ?_⟩, ?_⟩
          · rw [List.all_map, List.all_eq_true]
            intro p _
            rfl
          · rw [List.map_map]
            show ascB (fs.map (·.1)) = true
            unfold ascB
            rw [fso, decide_eq_true fnd]
            rfl
        have ki : kInner "shape" [.tuple (pyF fs)] = fs.map fun q => .tuple (pyL q.2) := by
          unfold kInner
          rw [if_neg (by decide +kernel), if_pos rfl]
          show (pyF fs).map sndP = _
          rw [pyF_map, List.map_map]
          rfl
        rw [fd, ki, show decide (("shape" : Str) = ("shape" : Str)) = true by decide +kernel, show decide (("shape" : Str) = ("letter" : Str)) = false by decide +kernel, show decide (("shape" : Str) = ("number" : Str)) = false by decide +kernel,
          show (fs.map fun q => PyData.tuple (pyL q.2)).isEmpty = false by cases fs with | nil => exact absurd rfl f0 | cons _ _ => rfl]
        show (pyF fs).all (gPr (gK ls (m + 1))) = !((fs.map fun q => PyData.tuple (pyL q.2)).any (kB (m + 1) ls))
        rw [pyF_map, List.all_map, List.any_map]
        refine all_any fun q hq => ?_
        show (isWordD (.str q.1) && gK ls (m + 1) (.tuple (pyL q.2))) = !kB (m + 1) ls (.tuple (pyL q.2))
        rw [show isWordD (.str q.1) = true from decide_eq_true (fw q.1 (List.mem_map_of_mem hq)), Bool.true_and]
        exact ih.2 (okF_mem' okf hq).2.2.2 (by omega)
      | letter l => exact flat (n := 0) (.inr (.inr ⟨l, rfl, by unfold okC at h; exact h⟩))
      | cut _ _ => unfold okC at h; exact h.elim
      | any _ => unfold okC at h; exact h.elim
      | wth _ => unfold okC at h; exact h.elim
    exact ⟨hc, lst (n + 1) hc⟩
theorem kb_lk {ls : List Str} {d : PyData} (h : Lk d) : kB 9 ls d = !gK ls 9 d := by
  cases h with
  | e0 => kernel_rfl
  | e1 => kernel_rfl
  | e2 => kernel_rfl
  | e3 => kernel_rfl
  | e4 => kernel_rfl
  | ok hl k0 k3 h =>
    rw [(kb_kind hl 1).2 (m := 8) h (by decide), Bool.not_not]
end Sc
namespace Sc
open PySem PySem.Spec PyProof.Rows L2
/-- a choice as it may be drawn, over what stands within -/
def CdR (p : PyData → Prop) (w : Str) (r : List PyData) : Prop :=
  ((w = ("row" : Str) ∨ w = ("book" : Str)) ∧ ∃ k, r = [k] ∧ p k) ∨ (w = ("shape" : Str) ∧ ∃ qs : List (Str × PyData), r = [.tuple (qs.map mkP)] ∧ qs.length ≤ 9 ∧ ∀ q ∈ qs, p q.2) ∨ (w = ("letter" : Str) ∧ ∃ l, r = [.str l]) ∨
    (w = ("number" : Str) ∧ (r = [] ∨ r = [.int 1])) ∨ (w = ("text" : Str) ∧ r = [])
def Kd : Nat → PyData → Prop
  | 0, _ => False
  | n + 1, d => (∃ z, d = .str z) ∨ ∃ ds, d = .tuple ds ∧ ds.length ≤ 9 ∧ ∀ c ∈ ds, ∃ w r, c = .tuple (.str w :: r) ∧ CdR (Kd n) w r
theorem Kd.mono : ∀ {n m : Nat} {d : PyData}, Kd n d → n ≤ m → Kd m d
  | 0, _, _, h, _ => h.elim
  | n + 1, m, d, h, hm => by
    obtain ⟨m, rfl⟩ : ∃ m', m = m' + 1 := ⟨m - 1, by omega⟩
    rcases h with h | ⟨ds, e, l, al⟩
    · exact .inl h
    · refine .inr ⟨ds, e, l, fun c hc => ?_⟩
      obtain ⟨w, r, e, h⟩ := al c hc
      refine ⟨w, r, e, ?_⟩
      rcases h with ⟨hw, k, e, h⟩ | ⟨hw, qs, e, l, h⟩ | h | h | h
      · exact .inl ⟨hw, k, e, h.mono (by omega)⟩
      · exact .inr (.inl ⟨hw, qs, e, l, fun q hq => (h q hq).mono (by omega)⟩)
      · exact .inr (.inr (.inl h))
      · exact .inr (.inr (.inr (.inl h)))
      · exact .inr (.inr (.inr (.inr h)))
theorem kd_L {ls : List Str} : ∀ (n : Nat) {k : List Ch}, k.length ≤ 3 → okL ls n k → Kd (n + 1) (.tuple (pyL k)) := by
  intro n
  induction n with
  | zero =>
    intro k k3 h
    refine .inr ⟨_, rfl, by rw [pyL_map, List.length_map]; omega, fun c hc => ?_⟩
    rw [pyL_map] at hc
    obtain ⟨x, hx, rfl⟩ := List.mem_map.mp hc
    have ox := okL_mem' h hx
    cases x with
    | num => exact ⟨"number", [], by rw [pyC], .inr (.inr (.inr (.inl ⟨rfl, .inl rfl⟩)))⟩
    | txt => exact ⟨"text", [], by rw [pyC], .inr (.inr (.inr (.inr ⟨rfl, rfl⟩)))⟩
    | row k => exact absurd ox.1 (Nat.lt_irrefl _)
    | book k => exact absurd ox.1 (Nat.lt_irrefl _)
    | shape fs => exact absurd ox.1 (Nat.lt_irrefl _)
    | letter l => exact ⟨"letter", [.str l], by rw [pyC], .inr (.inr (.inl ⟨rfl, l, rfl⟩))⟩
    | cut _ _ => unfold okC at ox; exact ox.elim
    | any _ => unfold okC at ox; exact ox.elim
    | wth _ => unfold okC at ox; exact ox.elim
  | succ n ih =>
    intro k k3 h
    refine .inr ⟨_, rfl, by rw [pyL_map, List.length_map]; omega, fun c hc => ?_⟩
    rw [pyL_map] at hc
    obtain ⟨x, hx, rfl⟩ := List.mem_map.mp hc
    have ox := okL_mem' h hx
    cases x with
    | num => exact ⟨"number", [], by rw [pyC], .inr (.inr (.inr (.inl ⟨rfl, .inl rfl⟩)))⟩
    | txt => exact ⟨"text", [], by rw [pyC], .inr (.inr (.inr (.inr ⟨rfl, rfl⟩)))⟩
    | row k => exact ⟨"row", [.tuple (pyL k)], by rw [pyC], .inl ⟨.inl rfl, _, rfl, ih ox.2.2.1 ox.2.2.2⟩⟩
    | book k => exact ⟨"book", [.tuple (pyL k)], by rw [pyC], .inl ⟨.inr rfl, _, rfl, ih ox.2.2.1 ox.2.2.2⟩⟩
    | shape fs =>
      obtain ⟨_, f2, fl, okf⟩ := ox
      refine ⟨"shape", [.tuple (pyF fs)], by rw [pyC], .inr (.inl ⟨rfl, fs.map fun q => (q.1, .tuple (pyL q.2)), ?_, by rw [List.length_map]; omega, fun q hq => ?_⟩)⟩
      · rw [pyF_map, List.map_map]
        rfl
      · obtain ⟨p, hp, rfl⟩ := List.mem_map.mp hq
        exact ih (okF_mem' okf hp).2.2.1 (okF_mem' okf hp).2.2.2
    | letter l => exact ⟨"letter", [.str l], by rw [pyC], .inr (.inr (.inl ⟨rfl, l, rfl⟩))⟩
    | cut _ _ => unfold okC at ox; exact ox.elim
    | any _ => unfold okC at ox; exact ox.elim
    | wth _ => unfold okC at ox; exact ox.elim
theorem kd_lk {d : PyData} (h : Lk d) : Kd 2 d := by
  cases h with
  | e0 => exact .inr ⟨[], rfl, by decide, fun c hc => by cases hc⟩
  | e1 => exact .inr ⟨_, rfl, by decide, fun c hc => ⟨"row", [.tuple []], List.mem_singleton.mp hc, .inl ⟨.inl rfl, _, rfl, .inr ⟨[], rfl, by decide, fun c hc => by cases hc⟩⟩⟩⟩
  | e2 => exact .inr ⟨_, rfl, by decide, fun c hc => ⟨"shape", [.tuple []], List.mem_singleton.mp hc, .inr (.inl ⟨rfl, [], rfl, by decide, fun q hq => by cases hq⟩)⟩⟩
  | e3 => exact .inl ⟨_, rfl⟩
  | e4 => exact .inr ⟨_, rfl, by decide, fun c hc => ⟨"number", [.int 1], List.mem_singleton.mp hc, .inr (.inr (.inr (.inl ⟨rfl, .inr rfl⟩)))⟩⟩
  | ok hl k0 k3 h => exact kd_L 1 k3 h
end Sc
namespace Sc
open PySem PySem.Spec PyProof.Rows L2
section
variable {P : Program} {w : World} {K : PySem.W.Frag} {mg : Str → Option Value} {base : Heap}
def spKb (K : PySem.W.Frag) (n : Nat) : Sp := fun vs H Q _ => ∃ (v : V) (d : PyData) (la : Addr) (ls : List Str) (m : Nat), vs = [v, .ref la] ∧ Dp K H v d ∧ Kd n d ∧ SqL K H la (ls.map V.str) ∧ n ≤ m ∧ ∀ H', Same H H' → Q (.bl (kB m ls d)) H'
abbrev nKb : List Str := ["_law_kind", "_law_letters", "_law_choice", "_law_inner", "_law_pair", "_law_one"]
theorem scKb : FnScope nKb ["_law_kind", "_law_letters"] (defScope sKindBad) := ⟨rfl, rfl, rfl, by decide +kernel, rfl, by decide +kernel, by decide +kernel⟩
theorem c_kb_step {n lv : Nat} (T : Tx K mg) (CI : Cal P w K mg base lv "_law_kind_bad" ["_law_kind", "_law_letters"] (spKb K n)) : Cal P w K mg base (lv + 1) "_law_kind_bad" ["_law_kind", "_law_letters"] (spKb K (n + 1)) := by
  refine T.kind_bad.ok scKb (fun vs H Q E h => ?_) (fun f cdv A outer s0 H vs Q E hr h => ?_)
  · obtain ⟨v, d, la, ls, m, rfl, _⟩ := h
    rfl
  obtain ⟨v, d, la, ls, m, rfl, hd, kd, hl, hm, q⟩ := h
  have hu := hr.units
  refine ⟨_, pss_cons (ps_if (PW.pt (pw_or (pt_not (pt_val (pe_callB call_isi (by rfl) T.m_isinstance boot_isinstance (pa_cons (pv 0) (pa_cons (pe_bltn (v := .ty "tuple") (by rfl) T.m_tuple boot_tuple rfl) pa_nil)))))
        (pw_or1 (pt_cmpR op_eq (pe_callB call_len_seq (by rfl) T.m_len PySem.boot_len (pa_cons (pv 0) pa_nil)) pe_int (nomark _))))) (pss_one (ps_ret pe_bl)) pss_nil)
    (pss_cons (ps_for PassesOwn.never rfl (pi_tup (pv 0)) (pg_name (i := 2) scKb.nd rfl (Or.inl rfl))
      (pss_cons (ps_set (i := 3) scKb.nd rfl (Or.inl rfl) (pe_ifExp (PW.pt (pw_or (pt_cmpR op_eq (pe_ix ix_tup (pv 2) pe_int (fun _ _ => rfl)) pe_str (nomark _)) (pw_or1 (pt_cmpR op_eq (pe_ix ix_tup (pv 2) pe_int (fun _ _ => rfl)) pe_str (nomark _)))))
          (pe_lst (pa_cons (pe_ix ix_tup (pv 2) pe_int (fun _ _ => rfl)) pa_nil)) (pe_lst pa_nil)))
      (pss_cons (ps_if (pt_cmpR op_eq (pe_ix ix_tup (pv 2) pe_int (fun _ _ => rfl)) pe_str (nomark _))
          (pss_cons (ps_setLc (i := 3) (own := [("_law_pair", 4)]) (g := gName 4) (tt := tYes) rfl scKb.nd rfl rfl (sw_true rfl rfl rfl (by decide +kernel)) (pi_tup (pe_ix ix_tup (pv 2) pe_int (fun _ _ => rfl))) (blkOk_by (N := nKb) (sc := defScope sKindBad) (by decide +kernel))
            (fun _ _ _ _ _ => pg_name (i := 4) scKb.nd rfl (Or.inl rfl)) (fun _ _ _ _ _ => pts_nil) (fun _ _ _ _ _ => pe_ix (ix_tupK K) (pv 4) pe_int (fun _ _ => rfl)))
          (pss_one (ps_if (pt_cmpR op_eq (pe_callB call_len_seq (by rfl) T.m_len PySem.boot_len (pa_cons (pv 3) pa_nil)) pe_int (nomark _)) (pss_one (ps_ret pe_bl)) pss_nil))) pss_nil)
      (pss_cons (ps_if (PW.pt (pw_or (PW.pt (pw_and (pt_cmpR op_eq (pe_ix ix_tup (pv 2) pe_int (fun _ _ => rfl)) pe_str (nomark _)) (pw_and1 (pt_cmpR op_notIn_seq (pe_ix ix_tup (pv 2) pe_int (fun _ _ => rfl)) (pv 1) (by rfl)))))
          (pw_or1 (PW.pt (pw_and (pt_cmpR op_eq (pe_ix ix_tup (pv 2) pe_int (fun _ _ => rfl)) pe_str (nomark _)) (pw_and1 (pt_cmpR op_gt (pe_callB call_len_seq (by rfl) T.m_len PySem.boot_len (pa_cons (pv 2) pa_nil)) pe_int (nomark _))))))))
          (pss_one (ps_ret pe_bl)) pss_nil)
      (pss_one (ps_if (pt_val (pe_callB (cr_any rfl) (by rfl) T.m_any (by decide +kernel) (pa_cons (pe_lc (own := [("_law_one", 5)]) (g := gName 5) (tt := tYes) rfl scKb.nd (pi_list (pv 3)) (blkOk_by (N := nKb) (sc := defScope sKindBad) (by decide +kernel))
          (fun _ _ _ _ _ => pg_name (i := 5) scKb.nd rfl (Or.inl rfl)) (fun _ _ _ _ _ => pts_nil) (fun _ _ _ _ _ => pe_cal CI hr (pa_cons (pv 5) (pa_cons (pv 1) pa_nil)))) pa_nil)))
          (pss_one (ps_ret pe_bl)) pss_nil))))))
    (pss_one (ps_ret pe_bl))), ?_⟩
  obtain ⟨m, rfl⟩ : ∃ m', m = m' + 1 := ⟨m - 1, by omega⟩
  dsimp only [gName]
  show tOr _ _ _ _ _
  have ty := Dp.ty hd
  have it := isTup hd
  rcases kd with ⟨z, rfl⟩ | ⟨ds, rfl, l9, al⟩
  · refine or_pure true true (fun R h => ⟨_, rfl, _, _, _, _, _, rfl, .ty _, ty, kit_ty it, _, rfl, h⟩) (fun e => by cases e) (fun _ => q _ (Same.refl _)) (fun e => by cases e)
  have hd0 := hd
  cases hd with
  | tup ht hds =>
  rename_i a vs
  have lv := DpAll.len hds
  refine or_pure false (decide (vs.length = 0)) (fun R h => ⟨_, rfl, _, _, _, _, _, rfl, .ty _, ty, kit_ty it, _, rfl, h⟩) (fun _ R h => ⟨_, rfl, a, vs, rfl, .inr ht, rfl, _, rfl, ?_⟩) (fun h => ?_) (fun _ h => ?_)
  · rw [eqV_int, decide_eq_decide.mpr (show ((vs.length : Nat) : Int) = 0 ↔ vs.length = 0 by omega)]
    exact h
  · have z : vs.length = 0 := of_decide_eq_true (h.elim (fun z => by cases z) id)
    have z2 : ds = [] := List.length_eq_zero_iff.mp (lv.symm.trans z)
    have fin := q H (Same.refl _)
    rw [z2] at fin
    exact fin
  have n0 : vs.length ≠ 0 := of_decide_eq_false h
  have d0 : ds.isEmpty = false := by
    cases ds with
    | nil => exact absurd lv n0
    | cons _ _ => rfl
  have yes : ∀ (H' : Hp) (c : PyData), Same H H' → c ∈ ds → cB (kB m ls) ls c = true → Q (.bl true) H' := fun H' c e mc hc => by
    have fin := q H' e
    rw [kB_tup, show ds.any (cB (kB m ls) ls) = true from List.any_eq_true.mpr ⟨c, mc, hc⟩, Bool.or_true] at fin
    exact fin
  refine ⟨_, rfl, a, rfl, ⟨_, ht⟩, ?_⟩
  refine for_tup (K := K) (a := a) (xs := vs) (fun j σ2 H2 => Same H H2 ∧ (∃ o2 o3, σ2 = [some (.ref a), some (.ref la), o2, o3, none, none]) ∧ (ds.take j).any (cB (kB m ls) ls) = false)
    ⟨Same.refl _, ⟨_, _, rfl⟩, rfl⟩ (fun j σ2 H2 _ h => Same.tup h.1 ht) ?_ ?_
  · rintro j x σ2 H2 hx ⟨e2, ⟨o2, o3, rfl⟩, hp⟩
    obtain ⟨c, hc1, hc2⟩ := DpAll.get hds hx
    have mc := List.mem_of_getElem? hc1
    have dc := KeepL.dp (Same.keepL e2) hc2
    obtain ⟨w, r, rfl, cd⟩ := al c mc
    have next : ∀ (H3 : Hp) (o2 o3 : Option V), Same H2 H3 → cB (kB m ls) ls (.tuple (.str w :: r)) = false →
        Same H H3 ∧ (∃ p2 p3, ([some (.ref a), some (.ref la), o2, o3, none, none] : L2.St) = [some (.ref a), some (.ref la), p2, p3, none, none]) ∧ (ds.take (j + 1)).any (cB (kB m ls) ls) = false := fun H3 o2 o3 e3 hb =>
      ⟨Same.trans e2 e3, ⟨_, _, rfl⟩, by rw [List.take_add_one, hc1, List.any_append, hp]; simp [hb]⟩
    cases dc with
    | tup hct hcd =>
    rename_i ca cs
    cases hcd with
    | cons w1 rest =>
    rename_i cr
    cases w1
    dsimp only [gName]
    have hl2 := Same.seq e2 hl
    have ix0 : ∀ {H3 : Hp}, Same H2 H3 → SqT K H3 ca (.str w :: cr) := fun e => Same.tup e hct
    rcases cd with ⟨hw, k, rfl, kk⟩ | ⟨hw, qs, rfl, l9, kk⟩ | ⟨hw, l, rfl⟩ | ⟨hw, hr2⟩ | ⟨hw, rfl⟩
    · obtain ⟨vk, rfl, dk⟩ : ∃ vk, cr = [vk] ∧ Dp K H2 vk k := by
        cases rest with
        | cons a b => cases b with
          | nil => exact ⟨_, rfl, a⟩
      have ws : decide (V.str w = V.str "shape") = false ∧ decide (V.str w = V.str "letter") = false ∧ decide (V.str w = V.str "number") = false := by
        rcases hw with h | h <;> subst h <;> (refine ⟨?_, ?_, ?_⟩ <;> kernel_rfl)
      have wr : decide (V.str w = V.str "row") = true ∨ decide (V.str w = V.str "book") = true := by
        rcases hw with h | h <;> subst h
        · exact .inl (by kernel_rfl)
        · exact .inr (by kernel_rfl)
      have cbk : cB (kB m ls) ls (.tuple [.str w, k]) = kB m ls k := by
        show ((decide (w = ("shape" : Str)) && (kInner w [k]).isEmpty) || ((decide (w = ("letter" : Str)) && _) || (decide (w = ("number" : Str)) && _)) || (kInner w [k]).any (kB m ls)) = kB m ls k
        have n1 : decide (w = ("shape" : Str)) = false := by rcases hw with h | h <;> rw [h] <;> decide +kernel
        have n2 : decide (w = ("letter" : Str)) = false := by rcases hw with h | h <;> rw [h] <;> decide +kernel
        have n3 : decide (w = ("number" : Str)) = false := by rcases hw with h | h <;> rw [h] <;> decide +kernel
        rw [n1, n2, n3, show kInner w [k] = [k] by unfold kInner; rw [if_pos hw]; rfl]
        show (kB m ls k || false) = kB m ls k
        rw [Bool.or_false]
      show tOr _ _ _ _ _
      refine or_pure (decide (V.str w = V.str "row")) (decide (V.str w = V.str "book")) (fun R h => ⟨_, rfl, ca, _, _, _, rfl, rfl, hct, at_of (j := 0) rfl rfl, rfl, _, rfl, h⟩) (fun _ R h => ⟨_, rfl, ca, _, _, _, rfl, rfl, hct, at_of (j := 0) rfl rfl, rfl, _, rfl, h⟩) (fun _ => iteT ?_) (fun h1 h2 => absurd wr (by rw [h1, h2]; rintro (z | z) <;> cases z))
      refine ⟨_, rfl, ca, _, _, vk, rfl, rfl, hct, at_of (j := 1) rfl rfl, sizeOk (by show 1 ≤ _; decide), fun D hD => ?_⟩
      dsimp only [gName]
      have e3 := same_new hD (.lst [vk])
      have hD3 : (upd H2 D (.lst [vk])) D = some (.lst [vk]) := upd_same
      have dk3 := KeepL.dp (Same.keepL (K := K) e3) dk
      generalize (upd H2 D (.lst [vk])) = H3 at e3 hD3 dk3 ⊢
      refine ⟨_, rfl, ca, _, _, _, rfl, rfl, ix0 e3, at_of (j := 0) rfl rfl, rfl, _, rfl, ?_⟩
      refine iteNo (by rw [ws.1]; exact Bool.false_ne_true) ?_
      dsimp only [gName, tNext]
      show tOr _ _ _ _ _
      refine or_pure false false (fun R h => ?_) (fun _ R h => ?_) (fun h => by rcases h with h | h <;> cases h) (fun _ _ => iteF ?_)
      · show tAnd _ _ _ _ _
        refine and_pure (decide (V.str w = V.str "letter")) true (fun R2 h2 => ⟨_, rfl, ca, _, _, _, rfl, rfl, ix0 e3, at_of (j := 0) rfl rfl, rfl, _, rfl, h2⟩) (fun e => absurd e (by rw [ws.2.1]; exact Bool.false_ne_true)) (fun e => absurd e (by rw [ws.2.1]; exact Bool.false_ne_true)) (fun _ => h)
      · show tAnd _ _ _ _ _
        refine and_pure (decide (V.str w = V.str "number")) true (fun R2 h2 => ⟨_, rfl, ca, _, _, _, rfl, rfl, ix0 e3, at_of (j := 0) rfl rfl, rfl, _, rfl, h2⟩) (fun e => absurd e (by rw [ws.2.2]; exact Bool.false_ne_true)) (fun e => absurd e (by rw [ws.2.2]; exact Bool.false_ne_true)) (fun _ => h)
      have hl3 := Same.seq e3 hl2
      refine ⟨_, rfl, D, rfl, ⟨_, SqL.of hD3⟩, fun D2 hD2 => ?_⟩
      refine lc_list (K := K) (a := D) (xs := [vk]) (fun i H4 => Same H3 H4 ∧ H4 D2 = some (.lst ((([k].take i).map (kB m ls)).map V.bl))) ⟨same_new hD2 _, upd_same⟩ (fun i H4 _ h => SqL.of (h.1 _ _ hD3)) ?_ ?_
      · rintro i y H4 hy ⟨e4, h4⟩
        obtain ⟨rfl, rfl⟩ : i = 0 ∧ y = vk := by
          match i, hy with
          | 0, hy => exact ⟨rfl, (Option.some.inj hy).symm⟩
        refine ⟨rfl, _, rfl, _, rfl, y, k, la, ls, m, rfl, KeepL.dp (Same.keepL e4) dk3, kk, Same.seq e4 hl3, by omega, fun H5 e5 => ⟨_, e5 _ _ h4, by show 0 < sizeLine; decide, fun c o hc => ?_, ?_⟩⟩
        · rw [upd_ne (ne_of_none hc hD2)]
          exact e5 _ _ (e4 c o hc)
        · rw [upd_same]
          rfl
      rintro H4 ⟨e4, h4⟩
      refine ⟨D2, [kB m ls k], rfl, SqL.of h4, ?_⟩
      refine ⟨_, rfl, ?_⟩
      have e5 := Same.trans e3 e4
      cases hb : kB m ls k with
      | true => exact iteYes rfl (yes H4 _ (Same.trans e2 e5) mc (by rw [cbk, hb]))
      | false => exact iteNo Bool.false_ne_true (next H4 _ _ e5 (by rw [cbk, hb]))
    · subst hw
      obtain ⟨qa, us, rfl, hqa, hqs⟩ : ∃ qa us, cr = [.ref qa] ∧ SqT K H2 qa us ∧ DpAll K H2 us (qs.map mkP) := by
        cases rest with
        | cons a b => cases b with
          | nil => cases a with
            | tup h1 h2 => exact ⟨_, _, rfl, h1, h2⟩
      have lus : us.length = qs.length := by rw [DpAll.len hqs, List.length_map]
      have cbs : cB (kB m ls) ls (.tuple [.str "shape", .tuple (qs.map mkP)]) = ((qs.map (·.2)).isEmpty || (qs.map (·.2)).any (kB m ls)) := by
        have ki : kInner "shape" [.tuple (qs.map mkP)] = qs.map (·.2) := by
          unfold kInner
          rw [if_neg (by decide +kernel), if_pos rfl]
          exact sndsD_of qs
        show ((decide (("shape" : Str) = ("shape" : Str)) && (kInner "shape" [.tuple (qs.map mkP)]).isEmpty) || ((decide (("shape" : Str) = ("letter" : Str)) && _) || (decide (("shape" : Str) = ("number" : Str)) && _)) || (kInner "shape" [.tuple (qs.map mkP)]).any (kB m ls)) = _
        rw [ki, show decide (("shape" : Str) = ("shape" : Str)) = true by decide +kernel, show decide (("shape" : Str) = ("letter" : Str)) = false by decide +kernel, show decide (("shape" : Str) = ("number" : Str)) = false by decide +kernel]
        cases (qs.map (·.2)).isEmpty <;> rfl
      show tOr _ _ _ _ _
      refine or_pure (decide (V.str "shape" = V.str "row")) (decide (V.str "shape" = V.str "book")) (fun R h => ⟨_, rfl, ca, _, _, _, rfl, rfl, hct, at_of (j := 0) rfl rfl, rfl, _, rfl, h⟩) (fun _ R h => ⟨_, rfl, ca, _, _, _, rfl, rfl, hct, at_of (j := 0) rfl rfl, rfl, _, rfl, h⟩) (fun h => absurd h (by decide +kernel)) (fun _ _ => iteF ?_)
      refine ⟨sizeOk (by show 0 ≤ _; decide), fun D0 hD0 => ?_⟩
      dsimp only [gName]
      have e30 := same_new hD0 (.lst [])
      generalize (upd H2 D0 (.lst [])) = H30 at e30 ⊢
      refine ⟨_, rfl, ca, _, _, _, rfl, rfl, ix0 e30, at_of (j := 0) rfl rfl, rfl, _, rfl, ?_⟩
      refine iteYes (by show decide (V.str "shape" = V.str "shape") = true; decide +kernel) ?_
      dsimp only [gName]
      refine ⟨_, rfl, ca, _, _, .ref qa, rfl, rfl, ix0 e30, at_of (j := 1) rfl rfl, qa, rfl, ⟨_, Same.tup e30 hqa⟩, fun D hD => ?_⟩
      have hqs0 := KeepL.dps (Same.keepL e30) hqs
      have hqa0 := Same.tup e30 hqa
      refine lc_tup (K := K) (a := qa) (xs := us) (fun i H5 => Same H30 H5 ∧ ∃ ws, H5 D = some (.lst ws) ∧ DpAll K H30 ws ((qs.map (·.2)).take i)) ⟨same_new hD _, [], upd_same, .nil⟩ (fun i H5 _ h => Same.tup h.1 hqa0) ?_ ?_
      · rintro i y H5 hy ⟨e5, ws, h5, dw⟩
        obtain ⟨d, hd1, hd2⟩ := DpAll.get hqs0 hy
        rw [List.getElem?_map] at hd1
        obtain ⟨q0, hq0, rfl⟩ := Option.map_eq_some_iff.mp hd1
        have mq := List.mem_of_getElem? hq0
        cases hd2 with
        | tup g1 g2 =>
        rename_i a2 vs2
        cases g2 with
        | cons g3 g4 =>
        cases g4 with
        | cons g5 g6 =>
        cases g6
        have li : i < qs.length := (List.getElem?_eq_some_iff.mp hq0).1
        have lw : ws.length ≤ 9 := by
          rw [DpAll.len dw]
          exact Nat.le_trans (List.length_take_le' _ _) (by rw [List.length_map]; exact l9)
        refine ⟨rfl, _, rfl, a2, _, _, _, rfl, rfl, Same.tup e5 g1, rfl, ws, h5, small1000 (by omega), fun b o hb => ?_, ws ++ [_], upd_same, ?_⟩
        · rw [upd_ne (ne_of_none hb hD)]
          exact e5 b o hb
        · rw [List.take_add_one, List.getElem?_map, hq0]
          exact DpAll.app dw (.cons g5 .nil)
      rintro H5 ⟨e5, ws, h5, dw0⟩
      rw [lus, List.take_of_length_le (by rw [List.length_map]; exact Nat.le_refl _)] at dw0
      have e3 := Same.trans e30 e5
      have dw := KeepL.dps (Same.keepL e5) dw0
      have lw : ws.length = (qs.map (·.2)).length := DpAll.len dw0
      have lw9 : ws.length ≤ 9 := by rw [lw, List.length_map]; exact l9
      dsimp only [gName]
      refine ⟨_, rfl, D, ws, rfl, .inl (SqL.of h5), rfl, _, rfl, ?_⟩
      by_cases z : ws.length = 0
      · refine iteYes (by rw [eqV_int]; exact decide_eq_true (by omega)) ?_
        have ze : qs.map (·.2) = [] := List.length_eq_zero_iff.mp (lw.symm.trans z)
        exact yes H5 _ (Same.trans e2 e3) mc (by rw [cbs, ze]; rfl)
      refine iteNo (by rw [eqV_int]; exact fun y => z (by have := of_decide_eq_true y; omega)) ?_
      have ne : (qs.map (·.2)).isEmpty = false := by
        cases q0 : qs.map (·.2) with
        | nil => rw [q0] at lw; exact absurd lw z
        | cons _ _ => rfl
      dsimp only [gName, tNext]
      have hl3 := Same.seq e3 hl2
      show tOr _ _ _ _ _
      refine or_pure false false (fun R h => ?_) (fun _ R h => ?_) (fun h => by rcases h with h | h <;> cases h) (fun _ _ => iteF ?_)
      · show tAnd _ _ _ _ _
        refine and_pure (decide (V.str "shape" = V.str "letter")) true (fun R2 h2 => ⟨_, rfl, ca, _, _, _, rfl, rfl, ix0 e3, at_of (j := 0) rfl rfl, rfl, _, rfl, h2⟩) (fun e => absurd e (by decide +kernel)) (fun e => absurd e (by decide +kernel)) (fun _ => h)
      · show tAnd _ _ _ _ _
        refine and_pure (decide (V.str "shape" = V.str "number")) true (fun R2 h2 => ⟨_, rfl, ca, _, _, _, rfl, rfl, ix0 e3, at_of (j := 0) rfl rfl, rfl, _, rfl, h2⟩) (fun e => absurd e (by decide +kernel)) (fun e => absurd e (by decide +kernel)) (fun _ => h)
      refine ⟨_, rfl, D, rfl, ⟨_, SqL.of h5⟩, fun D2 hD2 => ?_⟩
      refine lc_list (K := K) (a := D) (xs := ws) (fun i H4 => Same H5 H4 ∧ H4 D2 = some (.lst ((((qs.map (·.2)).take i).map (kB m ls)).map V.bl))) ⟨same_new hD2 _, upd_same⟩ (fun i H4 _ h => SqL.of (h.1 _ _ h5)) ?_ ?_
      · rintro i y H4 hy ⟨e4, h4⟩
        obtain ⟨d, hd1, hd2⟩ := DpAll.get dw hy
        have hd1' := hd1
        rw [List.getElem?_map] at hd1'
        obtain ⟨q0, hq0, rfl⟩ := Option.map_eq_some_iff.mp hd1'
        refine ⟨rfl, _, rfl, _, rfl, y, q0.2, la, ls, m, rfl, KeepL.dp (Same.keepL e4) hd2, kk q0 (List.mem_of_getElem? hq0), Same.seq e4 hl3, by omega, fun H6 e6 => ⟨_, e6 _ _ h4, small1000 (by rw [List.length_map, List.length_map]; exact Nat.le_trans (List.length_take_le' _ _) (by rw [List.length_map]; omega)), fun c o hc => ?_, ?_⟩⟩
        · rw [upd_ne (ne_of_none hc hD2)]
          exact e6 _ _ (e4 c o hc)
        · rw [upd_same, List.take_add_one, hd1, List.map_append, List.map_append]
          rfl
      rintro H4 ⟨e4, h4⟩
      rw [lw, List.take_length] at h4
      refine ⟨D2, (qs.map (·.2)).map (kB m ls), rfl, SqL.of h4, ⟨_, rfl, ?_⟩⟩
      have ea : ((qs.map (·.2)).map (kB m ls)).any id = (qs.map (·.2)).any (kB m ls) := by
        rw [List.any_map]
        rfl
      have e6 := Same.trans e3 e4
      cases hb : (qs.map (·.2)).any (kB m ls) with
      | true => exact iteYes (by rw [ea, hb]) (yes H4 _ (Same.trans e2 e6) mc (by rw [cbs, hb, Bool.or_true]))
      | false => exact iteNo (by rw [ea, hb]; exact Bool.false_ne_true) (next H4 _ _ e6 (by rw [cbs, hb, ne]; rfl))
    · subst hw
      obtain ⟨rfl⟩ : cr = [.str l] := by
        cases rest with
        | cons a b => cases b with
          | nil => cases a; rfl
      have cbl : cB (kB m ls) ls (.tuple [.str "letter", .str l]) = !decide (l ∈ ls) := by
        show ((decide (("letter" : Str) = ("shape" : Str)) && _) || ((decide (("letter" : Str) = ("letter" : Str)) && !decide (l ∈ ls)) || (decide (("letter" : Str) = ("number" : Str)) && _)) || (kInner "letter" [.str l]).any (kB m ls)) = !decide (l ∈ ls)
        rw [show kInner "letter" [.str l] = [] by kernel_rfl, show decide (("letter" : Str) = ("shape" : Str)) = false by decide +kernel, show decide (("letter" : Str) = ("letter" : Str)) = true by decide +kernel, show decide (("letter" : Str) = ("number" : Str)) = false by decide +kernel]
        cases decide (l ∈ ls) <;> rfl
      show tOr _ _ _ _ _
      refine or_pure (decide (V.str "letter" = V.str "row")) (decide (V.str "letter" = V.str "book")) (fun R h => ⟨_, rfl, ca, _, _, _, rfl, rfl, hct, at_of (j := 0) rfl rfl, rfl, _, rfl, h⟩) (fun _ R h => ⟨_, rfl, ca, _, _, _, rfl, rfl, hct, at_of (j := 0) rfl rfl, rfl, _, rfl, h⟩) (fun h => absurd h (by decide +kernel)) (fun _ _ => iteF ?_)
      refine ⟨sizeOk (by show 0 ≤ _; decide), fun D hD => ?_⟩
      dsimp only [gName]
      have e3 := same_new hD (.lst [])
      have hD3 : (upd H2 D (.lst [])) D = some (.lst []) := upd_same
      generalize (upd H2 D (.lst [])) = H3 at e3 hD3 ⊢
      refine ⟨_, rfl, ca, _, _, _, rfl, rfl, ix0 e3, at_of (j := 0) rfl rfl, rfl, _, rfl, ?_⟩
      refine iteNo (by show ¬ decide (V.str "letter" = V.str "shape") = true; decide +kernel) ?_
      dsimp only [gName, tNext]
      have hl3 := Same.seq e3 hl2
      show tOr _ _ _ _ _
      refine or_pure (!decide (l ∈ ls)) false (fun R h => ?_) (fun _ R h => ?_) (fun h => iteT (yes H3 _ (Same.trans e2 e3) mc (by rw [cbl]; exact h.elim id fun z => by cases z))) (fun h1 _ => iteF ?_)
      · show tAnd _ _ _ _ _
        refine and_pure (decide (V.str "letter" = V.str "letter")) (!decide (l ∈ ls)) (fun R2 h2 => ⟨_, rfl, ca, _, _, _, rfl, rfl, ix0 e3, at_of (j := 0) rfl rfl, rfl, _, rfl, h2⟩) (fun _ R2 h2 => ⟨_, rfl, ca, _, _, _, rfl, rfl, ix0 e3, at_of (j := 1) rfl rfl, _, rfl, la, _, rfl, .inl hl3, rfl, flat_strs _, ?_⟩) (fun _ h1 => by rw [h1] at h; exact h) (fun h1 => by
          have : (!decide (l ∈ ls)) = false := by
            cases q : (!decide (l ∈ ls)) with
            | false => rfl
            | true => exact absurd ⟨by decide +kernel, q⟩ h1
          rw [this] at h
          exact h)
        rw [in_strs]
        exact ⟨!decide (l ∈ ls), rfl, h2⟩
      · show tAnd _ _ _ _ _
        refine and_pure (decide (V.str "letter" = V.str "number")) true (fun R2 h2 => ⟨_, rfl, ca, _, _, _, rfl, rfl, ix0 e3, at_of (j := 0) rfl rfl, rfl, _, rfl, h2⟩) (fun e => absurd e (by decide +kernel)) (fun e => absurd e (by decide +kernel)) (fun _ => h)
      refine ⟨_, rfl, D, rfl, ⟨_, SqL.of hD3⟩, fun D2 hD2 => ?_⟩
      refine lc_list (K := K) (a := D) (xs := []) (fun i H4 => Same H3 H4 ∧ H4 D2 = some (.lst (([] : List Bool).map V.bl))) ⟨same_new hD2 _, upd_same⟩ (fun i H4 _ h => SqL.of (h.1 _ _ hD3)) (fun i y H4 hy _ => by cases hy) ?_
      rintro H4 ⟨e4, h4⟩
      refine ⟨D2, [], rfl, SqL.of h4, ?_⟩
      exact ⟨_, rfl, iteNo Bool.false_ne_true (next H4 _ _ (Same.trans e3 e4) (by rw [cbl]; exact h1))⟩
    · subst hw
      have cbl : cB (kB m ls) ls (.tuple (.str "number" :: r)) = !r.isEmpty := by
        rcases hr2 with h | h <;> subst h <;> kernel_rfl
      have lcr : cr.length = r.length := DpAll.len rest
      have emp : decide ((1 : Int) < ((V.str "number" :: cr).length : Nat)) = !r.isEmpty := by
        rw [List.length_cons, lcr]
        rcases hr2 with h | h <;> subst h <;> decide +kernel
      show tOr _ _ _ _ _
      refine or_pure (decide (V.str "number" = V.str "row")) (decide (V.str "number" = V.str "book")) (fun R h => ⟨_, rfl, ca, _, _, _, rfl, rfl, hct, at_of (j := 0) rfl rfl, rfl, _, rfl, h⟩) (fun _ R h => ⟨_, rfl, ca, _, _, _, rfl, rfl, hct, at_of (j := 0) rfl rfl, rfl, _, rfl, h⟩) (fun h => absurd h (by decide +kernel)) (fun _ _ => iteF ?_)
      refine ⟨sizeOk (by show 0 ≤ _; decide), fun D hD => ?_⟩
      dsimp only [gName]
      have e3 := same_new hD (.lst [])
      have hD3 : (upd H2 D (.lst [])) D = some (.lst []) := upd_same
      generalize (upd H2 D (.lst [])) = H3 at e3 hD3 ⊢
      refine ⟨_, rfl, ca, _, _, _, rfl, rfl, ix0 e3, at_of (j := 0) rfl rfl, rfl, _, rfl, ?_⟩
      refine iteNo (by show ¬ decide (V.str "number" = V.str "shape") = true; decide +kernel) ?_
      dsimp only [gName, tNext]
      have hl3 := Same.seq e3 hl2
      show tOr _ _ _ _ _
      refine or_pure false (!r.isEmpty) (fun R h => ?_) (fun _ R h => ?_) (fun h => iteT (yes H3 _ (Same.trans e2 e3) mc (by rw [cbl]; exact h.elim (fun z => by cases z) id))) (fun _ h1 => iteF ?_)
      · show tAnd _ _ _ _ _
        refine and_pure (decide (V.str "number" = V.str "letter")) true (fun R2 h2 => ⟨_, rfl, ca, _, _, _, rfl, rfl, ix0 e3, at_of (j := 0) rfl rfl, rfl, _, rfl, h2⟩) (fun e => absurd e (by decide +kernel)) (fun e => absurd e (by decide +kernel)) (fun _ => h)
      · show tAnd _ _ _ _ _
        refine and_pure (decide (V.str "number" = V.str "number")) (!r.isEmpty) (fun R2 h2 => ⟨_, rfl, ca, _, _, _, rfl, rfl, ix0 e3, at_of (j := 0) rfl rfl, rfl, _, rfl, h2⟩) (fun _ R2 h2 => ⟨_, rfl, ca, _, rfl, .inr (ix0 e3), _, _, rfl, rfl, _, rfl, ?_⟩) (fun _ h1 => by rw [h1] at h; exact h) (fun h1 => by
          have : (!r.isEmpty) = false := by
            cases q : (!r.isEmpty) with
            | false => rfl
            | true => exact absurd ⟨by decide +kernel, q⟩ h1
          rw [this] at h
          exact h)
        rw [← emp] at h2
        exact h2
      refine ⟨_, rfl, D, rfl, ⟨_, SqL.of hD3⟩, fun D2 hD2 => ?_⟩
      refine lc_list (K := K) (a := D) (xs := []) (fun i H4 => Same H3 H4 ∧ H4 D2 = some (.lst (([] : List Bool).map V.bl))) ⟨same_new hD2 _, upd_same⟩ (fun i H4 _ h => SqL.of (h.1 _ _ hD3)) (fun i y H4 hy _ => by cases hy) ?_
      rintro H4 ⟨e4, h4⟩
      refine ⟨D2, [], rfl, SqL.of h4, ?_⟩
      exact ⟨_, rfl, iteNo Bool.false_ne_true (next H4 _ _ (Same.trans e3 e4) (by rw [cbl]; exact h1))⟩
    · subst hw
      have cbl : cB (kB m ls) ls (.tuple [.str "text"]) = false := by kernel_rfl
      show tOr _ _ _ _ _
      refine or_pure (decide (V.str "text" = V.str "row")) (decide (V.str "text" = V.str "book")) (fun R h => ⟨_, rfl, ca, _, _, _, rfl, rfl, hct, at_of (j := 0) rfl rfl, rfl, _, rfl, h⟩) (fun _ R h => ⟨_, rfl, ca, _, _, _, rfl, rfl, hct, at_of (j := 0) rfl rfl, rfl, _, rfl, h⟩) (fun h => absurd h (by decide +kernel)) (fun _ _ => iteF ?_)
      refine ⟨sizeOk (by show 0 ≤ _; decide), fun D hD => ?_⟩
      dsimp only [gName]
      have e3 := same_new hD (.lst [])
      have hD3 : (upd H2 D (.lst [])) D = some (.lst []) := upd_same
      generalize (upd H2 D (.lst [])) = H3 at e3 hD3 ⊢
      refine ⟨_, rfl, ca, _, _, _, rfl, rfl, ix0 e3, at_of (j := 0) rfl rfl, rfl, _, rfl, ?_⟩
      refine iteNo (by show ¬ decide (V.str "text" = V.str "shape") = true; decide +kernel) ?_
      dsimp only [gName, tNext]
      have hl3 := Same.seq e3 hl2
      show tOr _ _ _ _ _
      refine or_pure false false (fun R h => ?_) (fun _ R h => ?_) (fun h => by rcases h with h | h <;> cases h) (fun _ _ => iteF ?_)
      · show tAnd _ _ _ _ _
        refine and_pure (decide (V.str "text" = V.str "letter")) true (fun R2 h2 => ⟨_, rfl, ca, _, _, _, rfl, rfl, ix0 e3, at_of (j := 0) rfl rfl, rfl, _, rfl, h2⟩) (fun e => absurd e (by decide +kernel)) (fun e => absurd e (by decide +kernel)) (fun _ => h)
      · show tAnd _ _ _ _ _
        refine and_pure (decide (V.str "text" = V.str "number")) true (fun R2 h2 => ⟨_, rfl, ca, _, _, _, rfl, rfl, ix0 e3, at_of (j := 0) rfl rfl, rfl, _, rfl, h2⟩) (fun e => absurd e (by decide +kernel)) (fun e => absurd e (by decide +kernel)) (fun _ => h)
      refine ⟨_, rfl, D, rfl, ⟨_, SqL.of hD3⟩, fun D2 hD2 => ?_⟩
      refine lc_list (K := K) (a := D) (xs := []) (fun i H4 => Same H3 H4 ∧ H4 D2 = some (.lst (([] : List Bool).map V.bl))) ⟨same_new hD2 _, upd_same⟩ (fun i H4 _ h => SqL.of (h.1 _ _ hD3)) (fun i y H4 hy _ => by cases hy) ?_
      rintro H4 ⟨e4, h4⟩
      refine ⟨D2, [], rfl, SqL.of h4, ?_⟩
      exact ⟨_, rfl, iteNo Bool.false_ne_true (next H4 _ _ (Same.trans e3 e4) cbl)⟩
  · rintro σ2 H2 ⟨e2, ⟨o2, o3, rfl⟩, hp⟩
    have fin := q H2 e2
    rw [kB_tup, d0, Bool.false_or, show ds.any (cB (kB m ls) ls) = false by rw [← hp, lv, List.take_length]] at fin
    exact fin
theorem c_kb (T : Tx K mg) : ∀ n : Nat, Cal P w K mg base n "_law_kind_bad" ["_law_kind", "_law_letters"] (spKb K n)
  | 0 => T.kind_bad.never fun vs H Q E ⟨_, _, _, _, _, _, _, h, _⟩ => h.elim
  | n + 1 => c_kb_step T (c_kb T n)
/-- of what is drawn loosely -/
def spKbL (K : PySem.W.Frag) : Sp := fun vs H Q _ => ∃ (v : V) (d : PyData) (la : Addr) (ls : List Str), vs = [v, .ref la] ∧ Dp K H v d ∧ Lk d ∧ SqL K H la (ls.map V.str) ∧ ∀ H', Same H H' → Q (.bl (!gK ls 9 d)) H'
theorem c_kind_bad (T : Tx K mg) : Cal P w K mg base 2 "_law_kind_bad" ["_law_kind", "_law_letters"] (spKbL K) := (c_kb T 2).imp fun vs H Q E ⟨v, d, la, ls, e, hd, hk, hl, q⟩ =>
  ⟨v, d, la, ls, 9, e, hd, kd_lk hk, hl, by decide, fun H' e' => by rw [kb_lk hk]; exact q H' e'⟩
end
end Sc
namespace Sc
open PySem PySem.Spec PyProof.Rows L2
/-! ### how long a list of what is wrong may be -/
theorem flat_len {α β : Type} {f : α → List β} {b : Nat} : ∀ {l : List α}, (∀ a ∈ l, (f a).length ≤ b) → (l.flatMap f).length ≤ l.length * b
  | [], _ => by simp
  | a :: l, h => by
    have h1 := h a List.mem_cons_self
    have h2 := flat_len (l := l) fun x m => h x (List.mem_cons_of_mem _ m)
    rw [List.flatMap_cons, List.length_append, List.length_cons, Nat.succ_mul]
    omega
theorem wr_len {fn : Str → Prop} {ls : List Str} {fs : List (Str × Nat × Nat)} {n : Nat} {d : PyData} (h : Lo fn n d) : ∀ {m : Nat} {ns : List Str}, n ≤ m → (wrP m ls fs ns d).length ≤ 10 * 6 ^ n := by
  have one : ∀ n : Nat, 1 ≤ 6 ^ n := fun n => Nat.pos_of_ne_zero (by simp)
  induction h with
  | @num n k a =>
    intro m ns hm
    obtain ⟨m, rfl⟩ : ∃ m', m = m' + 1 := ⟨m - 1, by omega⟩
    rw [wr_num]
    have := one (n + 1)
    split
    · show 1 ≤ _
      omega
    · exact Nat.zero_le _
  | @text n t a =>
    intro m ns hm
    obtain ⟨m, rfl⟩ : ∃ m', m = m' + 1 := ⟨m - 1, by omega⟩
    rw [wr_text]
    have := one (n + 1)
    split
    · show 1 ≤ _
      omega
    · exact Nat.zero_le _
  | @textN n t a =>
    intro m ns hm
    obtain ⟨m, rfl⟩ : ∃ m', m = m' + 1 := ⟨m - 1, by omega⟩
    rw [wr_text]
    have := one (n + 1)
    split
    · show 1 ≤ _
      omega
    · exact Nat.zero_le _
  | @row n ds a _ ih =>
    intro m ns hm
    obtain ⟨m, rfl⟩ : ∃ m', m = m' + 1 := ⟨m - 1, by omega⟩
    rw [wr_row, List.length_append]
    have := one n
    have f := flat_len (l := ds) (f := wrP m ls fs ns) (b := 10 * 6 ^ n) fun d hd => ih d hd (by omega)
    have g : (if ds.isEmpty then lP else []).length ≤ 1 := by split <;> simp [lP]
    have := Nat.mul_le_mul_right (10 * 6 ^ n) a
    rw [Nat.pow_succ]
    omega
  | @shape n qs a b _ ih =>
    intro m ns hm
    obtain ⟨m, rfl⟩ : ∃ m', m = m' + 1 := ⟨m - 1, by omega⟩
    rw [wr_shape, List.length_append]
    have := one n
    have f := flat_len (l := qs.map mkP) (f := fun d => wrP m ls fs ns (sndP d)) (b := 10 * 6 ^ n) fun d hd => by
      obtain ⟨q, hq, rfl⟩ := List.mem_map.mp hd
      exact ih q hq (by omega)
    rw [List.length_map] at f
    have g : (if badFs ((qs.map mkP).map nameD) then lP else []).length ≤ 1 := by split <;> simp [lP]
    have := Nat.mul_le_mul_right (10 * 6 ^ n) a
    rw [Nat.pow_succ]
    omega
  | @call n f ks ds a b c e _ ih =>
    intro m ns hm
    obtain ⟨m, rfl⟩ : ∃ m', m = m' + 1 := ⟨m - 1, by omega⟩
    rw [wr_call]
    unfold wrCall
    rw [List.length_append, List.length_append]
    have := one n
    have fl := flat_len (l := ds) (f := wrP m ls fs ns) (b := 10 * 6 ^ n) fun d hd => ih d hd (by omega)
    have g : (if ks.any (fun k => !gK ls 9 k) then lK else []).length ≤ 1 := by split <;> simp [lK]
    have cc := Nat.mul_le_mul_right (10 * 6 ^ n) c
    refine Nat.le_trans (Nat.add_le_add (Nat.add_le_add (show _ ≤ 1 from ?_) g) fl) ?_
    · split
      · exact Nat.le_refl _
      · split
        · exact Nat.le_refl _
        · exact Nat.zero_le _
    · rw [Nat.pow_succ]
      omega
  | @form n w sg ds a b c _ ih =>
    intro m ns hm
    obtain ⟨m, rfl⟩ : ∃ m', m = m' + 1 := ⟨m - 1, by omega⟩
    rw [wr_form a]
    have := one n
    have s6 : sg.length ≤ 6 := (frm_form _ a).2.2.2.2.2.2
    have fl := flat_len (l := List.range sg.length) (f := wrAt (wrP m ls fs) ls ns w sg ds) (b := 10 * 6 ^ n) fun k hk => by
      unfold wrAt
      cases hs : sg[k]? with
      | none => exact Nat.zero_le _
      | some s =>
        cases hd : ds[k]? with
        | none => exact Nat.zero_le _
        | some d =>
          have u : ∀ (p : Prop) [Decidable p] (l : List Str), l.length ≤ 1 → (if p then l else []).length ≤ 10 * 6 ^ n := fun p _ l hl => by
            split
            · omega
            · exact Nat.zero_le _
          have v : ∀ (p : Prop) [Decidable p] (l : List Str), l.length ≤ 1 → (if p then [] else l).length ≤ 10 * 6 ^ n := fun p _ l hl => by
            split
            · exact Nat.zero_le _
            · omega
          show List.length (α := Str) (if s = ("w" : Str) then _ else _) ≤ _
          split
          · exact u _ _ (Nat.le_refl _)
          split
          · rename_i e
            exact ih k s d hs hd (.inl e) (by omega)
          split
          · rename_i e
            exact ih k s d hs hd (.inr e) (by omega)
          split
          · exact v _ _ (Nat.le_refl _)
          split
          · split
            · exact v _ _ (Nat.le_refl _)
            · exact Nat.zero_le _
          split
          · split
            · exact u _ _ (Nat.le_refl _)
            · exact Nat.zero_le _
          · split
            · exact u _ _ (Nat.le_refl _)
            · exact Nat.zero_le _
    rw [List.length_range] at fl
    have := Nat.mul_le_mul_right (10 * 6 ^ n) s6
    rw [Nat.pow_succ]
    omega
end Sc
namespace Sc
open PySem PySem.Spec PyProof.Rows L2
/-- what the law keeps of a program while it looks for wrongs -/
structure MSt (K : PySem.W.Frag) (H : Hp) (ma : Addr) (ls : List Str) (es : List PyData) : Prop where
  at_ : ∃ ea la us, H ma = some (.dK [(.inr "earlier", .ref ea), (.inr "letters", .ref la)]) ∧ SqL K H ea us ∧ DpAll K H us es ∧ SqL K H la (ls.map V.str)
  fns : ∀ d ∈ es, ∃ z a b d3 d4, d = .tuple [.str z, .tuple a, .tuple b, d3, d4]
  few : es.length ≤ 12
theorem MSt.same {K : PySem.W.Frag} {H H' : Hp} {ma : Addr} {ls : List Str} {es : List PyData} (h : MSt K H ma ls es) (e : Same H H') : MSt K H' ma ls es := by
  obtain ⟨ea, la, us, a, b, c, d⟩ := h.at_
  exact ⟨⟨ea, la, us, e _ _ a, Same.seq e b, KeepL.dps (Same.keepL e) c, Same.seq e d⟩, h.fns, h.few⟩
def spWr (K : PySem.W.Frag) (n : Nat) : Sp := fun vs H Q _ => ∃ (ma na : Addr) (v : V) (d : PyData) (ls ns : List Str) (es : List PyData) (fn : Str → Prop) (m : Nat), vs = [.ref ma, v, .ref na] ∧ MSt K H ma ls es ∧ Dp K H v d ∧ Lo fn n d ∧ n ≤ 6 ∧ SqL K H na (ns.map V.str) ∧ ns.length ≤ 100 - 10 * n ∧ n ≤ m ∧
  ∀ (l : Addr) (H' : Hp), Same H H' → H l = none → H' l = some (.lst ((wrP m ls (es.map fnOf3) ns d).map V.str)) → Q (.ref l) H'
def spWc (K : PySem.W.Frag) (n : Nat) : Sp := fun vs H Q _ => ∃ (ma na : Addr) (v : V) (f : Str) (ks ds : List PyData) (ls ns : List Str) (es : List PyData) (fn : Str → Prop) (m : Nat), vs = [.ref ma, v, .ref na] ∧ MSt K H ma ls es ∧ Dp K H v (.tuple [.str "call", .str f, .tuple ks, .tuple ds]) ∧
  ks.length ≤ 5 ∧ ds.length ≤ 5 ∧ (∀ k ∈ ks, Lk k) ∧ (∀ d ∈ ds, Lo fn n d) ∧ n ≤ 5 ∧ SqL K H na (ns.map V.str) ∧ ns.length ≤ 100 - 10 * (n + 1) ∧ n ≤ m ∧
  ∀ (l : Addr) (H' : Hp), Same H H' → H l = none → H' l = some (.lst ((wrCall (wrP m ls (es.map fnOf3) ns) ls (es.map fnOf3) f ks ds).map V.str)) → Q (.ref l) H'
def wc1 (fl : List (Str × Nat × Nat)) (nk nd : Nat) : List Str := match fl with
  | [] => lN
  | q :: r => if r ≠ [] ∨ nk ≠ q.2.1 ∨ nd ≠ q.2.2 then lP else []
theorem wrCall_eq (rec : PyData → List Str) (ls : List Str) (fs : List (Str × Nat × Nat)) (f : Str) (ks ds : List PyData) : wrCall rec ls fs f ks ds = wc1 (fs.filter (fun q => q.1 == f)) ks.length ds.length ++ (if ks.any (fun k => !gK ls 9 k) then lK else []) ++ ds.flatMap rec := by
  unfold wrCall wc1
  cases fs.filter (fun q => q.1 == f) <;> rfl
section
variable {P : Program} {w : World} {K : PySem.W.Frag} {mg : Str → Option Value} {base : Heap}
abbrev nWc : List Str := ["_law_m", "_law_part", "_law_known", "_law_found", "_law_one", "_law_some", "_law_kind"]
theorem scWc : FnScope nWc ["_law_m", "_law_part", "_law_known"] (defScope sWrongsCall) := ⟨rfl, rfl, rfl, by decide +kernel, rfl, by decide +kernel, by decide +kernel⟩
theorem c_wr_call {n lv : Nat} (T : Tx K mg) (lv2 : 2 ≤ lv) (CW : Cal P w K mg base lv "_law_wrongs" ["_law_m", "_law_part", "_law_known"] (spWr K n)) : Cal P w K mg base (lv + 1) "_law_wrongs_call" ["_law_m", "_law_part", "_law_known"] (spWc K n) := by
  have CK : Cal P w K mg base 2 "_law_kind_bad" ["_law_kind", "_law_letters"] (spKbL K) := c_kind_bad T
  refine T.wrongs_call.ok scWc (fun vs H Q E h => ?_) (fun f cdv A outer s0 H vs Q E hr h => ?_)
  · obtain ⟨ma, na, v, f, ks, ds, ls, ns, es, fn, m, rfl, _⟩ := h
    rfl
  have hu := hu_of hr
  have r2 : Room 2 _ := hr.mono lv2
  refine ⟨_, pss_cons (ps_set (i := 3) scWc.nd rfl (Or.inl rfl) (pe_lst pa_nil)) <|
    pss_cons (ps_setLc (i := 5) (own := [("_law_one", 4)]) (g := gName 4) rfl scWc.nd rfl rfl (sw_true rfl rfl rfl (by decide +kernel)) (pi_list (pe_dget hu (pv 0) pe_str (fun _ _ => rfl))) (blkOk_by (N := nWc) (sc := defScope sWrongsCall) (by decide +kernel))
        (fun _ _ _ _ _ => pg_name (i := 4) scWc.nd rfl (Or.inl rfl)) (fun _ _ _ _ _ => pts_one (pt_cmpR op_eq (pe_ix (ix_tupK K) (pv 4) pe_int (fun _ _ => rfl)) (pe_ix (ix_tupK K) (pv 1) pe_int (fun _ _ => rfl)) (nomark _))) (fun _ _ _ _ _ => pv 4)) <|
    pss_cons (ps_if (pt_cmpR op_eq (pe_callB call_len_seq (by rfl) T.m_len PySem.boot_len (pa_cons (pv 5) pa_nil)) pe_int (nomark _))
      (pss_one (ps_expr (pe_bm PySem.F.plainAttrs_list PySem.F.slot_list_append PySem.F.type_list_append mt_append (pv 3) (pa_cons pe_str pa_nil))))
      (pss_one (ps_if (PW.pt (pw_or (pt_cmpR op_gt (pe_callB call_len_seq (by rfl) T.m_len PySem.boot_len (pa_cons (pv 5) pa_nil)) pe_int (nomark _))
          (pw_or (pt_cmpR op_ne (pe_callB call_len_seq (by rfl) T.m_len PySem.boot_len (pa_cons (pe_ix ix_tup (pv 1) pe_int (fun _ _ => rfl)) pa_nil)) (pe_callB call_len_seq (by rfl) T.m_len PySem.boot_len (pa_cons (pe_ix ix_tup (pe_ix ix_list (pv 5) pe_int (fun _ _ => rfl)) pe_int (fun _ _ => rfl)) pa_nil)) (nomark _))
          (pw_or1 (pt_cmpR op_ne (pe_callB call_len_seq (by rfl) T.m_len PySem.boot_len (pa_cons (pe_ix ix_tup (pv 1) pe_int (fun _ _ => rfl)) pa_nil)) (pe_callB call_len_seq (by rfl) T.m_len PySem.boot_len (pa_cons (pe_ix ix_tup (pe_ix ix_list (pv 5) pe_int (fun _ _ => rfl)) pe_int (fun _ _ => rfl)) pa_nil)) (nomark _))))))
        (pss_one (ps_expr (pe_bm PySem.F.plainAttrs_list PySem.F.slot_list_append PySem.F.type_list_append mt_append (pv 3) (pa_cons pe_str pa_nil)))) pss_nil))) <|
    pss_cons (ps_if (pt_val (pe_callB (cr_any rfl) (by rfl) T.m_any (by decide +kernel) (pa_cons (pe_lc (own := [("_law_kind", 6)]) (g := gName 6) (tt := tYes) rfl scWc.nd (pi_tup (pe_ix ix_tup (pv 1) pe_int (fun _ _ => rfl))) (blkOk_by (N := nWc) (sc := defScope sWrongsCall) (by decide +kernel))
          (fun _ _ _ _ _ => pg_name (i := 6) scWc.nd rfl (Or.inl rfl)) (fun _ _ _ _ _ => pts_nil) (fun _ _ _ _ _ => pe_cal CK r2 (pa_cons (pv 6) (pa_cons (pe_dget hu (pv 0) pe_str (fun _ _ => rfl)) pa_nil)))) pa_nil)))
      (pss_one (ps_expr (pe_bm PySem.F.plainAttrs_list PySem.F.slot_list_append PySem.F.type_list_append mt_append (pv 3) (pa_cons pe_str pa_nil)))) pss_nil) <|
    pss_cons (ps_for PassesOwn.never rfl (pi_tup (pe_ix ix_tup (pv 1) pe_int (fun _ _ => rfl))) (pg_name (i := 4) scWc.nd rfl (Or.inl rfl))
      (pss_one (ps_expr (pe_bm PySem.F.plainAttrs_list PySem.F.slot_list_extend PySem.F.type_list_extend mt_extend (pv 3) (pa_cons (pe_cal CW hr (pa_cons (pv 0) (pa_cons (pv 4) (pa_cons (pv 2) pa_nil)))) pa_nil))))) <|
    pss_one (ps_ret (pv 3)), ?_⟩
  obtain ⟨ma, na, v, z, ks, ds, ls, ns, es, fn, m, rfl, M, hv, k5, d5, lk, lo, n5', hn, nl, hm, q⟩ := h
  obtain ⟨ea, la, us, hma, hea, hes, hla⟩ := M.at_
  obtain ⟨pa, kv, dv, rfl, hp, ka, kvs, rfl, hka, hks, da, dvs, rfl, hda, hds⟩ : ∃ pa kv dv, v = .ref pa ∧ SqT K H pa [.str "call", .str z, kv, dv] ∧ ∃ ka kvs, kv = .ref ka ∧ SqT K H ka kvs ∧ DpAll K H kvs ks ∧ ∃ da dvs, dv = .ref da ∧ SqT K H da dvs ∧ DpAll K H dvs ds := by
    cases hv with
    | tup h1 h2 =>
    cases h2 with
    | cons a1 h2 =>
    cases a1
    cases h2 with
    | cons a2 h2 =>
    cases a2
    cases h2 with
    | cons a3 h2 =>
    cases h2 with
    | cons a4 h2 =>
    cases h2
    cases a3 with
    | tup b1 b2 =>
    cases a4 with
    | tup c1 c2 => exact ⟨_, _, _, rfl, h1, _, _, rfl, b1, b2, _, _, rfl, c1, c2⟩
  refine ⟨by show 0 ≤ sizeLine; decide, fun D hD => ?_⟩
  dsimp only [gName]
  have e1 := same_new hD (.lst [])
  have hD1 : (upd H D (.lst [])) D = some (.lst []) := upd_same
  generalize (upd H D (.lst [])) = H1 at e1 hD1 ⊢
  refine ⟨_, rfl, ma, .ref ea, rfl, (show DGet H1 ma (.str "earlier") (some (.ref ea)) from DGet.k (k := Sum.inr "earlier") (e1 _ _ hma)), ea, rfl, ⟨_, Same.seq e1 hea⟩, fun D5 hD5 => ?_⟩
  have hes1 := KeepL.dps (Same.keepL e1) hes
  refine lc_list (K := K) (a := ea) (xs := us) (fun j H2 => Same H1 H2 ∧ ∃ gs, H2 D5 = some (.lst gs) ∧ DpAll K H1 gs ((es.take j).filter fun d => (fnOf3 d).1 == z)) ⟨same_new hD5 _, [], upd_same, .nil⟩ (fun j H2 _ h => Same.seq h.1 (Same.seq e1 hea)) ?_ ?_
  · rintro j x H2 hx ⟨e2, gs, h2, dg⟩
    obtain ⟨d, hd1, hd2⟩ := DpAll.get hes1 hx
    obtain ⟨y, b1, b2, d3, d4, rfl⟩ := M.fns d (List.mem_of_getElem? hd1)
    have hd3 := hd2
    cases hd2 with
    | tup g1 g2 =>
    rename_i xa xs
    cases g2 with
    | cons g3 g4 =>
    cases g3
    have et : (es.take (j + 1)).filter (fun d => (fnOf3 d).1 == z) = (es.take j).filter (fun d => (fnOf3 d).1 == z) ++ (if y = z then [.tuple [.str y, .tuple b1, .tuple b2, d3, d4]] else []) := by
      rw [List.take_add_one, hd1, List.filter_append]
      show _ ++ List.filter _ [_] = _
      by_cases c : y = z
      · rw [if_pos c, List.filter_cons_of_pos (by show (y == z) = true; rw [c]; exact beq_self_eq_true z), List.filter_nil]
      · rw [if_neg c, List.filter_cons_of_neg (by show ¬ (y == z) = true; exact fun e => c (eq_of_beq e)), List.filter_nil]
    have lg : gs.length ≤ 12 := by
      rw [DpAll.len dg]
      exact Nat.le_trans (List.length_filter_le _ _) (Nat.le_trans (List.length_take_le' _ _) M.few)
    refine ⟨rfl, _, rfl, xa, _, _, .str y, rfl, rfl, Same.tup e2 g1, at_of (j := 0) rfl rfl, _, rfl, pa, _, _, .str z, rfl, rfl, Same.tup (Same.trans e1 e2) hp, at_of (j := 1) rfl rfl, rfl, _, rfl, ite2 (fun c => ?_) (fun c => ?_)⟩
    · have yz : y = z := V.str.inj (of_decide_eq_true c)
      refine ⟨_, rfl, gs, h2, small1000 (by omega), fun b o hb => ?_, gs ++ [_], upd_same, ?_⟩
      · rw [upd_ne (ne_of_none hb hD5)]
        exact e2 b o hb
      · rw [et, if_pos yz]
        exact DpAll.app dg (.cons hd3 .nil)
    · have yz : y ≠ z := fun e => c (decide_eq_true (congrArg V.str e))
      exact ⟨e2, gs, h2, by rw [et, if_neg yz, List.append_nil]; exact dg⟩
  rintro H2 ⟨e2, gs, h2, dg⟩
  rw [DpAll.len hes, List.take_length] at dg
  generalize hfl : es.filter (fun d => (fnOf3 d).1 == z) = fl at dg
  have lg : gs.length = fl.length := DpAll.len dg
  have fl12 : fl.length ≤ 12 := by
    rw [← hfl]
    exact Nat.le_trans (List.length_filter_le _ _) M.few
  have e12 := Same.trans e1 e2
  have n5 : D ≠ D5 := ne_of_none hD1 hD5
  have hD2 : H2 D = some (.lst []) := e2 _ _ hD1
  have efl : (es.map fnOf3).filter (fun q => q.1 == z) = fl.map fnOf3 := by
    rw [← hfl, List.filter_map]
    rfl
  dsimp only [gName]
  refine seq_with (fun R => ∀ (H3 : Hp), Same H H3 → H3 D = some (.lst ((wc1 (fl.map fnOf3) ks.length ds.length).map V.str)) → R [some (.ref ma), some (.ref pa), some (.ref na), some (.ref D), none, some (.ref D5), none] H3) ?_ (fun rest => ?_)
  · intro H3 e3 hD3
    have w1 : (wc1 (fl.map fnOf3) ks.length ds.length).length ≤ 1 := by
      unfold wc1
      split
      · exact Nat.le_refl _
      · split
        · exact Nat.le_refl _
        · exact Nat.zero_le _
    generalize hp1 : wc1 (fl.map fnOf3) ks.length ds.length = p1 at hD3 w1
    have wall : wrCall (wrP m ls (es.map fnOf3) ns) ls (es.map fnOf3) z ks ds = p1 ++ (if ks.any (fun k => !gK ls 9 k) then lK else []) ++ ds.flatMap (wrP m ls (es.map fnOf3) ns) := by
      rw [wrCall_eq, efl, hp1]
    have len : ∀ j, ((ds.take j).flatMap (wrP m ls (es.map fnOf3) ns)).length ≤ 5 * (10 * 6 ^ n) := fun j => by
      have := flat_len (l := ds.take j) (f := wrP m ls (es.map fnOf3) ns) (b := 10 * 6 ^ n) fun d hd => wr_len (lo d (List.mem_of_mem_take hd)) hm
      exact Nat.le_trans this (Nat.mul_le_mul_right _ (Nat.le_trans (List.length_take_le' _ _) d5))
    have n6 : 6 ^ n ≤ 6 ^ 5 := Nat.pow_le_pow_right (by decide) n5'
    refine seq_with (fun R => ∀ (H4 : Hp), Same H H4 → H4 D = some (.lst ((p1 ++ (if ks.any (fun k => !gK ls 9 k) then lK else [])).map V.str)) → R [some (.ref ma), some (.ref pa), some (.ref na), some (.ref D), none, some (.ref D5), none] H4) ?_ (fun rest => ?_)
    · intro H4 e4 hD4
      generalize hp2 : p1 ++ (if ks.any (fun k => !gK ls 9 k) then lK else []) = p2 at hD4 wall
      have w2 : p2.length ≤ 2 := by
        rw [← hp2, List.length_append]
        have : (if ks.any (fun k => !gK ls 9 k) then lK else []).length ≤ 1 := by split <;> simp [lK]
        omega
      refine ⟨_, rfl, pa, _, _, .ref da, rfl, rfl, Same.tup e4 hp, at_of (j := 3) rfl rfl, da, rfl, ⟨_, Same.tup e4 hda⟩, ?_⟩
      refine for_tup (K := K) (a := da) (xs := dvs) (fun j σ5 H5 => Same H H5 ∧ H5 D = some (.lst ((p2 ++ (ds.take j).flatMap (wrP m ls (es.map fnOf3) ns)).map V.str)) ∧ ∃ o, σ5 = [some (.ref ma), some (.ref pa), some (.ref na), some (.ref D), o, some (.ref D5), none])
        ⟨e4, by rw [List.take_zero, List.flatMap_nil, List.append_nil]; exact hD4, _, rfl⟩ (fun j σ5 H5 _ h => Same.tup h.1 hda) ?_ ?_
      · rintro j x σ5 H5 hx ⟨e5, h5, o, rfl⟩
        obtain ⟨d, hd1, hd2⟩ := DpAll.get hds hx
        have md := List.mem_of_getElem? hd1
        have lj := len j
        have ld := wr_len (ls := ls) (fs := es.map fnOf3) (ns := ns) (lo d md) hm
        dsimp only [gName]
        refine ⟨_, rfl, .inl ⟨rfl, _, SqL.of h5⟩, _, rfl, _, rfl, _, rfl, ma, na, x, d, ls, ns, es, fn, m, rfl, M.same e5, KeepL.dp (Same.keepL e5) hd2, lo d md, by omega, Same.seq e5 hn, by omega, hm, fun l H6 e6 hl0 hl => ?_⟩
        have nDl : D ≠ l := ne_of_none h5 hl0
        refine ⟨D, l, _, _, rfl, rfl, e6 _ _ h5, hl, ?_, fun b o hb => ?_, ?_, _, rfl⟩
        · rw [List.length_map, List.length_map, List.length_append]
          have : sizeLine = 16777216 := by decide
          omega
        · rw [upd_ne (ne_of_none hb hD)]
          exact e6 _ _ (e5 b o hb)
        · rw [upd_same, List.take_add_one, hd1, List.flatMap_append, ← List.map_append, List.append_assoc]
          simp
      rintro σ5 H5 ⟨e5, h5, o, rfl⟩
      rw [DpAll.len hds, List.take_length] at h5
      exact ⟨_, rfl, q D H5 e5 hD (by rw [wall]; exact h5)⟩
    · refine ⟨_, rfl, pa, _, _, .ref ka, rfl, rfl, Same.tup e3 hp, at_of (j := 2) rfl rfl, ka, rfl, ⟨_, Same.tup e3 hka⟩, fun D6 hD6 => ?_⟩
      refine lc_tup (K := K) (a := ka) (xs := kvs) (fun i H5 => Same H3 H5 ∧ H5 D6 = some (.lst (((ks.take i).map fun k => !gK ls 9 k).map V.bl))) ⟨same_new hD6 _, upd_same⟩ (fun i H5 _ h => Same.tup h.1 (Same.tup e3 hka)) ?_ ?_
      · rintro i y H5 hy ⟨e5, h5⟩
        obtain ⟨k, hk1, hk2⟩ := DpAll.get hks hy
        have e35 := Same.trans e3 e5
        refine ⟨rfl, _, rfl, _, rfl, ma, .ref la, rfl, (show DGet H5 ma (.str "letters") (some (.ref la)) from DGet.k (k := Sum.inr "letters") (e35 _ _ hma)), y, k, la, ls, rfl, KeepL.dp (Same.keepL e35) hk2, lk k (List.mem_of_getElem? hk1), Same.seq e35 hla, fun H6 e6 => ⟨_, e6 _ _ h5, small1000 (by rw [List.length_map, List.length_map]; exact Nat.le_trans (List.length_take_le' _ _) (by omega)), fun c o hc => ?_, ?_⟩⟩
        · rw [upd_ne (ne_of_none hc hD6)]
          exact e6 _ _ (e5 c o hc)
        · rw [upd_same, List.take_add_one, hk1, List.map_append, List.map_append]
          rfl
      rintro H4 ⟨e4, h4⟩
      rw [DpAll.len hks, List.take_length] at h4
      refine ⟨D6, ks.map (fun k => !gK ls 9 k), rfl, SqL.of h4, ⟨_, rfl, ?_⟩⟩
      have ea : (ks.map fun k => !gK ls 9 k).any id = ks.any (fun k => !gK ls 9 k) := by
        rw [List.any_map]
        rfl
      have hD4 := e4 _ _ hD3
      have e34 := Same.trans e3 e4
      cases hb : ks.any (fun k => !gK ls 9 k) with
      | true =>
        refine iteYes (by rw [ea, hb]) ?_
        refine ⟨_, rfl, .inl ⟨rfl, _, SqL.of hD4⟩, D, _, _, rfl, rfl, hD4, small1000 (by rw [List.length_map]; omega), rest _ (fun b o hx => ?_) ?_⟩
        · rw [upd_ne (ne_of_none hx hD)]
          exact e34 b o hx
        · rw [upd_same, hb, List.map_append]
          rfl
      | false =>
        refine iteNo (by rw [ea, hb]; exact Bool.false_ne_true) ?_
        dsimp only [tNext]
        exact rest H4 e34 (by rw [hb]; show _ = some (HO.lst ((p1 ++ []).map V.str)); rw [List.append_nil]; exact hD4)
  have put : ∀ (x : Str), Same H (upd H2 D (.lst ([] ++ [V.str x]))) := fun x b o hb => by
    rw [upd_ne (ne_of_none hb hD)]
    exact e12 b o hb
  refine ⟨_, rfl, D5, gs, rfl, .inl (SqL.of h2), rfl, _, rfl, ite2 (fun c => ?_) (fun c => ?_)⟩
  · have f0 : fl = [] := by
      have : gs.length = 0 := by
        rw [eqV_int] at c
        have := of_decide_eq_true c
        omega
      exact List.length_eq_zero_iff.mp (lg.symm.trans this)
    subst f0
    refine ⟨_, rfl, .inl ⟨rfl, _, SqL.of hD2⟩, D, [], _, rfl, rfl, hD2, (by show 0 < sizeLine; decide), rest _ (put _) ?_⟩
    rw [upd_same]
    rfl
  · obtain ⟨q0, fr, rfl⟩ : ∃ q0 fr, fl = q0 :: fr := by
      cases fl with
      | nil => exact absurd (by rw [eqV_int]; exact decide_eq_true (by rw [lg]; rfl)) c
      | cons q0 fr => exact ⟨_, _, rfl⟩
    obtain ⟨y, b1, b2, x3, x4, rfl⟩ := M.fns q0 (List.mem_filter.mp (show q0 ∈ es.filter (fun d => (fnOf3 d).1 == z) by rw [hfl]; exact List.mem_cons_self)).1
    cases dg with
    | cons dq dr =>
    rename_i g0 gr
    obtain ⟨ga, gx, b1a, u1, b2a, u2, rfl, hga, h1a, h1d, h2a, h2d⟩ : ∃ ga gx b1a u1 b2a u2, g0 = .ref ga ∧ SqT K H1 ga (.str y :: .ref b1a :: .ref b2a :: gx) ∧ SqT K H1 b1a u1 ∧ DpAll K H1 u1 b1 ∧ SqT K H1 b2a u2 ∧ DpAll K H1 u2 b2 := by
      cases dq with
      | tup a1 a2 =>
      cases a2 with
      | cons a3 a4 =>
      cases a3
      cases a4 with
      | cons a5 a6 =>
      cases a6 with
      | cons a7 a8 =>
      cases a5 with
      | tup c1 c2 =>
      cases a7 with
      | tup c3 c4 => exact ⟨_, _, _, _, _, _, rfl, a1, c1, c2, c3, c4⟩
    have l1 : u1.length = b1.length := DpAll.len h1d
    have l2 : u2.length = b2.length := DpAll.len h2d
    have lk1 : kvs.length = ks.length := DpAll.len hks
    have ld1 : dvs.length = ds.length := DpAll.len hds
    have lr : gr.length = fr.length := DpAll.len dr
    have wq : wc1 ((PyData.tuple [.str y, .tuple b1, .tuple b2, x3, x4] :: fr).map fnOf3) ks.length ds.length = if fr.map fnOf3 ≠ [] ∨ ks.length ≠ b1.length ∨ ds.length ≠ b2.length then lP else [] := rfl
    rw [wq] at rest
    show tOr _ _ _ _ _
    refine or_pure (decide ((1 : Int) < ((V.ref ga :: gr).length : Nat))) ((!decide ((kvs.length : Int) = (u1.length : Int))) || !decide ((dvs.length : Int) = (u2.length : Int))) (fun R h => ⟨_, rfl, D5, _, rfl, .inl (SqL.of h2), _, _, rfl, rfl, _, rfl, h⟩) (fun _ R h => ?_) (fun h => ?_) (fun h1 h2' => ?_)
    · show tOr _ _ _ _ _
      refine or_pure (!decide ((kvs.length : Int) = (u1.length : Int))) (!decide ((dvs.length : Int) = (u2.length : Int))) (fun R2 h2' => ⟨_, rfl, pa, _, _, .ref ka, rfl, rfl, Same.tup e12 hp, at_of (j := 2) rfl rfl, ka, kvs, rfl, .inr (Same.tup e12 hka), _, rfl, D5, _, _, .ref ga, rfl, rfl, SqL.of h2, at_of (j := 0) rfl rfl, ga, _, _, .ref b1a, rfl, rfl, Same.tup e2 hga, at_of (j := 1) rfl rfl, b1a, u1, rfl, .inr (Same.tup e2 h1a), rfl, _, rfl, ?_⟩)
        (fun _ R2 h2' => ⟨_, rfl, pa, _, _, .ref da, rfl, rfl, Same.tup e12 hp, at_of (j := 3) rfl rfl, da, dvs, rfl, .inr (Same.tup e12 hda), _, rfl, D5, _, _, .ref ga, rfl, rfl, SqL.of h2, at_of (j := 0) rfl rfl, ga, _, _, .ref b2a, rfl, rfl, Same.tup e2 hga, at_of (j := 2) rfl rfl, b2a, u2, rfl, .inr (Same.tup e2 h2a), rfl, _, rfl, ?_⟩) (fun h3 => ?_) (fun h3 h4 => ?_)
      · rw [eqV_int]
        exact h2'
      · rw [eqV_int]
        exact h2'
      · rw [show ((!decide ((kvs.length : Int) = (u1.length : Int))) || !decide ((dvs.length : Int) = (u2.length : Int))) = true from Bool.or_eq_true_iff.mpr h3] at h
        exact h
      · rw [h3, h4] at h
        exact h
    · refine iteT ?_
      refine ⟨_, rfl, .inl ⟨rfl, _, SqL.of hD2⟩, D, [], _, rfl, rfl, hD2, (by show 0 < sizeLine; decide), rest _ (put _) ?_⟩
      rw [upd_same, if_pos]
      · rfl
      · rcases h with h | h
        · refine .inl fun z => ?_
          have := of_decide_eq_true h
          rw [List.length_cons, lr, List.length_eq_zero_iff.mpr (List.map_eq_nil_iff.mp z)] at this
          omega
        · rcases Bool.or_eq_true_iff.mp h with h | h
          · refine .inr (.inl fun z => ?_)
            rw [decide_eq_true (by omega)] at h
            cases h
          · refine .inr (.inr fun z => ?_)
            rw [decide_eq_true (by omega)] at h
            cases h
    · refine iteF ?_
      dsimp only [tNext]
      refine rest H2 e12 ?_
      rw [if_neg]
      · exact hD2
      · have f1 := of_decide_eq_false h1
        obtain ⟨f2, f3⟩ := Bool.or_eq_false_iff.mp h2'
        rintro (z | z | z)
        · refine z (List.map_eq_nil_iff.mpr (List.length_eq_zero_iff.mp ?_))
          rw [List.length_cons, lr] at f1
          omega
        · rw [decide_eq_false (by omega)] at f2
          cases f2
        · rw [decide_eq_false (by omega)] at f3
          cases f3
end
end Sc
namespace Sc
open PySem PySem.Spec PyProof.Rows L2
/-! ### _law_wrongs -/
theorem dp_word {K : PySem.W.Frag} {H : Hp} {v : V} {w : Str} {ds : List PyData} (h : Dp K H v (.tuple (.str w :: ds))) : ∃ pa vs, v = .ref pa ∧ SqT K H pa (.str w :: vs) ∧ DpAll K H vs ds := by
  cases h with
  | tup h1 h2 =>
  cases h2 with
  | cons a1 a2 =>
  cases a1
  exact ⟨_, _, rfl, h1, a2⟩
theorem dp_tup {K : PySem.W.Frag} {H : Hp} {v : V} {ds : List PyData} (h : Dp K H v (.tuple ds)) : ∃ pa vs, v = .ref pa ∧ SqT K H pa vs ∧ DpAll K H vs ds := by
  cases h with
  | tup h1 h2 => exact ⟨_, _, rfl, h1, h2⟩
theorem dps_one {K : PySem.W.Frag} {H : Hp} {vs : List V} {d : PyData} (h : DpAll K H vs [d]) : ∃ v, vs = [v] ∧ Dp K H v d := by
  cases h with
  | cons a b => cases b; exact ⟨_, rfl, a⟩
theorem chars_b : ∀ q ∈ frmL, (catL q.2).length = q.2.length ∧ ((List.range q.2.length).all fun k => match (catL q.2).cps[k]?, q.2[k]? with | some c, some s => decide (s = ⟨#[c]⟩) | _, _ => false) = true := by decide +kernel
theorem chars_at {w : Str} {sg : List Str} (h : (w, sg) ∈ frmL) {k : Nat} (hk : k < sg.length) : ∃ c s, (catL sg).cps[k]? = some c ∧ sg[k]? = some s ∧ s = ⟨#[c]⟩ := by
  have z := List.all_eq_true.mp (chars_b _ h).2 k (List.mem_range.mpr hk)
  revert z
  show (match (catL sg).cps[k]?, sg[k]? with | some c, some s => decide (s = ⟨#[c]⟩) | _, _ => false) = true → _
  cases (catL sg).cps[k]? with
  | none => intro z; cases z
  | some c =>
    cases sg[k]? with
    | none => intro z; cases z
    | some s => exact fun z => ⟨c, s, rfl, rfl, of_decide_eq_true z⟩
theorem chars_len {w : Str} {sg : List Str} (h : (w, sg) ∈ frmL) : (catL sg).length = sg.length := (chars_b _ h).1
theorem chars_seven : ∀ q ∈ frmL, ∀ s ∈ q.2, s = ("w" : Str) ∨ s = ("e" : Str) ∨ s = ("l" : Str) ∨ s = ("k" : Str) ∨ s = ("x" : Str) ∨ s = ("f" : Str) ∨ s = ("a" : Str) := by decide +kernel
theorem ends_tex {t : Str} (h : Tex t) : Txt.endswith t "\n" = false := by
  cases e : Txt.endswith t "\n" with
  | false => rfl
  | true =>
    exfalso
    unfold Txt.endswith at e
    rw [Bool.and_eq_true, PySem.StrLaws.subAt_eq] at e
    have e2 : (t.cps.toList.drop (t.length - 1)).take 1 = [10] := eq_of_beq e.2
    have m : 10 ∈ t.cps.toList.drop (t.length - 1) := List.mem_of_mem_take (by rw [e2]; exact List.mem_cons_self)
    have := h.2 10 (List.mem_of_mem_drop m)
    omega
theorem ends_nl (t : Str) : Txt.endswith (t ++ ("\n" : Str)) "\n" = true := by
  have la : t.cps.toList.length = t.length := Array.length_toList
  have s : Builtin.Str.subAt (t ++ ("\n" : Str)) "\n" t.length = true := by
    rw [PySem.StrLaws.subAt_eq, app_list, ← la, List.drop_left]
    decide +kernel
  have l1 : ("\n" : Str).length = 1 := by decide +kernel
  have e : (t ++ ("\n" : Str)).length = t.length + 1 := by rw [PySem.Str.length_append, l1]
  unfold Txt.endswith
  rw [e, l1, show t.length + 1 - 1 = t.length from rfl, s, Bool.and_true]
  exact decide_eq_true (by omega)
theorem ten_tex {t : Str} (h : Tex t) : 10 ∉ t.cps.toList := fun m => by
  have := h.2 10 m
  omega
theorem ten_app (t : Str) : 10 ∈ (t ++ ("\n" : Str)).cps.toList := by
  rw [app_list]
  exact List.mem_append_right _ (by decide +kernel)
theorem strsD_app (a b : List PyData) : strsD (a ++ b) = strsD a ++ strsD b := by
  induction a with
  | nil => rfl
  | cons d a ih =>
    cases d with
    | str z =>
      show z :: strsD (a ++ b) = z :: (strsD a ++ strsD b)
      rw [ih]
    | _ => exact ih
theorem ws_step {sg : List Str} {ds : List PyData} {j : Nat} {s : Str} {d : PyData} (h1 : sg[j]? = some s) (h2 : ds[j]? = some d) : wsOf (sg.take (j + 1)) (ds.take (j + 1)) = wsOf (sg.take j) (ds.take j) ++ (if s = ("w" : Str) then strsD [d] else []) := by
  have l1 := (List.getElem?_eq_some_iff.mp h1).1
  have l2 := (List.getElem?_eq_some_iff.mp h2).1
  unfold wsOf
  rw [List.take_add_one, List.take_add_one, h1, h2]
  show strsD ((((sg.take j ++ [s]).zip (ds.take j ++ [d])).filter _).map _) = _
  rw [List.zip_append (by rw [List.length_take, List.length_take]; omega), List.filter_append, List.map_append, strsD_app]
  congr 1
  by_cases e : s = ("w" : Str)
  · rw [if_pos e]
    show strsD ((List.filter (fun p => p.1 == ("w" : Str)) [(s, d)]).map _) = _
    rw [List.filter_cons_of_pos (by show (s == ("w" : Str)) = true; rw [e]; exact beq_self_eq_true _)]
    rfl
  · rw [if_neg e]
    show strsD ((List.filter (fun p => p.1 == ("w" : Str)) [(s, d)]).map _) = _
    rw [List.filter_cons_of_neg (by show ¬ (s == ("w" : Str)) = true; exact fun z => e (eq_of_beq z))]
    rfl
theorem rg_step (f : Nat → List Str) (j : Nat) : (List.range (j + 1)).flatMap f = (List.range j).flatMap f ++ f j := by
  rw [List.range_succ, List.flatMap_append, List.flatMap_singleton]
def strC (p : Str → List Str) : PyData → List Str
  | .str z => p z
  | _ => []
theorem wrAt_eq {rec : List Str → PyData → List Str} {ls ns : List Str} {w : Str} {sg : List Str} {ts : List PyData} {k : Nat} {s : Str} {d : PyData} (h1 : sg[k]? = some s) (h2 : ts[k]? = some d) :
    wrAt rec ls ns w sg ts k = if s = ("w" : Str) then (if w = ("fold" : Str) ∧ k = 2 ∧ ts[2]?.map strO = ts[0]?.map strO then lT else [])
      else if s = ("e" : Str) then rec ns d else if s = ("l" : Str) then rec (ns ++ wsOf (sg.take k) (ts.take k)) d
      else if s = ("k" : Str) then (if gK ls 9 d then [] else lK)
      else if s = ("x" : Str) then strC (fun z => if z ∈ ns then [] else lN) d
      else if s = ("f" : Str) then strC (fun z => if z = ("A" : Str) then lP else []) d
      else strC (fun z => if z = ("rows" : Str) then lP else []) d := by
  unfold wrAt
  rw [h1, h2]
  cases d <;> rfl
def badR (ts : List PyData) (zs : List Str) : Bool := ts.isEmpty || (!ascB zs || (decide (("A" : Str) ∈ zs) || decide (nineQ ∈ zs)))
/-- a row or a shape -/
def RoS (fn : Str → Prop) (n : Nat) (w0 : Str) (ts : List PyData) (zs : List Str) (sub : PyData → PyData) : Prop :=
  ((w0 = ("row" : Str) ∧ zs = [] ∧ (∀ x, sub x = x)) ∨ (w0 = ("shape" : Str) ∧ ∃ qs : List (Str × PyData), ts = qs.map mkP ∧ zs = qs.map (·.1) ∧ ∀ x, sub x = sndP x)) ∧ ts.length ≤ 4 ∧ zs.length ≤ 4 ∧ (∀ z ∈ zs, Word z ∨ z = "A" ∨ z = nineQ) ∧ (∀ x ∈ ts, Lo fn n (sub x)) ∧
  ∀ (m : Nat) (ls ns : List Str) (fs : List (Str × Nat × Nat)), wrP (m + 1) ls fs ns (.tuple [.str w0, .tuple ts]) = ts.flatMap (fun x => wrP m ls fs ns (sub x)) ++ (if badR ts zs then lP else [])
theorem ros_row {fn : Str → Prop} {n : Nat} {ds : List PyData} (a : ds.length ≤ 3) (al : ∀ d ∈ ds, Lo fn n d) : RoS fn n "row" ds [] id := by
  refine ⟨.inl ⟨rfl, rfl, fun _ => rfl⟩, by omega, by show 0 ≤ 4; decide, fun z hz => (by cases hz), al, fun m ls ns fs => ?_⟩
  rw [wr_row]
  have e : badR ds [] = ds.isEmpty := by
    unfold badR
    rw [show (!ascB [] || (decide (("A" : Str) ∈ ([] : List Str)) || decide (nineQ ∈ ([] : List Str)))) = false by decide +kernel, Bool.or_false]
  rw [e]
  rfl
theorem ros_shape {fn : Str → Prop} {n : Nat} {qs : List (Str × PyData)} (a : qs.length ≤ 4) (b : ∀ q ∈ qs, Word q.1 ∨ q.1 = "A" ∨ q.1 = nineQ) (al : ∀ q ∈ qs, Lo fn n q.2) : RoS fn n "shape" (qs.map mkP) (qs.map (·.1)) sndP := by
  refine ⟨.inr ⟨rfl, qs, rfl, rfl, fun _ => rfl⟩, by rw [List.length_map]; omega, by rw [List.length_map]; omega, fun z hz => ?_, fun x hx => ?_, fun m ls ns fs => ?_⟩
  · obtain ⟨q, hq, rfl⟩ := List.mem_map.mp hz
    exact b q hq
  · obtain ⟨q, hq, rfl⟩ := List.mem_map.mp hx
    exact al q hq
  · rw [wr_shape]
    have e : badFs ((qs.map mkP).map nameD) = badR (qs.map mkP) (qs.map (·.1)) := by
      rw [List.map_map]
      show badFs (qs.map (·.1)) = _
      unfold badFs badR
      rw [Bool.or_assoc, Bool.or_assoc]
      cases qs <;> rfl
    rw [e]
theorem name_lay {z : Str} (h : Word z ∨ z = "A" ∨ z = nineQ) : PyData.canLay0 (.str z) = true := by
  rcases h with h | h | h
  · exact (okN_word h).1
  · rw [h]; decide +kernel
  · rw [h]; decide +kernel
section
variable {P : Program} {w : World} {K : PySem.W.Frag} {mg : Str → Option Value} {base : Heap}
abbrev nWr : List Str := ["_law_m", "_law_part", "_law_known", "_law_word", "_law_found", "_law_fields", "_law_bad", "_law_one", "_law_inner", "_law_form", "_law_k", "_law_piece", "_law_pair"]
theorem scWr : FnScope nWr ["_law_m", "_law_part", "_law_known"] (defScope sWrongs) := ⟨rfl, rfl, rfl, by decide +kernel, rfl, by decide +kernel, by decide +kernel⟩
set_option maxHeartbeats 4000000 in
theorem c_wr_step {n lv : Nat} (T : Tx K mg) (lv2 : 2 ≤ lv) (CC : Cal P w K mg base lv "_law_wrongs_call" ["_law_m", "_law_part", "_law_known"] (spWc K n)) (CR : Cal P w K mg base lv "_law_wrongs" ["_law_m", "_law_part", "_law_known"] (spWr K n)) :
    Cal P w K mg base (lv + 1) "_law_wrongs" ["_law_m", "_law_part", "_law_known"] (spWr K (n + 1)) := by
  have CK : Cal P w K mg base 2 "_law_kind_bad" ["_law_kind", "_law_letters"] (spKbL K) := c_kind_bad T
  have CF : Cal P w K mg base 1 "_law_form_of" ["_law_word"] (spFormL K) := c_l_form T
  refine T.wrongs.ok scWr (fun vs H Q E h => ?_) (fun f cdv A outer s0 H vs Q E hr h => ?_)
  · obtain ⟨ma, na, v, d, ls, ns, es, fn, m, rfl, _⟩ := h
    rfl
  have hu := hu_of hr
  have hU := hr.units
  have r1 : Room 1 _ := hr.mono (show 1 ≤ lv by omega)
  have r2 : Room 2 _ := hr.mono lv2
  refine ⟨_, pss_cons (ps_set (i := 3) scWr.nd rfl (Or.inl rfl) (pe_ix ix_tup (pv 1) pe_int (fun _ _ => rfl))) <|
    pss_cons (ps_if (pt_cmpR op_eq (pv 3) pe_str (nomark _)) (pss_one (ps_ret (pe_ifExp (pt_cmpR op_ge (pe_callB call_abs (by rfl) T.m_abs (by decide +kernel) (pa_cons (pe_ix ix_tup (pv 1) pe_int (fun _ _ => rfl)) pa_nil)) (pe_op op_pow pe_int pe_int) (nomark _)) (pe_lst (pa_cons pe_str pa_nil)) (pe_lst pa_nil)))) pss_nil) <|
    pss_cons (ps_if (pt_cmpR op_eq (pv 3) pe_str (nomark _)) (pss_one (ps_ret (pe_ifExp (pt_val (pe_m1 PySem.F.slot_str_endswith PySem.F.type_str_endswith mt_endswith (pe_ix ix_tup (pv 1) pe_int (fun _ _ => rfl)) pe_str)) (pe_lst (pa_cons pe_str pa_nil)) (pe_lst pa_nil)))) pss_nil) <|
    pss_cons (ps_if (pt_cmpR op_eq (pv 3) pe_str (nomark _)) (pss_one (ps_ret (pe_cal CC hr (pa_cons (pv 0) (pa_cons (pv 1) (pa_cons (pv 2) pa_nil)))))) pss_nil) <|
    pss_cons (ps_set (i := 4) scWr.nd rfl (Or.inl rfl) (pe_lst pa_nil)) <|
    pss_cons (ps_if (PW.pt (pw_or (pt_cmpR op_eq (pv 3) pe_str (nomark _)) (pw_or1 (pt_cmpR op_eq (pv 3) pe_str (nomark _)))))
      (pss_cons (ps_set (i := 5) scWr.nd rfl (Or.inl rfl) (pe_ifExp (pt_cmpR op_eq (pv 3) pe_str (nomark _)) (pe_lc (own := [("_law_pair", 12)]) (g := gName 12) (tt := tYes) rfl scWr.nd (pi_tup (pe_ix ix_tup (pv 1) pe_int (fun _ _ => rfl))) (blkOk_by (N := nWr) (sc := defScope sWrongs) (by decide +kernel))
          (fun _ _ _ _ _ => pg_name (i := 12) scWr.nd rfl (Or.inl rfl)) (fun _ _ _ _ _ => pts_nil) (fun _ _ _ _ _ => pe_ix (ix_tupK K) (pv 12) pe_int (fun _ _ => rfl))) (pe_lst pa_nil))) <|
       pss_cons (ps_set (i := 6) scWr.nd rfl (Or.inl rfl) (pe_or (pe_cmpR op_eq (pe_callB call_len_seq (by rfl) T.m_len PySem.boot_len (pa_cons (pe_ix ix_tup (pv 1) pe_int (fun _ _ => rfl)) pa_nil)) pe_int (nomark _))
          (pe_or (pe_cmpR (op_neD hU) (pv 5) (pe_callB (cr_txSorted rfl) (by rfl) T.m_sorted (by decide +kernel) (pa_cons (pe_callTy (cr_txSet rfl) (by rfl) T.m_set (by decide +kernel) (pa_cons (pv 5) pa_nil)) pa_nil)) (nomark _))
          (pe_or (pe_cmpR op_in_seq pe_str (pv 5) (by rfl)) (pe_one (pe_cmpR op_in_seq (pe_op op_reps pe_str pe_int) (pv 5) (by rfl))))))) <|
       pss_cons (ps_for PassesOwn.never rfl (pi_tup (pe_ix ix_tup (pv 1) pe_int (fun _ _ => rfl))) (pg_name (i := 7) scWr.nd rfl (Or.inl rfl))
          (pss_one (ps_expr (pe_bm PySem.F.plainAttrs_list PySem.F.slot_list_extend PySem.F.type_list_extend mt_extend (pv 4) (pa_cons (pe_cal CR hr (pa_cons (pv 0) (pa_cons (pe_ifExp (pt_cmpR op_eq (pv 3) pe_str (nomark _)) (pv 7) (pe_ix ix_tup (pv 7) pe_int (fun _ _ => rfl))) (pa_cons (pv 2) pa_nil)))) pa_nil))))) <|
       pss_one (ps_ret (pe_op op_cat (pv 4) (pe_ifExp (pt_val (pv 6)) (pe_lst (pa_cons pe_str pa_nil)) (pe_lst pa_nil))))) pss_nil) <|
    pss_cons (ps_set (i := 8) scWr.nd rfl (Or.inl rfl) (pe_callTy call_list_of (by rfl) T.m_list (by decide +kernel) (pa_cons (pv 2) pa_nil))) <|
    pss_cons (ps_set (i := 9) scWr.nd rfl (Or.inl rfl) (pe_cal CF r1 (pa_cons (pv 3) pa_nil))) <|
    pss_cons (ps_for PassesOwn.never rfl (pi_range1 rfl T.m_range (pa_cons (pe_callB call_len_str (by rfl) T.m_len PySem.boot_len (pa_cons (pv 9) pa_nil)) pa_nil)) (pg_name (i := 10) scWr.nd rfl (Or.inl rfl))
      (pss_cons (ps_set (i := 11) scWr.nd rfl (Or.inl rfl) (pe_ix ix_tup (pv 1) (pe_op op_add (pv 10) pe_int) (fun _ _ => rfl))) <|
       pss_one (ps_if (pt_cmpR op_eq (pe_item_str (pv 9) (pv 10) (fun _ _ => rfl)) pe_str (nomark _))
         (pss_cons (ps_expr (pe_bm PySem.F.plainAttrs_list PySem.F.slot_list_append PySem.F.type_list_append mt_append (pv 8) (pa_cons (pv 11) pa_nil))) <|
          pss_one (ps_if (PW.pt (pw_and (pt_cmpR op_eq (pv 3) pe_str (nomark _)) (pw_and (pt_cmpR op_eq (pv 10) pe_int (nomark _)) (pw_and1 (pt_cmpR op_eq (pv 11) (pe_ix ix_tup (pv 1) pe_int (fun _ _ => rfl)) (nomark _))))))
            (pss_one (ps_expr (pe_bm PySem.F.plainAttrs_list PySem.F.slot_list_append PySem.F.type_list_append mt_append (pv 4) (pa_cons pe_str pa_nil)))) pss_nil))
         (pss_one (ps_if (PW.pt (pw_or (pt_cmpR op_eq (pe_item_str (pv 9) (pv 10) (fun _ _ => rfl)) pe_str (nomark _)) (pw_or1 (pt_cmpR op_eq (pe_item_str (pv 9) (pv 10) (fun _ _ => rfl)) pe_str (nomark _)))))
           (pss_one (ps_expr (pe_bm PySem.F.plainAttrs_list PySem.F.slot_list_extend PySem.F.type_list_extend mt_extend (pv 4) (pa_cons (pe_cal CR hr (pa_cons (pv 0) (pa_cons (pv 11) (pa_cons (pe_ifExp (pt_cmpR op_eq (pe_item_str (pv 9) (pv 10) (fun _ _ => rfl)) pe_str (nomark _)) (pv 2) (pv 8)) pa_nil)))) pa_nil))))
           (pss_one (ps_if (PW.pt (pw_and (pt_cmpR op_eq (pe_item_str (pv 9) (pv 10) (fun _ _ => rfl)) pe_str (nomark _)) (pw_and1 (pt_val (pe_cal CK r2 (pa_cons (pv 11) (pa_cons (pe_dget hu (pv 0) pe_str (fun _ _ => rfl)) pa_nil)))))))
             (pss_one (ps_expr (pe_bm PySem.F.plainAttrs_list PySem.F.slot_list_append PySem.F.type_list_append mt_append (pv 4) (pa_cons pe_str pa_nil))))
             (pss_one (ps_if (PW.pt (pw_and (pt_cmpR op_eq (pe_item_str (pv 9) (pv 10) (fun _ _ => rfl)) pe_str (nomark _)) (pw_and1 (pt_cmpR op_notIn_seq (pv 11) (pv 2) (by rfl)))))
               (pss_one (ps_expr (pe_bm PySem.F.plainAttrs_list PySem.F.slot_list_append PySem.F.type_list_append mt_append (pv 4) (pa_cons pe_str pa_nil))))
               (pss_one (ps_if (PW.pt (pw_or (PW.pt (pw_and (pt_cmpR op_eq (pe_item_str (pv 9) (pv 10) (fun _ _ => rfl)) pe_str (nomark _)) (pw_and1 (pt_cmpR op_eq (pv 11) pe_str (nomark _))))) (pw_or1 (PW.pt (pw_and (pt_cmpR op_eq (pe_item_str (pv 9) (pv 10) (fun _ _ => rfl)) pe_str (nomark _)) (pw_and1 (pt_cmpR op_eq (pv 11) pe_str (nomark _))))))))
                 (pss_one (ps_expr (pe_bm PySem.F.plainAttrs_list PySem.F.slot_list_append PySem.F.type_list_append mt_append (pv 4) (pa_cons pe_str pa_nil)))) pss_nil))))))))))) <|
    pss_one (ps_ret (pv 4)), ?_⟩
  obtain ⟨ma, na, v, d, ls, ns, es, fn, m, rfl, M, hv, lo, n6, hn, nl, hm, q⟩ := h
  obtain ⟨ea, la, us, hma, hea, hes, hla⟩ := id M.at_
  obtain ⟨m, rfl⟩ : ∃ m', m = m' + 1 := ⟨m - 1, by omega⟩
  have made : ∀ (x : Str) (D : Addr), H D = none → (wrP (m + 1) ls (es.map fnOf3) ns d = [x]) → Q (.ref D) (upd H D (.lst [.str x])) := fun x D hD e => q D _ (same_new hD _) hD (by rw [upd_same, e]; rfl)
  have none_ : ∀ (D : Addr), H D = none → (wrP (m + 1) ls (es.map fnOf3) ns d = []) → Q (.ref D) (upd H D (.lst [])) := fun D hD e => q D _ (same_new hD _) hD (by rw [upd_same, e]; rfl)
  rcases (show (∃ w0 ts zs sub, d = .tuple [.str w0, .tuple ts] ∧ RoS fn n w0 ts zs sub) ∨ ((∀ ts, d ≠ .tuple [.str "row", .tuple ts]) ∧ ∀ ts, d ≠ .tuple [.str "shape", .tuple ts]) by
    cases lo with
    | row a al => exact .inl ⟨_, _, _, _, rfl, ros_row a al⟩
    | shape a b al => exact .inl ⟨_, _, _, _, rfl, ros_shape a b al⟩
    | form a _ _ _ =>
      obtain ⟨_, _, _, _, n4, n5, _⟩ := frm_form _ a
      exact .inr ⟨fun ts e => n4 (by injection e with e; injection e with e _; injection e), fun ts e => n5 (by injection e with e; injection e with e _; injection e)⟩
    | _ => exact .inr ⟨fun ts e => by injection e with e; injection e with e _; injection e with e; revert e; decide +kernel, fun ts e => by injection e with e; injection e with e _; injection e with e; revert e; decide +kernel⟩) with ⟨w0, ts, zs, sub, ed, ros⟩ | nrs
  · subst ed
    -- a row or a shape
    obtain ⟨hw, t4, z4, zok, al, ew⟩ := ros
    obtain ⟨pa, vs0, rfl, hp, hd⟩ := dp_word hv
    obtain ⟨v1, rfl, hd1⟩ := dps_one hd
    obtain ⟨qa, vs, rfl, hq, hqs⟩ := dp_tup hd1
    have w1 : w0 ≠ ("num" : Str) ∧ w0 ≠ ("text" : Str) ∧ w0 ≠ ("call" : Str) := by rcases hw with ⟨e, _⟩ | ⟨e, _⟩ <;> rw [e] <;> decide +kernel
    have lvs : vs.length = ts.length := DpAll.len hqs
    refine ⟨_, rfl, pa, _, _, _, rfl, rfl, hp, at_of (j := 0) rfl rfl, ?_⟩
    dsimp only [gName]
    refine ⟨_, rfl, rfl, _, rfl, iteNo (fun z => w1.1 (V.str.inj (of_decide_eq_true z))) ?_⟩
    dsimp only [tNext]
    refine ⟨_, rfl, rfl, _, rfl, iteNo (fun z => w1.2.1 (V.str.inj (of_decide_eq_true z))) ?_⟩
    dsimp only [tNext]
    refine ⟨_, rfl, rfl, _, rfl, iteNo (fun z => w1.2.2 (V.str.inj (of_decide_eq_true z))) ?_⟩
    dsimp only [tNext]
    refine ⟨(by show 0 ≤ sizeLine; decide), fun D hD => ?_⟩
    dsimp only [gName]
    have e1 := same_new hD (.lst [])
    have hD1 : (upd H D (.lst [])) D = some (.lst []) := upd_same
    generalize (upd H D (.lst [])) = H1 at e1 hD1 ⊢
    show tOr _ _ _ _ _
    refine or_pure (decide (V.str w0 = V.str "row")) (decide (V.str w0 = V.str "shape")) (fun R h => ⟨_, rfl, rfl, _, rfl, h⟩) (fun _ R h => ⟨_, rfl, rfl, _, rfl, h⟩) (fun _ => iteT ?_) (fun g1 g2 => by
      rcases hw with ⟨e, _⟩ | ⟨e, _⟩
      · exact absurd (congrArg V.str e) (of_decide_eq_false g1)
      · exact absurd (congrArg V.str e) (of_decide_eq_false g2))
    refine seq_with (fun R => ∀ (F : Addr) (H2 : Hp), Same H1 H2 → H2 F = some (.lst (zs.map V.str)) → R [some (.ref ma), some (.ref pa), some (.ref na), some (.str w0), some (.ref D), some (.ref F), none, none, none, none, none, none, none] H2) ?_ (fun rest => ?_)
    rotate_left
    · rcases hw with ⟨e, ez, _⟩ | ⟨e, qs, et, ez, _⟩
      · subst e ez
        refine ⟨_, rfl, rfl, _, rfl, iteNo (by decide +kernel) ⟨(by show 0 ≤ sizeLine; decide), fun F hF => rest F _ (same_new hF _) upd_same⟩⟩
      · subst e et ez
        refine ⟨_, rfl, rfl, _, rfl, iteYes (by decide +kernel) ⟨_, rfl, pa, _, _, .ref qa, rfl, rfl, Same.tup e1 hp, at_of (j := 1) rfl rfl, qa, rfl, ⟨_, Same.tup e1 hq⟩, fun F hF => ?_⟩⟩
        refine lc_tup (K := K) (a := qa) (xs := vs) (fun j H2 => Same H1 H2 ∧ H2 F = some (.lst (((qs.map (·.1)).take j).map V.str))) ⟨same_new hF _, upd_same⟩ (fun j H2 _ h => Same.tup h.1 (Same.tup e1 hq)) ?_ ?_
        · rintro j x H2 hx ⟨e2, h2⟩
          obtain ⟨d', g1, g2⟩ := DpAll.get hqs hx
          rw [List.getElem?_map] at g1
          obtain ⟨q0, hq0, rfl⟩ := Option.map_eq_some_iff.mp g1
          obtain ⟨xa, xs, rfl, hx1, hx2⟩ := dp_word (show Dp K H x (.tuple [.str q0.1, q0.2]) from g2)
          refine ⟨rfl, _, rfl, xa, _, _, _, rfl, rfl, Same.tup (Same.trans e1 e2) hx1, at_of (j := 0) rfl rfl, _, h2, small1000 (by rw [List.length_map]; exact Nat.le_trans (List.length_take_le' _ _) (by omega)), fun b o hb => ?_, ?_⟩
          · rw [upd_ne (ne_of_none hb hF)]
            exact e2 b o hb
          · rw [upd_same, List.take_add_one, List.getElem?_map, hq0, List.map_append]
            rfl
        rintro H2 ⟨e2, h2⟩
        rw [lvs, List.length_map, List.take_of_length_le (by rw [List.length_map]; exact Nat.le_refl _)] at h2
        exact rest F H2 e2 h2
    intro F H2 e2 hF2
    have e12 := Same.trans e1 e2
    refine seq_with (fun R => ∀ (H3 : Hp), Same H2 H3 → R [some (.ref ma), some (.ref pa), some (.ref na), some (.str w0), some (.ref D), some (.ref F), some (.bl (badR ts zs)), none, none, none, none, none, none] H3) ?_ (fun rest => ?_)
    rotate_left
    · dsimp only [gName]
      have bad : ∀ b : Bool, badR ts zs = b → ∀ H3, Same H2 H3 → _ := fun b eb H3 e3 => by
        have r := rest H3 e3
        rw [eb] at r
        exact r
      refine ⟨_, rfl, pa, _, _, .ref qa, rfl, rfl, Same.tup e12 hp, at_of (j := 1) rfl rfl, qa, vs, rfl, .inr (Same.tup e12 hq), rfl, _, rfl, ?_⟩
      rw [eqV_int]
      by_cases z0 : vs.length = 0
      · refine iteYes (decide_eq_true (by omega)) (bad true ?_ H2 (Same.refl _))
        rw [lvs] at z0
        unfold badR
        rw [List.length_eq_zero_iff.mp z0]
        rfl
      have te : ts.isEmpty = false := by
        cases ts with
        | nil => exact absurd lvs z0
        | cons _ _ => rfl
      have eb0 : badR ts zs = (!ascB zs || (decide (("A" : Str) ∈ zs) || decide (nineQ ∈ zs))) := by
        unfold badR
        rw [te, Bool.false_or]
      rw [eb0] at bad
      refine iteNo (fun z => z0 (by have := of_decide_eq_true z; omega)) ?_
      refine ⟨_, rfl, _, rfl, F, zs, rfl, SqL.of hF2, by omega, fun t mm ht hmm => ⟨t, _, mm, rfl, upd_same, by omega, fun ys p so nd mem ln hp0 => ?_⟩⟩
      have mem' : ∀ x, x ∈ ys ↔ x ∈ zs := fun x => (mem x).trans decide_eq_true_iff
      generalize TxO _ t (fun y => decide (y ∈ zs)) mm = o3 at hp0 ⊢
      have e5 := Same.trans (same_new ht o3) (same_new hp0 (.lst (ys.map V.str)))
      have hF5 := e5 _ _ hF2
      refine ⟨.list (zs.map .str), .list (ys.map .str), .lst (SqL.of hF5) (dp_strs zs), .lst (SqL.of upd_same) (dp_strs ys), shaped_strs fun z hz => name_lay (zok z hz), shaped_strs fun z hz => name_lay (zok z ((mem' z).mp hz)), ?_⟩
      have ev : PyData.eqv (.list (zs.map .str)) (.list (ys.map .str)) = ascB zs := (eqv_strs zs ys).trans (asc_eq so nd mem')
      rw [ev]
      generalize (upd (upd H2 t o3) p (.lst (ys.map V.str))) = H3 at e5 hF5 ⊢
      refine ⟨_, rfl, ?_⟩
      cases ea : ascB zs with
      | false => exact iteYes rfl (bad true (by rw [ea]; rfl) H3 e5)
      | true =>
      refine iteNo Bool.false_ne_true ?_
      rw [ea, show (!true || (decide (("A" : Str) ∈ zs) || decide (nineQ ∈ zs))) = (decide (("A" : Str) ∈ zs) || decide (nineQ ∈ zs)) from rfl] at bad
      refine ⟨_, rfl, F, _, rfl, .inl (SqL.of hF5), rfl, flat_strs _, ?_⟩
      rw [in_strs]
      refine ⟨_, rfl, ?_⟩
      cases eA : decide (("A" : Str) ∈ zs) with
      | true => exact iteYes rfl (bad true (by rw [eA]; rfl) H3 e5)
      | false =>
      refine iteNo Bool.false_ne_true ?_
      rw [eA, Bool.false_or] at bad
      refine ⟨113, 9, rfl, rfl, by decide, by decide, _, rfl, F, _, rfl, .inl (SqL.of hF5), rfl, flat_strs _, ?_⟩
      rw [in_strs]
      exact bad _ rfl H3 e5
    intro H3 e3
    have e13 := Same.trans e12 e3
    dsimp only [gName]
    have hD3 : H3 D = some (.lst []) := e3 _ _ (e2 _ _ hD1)
    have n6' : 6 ^ n ≤ 6 ^ 5 := Nat.pow_le_pow_right (by decide) (by omega)
    have len : ∀ j, ((ts.take j).flatMap fun x => wrP m ls (es.map fnOf3) ns (sub x)).length ≤ 4 * (10 * 6 ^ n) := fun j => by
      have := flat_len (l := ts.take j) (f := fun x => wrP m ls (es.map fnOf3) ns (sub x)) (b := 10 * 6 ^ n) fun d hd => wr_len (al d (List.mem_of_mem_take hd)) (by omega)
      exact Nat.le_trans this (Nat.mul_le_mul_right _ (Nat.le_trans (List.length_take_le' _ _) t4))
    refine ⟨_, rfl, pa, _, _, .ref qa, rfl, rfl, Same.tup e13 hp, at_of (j := 1) rfl rfl, qa, rfl, ⟨_, Same.tup e13 hq⟩, ?_⟩
    refine for_tup (K := K) (a := qa) (xs := vs) (fun j σ5 H5 => Same H H5 ∧ H5 D = some (.lst (((ts.take j).flatMap fun x => wrP m ls (es.map fnOf3) ns (sub x)).map V.str)) ∧ ∃ o, σ5 = [some (.ref ma), some (.ref pa), some (.ref na), some (.str w0), some (.ref D), some (.ref F), some (.bl (badR ts zs)), o, none, none, none, none, none])
      ⟨e13, by rw [List.take_zero, List.flatMap_nil]; exact hD3, _, rfl⟩ (fun j σ5 H5 _ h => Same.tup h.1 hq) ?_ ?_
    · rintro j x σ5 H5 hx ⟨e5, h5, o, rfl⟩
      obtain ⟨d', g1, g2⟩ := DpAll.get hqs hx
      have md := List.mem_of_getElem? g1
      have lj := len j
      have ld := wr_len (ls := ls) (fs := es.map fnOf3) (ns := ns) (al d' md) (m := m) (by omega)
      dsimp only [gName]
      have fin : ∀ (l : Addr) (H6 : Hp), Same H5 H6 → H5 l = none → H6 l = some (.lst ((wrP m ls (es.map fnOf3) ns (sub d')).map V.str)) → ∃ (l' b : Addr) (xs ys : List V), V.ref D = .ref l' ∧ ([.ref l] : List V) = [.ref b] ∧ H6 l' = some (.lst xs) ∧ H6 b = some (.lst ys) ∧ xs.length + ys.length ≤ sizeLine ∧
          (Same H (upd H6 l' (.lst (xs ++ ys))) ∧ (upd H6 l' (.lst (xs ++ ys))) D = some (.lst (((ts.take (j + 1)).flatMap fun x => wrP m ls (es.map fnOf3) ns (sub x)).map V.str)) ∧ ∃ o, ([some (.ref ma), some (.ref pa), some (.ref na), some (.str w0), some (.ref D), some (.ref F), some (.bl (badR ts zs)), some x, none, none, none, none, none] : L2.St) = [some (.ref ma), some (.ref pa), some (.ref na), some (.str w0), some (.ref D), some (.ref F), some (.bl (badR ts zs)), o, none, none, none, none, none]) := fun l H6 e6 hl0 hl => by
        have nDl : D ≠ l := ne_of_none h5 hl0
        refine ⟨D, l, _, _, rfl, rfl, e6 _ _ h5, hl, ?_, fun b o hb => ?_, ?_, _, rfl⟩
        · rw [List.length_map, List.length_map]
          have : sizeLine = 16777216 := by decide
          omega
        · rw [upd_ne (ne_of_none hb hD)]
          exact e6 _ _ (e5 b o hb)
        · rw [upd_same, List.take_add_one, g1, List.flatMap_append, List.map_append]
          simp
      refine ⟨_, rfl, .inl ⟨rfl, _, SqL.of h5⟩, _, rfl, _, rfl, rfl, _, rfl, ?_⟩
      have g3 := KeepL.dp (Same.keepL e5) g2
      rcases hw with ⟨e, _, es2⟩ | ⟨e, qs, et, _, es2⟩
      · subst e
        refine iteYes (by decide +kernel) ⟨_, rfl, _, rfl, ma, na, x, sub d', ls, ns, es, fn, m, rfl, M.same e5, by rw [es2]; exact g3, al d' md, by omega, Same.seq e5 hn, by omega, by omega, fun l H6 e6 hl0 hl => fin l H6 e6 hl0 hl⟩
      · subst e
        rw [et, List.getElem?_map] at g1
        obtain ⟨q0, hq0, rfl⟩ := Option.map_eq_some_iff.mp g1
        obtain ⟨xa, xs, rfl, hx1, hx2⟩ := dp_word (show Dp K H5 x (.tuple [.str q0.1, q0.2]) from g3)
        obtain ⟨v2, rfl, hd2⟩ := dps_one hx2
        refine iteNo (by decide +kernel) ⟨_, rfl, xa, _, _, v2, rfl, rfl, hx1, at_of (j := 1) rfl rfl, _, rfl, ma, na, v2, sub (mkP q0), ls, ns, es, fn, m, rfl, M.same e5, by rw [es2]; exact hd2, al _ md, by omega, Same.seq e5 hn, by omega, by omega, fun l H6 e6 hl0 hl => fin l H6 e6 hl0 hl⟩
    rintro σ5 H5 ⟨e5, h5, o, rfl⟩
    rw [lvs, List.take_length] at h5
    have lj := len ts.length
    rw [List.take_length] at lj
    have fin2 : ∀ (G : Addr) (H6 : Hp) (bs : List Str), Same H5 H6 → H6 G = some (.lst (bs.map V.str)) → bs.length ≤ 1 → bs = (if badR ts zs then lP else []) → ∃ (l b : Addr) (xs ys : List V), V.ref D = .ref l ∧ V.ref G = .ref b ∧ H6 l = some (.lst xs) ∧ H6 b = some (.lst ys) ∧ xs.length + ys.length ≤ sizeLine ∧ ∀ (p : Addr), H6 p = none → Q (.ref p) (upd H6 p (.lst (xs ++ ys))) := fun G H6 bs e6 hG lb eb => by
      refine ⟨D, G, _, _, rfl, rfl, e6 _ _ h5, hG, ?_, fun p hp0 => ?_⟩
      · rw [List.length_map, List.length_map]
        have : sizeLine = 16777216 := by decide
        omega
      · have e56 := Same.trans e5 e6
        refine q p _ (Same.trans e56 (same_new hp0 _)) (Same.free e56 hp0) ?_
        rw [upd_same, ew, List.map_append, eb]
    refine ⟨_, rfl, _, rfl, _, rfl, ?_⟩
    cases eb : badR ts zs with
    | true => exact iteYes rfl ⟨(by show 1 ≤ sizeLine; decide), fun G hG => fin2 G _ ["program"] (same_new hG _) upd_same (by decide) (by rw [eb]; rfl)⟩
    | false => exact iteNo Bool.false_ne_true ⟨(by show 0 ≤ sizeLine; decide), fun G hG => fin2 G _ [] (same_new hG _) upd_same (by decide) (by rw [eb]; rfl)⟩
  cases lo with
  | @num _ k a =>
    obtain ⟨pa, vs, rfl, hp, hd⟩ := dp_word hv
    obtain ⟨v1, rfl, hd1⟩ := dps_one hd
    cases hd1
    refine ⟨_, rfl, pa, _, _, _, rfl, rfl, hp, at_of (j := 0) rfl rfl, ?_⟩
    dsimp only [gName]
    refine ⟨_, rfl, rfl, _, rfl, iteYes (by decide +kernel) ?_⟩
    refine ⟨_, rfl, pa, _, _, .int k, rfl, rfl, hp, at_of (j := 1) rfl rfl, k, rfl, _, _, rfl, rfl, ⟨by decide, by decide, by decide⟩, _, _, rfl, rfl, _, rfl, ?_⟩
    by_cases c : 10 ^ 30 ≤ k.natAbs
    · refine iteYes (decide_eq_true (by show (10 : Int) ^ 30 ≤ if k < 0 then -k else k; split <;> omega)) ⟨(by show 1 ≤ sizeLine; decide), fun D hD => made "program" D hD (by rw [wr_num, if_pos c]; rfl)⟩
    · refine iteNo (fun z => c (by have z2 : (10 : Int) ^ 30 ≤ if k < 0 then -k else k := of_decide_eq_true z; revert z2; split <;> omega)) ⟨(by show 0 ≤ sizeLine; decide), fun D hD => none_ D hD (by rw [wr_num, if_neg c])⟩
  | @text _ t a =>
    obtain ⟨pa, vs, rfl, hp, hd⟩ := dp_word hv
    obtain ⟨v1, rfl, hd1⟩ := dps_one hd
    cases hd1
    refine ⟨_, rfl, pa, _, _, _, rfl, rfl, hp, at_of (j := 0) rfl rfl, ?_⟩
    dsimp only [gName]
    refine ⟨_, rfl, rfl, _, rfl, iteNo (by decide +kernel) ?_⟩
    dsimp only [tNext]
    refine ⟨_, rfl, rfl, _, rfl, iteYes (by decide +kernel) ?_⟩
    refine ⟨_, rfl, pa, _, _, .str t, rfl, rfl, hp, at_of (j := 1) rfl rfl, ⟨_, rfl⟩, _, _, rfl, rfl, _, rfl, iteNo (by rw [ends_tex a]; exact Bool.false_ne_true) ?_⟩
    exact ⟨(by show 0 ≤ sizeLine; decide), fun D hD => none_ D hD (by rw [wr_text, if_neg (ten_tex a)])⟩
  | @textN _ t a =>
    obtain ⟨pa, vs, rfl, hp, hd⟩ := dp_word hv
    obtain ⟨v1, rfl, hd1⟩ := dps_one hd
    cases hd1
    refine ⟨_, rfl, pa, _, _, _, rfl, rfl, hp, at_of (j := 0) rfl rfl, ?_⟩
    dsimp only [gName]
    refine ⟨_, rfl, rfl, _, rfl, iteNo (by decide +kernel) ?_⟩
    dsimp only [tNext]
    refine ⟨_, rfl, rfl, _, rfl, iteYes (by decide +kernel) ?_⟩
    refine ⟨_, rfl, pa, _, _, .str (t ++ ("\n" : Str)), rfl, rfl, hp, at_of (j := 1) rfl rfl, ⟨_, rfl⟩, _, _, rfl, rfl, _, rfl, iteYes (ends_nl t) ?_⟩
    exact ⟨(by show 1 ≤ sizeLine; decide), fun D hD => made "program" D hD (by rw [wr_text, if_pos (ten_app t)]; rfl)⟩
  | @row _ ds a al => exact absurd rfl (nrs.1 _)
  | @shape _ qs a b al => exact absurd rfl (nrs.2 _)
  | @call _ f ks ds a b c e al =>
    have hv0 := hv
    obtain ⟨pa, vs, rfl, hp, hd⟩ := dp_word hv
    refine ⟨_, rfl, pa, _, _, _, rfl, rfl, hp, at_of (j := 0) rfl rfl, ?_⟩
    dsimp only [gName]
    refine ⟨_, rfl, rfl, _, rfl, iteNo (by decide +kernel) ?_⟩
    dsimp only [tNext]
    refine ⟨_, rfl, rfl, _, rfl, iteNo (by decide +kernel) ?_⟩
    dsimp only [tNext]
    refine ⟨_, rfl, rfl, _, rfl, iteYes (by decide +kernel) ?_⟩
    refine ⟨_, rfl, _, rfl, _, rfl, ma, na, .ref pa, f, ks, ds, ls, ns, es, fn, m, rfl, M, hv0, b, c, e, al, by omega, hn, nl, by omega, fun l H' e' hl0 hl => q l H' e' hl0 ?_⟩
    rw [hl, wr_call]
  | @form _ w0 sg ds a b c al =>
    obtain ⟨pa, vs, rfl, hp, hd⟩ := dp_word hv
    obtain ⟨_, n1, n2, n3, n4, n5, s6⟩ := frm_form _ a
    have s6 : sg.length ≤ 6 := s6
    have lvs : vs.length = ds.length := DpAll.len hd
    refine ⟨_, rfl, pa, _, _, _, rfl, rfl, hp, at_of (j := 0) rfl rfl, ?_⟩
    dsimp only [gName]
    refine ⟨_, rfl, rfl, _, rfl, iteNo (fun z => n2 (V.str.inj (of_decide_eq_true z))) ?_⟩
    dsimp only [tNext]
    refine ⟨_, rfl, rfl, _, rfl, iteNo (fun z => n3 (V.str.inj (of_decide_eq_true z))) ?_⟩
    dsimp only [tNext]
    refine ⟨_, rfl, rfl, _, rfl, iteNo (fun z => n1 (V.str.inj (of_decide_eq_true z))) ?_⟩
    dsimp only [tNext]
    refine ⟨(by show 0 ≤ sizeLine; decide), fun D hD => ?_⟩
    dsimp only [gName]
    have e1 := same_new hD (.lst [])
    have hD1 : (upd H D (.lst [])) D = some (.lst []) := upd_same
    generalize (upd H D (.lst [])) = H1 at e1 hD1 ⊢
    show tOr _ _ _ _ _
    refine or_pure (decide (V.str w0 = V.str "row")) (decide (V.str w0 = V.str "shape")) (fun R h => ⟨_, rfl, rfl, _, rfl, h⟩) (fun _ R h => ⟨_, rfl, rfl, _, rfl, h⟩) (fun h => h.elim (fun z => absurd (V.str.inj (of_decide_eq_true z)) n4) fun z => absurd (V.str.inj (of_decide_eq_true z)) n5) (fun _ _ => iteF ?_)
    dsimp only [tNext]
    refine ⟨_, rfl, na, _, rfl, .inl (Same.seq e1 hn), fun I hI => ?_⟩
    dsimp only [gName]
    have hI0 : H I = none := Same.free e1 hI
    have nDI : D ≠ I := ne_of_none hD1 hI
    have e2 := Same.trans e1 (same_new hI (.lst (ns.map V.str)))
    have hD2 : (upd H1 I (.lst (ns.map V.str))) D = some (.lst []) := by rw [upd_ne nDI]; exact hD1
    have hI2 : (upd H1 I (.lst (ns.map V.str))) I = some (.lst (ns.map V.str)) := upd_same
    generalize (upd H1 I (.lst (ns.map V.str))) = H2 at e2 hD2 hI2 ⊢
    refine ⟨_, rfl, w0, sg, rfl, a, fun H3 e3 => ?_⟩
    have e23 := Same.trans e2 e3
    dsimp only [gName]
    have lsg : (catL sg).length = sg.length := chars_len a
    refine ⟨_, rfl, _, rfl, sizeOk (by omega), _, rfl, by omega, by omega, ?_⟩
    have n6' : 6 ^ n ≤ 6 ^ 5 := Nat.pow_le_pow_right (by decide) (by omega)
    have one := wr_len (ls := ls) (fs := es.map fnOf3) (ns := ns) (Lo.form a b c al) (m := m + 1) (by omega)
    rw [wr_form a] at one
    have le10 : ∀ j, j ≤ sg.length → ((List.range j).flatMap (wrAt (wrP m ls (es.map fnOf3)) ls ns w0 sg ds)).length ≤ 10 * 6 ^ (n + 1) := fun j hj => by
      refine Nat.le_trans ?_ one
      obtain ⟨k, hk⟩ : ∃ k, sg.length = j + k := ⟨sg.length - j, by omega⟩
      rw [hk, List.range_add, List.flatMap_append, List.length_append]
      omega
    have p6 : 6 ^ (n + 1) ≤ 6 ^ 6 := Nat.pow_le_pow_right (by decide) (by omega)
    have sL : sizeLine = 16777216 := by decide
    refine for_range (lo := 0) (n := (((catL sg).length : Nat) : Int).toNat) (fun j σ5 H5 => Same H H5 ∧ H5 D = some (.lst (((List.range j).flatMap (wrAt (wrP m ls (es.map fnOf3)) ls ns w0 sg ds)).map V.str)) ∧ H5 I = some (.lst ((ns ++ wsOf (sg.take j) (ds.take j)).map V.str)) ∧ (wsOf (sg.take j) (ds.take j)).length ≤ j ∧
        ∃ o1 o2, σ5 = [some (.ref ma), some (.ref pa), some (.ref na), some (.str w0), some (.ref D), none, none, none, some (.ref I), some (.str (catL sg)), o1, o2, none])
      ⟨e23, e3 _ _ hD2, by rw [List.take_zero]; show H3 I = some (.lst ((ns ++ []).map V.str)); rw [List.append_nil]; exact e3 _ _ hI2, Nat.zero_le _, _, _, rfl⟩ ?_ ?_
    · rintro j σ5 H5 hj0 ⟨e5, hD5, hI5, lw5, o1, o2, rfl⟩
      have hj : j < sg.length := by omega
      have hjd : j < ds.length := by omega
      obtain ⟨ch, s, hch, hs1, hs2⟩ := chars_at a hj
      have hvj : vs[j]? = some vs[j] := List.getElem?_eq_getElem (by omega)
      obtain ⟨d', g1, g2⟩ := DpAll.get hd hvj
      generalize vs[j] = x at hvj g2
      have g3 := KeepL.dp (Same.keepL e5) g2
      have sl := c j s d' hs1 g1
      have sb := al j s d' hs1 g1
      have yes : ∀ z : Str, s = z → decide (V.str (⟨#[ch]⟩ : Str) = V.str z) = true := fun z e => decide_eq_true (congrArg V.str (hs2.symm.trans e))
      have no : ∀ z : Str, s ≠ z → ¬ decide (V.str (⟨#[ch]⟩ : Str) = V.str z) = true := fun z ne y => ne (hs2.trans (V.str.inj (of_decide_eq_true y)))
      have i63 : (0 : Int) + (j : Int) < 2 ^ 63 := by omega
      have il : (0 : Int) + (j : Int) < ((catL sg).length : Nat) := by omega
      have hc : (catL sg).cps[((0 : Int) + (j : Int)).toNat]? = some ch := by rw [show ((0 : Int) + (j : Int)).toNat = j by omega]; exact hch
      have i0 : (0 : Int) ≤ 0 + (j : Int) := by omega
      have dj := le10 j (by omega)
      have dj1 := le10 (j + 1) (by omega)
      rw [rg_step, List.length_append] at dj1
      have lnw : ns.length + (wsOf (sg.take j) (ds.take j)).length ≤ 100 - 10 * n := by omega
      dsimp only [gName]
      refine ⟨_, rfl, _, rfl, _, _, rfl, rfl, pa, _, _, x, rfl, rfl, Same.tup e5 hp, at_of (j := j + 1) (by omega) hvj, ?_⟩
      dsimp only [gName]
      have put : ∀ (z : Str) (H6 : Hp) (o1 o2 : Option V), Same H5 H6 → wrAt (wrP m ls (es.map fnOf3)) ls ns w0 sg ds j = [z] → s ≠ ("w" : Str) → ∃ (l : Addr) (xs : List V) (y : V), V.ref D = .ref l ∧ ([.str z] : List V) = [y] ∧ H6 l = some (.lst xs) ∧ xs.length < sizeLine ∧
          (Same H (upd H6 l (.lst (xs ++ [y]))) ∧ (upd H6 l (.lst (xs ++ [y]))) D = some (.lst (((List.range (j + 1)).flatMap (wrAt (wrP m ls (es.map fnOf3)) ls ns w0 sg ds)).map V.str)) ∧ (upd H6 l (.lst (xs ++ [y]))) I = some (.lst ((ns ++ wsOf (sg.take (j + 1)) (ds.take (j + 1))).map V.str)) ∧ (wsOf (sg.take (j + 1)) (ds.take (j + 1))).length ≤ j + 1 ∧
          ∃ p1 p2, ([some (.ref ma), some (.ref pa), some (.ref na), some (.str w0), some (.ref D), none, none, none, some (.ref I), some (.str (catL sg)), o1, o2, none] : L2.St) = [some (.ref ma), some (.ref pa), some (.ref na), some (.str w0), some (.ref D), none, none, none, some (.ref I), some (.str (catL sg)), p1, p2, none]) := fun z H6 o1 o2 e6 ew nw => by
        refine ⟨D, _, _, rfl, rfl, e6 _ _ hD5, by rw [List.length_map]; omega, fun b o hb => ?_, ?_, ?_, ?_, _, _, rfl⟩
        · rw [upd_ne (ne_of_none hb hD)]
          exact e6 _ _ (e5 b o hb)
        · rw [upd_same, rg_step, ew, List.map_append]
          rfl
        · rw [upd_ne nDI.symm, ws_step hs1 g1, if_neg nw, List.append_nil]
          exact e6 _ _ hI5
        · rw [ws_step hs1 g1, if_neg nw, List.append_nil]
          omega
      have skip : ∀ (H6 : Hp) (o1 o2 : Option V), Same H5 H6 → wrAt (wrP m ls (es.map fnOf3)) ls ns w0 sg ds j = [] → s ≠ ("w" : Str) → 
          (Same H H6 ∧ H6 D = some (.lst (((List.range (j + 1)).flatMap (wrAt (wrP m ls (es.map fnOf3)) ls ns w0 sg ds)).map V.str)) ∧ H6 I = some (.lst ((ns ++ wsOf (sg.take (j + 1)) (ds.take (j + 1))).map V.str)) ∧ (wsOf (sg.take (j + 1)) (ds.take (j + 1))).length ≤ j + 1 ∧
          ∃ p1 p2, ([some (.ref ma), some (.ref pa), some (.ref na), some (.str w0), some (.ref D), none, none, none, some (.ref I), some (.str (catL sg)), o1, o2, none] : L2.St) = [some (.ref ma), some (.ref pa), some (.ref na), some (.str w0), some (.ref D), none, none, none, some (.ref I), some (.str (catL sg)), p1, p2, none]) := fun H6 o1 o2 e6 ew nw => by
        refine ⟨Same.trans e5 e6, ?_, ?_, ?_, _, _, rfl⟩
        · rw [rg_step, ew, List.append_nil]
          exact e6 _ _ hD5
        · rw [ws_step hs1 g1, if_neg nw, List.append_nil]
          exact e6 _ _ hI5
        · rw [ws_step hs1 g1, if_neg nw, List.append_nil]
          omega
      have ext : ∀ (l : Addr) (H6 : Hp) (ys : List Str) (o1 o2 : Option V), Same H5 H6 → H5 l = none → H6 l = some (.lst (ys.map V.str)) → wrAt (wrP m ls (es.map fnOf3)) ls ns w0 sg ds j = ys → s ≠ ("w" : Str) → ∃ (l' b : Addr) (xs zs : List V), V.ref D = .ref l' ∧ ([.ref l] : List V) = [.ref b] ∧ H6 l' = some (.lst xs) ∧ H6 b = some (.lst zs) ∧ xs.length + zs.length ≤ sizeLine ∧
          (Same H (upd H6 l' (.lst (xs ++ zs))) ∧ (upd H6 l' (.lst (xs ++ zs))) D = some (.lst (((List.range (j + 1)).flatMap (wrAt (wrP m ls (es.map fnOf3)) ls ns w0 sg ds)).map V.str)) ∧ (upd H6 l' (.lst (xs ++ zs))) I = some (.lst ((ns ++ wsOf (sg.take (j + 1)) (ds.take (j + 1))).map V.str)) ∧ (wsOf (sg.take (j + 1)) (ds.take (j + 1))).length ≤ j + 1 ∧
          ∃ p1 p2, ([some (.ref ma), some (.ref pa), some (.ref na), some (.str w0), some (.ref D), none, none, none, some (.ref I), some (.str (catL sg)), o1, o2, none] : L2.St) = [some (.ref ma), some (.ref pa), some (.ref na), some (.str w0), some (.ref D), none, none, none, some (.ref I), some (.str (catL sg)), p1, p2, none]) := fun l H6 ys o1 o2 e6 hl0 hl ew nw => by
        refine ⟨D, l, _, _, rfl, rfl, e6 _ _ hD5, hl, ?_, fun b o hb => ?_, ?_, ?_, ?_, _, _, rfl⟩
        · rw [List.length_map, List.length_map, ← ew]
          omega
        · rw [upd_ne (ne_of_none hb hD)]
          exact e6 _ _ (e5 b o hb)
        · rw [upd_same, rg_step, ew, List.map_append]
        · rw [upd_ne nDI.symm, ws_step hs1 g1, if_neg nw, List.append_nil]
          exact e6 _ _ hI5
        · rw [ws_step hs1 g1, if_neg nw, List.append_nil]
          omega
      have wat := wrAt_eq (rec := wrP m ls (es.map fnOf3)) (ls := ls) (ns := ns) (w := w0) hs1 g1
      rcases chars_seven _ a s (List.mem_of_getElem? hs1) with e | e | e | e | e | e | e
      · -- a new name
        refine ⟨_, rfl, _, rfl, _, _, ch, rfl, rfl, i0, i63, il, hc, rfl, _, rfl, iteYes (yes _ e) ?_⟩
        obtain ⟨z, rfl, wz⟩ := sl.1 e
        obtain rfl : x = .str z := by cases g3; rfl
        have lI : (ns ++ wsOf (sg.take j) (ds.take j)).length < 1000 := by rw [List.length_append]; omega
        refine ⟨_, rfl, .inl ⟨rfl, _, SqL.of hI5⟩, _, rfl, I, _, _, rfl, rfl, hI5, small1000 (by rw [List.length_map]; omega), ?_⟩
        have e6 : Same H (upd H5 I (.lst ((ns ++ wsOf (sg.take j) (ds.take j)).map V.str ++ [.str z]))) := fun b o hb => by
          rw [upd_ne (ne_of_none hb hI0)]
          exact e5 b o hb
        have hD6 : (upd H5 I (.lst ((ns ++ wsOf (sg.take j) (ds.take j)).map V.str ++ [.str z]))) D = _ := (upd_ne nDI).trans hD5
        have hI6 : (upd H5 I (.lst ((ns ++ wsOf (sg.take j) (ds.take j)).map V.str ++ [.str z]))) I = some (.lst ((ns ++ wsOf (sg.take (j + 1)) (ds.take (j + 1))).map V.str)) := by
          rw [upd_same, ws_step hs1 g1, if_pos e, ← List.append_assoc]
          generalize ns ++ wsOf (sg.take j) (ds.take j) = q0
          rw [List.map_append]
          rfl
        have lw6 : (wsOf (sg.take (j + 1)) (ds.take (j + 1))).length ≤ j + 1 := by
          rw [ws_step hs1 g1, if_pos e, List.length_append]
          show _ + 1 ≤ _
          omega
        generalize (upd H5 I (.lst ((ns ++ wsOf (sg.take j) (ds.take j)).map V.str ++ [.str z]))) = H6 at e6 hD6 hI6 ⊢
        rw [if_pos e] at wat
        have skip6 : ∀ (o1 o2 : Option V), wrAt (wrP m ls (es.map fnOf3)) ls ns w0 sg ds j = [] → 
          (Same H H6 ∧ H6 D = some (.lst (((List.range (j + 1)).flatMap (wrAt (wrP m ls (es.map fnOf3)) ls ns w0 sg ds)).map V.str)) ∧ H6 I = some (.lst ((ns ++ wsOf (sg.take (j + 1)) (ds.take (j + 1))).map V.str)) ∧ (wsOf (sg.take (j + 1)) (ds.take (j + 1))).length ≤ j + 1 ∧
          ∃ p1 p2, ([some (.ref ma), some (.ref pa), some (.ref na), some (.str w0), some (.ref D), none, none, none, some (.ref I), some (.str (catL sg)), o1, o2, none] : L2.St) = [some (.ref ma), some (.ref pa), some (.ref na), some (.str w0), some (.ref D), none, none, none, some (.ref I), some (.str (catL sg)), p1, p2, none]) := fun o1 o2 ew =>
          ⟨e6, by rw [rg_step, ew, List.append_nil]; exact hD6, hI6, lw6, _, _, rfl⟩
        dsimp only [tNext]
        by_cases wf : w0 = ("fold" : Str)
        · have sgw : sg = wewL := (show ∀ q ∈ frmL, q.1 = ("fold" : Str) → q.2 = wewL by decide +kernel) _ a wf
          refine ⟨_, rfl, rfl, _, rfl, iteYes (decide_eq_true (congrArg V.str wf)) ?_⟩
          by_cases j2 : j = 2
          · refine ⟨_, rfl, rfl, _, rfl, iteYes (decide_eq_true (by rw [j2]; rfl)) ?_⟩
            have hv0 : vs[0]? = some vs[0] := List.getElem?_eq_getElem (by omega)
            obtain ⟨d0, q1, q2⟩ := DpAll.get hd hv0
            obtain ⟨z0, rfl, wz0⟩ := (c 0 "w" d0 (by rw [sgw]; rfl) q1).1 rfl
            generalize vs[0] = x0 at hv0 q2
            obtain rfl : x0 = .str z0 := by cases q2; rfl
            refine ⟨_, rfl, _, rfl, pa, _, _, .str z0, rfl, rfl, Same.tup e6 hp, at_of (j := 1) rfl hv0, rfl, _, rfl, ?_⟩
            by_cases zz : z = z0
            · refine iteYes (decide_eq_true (congrArg V.str zz)) ?_
              refine ⟨_, rfl, .inl ⟨rfl, _, SqL.of hD6⟩, D, _, _, rfl, rfl, hD6, by rw [List.length_map]; omega, fun b o hb => ?_, ?_, ?_, lw6, _, _, rfl⟩
              · rw [upd_ne (ne_of_none hb hD)]
                exact e6 b o hb
              · rw [upd_same, rg_step, wat, if_pos ⟨wf, j2, by rw [q1, ← j2, g1, zz]⟩, List.map_append]
                rfl
              · rw [upd_ne nDI.symm]
                exact hI6
            · refine iteNo (fun y => zz (V.str.inj (of_decide_eq_true y))) ?_
              exact skip6 _ _ (by rw [wat, if_neg (fun y => zz (by have y2 := y.2.2; rw [q1, ← j2, g1] at y2; exact Option.some.inj (Option.some.inj y2)))])
          · refine ⟨_, rfl, rfl, _, rfl, iteNo (fun y => j2 (by have := V.int.inj (of_decide_eq_true y); omega)) (iteF ?_)⟩
            exact skip6 _ _ (by rw [wat, if_neg (fun y => j2 y.2.1)])
        · refine ⟨_, rfl, rfl, _, rfl, iteNo (fun y => wf (V.str.inj (of_decide_eq_true y))) (iteF ?_)⟩
          exact skip6 _ _ (by rw [wat, if_neg (fun y => wf y.1)])
      all_goals have nw : s ≠ ("w" : Str) := by rw [e]; decide +kernel
      all_goals rw [if_neg nw] at wat
      all_goals refine ⟨_, rfl, _, rfl, _, _, ch, rfl, rfl, i0, i63, il, hc, rfl, _, rfl, iteNo (no _ nw) ?_⟩
      · -- within
        rw [if_pos e] at wat
        show tOr _ _ _ _ _
        refine or_pure (decide (V.str (⟨#[ch]⟩ : Str) = V.str "e")) (decide (V.str (⟨#[ch]⟩ : Str) = V.str "l")) (fun R h => ⟨_, rfl, _, rfl, _, _, ch, rfl, rfl, i0, i63, il, hc, rfl, _, rfl, h⟩) (fun _ R h => ⟨_, rfl, _, rfl, _, _, ch, rfl, rfl, i0, i63, il, hc, rfl, _, rfl, h⟩) (fun _ => iteT ?_) (fun q1 q2 => by first | exact absurd (yes _ e) (by rw [q1]; exact Bool.false_ne_true) | exact absurd (yes _ e) (by rw [q2]; exact Bool.false_ne_true))
        refine ⟨_, rfl, .inl ⟨rfl, _, SqL.of hD5⟩, _, rfl, _, rfl, _, rfl, _, rfl, _, _, ch, rfl, rfl, i0, i63, il, hc, rfl, _, rfl, iteYes (yes _ e) ⟨_, rfl, ma, na, x, d', ls, ns, es, fn, m, rfl, M.same e5, g3, sb (.inl e), by omega, Same.seq e5 hn, by omega, by omega, fun l H6 e6 hl0 hl => ext l H6 _ _ _ e6 hl0 hl wat nw⟩⟩
      · -- within, more names
        rw [if_neg (fun y => absurd (e.symm.trans y) (by decide +kernel)), if_pos e] at wat
        show tOr _ _ _ _ _
        refine or_pure (decide (V.str (⟨#[ch]⟩ : Str) = V.str "e")) (decide (V.str (⟨#[ch]⟩ : Str) = V.str "l")) (fun R h => ⟨_, rfl, _, rfl, _, _, ch, rfl, rfl, i0, i63, il, hc, rfl, _, rfl, h⟩) (fun _ R h => ⟨_, rfl, _, rfl, _, _, ch, rfl, rfl, i0, i63, il, hc, rfl, _, rfl, h⟩) (fun _ => iteT ?_) (fun q1 q2 => by first | exact absurd (yes _ e) (by rw [q1]; exact Bool.false_ne_true) | exact absurd (yes _ e) (by rw [q2]; exact Bool.false_ne_true))
        refine ⟨_, rfl, .inl ⟨rfl, _, SqL.of hD5⟩, _, rfl, _, rfl, _, rfl, _, rfl, _, _, ch, rfl, rfl, i0, i63, il, hc, rfl, _, rfl, iteNo (no _ (fun y => absurd (e.symm.trans y) (by decide +kernel))) ⟨_, rfl, ma, I, x, d', ls, ns ++ wsOf (sg.take j) (ds.take j), es, fn, m, rfl, M.same e5, g3, sb (.inr e), by omega, SqL.of hI5, by rw [List.length_append]; omega, by omega, fun l H6 e6 hl0 hl => ext l H6 _ _ _ e6 hl0 hl wat nw⟩⟩
      · -- a kind
        rw [if_neg (fun y => absurd (e.symm.trans y) (by decide +kernel)), if_neg (fun y => absurd (e.symm.trans y) (by decide +kernel)), if_pos e] at wat
        show tOr _ _ _ _ _
        refine or_pure (decide (V.str (⟨#[ch]⟩ : Str) = V.str "e")) (decide (V.str (⟨#[ch]⟩ : Str) = V.str "l")) (fun R h => ⟨_, rfl, _, rfl, _, _, ch, rfl, rfl, i0, i63, il, hc, rfl, _, rfl, h⟩) (fun _ R h => ⟨_, rfl, _, rfl, _, _, ch, rfl, rfl, i0, i63, il, hc, rfl, _, rfl, h⟩) (fun h => h.elim (fun y => absurd y (no _ (fun y => absurd (e.symm.trans y) (by decide +kernel)))) fun y => absurd y (no _ (fun y => absurd (e.symm.trans y) (by decide +kernel)))) (fun _ _ => iteF ?_)
        refine ⟨_, rfl, _, rfl, _, _, ch, rfl, rfl, i0, i63, il, hc, rfl, _, rfl, iteYes (yes _ e) ⟨_, rfl, _, rfl, ma, .ref la, rfl, (show DGet H5 ma (.str "letters") (some (.ref la)) from DGet.k (k := Sum.inr "letters") (e5 _ _ hma)), x, d', la, ls, rfl, g3, sl.2.1 e, Same.seq e5 hla, fun H6 e6 => ⟨_, rfl, ?_⟩⟩⟩
        cases gk : gK ls 9 d' with
        | false =>
          refine iteYes rfl ?_
          refine ⟨_, rfl, .inl ⟨rfl, _, SqL.of (e6 _ _ hD5)⟩, put _ H6 _ _ e6 (by rw [wat, gk]; rfl) nw⟩
        | true =>
        refine iteNo Bool.false_ne_true ?_
        refine ⟨_, rfl, _, rfl, _, _, ch, rfl, rfl, i0, i63, il, hc, rfl, _, rfl, iteNo (no _ (fun y => absurd (e.symm.trans y) (by decide +kernel))) (iteF ?_)⟩
        show tOr _ _ _ _ _
        refine or_pure false false (fun R h => ⟨_, rfl, _, rfl, _, _, ch, rfl, rfl, i0, i63, il, hc, rfl, _, rfl, iteNo (no _ (fun y => absurd (e.symm.trans y) (by decide +kernel))) h⟩) (fun _ R h => ⟨_, rfl, _, rfl, _, _, ch, rfl, rfl, i0, i63, il, hc, rfl, _, rfl, iteNo (no _ (fun y => absurd (e.symm.trans y) (by decide +kernel))) h⟩) (fun h => by rcases h with h | h <;> cases h) (fun _ _ => iteF ?_)
        exact skip H6 _ _ e6 (by rw [wat, gk]; rfl) nw
      · -- a name
        rw [if_neg (fun y => absurd (e.symm.trans y) (by decide +kernel)), if_neg (fun y => absurd (e.symm.trans y) (by decide +kernel)), if_neg (fun y => absurd (e.symm.trans y) (by decide +kernel)), if_pos e] at wat
        obtain ⟨z, rfl, wz⟩ := sl.2.2.1 e
        obtain rfl : x = .str z := by cases g3; rfl
        show tOr _ _ _ _ _
        refine or_pure (decide (V.str (⟨#[ch]⟩ : Str) = V.str "e")) (decide (V.str (⟨#[ch]⟩ : Str) = V.str "l")) (fun R h => ⟨_, rfl, _, rfl, _, _, ch, rfl, rfl, i0, i63, il, hc, rfl, _, rfl, h⟩) (fun _ R h => ⟨_, rfl, _, rfl, _, _, ch, rfl, rfl, i0, i63, il, hc, rfl, _, rfl, h⟩) (fun h => h.elim (fun y => absurd y (no _ (fun y => absurd (e.symm.trans y) (by decide +kernel)))) fun y => absurd y (no _ (fun y => absurd (e.symm.trans y) (by decide +kernel)))) (fun _ _ => iteF ?_)
        refine ⟨_, rfl, _, rfl, _, _, ch, rfl, rfl, i0, i63, il, hc, rfl, _, rfl, iteNo (no _ (fun y => absurd (e.symm.trans y) (by decide +kernel))) (iteF ?_)⟩
        refine ⟨_, rfl, _, rfl, _, _, ch, rfl, rfl, i0, i63, il, hc, rfl, _, rfl, iteYes (yes _ e) ⟨_, rfl, _, rfl, na, _, rfl, .inl (Same.seq e5 hn), rfl, flat_strs _, ?_⟩⟩
        rw [in_strs]
        refine ⟨_, rfl, ?_⟩
        by_cases mz : z ∈ ns
        · refine iteNo (by rw [decide_eq_true mz]; exact Bool.false_ne_true) ?_
          show tOr _ _ _ _ _
          refine or_pure false false (fun R h => ⟨_, rfl, _, rfl, _, _, ch, rfl, rfl, i0, i63, il, hc, rfl, _, rfl, iteNo (no _ (fun y => absurd (e.symm.trans y) (by decide +kernel))) h⟩) (fun _ R h => ⟨_, rfl, _, rfl, _, _, ch, rfl, rfl, i0, i63, il, hc, rfl, _, rfl, iteNo (no _ (fun y => absurd (e.symm.trans y) (by decide +kernel))) h⟩) (fun h => by rcases h with h | h <;> cases h) (fun _ _ => iteF ?_)
          exact skip H5 _ _ (Same.refl _) (by rw [wat]; exact if_pos mz) nw
        · refine iteYes (by rw [decide_eq_false mz]; rfl) ?_
          exact ⟨_, rfl, .inl ⟨rfl, _, SqL.of hD5⟩, put _ H5 _ _ (Same.refl _) (by rw [wat]; exact if_neg mz) nw⟩
      · -- a field
        rw [if_neg (fun y => absurd (e.symm.trans y) (by decide +kernel)), if_neg (fun y => absurd (e.symm.trans y) (by decide +kernel)), if_neg (fun y => absurd (e.symm.trans y) (by decide +kernel)), if_neg (fun y => absurd (e.symm.trans y) (by decide +kernel)), if_pos e] at wat
        obtain ⟨z, rfl, wz⟩ := sl.2.2.2.1 e
        obtain rfl : x = .str z := by cases g3; rfl
        show tOr _ _ _ _ _
        refine or_pure (decide (V.str (⟨#[ch]⟩ : Str) = V.str "e")) (decide (V.str (⟨#[ch]⟩ : Str) = V.str "l")) (fun R h => ⟨_, rfl, _, rfl, _, _, ch, rfl, rfl, i0, i63, il, hc, rfl, _, rfl, h⟩) (fun _ R h => ⟨_, rfl, _, rfl, _, _, ch, rfl, rfl, i0, i63, il, hc, rfl, _, rfl, h⟩) (fun h => h.elim (fun y => absurd y (no _ (fun y => absurd (e.symm.trans y) (by decide +kernel)))) fun y => absurd y (no _ (fun y => absurd (e.symm.trans y) (by decide +kernel)))) (fun _ _ => iteF ?_)
        refine ⟨_, rfl, _, rfl, _, _, ch, rfl, rfl, i0, i63, il, hc, rfl, _, rfl, iteNo (no _ (fun y => absurd (e.symm.trans y) (by decide +kernel))) (iteF ?_)⟩
        refine ⟨_, rfl, _, rfl, _, _, ch, rfl, rfl, i0, i63, il, hc, rfl, _, rfl, iteNo (no _ (fun y => absurd (e.symm.trans y) (by decide +kernel))) (iteF ?_)⟩
        show tOr _ _ _ _ _
        refine or_pure (decide (V.str z = V.str "A")) false (fun R h => ⟨_, rfl, _, rfl, _, _, ch, rfl, rfl, i0, i63, il, hc, rfl, _, rfl, iteYes (yes _ e) ⟨_, rfl, rfl, _, rfl, h⟩⟩) (fun _ R h => ⟨_, rfl, _, rfl, _, _, ch, rfl, rfl, i0, i63, il, hc, rfl, _, rfl, iteNo (no _ (fun y => absurd (e.symm.trans y) (by decide +kernel))) h⟩) (fun h => iteT ?_) (fun h _ => iteF ?_)
        · have ez : z = ("A" : Str) := V.str.inj (of_decide_eq_true (h.elim id fun y => by cases y))
          exact ⟨_, rfl, .inl ⟨rfl, _, SqL.of hD5⟩, put _ H5 _ _ (Same.refl _) (by rw [wat]; exact if_pos ez) nw⟩
        · have ez : ¬ z = ("A" : Str) := fun y => of_decide_eq_false h (congrArg V.str y)
          exact skip H5 _ _ (Same.refl _) (by rw [wat]; exact if_neg ez) nw
      · -- a question
        rw [if_neg (fun y => absurd (e.symm.trans y) (by decide +kernel)), if_neg (fun y => absurd (e.symm.trans y) (by decide +kernel)), if_neg (fun y => absurd (e.symm.trans y) (by decide +kernel)), if_neg (fun y => absurd (e.symm.trans y) (by decide +kernel)), if_neg (fun y => absurd (e.symm.trans y) (by decide +kernel))] at wat
        obtain ⟨z, rfl, wz⟩ := sl.2.2.2.2 e
        obtain rfl : x = .str z := by cases g3; rfl
        show tOr _ _ _ _ _
        refine or_pure (decide (V.str (⟨#[ch]⟩ : Str) = V.str "e")) (decide (V.str (⟨#[ch]⟩ : Str) = V.str "l")) (fun R h => ⟨_, rfl, _, rfl, _, _, ch, rfl, rfl, i0, i63, il, hc, rfl, _, rfl, h⟩) (fun _ R h => ⟨_, rfl, _, rfl, _, _, ch, rfl, rfl, i0, i63, il, hc, rfl, _, rfl, h⟩) (fun h => h.elim (fun y => absurd y (no _ (fun y => absurd (e.symm.trans y) (by decide +kernel)))) fun y => absurd y (no _ (fun y => absurd (e.symm.trans y) (by decide +kernel)))) (fun _ _ => iteF ?_)
        refine ⟨_, rfl, _, rfl, _, _, ch, rfl, rfl, i0, i63, il, hc, rfl, _, rfl, iteNo (no _ (fun y => absurd (e.symm.trans y) (by decide +kernel))) (iteF ?_)⟩
        refine ⟨_, rfl, _, rfl, _, _, ch, rfl, rfl, i0, i63, il, hc, rfl, _, rfl, iteNo (no _ (fun y => absurd (e.symm.trans y) (by decide +kernel))) (iteF ?_)⟩
        show tOr _ _ _ _ _
        refine or_pure false (decide (V.str z = V.str "rows")) (fun R h => ⟨_, rfl, _, rfl, _, _, ch, rfl, rfl, i0, i63, il, hc, rfl, _, rfl, iteNo (no _ (fun y => absurd (e.symm.trans y) (by decide +kernel))) h⟩) (fun _ R h => ⟨_, rfl, _, rfl, _, _, ch, rfl, rfl, i0, i63, il, hc, rfl, _, rfl, iteYes (yes _ e) ⟨_, rfl, rfl, _, rfl, h⟩⟩) (fun h => iteT ?_) (fun _ h => iteF ?_)
        · have ez : z = ("rows" : Str) := V.str.inj (of_decide_eq_true (h.elim (fun y => by cases y) id))
          exact ⟨_, rfl, .inl ⟨rfl, _, SqL.of hD5⟩, put _ H5 _ _ (Same.refl _) (by rw [wat]; exact if_pos ez) nw⟩
        · have ez : ¬ z = ("rows" : Str) := fun y => of_decide_eq_false h (congrArg V.str y)
          exact skip H5 _ _ (Same.refl _) (by rw [wat]; exact if_neg ez) nw
    · rintro σ5 H5 ⟨e5, hD5, hI5, _, o1, o2, rfl⟩
      refine ⟨_, rfl, q D H5 e5 hD ?_⟩
      rw [hD5, wr_form a, show (((catL sg).length : Nat) : Int).toNat = sg.length by omega]
end
end Sc
namespace Sc
open PySem PySem.Spec PyProof.Rows L2
theorem c_wrs {P : Program} {w : World} {K : PySem.W.Frag} {mg : Str → Option Value} {base : Heap} (T : Tx K mg) : ∀ n : Nat, Cal P w K mg base (2 * n + 2) "_law_wrongs" ["_law_m", "_law_part", "_law_known"] (spWr K n)
  | 0 => (T.wrongs.never fun vs H Q E h => by
      obtain ⟨_, _, _, _, _, _, _, _, _, _, _, _, lo, _⟩ := h
      cases lo).mono (by decide)
  | n + 1 => c_wr_step (lv := 2 * n + 3) T (by omega) (c_wr_call T (by omega) (c_wrs T n)) ((c_wrs T n).mono (by omega))
end Sc
namespace Sc
open PySem PySem.Spec PyProof.Rows L2
/-! ### the state while parts are drawn loosely -/
def ExtB (s b : Addr) (H H' : Hp) : Prop := ∀ x o, x ≠ s → x ≠ b → H x = some o → H' x = some o
theorem ExtB.refl (s b : Addr) (H : Hp) : ExtB s b H H := fun _ _ _ _ h => h
theorem ExtB.trans {s b : Addr} {H H1 H2 : Hp} (e : ExtB s b H H1) (f : ExtB s b H1 H2) : ExtB s b H H2 := fun x o n m h => f x o n m (e x o n m h)
theorem ExtB.ext {s b : Addr} {H H' : Hp} (e : Ext s H H') : ExtB s b H H' := fun x o n _ h => e x o n h
theorem ExtB.same {s b : Addr} {H H' : Hp} (e : Same H H') : ExtB s b H H' := fun x o _ _ h => e x o h
theorem ExtB.over {s b D : Addr} {H1 H3 : Hp} (x : ExtB s b H1 H3) (hD : H1 D = none) (o : HO) : ExtB s b H1 (upd H3 D o) := fun a u n m h => by
  rw [upd_ne (ne_of_none h hD)]
  exact x a u n m h
theorem ExtB.updb {s b : Addr} {H1 H3 : Hp} (x : ExtB s b H1 H3) (o : HO) : ExtB s b H1 (upd H3 b o) := fun a u n m h => by
  rw [upd_ne m]
  exact x a u n m h
theorem ExtB.seq {K : PySem.W.Frag} {s b a : Addr} {H H' : Hp} {kvs : List (Key × V)} {xs : List V} (e : ExtB s b H H') (hs : H s = some (.dK kvs)) (n : a ≠ b) (h : SqL K H a xs) : SqL K H' a xs := by
  have ne : ∀ o, (∀ q : HO.dK kvs = o, False) → H a = some o → a ≠ s := fun o hq ha z => by
    subst z; rw [hs] at ha; exact hq (Option.some.inj ha)
  rcases h with (h | ⟨o, h⟩) | h
  · exact .inl (.inl (e _ _ (ne _ (fun q => by cases q) h) n h))
  · exact .inl (.inr ⟨o, e _ _ (ne _ (fun q => by cases q) h) n h⟩)
  · exact .inr h
theorem ExtB.keep {K : PySem.W.Frag} {s b : Addr} {H H' : Hp} {kvs : List (Key × V)} {ys : List V} (e : ExtB s b H H') (hs : H s = some (.dK kvs)) (hb : H b = some (.lst ys)) : Keep K H H' := fun a xs h => by
  have ne : ∀ o, (∀ q : HO.dK kvs = o, False) → H a = some o → a ≠ s := fun o hq ha z => by
    subst z; rw [hs] at ha; exact hq (Option.some.inj ha)
  have nb : ∀ o, (∀ q : HO.lst ys = o, False) → H a = some o → a ≠ b := fun o hq ha z => by
    subst z; rw [hb] at ha; exact hq (Option.some.inj ha)
  rcases h with (h | ⟨o, h⟩) | h
  · exact .inl (.inl (e _ _ (ne _ (fun q => by cases q) h) (nb _ (fun q => by cases q) h) h))
  · exact .inl (.inr ⟨o, e _ _ (ne _ (fun q => by cases q) h) (nb _ (fun q => by cases q) h) h⟩)
  · exact .inr h
structure St3 (K : PySem.W.Frag) (H : Hp) (s : Addr) (i : Inf) (la : Addr) (ls : List Str) (ba : Addr) (fds : List PyData) (bs : List Str) : Prop where
  W : St2 K H s i la ls
  x : i.x = .two (.ref la) (.ref ba)
  b : H ba = some (.lst (bs.map V.str))
  bw : ∀ z ∈ bs, Word z
  nla : la ≠ ba
  nfb : i.f ≠ ba
  nfs : i.f ≠ s
  nbs : ba ≠ s
  cf : i.c ≠ ba ∨ ∃ ns : List Int, ns.length ≤ 63 ∧ ∀ H, SqL K H i.c (ns.map V.int)
  fn : ∃ us, H i.f = some (.lst us) ∧ Dts K H us fds
  f12 : fds.length ≤ 12
  ok : LoPs [] fds
section
variable {K : PySem.W.Frag} {H H1 H3 H' : Hp} {s : Addr} {i : Inf} {la ba D : Addr} {ls : List Str} {fds : List PyData} {bs bs1 bs3 : List Str}
theorem St3.ext (h : St3 K H s i la ls ba fds bs) (e : Ext s H H') (S : IsS K H' s i) : St3 K H' s i la ls ba fds bs := by
  obtain ⟨us, h1, h2⟩ := h.fn
  exact ⟨h.W.ext e S, h.x, e _ _ h.nbs h.b, h.bw, h.nla, h.nfb, h.nfs, h.nbs, h.cf, ⟨us, e _ _ h.nfs h1, (h.W.S.keep e).dts h2⟩, h.f12, h.ok⟩
theorem St3.same (h : St3 K H s i la ls ba fds bs) (e : Same H H') : St3 K H' s i la ls ba fds bs := h.ext (Ext.same e) (h.W.S.same e)
theorem St3.keep (h : St3 K H s i la ls ba fds bs) (e : ExtB s ba H H') : Keep K H H' := by
  obtain ⟨kvs, hk⟩ := h.W.S.dk
  exact e.keep hk h.b
theorem St3.seq {a : Addr} {xs : List V} (h : St3 K H s i la ls ba fds bs) (e : ExtB s ba H H') (n : a ≠ ba) (q : SqL K H a xs) : SqL K H' a xs := by
  obtain ⟨kvs, hk⟩ := h.W.S.dk
  exact e.seq hk n q
theorem St3.ne (h : St3 K H s i la ls ba fds bs) (hD : H D = none) : D ≠ s ∧ D ≠ ba ∧ D ≠ i.f := by
  obtain ⟨us, h1, _⟩ := h.fn
  exact ⟨h.W.S.ne hD, (fun z => by rw [z, h.b] at hD; cases hD), fun z => by rw [z, h1] at hD; cases hD⟩
theorem St3.cells (h : St3 K H s i la ls ba fds bs) (e : ExtB s ba H H') : ∃ ns : List Int, SqL K H' i.c (ns.map V.int) ∧ ns.length ≤ 63 := by
  rcases h.cf with c | ⟨ns, l, k⟩
  · obtain ⟨ns, m, _, hc, l, _⟩ := id h.W.S
    exact ⟨ns, h.seq e c hc, l⟩
  · exact ⟨ns, k _, l⟩
theorem St3.over {o : HO} (a : St3 K H1 s i la ls ba fds bs1) (b : St3 K H3 s i la ls ba fds bs3) (x : ExtB s ba H1 (upd H3 D o)) (hD : H1 D = none) : St3 K (upd H3 D o) s i la ls ba fds bs3 := by
  obtain ⟨n1, n2, n3⟩ := a.ne hD
  obtain ⟨us, h1, h2⟩ := a.fn
  obtain ⟨ns, hc, l63⟩ := a.cells x
  obtain ⟨_, m, hs, _, _, iok, mok⟩ := id b.W.S
  exact ⟨⟨⟨ns, m, by rw [upd_ne n1.symm]; exact hs, hc, l63, iok, mok⟩, b.W.o0, b.W.o40, b.W.nt, b.W.x, a.seq x a.nla a.W.l, b.W.few, b.W.ok⟩, b.x, by rw [upd_ne n2.symm]; exact b.b, b.bw, b.nla, b.nfb, b.nfs, b.nbs, b.cf, ⟨us, x _ _ a.nfs a.nfb h1, (a.keep x).dts h2⟩, b.f12, b.ok⟩
theorem St3.app {z : Str} (h : St3 K H s i la ls ba fds bs) (wz : Word z) : St3 K (upd H ba (.lst (bs.map V.str ++ [.str z]))) s i la ls ba fds (bs ++ [z]) ∧ ExtB s ba H (upd H ba (.lst (bs.map V.str ++ [.str z]))) := by
  have e : ExtB s ba H (upd H ba (.lst (bs.map V.str ++ [.str z]))) := (ExtB.refl s ba H).updb _
  obtain ⟨us, h1, h2⟩ := h.fn
  obtain ⟨ns, hc, l63⟩ := h.cells e
  obtain ⟨_, m, hs, _, _, iok, mok⟩ := id h.W.S
  refine ⟨⟨⟨⟨ns, m, by rw [upd_ne h.nbs.symm]; exact hs, hc, l63, iok, mok⟩, h.W.o0, h.W.o40, h.W.nt, h.W.x, h.seq e h.nla h.W.l, h.W.few, h.W.ok⟩, h.x, by rw [upd_same, List.map_append]; rfl, fun y hy => ?_, h.nla, h.nfb, h.nfs, h.nbs, h.cf, ⟨us, e _ _ h.nfs h.nfb h1, (h.keep e).dts h2⟩, h.f12, h.ok⟩, e⟩
  rcases List.mem_append.mp hy with m | m
  · exact h.bw y m
  · rw [List.mem_singleton.mp m]; exact wz
end
theorem st_bound {i : Inf} {m : Mv} {la ba : Addr} (h : i.x = .two (.ref la) (.ref ba)) : valV (stD i m) (.inr "bound") = some (.ref ba) := by
  obtain ⟨_, _, _, _, _, _, _, x⟩ := i
  have h : x = _ := h
  subst h
  rfl
theorem LoPs.mem : ∀ {ds : List PyData} {names : List Str}, LoPs names ds → ∀ d ∈ ds, ∃ ns, LoF ns d
  | _, _, .nil _, _, h => by cases h
  | _, _, .cons a b, d, h => by
    rcases List.mem_cons.mp h with e | m
    · exact ⟨_, e ▸ a⟩
    · exact LoPs.mem b d m
/-- a part that is drawn, d deep at most -/
def FnN (fds : List PyData) (f : Str) : Prop := Word f ∨ f ∈ fds.map fun d => (fnOf3 d).1
def spLoose (K : PySem.W.Frag) (n : Nat) : Sp := fun vs H Q _ => ∃ (s : Addr) (i : Inf) (la ba na : Addr) (ls ns bs : List Str) (fds : List PyData) (d : Nat), vs = [.ref s, .ref na, .int d] ∧ d < n ∧ St3 K H s i la ls ba fds bs ∧ SqL K H na (ns.map V.str) ∧ (∀ z ∈ ns, Word z) ∧ ns.length ≤ 100 ∧ na ≠ ba ∧ d ≤ 4 ∧ ns.length + 10 * d ≤ 100 ∧ bs.length + 6 ^ (d + 1) ≤ 100000 ∧
  ∀ (v : V) (p : PyData) (H' : Hp) (bs' : List Str), ExtB s ba H H' → St3 K H' s i la ls ba fds bs' → bs'.length ≤ bs.length + 6 ^ (d + 1) → Dt K H' v p → Lo (FnN fds) (d + 1) p → Q v H'
def spPieces (K : PySem.W.Frag) (n : Nat) : Sp := fun vs H Q _ => ∃ (s : Addr) (i : Inf) (la ba na : Addr) (ls ns bs : List Str) (fds : List PyData) (d : Nat) (w : Str) (sg : List Str), vs = [.ref s, .str w, .ref na, .int d] ∧ d ≤ n ∧ (w, sg) ∈ frmL ∧ (d = 0 → ∀ c ∈ sg, ¬ isSub c) ∧ St3 K H s i la ls ba fds bs ∧ SqL K H na (ns.map V.str) ∧ (∀ z ∈ ns, Word z) ∧ na ≠ ba ∧ d ≤ 4 ∧ ns.length + 10 * d ≤ 100 ∧ bs.length + 6 ^ (d + 1) ≤ 100000 ∧
  ∀ (v : V) (p : PyData) (H' : Hp) (bs' : List Str), ExtB s ba H H' → St3 K H' s i la ls ba fds bs' → bs'.length ≤ bs.length + 6 ^ (d + 1) → Dt K H' v p → Lo (FnN fds) (d + 1) p → Q v H'
def spLcall (K : PySem.W.Frag) (n : Nat) : Sp := fun vs H Q _ => ∃ (s : Addr) (i : Inf) (la ba na : Addr) (ls ns bs : List Str) (fds : List PyData) (d : Nat), vs = [.ref s, .ref na, .int d] ∧ d ≤ n ∧ 0 < d ∧ St3 K H s i la ls ba fds bs ∧ SqL K H na (ns.map V.str) ∧ (∀ z ∈ ns, Word z) ∧ na ≠ ba ∧ d ≤ 4 ∧ ns.length + 10 * d ≤ 100 ∧ bs.length + 6 ^ (d + 1) ≤ 100000 ∧
  ∀ (v : V) (p : PyData) (H' : Hp) (bs' : List Str), ExtB s ba H H' → St3 K H' s i la ls ba fds bs' → bs'.length ≤ bs.length + 6 ^ (d + 1) → Dt K H' v p → Lo (FnN fds) (d + 1) p → Q v H'
end Sc
namespace Sc
open PySem PySem.Spec PyProof.Rows L2
/-! ### how deep and large what is drawn loosely may be -/
theorem okN_i {n : Nat} (k : Int) : OkN n (.int k) := ⟨rfl, rfl, by simp [PyData.depth]⟩
theorem okN_s {n : Nat} {z : Str} (l : z.cps.toList.length ≤ 1000) (h : ∀ c ∈ z.cps.toList, c < 1114112) : OkN n (.str z) := by
  refine ⟨?_, ?_, by simp [PyData.depth]⟩
  · show z.cps.all (· < 0x110000) = true
    rw [← Array.all_toList, List.all_eq_true]
    intro c hc
    exact decide_eq_true (h c hc)
  · show decide (z.length ≤ 1000) = true
    refine decide_eq_true ?_
    rw [len_list]
    exact l
theorem okN_e {n : Nat} : OkN (n + 1) (.tuple []) := okN_tup (by show 0 ≤ 60; decide) fun x m => by cases m
theorem lk_okN {d : PyData} (h : Lk d) : OkN 6 d := by
  cases h with
  | e0 => exact okN_e
  | e1 => exact (okN_tup (n := 2) (by show 1 ≤ 60; decide) fun x m => by rw [List.mem_singleton.mp m]; exact okN_two (okN_w (by decide +kernel)) okN_e).mono (by decide)
  | e2 => exact (okN_tup (n := 2) (by show 1 ≤ 60; decide) fun x m => by rw [List.mem_singleton.mp m]; exact okN_two (okN_w (by decide +kernel)) okN_e).mono (by decide)
  | e3 => exact okN_w (by decide +kernel)
  | e4 => exact (okN_tup (n := 1) (by show 1 ≤ 60; decide) fun x m => by rw [List.mem_singleton.mp m]; exact okN_two (okN_w (by decide +kernel)) (okN_i 1)).mono (by decide)
  | ok hl k0 k3 h => exact okN_kind hl 1 _ (by omega) h
theorem slb_okN {c : Str} {d : PyData} (h : SlB c d) (hc : c = ("w" : Str) ∨ c = ("k" : Str) ∨ c = ("x" : Str) ∨ c = ("f" : Str) ∨ c = ("a" : Str)) : OkN 6 d := by
  obtain ⟨h1, h2, h3, h4, h5⟩ := h
  rcases hc with e | e | e | e | e
  · obtain ⟨z, rfl, w⟩ := h1 e
    exact (okN_word w).mono (by decide)
  · exact lk_okN (h2 e)
  · obtain ⟨z, rfl, w⟩ := h3 e
    exact (okN_word w).mono (by decide)
  · obtain ⟨z, rfl, w⟩ := h4 e
    rcases w with w | w
    · rw [w]; exact okN_w (by decide +kernel)
    · exact (okN_word w).mono (by decide)
  · obtain ⟨z, rfl, w⟩ := h5 e
    rcases w with w | w
    · rw [w]; exact okN_w (by decide +kernel)
    · simp only [List.mem_cons, List.not_mem_nil, or_false] at w
      rcases w with w | w | w | w | w <;> rw [w] <;> exact okN_w (by decide +kernel)
theorem tex_okN {n : Nat} {t : Str} (h : Tex t) : OkN n (.str t) := okN_s (Nat.le_trans h.1 (by decide)) fun c hc => by have := h.2 c hc; omega
theorem lo_okN {fn : Str → Prop} (hf : ∀ f, fn f → OkN 0 (.str f)) {n : Nat} {d : PyData} (h : Lo fn n d) : OkN (3 * n + 6) d := by
  induction h with
  | num a => exact (okN_two (n := 0) (okN_w (by decide +kernel)) (okN_i _)).mono (by omega)
  | text a => exact (okN_two (n := 0) (okN_w (by decide +kernel)) (tex_okN a)).mono (by omega)
  | textN a =>
    refine (okN_two (n := 0) (okN_w (by decide +kernel)) (okN_s ?_ fun c hc => ?_)).mono (by omega)
    · rw [app_list, List.length_append]
      have := a.1
      show _ + 1 ≤ 1000
      omega
    · rw [app_list] at hc
      rcases List.mem_append.mp hc with m | m
      · have := a.2 c m
        omega
      · have : c = 10 := List.mem_singleton.mp m
        omega
  | @row m ds a _ ih => exact (okN_two (n := 3 * m + 7) (okN_w (by decide +kernel)) (okN_tup (n := 3 * m + 6) (by omega) ih)).mono (by omega)
  | @shape m qs a b _ ih =>
    refine (okN_two (n := 3 * m + 8) (okN_w (by decide +kernel)) (okN_tup (n := 3 * m + 7) (by rw [List.length_map]; omega) fun x hx => ?_)).mono (by omega)
    obtain ⟨q, hq, rfl⟩ := List.mem_map.mp hx
    refine okN_two (n := 3 * m + 6) ?_ (ih q hq)
    rcases b q hq with h | h | h
    · exact (okN_word h).mono (by omega)
    · rw [h]; exact okN_w (by decide +kernel)
    · rw [h]; exact okN_w (by decide +kernel)
  | @call m f ks ds a b c e _ ih =>
    refine (okN_tup (n := 3 * m + 7) (by show 4 ≤ 60; decide) fun x hx => ?_).mono (by omega)
    simp only [List.mem_cons, List.not_mem_nil, or_false] at hx
    rcases hx with h | h | h | h <;> rw [h]
    · exact okN_w (by decide +kernel)
    · exact (hf f a).mono (by omega)
    · exact okN_tup (n := 3 * m + 6) (by omega) fun k hk => (lk_okN (e k hk)).mono (by omega)
    · exact okN_tup (n := 3 * m + 6) (by omega) ih
  | @form m w sg ds a b c _ ih =>
    have s6 : sg.length ≤ 6 := (frm_form _ a).2.2.2.2.2.2
    have wk : OkN 0 (.str w) := by
      have : ∀ q ∈ frmL, (PyData.canLay0 (.str q.1) && sm (.str q.1)) = true := by decide +kernel
      exact okN_w (this _ a)
    refine (okN_tup (n := 3 * m + 6) (by rw [List.length_cons]; omega) fun x hx => ?_).mono (by omega)
    rcases List.mem_cons.mp hx with h | h
    · rw [h]; exact wk.mono (by omega)
    obtain ⟨j, hj⟩ := List.getElem?_of_mem h
    have lj := (List.getElem?_eq_some_iff.mp hj).1
    have hs : sg[j]? = some sg[j] := List.getElem?_eq_getElem (by omega)
    have sl := c j _ x hs hj
    rcases chars_seven _ a _ (List.mem_of_getElem? hs) with e | e | e | e | e | e | e
    · exact (slb_okN sl (.inl e)).mono (by omega)
    · exact ih j _ x hs hj (.inl e)
    · exact ih j _ x hs hj (.inr e)
    · exact (slb_okN sl (.inr (.inl e))).mono (by omega)
    · exact (slb_okN sl (.inr (.inr (.inl e)))).mono (by omega)
    · exact (slb_okN sl (.inr (.inr (.inr (.inl e))))).mono (by omega)
    · exact (slb_okN sl (.inr (.inr (.inr (.inr e))))).mono (by omega)
theorem lo_tuple {fn : Str → Prop} {n : Nat} {d : PyData} (h : Lo fn n d) : ∃ ds, d = .tuple ds := by cases h <;> exact ⟨_, rfl⟩
theorem odd_okN : ∀ z ∈ oddNames, OkN 0 (.str z) := by
  intro z hz
  have : ∀ z ∈ oddNames, (PyData.canLay0 (.str z) && sm (.str z)) = true := by decide +kernel
  exact okN_w (this z hz)
theorem lof_name {names : List Str} {d : PyData} (hn : ∀ z ∈ names, OkN 0 (.str z)) (h : LoF names d) : OkN 0 (.str (fnOf3 d).1) := by
  cases h with
  | mk hz _ _ _ _ _ _ _ _ =>
    rcases hz with ⟨h, _⟩ | h | h
    · exact okN_word h
    · exact hn _ h
    · exact odd_okN _ h
theorem lops_okN : ∀ {ds : List PyData} {names : List Str}, (∀ z ∈ names, OkN 0 (.str z)) → LoPs names ds → ∀ d ∈ ds, OkN 0 (.str (fnOf3 d).1) ∧ OkN 40 d
  | _, _, _, .nil _, _, h => by cases h
  | _, names, hn, .cons (d := d0) a b, d, h => by
    have hd := lof_name hn a
    rcases List.mem_cons.mp h with e | m
    · subst e
      refine ⟨hd, ?_⟩
      cases a with
      | @mk z prl prp res body hz l4 ll lk p4 pw pk rk bd =>
        refine okN_tup (n := 39) (by show 5 ≤ 60; decide) fun x hx => ?_
        simp only [List.mem_cons, List.not_mem_nil, or_false] at hx
        rcases hx with h | h | h | h | h <;> rw [h]
        · exact (show OkN 0 (.str z) from hd).mono (by decide)
        · refine (okN_tup (n := 7) (by rw [List.length_map]; omega) fun y hy => ?_).mono (by decide)
          obtain ⟨q, hq, rfl⟩ := List.mem_map.mp hy
          exact okN_two (n := 6) ((okN_lett (ll q hq)).mono (by decide)) (lk_okN (lk q hq))
        · refine (okN_tup (n := 7) (by rw [List.length_map]; omega) fun y hy => ?_).mono (by decide)
          obtain ⟨q, hq, rfl⟩ := List.mem_map.mp hy
          exact okN_two (n := 6) ((okN_word (pw q hq)).mono (by decide)) (lk_okN (pk q hq))
        · exact (lk_okN rk).mono (by decide)
        · exact (lo_okN (fun f hf => hf.elim okN_word (hn f)) bd).mono (by decide)
    · refine lops_okN (fun z hz => ?_) b d m
      rcases List.mem_append.mp hz with q | q
      · exact hn z q
      · rw [List.mem_singleton.mp q]; exact hd
theorem fnn_okN {fds : List PyData} (h : LoPs [] fds) (f : Str) (hf : FnN fds f) : OkN 0 (.str f) := by
  rcases hf with h1 | h1
  · exact okN_word h1
  · obtain ⟨d, hd, rfl⟩ := List.mem_map.mp h1
    exact (lops_okN (fun z hz => by cases hz) h d hd).1
end Sc
namespace Sc
open PySem PySem.Spec PyProof.Rows L2
/-- two tests, of which the second one changes something -/
theorem or_eff {t u : TT} {σ : L2.St} {H : Hp} {Q : Bool → Hp → Prop} (P : Hp → Prop) (c1 : Bool) (h1 : ∀ R : Bool → Hp → Prop, R c1 H → t σ H R) (p : P H) (h2 : ∀ R : Bool → Hp → Prop, (∀ b H', P H' → R b H') → u σ H R) (hT : ∀ H', P H' → Q true H') (hF : c1 = false → ∀ H', P H' → Q false H') : tOr t u σ H Q :=
  h1 _ (ite2 (fun _ => hT _ p) fun z => h2 _ fun b H' p' => by
    cases b
    · exact hF (Bool.eq_false_iff.mpr z) _ p'
    · exact hT _ p')
theorem and_eff {t u : TT} {σ : L2.St} {H : Hp} {Q : Bool → Hp → Prop} (P : Hp → Prop) (c1 : Bool) (h1 : ∀ R : Bool → Hp → Prop, R c1 H → t σ H R) (p : P H) (h2 : ∀ R : Bool → Hp → Prop, (∀ b H', P H' → R b H') → u σ H R) (hT : c1 = true → ∀ H', P H' → Q true H') (hF : ∀ H', P H' → Q false H') : tAnd t u σ H Q :=
  h1 _ (ite2 (fun z => h2 _ fun b H' p' => by
    cases b
    · exact hF _ p'
    · exact hT z _ p') fun _ => hF _ p)
theorem b01 (b : Bool) : (if b = true then (1 : Int) else 0) = 0 ∨ (if b = true then (1 : Int) else 0) = 1 := by cases b <;> simp
section
variable {P : Program} {w : World} {K : PySem.W.Frag} {mg : Str → Option Value} {base : Heap}
abbrev nLc : List Str := ["_law_s", "_law_known", "_law_deep", "_law_function", "_law_kinds", "_law_parts", "_law_k"]
theorem scLc : FnScope nLc ["_law_s", "_law_known", "_law_deep"] (defScope sLooseCall) := ⟨rfl, rfl, rfl, by decide +kernel, rfl, by decide +kernel, by decide +kernel⟩
set_option maxHeartbeats 4000000 in
theorem c_lcall {n lv : Nat} (T : Tx K mg) (lv8 : 8 ≤ lv) (CR : Cal P w K mg base lv "_law_loose" ["_law_s", "_law_known", "_law_deep"] (spLoose K n)) : Cal P w K mg base (lv + 1) "_law_loose_call" ["_law_s", "_law_known", "_law_deep"] (spLcall K n) := by
  have CT : Cal P w K mg base 1 "_law_taken" ["_law_s", "_law_most"] (spTaken K) := c_taken T
  have CA : Cal P w K mg base 2 "_law_amiss" ["_law_s"] (spAmiss K) := c_amiss T
  have CI : Cal P w K mg base 2 "_law_title" ["_law_s", "_law_k"] (spTitle K) := c_title T
  have CL : Cal P w K mg base 8 "_law_loose_kind" ["_law_s"] (spLk K) := c_lk T
  refine T.loose_call.ok scLc (fun vs H Q E h => ?_) (fun f cdv A outer s0 H vs Q E hr h => ?_)
  · obtain ⟨s, i, la, ba, na, ls, ns, bs, fds, d, rfl, _⟩ := h
    rfl
  have hu := hu_of hr
  have r1 : Room 1 _ := hr.mono (show 1 ≤ lv by omega)
  have r2 : Room 2 _ := hr.mono (show 2 ≤ lv by omega)
  have r8 : Room 8 _ := hr.mono lv8
  refine ⟨_, pss_cons (ps_if (PW.pt (pw_and (pt_cmpR op_eq (pe_callB call_len_seq (by rfl) T.m_len PySem.boot_len (pa_cons (pe_dget hu (pv 0) pe_str (fun _ _ => rfl)) pa_nil)) pe_int (nomark _)) (pw_and1 (pt_not (pt_val (pe_cal CA r2 (pa_cons (pv 0) pa_nil)))))))
      (pss_one (ps_ret (pe_tup (pa_cons pe_str (pa_cons pe_int pa_nil))))) pss_nil) <|
    pss_cons (ps_if (PW.pt (pw_or (pt_cmpR op_eq (pe_callB call_len_seq (by rfl) T.m_len PySem.boot_len (pa_cons (pe_dget hu (pv 0) pe_str (fun _ _ => rfl)) pa_nil)) pe_int (nomark _)) (pw_or1 (pt_val (pe_cal CA r2 (pa_cons (pv 0) pa_nil))))))
      (pss_one (ps_ret (pe_tup (pa_cons pe_str (pa_cons (pe_cal CI r2 (pa_cons (pv 0) (pa_cons (pe_cal CT r1 (pa_cons (pv 0) (pa_cons pe_int pa_nil))) pa_nil))) (pa_cons (pe_tup pa_nil) (pa_cons (pe_tup pa_nil) pa_nil))))))) pss_nil) <|
    pss_cons (ps_set (i := 3) scLc.nd rfl (Or.inl rfl) (pe_ix ix_list (pe_dget hu (pv 0) pe_str (fun _ _ => rfl)) (pe_cal CT r1 (pa_cons (pv 0) (pa_cons (pe_callB call_len_seq (by rfl) T.m_len PySem.boot_len (pa_cons (pe_dget hu (pv 0) pe_str (fun _ _ => rfl)) pa_nil)) pa_nil))) (fun _ _ => rfl))) <|
    pss_cons (ps_setLc (i := 4) (own := [("_law_k", 6)]) (g := gName 6) (tt := tYes) rfl scLc.nd rfl rfl (sw_true rfl rfl rfl (by decide +kernel)) (pi_range1 rfl T.m_range (pa_cons (pe_op op_add (pe_callB call_len_seq (by rfl) T.m_len PySem.boot_len (pa_cons (pe_ix ix_tup (pv 3) pe_int (fun _ _ => rfl)) pa_nil)) (pe_callTy call_int1 (by rfl) T.m_int (by decide +kernel) (pa_cons (pe_cal CA r2 (pa_cons (pv 0) pa_nil)) pa_nil))) pa_nil))
        (blkOk_by (N := nLc) (sc := defScope sLooseCall) (by decide +kernel)) (fun _ _ _ _ _ => pg_name (i := 6) scLc.nd rfl (Or.inl rfl)) (fun _ _ _ _ _ => pts_nil) (fun _ _ _ _ _ => pe_cal CL r8 (pa_cons (pv 0) pa_nil))) <|
    pss_cons (ps_setLc (i := 5) (own := [("_law_k", 6)]) (g := gName 6) (tt := tYes) rfl scLc.nd rfl rfl (sw_true rfl rfl rfl (by decide +kernel)) (pi_range1 rfl T.m_range (pa_cons (pe_op op_add (pe_callB call_len_seq (by rfl) T.m_len PySem.boot_len (pa_cons (pe_ix ix_tup (pv 3) pe_int (fun _ _ => rfl)) pa_nil)) (pe_callTy call_int1 (by rfl) T.m_int (by decide +kernel) (pa_cons (pe_cal CA r2 (pa_cons (pv 0) pa_nil)) pa_nil))) pa_nil))
        (blkOk_by (N := nLc) (sc := defScope sLooseCall) (by decide +kernel)) (fun _ _ _ _ _ => pg_name (i := 6) scLc.nd rfl (Or.inl rfl)) (fun _ _ _ _ _ => pts_nil) (fun _ _ _ _ _ => pe_cal CR hr (pa_cons (pv 0) (pa_cons (pv 1) (pa_cons (pe_op op_sub (pv 2) pe_int) pa_nil))))) <|
    pss_one (ps_ret (pe_tup (pa_cons pe_str (pa_cons (pe_ix ix_tup (pv 3) pe_int (fun _ _ => rfl)) (pa_cons (pe_callTy call_tuple_of (by rfl) T.m_tuple (by decide +kernel) (pa_cons (pv 4) pa_nil)) (pa_cons (pe_callTy call_tuple_of (by rfl) T.m_tuple (by decide +kernel) (pa_cons (pv 5) pa_nil)) pa_nil)))))), ?_⟩
  obtain ⟨s, i, la, ba, na, ls, ns, bs, fds, d, rfl, dn, d0, W, hna, wns, nab, d4, nl, bl, q⟩ := h
  obtain ⟨d, rfl⟩ : ∃ k, d = k + 1 := ⟨d - 1, by omega⟩
  have p6 : 6 ^ (d + 1 + 1) = 6 * 6 ^ (d + 1) := by rw [Nat.pow_succ]; omega
  have p1 : 1 ≤ 6 ^ (d + 1) := Nat.pos_of_ne_zero (by simp)
  obtain ⟨us, hf, hfd⟩ := W.fn
  have lus : us.length = fds.length := hfd.1
  let Pv : Hp → Prop := fun H' => Ext s H H' ∧ IsS K H' s i
  have wt : ∀ {H'}, Pv H' → St3 K H' s i la ls ba fds bs := fun h => W.ext h.1 h.2
  have f12 := W.f12
  have len : ∀ {H' : Hp}, Pv H' → H' i.f = some (.lst us) := fun h => h.1 _ _ W.nfs hf
  have am : ∀ {H' : Hp} {R : VK}, Pv H' → (∀ b H2, Pv H2 → Ext s H' H2 → R (.bl b) H2) → tCall (spAmiss K) [] E0 (tCons (tVar 0) tNil) [some (.ref s), some (.ref na), some (.int ((d + 1 : Nat) : Int)), none, none, none, none] H' R := fun h k =>
    ⟨_, rfl, s, i, rfl, h.2, W.W.o0, W.W.o40, fun b H2 x2 S2 => k b H2 ⟨h.1.trans x2, S2⟩ x2⟩
  show tAnd _ _ _ _ _
  obtain ⟨nsx, mv, hs, _⟩ := id W.W.S
  refine and_eff Pv (decide (us.length = 0)) (fun R h => ⟨_, rfl, s, .ref i.f, rfl, gS hs rfl, i.f, us, rfl, .inl (SqL.of hf), rfl, _, rfl, ?_⟩) ⟨Ext.refl _ _, W.W.S⟩ (fun R h => am ⟨Ext.refl _ _, W.W.S⟩ fun b H2 p2 _ => ⟨b, rfl, h _ _ p2⟩) (fun _ H1 p1 => iteT ?_) (fun H1 pp1 => iteF ?_)
  · show R (decide (V.int (us.length : Nat) = V.int 0)) H
    rw [eqV_int, decide_eq_decide.mpr (show ((us.length : Nat) : Int) = 0 ↔ us.length = 0 by omega)]
    exact h
  · refine ⟨(by show 2 ≤ sizeLine; decide), fun t ht => ?_⟩
    refine q (.ref t) (.tuple [.str "num", .int 1]) _ bs (ExtB.ext (p1.1.trans (Ext.new _ ht))) ((wt p1).same (same_new ht _)) (by omega) (((Dts.nil.cons (.int 1)).cons (.str "num")).tup (SqT.of upd_same)) (.num (by decide))
  have nz : ∀ {R : Bool → Hp → Prop} {H' : Hp}, R (decide (us.length = 0)) H' → R (decide (V.int (us.length : Nat) = V.int 0)) H' := fun h => by
    rw [eqV_int, decide_eq_decide.mpr (show ((us.length : Nat) : Int) = 0 ↔ us.length = 0 by omega)]
    exact h
  obtain ⟨nsy, mv1, hs1, _, _, iok, _⟩ := id pp1.2
  have hf1 := len pp1
  dsimp only [tNext]
  show tOr _ _ _ _ _
  refine or_eff Pv (decide (us.length = 0)) (fun R h => ⟨_, rfl, s, .ref i.f, rfl, gS hs1 rfl, i.f, us, rfl, .inl (SqL.of hf1), rfl, _, rfl, nz h⟩) pp1 (fun R h => am pp1 fun b H2 p2 _ => ⟨b, rfl, h _ _ p2⟩) (fun H2 p2 => iteT ?_) (fun z0 H2 p2 => iteF ?_)
  · refine ⟨_, rfl, _, rfl, s, i, 12, rfl, p2.2, by decide, by decide, fun r H3 r0 r12 x3 S3 => ⟨s, i, r, rfl, S3, r0, r12, fun H4 e4 => ⟨(by show 0 ≤ sizeLine; decide), fun t1 n1 => ⟨(by show 0 ≤ sizeLine; decide), fun t2 n2 => ⟨(by show 4 ≤ sizeLine; decide), fun t3 n3 => ?_⟩⟩⟩⟩⟩
    have k1 := same_new n1 (.tup [])
    have k2 := same_new n2 (.tup [])
    have k3 := same_new n3 (.tup [.str "call", .str (titleOf i r), .ref t1, .ref t2])
    have e := Same.trans e4 (Same.trans k1 (Same.trans k2 k3))
    have x := p2.1.trans (x3.trans (Ext.same e))
    have g1 := (Same.keep (K := K) (Same.trans k2 k3)).dt (Dts.nil.tup (SqT.of (upd_same (H := H4) (a := t1) (o := .tup []))))
    have g2 := (Same.keep (K := K) k3).dt (Dts.nil.tup (SqT.of (upd_same (H := upd H4 t1 (.tup [])) (a := t2) (o := .tup []))))
    exact q _ (.tuple [.str "call", .str (titleOf i r), .tuple [], .tuple []]) _ bs (ExtB.ext x) (W.ext x (S3.same e)) (by omega) (((((Dts.nil.cons g2).cons g1).cons (.str _)).cons (.str "call")).tup (SqT.of upd_same)) (.call (.inl (title_word iok r0 r12)) (by show 0 ≤ 5; decide) (by show 0 ≤ 5; decide) (fun k hk => by cases hk) (fun k hk => by cases hk))
  dsimp only [tNext]
  obtain ⟨nsz, mv2, hs2, _⟩ := id p2.2
  have u0 : us.length ≠ 0 := of_decide_eq_false z0
  refine ⟨_, rfl, s, .ref i.f, rfl, gS hs2 rfl, _, rfl, _, rfl, s, .ref i.f, rfl, gS hs2 rfl, i.f, us, rfl, .inl (SqL.of (len p2)), s, i, us.length, rfl, p2.2, by omega, Nat.lt_of_le_of_lt (show ((us.length : Nat) : Int).natAbs ≤ 12 by omega) (by decide), fun r H3 r0 rl x3 S3 => ?_⟩
  have p3 : Pv H3 := ⟨p2.1.trans x3, S3⟩
  have lr : r.toNat < us.length := by omega
  refine ⟨i.f, us, r, us[r.toNat], rfl, rfl, SqL.of (len p3), at_of (j := r.toNat) (by omega) (List.getElem?_eq_getElem lr), ?_⟩
  obtain ⟨df, q1, q2⟩ := hfd.at (List.getElem?_eq_getElem lr)
  have mf := List.mem_of_getElem? q1
  generalize us[r.toNat] = fv at q2 ⊢
  obtain ⟨nms, lof⟩ := LoPs.mem W.ok df mf
  cases lof with
  | @mk z prl prp res body hz l4 ll lk pl4 pw pk rk bd =>
  obtain ⟨fa, fvs, rfl, hfa, hfd2⟩ := dp_word (Dt.dp q2)
  obtain ⟨x1, fvs1, rfl, dx1, fr1⟩ : ∃ x1 r, fvs = x1 :: r ∧ Dp K H x1 (.tuple (prl.map mkP)) ∧ DpAll K H r [.tuple (prp.map mkP), res, body] := by
    cases hfd2 with | cons a b => exact ⟨_, _, rfl, a, b⟩
  obtain ⟨x2, fvs2, rfl, dx2, fr2⟩ : ∃ x1 r, fvs1 = x1 :: r ∧ Dp K H x1 (.tuple (prp.map mkP)) ∧ DpAll K H r [res, body] := by
    cases fr1 with | cons a b => exact ⟨_, _, rfl, a, b⟩
  obtain ⟨a1, vs1, rfl, h1, h1d⟩ := dp_tup dx1
  obtain ⟨a2, vs2, rfl, h2, h2d⟩ := dp_tup dx2
  have l1 : vs1.length ≤ 4 := by rw [DpAll.len h1d, List.length_map]; exact l4
  have l2 : vs2.length ≤ 4 := by rw [DpAll.len h2d, List.length_map]; exact pl4
  have tup3 : ∀ {H' : Hp} {a : Addr} {xs : List V}, Pv H' → SqT K H a xs → SqT K H' a xs := fun h g => (W.W.S.keep h.1) _ _ g
  dsimp only [gName]
  have am2 : ∀ {H' : Hp} {R : VK} {o3 o4 : Option V}, Pv H' → (∀ b H2, Pv H2 → Ext s H' H2 → R (.bl b) H2) → tCall (spAmiss K) [] E0 (tCons (tVar 0) tNil) [some (.ref s), some (.ref na), some (.int ((d + 1 : Nat) : Int)), o3, o4, none, none] H' R := fun h k =>
    ⟨_, rfl, s, i, rfl, h.2, W.W.o0, W.W.o40, fun b H2 x2 S2 => k b H2 ⟨h.1.trans x2, S2⟩ x2⟩
  refine ⟨_, rfl, fa, _, _, .ref a1, rfl, rfl, tup3 p3 hfa, at_of (j := 1) rfl rfl, a1, vs1, rfl, .inr (tup3 p3 h1), am2 p3 fun b H4 p4 _ => .inr ⟨b, rfl, _, _, rfl, rfl, _, rfl, ?_⟩⟩
  have bb := b01 b
  refine ⟨by omega, by omega, fun D hD => ?_⟩
  have nD := (wt p4).ne hD
  refine lc_range (lo := 0) (n := ((vs1.length : Int) + (if b = true then (1 : Int) else 0)).toNat) (fun j H5 => Ext s H4 H5 ∧ IsS K H5 s i ∧ ∃ vs ks, H5 D = some (.lst vs) ∧ Dts K H5 vs ks ∧ (∀ k ∈ ks, Lk k) ∧ ks.length = j)
    ⟨Ext.new _ hD, p4.2.same (same_new hD _), [], [], upd_same, Dts.nil, (fun k hk => by cases hk), rfl⟩ ?_ ?_
  · rintro j H5 hj ⟨x5, S5, vs, ks, hd5, dt5, lk5, l5⟩
    have lvs : vs.length = ks.length := dt5.1
    refine ⟨rfl, _, rfl, s, i, la, ls, rfl, (wt ⟨p4.1.trans x5, S5⟩).W, fun v d' H6 x6 S6 dv lkd => ⟨vs, x6 _ _ nD.1 hd5, small1000 (by omega), ?_⟩⟩
    have x7 : Ext s H4 (upd H6 D (.lst (vs ++ [v]))) := (x5.trans x6).over hD _
    have k7 : Keep K H6 (upd H6 D (.lst (vs ++ [v]))) := Keep.upd (x6 _ _ nD.1 hd5) trivial _
    refine ⟨x7, p4.2.over S6 x7 nD.1, vs ++ [v], ks ++ [d'], upd_same, (k7.dts ((S5.keep x6).dts dt5)).snoc (k7.dt dv), fun k hk => ?_, by rw [List.length_append, l5]; rfl⟩
    rcases List.mem_append.mp hk with m | m
    · exact lk5 k m
    · rw [List.mem_singleton.mp m]; exact lkd
  rintro H5 ⟨x5, S5, kvs, ks, hd5, dt5, lk5, l5⟩
  have p5 : Pv H5 := ⟨p4.1.trans x5, S5⟩
  have ks5 : ks.length ≤ 5 := by omega
  clear l5 x5 S5
  dsimp only [gName]
  refine ⟨_, rfl, fa, _, _, .ref a2, rfl, rfl, tup3 p5 hfa, at_of (j := 2) rfl rfl, a2, vs2, rfl, .inr (tup3 p5 h2), am2 p5 fun b2 H6 p6' x6 => .inr ⟨b2, rfl, _, _, rfl, rfl, _, rfl, ?_⟩⟩
  have bb2 := b01 b2
  refine ⟨by omega, by omega, fun F hF => ?_⟩
  have nF := (wt p6').ne hF
  have hd6 := x6 _ _ nD.1 hd5
  have nFD : D ≠ F := ne_of_none hd6 hF
  have dt6 := (p5.2.keep x6).dts dt5
  refine lc_range (lo := 0) (n := ((vs2.length : Int) + (if b2 = true then (1 : Int) else 0)).toNat) (fun j H8 => ExtB s ba H6 H8 ∧ ∃ bs8, St3 K H8 s i la ls ba fds bs8 ∧ bs8.length ≤ bs.length + j * 6 ^ (d + 1) ∧ ∃ vs ps, H8 F = some (.lst vs) ∧ Dts K H8 vs ps ∧ (∀ p ∈ ps, Lo (FnN fds) (d + 1) p) ∧ ps.length = j)
    ⟨ExtB.same (same_new hF _), bs, (wt p6').same (same_new hF _), by omega, [], [], upd_same, Dts.nil, (fun k hk => by cases hk), rfl⟩ ?_ ?_
  · rintro j H8 hj ⟨x8, bs8, W8, l8, vs, ps, hF8, dt8, lo8, lps⟩
    have lvs : vs.length = ps.length := dt8.1
    have j4 : j ≤ 4 := by omega
    have jp := Nat.mul_le_mul_right (6 ^ (d + 1)) j4
    have x08 : ExtB s ba H H8 := (ExtB.ext p6'.1).trans x8
    refine ⟨rfl, _, rfl, _, rfl, _, rfl, _, _, rfl, rfl, s, i, la, ba, na, ls, ns, bs8, fds, d, ?_, by omega, W8, W.seq x08 nab hna, wns, by omega, nab, by omega, by omega, by omega, fun v p H9 bs9 x9 W9 l9 dv lo => ⟨vs, x9 _ _ nF.1 nF.2.1 hF8, small1000 (by omega), ?_⟩⟩
    · show ([.ref s, .ref na, .int (((d + 1 : Nat) : Int) - 1)] : List V) = _
      rw [show ((d + 1 : Nat) : Int) - 1 = (d : Int) by omega]
    have x10 : ExtB s ba H6 (upd H9 F (.lst (vs ++ [v]))) := (x8.trans x9).over hF _
    have k10 : Keep K H9 (upd H9 F (.lst (vs ++ [v]))) := Keep.upd (x9 _ _ nF.1 nF.2.1 hF8) trivial _
    refine ⟨x10, bs9, (wt p6').over W9 x10 hF, by rw [Nat.succ_mul]; omega, vs ++ [v], ps ++ [p], upd_same, (k10.dts ((W8.keep x9).dts dt8)).snoc (k10.dt dv), fun k hk => ?_, by rw [List.length_append, lps]; rfl⟩
    rcases List.mem_append.mp hk with m | m
    · exact lo8 k m
    · rw [List.mem_singleton.mp m]; exact lo
  rintro H8 ⟨x8, bs8, W8, l8, pvs, ps, hF8, dt8, lo8, lps⟩
  have x08 : ExtB s ba H H8 := (ExtB.ext p6'.1).trans x8
  have ps5 : ps.length ≤ 5 := by omega
  have hd8 := x8 _ _ nD.1 nD.2.1 hd6
  have dt8' := ((wt p6').keep x8).dts dt6
  have hfa8 := (W.keep x08) _ _ hfa
  dsimp only [gName]
  refine ⟨_, rfl, fa, _, _, .str z, rfl, rfl, hfa8, at_of (j := 0) rfl rfl, _, rfl, D, _, rfl, .inl ⟨SqL.of hd8, fun t1 n1 => ⟨_, rfl, F, _, rfl, .inl ⟨SqL.of ((same_new n1 _) _ _ hF8), fun t2 n2 => ⟨(by show 4 ≤ sizeLine; decide), fun t3 n3 => ?_⟩⟩⟩⟩⟩
  have k1 := same_new n1 (.tup kvs)
  have k2 := same_new n2 (.tup pvs)
  have k3 := same_new n3 (.tup [.str "call", .str z, .ref t1, .ref t2])
  have e := Same.trans k1 (Same.trans k2 k3)
  have g1 := ((Same.keep (K := K) e).dts dt8').tup (SqT.of ((Same.trans k2 k3) _ _ (upd_same (H := H8) (a := t1) (o := .tup kvs))))
  have g2 := ((Same.keep (K := K) e).dts dt8).tup (SqT.of (k3 _ _ (upd_same (H := upd H8 t1 (.tup kvs)) (a := t2) (o := .tup pvs))))
  refine q _ (.tuple [.str "call", .str z, .tuple ks, .tuple ps]) _ bs8 (x08.trans (ExtB.same e)) (W8.same e) ?_ (((((Dts.nil.cons g2).cons g1).cons (.str _)).cons (.str "call")).tup (SqT.of upd_same)) (.call (.inr ?_) ks5 ps5 lk5 lo8)
  · have jp := Nat.mul_le_mul_right (6 ^ (d + 1)) (show ((vs2.length : Int) + (if b2 = true then (1 : Int) else 0)).toNat ≤ 5 by omega)
    omega
  · exact List.mem_map.mpr ⟨_, mf, rfl⟩
end
end Sc
namespace Sc
open PySem PySem.Spec PyProof.Rows L2
theorem op_notInDK (K : PySem.W.Frag) {X : Cx} (hu : X.A.units + 65 < cLine) (h : X.K = K := by rfl) : OpR X (compareOp .NotIn) (rNotInD K) := h ▸ op_notInD hu
theorem hu65_of {A : Around} {k : Nat} (hr : Room k A) : A.units + 65 < cLine := by have := hr.un; omega
theorem for_str {x : Str} {g : TG} {tb : TS} {D : Ends} {σ : L2.St} {H : Hp} (Pv : Nat → L2.St → Hp → Prop) (h0 : Pv 0 σ H)
    (hs : ∀ (i : Nat) (c : Nat) (σ : L2.St) (H : Hp), x.cps[i]? = some c → Pv i σ H → g (.str ⟨#[c]⟩) σ H fun σ2 H2 => tb { D with nx := Pv (i + 1), ct := Pv (i + 1), bk := D.nx } σ2 H2) (hd : ∀ σ H, Pv x.length σ H → D.nx σ H) :
    ∃ W : Nat → Nat → L2.St → Hp → Prop, (∃ m, W 0 m σ H) ∧ ∀ i m σ H, W i m σ H →
      ((Its x).stop i H ∧ D.nx σ H) ∨ ((Its x).go i H ∧ ∃ N : L2.St → Hp → Prop, (∀ σ' H', N σ' H' → ∃ m', m' < m ∧ W (i + 1) m' σ' H') ∧ ∀ y H', (Its x).yld i H y H' → g y σ H' fun σ2 H2 => tb { D with nx := N, ct := N, bk := D.nx } σ2 H2) := by
  refine ⟨fun i m σ H => m = x.length - i ∧ i ≤ x.length ∧ Pv i σ H, ⟨x.length, by simp, Nat.zero_le _, h0⟩, ?_⟩
  rintro i m σ H ⟨rfl, hi, p⟩
  by_cases hlt : i < x.length
  · refine .inr ⟨hlt, Pv (i + 1), fun σ' H' p' => ⟨x.length - (i + 1), by omega, rfl, hlt, p'⟩, fun y H' hy => ?_⟩
    obtain ⟨e, c, hc, y⟩ := hy
    subst e y
    exact hs i c σ _ hc p
  · have e : i = x.length := by omega
    subst e
    exact .inl ⟨Nat.le_refl _, hd σ H p⟩
theorem cut_mem {xs : List V} {a b : Option Int} {v : V} (h : v ∈ cutV xs a b) : v ∈ xs := List.mem_of_mem_drop (List.mem_of_mem_take h)
theorem strs_of {p : Str → Prop} {xs : List V} {bs : List Str} (h : ∀ v ∈ xs, v ∈ bs.map V.str) (hb : ∀ z ∈ bs, p z) : ∃ zs : List Str, xs = zs.map V.str ∧ ∀ z ∈ zs, p z := by
  induction xs with
  | nil => exact ⟨[], rfl, fun z hz => by cases hz⟩
  | cons x xs ih =>
    obtain ⟨zs, e, w⟩ := ih fun v hv => h v (List.mem_cons_of_mem _ hv)
    obtain ⟨z, hz, ez⟩ := List.mem_map.mp (h x List.mem_cons_self)
    refine ⟨z :: zs, by rw [e, ← ez]; rfl, fun y hy => ?_⟩
    rcases List.mem_cons.mp hy with e | m
    · rw [e]; exact hb z hz
    · exact w y m
theorem eqv_str (x y : Str) : PyData.eqv (.str x) (.str y) = (x == y) := by simp [PyData.eqv]
theorem eqv_tup (ds : List PyData) (y : Str) : PyData.eqv (.tuple ds) (.str y) = false := by simp [PyData.eqv]
theorem w_slot : ∀ q ∈ frmL, ∀ j, j < 6 → q.2[j]? = some ("w" : Str) → j = 0 ∨ (j = 2 ∧ q.2[0]? = some ("w" : Str) ∧ q.2[1]? = some ("e" : Str)) := by decide +kernel
theorem frm_okN {w : Str} {sg : List Str} (h : (w, sg) ∈ frmL) : OkN 0 (.str w) := by
  have : ∀ q ∈ frmL, (PyData.canLay0 (.str q.1) && sm (.str q.1)) = true := by decide +kernel
  exact okN_w (this _ h)
theorem slb_w {z : Str} (w : Word z) : SlB ("w" : Str) (.str z) := ⟨fun _ => ⟨z, rfl, w⟩, fun e => absurd e (by decide +kernel), fun e => absurd e (by decide +kernel), fun e => absurd e (by decide +kernel), fun e => absurd e (by decide +kernel)⟩
theorem slb_e {c : Str} {d : PyData} (h : isSub c) : SlB c d := by
  rcases h with e | e <;> subst e <;> exact ⟨fun e => absurd e (by decide +kernel), fun e => absurd e (by decide +kernel), fun e => absurd e (by decide +kernel), fun e => absurd e (by decide +kernel), fun e => absurd e (by decide +kernel)⟩
theorem slb_k {d : PyData} (h : Lk d) : SlB ("k" : Str) d := ⟨fun e => absurd e (by decide +kernel), fun _ => h, fun e => absurd e (by decide +kernel), fun e => absurd e (by decide +kernel), fun e => absurd e (by decide +kernel)⟩
theorem slb_x {z : Str} (w : Word z) : SlB ("x" : Str) (.str z) := ⟨fun e => absurd e (by decide +kernel), fun e => absurd e (by decide +kernel), fun _ => ⟨z, rfl, w⟩, fun e => absurd e (by decide +kernel), fun e => absurd e (by decide +kernel)⟩
theorem slb_f {z : Str} (w : z = "A" ∨ Word z) : SlB ("f" : Str) (.str z) := ⟨fun e => absurd e (by decide +kernel), fun e => absurd e (by decide +kernel), fun e => absurd e (by decide +kernel), fun _ => ⟨z, rfl, w⟩, fun e => absurd e (by decide +kernel)⟩
theorem slb_a {z : Str} (w : z = "rows" ∨ z ∈ (["number", "text", "row", "book", "shape"] : List Str)) : SlB ("a" : Str) (.str z) := ⟨fun e => absurd e (by decide +kernel), fun e => absurd e (by decide +kernel), fun e => absurd e (by decide +kernel), fun e => absurd e (by decide +kernel), fun _ => ⟨z, rfl, w⟩⟩
theorem nosub {c : Str} (h : c = ("w" : Str) ∨ c = ("k" : Str) ∨ c = ("x" : Str) ∨ c = ("f" : Str) ∨ c = ("a" : Str)) : ¬ isSub c := by
  rcases h with e | e | e | e | e <;> subst e <;> (rintro (z | z) <;> revert z <;> decide +kernel)
theorem or_eff2 {t u : TT} {σ : L2.St} {H : Hp} {Q : Bool → Hp → Prop} (P : Hp → Prop) (c1 : Bool) (h1 : ∀ R : Bool → Hp → Prop, (∀ H', P H' → R c1 H') → t σ H R) (h2 : ∀ H', P H' → ∀ R : Bool → Hp → Prop, (∀ b H2, P H2 → R b H2) → u σ H' R) (hT : ∀ H', P H' → Q true H') (hF : c1 = false → ∀ H', P H' → Q false H') : tOr t u σ H Q :=
  h1 _ fun H' p => ite2 (fun _ => hT _ p) fun z => h2 _ p _ fun b H2 p' => by
    cases b
    · exact hF (Bool.eq_false_iff.mpr z) _ p'
    · exact hT _ p'
theorem shaped_l {n : Nat} {ds : List PyData} (h : ∀ d ∈ ds, OkN n d) (hl : ds.length ≤ 60) (hn : n ≤ 60) : SeqAt.shaped (.list ds) = true := by
  have z := okN_tup hl h
  refine Bool.and_eq_true_iff.mpr ⟨z.1, decide_eq_true ?_⟩
  have e : (PyData.list ds).depth = (PyData.tuple ds).depth := by simp [PyData.depth]
  rw [e]
  have := z.2.2
  omega
theorem nin1 {w0 y : Str} (h : y ≠ w0) : (!(([.str w0] : List PyData).any fun z => PyData.eqv z (.str y))) = true := by simp [eqv_str, Ne.symm h]
theorem nin3 {w0 z1 y : Str} {ds : List PyData} (h1 : y ≠ w0) (h2 : y ≠ z1) : (!(([.str w0, .str z1, .tuple ds] : List PyData).any fun z => PyData.eqv z (.str y))) = true := by simp [eqv_str, eqv_tup, Ne.symm h1, Ne.symm h2]
theorem pick3 {a b c x y : Str} (ab : a ≠ b) (ac : a ≠ c) (bc : b ≠ c) : (a ≠ x ∧ a ≠ y) ∨ (b ≠ x ∧ b ≠ y) ∨ (c ≠ x ∧ c ≠ y) := by
  by_cases h1 : a = x
  · subst h1
    by_cases h2 : b = y
    · subst h2
      exact .inr (.inr ⟨ac.symm, bc.symm⟩)
    · exact .inr (.inl ⟨ab.symm, h2⟩)
  · by_cases h2 : a = y
    · subst h2
      by_cases h3 : b = x
      · subst h3
        exact .inr (.inr ⟨bc.symm, ac.symm⟩)
      · exact .inr (.inl ⟨h3, ab.symm⟩)
    · exact .inl ⟨h1, h2⟩
section
variable {P : Program} {w : World} {K : PySem.W.Frag} {mg : Str → Option Value} {base : Heap}
abbrev nLp : List Str := ["_law_s", "_law_word", "_law_known", "_law_deep", "_law_made", "_law_inner", "_law_sort", "_law_new", "_law_some", "_law_asks", "_law_one"]
theorem scLp : FnScope nLp ["_law_s", "_law_word", "_law_known", "_law_deep"] (defScope sLoosePieces) := ⟨rfl, rfl, rfl, by decide +kernel, rfl, by decide +kernel, by decide +kernel⟩
set_option maxHeartbeats 4000000 in
theorem c_pieces {n lv : Nat} (T : Tx K mg) (lv8 : 8 ≤ lv) (CR : Cal P w K mg base lv "_law_loose" ["_law_s", "_law_known", "_law_deep"] (spLoose K n)) : Cal P w K mg base (lv + 1) "_law_loose_pieces" ["_law_s", "_law_word", "_law_known", "_law_deep"] (spPieces K n) := by
  have CT : Cal P w K mg base 1 "_law_taken" ["_law_s", "_law_most"] (spTaken K) := c_taken T
  have CA : Cal P w K mg base 2 "_law_amiss" ["_law_s"] (spAmiss K) := c_amiss T
  have CW : Cal P w K mg base 1 "_law_a_word" ["_law_s", "_law_k"] (spWord K) := c_a_word T
  have CF : Cal P w K mg base 1 "_law_form_of" ["_law_word"] (spFormL K) := c_l_form T
  have CL : Cal P w K mg base 8 "_law_loose_kind" ["_law_s"] (spLk K) := c_lk T
  refine T.loose_pieces.ok scLp (fun vs H Q E h => ?_) (fun f cdv A outer s0 H vs Q E hr h => ?_)
  · obtain ⟨s, i, la, ba, na, ls, ns, bs, fds, d, w0, sg, rfl, _⟩ := h
    rfl
  have hu := hu_of hr
  have hU := hr.units
  have h65 := hu65_of hr
  have r1 : Room 1 _ := hr.mono (show 1 ≤ lv by omega)
  have r2 : Room 2 _ := hr.mono (show 2 ≤ lv by omega)
  have r8 : Room 8 _ := hr.mono lv8
  refine ⟨_, pss_cons (ps_set (i := 4) scLp.nd rfl (Or.inr rfl) (pe_lst (pa_cons (pv 1) pa_nil))) <|
    pss_cons (ps_set (i := 5) scLp.nd rfl (Or.inl rfl) (pe_callTy call_list_of (by rfl) T.m_list (by decide +kernel) (pa_cons (pv 2) pa_nil))) <|
    pss_cons (ps_for PassesOwn.never rfl (pi_str (pe_cal CF r1 (pa_cons (pv 1) pa_nil))) (pg_name (i := 6) scLp.nd rfl (Or.inl rfl))
      (pss_one (ps_if (pt_cmpR op_eq (pv 6) pe_str (nomark _))
        (pss_cons (ps_setLc (i := 7) (own := [("_law_one", 10)]) (g := gName 10) rfl scLp.nd rfl rfl (sw_true rfl rfl rfl (by decide +kernel)) (pi_range1 rfl T.m_range (pa_cons pe_int pa_nil)) (blkOk_by (N := nLp) (sc := defScope sLoosePieces) (by decide +kernel))
            (fun _ _ _ _ _ => pg_name (i := 10) scLp.nd rfl (Or.inl rfl)) (fun _ _ _ _ _ => pts_one (PW.pt (pw_or (pt_cmpR (op_notInDK K h65) (pe_cal CW r1 (pa_cons (pv 0) (pa_cons (pe_op op_add pe_int (pv 10)) pa_nil))) (pv 4) (by rfl)) (pw_or1 (pt_val (pe_cal CA r2 (pa_cons (pv 0) pa_nil))))))) (fun _ _ _ _ _ => pv 10)) <|
         pss_cons (ps_expr (pe_bm PySem.F.plainAttrs_list PySem.F.slot_list_append PySem.F.type_list_append mt_append (pv 4) (pa_cons (pe_cal CW r1 (pa_cons (pv 0) (pa_cons (pe_op op_add pe_int (pe_ix ix_list (pv 7) (pe_cal CT r1 (pa_cons (pv 0) (pa_cons (pe_callB call_len_seq (by rfl) T.m_len PySem.boot_len (pa_cons (pv 7) pa_nil)) pa_nil))) (fun _ _ => rfl))) pa_nil))) pa_nil))) <|
         pss_cons (ps_expr (pe_bm PySem.F.plainAttrs_list PySem.F.slot_list_append PySem.F.type_list_append mt_append (pv 5) (pa_cons (pe_ix ix_list (pv 4) (pe_un un_neg pe_int) (fun _ _ => rfl)) pa_nil))) <|
         pss_one (ps_expr (pe_bm PySem.F.plainAttrs_list PySem.F.slot_list_append PySem.F.type_list_append mt_append (pe_dget hu (pv 0) pe_str (fun _ _ => rfl)) (pa_cons (pe_ix ix_list (pv 4) (pe_un un_neg pe_int) (fun _ _ => rfl)) pa_nil))))
        (pss_one (ps_if (PW.pt (pw_or (pt_cmpR op_eq (pv 6) pe_str (nomark _)) (pw_or1 (pt_cmpR op_eq (pv 6) pe_str (nomark _)))))
          (pss_one (ps_expr (pe_bm PySem.F.plainAttrs_list PySem.F.slot_list_append PySem.F.type_list_append mt_append (pv 4) (pa_cons (pe_cal CR hr (pa_cons (pv 0) (pa_cons (pe_ifExp (pt_cmpR op_eq (pv 6) pe_str (nomark _)) (pv 2) (pv 5)) (pa_cons (pe_op op_sub (pv 3) pe_int) pa_nil)))) pa_nil))))
          (pss_one (ps_if (pt_cmpR op_eq (pv 6) pe_str (nomark _))
            (pss_one (ps_expr (pe_bm PySem.F.plainAttrs_list PySem.F.slot_list_append PySem.F.type_list_append mt_append (pv 4) (pa_cons (pe_cal CL r8 (pa_cons (pv 0) pa_nil)) pa_nil))))
            (pss_one (ps_if (pt_cmpR op_eq (pv 6) pe_str (nomark _))
              (pss_cons (ps_set (i := 8) scLp.nd rfl (Or.inl rfl) (pv 2)) <|
               pss_cons (ps_if (PW.pt (pw_or (pt_cmpR (op_eqD hU) (pv 2) (pe_lst pa_nil) (nomark _)) (pw_or1 (pt_val (pe_cal CA r2 (pa_cons (pv 0) pa_nil))))))
                 (pss_one (ps_set (i := 8) scLp.nd rfl (Or.inl rfl) (pe_op op_cat (pe_lst (pa_cons (pe_cal CW r1 (pa_cons (pv 0) (pa_cons pe_int pa_nil))) pa_nil)) (pe_slice sl_list (pe_dget hu (pv 0) pe_str (fun _ _ => rfl)) (po_some (pe_op op_sub pe_int pe_int)) po_none)))) pss_nil) <|
               pss_one (ps_expr (pe_bm PySem.F.plainAttrs_list PySem.F.slot_list_append PySem.F.type_list_append mt_append (pv 4) (pa_cons (pe_ix ix_list (pv 8) (pe_cal CT r1 (pa_cons (pv 0) (pa_cons (pe_callB call_len_seq (by rfl) T.m_len PySem.boot_len (pa_cons (pv 8) pa_nil)) pa_nil))) (fun _ _ => rfl)) pa_nil))))
              (pss_one (ps_if (pt_cmpR op_eq (pv 6) pe_str (nomark _))
                (pss_one (ps_expr (pe_bm PySem.F.plainAttrs_list PySem.F.slot_list_append PySem.F.type_list_append mt_append (pv 4) (pa_cons (pe_ifExp (pt_val (pe_cal CA r2 (pa_cons (pv 0) pa_nil))) pe_str (pe_cal CW r1 (pa_cons (pv 0) (pa_cons (pe_cal CT r1 (pa_cons (pv 0) (pa_cons pe_int pa_nil))) pa_nil)))) pa_nil))))
                (pss_cons (ps_set (i := 9) scLp.nd rfl (Or.inl rfl) (pe_lst (pa_cons pe_str (pa_cons pe_str (pa_cons pe_str (pa_cons pe_str (pa_cons pe_str pa_nil))))))) <|
                 pss_one (ps_expr (pe_bm PySem.F.plainAttrs_list PySem.F.slot_list_append PySem.F.type_list_append mt_append (pv 4) (pa_cons (pe_ifExp (pt_val (pe_cal CA r2 (pa_cons (pv 0) pa_nil))) pe_str (pe_ix ix_list (pv 9) (pe_cal CT r1 (pa_cons (pv 0) (pa_cons pe_int pa_nil))) (fun _ _ => rfl))) pa_nil))))))))))))))) <|
    pss_one (ps_ret (pe_callTy call_tuple_of (by rfl) T.m_tuple (by decide +kernel) (pa_cons (pv 4) pa_nil))), ?_⟩
  obtain ⟨s, i, la, ba, na, ls, ns, bs, fds, d, w0, sg, rfl, dn, hw, d0, W, hna, wns, nab, d4, nl, bl, q⟩ := h
  have s6 : sg.length ≤ 6 := (frm_form _ hw).2.2.2.2.2.2
  have lsg : (catL sg).length = sg.length := chars_len hw
  have p6 : 6 ^ (d + 1) = 6 * 6 ^ d := by rw [Nat.pow_succ]; omega
  have p1 : 1 ≤ 6 ^ d := Nat.pos_of_ne_zero (by simp)
  have iok : i.Ok := by obtain ⟨_, _, _, _, _, iok, _⟩ := id W.W.S; exact iok
  refine ⟨_, rfl, (by show 1 ≤ sizeLine; decide), fun M hM => ?_⟩
  dsimp only [gName]
  have nM := W.ne hM
  have e1 := same_new hM (.lst [.str w0])
  have hM1 : (upd H M (.lst [.str w0])) M = some (.lst [.str w0]) := upd_same
  generalize (upd H M (.lst [.str w0])) = H1 at e1 hM1 ⊢
  refine ⟨_, rfl, na, _, rfl, .inl (Same.seq e1 hna), fun I hI => ?_⟩
  have hI0 : H I = none := Same.free e1 hI
  have nI := W.ne hI0
  have nMI : M ≠ I := ne_of_none hM1 hI
  have e2 := Same.trans e1 (same_new hI (.lst (ns.map V.str)))
  have hM2 : (upd H1 I (.lst (ns.map V.str))) M = some (.lst [.str w0]) := by rw [upd_ne nMI]; exact hM1
  have hI2 : (upd H1 I (.lst (ns.map V.str))) I = some (.lst (ns.map V.str)) := upd_same
  generalize (upd H1 I (.lst (ns.map V.str))) = H2 at e2 hM2 hI2 ⊢
  dsimp only [gName]
  refine ⟨_, rfl, w0, sg, rfl, hw, fun H3 e3 => ⟨catL sg, rfl, ?_⟩⟩
  have e23 := Same.trans e2 e3
  refine for_str (fun j σ5 H5 => ExtB s ba H H5 ∧ ∃ bs5, St3 K H5 s i la ls ba fds bs5 ∧ bs5.length ≤ bs.length + j * 6 ^ d ∧ ∃ us pd ws, H5 M = some (.lst (.str w0 :: us)) ∧ Dts K H5 us pd ∧ pd.length = j ∧ (∀ (k : Nat) (c : Str) (x : PyData), sg[k]? = some c → pd[k]? = some x → SlB c x ∧ (isSub c → Lo (FnN fds) d x)) ∧
      H5 I = some (.lst ((ns ++ ws).map V.str)) ∧ (∀ z ∈ ws, Word z) ∧ ws.length ≤ j ∧ ∃ o6 o7 o8 o9, σ5 = [some (.ref s), some (.str w0), some (.ref na), some (.int (d : Int)), some (.ref M), some (.ref I), o6, o7, o8, o9, none])
    ⟨ExtB.same e23, bs, W.same e23, by omega, [], [], [], e3 _ _ hM2, Dts.nil, rfl, (fun k c x _ h => by simp at h), by rw [List.append_nil]; exact e3 _ _ hI2, (fun z hz => by cases hz), Nat.le_refl _, _, _, _, _, rfl⟩ ?_ ?_
  · rintro j ch σ5 H5 hch ⟨x5, bs5, W5, l5, us, pd, ws, hM5, dt5, lpd, sl5, hI5, wws, lws, o6, o7, o8, o9, rfl⟩
    have hj : j < sg.length := by rw [← lsg]; exact (Array.getElem?_eq_some_iff.mp hch).1
    obtain ⟨ch', c, hch', hc1, hc2⟩ := chars_at hw hj
    obtain rfl : ch' = ch := Option.some.inj (hch'.symm.trans hch)
    have yes : ∀ z : Str, c = z → decide (V.str (⟨#[ch']⟩ : Str) = V.str z) = true := fun z e => decide_eq_true (congrArg V.str (hc2.symm.trans e))
    have no : ∀ z : Str, c ≠ z → ¬ decide (V.str (⟨#[ch']⟩ : Str) = V.str z) = true := fun z ne y => ne (hc2.trans (V.str.inj (of_decide_eq_true y)))
    have lus : us.length = j := by rw [dt5.1, lpd]
    have jp := Nat.mul_le_mul_right (6 ^ d) (show j ≤ 5 by omega)
    have js : (j + 1) * 6 ^ d = j * 6 ^ d + 6 ^ d := Nat.succ_mul _ _
    -- one more piece
    have add : ∀ {H6 : Hp} {bs6 : List Str} {v : V} {x : PyData} (p6 p7 p8 p9 : Option V), ExtB s ba H5 H6 → St3 K H6 s i la ls ba fds bs6 → bs6.length ≤ bs.length + (j + 1) * 6 ^ d → Dt K H6 v x → SlB c x → (isSub c → Lo (FnN fds) d x) →
        ∃ (l : Addr) (xs : List V) (y : V), V.ref M = .ref l ∧ ([v] : List V) = [y] ∧ H6 l = some (.lst xs) ∧ xs.length < sizeLine ∧ (ExtB s ba H (upd H6 l (.lst (xs ++ [y]))) ∧ ∃ bs5, St3 K (upd H6 l (.lst (xs ++ [y]))) s i la ls ba fds bs5 ∧ bs5.length ≤ bs.length + (j + 1) * 6 ^ d ∧ ∃ us pd ws, (upd H6 l (.lst (xs ++ [y]))) M = some (.lst (.str w0 :: us)) ∧ Dts K (upd H6 l (.lst (xs ++ [y]))) us pd ∧ pd.length = j + 1 ∧ (∀ (k : Nat) (c : Str) (x : PyData), sg[k]? = some c → pd[k]? = some x → SlB c x ∧ (isSub c → Lo (FnN fds) d x)) ∧
          (upd H6 l (.lst (xs ++ [y]))) I = some (.lst ((ns ++ ws).map V.str)) ∧ (∀ z ∈ ws, Word z) ∧ ws.length ≤ j + 1 ∧ ∃ o6 o7 o8 o9, ([some (.ref s), some (.str w0), some (.ref na), some (.int (d : Int)), some (.ref M), some (.ref I), p6, p7, p8, p9, none] : L2.St) = [some (.ref s), some (.str w0), some (.ref na), some (.int (d : Int)), some (.ref M), some (.ref I), o6, o7, o8, o9, none]) := by
      intro H6 bs6 v x q6 q7 q8 q9 x6 W6 l6 dv sb lo
      have hM6 := x6 _ _ nM.1 nM.2.1 hM5
      have hI6 := x6 _ _ nI.1 nI.2.1 hI5
      have x7 : ExtB s ba H (upd H6 M (.lst (.str w0 :: us ++ [v]))) := (x5.trans x6).over hM _
      have k7 : Keep K H6 (upd H6 M (.lst (.str w0 :: us ++ [v]))) := Keep.upd hM6 trivial _
      refine ⟨M, _, _, rfl, rfl, hM6, small1000 (by rw [List.length_cons]; omega), x7, bs6, W.over W6 x7 hM, l6, us ++ [v], pd ++ [x], ws, upd_same, (k7.dts ((W5.keep x6).dts dt5)).snoc (k7.dt dv), by rw [List.length_append, lpd]; rfl, fun k c' x' h1 h2 => ?_, by rw [upd_ne nMI.symm]; exact hI6, wws, by omega, _, _, _, _, rfl⟩
      by_cases lt : k < pd.length
      · rw [List.getElem?_append_left lt] at h2
        exact sl5 k c' x' h1 h2
      · rw [List.getElem?_append_right (by omega)] at h2
        have z : k - pd.length = 0 := by
          have := (List.getElem?_eq_some_iff.mp h2).1
          simp at this
          omega
        rw [z] at h2
        cases h2
        have ek : k = j := by omega
        subst ek
        rw [hc1] at h1
        cases h1
        exact ⟨sb, lo⟩
    have ne : ∀ {z : Str} (y : Str), c = y → (y = z → False) → c ≠ z := fun y e n z => n (e.symm.trans z)
    have hs5 := id W5.W.S
    rcases chars_seven _ hw c (List.mem_of_getElem? hc1) with e | e | e | e | e | e | e
    · -- a new name
      refine ⟨_, rfl, rfl, _, rfl, iteYes (yes _ e) ?_⟩
      have okp : ∀ x ∈ (PyData.str w0 :: pd), OkN 40 x := fun x hx => by
        rcases List.mem_cons.mp hx with h | h
        · rw [h]; exact (frm_okN hw).mono (by decide)
        obtain ⟨k, hk⟩ := List.getElem?_of_mem h
        have lk := (List.getElem?_eq_some_iff.mp hk).1
        have hs : sg[k]? = some sg[k] := List.getElem?_eq_getElem (by omega)
        obtain ⟨sb, lo⟩ := sl5 k _ x hs hk
        rcases chars_seven _ hw _ (List.mem_of_getElem? hs) with g | g | g | g | g | g | g
        · exact (slb_okN sb (.inl g)).mono (by decide)
        · exact (lo_okN (fnn_okN W.ok) (lo (.inl g))).mono (by omega)
        · exact (lo_okN (fnn_okN W.ok) (lo (.inr g))).mono (by omega)
        · exact (slb_okN sb (.inr (.inl g))).mono (by decide)
        · exact (slb_okN sb (.inr (.inr (.inl g)))).mono (by decide)
        · exact (slb_okN sb (.inr (.inr (.inr (.inl g))))).mono (by decide)
        · exact (slb_okN sb (.inr (.inr (.inr (.inr g))))).mono (by decide)
      have sh0 : SeqAt.shaped (.list (.str w0 :: pd)) = true := shaped_l okp (by rw [List.length_cons]; omega) (by decide)
      have free : ∃ m : Nat, m < 9 ∧ (!((PyData.str w0 :: pd).any fun z => PyData.eqv z (.str (wordOf i (3 + (0 + (m : Int))))))) = true := by
        have inj : ∀ a b : Nat, a < 9 → b < 9 → a ≠ b → wordOf i (3 + (0 + (a : Int))) ≠ wordOf i (3 + (0 + (b : Int))) := fun a b ha hb n z => n (by have := word_inj iok (by omega) (by omega) (by omega) (by omega) z; omega)
        rcases w_slot _ hw j (by omega) (hc1.trans (congrArg some e)) with e0 | ⟨e2, g0, g1⟩
        · obtain rfl : pd = [] := List.length_eq_zero_iff.mp (by omega)
          rcases pick3 (x := w0) (y := w0) (inj 0 1 (by decide) (by decide) (by decide)) (inj 0 2 (by decide) (by decide) (by decide)) (inj 1 2 (by decide) (by decide) (by decide)) with h | h | h
          · exact ⟨0, by decide, nin1 h.1⟩
          · exact ⟨1, by decide, nin1 h.1⟩
          · exact ⟨2, by decide, nin1 h.1⟩
        · obtain ⟨x0, x1, rfl⟩ := len2 (lpd.trans e2)
          obtain ⟨z1, rfl, _⟩ := (sl5 0 _ x0 g0 rfl).1.1 rfl
          obtain ⟨ds1, rfl⟩ := lo_tuple ((sl5 1 _ x1 g1 rfl).2 (.inl rfl))
          rcases pick3 (x := w0) (y := z1) (inj 0 1 (by decide) (by decide) (by decide)) (inj 0 2 (by decide) (by decide) (by decide)) (inj 1 2 (by decide) (by decide) (by decide)) with h | h | h
          · exact ⟨0, by decide, nin3 h.1 h.2⟩
          · exact ⟨1, by decide, nin3 h.1 h.2⟩
          · exact ⟨2, by decide, nin3 h.1 h.2⟩
      refine ⟨_, rfl, by decide, by decide, fun D hD => ?_⟩
      have nDs := (W5.ne hD).1
      have nDM : M ≠ D := ne_of_none hM5 hD
      have nDI : I ≠ D := ne_of_none hI5 hD
      refine lc_range (lo := 0) (n := 9) (fun k H6 => Ext s H5 H6 ∧ IsS K H6 s i ∧ ∃ qs : List Int, H6 D = some (.lst (qs.map V.int)) ∧ (∀ q ∈ qs, 0 ≤ q ∧ q < 9) ∧ qs.length ≤ k ∧ (∀ m : Nat, m < k → (!((PyData.str w0 :: pd).any fun z => PyData.eqv z (.str (wordOf i (3 + (0 + (m : Int))))))) = true → qs ≠ []))
        ⟨Ext.new _ hD, W5.W.S.same (same_new hD _), [], upd_same, (fun q hq => by cases hq), Nat.le_refl _, fun m hm => absurd hm (Nat.not_lt_zero _)⟩ ?_ ?_
      · rintro k H6 hk ⟨x6, S6, qs, hD6, q9, lq, ne0⟩
        have more : ∀ H7, Ext s H6 H7 → IsS K H7 s i → ∃ acc : List V, H7 D = some (.lst acc) ∧ acc.length < sizeLine ∧ (Ext s H5 (upd H7 D (.lst (acc ++ [V.int (0 + (k : Int))]))) ∧ IsS K (upd H7 D (.lst (acc ++ [V.int (0 + (k : Int))]))) s i ∧ ∃ qs : List Int, (upd H7 D (.lst (acc ++ [V.int (0 + (k : Int))]))) D = some (.lst (qs.map V.int)) ∧ (∀ q ∈ qs, 0 ≤ q ∧ q < 9) ∧ qs.length ≤ k + 1 ∧
            (∀ m : Nat, m < k + 1 → (!((PyData.str w0 :: pd).any fun z => PyData.eqv z (.str (wordOf i (3 + (0 + (m : Int))))))) = true → qs ≠ [])) := fun H7 x7 S7 => by
          have x8 : Ext s H5 (upd H7 D (.lst (qs.map V.int ++ [V.int (0 + (k : Int))]))) := (x6.trans x7).over hD _
          refine ⟨_, x7 _ _ nDs hD6, small1000 (by rw [List.length_map]; omega), x8, W5.W.S.over S7 x8 nDs, qs ++ [0 + (k : Int)], by rw [upd_same, List.map_append]; rfl, fun q hq => ?_, by rw [List.length_append]; exact Nat.succ_le_succ lq, fun _ _ _ z => by simp at z⟩
          rcases List.mem_append.mp hq with m | m
          · exact q9 q m
          · rw [List.mem_singleton.mp m]; omega
        have hM6 := x6 _ _ nM.1 hM5
        have dt6 := (W5.W.S.keep x6).dts dt5
        refine ⟨rfl, ?_⟩
        show tOr _ _ _ _ _
        refine or_eff2 (fun H' => Ext s H6 H' ∧ IsS K H' s i) (!((PyData.str w0 :: pd).any fun z => PyData.eqv z (.str (wordOf i (3 + (0 + (k : Int))))))) (fun R h => ⟨_, rfl, _, rfl, _, _, rfl, rfl, s, i, 3 + (0 + (k : Int)), rfl, S6, by omega, fun H7 e7 => ⟨_, rfl, .str _, .str w0 :: pd, .str _, .lst (SqL.of (e7 _ _ hM6)) (.cons (.str _) (dpAll_of dt6.1 fun j v d q1 q2 => Dt.dp ((Same.keep e7).dt (dt6.2 j v d q1 q2)))), ?_, sh0, _, rfl, h _ ⟨Ext.same e7, S6.same e7⟩⟩⟩)
          (fun H7 p7 R h => ⟨_, rfl, s, i, rfl, p7.2, W5.W.o0, W5.W.o40, fun b H8 x8 S8 => ⟨b, rfl, h b H8 ⟨p7.1.trans x8, S8⟩⟩⟩) (fun H7 p7 => iteT ⟨_, rfl, more H7 p7.1 p7.2⟩) (fun z0 H7 p7 => iteF ⟨x6.trans p7.1, p7.2, qs, p7.1 _ _ nDs hD6, q9, by omega, fun m hm hn => ?_⟩)
        · exact ((okN_word (word_of iok (k := 3 + (0 + (k : Int))) (by omega))).ok (by decide)).1
        · by_cases em : m = k
          · rw [em, z0] at hn
            cases hn
          · exact ne0 m (by omega) hn
      rintro H6 ⟨x6, S6, qs, hD6, q9, lq, ne0⟩
      have qn : qs ≠ [] := by
        obtain ⟨m, hm, hn⟩ := free
        exact ne0 m hm hn
      have lq0 : 0 < qs.length := List.length_pos_iff.mpr qn
      dsimp only [gName]
      have hM6 := x6 _ _ nM.1 hM5
      refine ⟨_, rfl, .inl ⟨rfl, _, SqL.of hM6⟩, _, rfl, _, rfl, _, rfl, _, rfl, D, _, rfl, .inl (SqL.of hD6), s, i, ((qs.map V.int).length : Nat), rfl, S6, by rw [List.length_map]; omega, Nat.lt_of_le_of_lt (show (((qs.map V.int).length : Nat) : Int).natAbs ≤ 9 by rw [List.length_map]; omega) (by decide), fun r H7 r0 rl x7 S7 => ?_⟩
      rw [List.length_map] at rl
      have lr : r.toNat < qs.length := by omega
      obtain ⟨q0, q1⟩ := q9 _ (List.getElem_mem lr)
      refine ⟨D, _, r, .int qs[r.toNat], rfl, rfl, SqL.of (x7 _ _ nDs hD6), at_of (j := r.toNat) (by omega) (by rw [List.getElem?_map, List.getElem?_eq_getElem lr]; rfl), _, _, rfl, rfl, s, i, 3 + qs[r.toNat], rfl, S7, by omega, fun H8 e8 => ?_⟩
      have wz := word_of iok (k := 3 + qs[r.toNat]) (by omega)
      generalize wordOf i (3 + qs[r.toNat]) = z at wz ⊢
      have x8 : Ext s H5 H8 := x6.trans (x7.trans (Ext.same e8))
      have W8 := W5.ext x8 (S7.same e8)
      have hM8 := x8 _ _ nM.1 hM5
      have hI8 := x8 _ _ nI.1 hI5
      have dt8 := (W5.W.S.keep x8).dts dt5
      refine ⟨M, _, _, rfl, rfl, hM8, small1000 (by rw [List.length_cons]; omega), ?_⟩
      have x9 : ExtB s ba H (upd H8 M (.lst (.str w0 :: us ++ [.str z]))) := (x5.trans (ExtB.ext x8)).over hM _
      have W9 := W.over W8 x9 hM
      have k9 : Keep K H8 (upd H8 M (.lst (.str w0 :: us ++ [.str z]))) := Keep.upd hM8 trivial _
      have dt9 := k9.dts dt8
      have hM9 : (upd H8 M (.lst (.str w0 :: us ++ [.str z]))) M = some (.lst (.str w0 :: us ++ [.str z])) := upd_same
      have hI9 : (upd H8 M (.lst (.str w0 :: us ++ [.str z]))) I = some (.lst ((ns ++ ws).map V.str)) := by rw [upd_ne nMI.symm]; exact hI8
      generalize (upd H8 M (.lst (.str w0 :: us ++ [.str z]))) = H9 at x9 W9 dt9 hM9 hI9 ⊢
      dsimp only [tNext]
      refine ⟨_, rfl, .inl ⟨rfl, _, SqL.of hI9⟩, _, rfl, _, rfl, M, _, _, .str z, rfl, rfl, SqL.of hM9, atI_last _ _, I, _, _, rfl, rfl, hI9, small1000 (by rw [List.length_map, List.length_append]; omega), ?_⟩
      have x10 : ExtB s ba H (upd H9 I (.lst ((ns ++ ws).map V.str ++ [.str z]))) := x9.over hI0 _
      have W10 := W.over W9 x10 hI0
      have k10 : Keep K H9 (upd H9 I (.lst ((ns ++ ws).map V.str ++ [.str z]))) := Keep.upd hI9 trivial _
      have dt10 := k10.dts dt9
      have hM10 : (upd H9 I (.lst ((ns ++ ws).map V.str ++ [.str z]))) M = some (.lst (.str w0 :: us ++ [.str z])) := by rw [upd_ne nMI]; exact hM9
      have hI10 : (upd H9 I (.lst ((ns ++ ws).map V.str ++ [.str z]))) I = some (.lst ((ns ++ ws).map V.str ++ [.str z])) := upd_same
      generalize (upd H9 I (.lst ((ns ++ ws).map V.str ++ [.str z]))) = H10 at x10 W10 dt10 hM10 hI10 ⊢
      dsimp only [tNext]
      obtain ⟨_, m10, hs10, _⟩ := id W10.W.S
      have hb10 := W10.b
      obtain ⟨W11, x11⟩ := W10.app wz
      refine ⟨_, rfl, s, .ref ba, rfl, gS hs10 (st_bound W.x), .inl ⟨rfl, _, SqL.of hb10⟩, _, rfl, _, rfl, M, _, _, .str z, rfl, rfl, SqL.of hM10, atI_last _ _, ba, _, _, rfl, rfl, hb10, sizeOk (by rw [List.length_map]; omega), x10.trans x11, bs5 ++ [z], W11, by rw [List.length_append]; show bs5.length + 1 ≤ _; omega, us ++ [V.str z], pd ++ [PyData.str z], ws ++ [z], x11 _ _ nM.1 nM.2.1 hM10, ((W10.keep x11).dts dt10).snoc (.str z), by rw [List.length_append, lpd]; rfl, fun k c' x' h1 h2 => ?_, ?_, fun y hy => ?_, by rw [List.length_append]; exact Nat.succ_le_succ lws, _, _, _, _, rfl⟩
      · by_cases lt : k < pd.length
        · rw [List.getElem?_append_left lt] at h2
          exact sl5 k c' x' h1 h2
        · rw [List.getElem?_append_right (by omega)] at h2
          have z0 : k - pd.length = 0 := by
            have := (List.getElem?_eq_some_iff.mp h2).1
            simp at this
            omega
          rw [z0] at h2
          cases h2
          have ek : k = j := by omega
          subst ek
          rw [hc1] at h1
          cases h1
          rw [e]
          exact ⟨slb_w wz, fun h => absurd h (nosub (.inl rfl))⟩
      · rw [x11 _ _ nI.1 nI.2.1 hI10, ← List.append_assoc]
        generalize ns ++ ws = q3
        rw [List.map_append]
        rfl
      · rcases List.mem_append.mp hy with m | m
        · exact wws y m
        · rw [List.mem_singleton.mp m]; exact wz
    · have sub : isSub c := .inl e
      obtain ⟨d', rfl⟩ : ∃ k, d = k + 1 := by
        cases d with
        | zero => exact absurd sub (d0 rfl c (List.mem_of_getElem? hc1))
        | succ k => exact ⟨k, rfl⟩
      refine ⟨_, rfl, rfl, _, rfl, iteNo (no _ (ne _ e (by decide +kernel))) ?_⟩
      show tOr _ _ _ _ _
      refine or_pure (decide (V.str (⟨#[ch']⟩ : Str) = V.str "e")) (decide (V.str (⟨#[ch']⟩ : Str) = V.str "l")) (fun R h => ⟨_, rfl, rfl, _, rfl, h⟩) (fun _ R h => ⟨_, rfl, rfl, _, rfl, h⟩) (fun _ => iteT ?_) (fun q1 _ => absurd (yes _ e) (by rw [q1]; exact Bool.false_ne_true))
      refine ⟨_, rfl, .inl ⟨rfl, _, SqL.of hM5⟩, _, rfl, _, rfl, rfl, _, rfl, iteYes (yes _ e) ⟨_, rfl, _, rfl, _, _, rfl, rfl, s, i, la, ba, na, ls, ns, bs5, fds, d', ?_, by omega, W5, W.seq x5 nab hna, wns, by omega, nab, by omega, by omega, by omega, fun v p H6 bs6 x6 W6 l6 dv lo => add _ _ _ _ x6 W6 (by omega) dv (slb_e sub) (fun _ => lo)⟩⟩
      show ([.ref s, .ref na, .int (((d' + 1 : Nat) : Int) - 1)] : List V) = _
      rw [show ((d' + 1 : Nat) : Int) - 1 = (d' : Int) by omega]
    · have sub : isSub c := .inr e
      obtain ⟨d', rfl⟩ : ∃ k, d = k + 1 := by
        cases d with
        | zero => exact absurd sub (d0 rfl c (List.mem_of_getElem? hc1))
        | succ k => exact ⟨k, rfl⟩
      refine ⟨_, rfl, rfl, _, rfl, iteNo (no _ (ne _ e (by decide +kernel))) ?_⟩
      show tOr _ _ _ _ _
      refine or_pure (decide (V.str (⟨#[ch']⟩ : Str) = V.str "e")) (decide (V.str (⟨#[ch']⟩ : Str) = V.str "l")) (fun R h => ⟨_, rfl, rfl, _, rfl, h⟩) (fun _ R h => ⟨_, rfl, rfl, _, rfl, h⟩) (fun _ => iteT ?_) (fun _ q2 => absurd (yes _ e) (by rw [q2]; exact Bool.false_ne_true))
      refine ⟨_, rfl, .inl ⟨rfl, _, SqL.of hM5⟩, _, rfl, _, rfl, rfl, _, rfl, iteNo (no _ (ne _ e (by decide +kernel))) ⟨_, rfl, _, rfl, _, _, rfl, rfl, s, i, la, ba, I, ls, ns ++ ws, bs5, fds, d', ?_, by omega, W5, SqL.of hI5, fun z hz => ?_, by rw [List.length_append]; omega, nI.2.1, by omega, by rw [List.length_append]; omega, by omega, fun v p H6 bs6 x6 W6 l6 dv lo => add _ _ _ _ x6 W6 (by omega) dv (slb_e sub) (fun _ => lo)⟩⟩
      · show ([.ref s, .ref I, .int (((d' + 1 : Nat) : Int) - 1)] : List V) = _
        rw [show ((d' + 1 : Nat) : Int) - 1 = (d' : Int) by omega]
      · rcases List.mem_append.mp hz with m | m
        · exact wns z m
        · exact wws z m
    all_goals refine ⟨_, rfl, rfl, _, rfl, iteNo (no _ (ne _ e (by decide +kernel))) ?_⟩
    all_goals show tOr _ _ _ _ _
    all_goals refine or_pure (decide (V.str (⟨#[ch']⟩ : Str) = V.str "e")) (decide (V.str (⟨#[ch']⟩ : Str) = V.str "l")) (fun R h => ⟨_, rfl, rfl, _, rfl, h⟩) (fun _ R h => ⟨_, rfl, rfl, _, rfl, h⟩) (fun h => h.elim (fun y => absurd y (no _ (ne _ e (by decide +kernel)))) fun y => absurd y (no _ (ne _ e (by decide +kernel)))) (fun _ _ => iteF ?_)
    · -- a kind
      refine ⟨_, rfl, rfl, _, rfl, iteYes (yes _ e) ?_⟩
      exact ⟨_, rfl, .inl ⟨rfl, _, SqL.of hM5⟩, _, rfl, s, i, la, ls, rfl, W5.W, fun v d' H6 x6 S6 dv lk => add _ _ _ _ (ExtB.ext x6) (W5.ext x6 S6) (by omega) dv (by rw [e]; exact slb_k lk) (fun h => absurd h (nosub (.inr (.inl e))))⟩
    all_goals refine ⟨_, rfl, rfl, _, rfl, iteNo (no _ (ne _ e (by decide +kernel))) ?_⟩
    · -- a name
      refine ⟨_, rfl, rfl, _, rfl, iteYes (yes _ e) ?_⟩
      refine ⟨_, rfl, ?_⟩
      dsimp only [gName]
      have hna5 := W.seq x5 nab hna
      refine seq_with (fun R => ∀ (H6 : Hp) (A : Addr) (zs : List Str), Ext s H5 H6 → IsS K H6 s i → SqL K H6 A (zs.map V.str) → zs ≠ [] → (∀ z ∈ zs, Word z) → zs.length ≤ 200000 → R [some (.ref s), some (.str w0), some (.ref na), some (.int (d : Int)), some (.ref M), some (.ref I), some (.str (⟨#[ch']⟩ : Str)), o7, some (.ref A), o9, none] H6) ?_ (fun rest => ?_)
      · intro H6 A zs x6 S6 hA z0 wz lz
        have lz0 : 0 < zs.length := List.length_pos_iff.mpr z0
        have hM6 := x6 _ _ nM.1 hM5
        refine ⟨_, rfl, .inl ⟨rfl, _, SqL.of hM6⟩, _, rfl, _, rfl, _, rfl, A, _, rfl, .inl hA, s, i, ((zs.map V.str).length : Nat), rfl, S6, by rw [List.length_map]; omega, Nat.lt_of_le_of_lt (show (((zs.map V.str).length : Nat) : Int).natAbs ≤ 200000 by rw [List.length_map]; omega) (by decide), fun r H7 r0 rl x7 S7 => ?_⟩
        rw [List.length_map] at rl
        have lr : r.toNat < zs.length := by omega
        refine ⟨A, _, r, .str zs[r.toNat], rfl, rfl, S6.seq x7 hA, at_of (j := r.toNat) (by omega) (by rw [List.getElem?_map, List.getElem?_eq_getElem lr]; rfl), add _ _ _ _ (ExtB.ext (x6.trans x7)) (W5.ext (x6.trans x7) S7) (by omega) (.str _) (by rw [e]; exact slb_x (wz _ (List.getElem_mem lr))) (fun h => absurd h (nosub (.inr (.inr (.inl e)))))⟩
      · show tOr _ _ _ _ _
        refine or_eff2 (fun H' => Ext s H5 H' ∧ IsS K H' s i) (PyData.eqv (.list (ns.map .str)) (.list (([] : List Str).map .str))) (fun R h => ⟨_, rfl, (by show 0 ≤ sizeLine; decide), fun L hL => ⟨.list (ns.map .str), .list (([] : List Str).map .str), .lst (Same.seq (same_new hL _) hna5) (dp_strs ns), .lst (SqL.of upd_same) (dp_strs []), shaped_strs fun z hz => (okN_word (wns z hz)).1, shaped_strs fun z hz => (by cases hz), _, rfl, h _ ⟨Ext.new _ hL, W5.W.S.same (same_new hL _)⟩⟩⟩)
          (fun H6 p6 R h => ⟨_, rfl, s, i, rfl, p6.2, W5.W.o0, W5.W.o40, fun b H7 x7 S7 => ⟨b, rfl, h b H7 ⟨p6.1.trans x7, S7⟩⟩⟩) (fun H6 p6 => iteT ?_) (fun z0 H6 p6 => iteF (rest H6 na ns p6.1 p6.2 (W5.W.S.seq p6.1 hna5) (fun z => ?_) wns (by omega)))
        · obtain ⟨_, m6, hs6, _⟩ := id p6.2
          refine ⟨_, rfl, s, i, 7, rfl, p6.2, by decide, fun H7 e7 => ⟨(by show 1 ≤ sizeLine; decide), fun L1 hL1 => ⟨_, rfl, s, .ref ba, rfl, gS ((same_new hL1 _) _ _ (e7 _ _ hs6)) (st_bound W.x), _, _, rfl, rfl, _, rfl, ba, _, rfl, SqL.of ((same_new hL1 _) _ _ (e7 _ _ (p6.1 _ _ W.nbs W5.b))), fun p hp => ?_⟩⟩⟩
          obtain ⟨zs, ez, wz⟩ := strs_of (xs := cutV (bs5.map V.str) (some (0 - 3)) none) (bs := bs5) (fun v hv => cut_mem hv) W5.bw
          have lz : zs.length ≤ bs5.length := by
            have := cutV_length (bs5.map V.str) (some (0 - 3)) none
            rw [ez, List.length_map, List.length_map] at this
            exact this
          have k1 := same_new hL1 (.lst [.str (wordOf i 7)])
          have k2 := same_new hp (.lst (cutV (bs5.map V.str) (some (0 - 3)) none))
          refine ⟨L1, p, _, _, rfl, rfl, k2 _ _ upd_same, upd_same, ?_, fun A hA => ?_⟩
          · rw [ez, List.length_map]
            have : sizeLine = 16777216 := by decide
            show 1 + _ ≤ _
            omega
          · have k3 := same_new hA (.lst ([.str (wordOf i 7)] ++ cutV (bs5.map V.str) (some (0 - 3)) none))
            have ee := Same.trans e7 (Same.trans k1 (Same.trans k2 k3))
            refine rest _ A (wordOf i 7 :: zs) (p6.1.trans (Ext.same ee)) (p6.2.same ee) (SqL.of (by rw [upd_same, ez]; rfl)) (List.cons_ne_nil _ _) (fun z hz => ?_) (by rw [List.length_cons]; omega)
            rcases List.mem_cons.mp hz with m | m
            · rw [m]; exact word_of iok (by decide)
            · exact wz z m
        · rw [z] at z0
          cases z0
    all_goals refine ⟨_, rfl, rfl, _, rfl, iteNo (no _ (ne _ e (by decide +kernel))) ?_⟩
    · -- a field
      refine ⟨_, rfl, rfl, _, rfl, iteYes (yes _ e) ?_⟩
      refine ⟨_, rfl, .inl ⟨rfl, _, SqL.of hM5⟩, _, rfl, s, i, rfl, W5.W.S, W5.W.o0, W5.W.o40, fun b H6 x6 S6 => ⟨b, rfl, ?_⟩⟩
      cases b with
      | true => exact iteT (add _ _ _ _ (ExtB.ext x6) (W5.ext x6 S6) (by omega) (.str _) (by rw [e]; exact slb_f (.inl rfl)) (fun h => absurd h (nosub (.inr (.inr (.inr (.inl e)))))))
      | false => exact iteF ⟨_, rfl, _, rfl, s, i, 3, rfl, S6, by decide, by decide, fun r H7 r0 r3 x7 S7 => ⟨s, i, r, rfl, S7, r0, fun H8 e8 => add _ _ _ _ (ExtB.ext (x6.trans (x7.trans (Ext.same e8)))) (W5.ext (x6.trans (x7.trans (Ext.same e8))) (S7.same e8)) (by omega) (.str _) (by rw [e]; exact slb_f (.inr (word_of iok r0))) (fun h => absurd h (nosub (.inr (.inr (.inr (.inl e))))))⟩⟩
    · -- a question
      refine ⟨_, rfl, rfl, _, rfl, iteNo (no _ (ne _ e (by decide +kernel))) ?_⟩
      refine ⟨(by show 5 ≤ sizeLine; decide), fun L hL => ?_⟩
      dsimp only [gName]
      have e6 := same_new hL (.lst [.str "number", .str "text", .str "row", .str "book", .str "shape"])
      have hL6 : (upd H5 L (.lst [.str "number", .str "text", .str "row", .str "book", .str "shape"])) L = some (.lst ((["number", "text", "row", "book", "shape"] : List Str).map V.str)) := upd_same
      have W6 := W5.same e6
      have hM6 := e6 _ _ hM5
      have nLs := (W5.ne hL).1
      generalize (upd H5 L (.lst [.str "number", .str "text", .str "row", .str "book", .str "shape"])) = H6 at e6 hL6 W6 hM6 ⊢
      refine ⟨_, rfl, .inl ⟨rfl, _, SqL.of hM6⟩, _, rfl, s, i, rfl, W6.W.S, W6.W.o0, W6.W.o40, fun b H7 x7 S7 => ⟨b, rfl, ?_⟩⟩
      cases b with
      | true => exact iteT (add _ _ _ _ (ExtB.ext ((Ext.same e6).trans x7)) (W6.ext x7 S7) (by omega) (.str _) (by rw [e]; exact slb_a (.inl rfl)) (fun h => absurd h (nosub (.inr (.inr (.inr (.inr e)))))))
      | false =>
        refine iteF ⟨_, rfl, _, rfl, s, i, 5, rfl, S7, by decide, by decide, fun r H8 r0 r5 x8 S8 => ?_⟩
        have lr : r.toNat < (["number", "text", "row", "book", "shape"] : List Str).length := by show r.toNat < 5; omega
        exact ⟨L, _, r, .str (["number", "text", "row", "book", "shape"] : List Str)[r.toNat], rfl, rfl, SqL.of (x8 _ _ nLs (x7 _ _ nLs hL6)), at_of (j := r.toNat) (by omega) (by rw [List.getElem?_map, List.getElem?_eq_getElem lr]; rfl), add _ _ _ _ (ExtB.ext ((Ext.same e6).trans (x7.trans x8))) (W6.ext (x7.trans x8) S8) (by omega) (.str _) (by rw [e]; exact slb_a (.inr (List.getElem_mem lr))) (fun h => absurd h (nosub (.inr (.inr (.inr (.inr e))))))⟩
  · rintro σ5 H5 ⟨x5, bs5, W5, l5, us, pd, ws, hM5, dt5, lpd, sl5, hI5, wws, lws, o6, o7, o8, o9, rfl⟩
    refine ⟨_, rfl, M, _, rfl, .inl ⟨SqL.of hM5, fun t ht => ?_⟩⟩
    have e6 := same_new ht (.tup (.str w0 :: us))
    rw [lsg] at lpd l5
    have jp := Nat.mul_le_mul_right (6 ^ d) s6
    refine q _ (.tuple (.str w0 :: pd)) _ bs5 (x5.trans (ExtB.same e6)) (W5.same e6) (by omega) ((((Same.keep e6).dts dt5).cons (.str w0)).tup (SqT.of upd_same)) (.form hw lpd (fun k c x h1 h2 => (sl5 k c x h1 h2).1) (fun k c x h1 h2 h3 => (sl5 k c x h1 h2).2 h3))
end
end Sc
namespace Sc
open PySem PySem.Spec PyProof.Rows L2
/-! ### _law_loose -/
theorem and_eff2 {t u : TT} {σ : L2.St} {H : Hp} {Q : Bool → Hp → Prop} (P : Hp → Prop) (c1 : Bool) (h1 : ∀ R : Bool → Hp → Prop, (∀ H', P H' → R c1 H') → t σ H R) (h2 : ∀ H', P H' → ∀ R : Bool → Hp → Prop, (∀ b H2, P H2 → R b H2) → u σ H' R) (hT : ∀ H', P H' → Q true H') (hF : ∀ H', P H' → Q false H') : tAnd t u σ H Q :=
  h1 _ fun H' p => ite2 (fun _ => h2 _ p _ fun b H2 p' => by
    cases b
    · exact hF _ p'
    · exact hT _ p') fun _ => hF _ p
def W6L : List Str := ["num", "name", "text", "name", "norow", "nobook"]
def W13a : List Str := ["num", "name", "text", "name", "norow", "nobook", "size", "get", "plus", "minus", "join", "push", "at"]
def W13b : List Str := ["put", "look", "if", "let", "each", "fold", "row", "shape", "call", "is", "has", "let", "fold"]
def W26 : List Str := W13a ++ W13b
theorem w26_cls : ∀ z ∈ W26, z = ("num" : Str) ∨ z = ("text" : Str) ∨ z = ("row" : Str) ∨ z = ("shape" : Str) ∨ z = ("call" : Str) ∨ z ∈ frmL.map (·.1) := by decide +kernel
theorem w6_cls : ∀ z ∈ W6L, z ≠ ("row" : Str) ∧ z ≠ ("shape" : Str) ∧ z ≠ ("call" : Str) ∧ ∀ q ∈ frmL, q.1 = z → ∀ c ∈ q.2, c = ("x" : Str) ∨ c = ("k" : Str) := by decide +kernel
theorem w6_pre : ∀ n : Nat, n < 6 → ∀ z, W26[n]? = some z → z ∈ W6L := by
  intro n hn z hz
  have : ∀ n : Nat, n < 6 → (W26[n]?.any fun z => decide (z ∈ W6L)) = true := by decide +kernel
  have h := this n hn
  rw [hz] at h
  exact of_decide_eq_true h
section
variable {P : Program} {w : World} {K : PySem.W.Frag} {mg : Str → Option Value} {base : Heap}
abbrev nLs : List Str := ["_law_s", "_law_known", "_law_deep", "_law_words", "_law_word", "_law_least", "_law_many", "_law_fields", "_law_k", "_law_field"]
theorem scLs : FnScope nLs ["_law_s", "_law_known", "_law_deep"] (defScope sLoose) := ⟨rfl, rfl, rfl, by decide +kernel, rfl, by decide +kernel, by decide +kernel⟩
set_option maxHeartbeats 4000000 in
theorem c_loose {n lv : Nat} (T : Tx K mg) (lv8 : 8 ≤ lv) (CR : Cal P w K mg base lv "_law_loose" ["_law_s", "_law_known", "_law_deep"] (spLoose K n)) (CP : Cal P w K mg base lv "_law_loose_pieces" ["_law_s", "_law_word", "_law_known", "_law_deep"] (spPieces K n)) (CC : Cal P w K mg base lv "_law_loose_call" ["_law_s", "_law_known", "_law_deep"] (spLcall K n)) :
    Cal P w K mg base (lv + 1) "_law_loose" ["_law_s", "_law_known", "_law_deep"] (spLoose K (n + 1)) := by
  have CT : Cal P w K mg base 1 "_law_taken" ["_law_s", "_law_most"] (spTaken K) := c_taken T
  have CA : Cal P w K mg base 2 "_law_amiss" ["_law_s"] (spAmiss K) := c_amiss T
  have CW : Cal P w K mg base 1 "_law_a_word" ["_law_s", "_law_k"] (spWord K) := c_a_word T
  have CX : Cal P w K mg base 2 "_law_a_text" ["_law_s"] (spText K) := c_text T
  refine T.loose.ok scLs (fun vs H Q E h => ?_) (fun f cdv A outer s0 H vs Q E hr h => ?_)
  · obtain ⟨s, i, la, ba, na, ls, ns, bs, fds, d, rfl, _⟩ := h
    rfl
  have hu := hu_of hr
  have hU := hr.units
  have r1 : Room 1 _ := hr.mono (show 1 ≤ lv by omega)
  have r2 : Room 2 _ := hr.mono (show 2 ≤ lv by omega)
  refine ⟨_, pss_cons (ps_set (i := 3) scLs.nd rfl (Or.inl rfl) (pe_lst (pa_cons pe_str (pa_cons pe_str (pa_cons pe_str (pa_cons pe_str (pa_cons pe_str (pa_cons pe_str (pa_cons pe_str (pa_cons pe_str (pa_cons pe_str (pa_cons pe_str (pa_cons pe_str (pa_cons pe_str (pa_cons pe_str pa_nil))))))))))))))) <|
    pss_cons (ps_set (i := 3) scLs.nd rfl (Or.inl rfl) (pe_op op_cat (pv 3) (pe_lst (pa_cons pe_str (pa_cons pe_str (pa_cons pe_str (pa_cons pe_str (pa_cons pe_str (pa_cons pe_str (pa_cons pe_str (pa_cons pe_str (pa_cons pe_str (pa_cons pe_str (pa_cons pe_str (pa_cons pe_str (pa_cons pe_str pa_nil)))))))))))))))) <|
    pss_cons (ps_set (i := 4) scLs.nd rfl (Or.inl rfl) (pe_ix ix_list (pv 3) (pe_cal CT r1 (pa_cons (pv 0) (pa_cons (pe_ifExp (pt_cmpR op_gt (pv 2) pe_int (nomark _)) pe_int pe_int) pa_nil))) (fun _ _ => rfl))) <|
    pss_cons (ps_if (PW.pt (pw_and (pt_cmpR (op_eqD hU) (pv 1) (pe_lst pa_nil) (nomark _)) (pw_and (pt_cmpR op_in_seq (pv 4) (pe_tup (pa_cons pe_str (pa_cons pe_str (pa_cons pe_str pa_nil)))) (by rfl)) (pw_and1 (pt_not (pt_val (pe_cal CA r2 (pa_cons (pv 0) pa_nil)))))))) (pss_one (ps_set (i := 4) scLs.nd rfl (Or.inl rfl) pe_str)) pss_nil) <|
    pss_cons (ps_if (pt_cmpR op_eq (pv 4) pe_str (nomark _)) (pss_cons (ps_set (i := 5) scLs.nd rfl (Or.inl rfl) (pe_ix ix_list (pe_lst (pa_cons pe_int (pa_cons (pe_op op_pow pe_int pe_int) pa_nil))) (pe_callTy call_int1 (by rfl) T.m_int (by decide +kernel) (pa_cons (pe_cal CA r2 (pa_cons (pv 0) pa_nil)) pa_nil)) (fun _ _ => rfl))) (pss_one (ps_ret (pe_tup (pa_cons (pv 4) (pa_cons (pe_ix ix_list (pe_lst (pa_cons (pv 5) (pa_cons (pe_op op_sub pe_int (pv 5)) (pa_cons (pe_op op_sub (pe_op op_pow pe_int pe_int) pe_int) (pa_cons (pe_op op_sub pe_int (pe_op op_pow pe_int pe_int)) pa_nil))))) (pe_cal CT r1 (pa_cons (pv 0) (pa_cons (pe_ifExp (pt_cmpR op_eq (pv 5) pe_int (nomark _)) pe_int pe_int) pa_nil))) (fun _ _ => rfl)) pa_nil)))))) pss_nil) <|
    pss_cons (ps_if (pt_cmpR op_eq (pv 4) pe_str (nomark _)) (pss_one (ps_ret (pe_tup (pa_cons (pv 4) (pa_cons (pe_op op_add_str (pe_cal CX r2 (pa_cons (pv 0) pa_nil)) (pe_ix ix_list (pe_lst (pa_cons pe_str (pa_cons pe_str pa_nil))) (pe_callTy call_int1 (by rfl) T.m_int (by decide +kernel) (pa_cons (pe_cal CA r2 (pa_cons (pv 0) pa_nil)) pa_nil)) (fun _ _ => rfl))) pa_nil))))) pss_nil) <|
    pss_cons (ps_if (pt_cmpR op_eq (pv 4) pe_str (nomark _)) (pss_cons (ps_set (i := 6) scLs.nd rfl (Or.inl rfl) (pe_ifExp (pt_val (pe_cal CA r2 (pa_cons (pv 0) pa_nil))) pe_int (pe_op op_add pe_int (pe_cal CT r1 (pa_cons (pv 0) (pa_cons pe_int pa_nil)))))) (pss_one (ps_ret (pe_tup (pa_cons (pv 4) (pa_cons (pe_callTy call_tuple_of (by rfl) T.m_tuple (by decide +kernel) (pa_cons (pe_lc (own := [("_law_k", 8)]) (g := gName 8) (tt := tYes) rfl scLs.nd (pi_range1 rfl T.m_range (pa_cons (pv 6) pa_nil)) (blkOk_by (N := nLs) (sc := defScope sLoose) (by decide +kernel)) (fun _ _ _ _ _ => pg_name (i := 8) scLs.nd rfl (Or.inl rfl)) (fun _ _ _ _ _ => pts_nil) (fun _ _ _ _ _ => (pe_cal CR hr (pa_cons (pv 0) (pa_cons (pv 1) (pa_cons (pe_op op_sub (pv 2) pe_int) pa_nil)))))) pa_nil)) pa_nil)))))) pss_nil) <|
    pss_cons (ps_if (pt_cmpR op_eq (pv 4) pe_str (nomark _)) (pss_cons (ps_set (i := 7) scLs.nd rfl (Or.inl rfl) (pe_callB cr_sortedS (by rfl) T.m_sorted (by decide +kernel) (pa_cons (pe_lc (own := [("_law_k", 8)]) (g := gName 8) (tt := tYes) rfl scLs.nd (pi_range1 rfl T.m_range (pa_cons (pe_op op_add pe_int (pe_cal CT r1 (pa_cons (pv 0) (pa_cons pe_int pa_nil)))) pa_nil)) (blkOk_by (N := nLs) (sc := defScope sLoose) (by decide +kernel)) (fun _ _ _ _ _ => pg_name (i := 8) scLs.nd rfl (Or.inl rfl)) (fun _ _ _ _ _ => pts_nil) (fun _ _ _ _ _ => (pe_cal CW r1 (pa_cons (pv 0) (pa_cons (pv 8) pa_nil))))) pa_nil))) (pss_cons (ps_if (pt_val (pe_cal CA r2 (pa_cons (pv 0) pa_nil))) (pss_one (ps_set (i := 7) scLs.nd rfl (Or.inl rfl) (pe_ix ix_list (pe_lst (pa_cons (pe_lst pa_nil) (pa_cons (pe_op op_cat (pv 7) (pe_slice sl_list (pv 7) po_none (po_some pe_int))) (pa_cons (pe_lst (pa_cons pe_str pa_nil)) (pa_cons (pe_lst (pa_cons (pe_op op_reps pe_str pe_int) pa_nil)) pa_nil))))) (pe_cal CT r1 (pa_cons (pv 0) (pa_cons pe_int pa_nil))) (fun _ _ => rfl)))) pss_nil) (pss_one (ps_ret (pe_tup (pa_cons (pv 4) (pa_cons (pe_callTy call_tuple_of (by rfl) T.m_tuple (by decide +kernel) (pa_cons (pe_lc (own := [("_law_field", 9)]) (g := gName 9) (tt := tYes) rfl scLs.nd (pi_list (pv 7)) (blkOk_by (N := nLs) (sc := defScope sLoose) (by decide +kernel)) (fun _ _ _ _ _ => pg_name (i := 9) scLs.nd rfl (Or.inl rfl)) (fun _ _ _ _ _ => pts_nil) (fun _ _ _ _ _ => (pe_tup (pa_cons (pv 9) (pa_cons (pe_cal CR hr (pa_cons (pv 0) (pa_cons (pv 1) (pa_cons (pe_op op_sub (pv 2) pe_int) pa_nil)))) pa_nil))))) pa_nil)) pa_nil))))))) pss_nil) <|
    pss_cons (ps_if (pt_cmpR op_eq (pv 4) pe_str (nomark _)) (pss_one (ps_ret (pe_cal CC hr (pa_cons (pv 0) (pa_cons (pv 1) (pa_cons (pv 2) pa_nil)))))) pss_nil) <|
    pss_one (ps_ret (pe_cal CP hr (pa_cons (pv 0) (pa_cons (pv 4) (pa_cons (pv 1) (pa_cons (pv 2) pa_nil)))))), ?_⟩
  obtain ⟨s, i, la, ba, na, ls, ns, bs, fds, d, rfl, dn, W, hna, wns, n100, nab, d4, nl, bl, q⟩ := h
  have iok : i.Ok := by obtain ⟨_, _, _, _, _, iok, _⟩ := id W.W.S; exact iok
  have p6 : 6 ^ (d + 1) = 6 * 6 ^ d := by rw [Nat.pow_succ]; omega
  have p1 : 1 ≤ 6 ^ d := Nat.pos_of_ne_zero (by simp)
  refine ⟨(by show 13 ≤ sizeLine; decide), fun L1 h1 => ?_⟩
  try dsimp only [gName]
  refine seq_with (fun R => ∀ (L : Addr) (H1 : Hp), Same H H1 → H1 L = some (.lst (W26.map V.str)) → R [some (.ref s), some (.ref na), some (.int (d : Int)), some (.ref L), none, none, none, none, none, none] H1) ?_ (fun rest => ?_)
  rotate_left
  · refine ⟨_, rfl, (by show 13 ≤ sizeLine; decide), fun L2 h2 => ⟨L1, L2, _, _, rfl, rfl, (same_new h2 _) _ _ upd_same, upd_same, (by show 13 + 13 ≤ sizeLine; decide), fun L3 h3 => rest L3 _ (Same.trans (same_new h1 _) (Same.trans (same_new h2 _) (same_new h3 _))) upd_same⟩⟩
  clear h1 L1
  intro L H1 e1 hL
  have W1 := W.same e1
  have nLs : L ≠ s := fun z => by
    obtain ⟨kvs, hk⟩ := W1.W.S.dk
    rw [z, hk] at hL
    cases hL
  -- the word
  refine seq_with (fun R => ∀ (H2 : Hp) (w' : Str), Ext s H H2 → IsS K H2 s i → w' ∈ W26 → (d = 0 → w' ∈ W6L) → R [some (.ref s), some (.ref na), some (.int (d : Int)), some (.ref L), some (.str w'), none, none, none, none, none] H2) ?_ (fun rest => ?_)
  rotate_left
  · have fin : ∀ (H2 : Hp) (m r : Int), Ext s H1 H2 → IsS K H2 s i → 0 ≤ r → r < m → m ≤ 26 → (d = 0 → m ≤ 6) → ∃ (p : Addr) (xs : List V) (j : Int) (v : V), V.ref L = .ref p ∧ V.int r = .int j ∧ SqL K H2 p xs ∧ atI xs j = some v ∧ ∃ w', v = .str w' ∧ Ext s H H2 ∧ IsS K H2 s i ∧ w' ∈ W26 ∧ (d = 0 → w' ∈ W6L) := fun H2 m r x2 S2 r0 rm m26 m6 => by
      have lr : r.toNat < W26.length := by show r.toNat < 26; omega
      refine ⟨L, _, r, .str W26[r.toNat], rfl, rfl, SqL.of (x2 _ _ nLs hL), at_of (j := r.toNat) (by omega) (by rw [List.getElem?_map, List.getElem?_eq_getElem lr]; rfl), _, rfl, (Ext.same e1).trans x2, S2, List.getElem_mem lr, fun z => w6_pre r.toNat (by have := m6 z; omega) _ (List.getElem?_eq_getElem lr)⟩
    refine ⟨_, rfl, _, rfl, _, rfl, _, _, rfl, rfl, _, rfl, ?_⟩
    by_cases c : 0 < d
    · refine iteYes (decide_eq_true (by omega)) ⟨s, i, 26, rfl, W1.W.S, by decide, by decide, fun r H2 r0 r26 x2 S2 => ?_⟩
      obtain ⟨p, xs, j, v, g1, g2, g3, g4, w', rfl, g5, g6, g7, g8⟩ := fin H2 26 r x2 S2 r0 r26 (by decide) (fun z => by omega)
      exact ⟨p, xs, j, _, g1, g2, g3, g4, rest H2 w' g5 g6 g7 g8⟩
    · refine iteNo (fun z => c (by have := of_decide_eq_true z; omega)) ⟨s, i, 6, rfl, W1.W.S, by decide, by decide, fun r H2 r0 r26 x2 S2 => ?_⟩
      obtain ⟨p, xs, j, v, g1, g2, g3, g4, w', rfl, g5, g6, g7, g8⟩ := fin H2 6 r x2 S2 r0 r26 (by decide) (fun z => by decide)
      exact ⟨p, xs, j, _, g1, g2, g3, g4, rest H2 w' g5 g6 g7 g8⟩
  intro H2 w1 x2 S2 hw1 hw6
  refine seq_with (fun R => ∀ (H3 : Hp) (w' : Str), Ext s H H3 → IsS K H3 s i → w' ∈ W26 → (d = 0 → w' ∈ W6L) → R [some (.ref s), some (.ref na), some (.int (d : Int)), some (.ref L), some (.str w'), none, none, none, none, none] H3) ?_ (fun rest => ?_)
  rotate_left
  · have hna2 := W.W.S.seq x2 hna
    have Pm : ∀ {H' H'' : Hp}, Ext s H H' ∧ IsS K H' s i → Ext s H' H'' → IsS K H'' s i → Ext s H H'' ∧ IsS K H'' s i := fun p x S => ⟨p.1.trans x, S⟩
    show tAnd _ _ _ _ _
    refine and_eff2 (fun H' => Ext s H H' ∧ IsS K H' s i) (PyData.eqv (.list (ns.map .str)) (.list (([] : List Str).map .str))) (fun R h => ⟨_, rfl, (by show 0 ≤ sizeLine; decide), fun L2 hL2 => ⟨.list (ns.map .str), .list (([] : List Str).map .str), .lst (Same.seq (same_new hL2 _) hna2) (dp_strs ns), .lst (SqL.of upd_same) (dp_strs []), shaped_strs fun z hz => (okN_word (wns z hz)).1, shaped_strs fun z hz => (by cases hz), _, rfl, h _ (Pm ⟨x2, S2⟩ (Ext.new _ hL2) (S2.same (same_new hL2 _)))⟩⟩)
      (fun H3 p3 R h => and_eff2 (fun H' => Ext s H H' ∧ IsS K H' s i) (inV (.str w1) [.str "name", .str "is", .str "has"]) (fun R2 h2 => ⟨_, rfl, (by show 3 ≤ sizeLine; decide), fun t ht => ⟨t, _, rfl, .inr (SqT.of upd_same), rfl, rfl, _, rfl, h2 _ (Pm p3 (Ext.new _ ht) (p3.2.same (same_new ht _)))⟩⟩)
        (fun H4 p4 R2 h2 => ⟨_, rfl, s, i, rfl, p4.2, W.W.o0, W.W.o40, fun b H5 x5 S5 => ⟨b, rfl, h2 _ _ (Pm p4 x5 S5)⟩⟩) (fun H4 p4 => h _ _ p4) (fun H4 p4 => h _ _ p4))
      (fun H3 p3 => iteT (rest H3 "num" p3.1 p3.2 (by decide +kernel) (fun _ => by decide +kernel))) (fun H3 p3 => iteF (rest H3 w1 p3.1 p3.2 hw1 hw6))
  clear hw1 hw6 x2 S2 w1 H2
  intro H2 w' x2 S2 hw' hw6
  have W2 := W.ext x2 S2
  try dsimp only [gName]
  have nx : ∀ {z : Str} (y : Str), w' = y → (y = z → False) → ¬ decide (V.str w' = V.str z) = true := fun y e n h => n (e.symm.trans (V.str.inj (of_decide_eq_true h)))
  have p36 : d ≠ 0 → ∃ d', d = d' + 1 := fun h => ⟨d - 1, by omega⟩
  rcases w26_cls w' hw' with e | e | e | e | e | e
  · -- a number
    refine ⟨_, rfl, rfl, _, rfl, iteYes (decide_eq_true (congrArg V.str e)) ?_⟩
    refine ⟨_, _, rfl, rfl, ⟨by decide, by decide, by decide⟩, (by show 2 ≤ sizeLine; decide), fun L2 h2 => ⟨_, rfl, s, i, rfl, S2.same (same_new h2 _), W.W.o0, W.W.o40, fun b H3 x3 S3 => .inr ⟨b, rfl, ?_⟩⟩⟩
    have nL2 := (W2.ne h2).1
    refine ⟨L2, _, _, .int (if b = true then (10 : Int) ^ (30 : Int).toNat else 0), rfl, rfl, SqL.of (x3 _ _ nL2 upd_same), by cases b <;> rfl, ?_⟩
    have hv : (if b = true then (10 : Int) ^ (30 : Int).toNat else 0) = 0 ∨ (if b = true then (10 : Int) ^ (30 : Int).toNat else 0) = (10 : Int) ^ 30 := by cases b <;> simp
    have x03 := x2.trans ((Ext.same (same_new h2 _)).trans x3)
    generalize (if b = true then (10 : Int) ^ (30 : Int).toNat else 0) = least at hv ⊢
    clear h2 nL2 x3
    try dsimp only [gName]
    refine ⟨_, rfl, _, rfl, _, rfl, _, _, rfl, rfl, _, _, rfl, rfl, ⟨by decide, by decide, by decide⟩, _, _, rfl, rfl, _, _, rfl, rfl, ⟨by decide, by decide, by decide⟩, _, _, rfl, rfl, (by show 4 ≤ sizeLine; decide), fun L4 h4 => ⟨_, rfl, _, rfl, rfl, _, rfl, ?_⟩⟩
    have W3 := W.ext x03 S3
    have nL4 := (W3.ne h4).1
    have S4 := S3.same (same_new h4 (.lst [.int least, .int (0 - least), .int ((10 : Int) ^ (30 : Int).toNat - 1), .int (1 - (10 : Int) ^ (30 : Int).toNat)]))
    have fin : ∀ (r : Int) (H5 : Hp) (v : Int) (t : Addr), Ext s (upd H3 L4 (.lst [.int least, .int (0 - least), .int ((10 : Int) ^ (30 : Int).toNat - 1), .int (1 - (10 : Int) ^ (30 : Int).toNat)])) H5 → IsS K H5 s i → v.natAbs ≤ 10 ^ 30 → H5 t = none → Q (.ref t) (upd H5 t (.tup [.str w', .int v])) := fun r H5 v t x5 S5 hv ht => by
      have x06 := x03.trans ((Ext.same (same_new h4 _)).trans (x5.trans (Ext.new (.tup [.str w', .int v]) ht)))
      refine q _ (.tuple [.str w', .int v]) _ bs (ExtB.ext x06) (W.ext x06 (S5.same (same_new ht _))) (by omega) (((Dts.nil.cons (.int v)).cons (.str w')).tup (SqT.of upd_same)) ?_
      rw [e]
      exact .num hv
    by_cases c : least = 0
    · refine iteYes (decide_eq_true (congrArg V.int c)) ⟨s, i, 4, rfl, S4, by decide, by decide, fun r H5 r0 r4 x5 S5 => ?_⟩
      obtain ⟨v, hv1, hv2⟩ : ∃ v : Int, atI [V.int least, .int (0 - least), .int ((10 : Int) ^ (30 : Int).toNat - 1), .int (1 - (10 : Int) ^ (30 : Int).toNat)] r = some (.int v) ∧ v.natAbs ≤ 10 ^ 30 := by
        have : r = 0 ∨ r = 1 ∨ r = 2 ∨ r = 3 := by omega
        rcases this with h | h | h | h <;> subst h <;> subst c
        · exact ⟨_, rfl, by decide +kernel⟩
        · exact ⟨_, rfl, by decide +kernel⟩
        · exact ⟨_, rfl, by decide +kernel⟩
        · exact ⟨_, rfl, by decide +kernel⟩
      exact ⟨L4, _, r, .int v, rfl, rfl, SqL.of (x5 _ _ nL4 upd_same), hv1, (by show 2 ≤ sizeLine; decide), fun t ht => fin r H5 v t x5 S5 hv2 ht⟩
    · refine iteNo (fun z => c (V.int.inj (of_decide_eq_true z))) ⟨s, i, 2, rfl, S4, by decide, by decide, fun r H5 r0 r4 x5 S5 => ?_⟩
      obtain ⟨v, hv1, hv2⟩ : ∃ v : Int, atI [V.int least, .int (0 - least), .int ((10 : Int) ^ (30 : Int).toNat - 1), .int (1 - (10 : Int) ^ (30 : Int).toNat)] r = some (.int v) ∧ v.natAbs ≤ 10 ^ 30 := by
        have : r = 0 ∨ r = 1 := by omega
        have c2 : least = (10 : Int) ^ 30 := hv.elim (fun z => absurd z c) id
        rcases this with h | h <;> subst h <;> subst c2
        · exact ⟨_, rfl, by decide +kernel⟩
        · exact ⟨_, rfl, by decide +kernel⟩
      exact ⟨L4, _, r, .int v, rfl, rfl, SqL.of (x5 _ _ nL4 upd_same), hv1, (by show 2 ≤ sizeLine; decide), fun t ht => fin r H5 v t x5 S5 hv2 ht⟩
  · -- a text
    refine ⟨_, rfl, rfl, _, rfl, iteNo (nx _ e (by decide +kernel)) ?_⟩
    try dsimp only [tNext]
    refine ⟨_, rfl, rfl, _, rfl, iteYes (decide_eq_true (congrArg V.str e)) ?_⟩
    refine ⟨_, rfl, _, rfl, s, i, rfl, S2, fun t H3 x3 S3 tx => ⟨(by show 2 ≤ sizeLine; decide), fun L2 h2 => ⟨_, rfl, s, i, rfl, S3.same (same_new h2 _), W.W.o0, W.W.o40, fun b H4 x4 S4 => .inr ⟨b, rfl, ?_⟩⟩⟩⟩
    have x03 := x2.trans x3
    have nL2 := ((W.ext x03 S3).ne h2).1
    refine ⟨L2, _, _, .str (if b = true then ("\n" : Str) else ""), rfl, rfl, SqL.of (x4 _ _ nL2 upd_same), by cases b <;> rfl, t, _, rfl, rfl, ?_, (by show 2 ≤ sizeLine; decide), fun t1 ht1 => ?_⟩
    · have := tx.1
      have lt := len_list t
      have : (if b = true then ("\n" : Str) else "").length ≤ 1 := by cases b <;> decide +kernel
      exact sizeOk (by omega)
    have x05 := x03.trans ((Ext.same (same_new h2 _)).trans (x4.trans (Ext.new (.tup [.str w', .str (t ++ (if b = true then ("\n" : Str) else ""))]) ht1)))
    refine q _ (.tuple [.str w', .str (t ++ (if b = true then ("\n" : Str) else ""))]) _ bs (ExtB.ext x05) (W.ext x05 (S4.same (same_new ht1 _))) (by omega) (((Dts.nil.cons (.str _)).cons (.str w')).tup (SqT.of upd_same)) ?_
    rw [e]
    cases b with
    | true => exact .textN tx
    | false =>
      have et : t ++ (if false = true then ("\n" : Str) else "") = t := str_ext (by rw [app_list]; exact List.append_nil _)
      rw [et]
      exact .text tx
  · -- a row
    obtain ⟨d', rfl⟩ := p36 fun z => (w6_cls w' (hw6 z)).1 e
    refine ⟨_, rfl, rfl, _, rfl, iteNo (nx _ e (by decide +kernel)) ?_⟩
    try dsimp only [tNext]
    refine ⟨_, rfl, rfl, _, rfl, iteNo (nx _ e (by decide +kernel)) ?_⟩
    try dsimp only [tNext]
    refine ⟨_, rfl, rfl, _, rfl, iteYes (decide_eq_true (congrArg V.str e)) ?_⟩
    refine seq_with (fun R => ∀ (H3 : Hp) (m : Int), Ext s H H3 → IsS K H3 s i → 0 ≤ m → m ≤ 3 → R [some (.ref s), some (.ref na), some (.int ((d' + 1 : Nat) : Int)), some (.ref L), some (.str w'), none, some (.int m), none, none, none] H3) ?_ (fun rest => ?_)
    rotate_left
    · refine ⟨_, rfl, s, i, rfl, S2, W.W.o0, W.W.o40, fun b H3 x3 S3 => ⟨b, rfl, ?_⟩⟩
      cases b with
      | true => exact iteT (rest H3 0 (x2.trans x3) S3 (by decide) (by decide))
      | false => exact iteF ⟨_, rfl, s, i, 3, rfl, S3, by decide, by decide, fun r H4 r0 r3 x4 S4 => ⟨_, _, rfl, rfl, rest H4 (1 + r) (x2.trans (x3.trans x4)) S4 (by omega) (by omega)⟩⟩
    intro H3 m x3 S3 m0 m3
    have W3 := W.ext x3 S3
    try dsimp only [gName]
    refine ⟨_, rfl, _, rfl, _, rfl, by omega, by omega, fun F hF => ?_⟩
    have nF := W3.ne hF
    refine lc_range (lo := 0) (n := m.toNat) (fun j H8 => ExtB s ba H3 H8 ∧ ∃ bs8, St3 K H8 s i la ls ba fds bs8 ∧ bs8.length ≤ bs.length + j * 6 ^ (d' + 1) ∧ ∃ vs ps, H8 F = some (.lst vs) ∧ Dts K H8 vs ps ∧ (∀ p ∈ ps, Lo (FnN fds) (d' + 1) p) ∧ ps.length = j)
      ⟨ExtB.same (same_new hF _), bs, W3.same (same_new hF _), by omega, [], [], upd_same, Dts.nil, (fun k hk => by cases hk), rfl⟩ ?_ ?_
    · rintro j H8 hj ⟨x8, bs8, W8, l8, vs, ps, hF8, dt8, lo8, lps⟩
      have lvs : vs.length = ps.length := dt8.1
      have jp := Nat.mul_le_mul_right (6 ^ (d' + 1)) (show j ≤ 4 by omega)
      have x08 : ExtB s ba H H8 := (ExtB.ext x3).trans x8
      refine ⟨rfl, _, rfl, _, rfl, _, rfl, _, _, rfl, rfl, s, i, la, ba, na, ls, ns, bs8, fds, d', ?_, by omega, W8, W.seq x08 nab hna, wns, by omega, nab, by omega, by omega, by omega, fun v p H9 bs9 x9 W9 l9 dv lo => ⟨vs, x9 _ _ nF.1 nF.2.1 hF8, small1000 (by omega), ?_⟩⟩
      · show ([.ref s, .ref na, .int (((d' + 1 : Nat) : Int) - 1)] : List V) = _
        rw [show ((d' + 1 : Nat) : Int) - 1 = (d' : Int) by omega]
      have x10 : ExtB s ba H3 (upd H9 F (.lst (vs ++ [v]))) := (x8.trans x9).over hF _
      have k10 : Keep K H9 (upd H9 F (.lst (vs ++ [v]))) := Keep.upd (x9 _ _ nF.1 nF.2.1 hF8) trivial _
      refine ⟨x10, bs9, W3.over W9 x10 hF, by rw [Nat.succ_mul]; omega, vs ++ [v], ps ++ [p], upd_same, (k10.dts ((W8.keep x9).dts dt8)).snoc (k10.dt dv), fun k hk => ?_, by rw [List.length_append, lps]; rfl⟩
      rcases List.mem_append.mp hk with m | m
      · exact lo8 k m
      · rw [List.mem_singleton.mp m]; exact lo
    rintro H8 ⟨x8, bs8, W8, l8, pvs, ps, hF8, dt8, lo8, lps⟩
    have jp := Nat.mul_le_mul_right (6 ^ (d' + 1)) (show m.toNat ≤ 3 by omega)
    refine ⟨F, _, rfl, .inl ⟨SqL.of hF8, fun t1 n1 => ⟨(by show 2 ≤ sizeLine; decide), fun t2 n2 => ?_⟩⟩⟩
    have k1 := same_new n1 (.tup pvs)
    have k2 := same_new n2 (.tup [.str w', .ref t1])
    have g2 := ((Same.keep (K := K) (Same.trans k1 k2)).dts dt8).tup (SqT.of (k2 _ _ (upd_same (H := H8) (a := t1) (o := .tup pvs))))
    refine q _ (.tuple [.str w', .tuple ps]) _ bs8 (((ExtB.ext x3).trans x8).trans (ExtB.same (Same.trans k1 k2))) (W8.same (Same.trans k1 k2)) (by omega) (((Dts.nil.cons g2).cons (.str w')).tup (SqT.of upd_same)) ?_
    rw [e]
    exact .row (by omega) lo8
  · -- a shape
    obtain ⟨d', rfl⟩ := p36 fun z => (w6_cls w' (hw6 z)).2.1 e
    refine ⟨_, rfl, rfl, _, rfl, iteNo (nx _ e (by decide +kernel)) ?_⟩
    try dsimp only [tNext]
    refine ⟨_, rfl, rfl, _, rfl, iteNo (nx _ e (by decide +kernel)) ?_⟩
    try dsimp only [tNext]
    refine ⟨_, rfl, rfl, _, rfl, iteNo (nx _ e (by decide +kernel)) ?_⟩
    try dsimp only [tNext]
    refine ⟨_, rfl, rfl, _, rfl, iteYes (decide_eq_true (congrArg V.str e)) ?_⟩
    refine seq_with (fun R => ∀ (H3 : Hp) (A : Addr) (zs : List Str), Ext s H H3 → IsS K H3 s i → H3 A = some (.lst (zs.map V.str)) → H A = none → zs.length ≤ 3 → (∀ z ∈ zs, Word z) → R [some (.ref s), some (.ref na), some (.int ((d' + 1 : Nat) : Int)), some (.ref L), some (.str w'), none, none, some (.ref A), none, none] H3) ?_ (fun rest => ?_)
    rotate_left
    · refine ⟨_, rfl, s, i, 3, rfl, S2, by decide, by decide, fun r H3 r0 r3 x3 S3 => ⟨_, _, rfl, rfl, _, rfl, by omega, by omega, fun D hD => ?_⟩⟩
      have x03 := x2.trans x3
      have W3 := W.ext x03 S3
      have nD := W3.ne hD
      refine lc_range (lo := 0) (n := (1 + r).toNat) (fun j H6 => Ext s H3 H6 ∧ IsS K H6 s i ∧ ∃ zs : List Str, H6 D = some (.lst (zs.map V.str)) ∧ (∀ z ∈ zs, Word z) ∧ zs.length = j) ⟨Ext.new _ hD, S3.same (same_new hD _), [], upd_same, (fun z hz => by cases hz), rfl⟩ ?_ ?_
      · rintro j H6 hj ⟨x6, S6, zs, h6, wz, lz⟩
        refine ⟨rfl, _, rfl, _, rfl, s, i, 0 + (j : Int), rfl, S6, by omega, fun H7 e7 => ⟨_, e7 _ _ h6, small1000 (by rw [List.length_map]; omega), ?_⟩⟩
        have x8 : Ext s H3 (upd H7 D (.lst (zs.map V.str ++ [.str (wordOf i (0 + (j : Int)))]))) := (x6.trans (Ext.same e7)).over hD _
        refine ⟨x8, S3.over (S6.same e7) x8 nD.1, zs ++ [wordOf i (0 + (j : Int))], by rw [upd_same, List.map_append]; rfl, fun z hz => ?_, by rw [List.length_append, lz]; rfl⟩
        rcases List.mem_append.mp hz with m | m
        · exact wz z m
        · rw [List.mem_singleton.mp m]; exact word_of iok (by omega)
      rintro H6 ⟨x6, S6, zs, h6, wz, lz⟩
      refine ⟨D, zs, rfl, SqL.of h6, by omega, fun ys p pm so hp => ?_⟩
      have x06 := x03.trans x6
      refine rest _ p ys (x06.trans (Ext.new _ hp)) (S6.same (same_new hp _)) upd_same (W.W.S.freed S6 x06 hp) (by rw [pm.length_eq]; omega) fun z hz => wz z (pm.mem_iff.mp hz)
    intro H3 A zs x3 S3 hA3 hA0 lz wz
    try dsimp only [gName]
    refine seq_with (fun R => ∀ (H4 : Hp) (A : Addr) (zs : List Str), Ext s H H4 → IsS K H4 s i → H4 A = some (.lst (zs.map V.str)) → H A = none → zs.length ≤ 4 → (∀ z ∈ zs, Word z ∨ z = "A" ∨ z = nineQ) → R [some (.ref s), some (.ref na), some (.int ((d' + 1 : Nat) : Int)), some (.ref L), some (.str w'), none, none, some (.ref A), none, none] H4) ?_ (fun rest => ?_)
    rotate_left
    · refine ⟨_, rfl, s, i, rfl, S3, W.W.o0, W.W.o40, fun b H4 x4 S4 => ⟨b, rfl, ?_⟩⟩
      have x04 := x3.trans x4
      have W4 := W.ext x04 S4
      have nA := W.ne hA0
      have hA4 := x4 _ _ nA.1 hA3
      cases b with
      | false => exact iteF (rest H4 A zs x04 S4 hA4 hA0 (by omega) fun z hz => .inl (wz z hz))
      | true =>
      refine iteT ⟨(by show 0 ≤ sizeLine; decide), fun A1 h1 => ⟨_, rfl, _, rfl, _, rfl, A, _, rfl, SqL.of ((same_new h1 _) _ _ hA4), fun A2 h2 => ⟨A, A2, _, _, rfl, rfl, (Same.trans (same_new h1 _) (same_new h2 _)) _ _ hA4, upd_same, ?_, fun A3 h3 => ⟨(by show 1 ≤ sizeLine; decide), fun A4 h4 => ⟨113, 9, rfl, rfl, by decide, by decide, (by show 1 ≤ sizeLine; decide), fun A5 h5 => ⟨(by show 4 ≤ sizeLine; decide), fun A6 h6 => ?_⟩⟩⟩⟩⟩⟩
      · have := cutV_length (zs.map V.str) none (some 1)
        rw [List.length_map] at this ⊢
        exact sizeOk (by omega)
      have k1 := same_new h1 (.lst [])
      have k2 := same_new h2 (.lst (cutV (zs.map V.str) none (some 1)))
      have k3 := same_new h3 (.lst (zs.map V.str ++ cutV (zs.map V.str) none (some 1)))
      have k4 := same_new h4 (.lst [.str "A"])
      have k5 := same_new h5 (.lst [.str (reps 113 (9 : Int).toNat)])
      have k6 := same_new h6 (.lst [.ref A1, .ref A3, .ref A4, .ref A5])
      have g1 := (Same.trans k2 (Same.trans k3 (Same.trans k4 (Same.trans k5 k6)))) _ _ (upd_same (H := H4) (a := A1) (o := .lst []))
      have g3 := (Same.trans k4 (Same.trans k5 k6)) _ _ (upd_same (H := upd (upd H4 A1 (.lst [])) A2 (.lst (cutV (zs.map V.str) none (some 1)))) (a := A3) (o := .lst (zs.map V.str ++ cutV (zs.map V.str) none (some 1))))
      have g4 := (Same.trans k5 k6) _ _ (upd_same (H := upd (upd (upd H4 A1 (.lst [])) A2 (.lst (cutV (zs.map V.str) none (some 1)))) A3 (.lst (zs.map V.str ++ cutV (zs.map V.str) none (some 1)))) (a := A4) (o := .lst [.str "A"]))
      have g5 := k6 _ _ (upd_same (H := upd (upd (upd (upd H4 A1 (.lst [])) A2 (.lst (cutV (zs.map V.str) none (some 1)))) A3 (.lst (zs.map V.str ++ cutV (zs.map V.str) none (some 1)))) A4 (.lst [.str "A"])) (a := A5) (o := .lst [.str (reps 113 (9 : Int).toNat)]))
      have g6 := upd_same (H := upd (upd (upd (upd (upd H4 A1 (.lst [])) A2 (.lst (cutV (zs.map V.str) none (some 1)))) A3 (.lst (zs.map V.str ++ cutV (zs.map V.str) none (some 1)))) A4 (.lst [.str "A"])) A5 (.lst [.str (reps 113 (9 : Int).toNat)])) (a := A6) (o := .lst [.ref A1, .ref A3, .ref A4, .ref A5])
      have n1 := W.W.S.freed S4 x04 h1
      have n3 := W.W.S.freed S4 x04 (Same.free (Same.trans k1 k2) h3)
      have n4 := W.W.S.freed S4 x04 (Same.free (Same.trans k1 (Same.trans k2 k3)) h4)
      have n5 := W.W.S.freed S4 x04 (Same.free (Same.trans k1 (Same.trans k2 (Same.trans k3 k4))) h5)
      have n6 := W.W.S.freed S4 x04 (Same.free (Same.trans k1 (Same.trans k2 (Same.trans k3 (Same.trans k4 k5)))) h6)
      have ka := Same.trans k1 (Same.trans k2 (Same.trans k3 (Same.trans k4 (Same.trans k5 k6))))
      have hcl : (cutV (zs.map V.str) none (some 1)).length ≤ 1 := by
        unfold cutV
        rw [List.length_take]
        exact Nat.le_trans (Nat.min_le_left _ _) (Nat.le_trans (Nat.sub_le _ _) (show min 1 (zs.map V.str).length ≤ 1 by omega))
      obtain ⟨cz, ecz, wcz⟩ := strs_of (xs := cutV (zs.map V.str) none (some 1)) (bs := zs) (fun v hv => cut_mem hv) wz
      have lcz : cz.length ≤ 1 := by rw [ecz, List.length_map] at hcl; exact hcl
      clear h1 h2 h3 h4 h5 h6 k1 k2 k3 k4 k5 k6 hcl
      rw [ecz] at g1 g3 g4 g5 g6 ka
      rw [ecz]
      refine ⟨_, rfl, s, i, 4, rfl, S4.same ka, by decide, by decide, fun r H10 r0 r4 x10 S10 => ?_⟩
      have x010 := x04.trans ((Ext.same ka).trans x10)
      have this : r = 0 ∨ r = 1 ∨ r = 2 ∨ r = 3 := by omega
      rcases this with h | h | h | h <;> subst h
      · exact ⟨A6, _, _, .ref A1, rfl, rfl, SqL.of (x10 _ _ (W.ne n6).1 g6), rfl, rest H10 A1 [] x010 S10 (x10 _ _ (W.ne n1).1 g1) n1 (by decide) fun z hz => by cases hz⟩
      · refine ⟨A6, _, _, .ref A3, rfl, rfl, SqL.of (x10 _ _ (W.ne n6).1 g6), rfl, rest H10 A3 (zs ++ cz) x010 S10 (by rw [List.map_append]; exact x10 _ _ (W.ne n3).1 g3) n3 (by rw [List.length_append]; omega) fun z hz => ?_⟩
        rcases List.mem_append.mp hz with m | m
        · exact .inl (wz z m)
        · exact .inl (wcz z m)
      · exact ⟨A6, _, _, .ref A4, rfl, rfl, SqL.of (x10 _ _ (W.ne n6).1 g6), rfl, rest H10 A4 ["A"] x010 S10 (x10 _ _ (W.ne n4).1 g4) n4 (by decide) fun z hz => .inr (.inl (List.mem_singleton.mp hz))⟩
      · exact ⟨A6, _, _, .ref A5, rfl, rfl, SqL.of (x10 _ _ (W.ne n6).1 g6), rfl, rest H10 A5 [nineQ] x010 S10 (x10 _ _ (W.ne n5).1 g5) n5 (by decide) fun z hz => .inr (.inr (List.mem_singleton.mp hz))⟩
    clear hA3 hA0 lz wz x3 S3 A zs H3
    intro H4 A zs x4 S4 hA4 hA0 lz wz
    have W4 := W.ext x4 S4
    have nA := W.ne hA0
    refine ⟨_, rfl, _, rfl, A, rfl, ⟨_, SqL.of hA4⟩, fun D hD => ?_⟩
    have nD := W4.ne hD
    refine lc_list (K := K) (a := A) (xs := zs.map V.str) (fun j H8 => ExtB s ba H4 H8 ∧ ∃ bs8, St3 K H8 s i la ls ba fds bs8 ∧ bs8.length ≤ bs.length + j * 6 ^ (d' + 1) ∧ ∃ (vs : List V) (qs : List (Str × PyData)), H8 D = some (.lst vs) ∧ Dts K H8 vs (qs.map mkP) ∧ qs.map (·.1) = zs.take j ∧ ∀ q ∈ qs, Lo (FnN fds) (d' + 1) q.2)
      ⟨ExtB.same (same_new hD _), bs, W4.same (same_new hD _), by omega, [], [], upd_same, Dts.nil, rfl, fun q hq => by cases hq⟩ (fun j H8 _ h => SqL.of (h.1 _ _ nA.1 nA.2.1 hA4)) ?_ ?_
    · rintro j x H8 hx ⟨x8, bs8, W8, l8, vs, qs, hD8, dt8, eqs, lo8⟩
      rw [List.getElem?_map] at hx
      obtain ⟨z, hz, rfl⟩ := Option.map_eq_some_iff.mp hx
      have jl := (List.getElem?_eq_some_iff.mp hz).1
      have lqs : qs.length = j := by
        have g := congrArg List.length eqs
        rw [List.length_map, List.length_take] at g
        omega
      have lvs : vs.length = j := by rw [dt8.1, List.length_map, lqs]
      have jp := Nat.mul_le_mul_right (6 ^ (d' + 1)) (show j ≤ 3 by omega)
      have x08 : ExtB s ba H H8 := (ExtB.ext x4).trans x8
      refine ⟨rfl, _, rfl, _, rfl, _, rfl, _, rfl, _, _, rfl, rfl, s, i, la, ba, na, ls, ns, bs8, fds, d', ?_, by omega, W8, W.seq x08 nab hna, wns, by omega, nab, by omega, by omega, by omega, fun v p H9 bs9 x9 W9 l9 dv lo => ⟨(by show 2 ≤ sizeLine; decide), fun t ht => ⟨vs, (same_new ht _) _ _ (x9 _ _ nD.1 nD.2.1 hD8), small1000 (by omega), ?_⟩⟩⟩
      · show ([.ref s, .ref na, .int (((d' + 1 : Nat) : Int) - 1)] : List V) = _
        rw [show ((d' + 1 : Nat) : Int) - 1 = (d' : Int) by omega]
      have e9 := same_new ht (.tup [.str z, v])
      have hD9 := e9 _ _ (x9 _ _ nD.1 nD.2.1 hD8)
      have x10 : ExtB s ba H4 (upd (upd H9 t (.tup [.str z, v])) D (.lst (vs ++ [.ref t]))) := ((x8.trans x9).trans (ExtB.same e9)).over hD _
      have k10 : Keep K (upd H9 t (.tup [.str z, v])) (upd (upd H9 t (.tup [.str z, v])) D (.lst (vs ++ [.ref t]))) := Keep.upd hD9 trivial _
      refine ⟨x10, bs9, W4.over (W9.same e9) x10 hD, by rw [Nat.succ_mul]; omega, vs ++ [.ref t], qs ++ [(z, p)], upd_same, ?_, by rw [List.map_append, eqs, List.take_add_one, hz]; rfl, fun q hq => ?_⟩
      · rw [List.map_append]
        exact (k10.dts ((Same.keep e9).dts ((W8.keep x9).dts dt8))).snoc (k10.dt (((Dts.nil.cons ((Same.keep e9).dt dv)).cons (.str z)).tup (SqT.of upd_same)))
      · rcases List.mem_append.mp hq with m | m
        · exact lo8 q m
        · rw [List.mem_singleton.mp m]; exact lo
    rintro H8 ⟨x8, bs8, W8, l8, vs, qs, hD8, dt8, eqs, lo8⟩
    rw [List.length_map] at l8 eqs
    rw [List.take_length] at eqs
    have lqs : qs.length = zs.length := by rw [← eqs, List.length_map]
    have jp := Nat.mul_le_mul_right (6 ^ (d' + 1)) lz
    refine ⟨D, _, rfl, .inl ⟨SqL.of hD8, fun t1 n1 => ⟨(by show 2 ≤ sizeLine; decide), fun t2 n2 => ?_⟩⟩⟩
    have k1 := same_new n1 (.tup vs)
    have k2 := same_new n2 (.tup [.str w', .ref t1])
    have g2 := ((Same.keep (K := K) (Same.trans k1 k2)).dts dt8).tup (SqT.of (k2 _ _ (upd_same (H := H8) (a := t1) (o := .tup vs))))
    refine q _ (.tuple [.str w', .tuple (qs.map mkP)]) _ bs8 (((ExtB.ext x4).trans x8).trans (ExtB.same (Same.trans k1 k2))) (W8.same (Same.trans k1 k2)) (by omega) (((Dts.nil.cons g2).cons (.str w')).tup (SqT.of upd_same)) ?_
    rw [e]
    exact .shape (by omega) (fun q hq => wz q.1 (by rw [← eqs]; exact List.mem_map_of_mem hq)) lo8
  · -- a call
    have dp : d ≠ 0 := fun z => (w6_cls w' (hw6 z)).2.2.1 e
    refine ⟨_, rfl, rfl, _, rfl, iteNo (nx _ e (by decide +kernel)) ?_⟩
    try dsimp only [tNext]
    refine ⟨_, rfl, rfl, _, rfl, iteNo (nx _ e (by decide +kernel)) ?_⟩
    try dsimp only [tNext]
    refine ⟨_, rfl, rfl, _, rfl, iteNo (nx _ e (by decide +kernel)) ?_⟩
    try dsimp only [tNext]
    refine ⟨_, rfl, rfl, _, rfl, iteNo (nx _ e (by decide +kernel)) ?_⟩
    try dsimp only [tNext]
    refine ⟨_, rfl, rfl, _, rfl, iteYes (decide_eq_true (congrArg V.str e)) ?_⟩
    exact ⟨_, rfl, _, rfl, _, rfl, s, i, la, ba, na, ls, ns, bs, fds, d, rfl, by omega, by omega, W2, W.W.S.seq x2 hna, wns, nab, d4, nl, bl, fun v p H' bs' x' W' l' dv lo => q v p H' bs' ((ExtB.ext x2).trans x') W' l' dv lo⟩
  · -- pieces
    obtain ⟨⟨w0, sg⟩, hq, rfl⟩ := List.mem_map.mp e
    obtain ⟨_, n1, n2, n3, n4, n5, _⟩ := frm_form _ hq
    refine ⟨_, rfl, rfl, _, rfl, iteNo (fun z => n2 (V.str.inj (of_decide_eq_true z))) ?_⟩
    try dsimp only [tNext]
    refine ⟨_, rfl, rfl, _, rfl, iteNo (fun z => n3 (V.str.inj (of_decide_eq_true z))) ?_⟩
    try dsimp only [tNext]
    refine ⟨_, rfl, rfl, _, rfl, iteNo (fun z => n4 (V.str.inj (of_decide_eq_true z))) ?_⟩
    try dsimp only [tNext]
    refine ⟨_, rfl, rfl, _, rfl, iteNo (fun z => n5 (V.str.inj (of_decide_eq_true z))) ?_⟩
    try dsimp only [tNext]
    refine ⟨_, rfl, rfl, _, rfl, iteNo (fun z => n1 (V.str.inj (of_decide_eq_true z))) ?_⟩
    try dsimp only [tNext]
    refine ⟨_, rfl, _, rfl, _, rfl, _, rfl, s, i, la, ba, na, ls, ns, bs, fds, d, w0, sg, rfl, by omega, hq, fun z c hc hs => ?_, W2, W.W.S.seq x2 hna, wns, nab, d4, nl, bl, fun v p H' bs' x' W' l' dv lo => q v p H' bs' ((ExtB.ext x2).trans x') W' l' dv lo⟩
    rcases (w6_cls w0 (hw6 z)).2.2.2 _ hq rfl c hc with h | h
    · exact nosub (.inr (.inr (.inl h))) hs
    · exact nosub (.inr (.inl h)) hs
theorem c_looses (T : Tx K mg) : ∀ n : Nat, Cal P w K mg base (2 * n + 8) "_law_loose" ["_law_s", "_law_known", "_law_deep"] (spLoose K n)
  | 0 => (T.loose.never fun vs H Q E h => by
      obtain ⟨_, _, _, _, _, _, _, _, _, d, _, dn, _⟩ := h
      omega).mono (by decide)
  | n + 1 => c_loose (lv := 2 * n + 9) T (by omega) ((c_looses T n).mono (by omega)) (c_pieces T (by omega) (c_looses T n)) (c_lcall T (by omega) (c_looses T n))
end
end Sc
namespace Sc
open PySem PySem.Spec PyProof.Rows L2
/-! ### _law_loose_function -/
def Xt.setL (v : V) : Xt → Xt
  | .no => .one v
  | .one _ => .one v
  | .two _ b => .two v b
def Xt.setB (v : V) : Xt → Xt
  | .no => .no
  | .one l => .two l v
  | .two l _ => .two l v
theorem p_letters (i : Inf) (m : Mv) (v : V) : putK (stD i m) (.inr "letters") v = stD { i with x := i.x.setL v } m := by obtain ⟨_, _, _, _, _, _, _, x⟩ := i; cases x <;> rfl
theorem p_bound (i : Inf) (m : Mv) (v : V) (h : i.x ≠ .no) : putK (stD i m) (.inr "bound") v = stD { i with x := i.x.setB v } m := by
  obtain ⟨_, _, _, _, _, _, _, x⟩ := i
  cases x with
  | no => exact absurd rfl h
  | one _ => rfl
  | two _ _ => rfl
theorem setL_x (x : Xt) (v : V) : x.setL v = .one v ∨ ∃ b, x.setL v = .two v b := by cases x <;> simp [Xt.setL]
/-- the state between functions -/
structure StF (K : PySem.W.Frag) (H : Hp) (s : Addr) (i : Inf) (fds : List PyData) : Prop where
  S : IsS K H s i
  o0 : 0 ≤ i.odd
  o40 : i.odd ≤ 40
  nt : i.talk = 0
  nfs : i.f ≠ s
  cf : i.c ≠ i.f ∨ ∃ ns : List Int, ns.length ≤ 63 ∧ ∀ H, SqL K H i.c (ns.map V.int)
  fn : ∃ us, H i.f = some (.lst us) ∧ Dts K H us fds
  ok : LoPs [] fds
  f12 : fds.length ≤ 11
def ExtF (s f : Addr) (H H' : Hp) : Prop := ∀ b o, b ≠ s → b ≠ f → H b = some o → H' b = some o
def spLfn (K : PySem.W.Frag) : Sp := fun vs H Q _ => ∃ (s : Addr) (i : Inf) (k : Int) (fds : List PyData), vs = [.ref s, .int k] ∧ StF K H s i fds ∧ 0 ≤ k ∧ k < 12 ∧
  ∀ (H' : Hp) (i' : Inf) (d : PyData), ExtF s i.f H H' → IsS K H' s i' → i'.f = i.f → i'.c = i.c → i'.odd = i.odd → i'.talk = i.talk → (∃ us, H' i.f = some (.lst us) ∧ Dts K H' us (fds ++ [d])) → LoPs [] (fds ++ [d]) → Q .non H'
section
variable {P : Program} {w : World} {K : PySem.W.Frag} {mg : Str → Option Value} {base : Heap}
abbrev nLf : List Str := ["_law_s", "_law_k", "_law_letters", "_law_names", "_law_pairs", "_law_name", "_law_params", "_law_result", "_law_names_told", "_law_j", "_law_letter", "_law_one"]
theorem scLf : FnScope nLf ["_law_s", "_law_k"] (defScope sLooseFunction) := ⟨rfl, rfl, rfl, by decide +kernel, rfl, by decide +kernel, by decide +kernel⟩
theorem IsS.put {H : Hp} {s : Addr} {i i' : Inf} {k : Str} {v : V} (h : IsS K H s i) (hp : ∀ m, putK (stD i m) (.inr k) v = stD i' m) (hi : i'.c = i.c) (ho : i'.Ok) : ∃ H5, DPut H s (.str k) v H5 ∧ IsS K H5 s i' ∧ Ext s H H5 := by
  obtain ⟨ns, m, a1, a2, a3, a4, a5⟩ := h
  exact ⟨_, pS a1 (hp m), ⟨ns, m, upd_same, by rw [hi]; exact (Ext.upd s H _).seq a1 a2, a3, ho, a5⟩, Ext.upd s H _⟩
theorem IsS.updF {H : Hp} {s : Addr} {i i' : Inf} (S : IsS K H s i') (hc : i'.c = i.c) (nf : i.f ≠ s) (cf : i.c ≠ i.f ∨ ∃ ns : List Int, ns.length ≤ 63 ∧ ∀ H, SqL K H i.c (ns.map V.int)) (o : HO) : IsS K (L2.upd H i.f o) s i' := by
  obtain ⟨ns, m, a1, a2, a3, a4⟩ := S
  rw [hc] at a2
  rcases cf with c | ⟨ns', l, k⟩
  · refine ⟨ns, m, by rw [upd_ne nf.symm]; exact a1, ?_, a3, a4⟩
    rw [hc]
    rcases a2 with (h | ⟨u, h⟩) | h
    · exact .inl (.inl (by rw [upd_ne c]; exact h))
    · exact .inl (.inr ⟨u, by rw [upd_ne c]; exact h⟩)
    · exact .inr h
  · exact ⟨ns', m, by rw [upd_ne nf.symm]; exact a1, by rw [hc]; exact k _, l, a4⟩
theorem cutF {p : Str → Prop} {zs : List Str} (h : ∀ z ∈ zs, p z) : ∃ cz : List Str, cutV (zs.map V.str) none (some 1) = cz.map V.str ∧ cz.length ≤ 1 ∧ ∀ z ∈ cz, p z := by
  have hcl : (cutV (zs.map V.str) none (some 1)).length ≤ 1 := by
    unfold cutV
    rw [List.length_take]
    exact Nat.le_trans (Nat.min_le_left _ _) (Nat.le_trans (Nat.sub_le _ _) (show min 1 (zs.map V.str).length ≤ 1 by omega))
  obtain ⟨cz, e, w⟩ := strs_of (xs := cutV (zs.map V.str) none (some 1)) (bs := zs) (fun v hv => cut_mem hv) h
  exact ⟨cz, e, by rw [e, List.length_map] at hcl; exact hcl, w⟩
theorem set_two (x : Xt) (a b c : V) : ((x.setL a).setL b).setB c = .two b c := by cases x <;> rfl
def told5 : List Str := ["get", "total", "Ab", "aaaaaaaaa", "nobook"]
theorem told5_ok : ∀ z ∈ told5, (Word z ∧ formTab.lookup z = none) ∨ z ∈ oddNames := by decide +kernel
set_option maxHeartbeats 4000000 in
theorem c_lfn (T : Tx K mg) : Cal P w K mg base 17 "_law_loose_function" ["_law_s", "_law_k"] (spLfn K) := by
  have CT : Cal P w K mg base 1 "_law_taken" ["_law_s", "_law_most"] (spTaken K) := c_taken T
  have CA : Cal P w K mg base 2 "_law_amiss" ["_law_s"] (spAmiss K) := c_amiss T
  have CW : Cal P w K mg base 1 "_law_a_word" ["_law_s", "_law_k"] (spWord K) := c_a_word T
  have CI : Cal P w K mg base 2 "_law_title" ["_law_s", "_law_k"] (spTitle K) := c_title T
  have CL : Cal P w K mg base 8 "_law_loose_kind" ["_law_s"] (spLk K) := c_lk T
  have CR : Cal P w K mg base 16 "_law_loose" ["_law_s", "_law_known", "_law_deep"] (spLoose K 4) := c_looses T 4
  refine T.loose_function.ok scLf (fun vs H Q E h => ?_) (fun f cdv A outer s0 H vs Q E hr h => ?_)
  · obtain ⟨s, i, k, fds, rfl, _⟩ := h
    rfl
  have hu := hu_of hr
  have r1 : Room 1 _ := hr.mono (show 1 ≤ 16 by decide)
  have r2 : Room 2 _ := hr.mono (show 2 ≤ 16 by decide)
  have r8 : Room 8 _ := hr.mono (show 8 ≤ 16 by decide)
  refine ⟨_, pss_cons (ps_setLc (i := 2) (own := [("_law_j", 9)]) (g := gName 9) (tt := tYes) rfl scLf.nd rfl rfl (sw_true rfl rfl rfl (by decide +kernel)) (pi_range1 rfl T.m_range (pa_cons (pe_cal CT r1 (pa_cons (pv 0) (pa_cons pe_int pa_nil))) pa_nil)) (blkOk_by (N := nLf) (sc := defScope sLooseFunction) (by decide +kernel)) (fun _ _ _ _ _ => pg_name (i := 9) scLf.nd rfl (Or.inl rfl)) (fun _ _ _ _ _ => pts_nil) (fun _ _ _ _ _ => (pe_upper (pe_cal CW r1 (pa_cons (pv 0) (pa_cons (pv 9) pa_nil)))))) <|
    pss_cons (ps_setLc (i := 3) (own := [("_law_j", 9)]) (g := gName 9) (tt := tYes) rfl scLf.nd rfl rfl (sw_true rfl rfl rfl (by decide +kernel)) (pi_range1 rfl T.m_range (pa_cons (pe_cal CT r1 (pa_cons (pv 0) (pa_cons pe_int pa_nil))) pa_nil)) (blkOk_by (N := nLf) (sc := defScope sLooseFunction) (by decide +kernel)) (fun _ _ _ _ _ => pg_name (i := 9) scLf.nd rfl (Or.inl rfl)) (fun _ _ _ _ _ => pts_nil) (fun _ _ _ _ _ => (pe_cal CW r1 (pa_cons (pv 0) (pa_cons (pe_op op_add pe_int (pv 9)) pa_nil))))) <|
    pss_cons (ps_if (pt_val (pe_cal CA r2 (pa_cons (pv 0) pa_nil))) (pss_one (ps_set (i := 2) scLf.nd rfl (Or.inl rfl) (pe_op op_cat (pv 2) (pe_slice sl_list (pv 2) po_none (po_some pe_int))))) pss_nil) <|
    pss_cons (ps_if (pt_val (pe_cal CA r2 (pa_cons (pv 0) pa_nil))) (pss_one (ps_set (i := 3) scLf.nd rfl (Or.inl rfl) (pe_op op_cat (pv 3) (pe_slice sl_list (pv 3) po_none (po_some pe_int))))) pss_nil) <|
    pss_cons (ps_dput hu (pv 0) pe_str (pe_lst pa_nil) rfl) <|
    pss_cons (ps_set (i := 4) scLf.nd rfl (Or.inl rfl) (pe_callTy call_tuple_of (by rfl) T.m_tuple (by decide +kernel) (pa_cons (pe_lc (own := [("_law_letter", 10)]) (g := gName 10) (tt := tYes) rfl scLf.nd (pi_list (pv 2)) (blkOk_by (N := nLf) (sc := defScope sLooseFunction) (by decide +kernel)) (fun _ _ _ _ _ => pg_name (i := 10) scLf.nd rfl (Or.inl rfl)) (fun _ _ _ _ _ => pts_nil) (fun _ _ _ _ _ => (pe_tup (pa_cons (pv 10) (pa_cons (pe_cal CL r8 (pa_cons (pv 0) pa_nil)) pa_nil))))) pa_nil))) <|
    pss_cons (ps_dput hu (pv 0) pe_str (pv 2) rfl) <|
    pss_cons (ps_set (i := 6) scLf.nd rfl (Or.inl rfl) (pe_callTy call_tuple_of (by rfl) T.m_tuple (by decide +kernel) (pa_cons (pe_lc (own := [("_law_name", 5)]) (g := gName 5) (tt := tYes) rfl scLf.nd (pi_list (pv 3)) (blkOk_by (N := nLf) (sc := defScope sLooseFunction) (by decide +kernel)) (fun _ _ _ _ _ => pg_name (i := 5) scLf.nd rfl (Or.inl rfl)) (fun _ _ _ _ _ => pts_nil) (fun _ _ _ _ _ => (pe_tup (pa_cons (pv 5) (pa_cons (pe_cal CL r8 (pa_cons (pv 0) pa_nil)) pa_nil))))) pa_nil))) <|
    pss_cons (ps_set (i := 7) scLf.nd rfl (Or.inl rfl) (pe_cal CL r8 (pa_cons (pv 0) pa_nil))) <|
    pss_cons (ps_set (i := 5) scLf.nd rfl (Or.inl rfl) (pe_cal CI r2 (pa_cons (pv 0) (pa_cons (pv 1) pa_nil)))) <|
    pss_cons (ps_if (pt_val (pe_cal CA r2 (pa_cons (pv 0) pa_nil))) (pss_cons (ps_set (i := 8) scLf.nd rfl (Or.inl rfl) (pe_op op_cat (pe_lc (own := [("_law_one", 11)]) (g := gName 11) (tt := tYes) rfl scLf.nd (pi_list (pe_dget hu (pv 0) pe_str (fun _ _ => rfl))) (blkOk_by (N := nLf) (sc := defScope sLooseFunction) (by decide +kernel)) (fun _ _ _ _ _ => pg_name (i := 11) scLf.nd rfl (Or.inl rfl)) (fun _ _ _ _ _ => pts_nil) (fun _ _ _ _ _ => (pe_ix (ix_tupK K) (pv 11) pe_int (fun _ _ => rfl)))) (pe_lst (pa_cons pe_str (pa_cons pe_str (pa_cons pe_str (pa_cons (pe_op op_reps pe_str pe_int) (pa_cons pe_str pa_nil)))))))) (pss_one (ps_set (i := 5) scLf.nd rfl (Or.inl rfl) (pe_ix ix_list (pv 8) (pe_cal CT r1 (pa_cons (pv 0) (pa_cons (pe_callB call_len_seq (by rfl) T.m_len PySem.boot_len (pa_cons (pv 8) pa_nil)) pa_nil))) (fun _ _ => rfl))))) pss_nil) <|
    pss_cons (ps_dput hu (pv 0) pe_str (pe_lst pa_nil) rfl) <|
    pss_one (ps_expr (pe_bm PySem.F.plainAttrs_list PySem.F.slot_list_append PySem.F.type_list_append mt_append (pe_dget hu (pv 0) pe_str (fun _ _ => rfl)) (pa_cons (pe_tup (pa_cons (pv 5) (pa_cons (pv 4) (pa_cons (pv 6) (pa_cons (pv 7) (pa_cons (pe_cal CR hr (pa_cons (pv 0) (pa_cons (pv 3) (pa_cons (pe_op op_add pe_int (pe_cal CT r1 (pa_cons (pv 0) (pa_cons pe_int pa_nil)))) pa_nil)))) pa_nil)))))) pa_nil))), ?_⟩
  obtain ⟨s, i, k, fds, rfl, W, k0, k12, q⟩ := h
  have iok : i.Ok := by obtain ⟨_, _, _, _, _, iok, _⟩ := id W.S; exact iok
  obtain ⟨us, hf, hfd⟩ := W.fn
  have am : ∀ {H' : Hp} {R : VK} {i' : Inf} {σ : L2.St}, σ[0]? = some (some (.ref s)) → IsS K H' s i' → i'.odd = i.odd → (∀ b H2, Ext s H' H2 → IsS K H2 s i' → R (.bl b) H2) → tCall (spAmiss K) [] E0 (tCons (tVar 0) tNil) σ H' R := fun h0 S e k =>
    ⟨_, h0, s, _, rfl, S, by rw [e]; exact W.o0, by rw [e]; exact W.o40, fun b H2 x2 S2 => k b H2 x2 S2⟩
  -- the letters
  refine ⟨_, rfl, s, i, 4, rfl, W.S, by decide, by decide, fun r H1 r0 r4 x1 S1 => ⟨_, rfl, by omega, by omega, fun LA hLA0 => ?_⟩⟩
  have nLA := S1.ne hLA0
  refine lc_range (lo := 0) (n := r.toNat) (fun j H3 => Ext s H1 H3 ∧ IsS K H3 s i ∧ ∃ zs : List Str, H3 LA = some (.lst (zs.map V.str)) ∧ (∀ z ∈ zs, Lett z) ∧ zs.length = j)
    ⟨Ext.new _ hLA0, S1.same (same_new hLA0 _), [], upd_same, (fun z hz => by cases hz), rfl⟩ ?_ ?_
  · rintro j H3 hj ⟨x3, S3, zs, hd, wd, lz⟩
    refine ⟨rfl, _, rfl, _, rfl, s, i, 0 + (j : Int), rfl, S3, by omega, fun H4 e4 => ?_⟩
    have w8 := (word_of iok (k := 0 + (j : Int)) (by omega)).2.1
    refine ⟨⟨_, rfl⟩, _, rfl, rfl, by rw [len_list]; omega, zs.map V.str, e4 _ _ hd, ?_, ?_⟩
    · rw [List.length_map]
      exact small1000 (by omega)
    · have x5 : Ext s H1 (upd H4 LA (.lst (zs.map V.str ++ [.str (Txt.upper (wordOf i (0 + (j : Int))))]))) := (x3.trans (Ext.same e4)).over hLA0 _
      refine ⟨x5, S1.over (S3.same e4) x5 nLA, zs ++ [Txt.upper (wordOf i (0 + (j : Int)))], by rw [upd_same, List.map_append]; rfl, fun z hz => ?_, by rw [List.length_append, lz]; rfl⟩
      rcases List.mem_append.mp hz with h | h
      · exact wd z h
      · rw [List.mem_singleton.mp h]
        exact upper_word (word_of iok (by omega))
  rintro H2 ⟨x2, S2, ls, hLA, wls, lls⟩
  have lls3 : ls.length ≤ 3 := by omega
  have hLAn : H LA = none := W.S.freed S1 x1 hLA0
  have x02 := x1.trans x2
  clear lls r0 r4 r x1 x2 S1 hLA0 H1
  -- the names
  refine ⟨_, rfl, s, i, 4, rfl, S2, by decide, by decide, fun r H3 r0 r4 x3 S3 => ⟨_, rfl, by omega, by omega, fun NA hNA0 => ?_⟩⟩
  have nNA := S3.ne hNA0
  refine lc_range (lo := 0) (n := r.toNat) (fun j H4 => Ext s H3 H4 ∧ IsS K H4 s i ∧ ∃ zs : List Str, H4 NA = some (.lst (zs.map V.str)) ∧ (∀ z ∈ zs, Word z) ∧ zs.length = j)
    ⟨Ext.new _ hNA0, S3.same (same_new hNA0 _), [], upd_same, (fun z hz => by cases hz), rfl⟩ ?_ ?_
  · rintro j H4 hj ⟨x4, S4, zs, hd, wd, lz⟩
    refine ⟨rfl, _, rfl, _, rfl, _, _, rfl, rfl, s, i, 3 + (0 + (j : Int)), rfl, S4, by omega, fun H5 e5 => ⟨zs.map V.str, e5 _ _ hd, small1000 (by rw [List.length_map]; omega), ?_⟩⟩
    have x5 : Ext s H3 (upd H5 NA (.lst (zs.map V.str ++ [.str (wordOf i (3 + (0 + (j : Int))))]))) := (x4.trans (Ext.same e5)).over hNA0 _
    refine ⟨x5, S3.over (S4.same e5) x5 nNA, zs ++ [wordOf i (3 + (0 + (j : Int)))], by rw [upd_same, List.map_append]; rfl, fun z hz => ?_, by rw [List.length_append, lz]; rfl⟩
    rcases List.mem_append.mp hz with h | h
    · exact wd z h
    · rw [List.mem_singleton.mp h]
      exact word_of iok (by omega)
  rintro H4 ⟨x4, S4, ns, hNA, wns, lns⟩
  have lns3 : ns.length ≤ 3 := by omega
  have hNAn : H NA = none := W.S.freed S3 (x02.trans x3) hNA0
  have hLA4 := (x3.trans x4) _ _ nLA hLA
  have x04 := x02.trans (x3.trans x4)
  clear lns r0 r4 r x3 x4 S3 S2 hNA0 H3 hLA x02
  try dsimp only [gName]
  -- a letter twice
  refine seq_with (fun R => ∀ (H5 : Hp) (LA : Addr) (ls : List Str), Ext s H4 H5 → IsS K H5 s i → H5 LA = some (.lst (ls.map V.str)) → H LA = none → ls.length ≤ 4 → (∀ z ∈ ls, Lett z) → R [some (.ref s), some (.int k), some (.ref LA), some (.ref NA), none, none, none, none, none, none, none, none] H5) ?_ (fun rest => ?_)
  rotate_left
  · refine am rfl S4 rfl fun b H5 x5 S5 => ⟨b, rfl, ?_⟩
    have hL5 := x5 _ _ nLA hLA4
    cases b with
    | false => exact iteF (rest H5 LA ls x5 S5 hL5 hLAn (by omega) wls)
    | true =>
    obtain ⟨cz, ecz, lcz, wcz⟩ := cutF wls
    refine iteT ⟨_, rfl, _, rfl, _, rfl, LA, _, rfl, SqL.of hL5, fun A2 h2 => ⟨LA, A2, _, _, rfl, rfl, (same_new h2 _) _ _ hL5, upd_same, ?_, fun A3 h3 => ?_⟩⟩
    · rw [ecz, List.length_map, List.length_map]
      exact sizeOk (by omega)
    · have e := Same.trans (same_new h2 (.lst (cutV (ls.map V.str) none (some 1)))) (same_new h3 (.lst (ls.map V.str ++ cutV (ls.map V.str) none (some 1))))
      refine rest _ A3 (ls ++ cz) (x5.trans (Ext.same e)) (S5.same e) (by rw [upd_same, ecz, List.map_append]) (W.S.freed S5 (x04.trans x5) (Same.free (same_new h2 _) h3)) (by rw [List.length_append]; omega) fun z hz => ?_
      rcases List.mem_append.mp hz with m | m
      · exact wls z m
      · exact wcz z m
  clear hLA4 hLAn lls3 wls nLA ls LA
  intro H5 LA ls x5 S5 hLA5 hLAn lls wls
  have nLA : LA ≠ s := W.S.ne hLAn
  have hNA5 := x5 _ _ nNA hNA
  have x05 := x04.trans x5
  clear x5 x04 S4 hNA H4
  try dsimp only [gName]
  refine seq_with (fun R => ∀ (H6 : Hp) (NA : Addr) (ns : List Str), Ext s H5 H6 → IsS K H6 s i → H6 NA = some (.lst (ns.map V.str)) → H NA = none → ns.length ≤ 4 → (∀ z ∈ ns, Word z) → R [some (.ref s), some (.int k), some (.ref LA), some (.ref NA), none, none, none, none, none, none, none, none] H6) ?_ (fun rest => ?_)
  rotate_left
  · refine am rfl S5 rfl fun b H6 x6 S6 => ⟨b, rfl, ?_⟩
    have hN6 := x6 _ _ nNA hNA5
    cases b with
    | false => exact iteF (rest H6 NA ns x6 S6 hN6 hNAn (by omega) wns)
    | true =>
    obtain ⟨cz, ecz, lcz, wcz⟩ := cutF wns
    refine iteT ⟨_, rfl, _, rfl, _, rfl, NA, _, rfl, SqL.of hN6, fun A2 h2 => ⟨NA, A2, _, _, rfl, rfl, (same_new h2 _) _ _ hN6, upd_same, ?_, fun A3 h3 => ?_⟩⟩
    · rw [ecz, List.length_map, List.length_map]
      exact sizeOk (by omega)
    · have e := Same.trans (same_new h2 (.lst (cutV (ns.map V.str) none (some 1)))) (same_new h3 (.lst (ns.map V.str ++ cutV (ns.map V.str) none (some 1))))
      refine rest _ A3 (ns ++ cz) (x6.trans (Ext.same e)) (S6.same e) (by rw [upd_same, ecz, List.map_append]) (W.S.freed S6 (x05.trans x6) (Same.free (same_new h2 _) h3)) (by rw [List.length_append]; omega) fun z hz => ?_
      rcases List.mem_append.mp hz with m | m
      · exact wns z m
      · exact wcz z m
  clear hNA5 hNAn lns3 wns nNA ns NA
  intro H6 NA ns x6 S6 hNA6 hNAn lns wns
  have nNA : NA ≠ s := W.S.ne hNAn
  have hLA6 := x6 _ _ nLA hLA5
  have x06 := x05.trans x6
  clear x6 x05 S5 hLA5 H5
  try dsimp only [gName]
  -- no letters yet
  refine ⟨(by show 0 ≤ sizeLine; decide), fun E0 hE0 => ?_⟩
  have k7 := same_new hE0 (.lst [])
  have nE0 := S6.ne hE0
  have hE7 : (upd H6 E0 (.lst [])) E0 = some (.lst []) := upd_same
  obtain ⟨H7, put7, S7, x7⟩ := (S6.same k7).put (k := "letters") (v := .ref E0) (i' := { i with x := i.x.setL (.ref E0) }) (fun m => p_letters i m _) rfl ⟨iok.s1, iok.s8, iok.p0, iok.p1, iok.t0, iok.t1, iok.k0, iok.k1⟩
  refine ⟨_, rfl, s, _, rfl, put7, ?_⟩
  have x67 : Ext s H6 H7 := (Ext.same k7).trans x7
  have hE7' := x7 _ _ nE0 hE7
  have hLA7 := x67 _ _ nLA hLA6
  have hNA7 := x67 _ _ nNA hNA6
  have x07 := x06.trans x67
  clear put7 k7 hE7 x7 S6 hE0 hLA6 hNA6 x06 x67
  have hx1 := setL_x i.x (.ref E0)
  obtain ⟨i1, ei1⟩ : ∃ i1 : Inf, i1 = { i with x := i.x.setL (.ref E0) } := ⟨_, rfl⟩
  rw [← ei1] at S7
  try dsimp only [tNext]
  refine ⟨_, rfl, LA, rfl, ⟨_, SqL.of hLA7⟩, fun D hD => ?_⟩
  have nD := S7.ne hD
  refine lc_list (K := K) (a := LA) (xs := ls.map V.str) (fun j H8 => Ext s H7 H8 ∧ IsS K H8 s i1 ∧ ∃ (vs : List V) (qs : List (Str × PyData)), H8 D = some (.lst vs) ∧ Dts K H8 vs (qs.map mkP) ∧ qs.map (·.1) = ls.take j ∧ ∀ q ∈ qs, Lk q.2)
    ⟨Ext.new _ hD, S7.same (same_new hD _), [], [], upd_same, Dts.nil, rfl, fun q hq => by cases hq⟩ (fun j H8 _ h => SqL.of (h.1 _ _ nLA hLA7)) ?_ ?_
  · rintro j x H8 hx ⟨x8, S8, vs, qs, hD8, dt8, eqs, lk8⟩
    rw [List.getElem?_map] at hx
    obtain ⟨z, hz, rfl⟩ := Option.map_eq_some_iff.mp hx
    have jl := (List.getElem?_eq_some_iff.mp hz).1
    have lqs : qs.length = j := by
      have g := congrArg List.length eqs
      rw [List.length_map, List.length_take] at g
      omega
    have lvs : vs.length = j := by rw [dt8.1, List.length_map, lqs]
    refine ⟨rfl, _, rfl, _, rfl, s, i1, E0, [], rfl, ⟨S8, by rw [ei1]; exact W.o0, by rw [ei1]; exact W.o40, by rw [ei1]; exact W.nt, by rw [ei1]; exact hx1, SqL.of (x8 _ _ nE0 hE7'), Nat.zero_le _, fun l hl => by cases hl⟩, fun v d' H9 x9 S9 dv lk => ⟨(by show 2 ≤ sizeLine; decide), fun t ht => ⟨vs, (same_new ht _) _ _ (x9 _ _ nD hD8), small1000 (by omega), ?_⟩⟩⟩
    have e9 := same_new ht (.tup [.str z, v])
    have hD9 := e9 _ _ (x9 _ _ nD hD8)
    have x10 : Ext s H7 (upd (upd H9 t (.tup [.str z, v])) D (.lst (vs ++ [.ref t]))) := ((x8.trans x9).trans (Ext.same e9)).over hD _
    have k10 : Keep K (upd H9 t (.tup [.str z, v])) (upd (upd H9 t (.tup [.str z, v])) D (.lst (vs ++ [.ref t]))) := Keep.upd hD9 trivial _
    refine ⟨x10, S7.over (S9.same e9) x10 nD, vs ++ [.ref t], qs ++ [(z, d')], upd_same, ?_, by rw [List.map_append, eqs, List.take_add_one, hz]; rfl, fun q hq => ?_⟩
    · rw [List.map_append]
      exact (k10.dts ((Same.keep e9).dts ((S8.keep x9).dts dt8))).snoc (k10.dt (((Dts.nil.cons ((Same.keep e9).dt dv)).cons (.str z)).tup (SqT.of upd_same)))
    · rcases List.mem_append.mp hq with m | m
      · exact lk8 q m
      · rw [List.mem_singleton.mp m]; exact lk
  rintro H8 ⟨x8, S8, vs, prl, hD8, dt8, eprl, lkl⟩
  rw [List.length_map, List.take_length] at eprl
  refine ⟨D, _, rfl, .inl ⟨SqL.of hD8, fun tl htl => ?_⟩⟩
  have k9 := same_new htl (.tup vs)
  have dl9 : Dt K (upd H8 tl (.tup vs)) (.ref tl) (.tuple (prl.map mkP)) := ((Same.keep (K := K) k9).dts dt8).tup (SqT.of upd_same)
  have x79 : Ext s H7 (upd H8 tl (.tup vs)) := x8.trans (Ext.same k9)
  have S9 := S8.same k9
  have hLA9 := x79 _ _ nLA hLA7
  have hNA9 := x79 _ _ nNA hNA7
  have x09 := x07.trans x79
  generalize (upd H8 tl (.tup vs)) = H9 at dl9 x79 S9 hLA9 hNA9 x09 ⊢
  clear k9 htl dt8 hD8 vs x8 S8 H8 nD hD x79 hLA7 hNA7 S7 x07 hE7' hx1
  try dsimp only [gName]
  -- the letters
  obtain ⟨H10, put10, S10, x10⟩ := S9.put (k := "letters") (v := .ref LA) (i' := { i1 with x := i1.x.setL (.ref LA) }) (fun m => p_letters i1 m _) rfl (by rw [ei1]; exact ⟨iok.s1, iok.s8, iok.p0, iok.p1, iok.t0, iok.t1, iok.k0, iok.k1⟩)
  refine ⟨_, rfl, _, rfl, s, _, rfl, put10, ?_⟩
  have hx2 := setL_x i1.x (.ref LA)
  obtain ⟨i2, ei2⟩ : ∃ i2 : Inf, i2 = { i1 with x := i1.x.setL (.ref LA) } := ⟨_, rfl⟩
  rw [← ei2] at S10
  have dl10 := (S9.keep x10).dt dl9
  have hLA10 := x10 _ _ nLA hLA9
  have hNA10 := x10 _ _ nNA hNA9
  have x010 := x09.trans x10
  clear put10 x10 S9 hLA9 hNA9 x09 dl9 H9
  have W10 : ∀ {H' : Hp}, Ext s H10 H' → IsS K H' s i2 → St2 K H' s i2 LA ls := fun x S => ⟨S, by rw [ei2, ei1]; exact W.o0, by rw [ei2, ei1]; exact W.o40, by rw [ei2, ei1]; exact W.nt, by rw [ei2]; exact hx2, SqL.of (x _ _ nLA hLA10), lls, wls⟩
  try dsimp only [tNext]
  refine ⟨_, rfl, NA, rfl, ⟨_, SqL.of hNA10⟩, fun D hD => ?_⟩
  have nD := S10.ne hD
  refine lc_list (K := K) (a := NA) (xs := ns.map V.str) (fun j H8 => Ext s H10 H8 ∧ IsS K H8 s i2 ∧ ∃ (vs : List V) (qs : List (Str × PyData)), H8 D = some (.lst vs) ∧ Dts K H8 vs (qs.map mkP) ∧ qs.map (·.1) = ns.take j ∧ ∀ q ∈ qs, Lk q.2)
    ⟨Ext.new _ hD, S10.same (same_new hD _), [], [], upd_same, Dts.nil, rfl, fun q hq => by cases hq⟩ (fun j H8 _ h => SqL.of (h.1 _ _ nNA hNA10)) ?_ ?_
  · rintro j x H8 hx ⟨x8, S8, vs, qs, hD8, dt8, eqs, lk8⟩
    rw [List.getElem?_map] at hx
    obtain ⟨z, hz, rfl⟩ := Option.map_eq_some_iff.mp hx
    have jl := (List.getElem?_eq_some_iff.mp hz).1
    have lqs : qs.length = j := by
      have g := congrArg List.length eqs
      rw [List.length_map, List.length_take] at g
      omega
    have lvs : vs.length = j := by rw [dt8.1, List.length_map, lqs]
    refine ⟨rfl, _, rfl, _, rfl, s, i2, LA, ls, rfl, W10 x8 S8, fun v d' H9 x9 S9 dv lk => ⟨(by show 2 ≤ sizeLine; decide), fun t ht => ⟨vs, (same_new ht _) _ _ (x9 _ _ nD hD8), small1000 (by omega), ?_⟩⟩⟩
    have e9 := same_new ht (.tup [.str z, v])
    have hD9 := e9 _ _ (x9 _ _ nD hD8)
    have x10 : Ext s H10 (upd (upd H9 t (.tup [.str z, v])) D (.lst (vs ++ [.ref t]))) := ((x8.trans x9).trans (Ext.same e9)).over hD _
    have k10 : Keep K (upd H9 t (.tup [.str z, v])) (upd (upd H9 t (.tup [.str z, v])) D (.lst (vs ++ [.ref t]))) := Keep.upd hD9 trivial _
    refine ⟨x10, S10.over (S9.same e9) x10 nD, vs ++ [.ref t], qs ++ [(z, d')], upd_same, ?_, by rw [List.map_append, eqs, List.take_add_one, hz]; rfl, fun q hq => ?_⟩
    · rw [List.map_append]
      exact (k10.dts ((Same.keep e9).dts ((S8.keep x9).dts dt8))).snoc (k10.dt (((Dts.nil.cons ((Same.keep e9).dt dv)).cons (.str z)).tup (SqT.of upd_same)))
    · rcases List.mem_append.mp hq with m | m
      · exact lk8 q m
      · rw [List.mem_singleton.mp m]; exact lk
  rintro H8 ⟨x8, S8, vs, prp, hD8, dt8, eprp, lkp⟩
  rw [List.length_map, List.take_length] at eprp
  refine ⟨D, _, rfl, .inl ⟨SqL.of hD8, fun tp htp => ?_⟩⟩
  have k9 := same_new htp (.tup vs)
  have dp9 : Dt K (upd H8 tp (.tup vs)) (.ref tp) (.tuple (prp.map mkP)) := ((Same.keep (K := K) k9).dts dt8).tup (SqT.of upd_same)
  have x79 : Ext s H10 (upd H8 tp (.tup vs)) := x8.trans (Ext.same k9)
  have S9 := S8.same k9
  generalize (upd H8 tp (.tup vs)) = H9 at dp9 x79 S9 ⊢
  clear k9 htp dt8 hD8 vs x8 S8 H8 nD hD
  try dsimp only [gName]
  -- the result
  refine ⟨_, rfl, s, i2, LA, ls, rfl, W10 x79 S9, fun rv res H11 x11 S11 drv lkr => ?_⟩
  have x711 := x79.trans x11
  have dp11 := (S9.keep x11).dt dp9
  clear x79 x11 S9 dp9 H9
  try dsimp only [gName]
  refine ⟨_, rfl, _, rfl, s, i2, k, rfl, S11, k0, k12, fun H12 e12 => ?_⟩
  have S12 := S11.same e12
  have x712 := x711.trans (Ext.same e12)
  have dp12 := (Same.keep (K := K) e12).dt dp11
  have dr12 := (Same.keep (K := K) e12).dt drv
  clear x711 S11 dp11 drv e12 H11
  try dsimp only [gName]
  have if2 : i2.f = i.f := by rw [ei2, ei1]
  have ic2 : i2.c = i.c := by rw [ei2, ei1]
  have io2 : i2.odd = i.odd := by rw [ei2, ei1]
  have it2 : i2.talk = i.talk := by rw [ei2, ei1]
  have iok2 : i2.Ok := by rw [ei2, ei1]; exact ⟨iok.s1, iok.s8, iok.p0, iok.p1, iok.t0, iok.t1, iok.k0, iok.k1⟩
  have x012 := x010.trans x712
  refine seq_with (fun R => ∀ (H13 : Hp) (z : Str) (o8 : Option V), Ext s H12 H13 → IsS K H13 s i2 → (Word z ∧ formTab.lookup z = none ∨ z ∈ (fds.map fun d => (fnOf3 d).1) ∨ z ∈ oddNames) → R [some (.ref s), some (.int k), some (.ref LA), some (.ref NA), some (.ref tl), some (.str z), some (.ref tp), some rv, o8, none, none, none] H13) ?_ (fun rest => ?_)
  rotate_left
  · refine am rfl S12 io2 fun b H13 x13 S13 => ⟨b, rfl, ?_⟩
    cases b with
    | false => exact iteF (rest H13 (titleOf i2 k) none x13 S13 (.inl ⟨title_word iok2 k0 k12, title_form i2 k⟩))
    | true =>
    refine iteT ?_
    obtain ⟨_, m13, hs13, _⟩ := id S13
    have x013 := x012.trans x13
    have hf13 : H13 i2.f = some (.lst us) := by rw [if2]; exact x013 _ _ W.nfs hf
    have hfd13 := (W.S.keep x013).dts hfd
    have nf2 : i2.f ≠ s := by rw [if2]; exact W.nfs
    refine ⟨_, rfl, s, .ref i2.f, rfl, gS hs13 rfl, i2.f, rfl, ⟨_, SqL.of hf13⟩, fun D hD => ?_⟩
    have nD := S13.ne hD
    have lus : us.length = fds.length := hfd.1
    refine lc_list (K := K) (a := i2.f) (xs := us) (fun j H14 => Ext s H13 H14 ∧ IsS K H14 s i2 ∧ H14 D = some (.lst (((fds.map fun d => (fnOf3 d).1).take j).map V.str)))
      ⟨Ext.new _ hD, S13.same (same_new hD _), by rw [upd_same, List.take_zero]; rfl⟩ (fun j H14 _ h => SqL.of (h.1 _ _ nf2 hf13)) ?_ ?_
    · rintro j x H14 hx ⟨x14, S14, h14⟩
      obtain ⟨df, q1, q2⟩ := hfd13.at hx
      have mf := List.mem_of_getElem? q1
      obtain ⟨nms, lof⟩ := LoPs.mem W.ok df mf
      have jl := (List.getElem?_eq_some_iff.mp q1).1
      have f12 := W.f12
      obtain ⟨z, a1, a2, a3, a4, rfl⟩ : ∃ z a b d3 d4, df = .tuple [.str z, .tuple a, .tuple b, d3, d4] := by cases lof; exact ⟨_, _, _, _, _, rfl⟩
      obtain ⟨xa, xs, rfl, hxa, _⟩ := dp_word (Dt.dp q2)
      have x15 : Ext s H13 (upd H14 D (.lst (((fds.map fun d => (fnOf3 d).1).take j).map V.str ++ [.str z]))) := x14.over hD _
      refine ⟨rfl, _, rfl, xa, _, _, .str z, rfl, rfl, (S13.keep x14) _ _ hxa, at_of (j := 0) rfl rfl, _, h14, small1000 (by rw [List.length_map]; exact Nat.le_trans (List.length_take_le' _ _) (by rw [List.length_map]; omega)), x15, S13.over S14 x15 nD, ?_⟩
      rw [upd_same, List.take_add_one, List.getElem?_map, q1, List.map_append]
      rfl
    rintro H14 ⟨x14, S14, h14⟩
    rw [lus, List.take_of_length_le (by rw [List.length_map]; exact Nat.le_refl _)] at h14
    have f12 := W.f12
    refine ⟨97, 9, rfl, rfl, by decide, by decide, (by show 5 ≤ sizeLine; decide), fun L hL => ⟨D, L, _, _, rfl, rfl, (same_new hL _) _ _ h14, upd_same, ?_, fun A hA => ?_⟩⟩
    · rw [List.length_map, List.length_map]
      exact sizeOk (by show fds.length + 5 ≤ _; omega)
    have k15 := same_new hL (.lst [.str "get", .str "total", .str "Ab", .str (reps 97 (9 : Int).toNat), .str "nobook"])
    have k16 := same_new hA (.lst (((fds.map fun d => (fnOf3 d).1).map V.str) ++ [.str "get", .str "total", .str "Ab", .str (reps 97 (9 : Int).toNat), .str "nobook"]))
    have e := Same.trans k15 k16
    have hA16 : (upd (upd H14 L (.lst [.str "get", .str "total", .str "Ab", .str (reps 97 (9 : Int).toNat), .str "nobook"])) A (.lst (((fds.map fun d => (fnOf3 d).1).map V.str) ++ [.str "get", .str "total", .str "Ab", .str (reps 97 (9 : Int).toNat), .str "nobook"]))) A = some (.lst (((fds.map fun d => (fnOf3 d).1) ++ told5).map V.str)) := by
      rw [upd_same, List.map_append]
      rfl
    have S16 := S14.same e
    have nA : A ≠ s := (S14.same k15).ne hA
    have x1316 := x13.trans (x14.trans (Ext.same e))
    generalize (upd (upd H14 L (.lst [.str "get", .str "total", .str "Ab", .str (reps 97 (9 : Int).toNat), .str "nobook"])) A (.lst (((fds.map fun d => (fnOf3 d).1).map V.str) ++ [.str "get", .str "total", .str "Ab", .str (reps 97 (9 : Int).toNat), .str "nobook"]))) = H16 at hA16 S16 x1316 ⊢
    try dsimp only [gName]
    have ltot : ((fds.map fun d => (fnOf3 d).1) ++ told5).length = fds.length + 5 := by rw [List.length_append, List.length_map]; rfl
    refine ⟨_, rfl, _, rfl, _, rfl, A, _, rfl, .inl (SqL.of hA16), s, i2, ((((fds.map fun d => (fnOf3 d).1) ++ told5).map V.str).length : Nat), rfl, S16, by rw [List.length_map]; omega, Nat.lt_of_le_of_lt (show (((((fds.map fun d => (fnOf3 d).1) ++ told5).map V.str).length : Nat) : Int).natAbs ≤ 20 by rw [List.length_map]; omega) (by decide), fun r H17 r0 rl x17 S17 => ?_⟩
    rw [List.length_map] at rl
    have lr : r.toNat < ((fds.map fun d => (fnOf3 d).1) ++ told5).length := by omega
    refine ⟨A, _, r, .str ((fds.map fun d => (fnOf3 d).1) ++ told5)[r.toNat], rfl, rfl, SqL.of (x17 _ _ nA hA16), at_of (j := r.toNat) (by omega) (by rw [List.getElem?_map, List.getElem?_eq_getElem lr]; rfl), rest H17 _ _ (x1316.trans x17) S17 ?_⟩
    rcases List.mem_append.mp (List.getElem_mem lr) with m | m
    · exact .inr (.inl m)
    · rcases told5_ok _ m with g | g
      · exact .inl g
      · exact .inr (.inr g)
  intro H13 z o8 x13 S13 hz
  have dl13 := (S10.keep (x712.trans x13)).dt dl10
  have dp13 := (S12.keep x13).dt dp12
  have dr13 := (S12.keep x13).dt dr12
  have hLA13 := (x712.trans x13) _ _ nLA hLA10
  have hNA13 := (x712.trans x13) _ _ nNA hNA10
  have x013 := x012.trans x13
  clear dl10 dp12 dr12 x712 x010 x012 x13 S12 S10 hLA10 hNA10 W10 H12 H10
  try dsimp only [gName]
  -- nothing is bound yet
  refine ⟨(by show 0 ≤ sizeLine; decide), fun B hB => ?_⟩
  have kB := same_new hB (.lst [])
  have hBn : H B = none := by
    obtain ⟨k1, g1⟩ := W.S.dk
    obtain ⟨k2, g2⟩ := S13.dk
    exact x013.free g1 ⟨_, g2⟩ hB
  have nBs : B ≠ s := W.S.ne hBn
  have nBf : i.f ≠ B := fun z => by rw [← z, hf] at hBn; cases hBn
  have nx : i2.x ≠ .no := by rw [ei2]; exact fun z => by rcases hx2 with h | ⟨b, h⟩ <;> (rw [h] at z; cases z)
  obtain ⟨H14, put14, S14, x14⟩ := (S13.same kB).put (k := "bound") (v := .ref B) (i' := { i2 with x := i2.x.setB (.ref B) }) (fun m => p_bound i2 m _ nx) rfl ⟨iok2.s1, iok2.s8, iok2.p0, iok2.p1, iok2.t0, iok2.t1, iok2.k0, iok2.k1⟩
  refine ⟨_, rfl, s, _, rfl, put14, ?_⟩
  have hx3 : i2.x.setB (.ref B) = .two (.ref LA) (.ref B) := by rw [ei2, ei1]; exact set_two _ _ _ _
  obtain ⟨i3, ei3⟩ : ∃ i3 : Inf, i3 = { i2 with x := i2.x.setB (.ref B) } := ⟨_, rfl⟩
  rw [← ei3] at S14
  have if3 : i3.f = i.f := by rw [ei3]; exact if2
  have ic3 : i3.c = i.c := by rw [ei3]; exact ic2
  have x1314 : Ext s H13 H14 := (Ext.same kB).trans x14
  have x014 := x013.trans x1314
  have hB14 : H14 B = some (.lst []) := x14 _ _ nBs upd_same
  have hLA14 := x1314 _ _ nLA hLA13
  have nLB : LA ≠ B := ne_of_none hLA13 hB
  have nNB : NA ≠ B := ne_of_none hNA13 hB
  have hf14 : H14 i3.f = some (.lst us) := by rw [if3]; exact x014 _ _ W.nfs hf
  have cfB : i3.c ≠ B ∨ ∃ ns : List Int, ns.length ≤ 63 ∧ ∀ H, SqL K H i3.c (ns.map V.int) := by
    obtain ⟨nsx, mx, _, hc, l63, _⟩ := id S13
    rw [ic2, ← ic3] at hc
    rcases hc with (h | ⟨u, h⟩) | h
    · exact .inl fun z => by rw [z, hB] at h; cases h
    · exact .inl fun z => by rw [z, hB] at h; cases h
    · exact .inr ⟨nsx, l63, fun _ => .inr h⟩
  have W14 : St3 K H14 s i3 LA ls B fds [] := ⟨⟨S14, by rw [ei3]; show 0 ≤ i2.odd; rw [io2]; exact W.o0, by rw [ei3]; show i2.odd ≤ 40; rw [io2]; exact W.o40, by rw [ei3]; show i2.talk = 0; rw [it2]; exact W.nt, .inr ⟨.ref B, by rw [ei3]; exact hx3⟩, SqL.of hLA14, lls, wls⟩, by rw [ei3]; exact hx3, hB14, (fun z hz => by cases hz), nLB, by rw [if3]; exact nBf, by rw [if3]; exact W.nfs, nBs, cfB, ⟨us, hf14, (W.S.keep x014).dts hfd⟩, by have := W.f12; omega, W.ok⟩
  have dl14 := (S13.keep x1314).dt dl13
  have dp14 := (S13.keep x1314).dt dp13
  have dr14 := (S13.keep x1314).dt dr13
  have hNA14 := x1314 _ _ nNA hNA13
  clear put14 kB dl13 dp13 dr13 hLA13 hNA13 x1314 x013 x14
  try dsimp only [tNext]
  obtain ⟨_, m14, hs14, _⟩ := id S14
  have f12 := W.f12
  have lus : us.length = fds.length := hfd.1
  refine ⟨_, rfl, s, .ref i3.f, rfl, gS hs14 rfl, .inl ⟨rfl, _, SqL.of hf14⟩, _, rfl, _, rfl, _, rfl, _, rfl, _, rfl, _, rfl, _, rfl, s, i3, 3, rfl, S14, by decide, by decide, fun r H15 r0 r3 x15 S15 => ⟨_, _, rfl, rfl, s, i3, LA, B, NA, ls, ns, [], fds, (1 + r).toNat, ?_, by omega, W14.ext x15 S15, SqL.of (x15 _ _ nNA hNA14), wns, by omega, nNB, by omega, by omega, ?_, fun v p H16 bs' x16 W16 l16 dv lo => ⟨(by show 5 ≤ sizeLine; decide), fun t ht => ?_⟩⟩⟩
  · show ([.ref s, .ref NA, .int (1 + r)] : List V) = _
    rw [Int.toNat_of_nonneg (by omega)]
  · have := Nat.pow_le_pow_right (n := 6) (by decide) (show (1 + r).toNat + 1 ≤ 4 by omega)
    show 0 + _ ≤ _
    omega
  have e17 := same_new ht (.tup [.str z, .ref tl, .ref tp, rv, v])
  have xB : ExtB s B H14 (upd H16 t (.tup [.str z, .ref tl, .ref tp, rv, v])) := ((ExtB.ext x15).trans x16).trans (ExtB.same e17)
  have dt17 : Dt K (upd H16 t (.tup [.str z, .ref tl, .ref tp, rv, v])) (.ref t) (.tuple [.str z, .tuple (prl.map mkP), .tuple (prp.map mkP), res, p]) := (((((Dts.nil.cons ((Same.keep e17).dt dv)).cons ((W14.keep xB).dt dr14)).cons ((W14.keep xB).dt dp14)).cons ((W14.keep xB).dt dl14)).cons (.str z)).tup (SqT.of upd_same)
  have W17 := W16.same e17
  generalize (upd H16 t (.tup [.str z, .ref tl, .ref tp, rv, v])) = H17 at xB dt17 W17 ⊢
  have hf17 : H17 i3.f = some (.lst us) := xB _ _ W14.nfs W14.nfb hf14
  have k18 : Keep K H17 (upd H17 i3.f (.lst (us ++ [.ref t]))) := Keep.upd hf17 trivial _
  refine ⟨i3.f, us, .ref t, rfl, rfl, hf17, small1000 (by omega), ?_⟩
  have lof : LoF ([] ++ fds.map fun d => (fnOf3 d).1) (.tuple [.str z, .tuple (prl.map mkP), .tuple (prp.map mkP), res, p]) := by
    have ll : prl.length = ls.length := by rw [← eprl, List.length_map]
    have lp : prp.length = ns.length := by rw [← eprp, List.length_map]
    rw [List.nil_append]
    refine .mk hz (by omega) (fun q hq => wls _ (by rw [← eprl]; exact List.mem_map_of_mem hq)) lkl (by omega) (fun q hq => wns _ (by rw [← eprp]; exact List.mem_map_of_mem hq)) lkp lkr (lo.mono (fun f hf => hf) (by omega))
  refine q _ i3 (.tuple [.str z, .tuple (prl.map mkP), .tuple (prp.map mkP), res, p]) (fun b o n1 n2 h => ?_) ?_ if3 ic3 (by rw [ei3]; exact io2) (by rw [ei3]; exact it2) ⟨us ++ [.ref t], by rw [if3]; exact upd_same, (k18.dts ((W14.keep xB).dts ((W.S.keep x014).dts hfd))).snoc (k18.dt dt17)⟩ (LoPs.snoc W.ok lof)
  · rw [if3, upd_ne n2]
    have h14 := x014 _ _ n1 h
    exact xB _ _ n1 (fun z => by rw [z, hBn] at h; cases h) h14
  · rw [if3]
    exact W17.W.S.updF ic3 W.nfs W.cf _
end
end Sc
namespace Sc
open PySem PySem.Spec PyProof.Rows L2
/-! ### _law_wrongs_of -/
section
variable {P : Program} {w : World} {K : PySem.W.Frag} {mg : Str → Option Value} {base : Heap}
def spWof (K : PySem.W.Frag) : Sp := fun vs H Q _ => ∃ (ma : Addr) (v : V) (d0 d1 d2 d3 d4 : PyData) (ls : List Str) (es : List PyData) (names : List Str), vs = [.ref ma, v] ∧ MSt K H ma ls es ∧ Dp K H v (.tuple [d0, d1, d2, d3, d4]) ∧ LoF names (.tuple [d0, d1, d2, d3, d4]) ∧
  ∀ (l : Addr) (H' : Hp) (ls' : List Str), Ext ma H H' → MSt K H' ma ls' es → H l = none → H' l = some (.lst ((wrF (es.map fnOf3) d0 d1 d2 d3 d4).map V.str)) → (wrF (es.map fnOf3) d0 d1 d2 d3 d4).length ≤ 1000000 → (∀ ea la : Addr, H ma = some (.dK [(.inr "earlier", .ref ea), (.inr "letters", .ref la)]) → ∃ la' : Addr, H la' = none ∧ H' ma = some (.dK [(.inr "earlier", .ref ea), (.inr "letters", .ref la')]) ∧ SqL K H' la' (ls'.map V.str)) → Q (.ref l) H'
abbrev nWo : List Str := ["_law_m", "_law_function", "_law_letters", "_law_names", "_law_found", "_law_pair", "_law_one", "_law_kind"]
theorem scWo : FnScope nWo ["_law_m", "_law_function"] (defScope sWrongsOf) := ⟨rfl, rfl, rfl, by decide +kernel, rfl, by decide +kernel, by decide +kernel⟩
theorem app_if {D : Ends} {σ : L2.St} {H H0 : Hp} {l : Addr} {cur : List Str} {x : Str} (b : Bool) (hσ : σ[4]? = some (some (.ref l))) (e : Same H0 H) (h0 : H0 l = none) (hl : H l = some (.lst (cur.map V.str))) (sml : cur.length < 1000000)
    (rest : ∀ H', Same H0 H' → H' l = some (.lst ((cur ++ (if b = true then [x] else [])).map V.str)) → D.nx σ H') : if b = true then tDrop (tBM K "list" rAppend (tVar 4) (tCons (tC (.str x)) tNil)) D σ H else tNext D σ H := by
  cases b with
  | false => exact iteF (rest H e (by rw [hl]; show _ = some (HO.lst ((cur ++ []).map V.str)); rw [List.append_nil]))
  | true =>
    refine iteT ⟨_, hσ, .inl ⟨rfl, _, SqL.of hl⟩, l, _, _, rfl, rfl, hl, sizeOk (by rw [List.length_map]; omega), rest _ (fun b o hb => ?_) ?_⟩
    · rw [upd_ne (ne_of_none hb h0)]
      exact e b o hb
    · rw [upd_same, List.map_append]
      rfl
theorem or_both {t u : TT} {σ : L2.St} {H : Hp} {Q : Bool → Hp → Prop} (P : Hp → Prop) (c1 c2 : Bool) (h1 : ∀ R : Bool → Hp → Prop, (∀ H', P H' → R c1 H') → t σ H R) (h2 : ∀ H', P H' → ∀ R : Bool → Hp → Prop, (∀ H2, P H2 → R c2 H2) → u σ H' R) (h : ∀ H', P H' → Q (c1 || c2) H') : tOr t u σ H Q :=
  h1 _ fun H' p => by
    cases c1
    · exact iteF (h2 _ p _ fun H2 p2 => h H2 p2)
    · exact iteT (h H' p)
theorem ndl {zs ys : List Str} {mm : Nat} (nd : ys.Nodup) (mem : ∀ x, x ∈ ys ↔ decide (x ∈ zs) = true) (ln : ys.length = mm) : decide ((mm : Int) < (((zs.map V.str).length : Nat) : Int)) = decide (¬ zs.Nodup) := by
  obtain ⟨nl1, nl2⟩ := nodup_len nd (fun x => (mem x).trans decide_eq_true_iff) ln
  rw [List.length_map]
  exact decide_eq_decide.mpr ⟨fun h => nl1.mp (by omega), fun h => by have := nl1.mpr h; omega⟩
theorem ifP (p : Prop) [Decidable p] {x : Str} : (if p then [x] else []) = (if decide p = true then [x] else []) := by
  by_cases h : p
  · rw [if_pos h, decide_eq_true h, if_pos rfl]
  · rw [if_neg h, decide_eq_false h, if_neg Bool.false_ne_true]
set_option maxHeartbeats 4000000 in
theorem c_wof (T : Tx K mg) : Cal P w K mg base 15 "_law_wrongs_of" ["_law_m", "_law_function"] (spWof K) := by
  have CK : Cal P w K mg base 2 "_law_kind_bad" ["_law_kind", "_law_letters"] (spKbL K) := c_kind_bad T
  have CR : Cal P w K mg base 14 "_law_wrongs" ["_law_m", "_law_part", "_law_known"] (spWr K 6) := c_wrs T 6
  refine T.wrongs_of.ok scWo (fun vs H Q E h => ?_) (fun f cdv A outer s0 H vs Q E hr h => ?_)
  · obtain ⟨ma, v, d0, d1, d2, d3, d4, ls, es, names, rfl, _⟩ := h
    rfl
  have hu := hu_of hr
  have r2 : Room 2 _ := hr.mono (show 2 ≤ 14 by decide)
  refine ⟨_, pss_cons (ps_set (i := 2) scWo.nd rfl (Or.inr rfl) (pe_lc (own := [("_law_pair", 5)]) (g := gName 5) (tt := tYes) rfl scWo.nd (pi_tup (pe_ix ix_tup (pv 1) pe_int (fun _ _ => rfl))) (blkOk_by (N := nWo) (sc := defScope sWrongsOf) (by decide +kernel)) (fun _ _ _ _ _ => pg_name (i := 5) scWo.nd rfl (Or.inl rfl)) (fun _ _ _ _ _ => pts_nil) (fun _ _ _ _ _ => (pe_ix (ix_tupK K) (pv 5) pe_int (fun _ _ => rfl))))) <|
    pss_cons (ps_setLc (i := 3) (own := [("_law_pair", 5)]) (g := gName 5) (tt := tYes) rfl scWo.nd rfl rfl (sw_true rfl rfl rfl (by decide +kernel)) (pi_tup (pe_ix ix_tup (pv 1) pe_int (fun _ _ => rfl))) (blkOk_by (N := nWo) (sc := defScope sWrongsOf) (by decide +kernel)) (fun _ _ _ _ _ => pg_name (i := 5) scWo.nd rfl (Or.inl rfl)) (fun _ _ _ _ _ => pts_nil) (fun _ _ _ _ _ => (pe_ix (ix_tupK K) (pv 5) pe_int (fun _ _ => rfl)))) <|
    pss_cons (ps_dput hu (pv 0) pe_str (pv 2) rfl) <|
    pss_cons (ps_set (i := 4) scWo.nd rfl (Or.inl rfl) (pe_cal CR hr (pa_cons (pv 0) (pa_cons (pe_ix ix_tup (pv 1) pe_int (fun _ _ => rfl)) (pa_cons (pv 3) pa_nil))))) <|
    pss_cons (ps_if (pt_cmpR op_in_seq (pe_ix ix_tup (pv 1) pe_int (fun _ _ => rfl)) (pe_lc (own := [("_law_one", 6)]) (g := gName 6) (tt := tYes) rfl scWo.nd (pi_list (pe_dget hu (pv 0) pe_str (fun _ _ => rfl))) (blkOk_by (N := nWo) (sc := defScope sWrongsOf) (by decide +kernel)) (fun _ _ _ _ _ => pg_name (i := 6) scWo.nd rfl (Or.inl rfl)) (fun _ _ _ _ _ => pts_nil) (fun _ _ _ _ _ => (pe_ix (ix_tupK K) (pv 6) pe_int (fun _ _ => rfl)))) (by rfl)) (pss_one (ps_expr (pe_bm PySem.F.plainAttrs_list PySem.F.slot_list_append PySem.F.type_list_append mt_append (pv 4) (pa_cons pe_str pa_nil)))) pss_nil) <|
    pss_cons (ps_if (PW.pt (pw_or (pt_cmpR op_lt (pe_callB cr_txLen (by rfl) T.m_len PySem.boot_len (pa_cons (pe_callTy (cr_txSetT rfl) (by rfl) T.m_set (by decide +kernel) (pa_cons (pv 2) pa_nil)) pa_nil)) (pe_callB call_len_seq (by rfl) T.m_len PySem.boot_len (pa_cons (pv 2) pa_nil)) (nomark _)) (pw_or1 (pt_cmpR op_lt (pe_callB cr_txLen (by rfl) T.m_len PySem.boot_len (pa_cons (pe_callTy (cr_txSetT rfl) (by rfl) T.m_set (by decide +kernel) (pa_cons (pv 3) pa_nil)) pa_nil)) (pe_callB call_len_seq (by rfl) T.m_len PySem.boot_len (pa_cons (pv 3) pa_nil)) (nomark _))))) (pss_one (ps_expr (pe_bm PySem.F.plainAttrs_list PySem.F.slot_list_append PySem.F.type_list_append mt_append (pv 4) (pa_cons pe_str pa_nil)))) pss_nil) <|
    pss_cons (ps_if (pt_cmpR op_in_seq (pe_ix ix_tup (pv 1) pe_int (fun _ _ => rfl)) (pe_tup (pa_cons pe_str (pa_cons pe_str (pa_cons (pe_op op_reps pe_str pe_int) (pa_cons pe_str pa_nil))))) (by rfl)) (pss_one (ps_expr (pe_bm PySem.F.plainAttrs_list PySem.F.slot_list_append PySem.F.type_list_append mt_append (pv 4) (pa_cons pe_str pa_nil)))) pss_nil) <|
    pss_cons (ps_if (pt_val (pe_callB (cr_any rfl) (by rfl) T.m_any (by decide +kernel) (pa_cons (pe_lc (own := [("_law_pair", 5)]) (g := gName 5) (tt := tYes) rfl scWo.nd (pi_tup (pe_ix ix_tup (pv 1) pe_int (fun _ _ => rfl))) (blkOk_by (N := nWo) (sc := defScope sWrongsOf) (by decide +kernel)) (fun _ _ _ _ _ => pg_name (i := 5) scWo.nd rfl (Or.inl rfl)) (fun _ _ _ _ _ => pts_nil) (fun _ _ _ _ _ => (pe_cal CK r2 (pa_cons (pe_ix (ix_tupK K) (pv 5) pe_int (fun _ _ => rfl)) (pa_cons (pe_lst pa_nil) pa_nil))))) pa_nil))) (pss_one (ps_expr (pe_bm PySem.F.plainAttrs_list PySem.F.slot_list_append PySem.F.type_list_append mt_append (pv 4) (pa_cons pe_str pa_nil)))) pss_nil) <|
    pss_cons (ps_if (pt_val (pe_callB (cr_any rfl) (by rfl) T.m_any (by decide +kernel) (pa_cons (pe_lc (own := [("_law_kind", 7)]) (g := gName 7) (tt := tYes) rfl scWo.nd (pi_list (pe_op op_cat (pe_lc (own := [("_law_pair", 5)]) (g := gName 5) (tt := tYes) rfl scWo.nd (pi_tup (pe_ix ix_tup (pv 1) pe_int (fun _ _ => rfl))) (blkOk_by (N := nWo) (sc := defScope sWrongsOf) (by decide +kernel)) (fun _ _ _ _ _ => pg_name (i := 5) scWo.nd rfl (Or.inl rfl)) (fun _ _ _ _ _ => pts_nil) (fun _ _ _ _ _ => (pe_ix (ix_tupK K) (pv 5) pe_int (fun _ _ => rfl)))) (pe_lst (pa_cons (pe_ix ix_tup (pv 1) pe_int (fun _ _ => rfl)) pa_nil)))) (blkOk_by (N := nWo) (sc := defScope sWrongsOf) (by decide +kernel)) (fun _ _ _ _ _ => pg_name (i := 7) scWo.nd rfl (Or.inl rfl)) (fun _ _ _ _ _ => pts_nil) (fun _ _ _ _ _ => (pe_cal CK r2 (pa_cons (pv 7) (pa_cons (pv 2) pa_nil))))) pa_nil))) (pss_one (ps_expr (pe_bm PySem.F.plainAttrs_list PySem.F.slot_list_append PySem.F.type_list_append mt_append (pv 4) (pa_cons pe_str pa_nil)))) pss_nil) <|
    pss_one (ps_ret (pv 4)), ?_⟩
  obtain ⟨ma, v, d0, d1, d2, d3, d4, ls, es, names, rfl, M, hv, lof, q⟩ := h
  cases lof with
  | @mk z prl prp _ _ hz l4 ll lk pl4 pw pk rk bd =>
  obtain ⟨ea, la, us, hma, hea, hes, hla⟩ := id M.at_
  obtain ⟨pa, fvs, rfl, hp, hfd2⟩ := dp_word hv
  obtain ⟨x1, fvs1, rfl, dx1, fr1⟩ : ∃ x1 r, fvs = x1 :: r ∧ Dp K H x1 (.tuple (prl.map mkP)) ∧ DpAll K H r [.tuple (prp.map mkP), d3, d4] := by
    cases hfd2 with | cons a b => exact ⟨_, _, rfl, a, b⟩
  obtain ⟨x2, fvs2, rfl, dx2, fr2⟩ : ∃ x1 r, fvs1 = x1 :: r ∧ Dp K H x1 (.tuple (prp.map mkP)) ∧ DpAll K H r [d3, d4] := by
    cases fr1 with | cons a b => exact ⟨_, _, rfl, a, b⟩
  obtain ⟨v3, fvs3, rfl, dv3, fr3⟩ : ∃ x1 r, fvs2 = x1 :: r ∧ Dp K H x1 d3 ∧ DpAll K H r [d4] := by
    cases fr2 with | cons a b => exact ⟨_, _, rfl, a, b⟩
  obtain ⟨v4, rfl, dv4⟩ := dps_one fr3
  obtain ⟨a1, vs1, rfl, ha1, ha1d⟩ := dp_tup dx1
  obtain ⟨a2, vs2, rfl, ha2, ha2d⟩ := dp_tup dx2
  have lv1 : vs1.length = prl.length := by rw [DpAll.len ha1d, List.length_map]
  have lv2 : vs2.length = prp.length := by rw [DpAll.len ha2d, List.length_map]
  have r0 := Same.refl H
  refine ⟨_, rfl, pa, _, _, .ref a1, rfl, rfl, Same.tup r0 hp, at_of (j := 1) rfl rfl, a1, rfl, ⟨_, Same.tup r0 ha1⟩, fun LA hLA => ?_⟩
  have nLA0 := hLA
  refine lc_tup (K := K) (a := a1) (xs := vs1) (fun j H1 => Same H H1 ∧ H1 LA = some (.lst (((prl.map (·.1)).take j).map V.str))) ⟨same_new hLA _, upd_same⟩ (fun j H1 _ h => Same.tup h.1 (Same.tup r0 ha1)) ?_ ?_
  · rintro j x H1 hx ⟨e2, h2⟩
    obtain ⟨d', g1, g2⟩ := DpAll.get ha1d hx
    rw [List.getElem?_map] at g1
    obtain ⟨q0, hq0, rfl⟩ := Option.map_eq_some_iff.mp g1
    obtain ⟨xa, xs, rfl, hx1, hx2⟩ := dp_word (show Dp K H x (.tuple [.str q0.1, q0.2]) from g2)
    refine ⟨rfl, _, rfl, xa, _, _, _, rfl, rfl, Same.tup (Same.trans r0 e2) hx1, at_of (j := 0) rfl rfl, _, h2, small1000 (by rw [List.length_map]; exact Nat.le_trans (List.length_take_le' _ _) (by rw [List.length_map]; omega)), fun b o hb => ?_, ?_⟩
    · rw [upd_ne (ne_of_none hb hLA)]
      exact e2 b o hb
    · rw [upd_same, List.take_add_one, List.getElem?_map, hq0, List.map_append]
      rfl
  rintro H1 ⟨e1, hLA⟩
  rw [lv1, List.take_of_length_le (by rw [List.length_map]; exact Nat.le_refl _)] at hLA
  refine ⟨_, rfl, pa, _, _, .ref a2, rfl, rfl, Same.tup e1 hp, at_of (j := 2) rfl rfl, a2, rfl, ⟨_, Same.tup e1 ha2⟩, fun NA hNA => ?_⟩
  refine lc_tup (K := K) (a := a2) (xs := vs2) (fun j H2 => Same H1 H2 ∧ H2 NA = some (.lst (((prp.map (·.1)).take j).map V.str))) ⟨same_new hNA _, upd_same⟩ (fun j H2 _ h => Same.tup h.1 (Same.tup e1 ha2)) ?_ ?_
  · rintro j x H2 hx ⟨e2, h2⟩
    obtain ⟨d', g1, g2⟩ := DpAll.get ha2d hx
    rw [List.getElem?_map] at g1
    obtain ⟨q0, hq0, rfl⟩ := Option.map_eq_some_iff.mp g1
    obtain ⟨xa, xs, rfl, hx1, hx2⟩ := dp_word (show Dp K H x (.tuple [.str q0.1, q0.2]) from g2)
    refine ⟨rfl, _, rfl, xa, _, _, _, rfl, rfl, Same.tup (Same.trans e1 e2) hx1, at_of (j := 0) rfl rfl, _, h2, small1000 (by rw [List.length_map]; exact Nat.le_trans (List.length_take_le' _ _) (by rw [List.length_map]; omega)), fun b o hb => ?_, ?_⟩
    · rw [upd_ne (ne_of_none hb hNA)]
      exact e2 b o hb
    · rw [upd_same, List.take_add_one, List.getElem?_map, hq0, List.map_append]
      rfl
  rintro H2 ⟨e2, hNA⟩
  rw [lv2, List.take_of_length_le (by rw [List.length_map]; exact Nat.le_refl _)] at hNA
  have e02 := Same.trans e1 e2
  have hLA2 := e2 _ _ hLA
  have hma2 := e02 _ _ hma
  refine ⟨_, rfl, _, rfl, ma, _, rfl, DPut.k (k := Sum.inr "letters") hma2 (by show 2 < sizeLine; decide), ?_⟩
  have x3 : Ext ma H (upd H2 ma (.dK [(.inr "earlier", .ref ea), (.inr "letters", .ref LA)])) := (Ext.same e02).trans (Ext.upd ma H2 _)
  have nLA : LA ≠ ma := fun z => by rw [z, hma2] at hLA2; cases hLA2
  have nNA : NA ≠ ma := fun z => by rw [z, hma2] at hNA; cases hNA
  have hma3 : (upd H2 ma (.dK [(.inr "earlier", .ref ea), (.inr "letters", .ref LA)])) ma = some (.dK [(.inr "earlier", .ref ea), (.inr "letters", .ref LA)]) := upd_same
  have hLA3 : (upd H2 ma (.dK [(.inr "earlier", .ref ea), (.inr "letters", .ref LA)])) LA = some (.lst ((prl.map (·.1)).map V.str)) := by rw [upd_ne nLA]; exact hLA2
  have hNA3 : (upd H2 ma (.dK [(.inr "earlier", .ref ea), (.inr "letters", .ref LA)])) NA = some (.lst ((prp.map (·.1)).map V.str)) := by rw [upd_ne nNA]; exact hNA
  show tSeq _ _ _ _ (upd H2 ma (.dK [(.inr "earlier", .ref ea), (.inr "letters", .ref LA)]))
  generalize (upd H2 ma (.dK [(.inr "earlier", .ref ea), (.inr "letters", .ref LA)])) = H3 at x3 hma3 hLA3 hNA3 ⊢
  have kl3 : KeepL K H H3 := ⟨fun a xs h => x3.seq hma h, x3.keep hma⟩
  have M3 : MSt K H3 ma (prl.map (·.1)) es := ⟨⟨ea, LA, us, hma3, kl3.1 _ _ hea, KeepL.dps kl3 hes, SqL.of hLA3⟩, M.fns, M.few⟩
  have hp3 := kl3.2 _ _ hp
  have dv43 := KeepL.dp kl3 dv4
  have dv33 := KeepL.dp kl3 dv3
  have ha13 := kl3.2 _ _ ha1
  have ha23 := kl3.2 _ _ ha2
  have ha1d3 := KeepL.dps kl3 ha1d
  have ha2d3 := KeepL.dps kl3 ha2d
  have hea3 := kl3.1 _ _ hea
  have hes3 := KeepL.dps kl3 hes
  clear hLA2 hma2 hNA hLA e1 e2 e02 hp dv4 dv3 ha1 ha2 ha1d ha2d hea hes dx1 dx2 hv hfd2 fr1 fr2 fr3
  refine ⟨_, rfl, _, rfl, pa, _, _, v4, rfl, rfl, hp3, at_of (j := 4) rfl rfl, _, rfl, ma, NA, v4, d4, prl.map (·.1), prp.map (·.1), es, _, 12, rfl, M3, dv43, bd, by decide, SqL.of hNA3, by rw [List.length_map]; omega, by decide, fun l H4 e4 hl0 hl => ?_⟩
  have wl := wr_len (ls := prl.map (·.1)) (fs := es.map fnOf3) (ns := prp.map (·.1)) bd (m := 12) (by decide)
  have w6 : 10 * 6 ^ 6 = 466560 := by decide
  try dsimp only [gName]
  have eW : wrF (es.map fnOf3) (.str z) (.tuple (prl.map mkP)) (.tuple (prp.map mkP)) d3 d4 = wrP 12 (prl.map (·.1)) (es.map fnOf3) (prp.map (·.1)) d4 ++ (if decide (z ∈ (es.map fnOf3).map (·.1)) = true then lT else []) ++ (if (decide (¬ (prl.map (·.1)).Nodup) || decide (¬ (prp.map (·.1)).Nodup)) = true then lT else []) ++ (if decide (z ∈ oddNames) = true then lP else []) ++ (if (prl.map (·.2)).any (fun k => !gK [] 9 k) = true then lK else []) ++ (if (prp.map (·.2) ++ [d3]).any (fun k => !gK (prl.map (·.1)) 9 k) = true then lK else []) := by
    unfold wrF
    rw [leads_of, leads_of, sndsD_of, sndsD_of]
    show _ ++ (if z ∈ (es.map fnOf3).map (·.1) then lT else []) ++ (if ¬ (prl.map (·.1)).Nodup ∨ ¬ (prp.map (·.1)).Nodup then lT else []) ++ (if z ∈ oddNames then lP else []) ++ _ ++ _ = _
    have b1 : (if z ∈ (es.map fnOf3).map (·.1) then lT else []) = (if decide (z ∈ (es.map fnOf3).map (·.1)) = true then lT else []) := ifP _
    have b2 : (if ¬ (prl.map (·.1)).Nodup ∨ ¬ (prp.map (·.1)).Nodup then lT else []) = (if (decide (¬ (prl.map (·.1)).Nodup) || decide (¬ (prp.map (·.1)).Nodup)) = true then lT else []) := by
      exact (ifP _).trans (by rw [Bool.decide_or]; rfl)
    have b3 : (if z ∈ oddNames then lP else []) = (if decide (z ∈ oddNames) = true then lP else []) := ifP _
    rw [b1, b2, b3]
  rw [eW] at q
  generalize wrP 12 (prl.map (·.1)) (es.map fnOf3) (prp.map (·.1)) d4 = w0 at hl wl q
  have one : ∀ (b : Bool) (x : Str), (if b = true then [x] else []).length ≤ 1 := fun b x => by cases b <;> simp
  have lw0 : w0.length ≤ 466560 := by omega
  refine seq_with (fun R => ∀ H', Same H3 H' → H' l = some (.lst ((w0 ++ (if decide (z ∈ (es.map fnOf3).map (·.1)) = true then lT else [])).map V.str)) → R [some (.ref ma), some (.ref pa), some (.ref LA), some (.ref NA), some (.ref l), none, none, none] H') ?_ (fun rest => ?_)
  rotate_left
  · refine ⟨_, rfl, pa, _, _, .str z, rfl, rfl, Same.tup e4 hp3, at_of (j := 0) rfl rfl, _, rfl, ma, .ref ea, rfl, (show DGet H4 ma (.str "earlier") (some (.ref ea)) from DGet.k (k := Sum.inr "earlier") (e4 _ _ hma3)), ea, rfl, ⟨_, Same.seq e4 hea3⟩, fun D hD => ?_⟩
    have lue : us.length = es.length := DpAll.len hes3
    have few := M.few
    refine lc_list (K := K) (a := ea) (xs := us) (fun j H5 => Same H4 H5 ∧ H5 D = some (.lst ((((es.map fnOf3).map (·.1)).take j).map V.str))) ⟨same_new hD _, upd_same⟩ (fun j H5 _ h => Same.seq h.1 (Same.seq e4 hea3)) ?_ ?_
    · rintro j x H5 hx ⟨e5, h5⟩
      obtain ⟨d', g1, g2⟩ := DpAll.get hes3 hx
      obtain ⟨z', b1, b2, b3, b4, rfl⟩ := M.fns d' (List.mem_of_getElem? g1)
      obtain ⟨xa, xs, rfl, hx1, hx2⟩ := dp_word g2
      refine ⟨rfl, _, rfl, xa, _, _, .str z', rfl, rfl, Same.tup (Same.trans e4 e5) hx1, at_of (j := 0) rfl rfl, _, h5, small1000 (by rw [List.length_map]; exact Nat.le_trans (List.length_take_le' _ _) (by rw [List.length_map, List.length_map]; omega)), fun b o hb => ?_, ?_⟩
      · rw [upd_ne (ne_of_none hb hD)]
        exact e5 b o hb
      · rw [upd_same, List.take_add_one, List.getElem?_map, List.getElem?_map, g1, List.map_append]
        rfl
    rintro H5 ⟨e5, h5⟩
    rw [lue, List.take_of_length_le (by rw [List.length_map, List.length_map]; exact Nat.le_refl _)] at h5
    refine ⟨D, _, rfl, .inl (SqL.of h5), rfl, flat_strs _, _, rfl, ?_⟩
    rw [in_strs]
    exact app_if _ rfl (Same.trans e4 e5) hl0 (e5 _ _ hl) (by omega) rest
  clear hl
  intro H4 e4 hl
  have lwa := one (decide (z ∈ (es.map fnOf3).map (·.1))) "twice"
  obtain ⟨w1, ew1⟩ : ∃ w1, w1 = w0 ++ (if decide (z ∈ (es.map fnOf3).map (·.1)) = true then lT else []) := ⟨_, rfl⟩
  have lw1 : w1.length ≤ 466560 + 1 := by
    rw [ew1, List.length_append]
    exact Nat.le_trans (Nat.add_le_add lw0 lwa) (by omega)
  rw [← ew1] at hl q
  refine seq_with (fun R => ∀ H', Same H3 H' → H' l = some (.lst ((w1 ++ (if (decide (¬ (prl.map (·.1)).Nodup) || decide (¬ (prp.map (·.1)).Nodup)) = true then lT else [])).map V.str)) → R [some (.ref ma), some (.ref pa), some (.ref LA), some (.ref NA), some (.ref l), none, none, none] H') ?_ (fun rest => ?_)
  rotate_left
  · show tOr _ _ _ _ _
    refine or_both (fun H' => Same H4 H') (decide (¬ (prl.map (·.1)).Nodup)) (decide (¬ (prp.map (·.1)).Nodup)) (fun R h => by
        have p5 := Same.refl H4
        exact ⟨_, rfl, LA, prl.map (·.1), rfl, .inl (SqL.of (p5 _ _ (e4 _ _ hLA3))), by rw [List.length_map]; omega, fun u mm hu hm => ⟨u, _, mm, rfl, upd_same, fun ys nd mem ln => ⟨_, rfl, LA, _, rfl, .inl (SqL.of ((same_new hu _) _ _ (p5 _ _ (e4 _ _ hLA3)))), _, _, rfl, rfl, _, rfl, by rw [ndl nd mem ln]; exact h _ (Same.trans p5 (same_new hu _))⟩⟩⟩) (fun H5 p5 R h => ⟨_, rfl, NA, prp.map (·.1), rfl, .inl (SqL.of (p5 _ _ (e4 _ _ hNA3))), by rw [List.length_map]; omega, fun u mm hu hm => ⟨u, _, mm, rfl, upd_same, fun ys nd mem ln => ⟨_, rfl, NA, _, rfl, .inl (SqL.of ((same_new hu _) _ _ (p5 _ _ (e4 _ _ hNA3)))), _, _, rfl, rfl, _, rfl, by rw [ndl nd mem ln]; exact h _ (Same.trans p5 (same_new hu _))⟩⟩⟩) (fun H5 p5 => ?_)
    exact app_if _ rfl (Same.trans e4 p5) hl0 (p5 _ _ hl) (by omega) rest
  clear hl
  intro H4 e4 hl
  have lq1 := one ((decide (¬ (prl.map (·.1)).Nodup) || decide (¬ (prp.map (·.1)).Nodup))) "twice"
  obtain ⟨w2, ew2⟩ : ∃ w2, w2 = w1 ++ (if (decide (¬ (prl.map (·.1)).Nodup) || decide (¬ (prp.map (·.1)).Nodup)) = true then lT else []) := ⟨_, rfl⟩
  have lw2 : w2.length ≤ 466560 + 2 := by
    rw [ew2, List.length_append]
    exact Nat.le_trans (Nat.add_le_add lw1 lq1) (by omega)
  rw [← ew2] at hl q
  refine seq_with (fun R => ∀ H', Same H3 H' → H' l = some (.lst ((w2 ++ (if decide (z ∈ oddNames) = true then lP else [])).map V.str)) → R [some (.ref ma), some (.ref pa), some (.ref LA), some (.ref NA), some (.ref l), none, none, none] H') ?_ (fun rest => ?_)
  rotate_left
  · refine ⟨_, rfl, pa, _, _, .str z, rfl, rfl, Same.tup e4 hp3, at_of (j := 0) rfl rfl, 97, 9, rfl, rfl, by decide, by decide, (by show 4 ≤ sizeLine; decide), fun t ht => ⟨t, _, rfl, .inr (SqT.of upd_same), rfl, rfl, _, rfl, ?_⟩⟩
    have ei : inV (.str z) [.str "get", .str "Ab", .str (reps 97 (9 : Int).toNat), .str "nobook"] = decide (z ∈ oddNames) := in_strs z oddNames
    rw [ei]
    exact app_if _ rfl (Same.trans e4 (same_new ht _)) hl0 ((same_new ht _) _ _ hl) (by omega) rest
  clear hl
  intro H4 e4 hl
  have lq2 := one (decide (z ∈ oddNames)) "program"
  obtain ⟨w3, ew3⟩ : ∃ w3, w3 = w2 ++ (if decide (z ∈ oddNames) = true then lP else []) := ⟨_, rfl⟩
  have lw3 : w3.length ≤ 466560 + 3 := by
    rw [ew3, List.length_append]
    exact Nat.le_trans (Nat.add_le_add lw2 lq2) (by omega)
  rw [← ew3] at hl q
  refine seq_with (fun R => ∀ H', Same H3 H' → H' l = some (.lst ((w3 ++ (if (prl.map (·.2)).any (fun k => !gK [] 9 k) = true then lK else [])).map V.str)) → R [some (.ref ma), some (.ref pa), some (.ref LA), some (.ref NA), some (.ref l), none, none, none] H') ?_ (fun rest => ?_)
  rotate_left
  · refine ⟨_, rfl, pa, _, _, .ref a1, rfl, rfl, Same.tup e4 hp3, at_of (j := 1) rfl rfl, a1, rfl, ⟨_, Same.tup e4 ha13⟩, fun D hD => ?_⟩
    refine lc_tup (K := K) (a := a1) (xs := vs1) (fun j H5 => Same H4 H5 ∧ H5 D = some (.lst ((((prl.map (·.2)).take j).map (fun k => !gK [] 9 k)).map V.bl))) ⟨same_new hD _, upd_same⟩ (fun j H5 _ h => Same.tup h.1 (Same.tup e4 ha13)) ?_ ?_
    · rintro j x H5 hx ⟨e5, h5⟩
      obtain ⟨d', g1, g2⟩ := DpAll.get ha1d3 hx
      rw [List.getElem?_map] at g1
      obtain ⟨q0, hq0, rfl⟩ := Option.map_eq_some_iff.mp g1
      obtain ⟨xa, xs, rfl, hx1, hx2⟩ := dp_word (show Dp K H3 x (.tuple [.str q0.1, q0.2]) from g2)
      obtain ⟨xv, rfl, dxv⟩ := dps_one hx2
      have e45 := Same.trans e4 e5
      refine ⟨rfl, _, rfl, xa, _, _, xv, rfl, rfl, Same.tup e45 hx1, at_of (j := 1) rfl rfl, (by show 0 ≤ sizeLine; decide), fun E hE => ⟨xv, q0.2, E, [], rfl, KeepL.dp (Same.keepL (Same.trans e45 (same_new hE _))) dxv, lk q0 (List.mem_of_getElem? hq0), SqL.of upd_same, fun H6 e6 => ⟨_, e6 _ _ ((same_new hE _) _ _ h5), small1000 (by rw [List.length_map, List.length_map]; exact Nat.le_trans (List.length_take_le' _ _) (by rw [List.length_map]; omega)), fun b o hb => ?_, ?_⟩⟩⟩
      · rw [upd_ne (ne_of_none hb hD)]
        exact e6 _ _ ((same_new hE _) _ _ (e5 b o hb))
      · rw [upd_same, List.take_add_one, List.getElem?_map, hq0, List.map_append, List.map_append]
        rfl
    rintro H5 ⟨e5, h5⟩
    rw [lv1, List.take_of_length_le (by rw [List.length_map]; exact Nat.le_refl _)] at h5
    refine ⟨D, _, rfl, SqL.of h5, _, rfl, ?_⟩
    have ea : (((prl.map (·.2)).map (fun k => !gK [] 9 k)).any id) = (prl.map (·.2)).any (fun k => !gK [] 9 k) := by
      rw [List.any_map]
      rfl
    rw [ea]
    exact app_if _ rfl (Same.trans e4 e5) hl0 (e5 _ _ hl) (by omega) rest
  clear hl
  intro H4 e4 hl
  have lq3 := one ((prl.map (·.2)).any (fun k => !gK [] 9 k)) "kind"
  obtain ⟨w4, ew4⟩ : ∃ w4, w4 = w3 ++ (if (prl.map (·.2)).any (fun k => !gK [] 9 k) = true then lK else []) := ⟨_, rfl⟩
  have lw4 : w4.length ≤ 466560 + 4 := by
    rw [ew4, List.length_append]
    exact Nat.le_trans (Nat.add_le_add lw3 lq3) (by omega)
  rw [← ew4] at hl q
  refine seq_with (fun R => ∀ H', Same H3 H' → H' l = some (.lst ((w4 ++ (if (prp.map (·.2) ++ [d3]).any (fun k => !gK (prl.map (·.1)) 9 k) = true then lK else [])).map V.str)) → R [some (.ref ma), some (.ref pa), some (.ref LA), some (.ref NA), some (.ref l), none, none, none] H') ?_ (fun rest => ?_)
  rotate_left
  · refine ⟨_, rfl, pa, _, _, .ref a2, rfl, rfl, Same.tup e4 hp3, at_of (j := 2) rfl rfl, a2, rfl, ⟨_, Same.tup e4 ha23⟩, fun D hD => ?_⟩
    refine lc_tup (K := K) (a := a2) (xs := vs2) (fun j H5 => Same H4 H5 ∧ ∃ kvs, H5 D = some (.lst kvs) ∧ DpAll K H3 kvs ((prp.map (·.2)).take j)) ⟨same_new hD _, [], upd_same, .nil⟩ (fun j H5 _ h => Same.tup h.1 (Same.tup e4 ha23)) ?_ ?_
    · rintro j x H5 hx ⟨e5, kvs, h5, dk⟩
      obtain ⟨d', g1, g2⟩ := DpAll.get ha2d3 hx
      rw [List.getElem?_map] at g1
      obtain ⟨q0, hq0, rfl⟩ := Option.map_eq_some_iff.mp g1
      obtain ⟨xa, xs, rfl, hx1, hx2⟩ := dp_word (show Dp K H3 x (.tuple [.str q0.1, q0.2]) from g2)
      obtain ⟨xv, rfl, dxv⟩ := dps_one hx2
      have lk0 : kvs.length ≤ 4 := by
        rw [DpAll.len dk]
        exact Nat.le_trans (List.length_take_le' _ _) (by rw [List.length_map]; omega)
      refine ⟨rfl, _, rfl, xa, _, _, xv, rfl, rfl, Same.tup (Same.trans e4 e5) hx1, at_of (j := 1) rfl rfl, kvs, h5, small1000 (by omega), fun b o hb => ?_, kvs ++ [xv], upd_same, ?_⟩
      · rw [upd_ne (ne_of_none hb hD)]
        exact e5 b o hb
      · rw [List.take_add_one, List.getElem?_map, hq0]
        exact DpAll.app dk (.cons dxv .nil)
    rintro H5 ⟨e5, kvs, h5, dk⟩
    rw [lv2, List.take_of_length_le (by rw [List.length_map]; exact Nat.le_refl _)] at dk
    have lk0 : kvs.length = prp.length := by rw [DpAll.len dk, List.length_map]
    have e45 := Same.trans e4 e5
    refine ⟨_, rfl, pa, _, _, v3, rfl, rfl, Same.tup e45 hp3, at_of (j := 3) rfl rfl, (by show 1 ≤ sizeLine; decide), fun G hG => ⟨D, G, _, _, rfl, rfl, (same_new hG _) _ _ h5, upd_same, sizeOk (by show kvs.length + 1 ≤ _; omega), fun A hA => ?_⟩⟩
    have e6 := Same.trans (same_new hG (.lst [v3])) (same_new hA (.lst (kvs ++ [v3])))
    have hA6 : (upd (upd H5 G (.lst [v3])) A (.lst (kvs ++ [v3]))) A = some (.lst (kvs ++ [v3])) := upd_same
    have e46 := Same.trans e45 e6
    have dka : DpAll K H3 (kvs ++ [v3]) (prp.map (·.2) ++ [d3]) := DpAll.app dk (.cons dv33 .nil)
    have hl6 := e6 _ _ (e5 _ _ hl)
    generalize (upd (upd H5 G (.lst [v3])) A (.lst (kvs ++ [v3]))) = H6 at hA6 e46 hl6 ⊢
    refine ⟨A, rfl, ⟨_, SqL.of hA6⟩, fun D2 hD2 => ?_⟩
    have lka : (kvs ++ [v3]).length = (prp.map (·.2) ++ [d3]).length := DpAll.len dka
    refine lc_list (K := K) (a := A) (xs := kvs ++ [v3]) (fun j H7 => Same H6 H7 ∧ H7 D2 = some (.lst ((((prp.map (·.2) ++ [d3]).take j).map (fun k => !gK (prl.map (·.1)) 9 k)).map V.bl))) ⟨same_new hD2 _, upd_same⟩ (fun j H7 _ h => Same.seq h.1 (SqL.of hA6)) ?_ ?_
    · rintro j x H7 hx ⟨e7, h7⟩
      obtain ⟨d', g1, g2⟩ := DpAll.get dka hx
      have lkd : Lk d' := by
        rcases List.mem_append.mp (List.mem_of_getElem? g1) with m | m
        · obtain ⟨q0, hq0, rfl⟩ := List.mem_map.mp m
          exact pk q0 hq0
        · rw [List.mem_singleton.mp m]; exact rk
      refine ⟨rfl, _, rfl, _, rfl, x, d', LA, prl.map (·.1), rfl, KeepL.dp (Same.keepL (Same.trans e46 e7)) g2, lkd, SqL.of (e7 _ _ (e46 _ _ hLA3)), fun H8 e8 => ⟨_, e8 _ _ h7, small1000 (by rw [List.length_map, List.length_map]; exact Nat.le_trans (List.length_take_le' _ _) (by rw [List.length_append, List.length_map]; show _ + 1 ≤ _; omega)), fun b o hb => ?_, ?_⟩⟩
      · rw [upd_ne (ne_of_none hb hD2)]
        exact e8 _ _ (e7 b o hb)
      · rw [upd_same, List.take_add_one, g1, List.map_append, List.map_append]
        rfl
    rintro H7 ⟨e7, h7⟩
    rw [lka, List.take_length] at h7
    refine ⟨D2, _, rfl, SqL.of h7, _, rfl, ?_⟩
    have ea : (((prp.map (·.2) ++ [d3]).map (fun k => !gK (prl.map (·.1)) 9 k)).any id) = (prp.map (·.2) ++ [d3]).any (fun k => !gK (prl.map (·.1)) 9 k) := by
      rw [List.any_map]
      rfl
    rw [ea]
    exact app_if _ rfl (Same.trans e46 e7) hl0 (e7 _ _ hl6) (by omega) rest
  clear hl
  intro H4 e4 hl
  have lq4 := one ((prp.map (·.2) ++ [d3]).any (fun k => !gK (prl.map (·.1)) 9 k)) "kind"
  obtain ⟨w5, ew5⟩ : ∃ w5, w5 = w4 ++ (if (prp.map (·.2) ++ [d3]).any (fun k => !gK (prl.map (·.1)) 9 k) = true then lK else []) := ⟨_, rfl⟩
  have lw5 : w5.length ≤ 466560 + 5 := by
    rw [ew5, List.length_append]
    exact Nat.le_trans (Nat.add_le_add lw4 lq4) (by omega)
  rw [← ew5] at hl q
  exact ⟨_, rfl, q l H4 (prl.map (·.1)) (x3.trans (Ext.same e4)) (M3.same e4) (by
    cases h : H l with
    | none => rfl
    | some o =>
      by_cases z0 : l = ma
      · rw [z0, hma3] at hl0
        cases hl0
      · rw [x3 _ _ z0 h] at hl0
        cases hl0) hl (by omega) (fun ea2 la2 h2 => by
    rw [hma] at h2
    injection h2 with h2
    injection h2 with h2
    injection h2 with h2 _
    injection h2 with _ h2
    injection h2 with h2
    subst h2
    exact ⟨LA, nLA0, e4 _ _ hma3, SqL.of (e4 _ _ hLA3)⟩)⟩
end
end Sc
namespace Sc
open PySem PySem.Spec PyProof.Rows L2
def txT : PyData → Prop := fun _ => True
theorem txs_true : ∀ (n : Nat) (d : PyData), txs txT n d
  | 0, _ => trivial
  | n + 1, d => fun w fm ts _ j s t _ _ => ⟨fun _ => trivial, fun _ => txs_true n t, fun ds _ => ⟨fun _ x _ => txs_true n x, fun _ f p _ => txs_true n p⟩⟩
theorem wrAll_app : ∀ (ds : List PyData) (fs : List (Str × Nat × Nat)) (d0 d1 d2 d3 d4 : PyData), (∀ d ∈ ds, ∃ e0 e1 e2 e3 e4, d = .tuple [e0, e1, e2, e3, e4]) → wrAll fs (ds ++ [.tuple [d0, d1, d2, d3, d4]]) = wrAll fs ds ++ wrF (fs ++ ds.map fnOf3) d0 d1 d2 d3 d4
  | [], fs, d0, d1, d2, d3, d4, _ => by
    show wrF fs d0 d1 d2 d3 d4 ++ wrAll _ [] = [] ++ wrF (fs ++ []) d0 d1 d2 d3 d4
    rw [List.append_nil, List.nil_append]
    show _ ++ [] = _
    rw [List.append_nil]
  | d :: ds, fs, d0, d1, d2, d3, d4, h => by
    obtain ⟨e0, e1, e2, e3, e4, rfl⟩ := h d List.mem_cons_self
    show wrF fs e0 e1 e2 e3 e4 ++ wrAll (fs ++ [fnOf3 (.tuple [e0, e1, e2, e3, e4])]) (ds ++ [_]) = (wrF fs e0 e1 e2 e3 e4 ++ wrAll (fs ++ [fnOf3 (.tuple [e0, e1, e2, e3, e4])]) ds) ++ _
    rw [wrAll_app ds _ d0 d1 d2 d3 d4 fun d hd => h d (List.mem_cons_of_mem _ hd), List.append_assoc, List.append_assoc]
    rfl
theorem ref_name : ∀ e : Wr, refW (some e) = nmW e := by intro e; cases e <;> rfl
section
variable {P : Program} {w : World} {K : PySem.W.Frag} {mg : Str → Option Value} {base : Heap}
theorem Tb.extF {T0 : List Addr} {H H' : Hp} {s f : Addr} {kvs : List (Key × V)} {us : List V} (t : Tb T0 H) (hs : H s = some (.dK kvs)) (hf : H f = some (.lst us)) (x : ExtF s f H H') : Tb T0 H' := fun P hP => by
  obtain ⟨ps, e, g⟩ := t P hP
  exact ⟨ps, x _ _ (fun z => by rw [z, hs] at e; cases e) (fun z => by rw [z, hf] at e; cases e) e, g⟩
def spLaw (K : PySem.W.Frag) (T0 : List Addr) : Sp := fun vs H Q _ => ∃ (a : Addr) (ns : List Int), vs = [.ref a] ∧ SqL K H a (ns.map V.int) ∧ ns.length ≤ 63 ∧ Tb T0 H ∧ ∀ H', Q (.bl true) H'
abbrev nLaw : List Str := ["_law_script", "_law_s", "_law_k", "_law_m", "_law_dues", "_law_function", "_law_found"]
theorem scLaw : FnScope nLaw ["_law_script"] (defScope sLaw) := ⟨rfl, rfl, rfl, by decide +kernel, rfl, by decide +kernel, by decide +kernel⟩
theorem p_odd (i : Inf) (m : Mv) (n : Int) : putK (stD i m) (.inr "odd") (.int n) = stD { i with odd := n } m := by obtain ⟨_, _, _, _, _, _, _, x⟩ := i; cases x <;> rfl
set_option maxHeartbeats 4000000 in
theorem ok_law {T0 : List Addr} {f : Addr} {fd : FuncData} (F : Fun K "law" "law" sLaw f fd) (T : Tx K mg) (CRf : Cal P w K mg base 87 "_law_refusal" ["_law_program"] (spRefP K T0 txT)) : FnOk P w K mg base CX0 88 f fd ["_law_script"] (spLaw K T0) := by
  have CG : Cal P w K mg base 2 "_law_begin" ["_law_script"] (spBegun K) := c_begin T
  have CT : Cal P w K mg base 1 "_law_taken" ["_law_s", "_law_most"] (spTaken K) := c_taken T
  have CF : Cal P w K mg base 17 "_law_loose_function" ["_law_s", "_law_k"] (spLfn K) := c_lfn T
  have CO : Cal P w K mg base 15 "_law_wrongs_of" ["_law_m", "_law_function"] (spWof K) := c_wof T
  refine F.ok scLaw (fun vs H Q E h => ?_) (fun cdv A outer s0 H vs Q E hr h => ?_)
  · obtain ⟨a, ns, rfl, _⟩ := h
    rfl
  obtain ⟨a, ns, rfl, ha, hl, tb, q⟩ := h
  have hu := hu_of hr
  have r1 : Room 1 _ := hr.mono (show 1 ≤ 87 by decide)
  have r2 : Room 2 _ := hr.mono (show 2 ≤ 87 by decide)
  have r17 : Room 17 _ := hr.mono (show 17 ≤ 87 by decide)
  have r15 : Room 15 _ := hr.mono (show 15 ≤ 87 by decide)
  refine ⟨_, pss_cons (ps_set (i := 1) scLaw.nd rfl (Or.inl rfl) (pe_cal CG r2 (pa_cons (pv 0) pa_nil))) <|
    pss_cons (ps_dput hu (pv 1) pe_str pe_int rfl) <|
    pss_cons (ps_dput hu (pv 1) pe_str (pe_ix ix_list (pe_lst (pa_cons pe_int (pa_cons pe_int (pa_cons pe_int (pa_cons pe_int pa_nil))))) (pe_cal CT r1 (pa_cons (pv 1) (pa_cons pe_int pa_nil))) (fun _ _ => rfl)) rfl) <|
    pss_cons (ps_for PassesOwn.never rfl (pi_range1 rfl T.m_range (pa_cons (pe_op op_add pe_int (pe_cal CT r1 (pa_cons (pv 1) (pa_cons pe_int pa_nil)))) pa_nil)) (pg_name (i := 2) scLaw.nd rfl (Or.inl rfl)) (pss_one (ps_expr (pe_cal CF r17 (pa_cons (pv 1) (pa_cons (pv 2) pa_nil)))))) <|
    pss_cons (ps_set (i := 3) scLaw.nd rfl (Or.inl rfl) (pe_disp (pps_cons pe_str (pe_lst pa_nil) (pps_cons pe_str (pe_lst pa_nil) pps_nil)) (by rfl) (by rfl) (fun z => by cases z) (by decide))) <|
    pss_cons (ps_set (i := 4) scLaw.nd rfl (Or.inl rfl) (pe_lst pa_nil)) <|
    pss_cons (ps_for PassesOwn.never rfl (pi_list (pe_dget hu (pv 1) pe_str (fun _ _ => rfl))) (pg_name (i := 5) scLaw.nd rfl (Or.inl rfl))
      (pss_cons (ps_expr (pe_bm PySem.F.plainAttrs_list PySem.F.slot_list_extend PySem.F.type_list_extend mt_extend (pv 4) (pa_cons (pe_cal CO r15 (pa_cons (pv 3) (pa_cons (pv 5) pa_nil))) pa_nil))) <|
       pss_one (ps_expr (pe_bm PySem.F.plainAttrs_list PySem.F.slot_list_append PySem.F.type_list_append mt_append (pe_dget hu (pv 3) pe_str (fun _ _ => rfl)) (pa_cons (pv 5) pa_nil))))) <|
    pss_cons (ps_set (i := 6) scLaw.nd rfl (Or.inl rfl) (pe_cal CRf hr (pa_cons (pe_callTy call_list_of (by rfl) T.m_list (by decide +kernel) (pa_cons (pe_dget hu (pv 1) pe_str (fun _ _ => rfl)) pa_nil)) pa_nil))) <|
    pss_one (ps_ret (pe_ifExp (pt_cmpR op_gt (pe_callB call_len_seq (by rfl) T.m_len PySem.boot_len (pa_cons (pv 4) pa_nil)) pe_int (nomark _)) (pe_cmpR op_in_seq (pv 6) (pv 4) (by rfl)) (pe_cmpR op_eq (pv 6) pe_str (nomark _)))), ?_⟩
  refine ⟨_, rfl, a, ns, rfl, ha, hl, fun s i0 H1 e1 hs ic io hf0 hf1 S1 => ?_⟩
  have tb1 := (Fr.same tb e1).tab
  try dsimp only [gName]
  obtain ⟨ns1, mv, hs1, hc1, hl1, iok0, mok⟩ := id S1
  have nfs : i0.f ≠ s := fun z => by rw [z, hs1] at hf0; cases hf0
  have cf0 : i0.c ≠ i0.f ∨ ∃ ns : List Int, ns.length ≤ 63 ∧ ∀ H, SqL K H i0.c (ns.map V.int) := by
    rw [ic]
    rcases ha with (h | ⟨u, h⟩) | h
    · exact .inl fun z => by rw [z, hf1] at h; cases h
    · exact .inl fun z => by rw [z, hf1] at h; cases h
    · exact .inr ⟨ns, hl, fun _ => .inr h⟩
  obtain ⟨H2, put2, S2, x2⟩ := S1.put (k := "talk") (v := .int 0) (i' := { i0 with talk := 0 }) (fun m => p_talk i0 m _) rfl ⟨iok0.s1, iok0.s8, iok0.p0, iok0.p1, iok0.t0, iok0.t1, by show (0 : Int) ≤ 0; decide, by show (0 : Int) ≤ 1; decide⟩
  refine ⟨_, rfl, s, _, rfl, put2, ?_⟩
  try dsimp only [tNext]
  refine ⟨(by show 4 ≤ sizeLine; decide), fun D hD => ⟨_, rfl, s, _, 4, rfl, S2.same (same_new hD _), by decide, by decide, fun r H3 r0 r4 x3 S3 => ?_⟩⟩
  obtain ⟨n, hn, n0, n40⟩ : ∃ n : Int, ([.int 0, .int 40, .int 15, .int 5] : List V)[r.toNat]? = some (.int n) ∧ 0 ≤ n ∧ n ≤ 40 := by
    have : r = 0 ∨ r = 1 ∨ r = 2 ∨ r = 3 := by omega
    rcases this with h | h | h | h <;> rw [h]
    · exact ⟨0, rfl, by decide, by decide⟩
    · exact ⟨40, rfl, by decide, by decide⟩
    · exact ⟨15, rfl, by decide, by decide⟩
    · exact ⟨5, rfl, by decide, by decide⟩
  have hD3 := x3 _ _ (S2.ne hD) upd_same
  obtain ⟨H4, put4, S4, x4⟩ := S3.put (k := "odd") (v := .int n) (i' := { i0 with talk := 0, odd := n }) (fun m => p_odd _ m _) rfl ⟨iok0.s1, iok0.s8, iok0.p0, iok0.p1, iok0.t0, iok0.t1, by show (0 : Int) ≤ 0; decide, by show (0 : Int) ≤ 1; decide⟩
  refine ⟨D, _, r, .int n, rfl, rfl, SqL.of hD3, at_of (j := r.toNat) (by omega) hn, _, rfl, s, _, rfl, put4, ?_⟩
  try dsimp only [tNext]
  have x14 : Ext s H1 H4 := x2.trans ((Ext.same (same_new hD _)).trans (x3.trans x4))
  have tb4 := tb1.ext S1 x14
  have hf4 := x14 _ _ nfs hf0
  obtain ⟨i, ei⟩ : ∃ i : Inf, i = { i0 with talk := 0, odd := n } := ⟨_, rfl⟩
  have if0 : i.f = i0.f := by rw [ei]
  have ic0 : i.c = i0.c := by rw [ei]
  rw [← ei] at S4
  have W4 : StF K H4 s i [] := ⟨S4, by rw [ei]; exact n0, by rw [ei]; exact n40, by rw [ei], by rw [if0]; exact nfs, by rw [ic0, if0]; exact cf0, ⟨[], by rw [if0]; exact hf4, Dts.nil⟩, .nil _, by decide⟩
  clear put4 S3 x3 hD3 x2 x4 put2 S2 hD
  -- the functions
  refine ⟨_, rfl, s, i, 4, rfl, S4, by decide, by decide, fun m H5 m0 m4 x5 S5 => ⟨_, _, rfl, rfl, _, rfl, by omega, by omega, ?_⟩⟩
  obtain ⟨us5, hf5, hfd5⟩ := W4.fn
  have W5 : StF K H5 s i [] := ⟨S5, W4.o0, W4.o40, W4.nt, W4.nfs, W4.cf, ⟨us5, x5 _ _ W4.nfs hf5, (S4.keep x5).dts hfd5⟩, .nil _, by decide⟩
  have tb5 := tb4.ext S4 x5
  refine for_range (lo := 0) (n := (1 + m).toNat) (fun j σ H6 => Tb T0 H6 ∧ ∃ i' fds o, StF K H6 s i' fds ∧ fds.length = j ∧ σ = [some (.ref a), some (.ref s), o, none, none, none, none])
    ⟨tb5, i, [], none, W5, rfl, rfl⟩ ?_ ?_
  · rintro j σ H6 hj ⟨tb6, i', fds, o, W6, lf, rfl⟩
    obtain ⟨us6, hf6, hfd6⟩ := W6.fn
    obtain ⟨kvs6, hk6⟩ := W6.S.dk
    refine ⟨_, rfl, _, rfl, s, i', 0 + (j : Int), fds, rfl, W6, by omega, by omega, fun H7 i7 d x7 S7 f7 c7 o7 t7 fn7 lp7 => ⟨tb6.extF hk6 hf6 x7, i7, fds ++ [d], _, ⟨S7, by rw [o7]; exact W6.o0, by rw [o7]; exact W6.o40, by rw [t7]; exact W6.nt, by rw [f7]; exact W6.nfs, by rw [c7, f7]; exact W6.cf, by rw [f7]; exact fn7, lp7, by rw [List.length_append]; show fds.length + 1 ≤ 11; omega⟩, by rw [List.length_append, lf]; rfl, rfl⟩⟩
  rintro σ H6 ⟨tb6, i', ds, o, W6, lf, rfl⟩
  clear tb5 W5 hf5 hfd5 us5 tb4 W4 hf4 x14 S4 tb1 S1 hs1 hc1 mok hs hf0 hf1 e1 x5 S5
  obtain ⟨us, hf6, hfd6⟩ := W6.fn
  obtain ⟨_, m6, hs6, _⟩ := id W6.S
  have lus : us.length = ds.length := hfd6.1
  have ld4 : ds.length ≤ 4 := by omega
  have fives : ∀ d ∈ ds, ∃ z a b d3 d4, d = .tuple [.str z, .tuple a, .tuple b, d3, d4] := fun d hd => by
    obtain ⟨nms, lof⟩ := LoPs.mem W6.ok d hd
    cases lof
    exact ⟨_, _, _, _, _, rfl⟩
  try dsimp only [gName]
  have okp := W6.ok
  have nfs6 := W6.nfs
  -- what is kept while wrongs are looked for
  refine fun M hM => ⟨(by show 0 ≤ sizeLine; decide), fun ea hea => ⟨(by show 0 ≤ sizeLine; decide), fun la hla => ⟨?_, [(.inr "earlier", .ref ea), (.inr "letters", .ref la)], rfl, (by show 2 ≤ 15; decide), ?_⟩⟩⟩
  · exact (Same.trans (same_new hea _) (same_new hla _)) _ _ upd_same
  have mk : mergeK [] [((.inr "earlier" : Key), V.ref ea), (.inr "letters", .ref la)] = [(.inr "earlier", .ref ea), (.inr "letters", .ref la)] := by kernel_rfl
  rw [mk]
  have nMe : M ≠ ea := ne_of_none upd_same hea
  have nMl : M ≠ la := ne_of_none ((same_new hea (.lst [])) _ _ (upd_same (H := H6) (a := M) (o := .dK []))) hla
  have nel : ea ≠ la := ne_of_none (upd_same (H := upd H6 M (.dK [])) (a := ea) (o := .lst [])) hla
  have e7 : Same H6 (upd (upd (upd (upd H6 M (.dK [])) ea (.lst [])) la (.lst [])) M (.dK [(.inr "earlier", .ref ea), (.inr "letters", .ref la)])) := fun b o h => by
    rw [upd_ne (ne_of_none h hM)]
    exact (Same.trans (same_new hM _) (Same.trans (same_new hea _) (same_new hla _))) _ _ h
  have hM7 : (upd (upd (upd (upd H6 M (.dK [])) ea (.lst [])) la (.lst [])) M (.dK [(.inr "earlier", .ref ea), (.inr "letters", .ref la)])) M = some (.dK [(.inr "earlier", .ref ea), (.inr "letters", .ref la)]) := upd_same
  have he7 : (upd (upd (upd (upd H6 M (.dK [])) ea (.lst [])) la (.lst [])) M (.dK [(.inr "earlier", .ref ea), (.inr "letters", .ref la)])) ea = some (.lst []) := by rw [upd_ne nMe.symm, upd_ne nel, upd_same]
  have hl7 : (upd (upd (upd (upd H6 M (.dK [])) ea (.lst [])) la (.lst [])) M (.dK [(.inr "earlier", .ref ea), (.inr "letters", .ref la)])) la = some (.lst []) := by rw [upd_ne nMl.symm, upd_same]
  have nMs : M ≠ s := fun z => by rw [z, hs6] at hM; cases hM
  have nMf : M ≠ i'.f := fun z => by rw [z, hf6] at hM; cases hM
  have nes : ea ≠ s := fun z => by rw [z, (same_new hM _) _ _ hs6] at hea; cases hea
  have nef : ea ≠ i'.f := fun z => by rw [z, (same_new hM _) _ _ hf6] at hea; cases hea
  generalize (upd (upd (upd (upd H6 M (.dK [])) ea (.lst [])) la (.lst [])) M (.dK [(.inr "earlier", .ref ea), (.inr "letters", .ref la)])) = H7 at e7 hM7 he7 hl7 ⊢
  try dsimp only [gName]
  refine ⟨(by show 0 ≤ sizeLine; decide), fun D hD => ?_⟩
  try dsimp only [gName]
  have k8 := same_new hD (.lst [])
  have e8 := Same.trans e7 k8
  have nDM : D ≠ M := fun z => by rw [z, hM7] at hD; cases hD
  have nDe : D ≠ ea := fun z => by rw [z, he7] at hD; cases hD
  have nDs : D ≠ s := fun z => by rw [z, e7 _ _ hs6] at hD; cases hD
  have nDf : D ≠ i'.f := fun z => by rw [z, e7 _ _ hf6] at hD; cases hD
  have hM8 := k8 _ _ hM7
  have he8 := k8 _ _ he7
  have hl8 := k8 _ _ hl7
  have hD8 : (upd H7 D (.lst [])) D = some (.lst []) := upd_same
  have hs8 := e8 _ _ hs6
  have hf8 := e8 _ _ hf6
  have hfd8 := (Same.keep (K := K) e8).dts hfd6
  have tb8 := (Fr.same tb6 e8).tab
  generalize (upd H7 D (.lst [])) = H8 at hM8 he8 hl8 hD8 hs8 hf8 hfd8 tb8 ⊢
  clear e7 hM7 he7 hl7 k8 e8 hD hla hea hM hfd6 hf6 hs6 tb6 W6 nMl nel
  refine ⟨_, rfl, s, .ref i'.f, rfl, gS hs8 rfl, i'.f, rfl, ⟨_, SqL.of hf8⟩, ?_⟩
  refine for_list (K := K) (a := i'.f) (xs := us) (fun j σ H9 => Tb T0 H9 ∧ H9 s = some (.dK (stD i' m6)) ∧ H9 i'.f = some (.lst us) ∧ Dts K H9 us ds ∧ (∃ (la : Addr) (ls : List Str), H9 M = some (.dK [(.inr "earlier", .ref ea), (.inr "letters", .ref la)]) ∧ SqL K H9 la (ls.map V.str)) ∧ H9 ea = some (.lst (us.take j)) ∧
      H9 D = some (.lst ((wrAll [] (ds.take j)).map V.str)) ∧ (wrAll [] (ds.take j)).length ≤ j * 1000000 ∧ ∃ o5, σ = [some (.ref a), some (.ref s), o, some (.ref M), some (.ref D), o5, none])
    ⟨tb8, hs8, hf8, hfd8, ⟨la, [], hM8, SqL.of hl8⟩, he8, hD8, Nat.zero_le _, _, rfl⟩ (fun j σ H9 _ h => SqL.of h.2.2.1) ?_ ?_
  · rintro j x σ H9 hx ⟨tb9, hs9, hf9, hfd9, ⟨la9, ls9, hM9, hl9⟩, he9, hD9, l9, o5, rfl⟩
    obtain ⟨d, g1, g2⟩ := hfd9.at hx
    have md := List.mem_of_getElem? g1
    have jl := (List.getElem?_eq_some_iff.mp g1).1
    obtain ⟨nms, lof⟩ := LoPs.mem okp d md
    obtain ⟨z, b1, b2, d3, d4, rfl⟩ := fives d md
    have M9 : MSt K H9 M ls9 (ds.take j) := ⟨⟨ea, la9, us.take j, hM9, SqL.of he9, dpAll_of (by rw [List.length_take, List.length_take, lus]) fun n v d h1 h2 => ?_, hl9⟩, fun d hd => fives d (List.mem_of_mem_take hd), Nat.le_trans (List.length_take_le' _ _) (by omega)⟩
    rotate_left
    · rw [List.getElem?_take] at h1 h2
      split at h1
      · rename_i lt
        rw [if_pos lt] at h2
        exact Dt.dp (hfd9.2 n v d h1 h2)
      · cases h1
    try dsimp only [gName]
    refine ⟨_, rfl, .inl ⟨rfl, _, SqL.of hD9⟩, _, rfl, _, rfl, M, x, .str z, .tuple b1, .tuple b2, d3, d4, ls9, ds.take j, nms, rfl, M9, Dt.dp g2, lof, fun l H10 ls' x10 M10 hl0 hl ll hk => ?_⟩
    obtain ⟨la10, nla10, hM10, hl10⟩ := hk ea la9 hM9
    have nlD : la10 ≠ D := fun z => by rw [z, hD9] at nla10; cases nla10
    have nle : la10 ≠ ea := fun z => by rw [z, he9] at nla10; cases nla10
    have hD10 := x10 _ _ nDM hD9
    have he10 := x10 _ _ nMe.symm he9
    have hs10 := x10 _ _ nMs.symm hs9
    have hf10 := x10 _ _ nMf.symm hf9
    have kp10 : Keep K H9 H10 := x10.keep hM9
    have tb10 : Tb T0 H10 := fun P hP => by
      obtain ⟨ps, e, g⟩ := tb9 P hP
      exact ⟨ps, x10 _ _ (fun z => by rw [z, hM9] at e; cases e) e, g⟩
    have nDl : D ≠ l := fun z => by rw [← z, hD9] at hl0; cases hl0
    have sL : sizeLine = 16777216 := by decide
    refine ⟨D, l, _, _, rfl, rfl, hD10, hl, by rw [List.length_map, List.length_map]; omega, ?_⟩
    have eD : wrAll [] (ds.take (j + 1)) = wrAll [] (ds.take j) ++ wrF ((ds.take j).map fnOf3) (.str z) (.tuple b1) (.tuple b2) d3 d4 := by
      rw [List.take_add_one, g1]
      have := wrAll_app (ds.take j) [] (.str z) (.tuple b1) (.tuple b2) d3 d4 fun d hd => by
        obtain ⟨_, _, _, _, _, rfl⟩ := fives d (List.mem_of_mem_take hd)
        exact ⟨_, _, _, _, _, rfl⟩
      rw [List.nil_append] at this
      exact this
    have hD11 : (upd H10 D (.lst ((wrAll [] (ds.take j)).map V.str ++ (wrF ((ds.take j).map fnOf3) (.str z) (.tuple b1) (.tuple b2) d3 d4).map V.str))) D = some (.lst ((wrAll [] (ds.take (j + 1))).map V.str)) := by rw [upd_same, eD, List.map_append]
    have k11 : Keep K H10 (upd H10 D (.lst ((wrAll [] (ds.take j)).map V.str ++ (wrF ((ds.take j).map fnOf3) (.str z) (.tuple b1) (.tuple b2) d3 d4).map V.str))) := Keep.upd hD10 trivial _
    have he11 := (upd_ne (H := H10) (o := .lst ((wrAll [] (ds.take j)).map V.str ++ (wrF ((ds.take j).map fnOf3) (.str z) (.tuple b1) (.tuple b2) d3 d4).map V.str)) nDe.symm).trans he10
    have hM11 := (upd_ne (H := H10) (o := .lst ((wrAll [] (ds.take j)).map V.str ++ (wrF ((ds.take j).map fnOf3) (.str z) (.tuple b1) (.tuple b2) d3 d4).map V.str)) nDM.symm).trans hM10
    have hs11 := (upd_ne (H := H10) (o := .lst ((wrAll [] (ds.take j)).map V.str ++ (wrF ((ds.take j).map fnOf3) (.str z) (.tuple b1) (.tuple b2) d3 d4).map V.str)) nDs.symm).trans hs10
    have hf11 := (upd_ne (H := H10) (o := .lst ((wrAll [] (ds.take j)).map V.str ++ (wrF ((ds.take j).map fnOf3) (.str z) (.tuple b1) (.tuple b2) d3 d4).map V.str)) nDf.symm).trans hf10
    have tb11 : Tb T0 (upd H10 D (.lst ((wrAll [] (ds.take j)).map V.str ++ (wrF ((ds.take j).map fnOf3) (.str z) (.tuple b1) (.tuple b2) d3 d4).map V.str))) := fun P hP => by
      obtain ⟨ps, e, g⟩ := tb10 P hP
      exact ⟨ps, by rw [upd_ne fun z => by rw [z, hD10] at e; cases e]; exact e, g⟩
    have hl11 : SqL K (upd H10 D (.lst ((wrAll [] (ds.take j)).map V.str ++ (wrF ((ds.take j).map fnOf3) (.str z) (.tuple b1) (.tuple b2) d3 d4).map V.str))) la10 (ls'.map V.str) := by
      rcases hl10 with (h | ⟨u, h⟩) | h
      · exact .inl (.inl (by rw [upd_ne nlD]; exact h))
      · exact .inl (.inr ⟨u, by rw [upd_ne nlD]; exact h⟩)
      · exact .inr h
    generalize (upd H10 D (.lst ((wrAll [] (ds.take j)).map V.str ++ (wrF ((ds.take j).map fnOf3) (.str z) (.tuple b1) (.tuple b2) d3 d4).map V.str))) = H11 at hD11 hl11 k11 he11 hM11 hs11 hf11 tb11 ⊢
    try dsimp only [tNext]
    refine ⟨_, rfl, M, .ref ea, rfl, (show DGet H11 M (.str "earlier") (some (.ref ea)) from DGet.k (k := Sum.inr "earlier") hM11), .inl ⟨rfl, _, SqL.of he11⟩, _, rfl, ea, _, _, rfl, rfl, he11, small1000 (Nat.le_trans (List.length_take_le' _ _) (by omega)), ?_⟩
    have k12 : Keep K H11 (upd H11 ea (.lst (us.take j ++ [x]))) := Keep.upd he11 trivial _
    refine ⟨fun P hP => ?_, by rw [upd_ne nes.symm]; exact hs11, by rw [upd_ne nef.symm]; exact hf11, k12.dts (k11.dts (kp10.dts hfd9)), ⟨la10, ls', by rw [upd_ne nMe]; exact hM11, ?_⟩, by rw [upd_same, List.take_add_one, hx]; rfl, by rw [upd_ne nDe]; exact hD11, ?_, _, rfl⟩
    · obtain ⟨ps, e, g⟩ := tb11 P hP
      exact ⟨ps, by rw [upd_ne fun z => by rw [z, he11] at e; cases e]; exact e, g⟩
    · rcases hl11 with (h | ⟨u, h⟩) | h
      · exact .inl (.inl (by rw [upd_ne nle]; exact h))
      · exact .inl (.inr ⟨u, by rw [upd_ne nle]; exact h⟩)
      · exact .inr h
    · rw [eD, List.length_append, Nat.succ_mul]
      omega
  rintro σ H9 ⟨tb9, hs9, hf9, hfd9, _, _, hD9, l9, o5, rfl⟩
  rw [lus, List.take_length] at hD9 l9
  try dsimp only [gName]
  refine ⟨_, rfl, s, .ref i'.f, rfl, gS hs9 rfl, i'.f, us, rfl, .inl (SqL.of hf9), fun l hl => ?_⟩
  have e10 := same_new hl (.lst us)
  have hl10 : (upd H9 l (.lst us)) l = some (.lst us) := upd_same
  have hD10 := e10 _ _ hD9
  have hfd10 := (Same.keep (K := K) e10).dts hfd9
  have tb10 := (Fr.same tb9 e10).tab
  generalize (upd H9 l (.lst us)) = H10 at hl10 hD10 hfd10 tb10 ⊢
  have oks := lops_okN (fun z hz => by cases hz) okp
  refine ⟨l, us, ds, rfl, SqL.of hl10, dpAll_of hfd10.1 fun j v d q1 q2 => Dt.dp (hfd10.2 j v d q1 q2), by omega, fun d hd => ⟨(oks d hd).2.ok (by decide), ?_⟩, tb10, fun H11 f11 => ?_⟩
  · obtain ⟨z, b1, b2, d3, d4, rfl⟩ := fives d hd
    exact ⟨_, _, _, _, _, rfl, txs_true _ _⟩
  have hD11 : SqL K H11 D ((wrAll [] ds).map V.str) := (Fr.keep (K := K) tb10 f11).1 _ _ (SqL.of hD10)
  try dsimp only [gName]
  have rel := rel_prog (ds := ds) (fs := []) ⟨List.nodup_nil, fun q hq => by cases hq⟩ okp
  refine ⟨_, rfl, D, _, rfl, .inl hD11, _, _, rfl, rfl, _, rfl, ?_⟩
  cases hg : gProg [] ds with
  | none =>
    rw [hg] at rel
    have e0 : wrAll [] ds = [] := rel
    refine iteNo (by rw [e0]; decide) ⟨_, rfl, rfl, ?_⟩
    have : decide (V.str (refW none) = V.str "good") = true := by decide +kernel
    rw [this]
    exact q _
  | some e =>
    rw [hg] at rel
    have me : nmW e ∈ wrAll [] ds := rel
    have l0 : 0 < (wrAll [] ds).length := List.length_pos_of_mem me
    refine iteYes (decide_eq_true (by rw [List.length_map]; omega)) ⟨_, rfl, _, rfl, D, _, rfl, .inl hD11, rfl, flat_strs _, ?_⟩
    have : inV (.str (refW (some e))) ((wrAll [] ds).map V.str) = true := by
      rw [in_strs, ref_name]
      exact decide_eq_true me
    show Q (.bl (inV (.str (refW (some e))) ((wrAll [] ds).map V.str))) H11
    rw [this]
    exact q _
end
end Sc
namespace Sc
open PySem PySem.Spec PyProof.Rows L2
theorem walkT {l : PySem.W.OpenLaw} {q : Program} {loose : List Str} {XP : (Str → Option Value) → Heap → Prop} {YP : World → Heap → Prop} {d : DefRec} {K : Params → PySem.W.Frag} (hn : l.most = some 63) (hdf : d.params.defaults = [])
    (hY : ∀ (w : World) (h : Heap), YP w h → (K w.params).In h)
    (F : ∀ (w : World) (mg mb : Str → Option Value) (lo : List Str) (mean : ExcName → Option Value) (fa : Addr) (h : Heap), (K w.params).In h → Top q lo mean mg mb h → mg d.name = some (.ref fa) → LamX.LawAtS l w (K w.params) CX0 88 63 "_law_script" mg fa h) :
    PySem.W.WalkO q loose XP YP l.row.toRowW d [] (fun f vs => PySem.call f vs) := by
  refine Att.attach_callB hn hdf fun w s₀ s₁ mg mb fa o pm cd doc a vs ns G Y ho hd hcd hmg hobj hints hlen hbits hg => ?_
  have KX := hY w _ Y
  obtain ⟨fd, cs, sp, hT, nT, C, hb, hsp, hF⟩ := F w mg mb _ _ fa _ KX G.T hmg
  exact LamX.law_callTs KX G.T.g G.T.b G.T.builtins G.T.nolimit hg hT nT C G.T.bmain hobj hints (Nat.le_trans hlen (by decide)) ⟨rfl, by decide, by decide⟩ hF hb (fun H hH hS => hsp H a ns hlen hbits hH hS) fun H e s' => fun z => z
def clsOf (a b c d : Addr) : Wr → Addr
  | .bk => a
  | .bp => b
  | .nn => c
  | .tt => d
theorem law_endT {l : PySem.W.OpenLaw} {w : World} {K : PySem.W.Frag} {h : Heap} {q : Program} {lo : List Str} {mean : ExcName → Option Value} {mg mb : Str → Option Value} {fa f c1 P1 c2 P2 c3 P3 CS Ck Cp Cn Ct C f1 FA NA : Addr} (X : K.In h) (TT : Top q lo mean mg mb h) (hfa : mg "law" = some (.ref fa)) (T : Tx K mg)
    (D1 : DefT K mg "has_word_signs" sHasWordSigns ["text"] c1) (t1 : PySem.W.tabIn K "has_word_signs" = some (c1, P1)) (r1 : ((recsOf q).find? (fun e => e.name == ("has_word_signs" : Str))).isSome = true) (n1 : K.lookup P1 = none)
    (D2 : DefT K mg "is_letter" sIsLetter ["thing"] c2) (t2 : PySem.W.tabIn K "is_letter" = some (c2, P2)) (r2 : ((recsOf q).find? (fun e => e.name == ("is_letter" : Str))).isSome = true) (n2 : K.lookup P2 = none)
    (D3 : DefT K mg "_need_text" sPNeedText ["told", "place"] c3) (t3 : PySem.W.tabIn K "_need_text" = some (c3, P3)) (r3 : ((recsOf q).find? (fun e => e.name == ("_need_text" : Str))).isSome = true) (n3 : K.lookup P3 = none)
    (gS : mg "SoothError" = some (.ref CS)) (Ek : Ec K mg "BadKind" Ck) (Ep : Ec K mg "BadProgram" Cp) (En : Ec K mg "NoName" Cn) (Et : Ec K mg "TwiceTold" Ct)
    (xm_bk : PySem.W.exmOne K (.ref Ck) (.ref CS) = some true) (xm_bp : PySem.W.exmOne K (.ref Cp) (.ref CS) = some true) (xm_nn : PySem.W.exmOne K (.ref Cn) (.ref CS) = some true) (xm_tt : PySem.W.exmOne K (.ref Ct) (.ref CS) = some true) (xc_bk : ExcC K Ck) (xc_bp : ExcC K Cp) (xc_nn : ExcC K Cn) (xc_tt : ExcC K Ct) (kv_bk : PySem.W.kitOne K (.ref Ck) (.type "ValueError") = some true) (kv_bp : PySem.W.kitOne K (.ref Cp) (.type "ValueError") = some true) (kv_nn : PySem.W.kitOne K (.ref Cn) (.type "ValueError") = some true) (kv_tt : PySem.W.kitOne K (.ref Ct) (.type "ValueError") = some true)
    (kt_bkbk : PySem.W.kitOne K (.ref Ck) (.ref Ck) = some true) (kt_bkbp : PySem.W.kitOne K (.ref Ck) (.ref Cp) = some false) (kt_bknn : PySem.W.kitOne K (.ref Ck) (.ref Cn) = some false) (kt_bktt : PySem.W.kitOne K (.ref Ck) (.ref Ct) = some false) (kt_bpbk : PySem.W.kitOne K (.ref Cp) (.ref Ck) = some false) (kt_bpbp : PySem.W.kitOne K (.ref Cp) (.ref Cp) = some true) (kt_bpnn : PySem.W.kitOne K (.ref Cp) (.ref Cn) = some false) (kt_bptt : PySem.W.kitOne K (.ref Cp) (.ref Ct) = some false) (kt_nnbk : PySem.W.kitOne K (.ref Cn) (.ref Ck) = some false) (kt_nnbp : PySem.W.kitOne K (.ref Cn) (.ref Cp) = some true) (kt_nnnn : PySem.W.kitOne K (.ref Cn) (.ref Cn) = some true) (kt_nntt : PySem.W.kitOne K (.ref Cn) (.ref Ct) = some false) (kt_ttbk : PySem.W.kitOne K (.ref Ct) (.ref Ck) = some false) (kt_ttbp : PySem.W.kitOne K (.ref Ct) (.ref Cp) = some true) (kt_ttnn : PySem.W.kitOne K (.ref Ct) (.ref Cn) = some false) (kt_tttt : PySem.W.kitOne K (.ref Ct) (.ref Ct) = some true)
    {od1 an1 : Option Addr} {sl1 : Array (Option Value)} {oc1 kV1 dc1 pm1 cd1 ct1 : Value} (gC : mg "Place" = some (.ref C))
    (a1 : PySem.W.findIn K (.ref C) "__init__" = some (some (.ref f1))) (i1 : PySem.W.isFn K (.ref f1) = true) (l1 : K.lookup f1 = some ⟨oc1, od1, .func (PySem.W.fnOf "__init__" "Place.__init__" (defArgs sPlaceInit) (defBody sPlaceInit) (defScope sPlaceInit) .none kV1 dc1 pm1 an1 cd1 ct1), sl1⟩) (cc1 : PySem.W.codeIn K cd1 "Place.__init__" = true) (k1 : PySem.W.keepIn K (.ref f1) = true)
    (pg : PySem.W.plainGet K C Str.empty = true) (hd : PySem.W.hasDictIn K C = true) (po : PySem.W.plainOver K C = true) (sa : PySem.W.findIn K (.ref C) "__setattr__" = some (some (.builtin "object.__setattr__"))) (mk : PySem.W.makesIn K C = true) (kc : PySem.W.keepIn K (.ref C) = true)
    (nA : PySem.W.findIn K (.ref C) "letters" = some none) (nB : PySem.W.findIn K (.ref C) "functions" = some none) (nC : PySem.W.findIn K (.ref C) "names" = some none) (nD : PySem.W.findIn K (.ref C) "room" = some none)
    (F : FT K w mg FA) (N : NT K w mg NA) (g8 : ∃ t, mg "LONGEST_WORD" = some (.int 8 t)) (d8 : ∃ t, mg "DEEPEST_KIND" = some (.int 8 t)) (m12 : ∃ t, mg "MOST_FUNCTIONS" = some (.int 12 t)) (b12 : ∃ t, mg "DEEPEST_BODY" = some (.int 12 t)) (b37 : ∃ t, mg "BARRED_SIGN" = some (.int 37 t))
    {oc : Value} {od an : Option Addr} {osl : Array (Option Value)} {kVl doc pm cdv ct : Value}
    (a : PySem.W.nsIn K mainGlobals "law" = some (some (.ref f))) (lk : K.lookup f = some ⟨oc, od, .func (PySem.W.fnOf "law" "law" (defArgs sLaw) (defBody sLaw) (defScope sLaw) .none kVl doc pm an cdv ct), osl⟩) (c : PySem.W.codeIn K cdv "law" = true) (k : PySem.W.keepIn K (.ref f) = true) :
    LamX.LawAtS l w K CX0 88 63 "_law_script" mg fa h := by
  have e := hfa.symm.trans (PySem.W.mg_of X TT.g a)
  cases e
  obtain ⟨d1, e1⟩ := Option.isSome_iff_exists.mp r1
  obtain ⟨h1, g1⟩ := PySem.W.tab_of TT X e1 t1
  obtain ⟨d2, e2⟩ := Option.isSome_iff_exists.mp r2
  obtain ⟨h2, g2⟩ := PySem.W.tab_of TT X e2 t2
  obtain ⟨d3, e3⟩ := Option.isSome_iff_exists.mp r3
  obtain ⟨h3, g3⟩ := PySem.W.tab_of TT X e3 t3
  have ER : Er4 K mg CS (clsOf Ck Cp Cn Ct) := ⟨⟨Ek, Ep, En, Et⟩, gS, fun | .bk => xm_bk | .bp => xm_bp | .nn => xm_nn | .tt => xm_tt, fun | .bk => xc_bk | .bp => xc_bp | .nn => xc_nn | .tt => xc_tt, fun | .bk => kv_bk | .bp => kv_bp | .nn => kv_nn | .tt => kv_tt,
    fun | .bk, .bk => kt_bkbk | .bk, .bp => kt_bkbp | .bk, .nn => kt_bknn | .bk, .tt => kt_bktt | .bp, .bk => kt_bpbk | .bp, .bp => kt_bpbp | .bp, .nn => kt_bpnn | .bp, .tt => kt_bptt | .nn, .bk => kt_nnbk | .nn, .bp => kt_nnbp | .nn, .nn => kt_nnnn | .nn, .tt => kt_nntt | .tt, .bk => kt_ttbk | .tt, .bp => kt_ttbp | .tt, .nn => kt_ttnn | .tt, .tt => kt_tttt⟩
  refine ⟨PySem.W.fnOf "law" "law" (defArgs sLaw) (defBody sLaw) (defScope sLaw) .none kVl doc pm an cdv ct, [(c1, P1), (c2, P2), (c3, P3)], spLaw K [P1, P2, P3], ?_, ?_, ?_, fun s v => .of_eq rfl, ?_, ?_⟩
  · intro p hp
    rcases List.mem_cons.mp hp with z | hp
    · rw [z]; exact g1
    rcases List.mem_cons.mp hp with z | hp
    · rw [z]; exact g2
    rw [List.mem_singleton.mp hp]; exact g3
  · intro p hp
    rcases List.mem_cons.mp hp with z | hp
    · rw [z]; exact n1
    rcases List.mem_cons.mp hp with z | hp
    · rw [z]; exact n2
    rw [List.mem_singleton.mp hp]; exact n3
  · intro p hp
    rcases List.mem_cons.mp hp with z | hp
    · rw [z]; exact h1
    rcases List.mem_cons.mp hp with z | hp
    · rw [z]; exact h2
    rw [List.mem_singleton.mp hp]; exact h3
  · intro H a ns hl _ ht hS
    refine ⟨a, ns, rfl, hS, hl, fun P hP => ?_, fun _ => rfl⟩
    rcases List.mem_cons.mp hP with z | z
    · exact ⟨#[], by rw [z]; exact ht (c1, P1) List.mem_cons_self, True.intro⟩
    rcases List.mem_cons.mp z with z | z
    · exact ⟨#[], by rw [z]; exact ht (c2, P2) (List.mem_cons_of_mem _ List.mem_cons_self), True.intro⟩
    · exact ⟨#[], by rw [List.mem_singleton.mp z]; exact ht (c3, P3) (List.mem_cons_of_mem _ (List.mem_cons_of_mem _ List.mem_cons_self)), True.intro⟩
  · intro base KX G TB
    have T1 := TB (c1, P1) List.mem_cons_self
    have T2 := TB (c2, P2) (List.mem_cons_of_mem _ List.mem_cons_self)
    have T3 := TB (c3, P3) (List.mem_cons_of_mem _ (List.mem_cons_of_mem _ List.mem_cons_self))
    have FP := fun_mk (st := sPlaceInit) l1 cc1 k1
    have bP := FP.binds (ps := ["self", "letters", "functions", "names", "room"]) fun _ _ _ _ _ _ us hl => match us, hl with | [_, _, _, _, _], _ => rfl
    have LP : PlC l.prog w K mg base C := ⟨⟨pg, hd, po, sa⟩, nA, nB, nC, nD, gC, ⟨_, _, ok_plinit FP ⟨pg, hd, po, sa⟩ nA nB nC nD, ⟨mk, a1, i1, kc⟩, bP⟩⟩
    have CW := c_is_word (P := l.prog) (w := w) (base := base) (T0 := [P1, P2, P3]) T (c_word_signs (P := l.prog) (w := w) (base := base) (T0 := [P1, P2, P3]) T D1 ⟨T1.code, T1.bm, T1.gP⟩ List.mem_cons_self) g8
    have CI := c_is_letter (P := l.prog) (w := w) (base := base) (T0 := [P1, P2, P3]) T D2 ⟨T2.code, T2.bm, T2.gP⟩ (List.mem_cons_of_mem _ List.mem_cons_self) g8
    have CF := c_are_fields (P := l.prog) (w := w) (base := base) (T0 := [P1, P2, P3]) T
    have CL := c_need_letter T ER.e.bk CI g8
    have CK := c_withins T ER.e.bk g8 d8 CW CF CL 9
    have CN := c_need_kind T d8 CK
    have CX0t : ∀ r, CalX l.prog w K mg base 2 "_need_text" ["told", "place"] (spAt K [P1, P2, P3] C (clsOf Ck Cp Cn Ct) r fun _ => gText) := fun r => c_need_text T ER.e D3 ⟨T3.code, T3.bm, T3.gP⟩ (List.mem_cons_of_mem _ (List.mem_cons_of_mem _ List.mem_cons_self)) b37
    have CX : ∀ r, CalX l.prog w K mg base 3 "_need_text" ["told", "place"] (spAtG K [P1, P2, P3] C (clsOf Ck Cp Cn Ct) r (fun _ d => txT d) (fun _ => gText)) := fun r => ((CX0t r).mono (by decide)).imp fun vs H Q E h => at_g (fun _ _ => rfl) vs H Q E h
    have CPt := c_parts txT T ER.e LP F N b12 CW CF CN CX 12
    have CPg := c_need_program txT T ER.e m12 (c_need_function txT T ER.e LP F b12 (by decide) CW CI (c_need_pairs T ER.e) CN CPt)
    exact ok_law (fun_mk (st := sLaw) lk c k) T (c_refusal txT T ER CPg)
end Sc
namespace Sc
open PySem PyProof.Rows L2
/-! ### what the top has written -/
theorem Def.of {K : PySem.W.Frag} {h : Heap} {mg : Str → Option Value} (X : K.In h) (G : h.Ns mainGlobals mg) {x : Str} {st : Stmt} {ps : List Str} {f : Addr} {oc : Value} {od an : Option Addr} {osl : Array (Option Value)} {kV doc pm cdv ct : Value}
    (a : PySem.W.nsIn K mainGlobals x = some (some (.ref f))) (l : K.lookup f = some ⟨oc, od, .func (PySem.W.fnOf x x (defArgs st) (defBody st) (defScope st) .none kV doc pm an cdv ct), osl⟩) (c : PySem.W.codeIn K cdv x = true) (k : PySem.W.keepIn K (.ref f) = true)
    (b : ∀ (kV doc pm : Value) (an : Option Addr) (cdv ct : Value) (us : List Value), us.length = ps.length → bindArgs (PySem.W.fnOf x x (defArgs st) (defBody st) (defScope st) .none kV doc pm an cdv ct) ⟨us, []⟩ = pure (ps.zip us)) : Def K mg x st ps :=
  have F := fun_mk (st := st) l c k
  ⟨⟨f, _, F, PySem.W.mg_of X G a, F.binds b⟩⟩
theorem DefA.of {K : PySem.W.Frag} {h : Heap} {mg : Str → Option Value} (X : K.In h) (G : h.Ns mainGlobals mg) {x y : Str} {st : Stmt} {ps : List Str} {f : Addr} {oc : Value} {od an : Option Addr} {osl : Array (Option Value)} {kV doc pm cdv ct : Value}
    (a : PySem.W.nsIn K mainGlobals x = some (some (.ref f))) (l : K.lookup f = some ⟨oc, od, .func (PySem.W.fnOf y y (defArgs st) (defBody st) (defScope st) .none kV doc pm an cdv ct), osl⟩) (c : PySem.W.codeIn K cdv y = true) (k : PySem.W.keepIn K (.ref f) = true)
    (b : ∀ (kV doc pm : Value) (an : Option Addr) (cdv ct : Value) (us : List Value), us.length = ps.length → bindArgs (PySem.W.fnOf y y (defArgs st) (defBody st) (defScope st) .none kV doc pm an cdv ct) ⟨us, []⟩ = pure (ps.zip us)) : DefA K mg x y st ps :=
  have F := fun_mk (st := st) l c k
  ⟨⟨f, _, F, PySem.W.mg_of X G a, F.binds b⟩⟩
theorem int_of {K : PySem.W.Frag} {h : Heap} {mg : Str → Option Value} (X : K.In h) (G : h.Ns mainGlobals mg) {x : Str} {n : Int} {t : Tok} (a : PySem.W.nsIn K mainGlobals x = some (some (.int n t))) : ∃ t, mg x = some (.int n t) := ⟨t, PySem.W.mg_of X G a⟩
theorem tabIn_of {K : PySem.W.Frag} {x : Str} {f c P : Addr} {oc o1 : Value} {od o2 : Option Addr} {osl o3 : Array (Option Value)} {fd : FuncData} {vs : Array Value} (a : PySem.W.nsIn K mainGlobals x = some (some (.ref f))) (l : K.lookup f = some ⟨oc, od, .func fd, osl⟩) (hc : fd.code = .ref c)
    (lc : K.lookup c = some ⟨o1, o2, .fields vs, o3⟩) (hv : (vs[11]? : Option Value) = some (.ref P)) : PySem.W.tabIn K x = some (c, P) := by
  unfold PySem.W.tabIn
  rw [a]
  dsimp only
  rw [l]
  dsimp only
  rw [hc]
  dsimp only
  rw [lc]
  dsimp only
  rw [hv]
end Sc
open PySem PySem.W PyProof.Rows
set_option maxRecDepth 100000 in
set_option maxHeartbeats 0 in
theorem PySem.Challenge.cw_soothcheck_k52_whole_programs_that_are_r_holds : PySem.Challenge.rw_soothcheck_k52_whole_programs_that_are_r.Holds := by
  w_on; o_law; k_head; (case hw => w_witness2)
  k_fill
  refine Sc.walkT (l := PySem.Challenge.rw_soothcheck_k52_whole_programs_that_are_r) rfl rfl (fun w h Y => by first | exact PySem.W.kIn_of Y | exact PySem.W.km_in_of Y) ?F
  case F =>
    intro w mg mb lo mean fa h KX TT hmg
    have G := TT.g
    refine' Sc.law_endT KX TT hmg ⟨Sc.Def.of KX G ?a0 ?l0 ?c0 ?k0 ?b0, Sc.Def.of KX G ?a1 ?l1 ?c1 ?k1 ?b1, Sc.Def.of KX G ?a2 ?l2 ?c2 ?k2 ?b2, Sc.DefA.of KX G ?a3 ?l3 ?c3 ?k3 ?b3, Sc.Def.of KX G ?a4 ?l4 ?c4 ?k4 ?b4, 
      Sc.Def.of KX G ?a5 ?l5 ?c5 ?k5 ?b5, Sc.Def.of KX G ?a6 ?l6 ?c6 ?k6 ?b6, Sc.Def.of KX G ?a7 ?l7 ?c7 ?k7 ?b7, Sc.Def.of KX G ?a8 ?l8 ?c8 ?k8 ?b8, Sc.Def.of KX G ?a9 ?l9 ?c9 ?k9 ?b9, Sc.Def.of KX G ?a10 ?l10 ?c10 ?k10 ?b10, 
      Sc.Def.of KX G ?a11 ?l11 ?c11 ?k11 ?b11, Sc.Def.of KX G ?a12 ?l12 ?c12 ?k12 ?b12, Sc.Def.of KX G ?a13 ?l13 ?c13 ?k13 ?b13, Sc.Def.of KX G ?a14 ?l14 ?c14 ?k14 ?b14, Sc.Def.of KX G ?a15 ?l15 ?c15 ?k15 ?b15, 
      Sc.Def.of KX G ?a16 ?l16 ?c16 ?k16 ?b16, Sc.Def.of KX G ?a17 ?l17 ?c17 ?k17 ?b17, Sc.Def.of KX G ?a18 ?l18 ?c18 ?k18 ?b18, Sc.Def.of KX G ?a19 ?l19 ?c19 ?k19 ?b19, Sc.Def.of KX G ?a20 ?l20 ?c20 ?k20 ?b20, 
      Sc.Def.of KX G ?a21 ?l21 ?c21 ?k21 ?b21, Sc.Def.of KX G ?a22 ?l22 ?c22 ?k22 ?b22, Sc.Def.of KX G ?a23 ?l23 ?c23 ?k23 ?b23, Sc.Def.of KX G ?a24 ?l24 ?c24 ?k24 ?b24, Sc.Def.of KX G ?a25 ?l25 ?c25 ?k25 ?b25, 
      Sc.Def.of KX G ?a26 ?l26 ?c26 ?k26 ?b26, Sc.Def.of KX G ?a27 ?l27 ?c27 ?k27 ?b27, Sc.Def.of KX G ?a28 ?l28 ?c28 ?k28 ?b28, Sc.Def.of KX G ?a29 ?l29 ?c29 ?k29 ?b29, Sc.Def.of KX G ?a30 ?l30 ?c30 ?k30 ?b30, 
      Sc.Def.of KX G ?a31 ?l31 ?c31 ?k31 ?b31, Sc.Def.of KX G ?a32 ?l32 ?c32 ?k32 ?b32, Sc.Def.of KX G ?a33 ?l33 ?c33 ?k33 ?b33, Sc.Def.of KX G ?a34 ?l34 ?c34 ?k34 ?b34, Sc.Def.of KX G ?a35 ?l35 ?c35 ?k35 ?b35, 
      Sc.Def.of KX G ?a36 ?l36 ?c36 ?k36 ?b36, Sc.Def.of KX G ?a37 ?l37 ?c37 ?k37 ?b37, Sc.Def.of KX G ?a38 ?l38 ?c38 ?k38 ?b38, Sc.Def.of KX G ?a39 ?l39 ?c39 ?k39 ?b39, Sc.Def.of KX G ?a40 ?l40 ?c40 ?k40 ?b40, 
      Sc.Def.of KX G ?a41 ?l41 ?c41 ?k41 ?b41, Sc.Def.of KX G ?a42 ?l42 ?c42 ?k42 ?b42, Sc.Def.of KX G ?a43 ?l43 ?c43 ?k43 ?b43, Sc.Def.of KX G ?a44 ?l44 ?c44 ?k44 ?b44, Sc.Def.of KX G ?a45 ?l45 ?c45 ?k45 ?b45, 
      Sc.Def.of KX G ?a46 ?l46 ?c46 ?k46 ?b46, Sc.Def.of KX G ?a47 ?l47 ?c47 ?k47 ?b47, PySem.W.mg_none_of KX G ?z0, PySem.W.mg_none_of KX G ?z1, PySem.W.mg_none_of KX G ?z2, PySem.W.mg_none_of KX G ?z3, 
      PySem.W.mg_none_of KX G ?z4, PySem.W.mg_none_of KX G ?z5, PySem.W.mg_none_of KX G ?z6, PySem.W.mg_none_of KX G ?z7, PySem.W.mg_none_of KX G ?z8, PySem.W.mg_none_of KX G ?z9, PySem.W.mg_none_of KX G ?z10, 
      PySem.W.mg_none_of KX G ?z11, PySem.W.mg_none_of KX G ?z12, PySem.W.mg_none_of KX G ?z13, PySem.W.mg_none_of KX G ?z14, PySem.W.mg_none_of KX G ?z15, PySem.W.mg_none_of KX G ?z16⟩
      (Sc.DefT.of KX G ?da1 ?dl1 ?dc1 ?dk1 ?db1) (Sc.tabIn_of ?ta1 ?tl1 ?tk1 ?tc1 ?tv1) ?r1 ?n1 (Sc.DefT.of KX G ?da2 ?dl2 ?dc2 ?dk2 ?db2) (Sc.tabIn_of ?ta2 ?tl2 ?tk2 ?tc2 ?tv2) ?r2 ?n2 (Sc.DefT.of KX G ?da3 ?dl3 ?dc3 ?dk3 ?db3) (Sc.tabIn_of ?ta3 ?tl3 ?tk3 ?tc3 ?tv3) ?r3 ?n3
      (PySem.W.mg_of KX G ?gS) ⟨PySem.W.mg_of KX G ?bkg, ?bkq, ?bkk, ?bkb, ?bkt⟩ ⟨PySem.W.mg_of KX G ?bpg, ?bpq, ?bpk, ?bpb, ?bpt⟩ ⟨PySem.W.mg_of KX G ?nng, ?nnq, ?nnk, ?nnb, ?nnt⟩ ⟨PySem.W.mg_of KX G ?ttg, ?ttq, ?ttk, ?ttb, ?ttt⟩
      (PySem.W.exm_ref ?bkh1 ?bkh2 ?bkh3 ?bkh4) (PySem.W.exm_ref ?bph1 ?bph2 ?bph3 ?bph4) (PySem.W.exm_ref ?nnh1 ?nnh2 ?nnh3 ?nnh4) (PySem.W.exm_ref ?tth1 ?tth2 ?tth3 ?tth4) ⟨?bkx1, ?bkx2, ?bkx3, ?bkx4, ?bkx5, ?bkx6, ?bkx7, ?bkx8⟩ ⟨?bpx1, ?bpx2, ?bpx3, ?bpx4, ?bpx5, ?bpx6, ?bpx7, ?bpx8⟩ ⟨?nnx1, ?nnx2, ?nnx3, ?nnx4, ?nnx5, ?nnx6, ?nnx7, ?nnx8⟩ ⟨?ttx1, ?ttx2, ?ttx3, ?ttx4, ?ttx5, ?ttx6, ?ttx7, ?ttx8⟩ ?bkv ?bpv ?nnv ?ttv ?bkbk ?bkbp ?bknn ?bktt ?bpbk ?bpbp ?bpnn ?bptt ?nnbk ?nnbp ?nnnn ?nntt ?ttbk ?ttbp ?ttnn ?tttt
      (PySem.W.mg_of KX G ?gC) ?pa ?pi ?pl ?pc ?pk ?ppg ?phd ?ppo ?psa ?pmk ?pkc ?pnA ?pnB ?pnC ?pnD
      (Sc.FT.of KX G ?fa ?fl ?fkl ?flow ?fe) (Sc.NT.of KX G ?na ?nl ?nkl ?ne ?nf) (Sc.int_of KX G ?v1) (Sc.int_of KX G ?v2) (Sc.int_of KX G ?v3) (Sc.int_of KX G ?v4) (Sc.int_of KX G ?v5) ?a ?l ?c ?k
    (case db1 => exact fun _ _ _ _ _ _ us hl => match us, hl with | [_], _ => rfl)
    (case da1 => k_is); (case dl1 => k_is); (case dc1 => k_is); (case dk1 => k_is)
    (case ta1 => k_is); (case tl1 => k_is); (case tk1 => exact rfl); (case tc1 => k_is); (case tv1 => exact rfl); (case n1 => first | kernel_rfl | exact rfl); (case r1 => decide +kernel)
    (case db2 => exact fun _ _ _ _ _ _ us hl => match us, hl with | [_], _ => rfl)
    (case da2 => k_is); (case dl2 => k_is); (case dc2 => k_is); (case dk2 => k_is)
    (case ta2 => k_is); (case tl2 => k_is); (case tk2 => exact rfl); (case tc2 => k_is); (case tv2 => exact rfl); (case n2 => first | kernel_rfl | exact rfl); (case r2 => decide +kernel)
    (case db3 => exact fun _ _ _ _ _ _ us hl => match us, hl with | [_, _], _ => rfl)
    (case da3 => k_is); (case dl3 => k_is); (case dc3 => k_is); (case dk3 => k_is)
    (case ta3 => k_is); (case tl3 => k_is); (case tk3 => exact rfl); (case tc3 => k_is); (case tv3 => exact rfl); (case n3 => first | kernel_rfl | exact rfl); (case r3 => decide +kernel)
    (case gS => k_is)
    (case bkg => k_is)
    (case bpg => k_is)
    (case nng => k_is)
    (case ttg => k_is)
    (case bkq => k_exc); (case bkk => k_is); (case bkb => k_is); (case bkt => k_is)
    (case bkh1 => k_is); (case bkh2 => k_is); (case bkh3 => k_is); (case bkh4 => k_is)
    (case bkx1 => k_is); (case bkx2 => k_is); (case bkx3 => k_is); (case bkx4 => k_is); (case bkx5 => k_is); (case bkx6 => k_is); (case bkx7 => k_is); (case bkx8 => k_is)
    (case bkv => kit_is)
    (case bkbk => kit_is); (case bkbp => kit_is); (case bknn => kit_is); (case bktt => kit_is)
    (case bpq => k_exc); (case bpk => k_is); (case bpb => k_is); (case bpt => k_is)
    (case bph1 => k_is); (case bph2 => k_is); (case bph3 => k_is); (case bph4 => k_is)
    (case bpx1 => k_is); (case bpx2 => k_is); (case bpx3 => k_is); (case bpx4 => k_is); (case bpx5 => k_is); (case bpx6 => k_is); (case bpx7 => k_is); (case bpx8 => k_is)
    (case bpv => kit_is)
    (case bpbk => kit_is); (case bpbp => kit_is); (case bpnn => kit_is); (case bptt => kit_is)
    (case nnq => k_exc); (case nnk => k_is); (case nnb => k_is); (case nnt => k_is)
    (case nnh1 => k_is); (case nnh2 => k_is); (case nnh3 => k_is); (case nnh4 => k_is)
    (case nnx1 => k_is); (case nnx2 => k_is); (case nnx3 => k_is); (case nnx4 => k_is); (case nnx5 => k_is); (case nnx6 => k_is); (case nnx7 => k_is); (case nnx8 => k_is)
    (case nnv => kit_is)
    (case nnbk => kit_is); (case nnbp => kit_is); (case nnnn => kit_is); (case nntt => kit_is)
    (case ttq => k_exc); (case ttk => k_is); (case ttb => k_is); (case ttt => k_is)
    (case tth1 => k_is); (case tth2 => k_is); (case tth3 => k_is); (case tth4 => k_is)
    (case ttx1 => k_is); (case ttx2 => k_is); (case ttx3 => k_is); (case ttx4 => k_is); (case ttx5 => k_is); (case ttx6 => k_is); (case ttx7 => k_is); (case ttx8 => k_is)
    (case ttv => kit_is)
    (case ttbk => kit_is); (case ttbp => kit_is); (case ttnn => kit_is); (case tttt => kit_is)
    (case gC => k_is); (case pa => k_is); (case pi => k_is); (case pl => k_is); (case pc => k_is); (case pk => k_is); (case ppg => k_is); (case phd => k_is); (case ppo => k_is); (case psa => k_is); (case pmk => k_is); (case pkc => k_is); (case pnA => k_is); (case pnB => k_is); (case pnC => k_is); (case pnD => k_is)
    (case fa => k_is); (case fl => k_is); (case flow => first | rfl | decide); (case na => k_is); (case nl => k_is); (case fe => first | kernel_rfl | rfl); (case ne => first | kernel_rfl | rfl); (case nf => first | kernel_rfl | rfl)
    (case fkl => refine He.keysLit_of (ks := Sc.formTab.map (·.1)) ?_; kernel_rfl)
    (case nkl => repeat (first | exact trivial | refine' ⟨⟨_, _, rfl, rfl⟩, ?_⟩))
    (case v1 => k_is); (case v2 => k_is); (case v3 => k_is); (case v4 => k_is)
    (case v5 => k_is)
    (case b0 => exact fun _ _ _ _ _ _ us hl => match us, hl with | [_, _], _ => rfl)
    (case b1 => exact fun _ _ _ _ _ _ us hl => match us, hl with | [_, _, _], _ => rfl)
    (case b2 => exact fun _ _ _ _ _ _ us hl => match us, hl with | [_, _, _], _ => rfl)
    (case b3 => exact fun _ _ _ _ _ _ us hl => match us, hl with | [_, _, _], _ => rfl)
    (case b4 => exact fun _ _ _ _ _ _ us hl => match us, hl with | [_, _], _ => rfl)
    (case b5 => exact fun _ _ _ _ _ _ us hl => match us, hl with | [_], _ => rfl)
    (case b6 => exact fun _ _ _ _ _ _ us hl => match us, hl with | [_], _ => rfl)
    (case b7 => exact fun _ _ _ _ _ _ us hl => match us, hl with | [_], _ => rfl)
    (case b8 => exact fun _ _ _ _ _ _ us hl => match us, hl with | [_], _ => rfl)
    (case b9 => exact fun _ _ _ _ _ _ us hl => match us, hl with | [_], _ => rfl)
    (case b10 => exact fun _ _ _ _ _ _ us hl => match us, hl with | [_], _ => rfl)
    (case b11 => exact fun _ _ _ _ _ _ us hl => match us, hl with | [_, _], _ => rfl)
    (case b12 => exact fun _ _ _ _ _ _ us hl => match us, hl with | [_, _], _ => rfl)
    (case b13 => exact fun _ _ _ _ _ _ us hl => match us, hl with | [_, _], _ => rfl)
    (case b14 => exact fun _ _ _ _ _ _ us hl => match us, hl with | [_], _ => rfl)
    (case b15 => exact fun _ _ _ _ _ _ us hl => match us, hl with | [_, _], _ => rfl)
    (case b16 => exact fun _ _ _ _ _ _ us hl => match us, hl with | [_, _], _ => rfl)
    (case b17 => exact fun _ _ _ _ _ _ us hl => match us, hl with | [_, _], _ => rfl)
    (case b18 => exact fun _ _ _ _ _ _ us hl => match us, hl with | [_, _], _ => rfl)
    (case b19 => exact fun _ _ _ _ _ _ us hl => match us, hl with | [_, _], _ => rfl)
    (case b20 => exact fun _ _ _ _ _ _ us hl => match us, hl with | [_, _], _ => rfl)
    (case b21 => exact fun _ _ _ _ _ _ us hl => match us, hl with | [_, _], _ => rfl)
    (case b22 => exact fun _ _ _ _ _ _ us hl => match us, hl with | [_, _], _ => rfl)
    (case b23 => exact fun _ _ _ _ _ _ us hl => match us, hl with | [_, _], _ => rfl)
    (case b24 => exact fun _ _ _ _ _ _ us hl => match us, hl with | [_, _], _ => rfl)
    (case b25 => exact fun _ _ _ _ _ _ us hl => match us, hl with | [_, _], _ => rfl)
    (case b26 => exact fun _ _ _ _ _ _ us hl => match us, hl with | [_, _], _ => rfl)
    (case b27 => exact fun _ _ _ _ _ _ us hl => match us, hl with | [_, _], _ => rfl)
    (case b28 => exact fun _ _ _ _ _ _ us hl => match us, hl with | [_], _ => rfl)
    (case b29 => exact fun _ _ _ _ _ _ us hl => match us, hl with | [_, _], _ => rfl)
    (case b30 => exact fun _ _ _ _ _ _ us hl => match us, hl with | [_, _], _ => rfl)
    (case b31 => exact fun _ _ _ _ _ _ us hl => match us, hl with | [_, _], _ => rfl)
    (case b32 => exact fun _ _ _ _ _ _ us hl => match us, hl with | [_, _, _], _ => rfl)
    (case b33 => exact fun _ _ _ _ _ _ us hl => match us, hl with | [_, _, _], _ => rfl)
    (case b34 => exact fun _ _ _ _ _ _ us hl => match us, hl with | [_, _, _], _ => rfl)
    (case b35 => exact fun _ _ _ _ _ _ us hl => match us, hl with | [_], _ => rfl)
    (case b36 => exact fun _ _ _ _ _ _ us hl => match us, hl with | [_], _ => rfl)
    (case b37 => exact fun _ _ _ _ _ _ us hl => match us, hl with | [_], _ => rfl)
    (case b38 => exact fun _ _ _ _ _ _ us hl => match us, hl with | [_], _ => rfl)
    (case b39 => exact fun _ _ _ _ _ _ us hl => match us, hl with | [_], _ => rfl)
    (case b40 => exact fun _ _ _ _ _ _ us hl => match us, hl with | [_, _, _], _ => rfl)
    (case b41 => exact fun _ _ _ _ _ _ us hl => match us, hl with | [_, _, _, _], _ => rfl)
    (case b42 => exact fun _ _ _ _ _ _ us hl => match us, hl with | [_, _, _], _ => rfl)
    (case b43 => exact fun _ _ _ _ _ _ us hl => match us, hl with | [_, _], _ => rfl)
    (case b44 => exact fun _ _ _ _ _ _ us hl => match us, hl with | [_, _], _ => rfl)
    (case b45 => exact fun _ _ _ _ _ _ us hl => match us, hl with | [_, _, _], _ => rfl)
    (case b46 => exact fun _ _ _ _ _ _ us hl => match us, hl with | [_, _, _], _ => rfl)
    (case b47 => exact fun _ _ _ _ _ _ us hl => match us, hl with | [_, _], _ => rfl)
    (case a0 => k_is); (case l0 => k_is); (case c0 => k_is); (case k0 => k_is)
    (case a1 => k_is); (case l1 => k_is); (case c1 => k_is); (case k1 => k_is)
    (case a2 => k_is); (case l2 => k_is); (case c2 => k_is); (case k2 => k_is)
    (case a3 => k_is); (case l3 => k_is); (case c3 => k_is); (case k3 => k_is)
    (case a4 => k_is); (case l4 => k_is); (case c4 => k_is); (case k4 => k_is)
    (case a5 => k_is); (case l5 => k_is); (case c5 => k_is); (case k5 => k_is)
    (case a6 => k_is); (case l6 => k_is); (case c6 => k_is); (case k6 => k_is)
    (case a7 => k_is); (case l7 => k_is); (case c7 => k_is); (case k7 => k_is)
    (case a8 => k_is); (case l8 => k_is); (case c8 => k_is); (case k8 => k_is)
    (case a9 => k_is); (case l9 => k_is); (case c9 => k_is); (case k9 => k_is)
    (case a10 => k_is); (case l10 => k_is); (case c10 => k_is); (case k10 => k_is)
    (case a11 => k_is); (case l11 => k_is); (case c11 => k_is); (case k11 => k_is)
    (case a12 => k_is); (case l12 => k_is); (case c12 => k_is); (case k12 => k_is)
    (case a13 => k_is); (case l13 => k_is); (case c13 => k_is); (case k13 => k_is)
    (case a14 => k_is); (case l14 => k_is); (case c14 => k_is); (case k14 => k_is)
    (case a15 => k_is); (case l15 => k_is); (case c15 => k_is); (case k15 => k_is)
    (case a16 => k_is); (case l16 => k_is); (case c16 => k_is); (case k16 => k_is)
    (case a17 => k_is); (case l17 => k_is); (case c17 => k_is); (case k17 => k_is)
    (case a18 => k_is); (case l18 => k_is); (case c18 => k_is); (case k18 => k_is)
    (case a19 => k_is); (case l19 => k_is); (case c19 => k_is); (case k19 => k_is)
    (case a20 => k_is); (case l20 => k_is); (case c20 => k_is); (case k20 => k_is)
    (case a21 => k_is); (case l21 => k_is); (case c21 => k_is); (case k21 => k_is)
    (case a22 => k_is); (case l22 => k_is); (case c22 => k_is); (case k22 => k_is)
    (case a23 => k_is); (case l23 => k_is); (case c23 => k_is); (case k23 => k_is)
    (case a24 => k_is); (case l24 => k_is); (case c24 => k_is); (case k24 => k_is)
    (case a25 => k_is); (case l25 => k_is); (case c25 => k_is); (case k25 => k_is)
    (case a26 => k_is); (case l26 => k_is); (case c26 => k_is); (case k26 => k_is)
    (case a27 => k_is); (case l27 => k_is); (case c27 => k_is); (case k27 => k_is)
    (case a28 => k_is); (case l28 => k_is); (case c28 => k_is); (case k28 => k_is)
    (case a29 => k_is); (case l29 => k_is); (case c29 => k_is); (case k29 => k_is)
    (case a30 => k_is); (case l30 => k_is); (case c30 => k_is); (case k30 => k_is)
    (case a31 => k_is); (case l31 => k_is); (case c31 => k_is); (case k31 => k_is)
    (case a32 => k_is); (case l32 => k_is); (case c32 => k_is); (case k32 => k_is)
    (case a33 => k_is); (case l33 => k_is); (case c33 => k_is); (case k33 => k_is)
    (case a34 => k_is); (case l34 => k_is); (case c34 => k_is); (case k34 => k_is)
    (case a35 => k_is); (case l35 => k_is); (case c35 => k_is); (case k35 => k_is)
    (case a36 => k_is); (case l36 => k_is); (case c36 => k_is); (case k36 => k_is)
    (case a37 => k_is); (case l37 => k_is); (case c37 => k_is); (case k37 => k_is)
    (case a38 => k_is); (case l38 => k_is); (case c38 => k_is); (case k38 => k_is)
    (case a39 => k_is); (case l39 => k_is); (case c39 => k_is); (case k39 => k_is)
    (case a40 => k_is); (case l40 => k_is); (case c40 => k_is); (case k40 => k_is)
    (case a41 => k_is); (case l41 => k_is); (case c41 => k_is); (case k41 => k_is)
    (case a42 => k_is); (case l42 => k_is); (case c42 => k_is); (case k42 => k_is)
    (case a43 => k_is); (case l43 => k_is); (case c43 => k_is); (case k43 => k_is)
    (case a44 => k_is); (case l44 => k_is); (case c44 => k_is); (case k44 => k_is)
    (case a45 => k_is); (case l45 => k_is); (case c45 => k_is); (case k45 => k_is)
    (case a46 => k_is); (case l46 => k_is); (case c46 => k_is); (case k46 => k_is)
    (case a47 => k_is); (case l47 => k_is); (case c47 => k_is); (case k47 => k_is)
    (case z0 => k_is)
    (case z1 => k_is)
    (case z2 => k_is)
    (case z3 => k_is)
    (case z4 => k_is)
    (case z5 => k_is)
    (case z6 => k_is)
    (case z7 => k_is)
    (case z8 => k_is)
    (case z9 => k_is)
    (case z10 => k_is)
    (case z11 => k_is)
    (case z12 => k_is)
    (case z13 => k_is)
    (case z14 => k_is)
    (case z15 => k_is)
    (case z16 => k_is)
    (case a => k_is); (case l => k_is); (case c => k_is); (case k => k_is)
