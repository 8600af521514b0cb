import PyProof.Rows.All
import Wide.All
import OpenK.AllK
import Wide.FinOn
import HandS.ForMost
import HandS.Set
import HandS.SetFor
import HandS.More
import HandS.Wide
import HandS.IsInst
import HandS.WordsDict
import HandS.FStr
import HandS.TupAny
import HandS.AnyAll
import HandS.ForExc
import HandS.WordsExc
import HandS.ExcIs
import HandS.RaiseMore
import HandS.ExcOwn
import PyProof.ExcBaseAll.ValueError
import KE.SortKeyHeap
import HandS.Lambda
import PyProof.Rows.CallKwBuiltin
import HandS.WordsList
import HandS.Deep
import HandS.DeepEq
import HandS.GenList
import KE.KDictList
import HandS.Zip
import HandS.Conv
import HandS.Sort
import HandS.TupLe
import HandS.CallLocal
import HandS.Defaults
import HandS.EndTab
import PySem.Challenge.RW_soothcheck_k38_kinds_told_and_read
set_option Elab.async false
set_option linter.all false
set_option maxRecDepth 100000
set_option maxHeartbeats 4000000
namespace Sc
open PySem PySem.Spec PyProof.Rows L2
/-! sets of texts: set(a list of texts), sorted of that -/
def txOf (c : Int × Value) : Str := match c.2 with | .str x _ => x | _ => Str.empty
def TxE (w : World) (c : Int × Value) : Prop := ∃ x tk, c.2 = Value.str x tk ∧ c.1 = hashStr w x
/-- a set of texts stands at a: which, how many; it can be walked -/
def TxSet (w : World) (h : Heap) (a : Addr) (S : Str → Bool) (n : Nat) : Prop :=
  ∃ ob cs ver tb, h.get? a = some ob ∧ ob.ExactSet ∧ ob.data = .set cs ver tb ∧ (∀ c ∈ cs.toList, TxE w c) ∧ (cs.toList.map txOf).Nodup ∧
    (∀ x, S x = true ↔ x ∈ cs.toList.map txOf) ∧ cs.size < scanBound ∧ tb.fits cs.size = true ∧ cs.size = n ∧ Ris tb.place.toList ∧
    (w.params.followText "set-order" = true ∨ tb.led = true)
section
variable {P : Program} {w : World} {h h' : Heap} {a : Addr} {S : Str → Bool} {n : Nat}
theorem TxSet.keep (R : TxSet w h a S n) (kp : ∀ ob, h.get? a = some ob → h'.get? a = some ob) : TxSet w h' a S n := by
  obtain ⟨ob, cs, ver, tb, hob, more⟩ := R
  exact ⟨ob, cs, ver, tb, kp ob hob, more⟩
theorem TxSet.say {S' : Str → Bool} (R : TxSet w h a S n) (same : ∀ x, S' x = S x) : TxSet w h a S' n := (funext same : S' = S) ▸ R
theorem tx_elems {l : List (Int × Value)} (g : ∀ c ∈ l, TxE w c) : ElemsOf (strKind P w) l := fun c hc => by
  obtain ⟨x, tk, h1, h2⟩ := g c hc
  refine ⟨⟨x, ?_, h2⟩, by rw [h1] <;> rfl⟩
  rw [h1]
  show Value.isStrOf x (.str x tk) = true
  simp [Value.isStrOf]
theorem tx_is {c : Int × Value} (g : TxE w c) (x : Str) : (strKind P w).is x c.2 = true ↔ txOf c = x := by
  obtain ⟨y, tk, h1, _⟩ := g
  unfold txOf
  rw [h1]
  show Value.isStrOf x (.str y tk) = true ↔ y = x
  constructor
  · intro q
    obtain ⟨t, e⟩ := Value.isStrOf_shape (x := x) (v := Value.str y tk) q
    injection e
  · rintro rfl
    simp [Value.isStrOf]
theorem tx_mem {l : List (Int × Value)} (g : ∀ c ∈ l, TxE w c) (x : Str) : x ∈ l.map txOf ↔ ∃ c ∈ l, (strKind P w).is x c.2 = true := by
  refine List.mem_map.trans ⟨fun ⟨c, hc, q⟩ => ⟨c, hc, (tx_is (g c hc) x).2 q⟩, fun ⟨c, hc, q⟩ => ⟨c, hc, (tx_is (g c hc) x).1 q⟩⟩
end
section
variable {P : Program} {w : World} {A : Around} {E : Value → Shared → Prop} {s : Shared} {a : Addr} {S : Str → Bool} {n : Nat}
theorem tx_add_tail {note : Bool → Sem Unit} (hnote : ∀ (b : Bool) (s1 : Shared) (R : Unit → Shared → Prop), R () s1 → wpAny (model P w) A (note b) R E s1)
    {ob : Obj} {cs : Array (Int × Value)} {ver : Nat} {tb : SetTable} (hob : s.heap.get? a = some ob) (ex : ob.ExactSet) (dt : ob.data = .set cs ver tb)
    {cs1 : Array (Int × Value)} {tb1 : SetTable} {S1 : Str → Bool} (gd : ∀ c ∈ cs1.toList, TxE w c) (nd : (cs1.toList.map txOf).Nodup) (mm : ∀ x, S1 x = true ↔ x ∈ cs1.toList.map txOf)
    (few : cs1.size < scanBound) (ft : tb1.fits cs1.size = true) (ri : Ris tb1.place.toList) (ld : w.params.followText "set-order" = true ∨ tb1.led = true) {dummy : Bool} {R : Option Bool → Shared → Prop}
    (fin : ∀ h', Heap.SameBut a s.heap h' → TxSet w h' a S1 cs1.size → R (some true) { s with heap := h' }) :
    wpAny (model P w) A (do
        storeSet a cs1 tb1
        if (!dummy && tb1.tooFull) = true then do
            note (relayAll tb1 cs1 (SetTable.grown cs1.size)).2.2
            storeSet a (relayAll tb1 cs1 (SetTable.grown cs1.size)).1 (relayAll tb1 cs1 (SetTable.grown cs1.size)).2.1
            pure (some true)
          else pure (some true)) R E s := by
  refine wpAny_bind (wpAny_storeSet_of hob dt ?_ (fits_of_scanBound few))
  have at1 := L2.store_at (es' := cs1) (t' := tb1) hob dt
  have sb := Heap.SameBut.update s.heap a (Obj.putSet cs1 tb1)
  by_cases hfull : (!dummy && tb1.tooFull) = true
  · rw [if_pos hfull]
    have r1 := relayAll_perm tb1 cs1 (SetTable.grown cs1.size)
    have r2 := relayAll_fits tb1 cs1 (SetTable.grown cs1.size)
    have r3 := relayAll_ris tb1 cs1 (SetTable.grown cs1.size)
    have r4 := relayAll_led tb1 cs1 (SetTable.grown cs1.size)
    generalize relayAll tb1 cs1 (SetTable.grown cs1.size) = Y at r1 r2 r3 r4 ⊢
    obtain ⟨cs2, tb2, way⟩ := Y
    dsimp only at r1 r2 r3 r4 ⊢
    have sz : cs2.size = cs1.size := by rw [← Array.length_toList, ← Array.length_toList]; exact r1.length_eq
    have few2 : cs2.size < scanBound := sz ▸ few
    refine wpAny_bind (hnote _ _ _ (wpAny_bind (wpAny_storeSet_of at1 rfl ?_ (fits_of_scanBound few2))))
    have at2 := L2.store_at (es' := cs2) (t' := tb2) at1 rfl
    refine wpAny_pure (fin _ (sb.trans (Heap.SameBut.update _ a _)) ⟨_, cs2, _, tb2, at2, ex, rfl, fun c hc => gd c (r1.mem_iff.mp hc), ?_, fun x => ?_, few2, r2, sz, r3, ?_⟩)
    · exact (r1.map txOf).nodup_iff.mpr nd
    · exact (mm x).trans (r1.map txOf).mem_iff.symm
    · exact ld.imp id fun z => r4 ▸ z
  · rw [if_neg hfull]
    exact wpAny_pure (fin _ sb ⟨_, cs1, _, tb1, at1, ex, rfl, gd, nd, mm, few, ft, rfl, ri, ld⟩)
theorem tx_add {x : Str} {tk : Tok} {Q : Bool → Shared → Prop} (R : TxSet w s.heap a S n) (room : n + 1 < scanBound)
    (fin : ∀ h', Heap.SameBut a s.heap h' → TxSet w h' a (fun y => S y || decide (y = x)) (if S x = true then n else n + 1) → Q (!S x) { s with heap := h' }) :
    wpAny (model P w) A (setAddHashed a (.str x tk) ((strKind P w).hash x)) Q E s := by
  obtain ⟨ob, cs, ver, tb, hob, ex, dt, gd, nd, mm, few, ft, sz, ri, ld⟩ := R
  have isx : (strKind P w).is x (.str x tk) = true := by
    show Value.isStrOf x (.str x tk) = true
    simp [Value.isStrOf]
  have scn : (Value.str x tk).scannable = true := rfl
  have els : ElemsOf (strKind P w) cs.toList := tx_elems gd
  unfold setAddHashed setAddHashedIn
  refine wpAny_holding (wpAny_bind (wpAny_setState_of hob dt ft ?_))
  dsimp only
  rw [byScan_of scn few els]
  simp only [↓reduceIte]
  unfold setAddByScan
  refine wpAny_bind (wpAny_bind (wpAny_rule (wpAny_bind (wpAny_setScan_of isx hob dt ft els ?_))))
  cases found : List.findIdx? (fun e => (strKind P w).is x e.2) cs.toList with
  | some j =>
    dsimp only
    obtain ⟨lt, yes, _⟩ := List.findIdx?_eq_some_iff_getElem.mp found
    have inS : S x = true := (mm x).2 ((tx_mem (P := P) (w := w) gd x).2 ⟨cs.toList[j], List.getElem_mem lt, yes⟩)
    refine wpAny_pure (wpAny_pure ?_)
    have z := fin s.heap (Heap.SameBut.refl a s.heap) ⟨ob, cs, ver, tb, hob, ex, dt, gd, nd, fun y => ?_, few, ft, by rw [if_pos inS]; exact sz, ri, ld⟩
    · rw [inS] at z
      exact z
    · rw [Bool.or_eq_true, decide_eq_true_eq, ← mm y]
      exact ⟨fun o => o.elim id fun e => e ▸ inS, .inl⟩
  | none =>
    dsimp only
    have out : x ∉ cs.toList.map txOf := fun z => by
      obtain ⟨c, hc, q⟩ := (tx_mem (P := P) (w := w) gd x).1 z
      exact absurd q (by rw [List.findIdx?_eq_none_iff.mp found c hc]; exact Bool.false_ne_true)
    have outS : S x = false := Bool.eq_false_iff.mpr fun q => out ((mm x).1 q)
    have gave : ∀ (b : Bool) {s1 : Shared} {R : Unit → Shared → Prop}, R () s1 → wpAny (model P w) A (match b with | true => rule "set.scan.the-table-gave-way" | false => pure ()) R E s1 :=
      fun b s1 R q => by cases b <;> first | exact wpAny_pure q | exact wpAny_rule q
    have l1 := layNew_perm tb cs ((strKind P w).hash x) (.str x tk)
    have l2 := layNew_fits tb cs ((strKind P w).hash x) (.str x tk)
    have l3 := layNew_ris tb cs ((strKind P w).hash x) (.str x tk) ri
    have l4 := layNew_led tb cs ((strKind P w).hash x) (.str x tk)
    generalize layNew tb cs ((strKind P w).hash x) (.str x tk) = Y at l1 l2 l3 l4 ⊢
    obtain ⟨cs1, tb1, dummy, way⟩ := Y
    dsimp only at l1 l2 l3 l4 ⊢
    rw [Array.toList_push] at l1
    have pm : cs1.toList.Perm (((strKind P w).hash x, Value.str x tk) :: cs.toList) := l1.trans (List.perm_append_singleton _ _)
    have pk : (cs1.toList.map txOf).Perm (x :: cs.toList.map txOf) := pm.map txOf
    have gd1 : ∀ c ∈ cs1.toList, TxE w c := fun c hc => (List.mem_cons.mp (pm.mem_iff.mp hc)).elim (fun z => z ▸ ⟨x, tk, rfl, rfl⟩) (gd c)
    have ndd : (cs1.toList.map txOf).Nodup := pk.nodup_iff.mpr (List.nodup_cons.mpr ⟨out, nd⟩)
    have mm1 : ∀ y, (S y || decide (y = x)) = true ↔ y ∈ cs1.toList.map txOf := fun y => by
      rw [pk.mem_iff, List.mem_cons, ← mm y, Bool.or_eq_true, decide_eq_true_eq]
      exact Or.comm
    have sz1 : cs1.size = n + 1 := by rw [← sz, ← Array.length_toList, pm.length_eq, List.length_cons, Array.length_toList]
    have few1 : cs1.size < scanBound := sz1 ▸ room
    have ld1 : w.params.followText "set-order" = true ∨ tb1.led = true := ld.imp id fun z => l4 ▸ z
    have done : ∀ h', Heap.SameBut a s.heap h' → TxSet w h' a (fun y => S y || decide (y = x)) cs1.size → Q true { s with heap := h' } := fun h' sb r => by
      have z := fin h' sb
      rw [outS] at z
      exact z (sz1 ▸ r)
    refine wpAny_bind (gave _ ?_)
    split
    · refine wpAny_bind ?_
      rw [hashByValue_scannable 8 scn]
      refine wpAny_pure (tx_add_tail (fun b s1 R q => ?_) hob ex dt gd1 ndd mm1 few1 ?_ ?_ ?_ fun h' sb r => ?_)
      · cases b <;> first | exact wpAny_pure q | exact wpAny_rule q
      · first | (split <;> first | exact l2 | exact SetTable.fits_plain_off l2) | exact l2
      · first | (split <;> exact l3) | exact l3
      · first | (split <;> exact ld1) | exact ld1
      · dsimp only
        exact wpAny_pure (done h' sb r)
    · refine wpAny_bind (wpAny_pure ?_)
      simp only [↓reduceIte]
      refine tx_add_tail (fun b s1 R q => ?_) hob ex dt gd1 ndd mm1 few1 l2 l3 ld1 fun h' sb r => ?_
      · cases b <;> first | exact wpAny_pure q | exact wpAny_rule q
      · dsimp only
        exact wpAny_pure (done h' sb r)
end

/-! the loop of update, the call set(l), sorted -/
abbrev bareSet (w : World) : Obj := { cls := .type "set", dict := none, data := .set #[] 0 (.fresh 0 0 (!w.params.followText "set-order")) }
theorem tx_bare {w : World} {h : Heap} {a : Addr} {zs : List Str} (hob : h.get? a = some (bareSet w)) : TxSet w h a (fun y => decide (y ∈ zs.take 0)) 0 := by
  refine ⟨_, #[], 0, _, hob, ⟨rfl, rfl, rfl⟩, rfl, ?_, ?_, ?_, by decide, by rfl, rfl, List.Pairwise.nil, ?_⟩
  · intro c hc
    simp at hc
  · simp
  · intro x
    simp
  · show _ ∨ (!w.params.followText "set-order") = true
    cases w.params.followText "set-order" <;> simp
section
variable {P : Program} {w : World} {A : Around} {E : Value → Shared → Prop} {s : Shared}
theorem tx_update {it : Addr} {fp wr : List Addr} {G : Array GenState → Array GenState → Prop} {n : Nat} {Pv : Nat → Value → Prop} {At : Nat → Shared → Prop} {R : Result → Shared → Prop}
    (W : WalksS P w A.in1 it fp wr G n Pv At) (d : Addr) (apart : d ∉ fp) (zs : List Str) (en : n = zs.length) (room : zs.length + 1 < scanBound) (item : ∀ i v, Pv i v → ∃ x t, zs[i]? = some x ∧ v = .str x t) :
    ∀ (left i : Nat) (s : Shared), n - i = left → i ≤ n → At i s → (∃ m, m ≤ i ∧ TxSet w s.heap d (fun y => decide (y ∈ zs.take i)) m) →
      (∀ s' m, Moved (d :: wr) G s s' → m ≤ n → TxSet w s'.heap d (fun y => decide (y ∈ zs)) m → R (.ok (.ret .none)) s') →
      codeAny (model P w) A (.builtin "set.update.loop" ⟨[.ref d, .ref it], []⟩) R s := by
  have dw : d ∉ wr := fun z => apart (W.sub _ z)
  have more : ∀ b ∈ wr, b ∈ d :: wr := fun b z => List.mem_cons_of_mem _ z
  intro left
  induction left with
  | zero =>
    intro i s el le at_ ⟨m, hm, R0⟩ go
    have ei : i = n := by omega
    subst ei
    refine codeAny_builtin PyProof.Rows.F.entry_set_update_loop ?_
    rw [Around.under_plainId PyProof.Rows.F.plain_set_update_loop _]
    show wpAny _ A.in1 (pyNext (.ref it) >>= _) _ _ s
    refine wpAny_bind (W.done s _ _ at_ fun s' mv => ?_)
    show wpAny _ A.in1 (ret Value.none) _ _ s'
    rw [show zs.take i = zs from List.take_of_length_le (by omega)] at R0
    exact wpAny_pure (go s' m (mv.mono more) hm (R0.keep fun ob e => mv.heap d ob dw e))
  | succ left ih =>
    intro i s el le at_ ⟨m, hm, R0⟩ go
    have lt : i < n := by omega
    refine codeAny_builtin PyProof.Rows.F.entry_set_update_loop ?_
    rw [Around.under_plainId PyProof.Rows.F.plain_set_update_loop _]
    show wpAny _ A.in1 (pyNext (.ref it) >>= _) _ _ s
    refine wpAny_bind (W.item i s _ _ lt at_ fun v s1 pv at1 mv => ?_)
    obtain ⟨x, t, hx, rfl⟩ := item i v pv
    have R1 : TxSet w s1.heap d (fun y => decide (y ∈ zs.take i)) m := R0.keep fun ob e => mv.heap d ob dw e
    show wpAny _ A.in1 (holding [Value.str x t] (setAdd d (.str x t)) >>= _) _ _ s1
    refine wpAny_bind (wpAny_holding ?_)
    unfold setAdd
    refine wpAny_holding (wpAny_bind ((strKind P w).pyHash (k := x) (v := .str x t) ?_ ?_))
    · show Value.isStrOf x (.str x t) = true
      simp [Value.isStrOf]
    refine tx_add (s := { s1 with toks := s1.toks + 1 }) R1 (by omega) fun h2 sb R2 => ?_
    have R3 : TxSet w h2 d (fun y => decide (y ∈ zs.take (i + 1))) (if decide (x ∈ zs.take i) = true then m else m + 1) := R2.say fun y => by
      rw [List.take_add_one, hx]
      simp [List.mem_append]
    have hm3 : (if decide (x ∈ zs.take i) = true then m else m + 1) ≤ i + 1 := by split <;> omega
    refine wpAny_pure ⟨plainId_quiet PyProof.Rows.F.plain_set_update_loop _, ih (i + 1) _ (by omega) lt (W.frame _ s1 _ _ at1 (Nat.le_succ _) fun b hb ob e => ?_) ⟨_, hm3, R3⟩ fun s3 m3 mv3 le3 R4 => ?_⟩
    · exact (sb.2 b fun z => apart (z ▸ hb)).trans e
    · refine go s3 m3 (Moved.trans W.gtrans ((mv.mono more).then_heap (Nat.le_succ _) fun b ob hb e => ?_) mv3) le3 R4
      exact (sb.2 b fun z => hb (z ▸ List.mem_cons_self)).trans e
theorem tx_item : ∀ {us : List Value} {zs : List Str}, StrsAre us zs → ∀ (i : Nat) (v : Value), us[i]? = some v → ∃ x t, zs[i]? = some x ∧ v = .str x t
  | _, _, .nil, i, v, hi => by simp at hi
  | _, _, .cons x t _, 0, v, hi => ⟨x, t, rfl, by simpa using hi.symm⟩
  | _, _, .cons _ _ rest, i + 1, v, hi => by simpa using tx_item rest i v (by simpa using hi)
/-- set(l), l a list of texts -/
theorem call_set_txs {l : Addr} {items : Array Value} (zs : List Str) {Q : Value → Shared → Prop} (calm : A.handled = none) (hl : s.heap.IsList l items) (hit : StrsAre items.toList zs) (room : zs.length + 1 < scanBound)
    (fin : ∀ (h' : Heap) (tk m : Nat), TxSet w h' s.heap.objs.size (fun y => decide (y ∈ zs)) m → m ≤ zs.length → (∀ b ob, s.heap.get? b = some ob → h'.get? b = some ob) → Q (.ref s.heap.objs.size) { s with heap := h', toks := tk }) :
    wpAny (model P w) A (call (.type "set") [.ref l]) Q E s := by
  have isz : items.size = zs.length := by
    have z := hit.length
    rw [Array.length_toList] at z
    exact z
  obtain ⟨c, tl, hmro⟩ := F.called_set.mro
  have hmade := F.called_set.made
  have hsub := F.called_set.sub
  refine wpAny_call (codeAny_of_tree ?_)
  show wpAny _ _ (callAny (.type "set") _) _ _ _
  refine wpAny_pure ⟨Code.quiet_builtin _ (by decide +kernel), codeAny_builtin F.entry_type_call ?_⟩
  rw [Around.under_plain (weight_type_call_type "set" [.ref l] []) rfl]
  have no_t := F.called_set.notType
  have can := F.called_set.canCreate
  have chk := PySem.F.typeCall_set_1 (.ref l)
  repeat (any_goals (first | assumption | wp_step))
  refine codeAny_mono (code_set_led1 (.ref l) (E := E) (Q₁ := fun obj s1 => obj = .ref s.heap.objs.size ∧ s1 = { s with heap := s.heap.push (bareSet w) }) ⟨rfl, rfl⟩) fun r s1 hr => ?_
  cases r with
  | error e => exact hr
  | ok fl =>
  cases fl with
  | next => exact hr.elim
  | brk => exact hr.elim
  | cont => exact hr.elim
  | ret obj =>
  obtain ⟨rfl, rfl⟩ := hr
  have atS : (s.heap.push (bareSet w)).get? s.heap.objs.size = some (bareSet w) := Heap.get?_push_size _ rfl
  have tyS : Shared.TypeIs { s with heap := s.heap.push (bareSet w) } (.ref s.heap.objs.size) "set" := ⟨_, atS, rfl⟩
  have ini := F.called_set.init.lookup
  have inb := F.called_set.init.bind (.ref s.heap.objs.size)
  repeat (any_goals (first | assumption | wp_step))
  refine codeAny_mono (codeAny_call_builtin (R := wants (fun r s2 => r = .none ∧ ∃ h' tk m, s2 = { s with heap := h', toks := tk } ∧ TxSet w h' s.heap.objs.size (fun y => decide (y ∈ zs)) m ∧ m ≤ zs.length ∧
      (∀ b ob, s.heap.get? b = some ob → h'.get? b = some ob)) E) F.called_set.init.plain F.entry_set_init (check_set_init_1 tyS ?_)) fun r2 s2 hr2 => ?_
  · obtain ⟨ob, hob, hc, nl, hd⟩ := hl
    obtain ⟨k1, k2, k3, k4⟩ := ob
    simp only at hc hd
    subst hc hd
    have ob1 : (s.heap.push (bareSet w)).get? l = some { cls := .type "list", dict := k2, data := .seq items nl, slots := k4 } := Heap.get?_push_of_some _ hob
    have not1 := F.sub_list_set
    have not2 := F.sub_list_frozenset
    have not3 : (Value.type "list" == Value.type "dict") = false := by decide
    have l1 : (s.heap.push (bareSet w)).IsList l items := ⟨_, ob1, rfl, nl, rfl⟩
    unfold Builtin.«set.__init__» noKeywords Builtin.Frozenset.updateFrom
    generalize hIt : pyIter = It
    wp_walk
    subst hIt
    refine wpAny_pyIter_list l1 (wpAny_bind (wpAny_runValue ?_))
    have low : l < s.heap.objs.size := Heap.lt_size hob
    have calm3 : A.in1.in1.in1.handled = none := by simp [calm]
    have one : (s.heap.push (bareSet w)).objs.size = s.heap.objs.size + 1 := Heap.size_push ..
    have n1 : l ≠ (s.heap.push (bareSet w)).objs.size := Nat.ne_of_lt (by rw [one]; exact Nat.lt_succ_of_lt low)
    have n2 : s.heap.objs.size ∉ [(s.heap.push (bareSet w)).objs.size, l] := by
      rw [List.mem_cons, List.mem_singleton, one]
      exact fun z => z.elim (Nat.ne_of_lt (Nat.lt_succ_self _)) (Nat.ne_of_gt low)
    refine tx_update ((Walks.list calm3 _ l n1 items).toS) s.heap.objs.size n2 zs isz room (fun i v hv => tx_item hit i v (by rw [Array.getElem?_toList]; exact hv)) (items.size - 0) 0 _ (by omega) (Nat.zero_le _)
      ⟨⟨_, Heap.get?_push_size _ rfl, rfl, rfl⟩, (l1.push _)⟩ ⟨0, Nat.le_refl 0, tx_bare (Heap.get?_push_of_some _ atS)⟩ ?_
    intro s3 m mv hm R3
    obtain ⟨h3, g3, d3, t3, o3⟩ := s3
    have z1 : g3 = s.gens := mv.gens
    have z2 : d3 = s.drawn := mv.drawn
    have z3 : o3 = s.os := mv.os
    subst z1 z2 z3
    show wpAny _ _ _ _ _ _
    refine wpAny_pure ?_
    show wpAny _ _ (ret Value.none) _ _ _
    refine wpAny_pure ⟨rfl, h3, t3, m, rfl, R3, isz ▸ hm, fun b ob e => ?_⟩
    have lb : b < s.heap.objs.size := Heap.lt_size e
    refine mv.heap b ob ?_ (Heap.get?_push_of_some _ (Heap.get?_push_of_some _ e))
    rw [List.mem_cons, List.mem_singleton, one]
    exact fun z => z.elim (Nat.ne_of_lt lb) (Nat.ne_of_lt (Nat.lt_succ_of_lt lb))
  · cases r2 with
    | error e => exact hr2
    | ok fl2 =>
    cases fl2 with
    | next => exact hr2.elim
    | brk => exact hr2.elim
    | cont => exact hr2.elim
    | ret r =>
    obtain ⟨rfl, h', tk, m, rfl, R2, hm, kp⟩ := hr2
    repeat (any_goals (first | assumption | wp_step))
    exact fin _ _ _ R2 hm kp

/-- sorted(d), d a set of texts -/
theorem call_sorted_txs {d : Addr} {S : Str → Bool} {n : Nat} {Q : Value → Shared → Prop} (R : TxSet w s.heap d S n) (calm : A.handled = none) (few : n < 64)
    (fin : ∀ s' p (out : Array Value) (c : Nat) (ys : List Str), (∀ b ob, s.heap.get? b = some ob → s'.heap.get? b = some ob) → s'.gens = s.gens → s'.os = s.os → s.heap.objs.size ≤ p →
      s'.heap.get? p = some (seqObj "list" out c) → StrsAre out.toList ys → sortedS ys = true → ys.Nodup → (∀ x, x ∈ ys ↔ S x = true) → ys.length = n → Q (.ref p) s') :
    wpAny (model P w) A (call (.builtin "sorted") [.ref d]) Q E s := by
  obtain ⟨ob, cs, ver, tb, hob, ex, dt, gd, nd, mm, sb, ft, sz, ri, ld⟩ := R
  refine Calls.call_function_entry PyProof.Rows.kind_sorted PyProof.Rows.plain_sorted PyProof.Rows.entry_sorted (PyProof.Rows.args_sorted1 _) ?_
  unfold Builtin.«sorted»
  refine wpAny_bind (m := checkCount "sorted" 1 1 _) (wpAny_pure ?_)
  refine wpAny_bind (collect_set (A := A.in1) calm ⟨ob, hob, ex.1, dt⟩ ft sb ri ld fun s1 us kp hz hg ho pm => ?_)
  have lu : us.length = n := by rw [pm.length_eq, List.length_map, Array.length_toList]; exact sz
  have txs : ∀ (ws : List Value), (∀ v ∈ ws, ∃ c ∈ cs.toList, v = c.2) → ∃ zs, StrsAre ws zs ∧ zs = ws.map fun v => txOf (0, v) := by
    intro ws
    induction ws with
    | nil => exact fun _ => ⟨[], .nil, rfl⟩
    | cons v ws ih =>
      intro al
      obtain ⟨zs, h1, h2⟩ := ih fun u hu => al u (List.mem_cons_of_mem _ hu)
      obtain ⟨c, hc, rfl⟩ := al v List.mem_cons_self
      obtain ⟨x, tk, e, _⟩ := gd c hc
      refine ⟨x :: zs, ?_, ?_⟩
      · rw [e]; exact .cons x tk h1
      · rw [List.map_cons, ← h2]
        unfold txOf
        rw [e]
  obtain ⟨zs, hS, ez⟩ := txs us fun v hv => by
    obtain ⟨c, hc, e⟩ := List.mem_map.mp (pm.mem_iff.mp hv)
    exact ⟨c, hc, e.symm⟩
  have pz : zs.Perm (cs.toList.map txOf) := by
    rw [ez]
    have z := pm.map fun v => txOf ((0 : Int), v)
    rw [List.map_map] at z
    exact z
  refine wpAny_bind (wpAny_newList ?_ (by rw [lu, sizeLine_eq]; omega))
  have atL : (s1.heap.push (seqObj "list" us.toArray 0)).get? s1.heap.objs.size = some (seqObj "list" us.toArray 0) := Heap.get?_push_size _ rfl
  refine wpAny_bind (wpAny_holding (wpAny_call_entry PyProof.Rows.slot_list_sort ⟨_, atL, rfl⟩ PyProof.Rows.entry_list_sort
    (list_sort_treeK strKind_oneLt atL hS.keysOf (fun u1 u2 more e => keyKind_strs (by rw [← e]; exact hS)) (by rw [lu]; exact few) fun st pp sp => ⟨_, rfl, ?_⟩) (PyProof.Rows.args_list_sort _)))
  obtain ⟨ys, g1, g2, g3⟩ := sorted_out_str hS pp sp
  obtain ⟨c, hc⟩ := PyProof.Rows.sortedHeap_at (vs := us) (out := (arrOf st).map (·.2)) atL
  have py := g2.trans pz
  refine wpAny_pure ⟨_, rfl, fin _ s1.heap.objs.size ((arrOf st).map (·.2)) c ys (fun b u e => ?_) hg ho hz hc g1 g3 (py.nodup_iff.mpr nd) (fun x => py.mem_iff.trans (mm x).symm) ?_⟩
  · have lt := Heap.lt_size (kp b u e)
    show (PyProof.Rows.sortedHeap (s1.heap.push (seqObj "list" us.toArray 0)) s1.heap.objs.size us _).get? b = some u
    rw [PyProof.Rows.sortedHeap_old (Nat.ne_of_lt lt) (by rw [size_push']; exact Nat.lt_succ_of_lt lt)]
    exact Heap.get?_push_of_some _ (kp b u e)
  · rw [py.length_eq, List.length_map, Array.length_toList]; exact sz
end
/-! as rules -/
def TxO (w : World) (a : Addr) (S : Str → Bool) (n : Nat) : HO := .ext fun h => TxSet w h a S n
section
variable {X : Cx}
def rTxSet (K : PySem.W.Frag) (w : World) : List V → Hp → VK → Prop := fun xs H Q => ∃ (l : Addr) (zs : List Str), xs = [V.ref l] ∧ SqL K H l (zs.map V.str) ∧ zs.length < 1000 ∧
  ∀ a m, H a = none → m ≤ zs.length → Q (.ref a) (upd H a (TxO w a (fun y => decide (y ∈ zs)) m))
theorem cr_txSet (hc : X.calm = true) : CallR X (.type "set") (rTxSet X.K X.w) := by
  intro pins s σ H xs us Q I r h
  obtain ⟨l, zs, rfl, hl, few, q⟩ := h
  rw [Vals.ref1 r]
  obtain ⟨its, rv, pl, hz⟩ := I.list hl
  have free : H s.heap.objs.size = none := I.hok.fresh (Nat.le_refl _)
  refine call_set_txs (P := X.prog) (w := X.w) zs (I.ok.hd hc) pl.isList rv.strs (by unfold scanBound; omega) fun h' tk m R hm kp => ?_
  have R' : ∀ H2 : Hp, ObjOk X.prog X.w H2 h' s.heap.objs.size (TxO X.w s.heap.objs.size (fun y => decide (y ∈ zs)) m) := fun H2 => by
    have ⟨ob, _, _, _, hob, _⟩ := R
    exact ⟨R, ⟨ob, hob⟩, fun h1 h2 p k => p.keep k⟩
  exact ⟨.ref s.heap.objs.size, _, I.laid (t' := tk) kp (Nat.le_refl _) (R' _), rfl, q _ m free hm⟩
def rTxSorted (w : World) : List V → Hp → VK → Prop := fun xs H Q => ∃ (d : Addr) (S : Str → Bool) (n : Nat), xs = [V.ref d] ∧ H d = some (TxO w d S n) ∧ n < 64 ∧
  ∀ (ys : List Str) (p : Addr), sortedS ys = true → ys.Nodup → (∀ x, x ∈ ys ↔ S x = true) → ys.length = n → H p = none → Q (.ref p) (upd H p (.lst (ys.map V.str)))
theorem cr_txSorted (hc : X.calm = true) : CallR X (.builtin "sorted") (rTxSorted X.w) := by
  intro pins s σ H xs us Q I r h
  obtain ⟨d, S, n, rfl, hd, few, q⟩ := h
  have R : TxSet X.w s.heap d S n := (I.hok d _ hd).1
  rw [Vals.ref1 r]
  refine call_sorted_txs (P := X.prog) R (I.ok.hd hc) few fun s' p out c ys kp hg ho hp at' hS so nd mem len => ?_
  have le : (ys.map V.str).length ≤ sizeLine := by rw [List.length_map, len, sizeLine_eq]; omega
  have free : H p = none := I.hok.fresh hp
  have J : Inv X pins σ (upd H p (.lst (ys.map V.str))) { s with heap := s'.heap, gens := s'.gens, drawn := s'.drawn, toks := s'.toks } :=
    I.call (ch := []) (Un.laid kp hp free) (I.hok.laid kp hp ⟨le, out.toList, c, vals_of_strs hS, at'⟩) (by rw [hg]; exact I.bare) (fun _ z => nomatch z)
  have e : s' = { s with heap := s'.heap, gens := s'.gens, drawn := s'.drawn, toks := s'.toks } := by
    obtain ⟨h1, h2, h3, h4, h5⟩ := s'
    cases ho
    rfl
  rw [e]
  exact ⟨.ref p, _, J, rfl, q ys p so nd mem len free⟩
end
end Sc
namespace Sc
open PySem PySem.Spec PyProof.Rows L2
/-! one sign, many times -/
def reps (c n : Nat) : Str := ⟨(List.replicate n c).toArray⟩
theorem fold_reps (c : Nat) : ∀ (n : Nat) (acc : Array Nat), (List.replicate n #[c]).foldl (· ++ ·) acc = acc ++ (List.replicate n c).toArray
  | 0, acc => by simp
  | n + 1, acc => by
    rw [List.replicate_succ, List.foldl_cons, fold_reps c n]
    apply Array.ext'
    simp [List.replicate_succ]
section
variable {X : Cx}
def rReps : V → V → Hp → VK → Prop := fun x y H Q => ∃ (c : Nat) (k : Int), x = .str ⟨#[c]⟩ ∧ y = .int k ∧ 0 ≤ k ∧ k ≤ 1000 ∧ Q (.str (reps c k.toNat)) H
theorem op_reps : OpR X (binaryOp .Mult) rReps := by
  intro pins s σ H x y v u Q I rx ry h
  obtain ⟨c, k, rfl, rfl, h0, h1, q⟩ := h
  obtain ⟨t, rfl⟩ := rx
  obtain ⟨t', rfl⟩ := ry
  have ln : (⟨#[c]⟩ : Str).length = 1 := rfl
  refine PySem.P.mul_str (by rw [decide_eq_false (by omega), decide_eq_false (by omega)]; rfl) (fun a b => ?_) (fun a b => ?_) ?_
  · rw [ln]
    have hk : k ≠ 0 := by omega
    have : 1 * k ≤ 2 ^ 63 - 1 := by omega
    have := (Int.le_ediv_iff_mul_le (a := 1) (b := 2 ^ 63 - 1) (c := k) (by omega)).mpr this
    show ¬ (1 : Int) > (2 ^ 63 - 1) / k
    omega
  · rw [ln]
    unfold Builtin.Str.tooLong
    rw [decide_eq_false]
    rw [sizeLine_eq]
    omega
  · by_cases a : k < 1
    · rw [if_pos a]
      have e : reps c k.toNat = Str.empty := by rw [show k.toNat = 0 by omega]; rfl
      rw [e] at q
      exact ⟨by decide, ⟨.str Str.empty, H, I.tok _, ⟨_, rfl⟩, q⟩⟩
    · rw [if_neg a]
      by_cases b : k = 1
      · subst b
        simp only [beq_self_eq_true, Bool.true_or, if_true]
        exact ⟨.str ⟨#[c]⟩, H, I, ⟨_, rfl⟩, q⟩
      · have e : (k == 1 || (⟨#[c]⟩ : Str).length == 0) = false := by
          rw [ln]
          simp [b]
        rw [if_neg (by rw [e]; exact Bool.false_ne_true)]
        have e2 : (⟨(List.replicate k.toNat (⟨#[c]⟩ : Str).cps).foldl (· ++ ·) #[]⟩ : Str) = reps c k.toNat := by
          unfold reps
          rw [show (⟨#[c]⟩ : Str).cps = #[c] from rfl, fold_reps]
          simp
        rw [e2]
        refine ⟨?_, ⟨.str (reps c k.toNat), H, I.tok _, ⟨_, rfl⟩, q⟩⟩
        show (reps c k.toNat).cps.size ≤ _
        unfold reps
        rw [List.size_toArray, List.length_replicate]
        first | omega | (rw [sizeLine_eq]; omega)
end

/-! ### defs that may be called, defs that stand -/
structure Cal (P : Program) (w : World) (K : PySem.W.Frag) (mg : Str → Option Value) (base : Heap) (k : Nat) (x : Str) (ps : List Str) (sp : Sp) : Prop where
  ex : ∃ f fd, FnOk P w K mg base CX0 k f fd ps sp ∧ mg x = some (.ref f) ∧ PySem.W.keepIn K (.ref f) = true ∧ Binds K fd ps []
structure Def (K : PySem.W.Frag) (mg : Str → Option Value) (x : Str) (st : Stmt) (ps : List Str) : Prop where
  ex : ∃ f fd, Fun K x x st f fd ∧ mg x = some (.ref f) ∧ Binds K fd ps []
theorem Cal.mono {P : Program} {w : World} {K : PySem.W.Frag} {mg : Str → Option Value} {base : Heap} {j k : Nat} {x : Str} {ps : List Str} {sp : Sp} (C : Cal P w K mg base j x ps sp) (h : j ≤ k) : Cal P w K mg base k x ps sp := by
  obtain ⟨f, fd, a, b⟩ := C.ex
  exact ⟨f, fd, a.mono h, b⟩
theorem Cal.imp {P : Program} {w : World} {K : PySem.W.Frag} {mg : Str → Option Value} {base : Heap} {k : Nat} {x : Str} {ps : List Str} {sp sp' : Sp} (C : Cal P w K mg base k x ps sp) (h : ∀ vs H Q E, sp' vs H Q E → sp vs H Q E) : Cal P w K mg base k x ps sp' := by
  obtain ⟨f, fd, a, b⟩ := C.ex
  exact ⟨f, fd, a.imp h, b⟩
theorem Def.never {P : Program} {w : World} {K : PySem.W.Frag} {mg : Str → Option Value} {base : Heap} {x : Str} {st : Stmt} {ps : List Str} {sp : Sp} (D : Def K mg x st ps) (no : ∀ vs H Q E, ¬ sp vs H Q E) : Cal P w K mg base 0 x ps sp := by
  obtain ⟨f, fd, F, m, b⟩ := D.ex
  exact ⟨f, fd, ⟨fun vs H Q E h => absurd h (no vs H Q E), fun A outer s H args us vs Q E _ _ _ _ h => absurd h (no vs H Q E)⟩, m, F.kp, b⟩
theorem Def.ok {P : Program} {w : World} {K : PySem.W.Frag} {mg : Str → Option Value} {base : Heap} {x : Str} {st : Stmt} {N ps : List Str} {k : Nat} {sp : Sp} (D : Def K mg x st ps) (S : FnScope N ps (defScope st)) (len : ∀ vs H Q E, sp vs H Q E → vs.length = ps.length)
    (body : ∀ (f : Addr) (cdv : Value) (A : Around) (outer : List Env) (s : Shared) (H : Hp) (vs : List V) (Q : VK) (E : XK), Room k (A.deeper (envOfC x (defScope st) s.heap.objs.size f cdv)) → sp vs H Q E →
      ∃ t, PSs (cxOf CX0 P w K mg base N x (defScope st) f cdv A outer s H E).nox (defBody st) t ∧ t { nx := fun _ H' => Q .non H', rt := Q } (start N vs) H) : Cal P w K mg base (k + 1) x ps sp := by
  obtain ⟨f, fd, F, m, b⟩ := D.ex
  exact ⟨f, fd, F.ok S len fun cdv A outer s H vs Q E hr h => body f cdv A outer s H vs Q E hr h, m, F.kp, b⟩
section
variable {X : Cx} {k : Nat} {x : Str} {ps : List Str} {sp : Sp} {e : Expr} {es : List Expr} {t : TA} {p pos : Pos}
theorem pe_cal (C : Cal X.prog X.w X.K X.mg X.base k x ps sp) (hr : Room k X.A) (ha : PA X (e :: es) t) (hg : Gl X x := by rfl) (hdb : (x == ("__debug__" : Str)) = false := by decide)
    (he : starEach (e :: es) X.env = (false, eval e X.env) :: starEach es X.env := by rfl) (hpl : (backTo pos (starEach es X.env)).any (·.1) = false := by rfl) :
    PE X (.Call (.Name x p) (e :: es) [] pos) (tCall sp [] E0 t) := by
  obtain ⟨f, fd, F, m, kp, b⟩ := C.ex
  exact pe_call F hr hg m kp b .nil pass0 ha hdb he hpl
end
/-! ### heaps -/
/-- all that was tracked, but what stands at s, is as it was -/
def Ext (s : Addr) (H H' : Hp) : Prop := ∀ b o, b ≠ s → H b = some o → H' b = some o
theorem Ext.refl (s : Addr) (H : Hp) : Ext s H H := fun _ _ _ h => h
theorem Ext.trans {s : Addr} {H H1 H2 : Hp} (a : Ext s H H1) (b : Ext s H1 H2) : Ext s H H2 := fun c o n h => b c o n (a c o n h)
theorem Ext.upd (s : Addr) (H : Hp) (o : HO) : Ext s H (upd H s o) := fun b u n h => by rw [upd_ne n]; exact h
theorem Ext.new {s p : Addr} {H : Hp} (o : HO) (hp : H p = none) : Ext s H (L2.upd H p o) := fun b u _ h => by
  rw [upd_ne (ne_of_none h hp)]; exact h
theorem Ext.same {s : Addr} {H H' : Hp} (e : Same H H') : Ext s H H' := fun b o _ h => e b o h
theorem same_new {H : Hp} {p : Addr} (h : H p = none) (o : HO) : Same H (upd H p o) := fun b u q => by rw [upd_ne (ne_of_none q h)]; exact q
theorem Ext.free {s l : Addr} {H H' : Hp} {o : HO} (e : Ext s H H') (hs : H s = some o) (hs' : ∃ o', H' s = some o') (h : H' l = none) : H l = none := by
  by_cases z : l = s
  · subst z
    obtain ⟨o', e'⟩ := hs'
    rw [e'] at h
    cases h
  · cases q : H l with
    | none => rfl
    | some u => rw [e l u z q] at h; cases h
theorem Ext.seq {K : PySem.W.Frag} {s a : Addr} {H H' : Hp} {kvs : List (Key × V)} {xs : List V} (e : Ext s H H') (hs : H s = some (.dK kvs)) (h : SqL K H a xs) : SqL K H' a xs := by
  have ne : ∀ o, (∀ q : HO.dK kvs = o, False) → H a = some o → a ≠ s := fun o hq ha z => by
    subst z; rw [hs] at ha; exact hq (Option.some.inj ha)
  rcases h with (h | ⟨o, h⟩) | h
  · exact .inl (.inl (e _ _ (ne _ (fun q => by cases q) h) h))
  · exact .inl (.inr ⟨o, e _ _ (ne _ (fun q => by cases q) h) h⟩)
  · exact .inr h
theorem Ext.tup {K : PySem.W.Frag} {s a : Addr} {H H' : Hp} {kvs : List (Key × V)} {xs : List V} (e : Ext s H H') (hs : H s = some (.dK kvs)) (h : SqT K H a xs) : SqT K H' a xs := by
  have ne : ∀ o, (∀ q : HO.dK kvs = o, False) → H a = some o → a ≠ s := fun o hq ha z => by
    subst z; rw [hs] at ha; exact hq (Option.some.inj ha)
  rcases h with (h | ⟨o, h⟩) | h
  · exact .inl (.inl (e _ _ (ne _ (fun q => by cases q) h) h))
  · exact .inl (.inr ⟨o, e _ _ (ne _ (fun q => by cases q) h) h⟩)
  · exact .inr h
theorem Same.tup {K : PySem.W.Frag} {a : Addr} {H H' : Hp} {xs : List V} (e : Same H H') (h : SqT K H a xs) : SqT K H' a xs := by
  rcases h with (h | ⟨o, h⟩) | h
  · exact .inl (.inl (e _ _ h))
  · exact .inl (.inr ⟨o, e _ _ h⟩)
  · exact .inr h
/-- tuples are kept: what a kind wants -/
def Keep (K : PySem.W.Frag) (H H' : Hp) : Prop := ∀ a xs, SqT K H a xs → SqT K H' a xs
theorem Keep.refl {K : PySem.W.Frag} (H : Hp) : Keep K H H := fun _ _ h => h
theorem Keep.trans {K : PySem.W.Frag} {H H1 H2 : Hp} (e : Keep K H H1) (f : Keep K H1 H2) : Keep K H H2 := fun _ _ h => f _ _ (e _ _ h)
theorem Ext.keep {K : PySem.W.Frag} {s : Addr} {H H' : Hp} {kvs : List (Key × V)} (e : Ext s H H') (hs : H s = some (.dK kvs)) : Keep K H H' := fun _ _ h => e.tup hs h
theorem Same.keep {K : PySem.W.Frag} {H H' : Hp} (e : Same H H') : Keep K H H' := fun _ _ h => Same.tup e h
/-- what may be stored to -/
def Soft : HO → Prop
  | .lst _ => True
  | .dK _ => True
  | _ => False
theorem Keep.upd {K : PySem.W.Frag} {H : Hp} {D : Addr} {o0 : HO} (h : H D = some o0) (t : Soft o0) (o : HO) : Keep K H (L2.upd H D o) := fun a xs q => by
  have ne : ∀ u, H a = some u → ¬ Soft u → a ≠ D := fun u e n z => by
    subst z
    rw [h] at e
    exact n (Option.some.inj e ▸ t)
  rcases q with (q | ⟨u, q⟩) | q
  · exact .inl (.inl (by rw [upd_ne (ne _ q (fun z => z))]; exact q))
  · exact .inl (.inr ⟨u, by rw [upd_ne (ne _ q (fun z => z))]; exact q⟩)
  · exact .inr q
/-- data of tuples, texts, numbers, truths, None -/
inductive Dt (K : PySem.W.Frag) (H : Hp) : V → PyData → Prop
  | non : Dt K H .non .none
  | bl (b : Bool) : Dt K H (.bl b) (.bool b)
  | int (i : Int) : Dt K H (.int i) (.int i)
  | str (x : Str) : Dt K H (.str x) (.str x)
  | tup {a : Addr} (vs : List V) {ds : List PyData} : SqT K H a vs → vs.length = ds.length → (∀ (j : Nat) (v : V) (d : PyData), vs[j]? = some v → ds[j]? = some d → Dt K H v d) → Dt K H (.ref a) (.tuple ds)
def Dts (K : PySem.W.Frag) (H : Hp) (vs : List V) (ds : List PyData) : Prop := vs.length = ds.length ∧ ∀ (j : Nat) (v : V) (d : PyData), vs[j]? = some v → ds[j]? = some d → Dt K H v d
theorem Dts.nil {K : PySem.W.Frag} {H : Hp} : Dts K H [] [] := ⟨rfl, fun j v d h => by simp at h⟩
theorem Dts.cons {K : PySem.W.Frag} {H : Hp} {v : V} {d : PyData} {vs : List V} {ds : List PyData} (h : Dt K H v d) (t : Dts K H vs ds) : Dts K H (v :: vs) (d :: ds) := ⟨congrArg (· + 1) t.1, fun j u e h1 h2 => by
  cases j with
  | zero => cases h1; cases h2; exact h
  | succ j => exact t.2 j u e h1 h2⟩
theorem Dts.head {K : PySem.W.Frag} {H : Hp} {v : V} {d : PyData} {vs : List V} {ds : List PyData} (h : Dts K H (v :: vs) (d :: ds)) : Dt K H v d := h.2 0 v d rfl rfl
theorem Dts.tail {K : PySem.W.Frag} {H : Hp} {v : V} {d : PyData} {vs : List V} {ds : List PyData} (h : Dts K H (v :: vs) (d :: ds)) : Dts K H vs ds := ⟨Nat.succ.inj h.1, fun j u e h1 h2 => h.2 (j + 1) u e h1 h2⟩
theorem Dts.at {K : PySem.W.Frag} {H : Hp} {vs : List V} {ds : List PyData} {j : Nat} {v : V} (h : Dts K H vs ds) (e : vs[j]? = some v) : ∃ d, ds[j]? = some d ∧ Dt K H v d := by
  have lt : j < ds.length := h.1 ▸ (List.getElem?_eq_some_iff.mp e).1
  exact ⟨ds[j], List.getElem?_eq_getElem lt, h.2 j v _ e (List.getElem?_eq_getElem lt)⟩
theorem Dts.snoc {K : PySem.W.Frag} {H : Hp} {v : V} {d : PyData} {vs : List V} {ds : List PyData} (t : Dts K H vs ds) (h : Dt K H v d) : Dts K H (vs ++ [v]) (ds ++ [d]) := by
  refine ⟨by rw [List.length_append, List.length_append, t.1]; rfl, fun j u e h1 h2 => ?_⟩
  by_cases lt : j < vs.length
  · rw [List.getElem?_append_left lt] at h1
    rw [List.getElem?_append_left (t.1 ▸ lt)] at h2
    exact t.2 j u e h1 h2
  · rw [List.getElem?_append_right (by omega)] at h1
    rw [List.getElem?_append_right (by have := t.1; omega)] at h2
    have z : j - vs.length = 0 := by
      have := (List.getElem?_eq_some_iff.mp h1).1
      simp at this
      omega
    rw [z] at h1
    rw [← t.1, z] at h2
    cases h1; cases h2; exact h
theorem Dts.tup {K : PySem.W.Frag} {H : Hp} {a : Addr} {vs : List V} {ds : List PyData} (t : Dts K H vs ds) (h : SqT K H a vs) : Dt K H (.ref a) (.tuple ds) := .tup vs h t.1 t.2
theorem Dt.open {K : PySem.W.Frag} {H : Hp} {v : V} {ds : List PyData} (h : Dt K H v (.tuple ds)) : ∃ a vs, v = .ref a ∧ SqT K H a vs ∧ Dts K H vs ds := by
  cases h with
  | tup vs hs hl ha => exact ⟨_, vs, rfl, hs, hl, ha⟩
theorem Keep.dt {K : PySem.W.Frag} {H H' : Hp} (e : Keep K H H') {v : V} {d : PyData} (h : Dt K H v d) : Dt K H' v d := by
  induction h with
  | non => exact .non
  | bl b => exact .bl b
  | int i => exact .int i
  | str x => exact .str x
  | tup vs hs hl _ ih => exact .tup vs (e _ _ hs) hl ih
theorem Keep.dts {K : PySem.W.Frag} {H H' : Hp} (e : Keep K H H') {vs : List V} {ds : List PyData} (h : Dts K H vs ds) : Dts K H' vs ds := ⟨h.1, fun j v d a b => e.dt (h.2 j v d a b)⟩
theorem dpAll_of {K : PySem.W.Frag} {H : Hp} : ∀ {vs : List V} {ds : List PyData}, vs.length = ds.length → (∀ (j : Nat) (v : V) (d : PyData), vs[j]? = some v → ds[j]? = some d → Dp K H v d) → DpAll K H vs ds
  | [], [], _, _ => .nil
  | v :: vs, d :: ds, hl, h => .cons (h 0 v d rfl rfl) (dpAll_of (Nat.succ.inj hl) fun j u e a b => h (j + 1) u e a b)
theorem Dt.dp {K : PySem.W.Frag} {H : Hp} {v : V} {d : PyData} (h : Dt K H v d) : Dp K H v d := by
  induction h with
  | non => exact .non
  | bl b => exact .bl b
  | int i => exact .int i
  | str x => exact .str x
  | tup vs hs hl _ ih => exact .tup hs (dpAll_of hl ih)
/-! ### a law's state -/
structure Inf where
  c : Addr
  f : Addr
  size : Int
  place : Int
  turn : Int
  odd : Int
  talk : Int
structure Mv where
  att : Int
  rest : Int
  seed : Int
def stD (i : Inf) (m : Mv) : List (Key × V) :=
  [(.inr "cells", .ref i.c), (.inr "at", .int m.att), (.inr "size", .int i.size), (.inr "place", .int i.place), (.inr "turn", .int i.turn),
   (.inr "rest", .int m.rest), (.inr "functions", .ref i.f), (.inr "odd", .int i.odd), (.inr "talk", .int i.talk), (.inr "seed", .int m.seed)]
theorem p_at (i : Inf) (m : Mv) (n : Int) : putK (stD i m) (.inr "at") (.int n) = stD i { m with att := n } := by rfl
theorem p_rest (i : Inf) (m : Mv) (n : Int) : putK (stD i m) (.inr "rest") (.int n) = stD i { m with rest := n } := by rfl
theorem p_seed (i : Inf) (m : Mv) (n : Int) : putK (stD i m) (.inr "seed") (.int n) = stD i { m with seed := n } := by rfl
theorem p_size (i : Inf) (m : Mv) (n : Int) : putK (stD i m) (.inr "size") (.int n) = stD { i with size := n } m := by rfl
theorem p_place (i : Inf) (m : Mv) (n : Int) : putK (stD i m) (.inr "place") (.int n) = stD { i with place := n } m := by rfl
theorem p_turn (i : Inf) (m : Mv) (n : Int) : putK (stD i m) (.inr "turn") (.int n) = stD { i with turn := n } m := by rfl
theorem p_talk (i : Inf) (m : Mv) (n : Int) : putK (stD i m) (.inr "talk") (.int n) = stD { i with talk := n } m := by rfl
structure Inf.Ok (i : Inf) : Prop where
  s1 : 1 ≤ i.size
  s8 : i.size ≤ 8
  p0 : 0 ≤ i.place
  p1 : i.place < i.size
  t0 : 0 ≤ i.turn
  t1 : i.turn < 26
  k0 : 0 ≤ i.talk
  k1 : i.talk ≤ 1
structure Mv.Ok (m : Mv) : Prop where
  a0 : 0 ≤ m.att
  r0 : 0 ≤ m.rest
  e0 : 0 ≤ m.seed
/-- at s stands a law's state -/
def IsS (K : PySem.W.Frag) (H : Hp) (s : Addr) (i : Inf) : Prop := ∃ (ns : List Int) (m : Mv),
  H s = some (.dK (stD i m)) ∧ SqL K H i.c (ns.map V.int) ∧ ns.length ≤ 63 ∧ i.Ok ∧ m.Ok
theorem IsS.dk {K : PySem.W.Frag} {H : Hp} {s : Addr} {i : Inf} (h : IsS K H s i) : ∃ kvs, H s = some (.dK kvs) := let ⟨_, _, h, _⟩ := h; ⟨_, h⟩
theorem IsS.same {K : PySem.W.Frag} {H H' : Hp} {s : Addr} {i : Inf} (h : IsS K H s i) (e : Same H H') : IsS K H' s i := by
  obtain ⟨ns, m, a, b, c⟩ := h
  exact ⟨ns, m, e _ _ a, Same.seq e b, c⟩
theorem IsS.keep {K : PySem.W.Frag} {H H' : Hp} {s : Addr} {i : Inf} (h : IsS K H s i) (e : Ext s H H') : Keep K H H' := by
  obtain ⟨kvs, hk⟩ := h.dk
  exact e.keep hk
theorem IsS.seq {K : PySem.W.Frag} {H H' : Hp} {s a : Addr} {i : Inf} {xs : List V} (h : IsS K H s i) (e : Ext s H H') (q : SqL K H a xs) : SqL K H' a xs := by
  obtain ⟨kvs, hk⟩ := h.dk
  exact e.seq hk q
theorem IsS.ne {K : PySem.W.Frag} {H : Hp} {s D : Addr} {i : Inf} (h : IsS K H s i) (hD : H D = none) : D ≠ s := fun z => by
  obtain ⟨kvs, hk⟩ := h.dk
  rw [z, hk] at hD
  cases hD
/-- a list that is filled at D stands beside the state -/
theorem IsS.over {K : PySem.W.Frag} {H1 H3 : Hp} {s D : Addr} {i : Inf} {o : HO} (a : IsS K H1 s i) (b : IsS K H3 s i) (x : Ext s H1 (upd H3 D o)) (n : D ≠ s) : IsS K (upd H3 D o) s i := by
  obtain ⟨ns, m, a1, a2, a3, a4, _⟩ := a
  obtain ⟨_, m3, b1, _, _, _, b5⟩ := b
  exact ⟨ns, m3, by rw [upd_ne n.symm]; exact b1, x.seq a1 a2, a3, a4, b5⟩
theorem Ext.over {H1 H3 : Hp} {s D : Addr} (x : Ext s H1 H3) (hD : H1 D = none) (o : HO) : Ext s H1 (L2.upd H3 D o) := fun b u n h => by
  rw [upd_ne (ne_of_none h hD)]
  exact x b u n h
theorem gS {H : Hp} {s : Addr} {i : Inf} {m : Mv} {k : Str} {v : V} (h : H s = some (.dK (stD i m))) (e : valV (stD i m) (.inr k) = some v) : DGet H s (.str k) (some v) := by
  rw [← e]; exact DGet.k (k := Sum.inr k) h
theorem pS {H : Hp} {s : Addr} {i i' : Inf} {m m' : Mv} {k : Str} {v : V} (h : H s = some (.dK (stD i m))) (e : putK (stD i m) (.inr k) v = stD i' m') : DPut H s (.str k) v (upd H s (.dK (stD i' m'))) := by
  rw [← e]; exact DPut.k (k := Sum.inr k) h (by show 10 < sizeLine; decide)
/-- what a drawn number promises -/
def spTaken (K : PySem.W.Frag) : Sp := fun vs H Q _ => ∃ (s : Addr) (i : Inf) (m : Int), vs = [.ref s, .int m] ∧ IsS K H s i ∧ 0 < m ∧ m.natAbs < 2 ^ 200 ∧
  ∀ (r : Int) (H' : Hp), 0 ≤ r → r < m → Ext s H H' → IsS K H' s i → Q (.int r) H'
end Sc
namespace Sc
open PySem PySem.Spec PyProof.Rows L2
/-- the state that a law begins with -/
def spBegun (K : PySem.W.Frag) : Sp := fun vs H Q _ => ∃ (c : Addr) (ns : List Int), vs = [.ref c] ∧ SqL K H c (ns.map V.int) ∧ ns.length ≤ 63 ∧
  ∀ (s : Addr) (i : Inf) (H' : Hp), Same H H' → H s = none → i.c = c → i.odd = 0 → H' i.f = some (.lst []) → H i.f = none → IsS K H' s i → Q (.ref s) H'
end Sc
namespace Sc
open PySem PySem.Spec PyProof.Rows L2
/-! ### words -/
/-- one to eight of the letters from a to z -/
def Word (z : Str) : Prop := 1 ≤ z.cps.toList.length ∧ z.cps.toList.length ≤ 8 ∧ ∀ c ∈ z.cps.toList, 97 ≤ c ∧ c ≤ 122
def talks : List Str := ["size", "at", "row", "is", "has", "get", "put", "look", "let", "each", "fold", "if", "plus", "minus", "join", "push", "name", "text", "book"]
def signAt (n : Nat) : Str := ⟨#[n]⟩
/-- the word of a number -/
def wordOf (i : Inf) (k : Int) : Str :=
  if i.talk = 1 ∧ k < 19 then talks.getD k.toNat Str.empty else reps 113 i.place.toNat ++ signAt (97 + ((k + i.turn) % 26).toNat) ++ reps 113 (i.size - i.place - 1).toNat
theorem app_list (x y : Str) : (x ++ y).cps.toList = x.cps.toList ++ y.cps.toList := Array.toList_append
theorem len_list (x : Str) : x.length = x.cps.toList.length := (Array.length_toList ..).symm
theorem reps_list (c n : Nat) : (reps c n).cps.toList = List.replicate n c := rfl
instance (z : Str) : Decidable (Word z) := by unfold Word; infer_instance
theorem talks_word : ∀ z ∈ talks, Word z := by decide +kernel
theorem word_of {i : Inf} (h : i.Ok) {k : Int} (k0 : 0 ≤ k) : Word (wordOf i k) := by
  unfold wordOf
  split
  · rename_i c
    have lt : k.toNat < talks.length := by show k.toNat < 19; omega
    rw [List.getD_eq_getElem?_getD, List.getElem?_eq_getElem lt]
    exact talks_word _ (List.getElem_mem lt)
  · obtain ⟨s1, s8, p0, p1, t0, t1, _, _⟩ := h
    refine ⟨?_, ?_, fun c hc => ?_⟩
    · rw [app_list, app_list, reps_list, reps_list, List.length_append, List.length_append, List.length_replicate, List.length_replicate]
      show 1 ≤ _ + 1 + _
      omega
    · rw [app_list, app_list, reps_list, reps_list, List.length_append, List.length_append, List.length_replicate, List.length_replicate]
      show _ + 1 + _ ≤ 8
      omega
    · rw [app_list, app_list, reps_list, reps_list, List.mem_append, List.mem_append, List.mem_replicate, List.mem_replicate] at hc
      rcases hc with (hc | hc) | hc
      · omega
      · have e : c = 97 + ((k + i.turn) % 26).toNat := List.mem_singleton.mp hc
        omega
      · omega
def spWord (K : PySem.W.Frag) : Sp := fun vs H Q _ => ∃ (s : Addr) (i : Inf) (k : Int), vs = [.ref s, .int k] ∧ IsS K H s i ∧ 0 ≤ k ∧
  ∀ (H' : Hp), Same H H' → Q (.str (wordOf i k)) H'
/-! ### kinds -/
inductive Ch where
  | num | txt
  | row (k : List Ch) | book (k : List Ch)
  | shape (fs : List (Str × List Ch))
  | letter (l : Str) | cut (l : Str) (hs : List Str)
  | any (w : Str) | wth (f : Str)
mutual
/-- a choice as Python's data -/
def pyC : Ch → PyData
  | .num => .tuple [.str "number"]
  | .txt => .tuple [.str "text"]
  | .row k => .tuple [.str "row", .tuple (pyL k)]
  | .book k => .tuple [.str "book", .tuple (pyL k)]
  | .shape fs => .tuple [.str "shape", .tuple (pyF fs)]
  | .letter l => .tuple [.str "letter", .str l]
  | .cut l hs => .tuple [.str "cut", .str l, .tuple (hs.map .str)]
  | .any w => .tuple [.str "some", .str w]
  | .wth f => .tuple [.str "with", .str f]
def pyL : List Ch → List PyData
  | [] => []
  | c :: r => pyC c :: pyL r
def pyF : List (Str × List Ch) → List PyData
  | [] => []
  | (f, k) :: r => .tuple [.str f, .tuple (pyL k)] :: pyF r
end
theorem pyL_map : ∀ k : List Ch, pyL k = k.map pyC
  | [] => rfl
  | c :: r => by rw [pyL, pyL_map r]; rfl
theorem pyF_map : ∀ fs : List (Str × List Ch), pyF fs = fs.map fun p => .tuple [.str p.1, .tuple (pyL p.2)]
  | [] => rfl
  | (f, k) :: r => by rw [pyF, pyF_map r]; rfl
/-- the value v is the kind k, the choice c -/
abbrev IsK (K : PySem.W.Frag) (H : Hp) (v : V) (k : List Ch) : Prop := Dt K H v (.tuple (pyL k))
abbrev IsC (K : PySem.W.Frag) (H : Hp) (v : V) (c : Ch) : Prop := Dt K H v (pyC c)
/-- a shape's fields: some words, ascending -/
def Fld (zs : List Str) : Prop := zs ≠ [] ∧ zs.length ≤ 26 ∧ zs.Nodup ∧ sortedS zs = true ∧ ∀ z ∈ zs, Word z
mutual
/-- what a law draws: to n deep, letters of ls -/
def okC (ls : List Str) : Nat → Ch → Prop
  | _, .num => True
  | _, .txt => True
  | n, .row k => 0 < n ∧ k ≠ [] ∧ k.length ≤ 3 ∧ okL ls (n - 1) k
  | n, .book k => 0 < n ∧ k ≠ [] ∧ k.length ≤ 3 ∧ okL ls (n - 1) k
  | n, .shape fs => 0 < n ∧ fs.length ≤ 2 ∧ Fld (fs.map (·.1)) ∧ okF ls (n - 1) fs
  | _, .letter l => l ∈ ls
  | _, _ => False
def okL (ls : List Str) : Nat → List Ch → Prop
  | _, [] => True
  | n, c :: r => okC ls n c ∧ okL ls n r
def okF (ls : List Str) : Nat → List (Str × List Ch) → Prop
  | _, [] => True
  | n, (f, k) :: r => Word f ∧ k ≠ [] ∧ k.length ≤ 3 ∧ okL ls n k ∧ okF ls n r
end
theorem okL_snoc {ls : List Str} {n : Nat} {c : Ch} (h : okC ls n c) : ∀ {k : List Ch}, okL ls n k → okL ls n (k ++ [c])
  | [], _ => ⟨h, trivial⟩
  | _ :: _, a => ⟨a.1, okL_snoc h a.2⟩
theorem okF_snoc {ls : List Str} {n : Nat} {f : Str} {l : List Ch} (w : Word f) (l0 : l ≠ []) (l3 : l.length ≤ 3) (h : okL ls n l) : ∀ {fs : List (Str × List Ch)}, okF ls n fs → okF ls n (fs ++ [(f, l)])
  | [], _ => ⟨w, l0, l3, h, trivial⟩
  | _ :: _, a => ⟨a.1, a.2.1, a.2.2.1, a.2.2.2.1, okF_snoc w l0 l3 h a.2.2.2.2⟩
/-- a drawn kind, a drawn choice, drawn fields -/
def spKind (K : PySem.W.Frag) (n : Nat) : Sp := fun vs H Q _ => ∃ (s l : Addr) (i : Inf) (d : Nat) (ls : List Str), vs = [.ref s, .int d, .ref l] ∧ IsS K H s i ∧ d < n ∧ SqL K H l (ls.map V.str) ∧ ls.length ≤ 1000 ∧
  ∀ (v : V) (H' : Hp) (k : List Ch), Ext s H H' → IsS K H' s i → IsK K H' v k → k ≠ [] → k.length ≤ 3 → okL ls d k → Q v H'
def spChoice (K : PySem.W.Frag) (n : Nat) : Sp := fun vs H Q _ => ∃ (s l : Addr) (i : Inf) (d : Nat) (ls : List Str), vs = [.ref s, .int d, .ref l] ∧ IsS K H s i ∧ d < n ∧ SqL K H l (ls.map V.str) ∧ ls.length ≤ 1000 ∧
  ∀ (v : V) (H' : Hp) (c : Ch), Ext s H H' → IsS K H' s i → IsC K H' v c → okC ls d c → Q v H'
def spFields (K : PySem.W.Frag) (n : Nat) : Sp := fun vs H Q _ => ∃ (s l : Addr) (i : Inf) (d : Nat) (ls : List Str), vs = [.ref s, .int (d + 1 : Nat), .ref l] ∧ IsS K H s i ∧ d < n ∧ SqL K H l (ls.map V.str) ∧ ls.length ≤ 1000 ∧
  ∀ (v : V) (H' : Hp) (fs : List (Str × List Ch)), Ext s H H' → IsS K H' s i → Dt K H' v (.tuple (pyF fs)) → fs.length ≤ 2 → Fld (fs.map (·.1)) → okF ls d fs → Q v H'
end Sc
namespace Sc
open PySem PySem.Spec PyProof.Rows L2
/-! ### tests that change nothing -/
theorem and_pure {t u : TT} {σ : L2.St} {H : Hp} {Q : Bool → Hp → Prop} (c1 c2 : Bool) (h1 : ∀ R : Bool → Hp → Prop, R c1 H → t σ H R) (h2 : c1 = true → ∀ R : Bool → Hp → Prop, R c2 H → u σ H R) (hT : c1 = true → c2 = true → Q true H) (hF : ¬ (c1 = true ∧ c2 = true) → Q false H) : tAnd t u σ H Q := by
  refine h1 _ (ite2 (fun a => h2 a _ ?_) fun a => hF fun z => a z.1)
  cases b : c2 with
  | true => exact hT a b
  | false => exact hF fun z => by rw [b] at z; exact Bool.false_ne_true z.2
theorem or_pure {t u : TT} {σ : L2.St} {H : Hp} {Q : Bool → Hp → Prop} (c1 c2 : Bool) (h1 : ∀ R : Bool → Hp → Prop, R c1 H → t σ H R) (h2 : c1 = false → ∀ R : Bool → Hp → Prop, R c2 H → u σ H R) (hT : (c1 = true ∨ c2 = true) → Q true H) (hF : c1 = false → c2 = false → Q false H) : tOr t u σ H Q := by
  refine h1 _ (ite2 (fun a => hT (.inl a)) fun a => h2 (Bool.eq_false_iff.mpr a) _ ?_)
  cases b : c2 with
  | true => exact hT (.inr b)
  | false => exact hF (Bool.eq_false_iff.mpr a) b
theorem eqV_str (x y : Str) : decide (V.str x = V.str y) = decide (x = y) := by
  by_cases h : x = y
  · subst h; simp
  · rw [decide_eq_false h, decide_eq_false]; exact fun z => h (V.str.inj z)
theorem eqV_int (x y : Int) : decide (V.int x = V.int y) = decide (x = y) := by
  by_cases h : x = y
  · subst h; simp
  · rw [decide_eq_false h, decide_eq_false]; exact fun z => h (V.int.inj z)
end Sc
namespace Sc
open PySem PySem.Spec PyProof.Rows L2
theorem iteNo {c A B : Prop} [Decidable c] (h : ¬ c) (b : B) : if c then A else B := by rw [if_neg h]; exact b
theorem iteYes {c A B : Prop} [Decidable c] (h : c) (a : A) : if c then A else B := by rw [if_pos h]; exact a
/-! ### values -/
inductive Vl where
  | num (n : Int) | text (t : Str)
  | row (xs : List Vl) | book (xs : List (Str × Vl)) | shape (xs : List (Str × Vl))
/-- the value x stands at v, its objects among B -/
inductive IsV (H : Hp) (B : Addr → Prop) : V → Vl → Prop
  | num (n : Int) : IsV H B (.int n) (.num n)
  | text (t : Str) : IsV H B (.str t) (.text t)
  | row {a : Addr} (vs : List V) (xs : List Vl) : B a → H a = some (.lst vs) → vs.length = xs.length → (∀ (j : Nat) (v : V) (x : Vl), vs[j]? = some v → xs[j]? = some x → IsV H B v x) → IsV H B (.ref a) (.row xs)
  | book {a : Addr} (vs : List V) (xs : List (Str × Vl)) : B a → H a = some (.dK ((xs.map fun q => Sum.inr q.1).zip vs)) → vs.length = xs.length → (xs.map (·.1)).Nodup → (∀ (j : Nat) (v : V) (q : Str × Vl), vs[j]? = some v → xs[j]? = some q → IsV H B v q.2) → IsV H B (.ref a) (.book xs)
  | shape {a : Addr} (as : List Addr) (vs : List V) (xs : List (Str × Vl)) : Fld (xs.map (·.1)) → B a → H a = some (.tup (as.map V.ref)) → as.length = xs.length → vs.length = xs.length →
      (∀ (j : Nat) (b : Addr) (v : V) (q : Str × Vl), as[j]? = some b → vs[j]? = some v → xs[j]? = some q → B b ∧ H b = some (.tup [.str q.1, v])) →
      (∀ (j : Nat) (v : V) (q : Str × Vl), vs[j]? = some v → xs[j]? = some q → IsV H B v q.2) → IsV H B (.ref a) (.shape xs)
theorem IsV.keep {H H' : Hp} {B B' : Addr → Prop} (e : ∀ a o, B a → H a = some o → B' a ∧ H' a = some o) {v : V} {x : Vl} (h : IsV H B v x) : IsV H' B' v x := by
  induction h with
  | num n => exact .num n
  | text t => exact .text t
  | row vs xs b hv hl _ ih => exact .row vs xs (e _ _ b hv).1 (e _ _ b hv).2 hl ih
  | book vs xs b hv hl nd _ ih => exact .book vs xs (e _ _ b hv).1 (e _ _ b hv).2 hl nd ih
  | shape as vs xs fld b ha hl hl2 hp _ ih => exact .shape as vs xs fld (e _ _ b ha).1 (e _ _ b ha).2 hl hl2 (fun j b v q h1 h2 h3 => let ⟨h4, h5⟩ := hp j b v q h1 h2 h3; e _ _ h4 h5) ih
/-- values one by one -/
def IsVs (H : Hp) (B : Addr → Prop) (vs : List V) (xs : List Vl) : Prop := vs.length = xs.length ∧ ∀ (j : Nat) (v : V) (x : Vl), vs[j]? = some v → xs[j]? = some x → IsV H B v x
theorem IsVs.nil {H : Hp} {B : Addr → Prop} : IsVs H B [] [] := ⟨rfl, fun j v d h => by simp at h⟩
theorem IsVs.keep {H H' : Hp} {B B' : Addr → Prop} (e : ∀ a o, B a → H a = some o → B' a ∧ H' a = some o) {vs : List V} {xs : List Vl} (h : IsVs H B vs xs) : IsVs H' B' vs xs := ⟨h.1, fun j v x a b => (h.2 j v x a b).keep e⟩
theorem IsVs.snoc {H : Hp} {B : Addr → Prop} {v : V} {d : Vl} {vs : List V} {ds : List Vl} (t : IsVs H B vs ds) (h : IsV H B v d) : IsVs H B (vs ++ [v]) (ds ++ [d]) := by
  refine ⟨by rw [List.length_append, List.length_append, t.1]; rfl, fun j u e h1 h2 => ?_⟩
  by_cases lt : j < vs.length
  · rw [List.getElem?_append_left lt] at h1
    rw [List.getElem?_append_left (t.1 ▸ lt)] at h2
    exact t.2 j u e h1 h2
  · rw [List.getElem?_append_right (by omega)] at h1
    rw [List.getElem?_append_right (by have := t.1; omega)] at h2
    have z : j - vs.length = 0 := by
      have := (List.getElem?_eq_some_iff.mp h1).1
      simp at this
      omega
    rw [z] at h1
    rw [← t.1, z] at h2
    cases h1; cases h2; exact h
/-- what a value's type is -/
def headT : Vl → String
  | .num _ => "int" | .text _ => "str" | .row _ => "list" | .book _ => "dict" | .shape _ => "tuple"
theorem IsV.ty {K : PySem.W.Frag} {H : Hp} {B : Addr → Prop} {v : V} {x : Vl} (h : IsV H B v x) : TyX K H v (.type (headT x)) := by
  cases h with
  | num n => exact .base (.int n)
  | text t => exact .base (.str t)
  | row vs xs b hv => exact .base (.lst hv)
  | book vs xs b hv => exact .base (.dK hv)
  | shape as vs xs _ b ha => exact .base (.tup ha)
/-! ### heads -/
def blank : Str := " "
/-- the head's text of fields, behind the word shape -/
def headV : Vl → Str
  | .num _ => "number" | .text _ => "text" | .row _ => "row" | .book _ => "book" | .shape xs => Txt.join " " ("shape" :: xs.map (·.1))
theorem joinL_cons (S p : List Nat) : ∀ ps : List (List Nat), ps ≠ [] → TL.joinL S (p :: ps) = p ++ (S ++ TL.joinL S ps)
  | [], h => absurd rfl h
  | _ :: _, _ => rfl
end Sc
namespace Sc
open PySem PySem.Spec PyProof.Rows L2
/-- a text of up to three signs, from the blank to ~ but the percent sign -/
def Tex (t : Str) : Prop := t.cps.toList.length ≤ 3 ∧ ∀ c ∈ t.cps.toList, 32 ≤ c ∧ c ≤ 126 ∧ c ≠ 37
def spText (K : PySem.W.Frag) : Sp := fun vs H Q _ => ∃ (s : Addr) (i : Inf), vs = [.ref s] ∧ IsS K H s i ∧
  ∀ (t : Str) (H' : Hp), Ext s H H' → IsS K H' s i → Tex t → Q (.str t) H'
def spNumber (K : PySem.W.Frag) : Sp := fun vs H Q _ => ∃ (s : Addr) (i : Inf), vs = [.ref s] ∧ IsS K H s i ∧
  ∀ (n : Int) (H' : Hp), Ext s H H' → IsS K H' s i → -10 ^ 30 < n → n < 10 ^ 30 → Q (.int n) H'
/-- a drawn value of a kind without letters -/
def spValue (K : PySem.W.Frag) (n : Nat) : Sp := fun vs H Q _ => ∃ (s : Addr) (i : Inf) (v st : V) (d : Nat) (k : List Ch), vs = [.ref s, v, st] ∧ IsS K H s i ∧ d < n ∧ IsK K H v k ∧ k ≠ [] ∧ k.length ≤ 3 ∧ okL [] d k ∧
  ∀ (r : V) (H' : Hp) (x : Vl), Ext s H H' → IsS K H' s i → IsV H' (fun a => H a = none) r x → Q r H'
theorem IsS.freed {K : PySem.W.Frag} {H H' : Hp} {s l : Addr} {i : Inf} (a : IsS K H s i) (b : IsS K H' s i) (e : Ext s H H') (h : H' l = none) : H l = none := by
  obtain ⟨k1, h1⟩ := a.dk
  obtain ⟨k2, h2⟩ := b.dk
  exact e.free h1 ⟨_, h2⟩ h
end Sc
namespace Sc
open PySem PySem.Spec PyProof.Rows L2
/-- what follows, once for all ways -/
theorem seq_with {t u : TS} {D : Ends} {σ : L2.St} {H : Hp} (F : (L2.St → Hp → Prop) → Prop) (h1 : F (u D)) (h2 : F (u D) → t { D with nx := u D } σ H) : tSeq t u D σ H := h2 h1
theorem mem_put {kvs : List (Key × V)} {k : Key} {v : V} {p : Key × V} (h : p ∈ putK kvs k v) : p = (k, v) ∨ p ∈ kvs := by
  unfold putK at h
  split at h
  · obtain ⟨q, hq, e⟩ := List.mem_map.mp h
    by_cases z : q.1 = k
    · rw [if_pos z] at e
      exact .inl (e ▸ z ▸ rfl)
    · rw [if_neg z] at e
      exact .inr (e ▸ hq)
  · rcases List.mem_append.mp h with h | h
    · exact .inr h
    · exact .inl (List.mem_singleton.mp h)
theorem nd_put {kvs : List (Key × V)} (k : Key) (v : V) (nd : (kvs.map (·.1)).Nodup) : ((putK kvs k v).map (·.1)).Nodup := by
  cases z : valV kvs k with
  | none => exact nd_putK v nd z
  | some y =>
    have e : (putK kvs k v).map (·.1) = kvs.map (·.1) := by
      unfold putK
      rw [valV_any, z, if_pos (show (some y).isSome = true from rfl), List.map_map]
      refine List.map_congr_left fun p _ => ?_
      show (if p.1 = k then (p.1, v) else p).1 = p.1
      split <;> rfl
    rw [e]
    exact nd
theorem put_len (kvs : List (Key × V)) (k : Key) (v : V) : (putK kvs k v).length ≤ kvs.length + 1 := by
  unfold putK
  split
  · rw [List.length_map]; omega
  · rw [List.length_append]; exact Nat.le_refl _
/-- a dict of texts with values, as a book -/
theorem book_of {H : Hp} {B : Addr → Prop} : ∀ kvs : List (Key × V), (∀ p ∈ kvs, ∃ t x, p.1 = Sum.inr t ∧ IsV H B p.2 x) → (kvs.map (·.1)).Nodup →
    ∃ (vs : List V) (xs : List (Str × Vl)), kvs = (xs.map fun q => Sum.inr q.1).zip vs ∧ vs.length = xs.length ∧ (xs.map (·.1)).Nodup ∧ (∀ t, t ∈ xs.map (·.1) → (Sum.inr t : Key) ∈ kvs.map (·.1)) ∧ ∀ (j : Nat) (v : V) (q : Str × Vl), vs[j]? = some v → xs[j]? = some q → IsV H B v q.2
  | [], _, _ => ⟨[], [], rfl, rfl, List.nodup_nil, fun t h => by simp at h, fun j v q h => by simp at h⟩
  | (k, v) :: r, h, nd => by
    obtain ⟨t, x, rfl, hx⟩ := h _ List.mem_cons_self
    have nd' : ((Sum.inr t : Key) :: r.map (·.1)).Nodup := nd
    obtain ⟨n1, n2⟩ := List.nodup_cons.mp nd'
    obtain ⟨vs, xs, e, hl, nd2, hm, ha⟩ := book_of r (fun p hp => h p (List.mem_cons_of_mem _ hp)) n2
    refine ⟨v :: vs, (t, x) :: xs, by rw [e]; rfl, congrArg (· + 1) hl, List.nodup_cons.mpr ⟨fun z => n1 (hm t z), nd2⟩, fun u hu => ?_, fun j v' q h1 h2 => ?_⟩
    · rcases List.mem_cons.mp hu with z | z
      · rw [z]; exact List.mem_cons_self
      · exact List.mem_cons_of_mem _ (hm u z)
    · cases j with
      | zero => cases h1; cases h2; exact hx
      | succ j => exact ha j v' q h1 h2
theorem okL_mem {ls : List Str} {n : Nat} {c : Ch} : ∀ {k : List Ch}, okL ls n k → c ∈ k → okC ls n c
  | _ :: _, h, m => by
    rcases List.mem_cons.mp m with z | z
    · rw [z]; exact h.1
    · exact okL_mem h.2 z
theorem okF_mem {ls : List Str} {n : Nat} {p : Str × List Ch} : ∀ {fs : List (Str × List Ch)}, okF ls n fs → p ∈ fs → Word p.1 ∧ p.2 ≠ [] ∧ p.2.length ≤ 3 ∧ okL ls n p.2
  | (_, _) :: _, h, m => by
    rcases List.mem_cons.mp m with z | z
    · rw [z]; exact ⟨h.1, h.2.1, h.2.2.1, h.2.2.2.1⟩
    · exact okF_mem h.2.2.2.2 z
end Sc
namespace Sc
open PySem PySem.Spec PyProof.Rows L2
section
variable {X : Cx}
/-! rules within a comprehension's block: the written part said by its name -/
theorem ix_tupK (K : PySem.W.Frag) (h : X.K = K := by rfl) : IxR X (rIxT K) := h ▸ ix_tup
theorem ix_listK (K : PySem.W.Frag) (h : X.K = K := by rfl) : IxR X (rIxL K) := h ▸ ix_list
end
end Sc
namespace Sc
open PySem PySem.Spec PyProof.Rows L2
theorem Dt.strOf {K : PySem.W.Frag} {H : Hp} {v : V} {z : Str} (h : Dt K H v (.str z)) : v = .str z := by cases h; rfl
theorem Dts.uncons {K : PySem.W.Frag} {H : Hp} {vs : List V} {d : PyData} {ds : List PyData} (h : Dts K H vs (d :: ds)) : ∃ v us, vs = v :: us ∧ Dt K H v d ∧ Dts K H us ds := by
  cases vs with
  | nil => exact absurd h.1 (by simp)
  | cons v us => exact ⟨v, us, rfl, h.head, h.tail⟩
theorem Dts.unnil {K : PySem.W.Frag} {H : Hp} {vs : List V} (h : Dts K H vs []) : vs = [] := List.length_eq_zero_iff.mp h.1
/-- a tuple of a text -/
theorem Dt.one {K : PySem.W.Frag} {H : Hp} {v : V} {z : Str} (h : Dt K H v (.tuple [.str z])) : ∃ a, v = .ref a ∧ SqT K H a [.str z] := by
  obtain ⟨a, vs, rfl, ht, hd⟩ := h.open
  obtain ⟨u, us, rfl, h1, h2⟩ := hd.uncons
  rw [h1.strOf, h2.unnil] at ht
  exact ⟨a, rfl, ht⟩
/-- a tuple of a text and more -/
theorem Dt.two {K : PySem.W.Frag} {H : Hp} {v : V} {z : Str} {d : PyData} (h : Dt K H v (.tuple [.str z, d])) : ∃ a u, v = .ref a ∧ SqT K H a [.str z, u] ∧ Dt K H u d := by
  obtain ⟨a, vs, rfl, ht, hd⟩ := h.open
  obtain ⟨u, us, rfl, h1, h2⟩ := hd.uncons
  obtain ⟨u2, us2, rfl, h3, h4⟩ := h2.uncons
  rw [h1.strOf, h4.unnil] at ht
  exact ⟨a, u2, rfl, ht, h3⟩
theorem drawn_form {d : Nat} {c : Ch} (h : okC [] d c) : c = .num ∨ c = .txt ∨ (∃ d' fs, d = d' + 1 ∧ c = .shape fs ∧ Fld (fs.map (·.1)) ∧ fs.length ≤ 2 ∧ okF [] d' fs) ∨
    ∃ (d' : Nat) (wd : Str) (kk : List Ch), d = d' + 1 ∧ (wd = "row" ∨ wd = "book") ∧ pyC c = .tuple [.str wd, .tuple (pyL kk)] ∧ kk ≠ [] ∧ kk.length ≤ 3 ∧ okL [] d' kk := by
  cases c with
  | num => exact .inl rfl
  | txt => exact .inr (.inl rfl)
  | row k =>
    obtain ⟨h0, h1, h2, h3⟩ : 0 < d ∧ k ≠ [] ∧ k.length ≤ 3 ∧ okL [] (d - 1) k := h
    exact .inr (.inr (.inr ⟨d - 1, "row", k, by omega, .inl rfl, rfl, h1, h2, h3⟩))
  | book k =>
    obtain ⟨h0, h1, h2, h3⟩ : 0 < d ∧ k ≠ [] ∧ k.length ≤ 3 ∧ okL [] (d - 1) k := h
    exact .inr (.inr (.inr ⟨d - 1, "book", k, by omega, .inr rfl, rfl, h1, h2, h3⟩))
  | shape fs =>
    obtain ⟨h0, h1, h2, h3⟩ : 0 < d ∧ fs.length ≤ 2 ∧ Fld (fs.map (·.1)) ∧ okF [] (d - 1) fs := h
    exact .inr (.inr (.inl ⟨d - 1, fs, by omega, rfl, h2, h1, h3⟩))
  | letter l => exact absurd (show l ∈ [] from h) (by simp)
  | cut l hs => exact (show False from h).elim
  | any l => exact (show False from h).elim
  | wth l => exact (show False from h).elim
end Sc
namespace Sc
open PySem PySem.Spec PyProof.Rows L2
/-! ### the names that lead pairs -/
def Names (K : PySem.W.Frag) (H : Hp) (a : Addr) (zs : List Str) : Prop := ∃ ps : List V, SqT K H a ps ∧ ps.length = zs.length ∧ ∀ (j : Nat) (p : V) (z : Str), ps[j]? = some p → zs[j]? = some z → ∃ b us, p = .ref b ∧ SqT K H b (.str z :: us)
theorem names_shape {K : PySem.W.Frag} {H : Hp} {B : Addr → Prop} {v : V} {xs : List (Str × Vl)} (h : IsV H B v (.shape xs)) : ∃ a, v = .ref a ∧ Names K H a (xs.map (·.1)) ∧ Fld (xs.map (·.1)) := by
  cases h with
  | @shape a as vs xs fld b ha hl hl2 hp hv =>
    refine ⟨a, rfl, ⟨as.map V.ref, SqT.of ha, by rw [List.length_map, List.length_map, hl], fun j p z h1 h2 => ?_⟩, fld⟩
    rw [List.getElem?_map] at h1 h2
    obtain ⟨b', h3, rfl⟩ := Option.map_eq_some_iff.mp h1
    obtain ⟨q, h4, rfl⟩ := Option.map_eq_some_iff.mp h2
    have lt : j < vs.length := by rw [hl2]; exact (List.getElem?_eq_some_iff.mp h4).1
    exact ⟨b', [vs[j]], rfl, SqT.of (hp j b' vs[j] q h3 (List.getElem?_eq_getElem lt) h4).2⟩
theorem names_kind {K : PySem.W.Frag} {H : Hp} {v : V} {fs : List (Str × List Ch)} (h : Dt K H v (.tuple (pyF fs))) : ∃ a, v = .ref a ∧ Names K H a (fs.map (·.1)) := by
  obtain ⟨a, ps, rfl, ht, hd⟩ := h.open
  refine ⟨a, rfl, ps, ht, by rw [hd.1, pyF_map, List.length_map, List.length_map], fun j p z h1 h2 => ?_⟩
  obtain ⟨d, h3, h4⟩ := hd.at h1
  rw [pyF_map, List.getElem?_map] at h3
  rw [List.getElem?_map] at h2
  obtain ⟨q, h5, rfl⟩ := Option.map_eq_some_iff.mp h3
  obtain ⟨q', h6, rfl⟩ := Option.map_eq_some_iff.mp h2
  rw [h5] at h6
  cases h6
  obtain ⟨b, u, e, hb, _⟩ := h4.two
  exact ⟨b, [u], e, hb⟩
theorem Keep.names {K : PySem.W.Frag} {H H' : Hp} {a : Addr} {zs : List Str} (e : Keep K H H') (h : Names K H a zs) : Names K H' a zs := by
  obtain ⟨ps, h1, h2, h3⟩ := h
  exact ⟨ps, e _ _ h1, h2, fun j p z g1 g2 => let ⟨b, us, e1, e2⟩ := h3 j p z g1 g2; ⟨b, us, e1, e _ _ e2⟩⟩
theorem Fld.sum {zs : List Str} (h : Fld zs) : (zs.map (·.length)).sum ≤ 208 := by
  obtain ⟨_, h26, _, _, hw⟩ := h
  have g : ∀ zs : List Str, (∀ z ∈ zs, Word z) → (zs.map (·.length)).sum ≤ zs.length * 8 := fun zs => by
    induction zs with
    | nil => exact fun _ => Nat.le_refl _
    | cons z zs ih =>
      intro h
      have := ih fun y hy => h y (List.mem_cons_of_mem _ hy)
      have := (h z List.mem_cons_self).2.1
      rw [List.map_cons, List.sum_cons, len_list, List.length_cons]
      omega
  have := g zs hw
  omega
def spShapeHead (K : PySem.W.Frag) : Sp := fun vs H Q _ => ∃ (a : Addr) (zs : List Str), vs = [.ref a] ∧ Names K H a zs ∧ zs.length ≤ 100 ∧ (zs.map (·.length)).sum ≤ 10000 ∧
  ∀ (H' : Hp), Same H H' → Q (.str (Txt.join " " ("shape" :: zs))) H'
def spHeadOf (K : PySem.W.Frag) : Sp := fun vs H Q _ => ∃ (v : V) (B : Addr → Prop) (x : Vl), vs = [v] ∧ IsV H B v x ∧
  ∀ (H' : Hp), Same H H' → Q (.str (headV x)) H'
theorem sum_le_add (zs : List Str) (n : Nat) : (zs.map (·.length)).sum + zs.length * n = (zs.map fun z => z.length + n).sum := by
  induction zs with
  | nil => simp
  | cons z zs ih =>
    rw [List.map_cons, List.map_cons, List.sum_cons, List.sum_cons, List.length_cons, ← ih, Nat.add_mul]
    omega
/-- shape, and the fields behind it -/
theorem head_text {zs : List Str} (h : zs ≠ []) : Txt.join " " ("shape" :: zs) = ("shape " : Str) ++ Txt.join " " zs := by
  refine TL.ext_tl ?_
  rw [TL.tl_append, TL.join_eq, TL.join_eq, TL.tl_join, TL.tl_join, List.map_cons, joinL_cons _ _ _ (by simpa using h), ← List.append_assoc]
  congr 1
/-! ### words that differ -/
def odds (z : Str) : Nat := (z.cps.toList.filter fun c => decide (c ≠ 113)).length
theorem talks_odds : ∀ z ∈ talks, 2 ≤ odds z := by decide +kernel
theorem talks_nodup : talks.Nodup := by decide +kernel
theorem plain_odds (p c r : Nat) : odds (reps 113 p ++ signAt c ++ reps 113 r) ≤ 1 := by
  unfold odds
  have z : ∀ n, (List.replicate n 113).filter (fun c => decide (c ≠ 113)) = [] := fun n => List.filter_eq_nil_iff.mpr fun a h => by
    rw [(List.mem_replicate.mp h).2]; decide
  rw [app_list, app_list, reps_list, reps_list, List.filter_append, List.filter_append, z, z, List.nil_append, List.append_nil]
  show ([c].filter _).length ≤ 1
  exact List.length_filter_le _ _
theorem word_inj {i : Inf} (ok : i.Ok) {a b : Int} (a0 : 0 ≤ a) (a26 : a < 26) (b0 : 0 ≤ b) (b26 : b < 26) (h : wordOf i a = wordOf i b) : a = b := by
  have tk : ∀ k : Int, 0 ≤ k → k < 19 → ∃ lt : k.toNat < talks.length, talks.getD k.toNat Str.empty = talks[k.toNat] := fun k k0 k1 => by
    have lt : k.toNat < talks.length := by show k.toNat < 19; omega
    exact ⟨lt, by rw [List.getD_eq_getElem?_getD, List.getElem?_eq_getElem lt]; rfl⟩
  unfold wordOf at h
  split at h <;> split at h
  · rename_i ca cb
    obtain ⟨la, ea⟩ := tk a a0 ca.2
    obtain ⟨lb, eb⟩ := tk b b0 cb.2
    rw [ea, eb] at h
    have := (List.getElem_inj talks_nodup).mp h
    omega
  · rename_i ca cb
    obtain ⟨la, ea⟩ := tk a a0 ca.2
    have := talks_odds _ (List.getElem_mem la)
    rw [← ea, h] at this
    exact absurd (Nat.le_trans this (plain_odds _ _ _)) (by decide)
  · rename_i ca cb
    obtain ⟨lb, eb⟩ := tk b b0 cb.2
    have := talks_odds _ (List.getElem_mem lb)
    rw [← eb, ← h] at this
    exact absurd (Nat.le_trans this (plain_odds _ _ _)) (by decide)
  · have e := congrArg (fun z : Str => z.cps.toList[i.place.toNat]?) h
    rw [app_list, app_list, app_list, app_list, reps_list, reps_list] at e
    have g : ∀ c : Nat, (List.replicate i.place.toNat 113 ++ (signAt c).cps.toList ++ List.replicate (i.size - i.place - 1).toNat 113)[i.place.toNat]? = some c := fun c => by
      rw [List.append_assoc, List.getElem?_append_right (by rw [List.length_replicate]; exact Nat.le_refl _), List.length_replicate, Nat.sub_self]
      rfl
    rw [g, g] at e
    have e2 := Option.some.inj e
    have t0 := ok.t0
    have t1 := ok.t1
    omega
end Sc
namespace Sc
open PySem PySem.Spec PyProof.Rows L2
theorem no_bool (x : Vl) : kitB (headT x) "bool" = some false := by
  cases x with
  | num _ => exact (by decide +kernel : kitB "int" "bool" = some false)
  | text _ => exact (by decide +kernel : kitB "str" "bool" = some false)
  | row _ => exact (by decide +kernel : kitB "list" "bool" = some false)
  | book _ => exact (by decide +kernel : kitB "dict" "bool" = some false)
  | shape _ => exact (by decide +kernel : kitB "tuple" "bool" = some false)
theorem joinL_len (S : List Nat) : ∀ ps : List (List Nat), (TL.joinL S ps).length ≤ (ps.map (·.length)).sum + ps.length * S.length
  | [] => Nat.zero_le _
  | [p] => by
    show p.length ≤ [p.length].sum + 1 * _
    simp
  | p :: q :: r => by
    have ih := joinL_len S (q :: r)
    rw [joinL_cons _ _ _ (by simp), List.length_append, List.length_append, List.map_cons, List.sum_cons, List.length_cons, Nat.add_mul]
    omega
theorem join_len (y : Str) (zs : List Str) : (Txt.join y zs).length ≤ (zs.map (·.length)).sum + zs.length * y.length := by
  have e : (Txt.join y zs).length = (TL.joinL (TL.tl y) (zs.map TL.tl)).length := by
    rw [len_list]
    exact congrArg List.length ((congrArg TL.tl (TL.join_eq y zs)).trans (TL.tl_join y zs))
  rw [e]
  refine Nat.le_trans (joinL_len _ _) ?_
  rw [List.map_map, List.length_map, len_list y]
  refine Nat.add_le_add_right (Nat.le_of_eq (congrArg List.sum (List.map_congr_left fun z _ => ?_))) _
  exact (len_list z).symm
end Sc
namespace Sc
open PySem PySem.Spec PyProof.Rows L2
/-! ### the texts of kinds -/
def mkS (l : List Nat) : Str := ⟨l.toArray⟩
theorem tl_mkS (l : List Nat) : TL.tl (mkS l) = l := rfl
theorem mkS_tl (z : Str) : mkS (TL.tl z) = z := TL.ext_tl rfl
def bar : List Nat := TL.tl " | "
def com : List Nat := TL.tl ", "
mutual
/-- the signs of a choice's text -/
def cC : Ch → List Nat
  | .num => TL.tl "number"
  | .txt => TL.tl "text"
  | .row k => TL.tl "row" ++ 40 :: (TL.joinL bar (cL k) ++ [41])
  | .book k => TL.tl "book" ++ 40 :: (TL.joinL bar (cL k) ++ [41])
  | .shape fs => 123 :: (TL.joinL com (cF fs) ++ [125])
  | .letter l => TL.tl l
  | .cut l hs => TL.tl l ++ 40 :: (TL.joinL com (hs.map TL.tl) ++ [41])
  | .any w => TL.tl "some" ++ 32 :: TL.tl w
  | .wth f => TL.tl "with" ++ 32 :: TL.tl f
def cL : List Ch → List (List Nat)
  | [] => []
  | c :: r => cC c :: cL r
def cF : List (Str × List Ch) → List (List Nat)
  | [] => []
  | (f, k) :: r => (TL.tl f ++ 58 :: 32 :: TL.joinL bar (cL k)) :: cF r
end
theorem cL_map : ∀ k : List Ch, cL k = k.map cC
  | [] => rfl
  | c :: r => by rw [cL, cL_map r]; rfl
theorem cF_map : ∀ fs : List (Str × List Ch), cF fs = fs.map fun p => TL.tl p.1 ++ 58 :: 32 :: TL.joinL bar (cL p.2)
  | [] => rfl
  | (f, k) :: r => by rw [cF, cF_map r]; rfl
def txC (c : Ch) : Str := mkS (cC c)
def txK (k : List Ch) : Str := mkS (TL.joinL bar (cL k))
def txF (p : Str × List Ch) : Str := mkS (TL.tl p.1 ++ 58 :: 32 :: TL.joinL bar (cL p.2))
theorem txK_join (k : List Ch) : Txt.join " | " (k.map txC) = txK k := by
  refine TL.ext_tl ?_
  rw [TL.join_eq, TL.tl_join, List.map_map]
  show TL.joinL bar (k.map cC) = TL.joinL bar (cL k)
  rw [cL_map]
mutual
/-- how deep -/
def dC : Ch → Nat
  | .row k => dL k + 1
  | .book k => dL k + 1
  | .shape fs => dF fs + 1
  | _ => 0
def dL : List Ch → Nat
  | [] => 0
  | c :: r => max (dC c) (dL r)
def dF : List (Str × List Ch) → Nat
  | [] => 0
  | (_, k) :: r => max (dL k) (dF r)
end
theorem dL_mem {c : Ch} : ∀ {k : List Ch}, c ∈ k → dC c ≤ dL k
  | d :: r, h => by
    rcases List.mem_cons.mp h with e | e
    · rw [e]; exact Nat.le_max_left _ _
    · exact Nat.le_trans (dL_mem e) (Nat.le_max_right _ _)
theorem dF_mem {p : Str × List Ch} : ∀ {fs : List (Str × List Ch)}, p ∈ fs → dL p.2 ≤ dF fs
  | (f, k) :: r, h => by
    rcases List.mem_cons.mp h with e | e
    · rw [e]; exact Nat.le_max_left _ _
    · exact Nat.le_trans (dF_mem e) (Nat.le_max_right _ _)
theorem joinL_mem (S : List Nat) {p : List Nat} : ∀ {ps : List (List Nat)}, p ∈ ps → p.length ≤ (TL.joinL S ps).length
  | [q], h => by rw [List.mem_singleton.mp h]; exact Nat.le_refl _
  | q :: r :: t, h => by
    rw [joinL_cons _ _ _ (by simp), List.length_append, List.length_append]
    rcases List.mem_cons.mp h with e | e
    · rw [e]; omega
    · have := joinL_mem S (ps := r :: t) e
      omega
theorem joinL_sum (S : List Nat) : ∀ (p : List Nat) (ps : List (List Nat)), (TL.joinL S (p :: ps)).length = p.length + ((ps.map (·.length)).sum + ps.length * S.length)
  | p, [] => by show p.length = _; simp
  | p, q :: r => by
    rw [joinL_cons _ _ _ (by simp), List.length_append, List.length_append, joinL_sum S q r, List.map_cons, List.sum_cons, List.length_cons, Nat.add_mul]
    omega
/-- what join asks of the parts' lengths -/
theorem join_room {y : Str} {zs : List Str} {n : Nat} (h : (TL.joinL (TL.tl y) (zs.map TL.tl)).length ≤ n) : (zs.map (·.length)).sum + zs.length * y.length ≤ n + y.length := by
  cases zs with
  | nil => simp
  | cons z zs =>
    rw [List.map_cons, joinL_sum] at h
    rw [List.map_cons, List.sum_cons, List.length_cons, Nat.add_mul, len_list y, len_list z]
    have e : ((zs.map TL.tl).map (·.length)).sum = (zs.map (·.length)).sum := by
      rw [List.map_map]
      exact congrArg List.sum (List.map_congr_left fun x _ => (len_list x).symm)
    rw [e, List.length_map] at h
    show z.cps.toList.length + _ + _ ≤ _
    have h' : z.cps.toList.length + ((zs.map (·.length)).sum + zs.length * y.cps.toList.length) ≤ n := h
    omega
theorem joinL_many (S : List Nat) (hS : 1 ≤ S.length) : ∀ ps : List (List Nat), ps.length ≤ (TL.joinL S ps).length + 1
  | [] => Nat.zero_le _
  | p :: ps => by
    rw [joinL_sum, List.length_cons]
    have : ps.length ≤ ps.length * S.length := Nat.le_mul_of_pos_right _ hS
    omega
/-! ### promises of what tells -/
def spTellK (K : PySem.W.Frag) (n : Nat) : Sp := fun vs H Q _ => ∃ (v : V) (k : List Ch), vs = [v] ∧ IsK K H v k ∧ dL k < n ∧ (txK k).length ≤ 1000000 ∧
  ∀ (H' : Hp), Same H H' → Q (.str (txK k)) H'
def spTellC (K : PySem.W.Frag) (n : Nat) : Sp := fun vs H Q _ => ∃ (v : V) (c : Ch), vs = [v] ∧ IsC K H v c ∧ dC c < n ∧ (txC c).length ≤ 1000000 ∧
  ∀ (H' : Hp), Same H H' → Q (.str (txC c)) H'
theorem tx_len (l : List Nat) : (mkS l).length = l.length := by rw [len_list]; rfl
/-- the word that leads a choice, what follows -/
def wdC : Ch → Str
  | .num => "number" | .txt => "text" | .row _ => "row" | .book _ => "book" | .shape _ => "shape" | .letter _ => "letter" | .cut _ _ => "cut" | .any _ => "some" | .wth _ => "with"
def restC : Ch → List PyData
  | .num => [] | .txt => []
  | .row k => [.tuple (pyL k)] | .book k => [.tuple (pyL k)]
  | .shape fs => [.tuple (pyF fs)]
  | .letter l => [.str l] | .cut l hs => [.str l, .tuple (hs.map .str)]
  | .any w => [.str w] | .wth f => [.str f]
theorem pyC_cons (c : Ch) : pyC c = .tuple (.str (wdC c) :: restC c) := by cases c <;> rfl
/-- a choice's tuple -/
theorem Dt.lead {K : PySem.W.Frag} {H : Hp} {v : V} {c : Ch} (h : Dt K H v (pyC c)) : ∃ a us, v = .ref a ∧ SqT K H a (.str (wdC c) :: us) ∧ Dts K H us (restC c) := by
  rw [pyC_cons c] at h
  obtain ⟨a, vs, rfl, ht, hd⟩ := h.open
  obtain ⟨u, us, rfl, h1, h2⟩ := hd.uncons
  rw [h1.strOf] at ht
  exact ⟨a, us, rfl, ht, h2⟩
theorem Dts.one {K : PySem.W.Frag} {H : Hp} {us : List V} {d : PyData} (h : Dts K H us [d]) : ∃ u, us = [u] ∧ Dt K H u d := by
  obtain ⟨u, us', rfl, h1, h2⟩ := h.uncons
  exact ⟨u, by rw [h2.unnil], h1⟩
/-- texts in a row -/
theorem Dts.strs {K : PySem.W.Frag} {H : Hp} : ∀ {zs : List Str} {vs : List V}, Dts K H vs (zs.map .str) → vs = zs.map V.str
  | [], vs, h => h.unnil
  | z :: zs, vs, h => by
    obtain ⟨u, us, rfl, h1, h2⟩ := Dts.uncons h
    rw [h1.strOf, Dts.strs h2]
    rfl
theorem strs_dts {K : PySem.W.Frag} {H : Hp} : ∀ zs : List Str, Dts K H (zs.map V.str) (zs.map .str)
  | [] => .nil
  | z :: zs => (strs_dts zs).cons (.str z)
theorem op_inT (K : PySem.W.Frag) {X : Cx} (h : X.K = K := by rfl) : OpR X (compareOp .In) (rIn K false) := h ▸ op_in_seq
end Sc
namespace Sc
open PySem PySem.Spec PyProof.Rows L2
theorem app_len (x y : Str) : (x ++ y).length = x.length + y.length := by
  rw [len_list, len_list, len_list, app_list, List.length_append]
theorem sizeOk {n : Nat} (h : n ≤ 2000000) : n ≤ sizeLine := by rw [sizeLine_eq]; omega
theorem txC_rb (k : List Ch) {c : Ch} (h : c = .row k ∨ c = .book k) : txC c = Str.empty ++ wdC c ++ ("(" : Str) ++ txK k ++ (")" : Str) := by
  refine TL.ext_tl ?_
  rcases h with rfl | rfl
  · show TL.tl "row" ++ 40 :: (TL.joinL bar (cL k) ++ [41]) = _
    simp only [TL.tl_append]
    show _ = TL.tl "row" ++ [40] ++ TL.joinL bar (cL k) ++ [41]
    simp only [List.append_assoc, List.cons_append, List.nil_append]
  · show TL.tl "book" ++ 40 :: (TL.joinL bar (cL k) ++ [41]) = _
    simp only [TL.tl_append]
    show _ = TL.tl "book" ++ [40] ++ TL.joinL bar (cL k) ++ [41]
    simp only [List.append_assoc, List.cons_append, List.nil_append]
theorem txF_eq (p : Str × List Ch) : txF p = Str.empty ++ p.1 ++ (": " : Str) ++ txK p.2 := by
  refine TL.ext_tl ?_
  simp only [TL.tl_append]
  show TL.tl p.1 ++ 58 :: 32 :: TL.joinL bar (cL p.2) = TL.tl p.1 ++ [58, 32] ++ TL.joinL bar (cL p.2)
  simp only [List.append_assoc, List.cons_append, List.nil_append]
theorem txC_shape (fs : List (Str × List Ch)) : txC (.shape fs) = ("{" : Str) ++ Txt.join ", " (fs.map txF) ++ ("}" : Str) := by
  refine TL.ext_tl ?_
  simp only [TL.tl_append]
  rw [TL.join_eq, TL.tl_join, List.map_map]
  show 123 :: (TL.joinL com (cF fs) ++ [125]) = [123] ++ TL.joinL com _ ++ [125]
  rw [cF_map]
  rfl
theorem txC_cut (l : Str) (hs : List Str) : txC (.cut l hs) = l ++ ("(" : Str) ++ Txt.join ", " hs ++ (")" : Str) := by
  refine TL.ext_tl ?_
  simp only [TL.tl_append]
  rw [TL.join_eq, TL.tl_join]
  show TL.tl l ++ 40 :: (TL.joinL com (hs.map TL.tl) ++ [41]) = TL.tl l ++ [40] ++ TL.joinL com (hs.map TL.tl) ++ [41]
  simp only [List.append_assoc, List.cons_append, List.nil_append]
theorem txC_any (w : Str) : txC (.any w) = Txt.join " " ["some", w] := by
  refine TL.ext_tl ?_
  rw [TL.join_eq, TL.tl_join]
  rfl
theorem txC_wth (w : Str) : txC (.wth w) = Txt.join " " ["with", w] := by
  refine TL.ext_tl ?_
  rw [TL.join_eq, TL.tl_join]
  rfl
theorem txC_num : txC .num = Txt.join " " ["number"] := by
  refine TL.ext_tl ?_
  rw [TL.join_eq, TL.tl_join]
  rfl
theorem txC_txt : txC .txt = Txt.join " " ["text"] := by
  refine TL.ext_tl ?_
  rw [TL.join_eq, TL.tl_join]
  rfl
end Sc
namespace Sc
open PySem PySem.Spec PyProof.Rows L2
/-- an f-string, its reading by a name -/
def tFs (ts : List TE) : TE := fun σ H Q => tJs ts Str.empty σ H fun out H1 => Q (.str out) H1
theorem pe_fs {X : Cx} {v1 v2 : Expr} {rest : List Expr} {ts : List TE} {pos : Pos} (h : PJ X (v1 :: v2 :: rest) ts) : PE X (.JoinedStr (v1 :: v2 :: rest) pos) (tFs ts) := pe_joined h
end Sc
namespace Sc
open PySem PySem.Spec PyProof.Rows L2
/-! ### a choice by its word -/
theorem wd_rb {c : Ch} (h : wdC c = "row" ∨ wdC c = "book") : ∃ k, c = .row k ∨ c = .book k := by
  cases c with
  | row k => exact ⟨k, .inl rfl⟩
  | book k => exact ⟨k, .inr rfl⟩
  | _ => exact absurd h (by simp only [wdC]; decide +kernel)
theorem wd_shape {c : Ch} (h : wdC c = "shape") : ∃ fs, c = .shape fs := by
  cases c with
  | shape fs => exact ⟨fs, rfl⟩
  | _ => exact absurd h (by simp only [wdC]; decide +kernel)
theorem wd_letter {c : Ch} (h : wdC c = "letter") : ∃ l, c = .letter l := by
  cases c with
  | letter l => exact ⟨l, rfl⟩
  | _ => exact absurd h (by simp only [wdC]; decide +kernel)
theorem wd_cut {c : Ch} (h : wdC c = "cut") : ∃ l hs, c = .cut l hs := by
  cases c with
  | cut l hs => exact ⟨l, hs, rfl⟩
  | _ => exact absurd h (by simp only [wdC]; decide +kernel)
theorem wd_due {c : Ch} (h : wdC c = "some" ∨ wdC c = "with") : ∃ z, c = .any z ∨ c = .wth z := by
  cases c with
  | any z => exact ⟨z, .inl rfl⟩
  | wth z => exact ⟨z, .inr rfl⟩
  | _ => exact absurd h (by simp only [wdC]; decide +kernel)
theorem wd_flat {c : Ch} (h1 : ¬ (wdC c = "row" ∨ wdC c = "book")) (h2 : wdC c ≠ "shape") (h3 : wdC c ≠ "letter") (h4 : wdC c ≠ "cut") (h5 : ¬ (wdC c = "some" ∨ wdC c = "with")) : c = .num ∨ c = .txt := by
  cases c with
  | num => exact .inl rfl
  | txt => exact .inr rfl
  | row k => exact absurd (.inl rfl) h1
  | book k => exact absurd (.inr rfl) h1
  | shape k => exact absurd rfl h2
  | letter k => exact absurd rfl h3
  | cut k _ => exact absurd rfl h4
  | any k => exact absurd (.inl rfl) h5
  | wth k => exact absurd (.inr rfl) h5
theorem txC_due {c : Ch} {z : Str} (h : c = .any z ∨ c = .wth z) : txC c = wdC c ++ (" " : Str) ++ z ∧ restC c = [.str z] := by
  rcases h with rfl | rfl
  · refine ⟨TL.ext_tl ?_, rfl⟩
    simp only [TL.tl_append]
    show TL.tl "some" ++ 32 :: TL.tl z = TL.tl "some" ++ [32] ++ TL.tl z
    simp only [List.append_assoc, List.cons_append, List.nil_append]
  · refine ⟨TL.ext_tl ?_, rfl⟩
    simp only [TL.tl_append]
    show TL.tl "with" ++ 32 :: TL.tl z = TL.tl "with" ++ [32] ++ TL.tl z
    simp only [List.append_assoc, List.cons_append, List.nil_append]
end Sc
namespace Sc
open PySem PySem.Spec PyProof.Rows L2
/-! ### letters -/
def Lett (z : Str) : Prop := 1 ≤ z.cps.toList.length ∧ z.cps.toList.length ≤ 8 ∧ ∀ c ∈ z.cps.toList, 65 ≤ c ∧ c ≤ 90
theorem upper_word {z : Str} (h : Word z) : Lett (Txt.upper z) := by
  obtain ⟨h1, h8, hc⟩ := h
  rw [upper_ascii fun c m => by have := hc c m; omega]
  have e : (⟨z.cps.map up1⟩ : Str).cps.toList = z.cps.toList.map up1 := Array.toList_map
  unfold Lett
  rw [e, List.length_map]
  refine ⟨h1, h8, fun c m => ?_⟩
  obtain ⟨d, hd, rfl⟩ := List.mem_map.mp m
  have := hc d hd
  unfold up1
  rw [if_pos this]
  omega
/-! ### dicts of texts -/
def zipK {β : Type} (xs : List (Str × β)) (vs : List V) : List (Key × V) := (xs.map fun q => Sum.inr q.1).zip vs
theorem zip_of {β : Type} {Pt : Str → Prop} {R : V → β → Prop} : ∀ kvs : List (Key × V), (∀ p ∈ kvs, ∃ t x, p.1 = Sum.inr t ∧ Pt t ∧ R p.2 x) → (kvs.map (·.1)).Nodup →
    ∃ (vs : List V) (xs : List (Str × β)), kvs = zipK xs vs ∧ vs.length = xs.length ∧ (xs.map (·.1)).Nodup ∧ (∀ t, t ∈ xs.map (·.1) → (Sum.inr t : Key) ∈ kvs.map (·.1)) ∧ ∀ (j : Nat) (v : V) (q : Str × β), vs[j]? = some v → xs[j]? = some q → Pt q.1 ∧ R v q.2
  | [], _, _ => ⟨[], [], rfl, rfl, List.nodup_nil, fun t h => by simp at h, fun j v q h => by simp at h⟩
  | (k, v) :: r, h, nd => by
    obtain ⟨t, x, rfl, ht, hx⟩ := h _ List.mem_cons_self
    have nd' : ((Sum.inr t : Key) :: r.map (·.1)).Nodup := nd
    obtain ⟨n1, n2⟩ := List.nodup_cons.mp nd'
    obtain ⟨vs, xs, e, hl, nd2, hm, ha⟩ := zip_of r (fun p hp => h p (List.mem_cons_of_mem _ hp)) n2
    refine ⟨v :: vs, (t, x) :: xs, by rw [e]; rfl, congrArg (· + 1) hl, List.nodup_cons.mpr ⟨fun z => n1 (hm t z), nd2⟩, fun u hu => ?_, fun j v' q h1 h2 => ?_⟩
    · rcases List.mem_cons.mp hu with z | z
      · rw [z]; exact List.mem_cons_self
      · exact List.mem_cons_of_mem _ (hm u z)
    · cases j with
      | zero => cases h1; cases h2; exact ⟨ht, hx⟩
      | succ j => exact ha j v' q h1 h2
theorem zipK_get {β : Type} : ∀ {xs : List (Str × β)} {vs : List V} {j : Nat} {q : Str × β} {v : V}, (xs.map (·.1)).Nodup → xs[j]? = some q → vs[j]? = some v → valV (zipK xs vs) (Sum.inr q.1) = some v
  | (t, x) :: xs, u :: us, 0, q, v, _, h1, h2 => by
    cases h1; cases h2
    exact valV_pos rfl
  | (t, x) :: xs, u :: us, j + 1, q, v, nd, h1, h2 => by
    obtain ⟨n1, n2⟩ := List.nodup_cons.mp (show (t :: xs.map (·.1)).Nodup from nd)
    refine (valV_neg fun e => n1 ?_).trans (zipK_get n2 h1 h2)
    have e2 : t = q.1 := Sum.inr.inj e
    rw [e2]
    exact List.mem_map_of_mem (List.mem_of_getElem? h1)
  | [], _, _, _, _, _, h1, _ => by simp at h1
  | _ :: _, [], _, _, _, _, _, h2 => by simp at h2
theorem zipK_keys {β : Type} : ∀ {xs : List (Str × β)} {vs : List V}, vs.length = xs.length → (zipK xs vs).map (fun kv => kV kv.1) = xs.map fun q => V.str q.1
  | [], [], _ => rfl
  | _ :: _, _ :: _, h => congrArg (_ :: ·) (zipK_keys (Nat.succ.inj h))
theorem zipK_len {β : Type} {xs : List (Str × β)} {vs : List V} (h : vs.length = xs.length) : (zipK xs vs).length = xs.length := by
  unfold zipK
  rw [List.length_zip, List.length_map, h, Nat.min_self]
/-! ### bounds -/
def IsB (K : PySem.W.Frag) (H : Hp) (b : Addr) (bs : List (Str × List Ch)) : Prop := ∃ vs : List V, H b = some (.dK (zipK bs vs)) ∧ vs.length = bs.length ∧ (bs.map (·.1)).Nodup ∧
  ∀ (j : Nat) (v : V) (q : Str × List Ch), vs[j]? = some v → bs[j]? = some q → IsK K H v q.2
theorem IsB.keep {K : PySem.W.Frag} {H H' : Hp} {b : Addr} {bs : List (Str × List Ch)} (h : IsB K H b bs) (k : Keep K H H') (e : ∀ o, H b = some o → H' b = some o) : IsB K H' b bs := by
  obtain ⟨vs, h1, h2, h3, h4⟩ := h
  exact ⟨vs, e _ h1, h2, h3, fun j v q a c => k.dt (h4 j v q a c)⟩
theorem IsB.same {K : PySem.W.Frag} {H H' : Hp} {b : Addr} {bs : List (Str × List Ch)} (h : IsB K H b bs) (e : Same H H') : IsB K H' b bs := h.keep (Same.keep e) fun o => e b o
theorem IsB.ext {K : PySem.W.Frag} {H H' : Hp} {s b : Addr} {i : Inf} {bs : List (Str × List Ch)} (h : IsB K H b bs) (S : IsS K H s i) (e : Ext s H H') (n : b ≠ s) : IsB K H' b bs := h.keep (S.keep e) fun o => e b o n
theorem IsB.at {K : PySem.W.Frag} {H : Hp} {b : Addr} {bs : List (Str × List Ch)} (h : IsB K H b bs) {j : Nat} {q : Str × List Ch} (e : bs[j]? = some q) : ∃ v, DGet H b (.str q.1) (some v) ∧ IsK K H v q.2 := by
  obtain ⟨vs, h1, h2, h3, h4⟩ := h
  have lt : j < vs.length := h2 ▸ (List.getElem?_eq_some_iff.mp e).1
  have g := zipK_get h3 e (List.getElem?_eq_getElem lt)
  exact ⟨vs[j], by rw [← g]; exact DGet.k (k := Sum.inr q.1) h1, h4 j _ q (List.getElem?_eq_getElem lt) e⟩
def okB (bs : List (Str × List Ch)) : Prop := ∀ q ∈ bs, Lett q.1 ∧ q.2 ≠ [] ∧ q.2.length ≤ 3 ∧ okL [] 1 q.2
def spBounds (K : PySem.W.Frag) : Sp := fun vs H Q _ => ∃ (s : Addr) (i : Inf) (m : Nat), vs = [.ref s, .int m] ∧ IsS K H s i ∧ m ≤ 10 ∧
  ∀ (b : Addr) (H' : Hp) (bs : List (Str × List Ch)), Ext s H H' → IsS K H' s i → H b = none → IsB K H' b bs → okB bs → bs.length ≤ m → Q (.ref b) H'
/-! ### heads of choices -/
def hdC : Ch → Str
  | .num => "number" | .txt => "text" | .row _ => "row" | .book _ => "book"
  | .shape fs => Txt.join " " ("shape" :: fs.map (·.1))
  | _ => Str.empty
/-- a choice with a head of its own -/
def hdOk : Ch → Prop
  | .num => True | .txt => True | .row _ => True | .book _ => True
  | .shape fs => Fld (fs.map (·.1))
  | _ => False
theorem hdOk_of {n : Nat} {c : Ch} (h : okC [] n c) : hdOk c := by
  cases c with
  | shape fs => exact (show 0 < n ∧ fs.length ≤ 2 ∧ Fld (fs.map (·.1)) ∧ okF [] (n - 1) fs from h).2.2.1
  | letter l => exact absurd (show l ∈ [] from h) (by simp)
  | cut l hs => exact (show False from h).elim
  | any l => exact (show False from h).elim
  | wth l => exact (show False from h).elim
  | _ => exact trivial
/-- the heads of a kind, ascending -/
def Hs (k : List Ch) (ys : List Str) : Prop := sortedS ys = true ∧ ys.Nodup ∧ ys.length ≤ k.length ∧ ∀ x, x ∈ ys ↔ x ∈ k.map hdC
def spHead (K : PySem.W.Frag) : Sp := fun vs H Q _ => ∃ (v : V) (c : Ch), vs = [v] ∧ IsC K H v c ∧ hdOk c ∧ ∀ (H' : Hp), Same H H' → Q (.str (hdC c)) H'
def headsR (bs : List (Str × List Ch)) (c : Ch) (ys : List Str) : Prop := (∃ l k, c = .letter l ∧ (l, k) ∈ bs ∧ Hs k ys) ∨ ∃ l, c = .cut l ys
def spHeads (K : PySem.W.Frag) : Sp := fun vs H Q _ => ∃ (v : V) (b : Addr) (c : Ch) (bs : List (Str × List Ch)), vs = [v, .ref b] ∧ IsC K H v c ∧ IsB K H b bs ∧ okB bs ∧ ((∃ l k, c = .letter l ∧ (l, k) ∈ bs) ∨ ∃ l hs, c = .cut l hs) ∧
  ∀ (v : V) (H' : Hp) (ys : List Str), Same H H' → Dt K H' v (.tuple (ys.map .str)) → headsR bs c ys → Q v H'
/-- a letter, or a cut of it -/
def okCut (bs : List (Str × List Ch)) (c : Ch) : Prop := ∃ l k, (l, k) ∈ bs ∧ (c = .letter l ∨ ∃ ys a m, c = .cut l ((ys.drop a).take m) ∧ Hs k ys ∧ 0 < m ∧ a + m ≤ ys.length ∧ m < ys.length)
def spCut (K : PySem.W.Frag) : Sp := fun vs H Q _ => ∃ (s b : Addr) (i : Inf) (bs : List (Str × List Ch)), vs = [.ref s, .ref b] ∧ IsS K H s i ∧ b ≠ s ∧ IsB K H b bs ∧ okB bs ∧ bs ≠ [] ∧ bs.length ≤ 10 ∧
  ∀ (v : V) (H' : Hp) (c : Ch), Ext s H H' → IsS K H' s i → IsC K H' v c → okCut bs c → Q v H'
/-- a kind with letters and, at its end, a cut -/
def okA (bs : List (Str × List Ch)) (d : Nat) (k : List Ch) : Prop := ∃ k0 cs, k = k0 ++ cs ∧ okL (bs.map (·.1)) d k0 ∧ k0 ≠ [] ∧ k0.length ≤ 3 ∧ (cs = [] ∨ ∃ c, cs = [c] ∧ okCut bs c)
def spAnyKind (K : PySem.W.Frag) (n : Nat) : Sp := fun vs H Q _ => ∃ (s b : Addr) (i : Inf) (d : Nat) (bs : List (Str × List Ch)), vs = [.ref s, .int d, .ref b] ∧ IsS K H s i ∧ d < n ∧ b ≠ s ∧ IsB K H b bs ∧ okB bs ∧ bs.length ≤ 10 ∧
  ∀ (v : V) (H' : Hp) (k : List Ch), Ext s H H' → IsS K H' s i → IsK K H' v k → okA bs d k → Q v H'
theorem Hs.few {k : List Ch} {ys : List Str} (h : Hs k ys) : ys.length ≤ k.length := h.2.2.1
end Sc
namespace Sc
open PySem PySem.Spec PyProof.Rows L2
/-! ### how long, how deep what is drawn may be -/
def wid : Nat → Nat
  | 0 => 8
  | n + 1 => 6 * wid n + 60
theorem joinL_max {S : List Nat} {B : Nat} : ∀ {ps : List (List Nat)}, (∀ p ∈ ps, p.length ≤ B) → (TL.joinL S ps).length ≤ ps.length * (B + S.length)
  | [], _ => Nat.zero_le _
  | [p], h => by
    have := h p List.mem_cons_self
    show p.length ≤ 1 * _
    omega
  | p :: q :: r, h => by
    have ih := joinL_max (S := S) (B := B) (ps := q :: r) fun x hx => h x (List.mem_cons_of_mem _ hx)
    have := h p List.mem_cons_self
    rw [joinL_cons _ _ _ (by simp), List.length_append, List.length_append, List.length_cons, Nat.add_mul]
    omega
theorem kind_len {B m : Nat} {k : List Ch} (h : ∀ p ∈ cL k, p.length ≤ B) (hk : k.length ≤ m) : (TL.joinL bar (cL k)).length ≤ m * (B + 3) := by
  refine Nat.le_trans (joinL_max h) ?_
  rw [cL_map, List.length_map]
  exact Nat.mul_le_mul_right _ hk
mutual
theorem lenC {ls : List Str} (hl : ∀ l ∈ ls, l.length ≤ 8) : ∀ {n : Nat} {c : Ch}, okC ls n c → (cC c).length ≤ wid n
  | 0, .num, _ => by decide
  | n + 1, .num, _ => Nat.le_trans (by decide : (cC .num).length ≤ 60) (Nat.le_add_left _ _)
  | 0, .txt, _ => by decide
  | n + 1, .txt, _ => Nat.le_trans (by decide : (cC .txt).length ≤ 60) (Nat.le_add_left _ _)
  | 0, .row k, h => absurd h.1 (Nat.lt_irrefl _)
  | n + 1, .row k, h => by
    have := kind_len (lenL hl (show okL ls n k from h.2.2.2)) h.2.2.1
    show (TL.tl "row" ++ 40 :: (TL.joinL bar (cL k) ++ [41])).length ≤ 6 * wid n + 60
    rw [List.length_append, List.length_cons, List.length_append]
    show 3 + (_ + 1 + 1) ≤ _
    omega
  | 0, .book k, h => absurd h.1 (Nat.lt_irrefl _)
  | n + 1, .book k, h => by
    have := kind_len (lenL hl (show okL ls n k from h.2.2.2)) h.2.2.1
    show (TL.tl "book" ++ 40 :: (TL.joinL bar (cL k) ++ [41])).length ≤ 6 * wid n + 60
    rw [List.length_append, List.length_cons, List.length_append]
    show 4 + (_ + 1 + 1) ≤ _
    omega
  | 0, .shape fs, h => absurd h.1 (Nat.lt_irrefl _)
  | n + 1, .shape fs, h => by
    have f := lenF hl (show okF ls n fs from h.2.2.2)
    have g := joinL_max (S := com) f
    rw [cF_map, List.length_map] at g
    have g2 : fs.length * (3 * wid n + 19 + com.length) ≤ 2 * (3 * wid n + 19 + 2) := Nat.mul_le_mul_right _ h.2.1
    rw [← cF_map] at g
    show (123 :: (TL.joinL com (cF fs) ++ [125])).length ≤ 6 * wid n + 60
    rw [List.length_cons, List.length_append]
    show _ + 1 + 1 ≤ _
    have : (TL.joinL com (cF fs)).length ≤ 2 * (3 * wid n + 19 + 2) := Nat.le_trans g g2
    omega
  | n, .letter l, h => by
    have := hl l h
    rw [len_list] at this
    refine Nat.le_trans this ?_
    cases n with
    | zero => exact Nat.le_refl _
    | succ n => show 8 ≤ 6 * wid n + 60; omega
  | _, .cut _ _, h => h.elim
  | _, .any _, h => h.elim
  | _, .wth _, h => h.elim
theorem lenL {ls : List Str} (hl : ∀ l ∈ ls, l.length ≤ 8) : ∀ {n : Nat} {k : List Ch}, okL ls n k → ∀ p ∈ cL k, p.length ≤ wid n
  | _, [], _, p, hp => by cases hp
  | n, c :: r, h, p, hp => by
    rcases List.mem_cons.mp hp with e | e
    · rw [e]; exact lenC hl h.1
    · exact lenL hl h.2 p e
theorem lenF {ls : List Str} (hl : ∀ l ∈ ls, l.length ≤ 8) : ∀ {n : Nat} {fs : List (Str × List Ch)}, okF ls n fs → ∀ p ∈ cF fs, p.length ≤ 3 * wid n + 19
  | _, [], _, p, hp => by cases hp
  | n, (f, k) :: r, h, p, hp => by
    rcases List.mem_cons.mp hp with e | e
    · have := kind_len (lenL hl h.2.2.2.1) h.2.2.1
      have w := h.1.2.1
      rw [e, List.length_append, List.length_cons, List.length_cons]
      show f.cps.toList.length + _ ≤ _
      omega
    · exact lenF hl h.2.2.2.2 p e
end
mutual
theorem deepC {ls : List Str} : ∀ {n : Nat} {c : Ch}, okC ls n c → dC c ≤ n
  | _, .num, _ => Nat.zero_le _
  | _, .txt, _ => Nat.zero_le _
  | 0, .row k, h => absurd h.1 (Nat.lt_irrefl _)
  | n + 1, .row k, h => Nat.succ_le_succ (deepL (show okL ls n k from h.2.2.2))
  | 0, .book k, h => absurd h.1 (Nat.lt_irrefl _)
  | n + 1, .book k, h => Nat.succ_le_succ (deepL (show okL ls n k from h.2.2.2))
  | 0, .shape fs, h => absurd h.1 (Nat.lt_irrefl _)
  | n + 1, .shape fs, h => Nat.succ_le_succ (deepF (show okF ls n fs from h.2.2.2))
  | _, .letter l, _ => Nat.zero_le _
  | _, .cut _ _, h => h.elim
  | _, .any _, h => h.elim
  | _, .wth _, h => h.elim
theorem deepL {ls : List Str} : ∀ {n : Nat} {k : List Ch}, okL ls n k → dL k ≤ n
  | _, [], _ => Nat.zero_le _
  | n, c :: r, h => Nat.max_le.mpr ⟨deepC h.1, deepL h.2⟩
theorem deepF {ls : List Str} : ∀ {n : Nat} {fs : List (Str × List Ch)}, okF ls n fs → dF fs ≤ n
  | _, [], _ => Nat.zero_le _
  | n, (_, k) :: r, h => Nat.max_le.mpr ⟨deepL h.2.2.2.1, deepF h.2.2.2.2⟩
end
end Sc
namespace Sc
open PySem PySem.Spec PyProof.Rows L2
theorem hd_len {n : Nat} {c : Ch} (h : okC [] n c) : (hdC c).length ≤ 300 := by
  cases c with
  | shape fs =>
    have fld : Fld (fs.map (·.1)) := hdOk_of h
    have := join_len " " ("shape" :: fs.map (·.1))
    have s := fld.sum
    have z := fld.2.1
    rw [List.map_cons, List.sum_cons, List.length_cons] at this
    show (Txt.join " " ("shape" :: fs.map (·.1))).length ≤ 300
    have e5 : ("shape" : Str).length = 5 := rfl
    have e1 : (" " : Str).length = 1 := rfl
    rw [e5, e1] at this
    omega
  | num => decide
  | txt => decide
  | row k => exact (by decide : ("row" : Str).length ≤ 300)
  | book k => exact (by decide : ("book" : Str).length ≤ 300)
  | letter l => exact Nat.zero_le _
  | cut l hs => exact Nat.zero_le _
  | any l => exact Nat.zero_le _
  | wth l => exact Nat.zero_le _
theorem cut_len {bs : List (Str × List Ch)} (ok : okB bs) {c : Ch} (h : okCut bs c) : (cC c).length ≤ 2000 ∧ dC c = 0 := by
  obtain ⟨l, k, hm, hc⟩ := h
  obtain ⟨lt, k0, k3, okk⟩ := ok _ hm
  have l8 : (TL.tl l).length ≤ 8 := lt.2.1
  rcases hc with rfl | ⟨ys, a, m, rfl, hs, m0, am, my⟩
  · exact ⟨Nat.le_trans l8 (by decide), rfl⟩
  · refine ⟨?_, rfl⟩
    have g : ∀ p ∈ ((ys.drop a).take m).map TL.tl, p.length ≤ 300 := fun p hp => by
      obtain ⟨y, hy, rfl⟩ := List.mem_map.mp hp
      have hy2 := (hs.2.2.2 y).mp (List.mem_of_mem_drop (List.mem_of_mem_take hy))
      obtain ⟨c, hc, rfl⟩ := List.mem_map.mp hy2
      have := hd_len (okL_mem okk hc)
      rw [len_list] at this
      exact this
    have j := joinL_max (S := com) g
    rw [List.length_map] at j
    have few := hs.2.2.1
    have k3' : k.length ≤ 3 := k3
    have tk : ((ys.drop a).take m).length ≤ 3 := by
      have := List.length_take_le' m (ys.drop a)
      rw [List.length_drop] at this
      omega
    have j2 : ((ys.drop a).take m).length * (300 + com.length) ≤ 3 * (300 + 2) := Nat.mul_le_mul_right _ tk
    show (TL.tl l ++ 40 :: (TL.joinL com (((ys.drop a).take m).map TL.tl) ++ [41])).length ≤ 2000
    rw [List.length_append, List.length_cons, List.length_append]
    show _ + (_ + 1 + 1) ≤ _
    omega
theorem names_len {bs : List (Str × List Ch)} (ok : okB bs) : ∀ l ∈ bs.map (·.1), l.length ≤ 8 := fun l hl => by
  obtain ⟨q, hq, rfl⟩ := List.mem_map.mp hl
  have := (ok q hq).1.2.1
  rw [len_list]
  exact this
theorem cL_app (a b : List Ch) : cL (a ++ b) = cL a ++ cL b := by rw [cL_map, cL_map, cL_map, List.map_append]
theorem dL_app : ∀ a b : List Ch, dL (a ++ b) = max (dL a) (dL b)
  | [], b => by show dL b = max 0 _; omega
  | c :: r, b => by
    have := dL_app r b
    show max (dC c) (dL (r ++ b)) = max (max (dC c) (dL r)) (dL b)
    omega
/-- such a kind's text, with something small behind -/
theorem any_len {bs : List (Str × List Ch)} (ok : okB bs) {d : Nat} {k : List Ch} (h : okA bs d k) : (∀ p ∈ cL k, p.length ≤ wid d + 2000) ∧ k.length ≤ 4 ∧ dL k ≤ d ∧ k ≠ [] := by
  obtain ⟨k0, cs, rfl, okk, n0, n3, hc⟩ := h
  have g := lenL (names_len ok) okk
  rcases hc with rfl | ⟨c, rfl, hc⟩
  · rw [List.append_nil]
    exact ⟨fun p hp => Nat.le_trans (g p hp) (Nat.le_add_right _ _), by omega, deepL okk, n0⟩
  · obtain ⟨h1, h2⟩ := cut_len ok hc
    refine ⟨fun p hp => ?_, by rw [List.length_append]; show _ + 1 ≤ _; omega, ?_, by simp⟩
    · rw [cL_app] at hp
      rcases List.mem_append.mp hp with e | e
      · exact Nat.le_trans (g p e) (Nat.le_add_right _ _)
      · rw [List.mem_singleton.mp e]
        exact Nat.le_trans h1 (Nat.le_add_left _ _)
    · rw [dL_app]
      have := deepL okk
      show max _ (max (dC c) 0) ≤ _
      omega
def spDue (K : PySem.W.Frag) : Sp := fun vs H Q _ => ∃ (s : Addr) (i : Inf), vs = [.ref s] ∧ IsS K H s i ∧
  ∀ (v : V) (H' : Hp) (c : Ch), Ext s H H' → IsS K H' s i → IsC K H' v c → (c = .any "row" ∨ c = .any "book" ∨ ∃ z, c = .wth z ∧ Word z) → Q v H'
end Sc
namespace Sc
open PySem PySem.Spec PyProof.Rows L2
/-! ### defs that may raise -/
structure CalX (P : Program) (w : World) (K : PySem.W.Frag) (mg : Str → Option Value) (base : Heap) (k : Nat) (x : Str) (ps : List Str) (sp : Sp) : Prop where
  ex : ∃ f fd, FnOk P w K mg base (L2.CX P w) k f fd ps sp ∧ mg x = some (.ref f) ∧ PySem.W.keepIn K (.ref f) = true ∧ Binds K fd ps []
theorem CalX.mono {P : Program} {w : World} {K : PySem.W.Frag} {mg : Str → Option Value} {base : Heap} {j k : Nat} {x : Str} {ps : List Str} {sp : Sp} (C : CalX P w K mg base j x ps sp) (h : j ≤ k) : CalX P w K mg base k x ps sp := by
  obtain ⟨f, fd, a, b⟩ := C.ex
  exact ⟨f, fd, a.mono h, b⟩
theorem Def.neverX {P : Program} {w : World} {K : PySem.W.Frag} {mg : Str → Option Value} {base : Heap} {x : Str} {st : Stmt} {ps : List Str} {sp : Sp} (D : Def K mg x st ps) (no : ∀ vs H Q E, ¬ sp vs H Q E) : CalX P w K mg base 0 x ps sp := by
  obtain ⟨f, fd, F, m, b⟩ := D.ex
  exact ⟨f, fd, ⟨fun vs H Q E h => absurd h (no vs H Q E), fun A outer s H args us vs Q E _ _ _ _ h => absurd h (no vs H Q E)⟩, m, F.kp, b⟩
theorem Def.okX {P : Program} {w : World} {K : PySem.W.Frag} {mg : Str → Option Value} {base : Heap} {x : Str} {st : Stmt} {N ps : List Str} {k : Nat} {sp : Sp} (D : Def K mg x st ps) (S : FnScope N ps (defScope st)) (len : ∀ vs H Q E, sp vs H Q E → vs.length = ps.length)
    (body : ∀ (f : Addr) (cdv : Value) (A : Around) (outer : List Env) (s : Shared) (H : Hp) (vs : List V) (Q : VK) (E : XK), Room k (A.deeper (envOfC x (defScope st) s.heap.objs.size f cdv)) → sp vs H Q E →
      ∃ t, PSs (cxOf (L2.CX P w) P w K mg base N x (defScope st) f cdv A outer s H E) (defBody st) t ∧ t { nx := fun _ H' => Q .non H', rt := Q } (start N vs) H) : CalX P w K mg base (k + 1) x ps sp := by
  obtain ⟨f, fd, F, m, b⟩ := D.ex
  exact ⟨f, fd, F.okX S len fun cdv A outer s H vs Q E hr h => body f cdv A outer s H vs Q E hr h, m, F.kp, b⟩
section
variable {X : Cx} {k : Nat} {x : Str} {ps : List Str} {sp : Sp} {e : Expr} {es : List Expr} {t : TA} {p pos : Pos} {E : XK}
/-- a call of a def that may raise: what it raises leaves -/
theorem pe_calX (C : CalX X.prog X.w X.K X.mg X.base k x ps sp) (hr : Room k X.A) (hx : Passes (L2.CX X.prog X.w) X E) (ha : PA X (e :: es) t) (hg : Gl X x := by rfl) (hdb : (x == ("__debug__" : Str)) = false := by decide)
    (he : starEach (e :: es) X.env = (false, eval e X.env) :: starEach es X.env := by rfl) (hpl : (backTo pos (starEach es X.env)).any (·.1) = false := by rfl) :
    PE X (.Call (.Name x p) (e :: es) [] pos) (tCall sp [] E t) := by
  obtain ⟨f, fd, F, m, kp, b⟩ := C.ex
  exact pe_call F hr hg m kp b .nil hx ha hdb he hpl
end
/-! ### data, tables -/
/-- lists and tuples are kept -/
def KeepL (K : PySem.W.Frag) (H H' : Hp) : Prop := (∀ a xs, SqL K H a xs → SqL K H' a xs) ∧ Keep K H H'
mutual
theorem KeepL.dp {K : PySem.W.Frag} {H H' : Hp} (e : KeepL K H H') : ∀ {v : V} {d : PyData}, Dp K H v d → Dp K H' v d
  | _, _, .non => .non
  | _, _, .bl b => .bl b
  | _, _, .int i => .int i
  | _, _, .str x => .str x
  | _, _, .lst h a => .lst (e.1 _ _ h) (KeepL.dps e a)
  | _, _, .tup h a => .tup (e.2 _ _ h) (KeepL.dps e a)
theorem KeepL.dps {K : PySem.W.Frag} {H H' : Hp} (e : KeepL K H H') : ∀ {vs : List V} {ds : List PyData}, DpAll K H vs ds → DpAll K H' vs ds
  | _, _, .nil => .nil
  | _, _, .cons h t => .cons (KeepL.dp e h) (KeepL.dps e t)
end
theorem DpAll.len {K : PySem.W.Frag} {H : Hp} : ∀ {vs : List V} {ds : List PyData}, DpAll K H vs ds → vs.length = ds.length
  | _, _, .nil => rfl
  | _, _, .cons _ t => congrArg (· + 1) (DpAll.len t)
theorem DpAll.get {K : PySem.W.Frag} {H : Hp} : ∀ {vs : List V} {ds : List PyData} {i : Nat} {v : V}, DpAll K H vs ds → vs[i]? = some v → ∃ d, ds[i]? = some d ∧ Dp K H v d
  | _, _, 0, _, .cons h _, e => ⟨_, rfl, by simp at e; subst e; exact h⟩
  | _, _, i + 1, v, .cons _ t, e => by
    obtain ⟨d, h1, h2⟩ := DpAll.get (i := i) (v := v) t (by simpa using e)
    exact ⟨d, by simpa using h1, h2⟩
/-- all but the tables is kept, the tables at T are tables -/
def Tb (T : List Addr) (H : Hp) : Prop := ∀ P ∈ T, GxR.TabG H P
structure Fr (T : List Addr) (H H' : Hp) : Prop where
  old : ∀ b o, H b = some o → b ∉ T → H' b = some o
  tab : Tb T H'
theorem Fr.refl {T : List Addr} {H : Hp} (t : Tb T H) : Fr T H H := ⟨fun _ _ h _ => h, t⟩
theorem Fr.trans {T : List Addr} {H H1 H2 : Hp} (a : Fr T H H1) (b : Fr T H1 H2) : Fr T H H2 := ⟨fun c o h n => b.old c o (a.old c o h n) n, b.tab⟩
theorem Fr.same {T : List Addr} {H H' : Hp} (t : Tb T H) (e : Same H H') : Fr T H H' := ⟨fun b o h _ => e b o h, fun P hP => let ⟨ps, h, g⟩ := t P hP; ⟨ps, e _ _ h, g⟩⟩
theorem Fr.tabbed {T : List Addr} {P : Addr} {H H' : Hp} (t : Tb T H) (h : GxR.Tabbed P H H') (hP : P ∈ T) : Fr T H H' := by
  refine ⟨fun b o e n => ?_, fun P' hP' => ?_⟩
  · rw [h.2 b fun z => n (z ▸ hP)]
    exact e
  · by_cases z : P' = P
    · rw [z]; exact h.1
    · obtain ⟨ps, e, g⟩ := t P' hP'
      exact ⟨ps, by rw [h.2 P' z]; exact e, g⟩
theorem Fr.free {T : List Addr} {H H' : Hp} {l : Addr} (t : Tb T H) (e : Fr T H H') (h : H' l = none) : H l = none := by
  by_cases hl : l ∈ T
  · obtain ⟨ps, g, _⟩ := e.tab l hl
    rw [g] at h
    cases h
  · cases q : H l with
    | none => rfl
    | some o => rw [e.old l o q hl] at h; cases h
theorem Fr.keep {K : PySem.W.Frag} {T : List Addr} {H H' : Hp} (t : Tb T H) (e : Fr T H H') : KeepL K H H' := by
  have ne : ∀ a o, H a = some o → (∀ ps, o ≠ .tbl ps) → a ∉ T := fun a o h n z => by
    obtain ⟨ps, g, _⟩ := t a z
    rw [h] at g
    exact n ps (Option.some.inj g)
  refine ⟨fun a xs h => ?_, fun a xs h => ?_⟩
  · rcases h with (h | ⟨o, h⟩) | h
    · exact .inl (.inl (e.old _ _ h (ne _ _ h fun ps z => by cases z)))
    · exact .inl (.inr ⟨o, e.old _ _ h (ne _ _ h fun ps z => by cases z)⟩)
    · exact .inr h
  · rcases h with (h | ⟨o, h⟩) | h
    · exact .inl (.inl (e.old _ _ h (ne _ _ h fun ps z => by cases z)))
    · exact .inl (.inr ⟨o, e.old _ _ h (ne _ _ h fun ps z => by cases z)⟩)
    · exact .inr h
/-- the type of data -/
def tyD : PyData → String
  | .none => "NoneType" | .bool _ => "bool" | .int _ => "int" | .str _ => "str" | .list _ => "list" | .tuple _ => "tuple" | .dict _ => "dict"
theorem Dp.ty {K : PySem.W.Frag} {H : Hp} {v : V} {d : PyData} (h : Dp K H v d) : TyX K H v (.type (tyD d)) := by
  cases h with
  | non => exact .base .non
  | bl b => exact .base (.bl b)
  | int i => exact .base (.int i)
  | str x => exact .base (.str x)
  | lst h _ =>
    rcases h with (h | ⟨o, h⟩) | ⟨o, its, n, h1, h2, _⟩
    · exact .base (.lst h)
    · exact .base (.frz h)
    · exact .kList h1 h2
  | tup h _ =>
    rcases h with (h | ⟨o, h⟩) | ⟨o, its, n, h1, h2, _⟩
    · exact .base (.tup h)
    · exact .fTuple h
    · exact .kTuple h1 h2
def isTupB : PyData → Bool
  | .tuple _ => true
  | _ => false
def isStrB : PyData → Bool
  | .str _ => true
  | _ => false
/-- is it of the type T: no dict among the data -/
theorem isTup {K : PySem.W.Frag} {H : Hp} {v : V} {d : PyData} (h : Dp K H v d) : kitB (tyD d) "tuple" = some (isTupB d) := by
  cases h with
  | non => exact (by decide +kernel : kitB "NoneType" "tuple" = some false)
  | bl b => exact (by decide +kernel : kitB "bool" "tuple" = some false)
  | int i => exact (by decide +kernel : kitB "int" "tuple" = some false)
  | str x => exact (by decide +kernel : kitB "str" "tuple" = some false)
  | lst _ _ => exact (by decide +kernel : kitB "list" "tuple" = some false)
  | tup _ _ => exact (by decide +kernel : kitB "tuple" "tuple" = some true)
theorem isStr {K : PySem.W.Frag} {H : Hp} {v : V} {d : PyData} (h : Dp K H v d) : kitB (tyD d) "str" = some (isStrB d) := by
  cases h with
  | non => exact (by decide +kernel : kitB "NoneType" "str" = some false)
  | bl b => exact (by decide +kernel : kitB "bool" "str" = some false)
  | int i => exact (by decide +kernel : kitB "int" "str" = some false)
  | str x => exact (by decide +kernel : kitB "str" "str" = some true)
  | lst _ _ => exact (by decide +kernel : kitB "list" "str" = some false)
  | tup _ _ => exact (by decide +kernel : kitB "tuple" "str" = some false)
end Sc
namespace Sc
open PySem PySem.Spec PyProof.Rows L2
mutual
/-- no long texts, no long rows -/
def sm : PyData → Bool
  | .str z => decide (z.length ≤ 1000)
  | .list xs => decide (xs.length ≤ 60) && smAll xs
  | .tuple xs => decide (xs.length ≤ 60) && smAll xs
  | .dict _ => false
  | _ => true
def smAll : List PyData → Bool
  | [] => true
  | x :: xs => sm x && smAll xs
end
def okD (d : PyData) : Prop := SeqAt.shaped d = true ∧ sm d = true
theorem smAll_mem {x : PyData} : ∀ {xs : List PyData}, smAll xs = true → x ∈ xs → sm x = true
  | y :: ys, h, m => by
    have h' : (sm y && smAll ys) = true := h
    rw [Bool.and_eq_true] at h'
    rcases List.mem_cons.mp m with e | e
    · rw [e]; exact h'.1
    · exact smAll_mem h'.2 e
theorem layAll_mem {x : PyData} : ∀ {xs : List PyData}, PyData.canLayAll0 xs = true → x ∈ xs → x.canLay0 = true
  | y :: ys, h, m => by
    have h' : (PyData.canLay0 y && PyData.canLayAll0 ys) = true := h
    rw [Bool.and_eq_true] at h'
    rcases List.mem_cons.mp m with e | e
    · rw [e]; exact h'.1
    · exact layAll_mem h'.2 e
theorem depthAll_mem {x : PyData} : ∀ {xs : List PyData}, x ∈ xs → x.depth ≤ PyData.depthAll xs
  | y :: ys, m => by
    have e0 : PyData.depthAll (y :: ys) = max y.depth (PyData.depthAll ys) := by simp [PyData.depthAll]
    rw [e0]
    rcases List.mem_cons.mp m with e | e
    · rw [e]; exact Nat.le_max_left _ _
    · exact Nat.le_trans (depthAll_mem e) (Nat.le_max_right _ _)
theorem okD.sub {ds : List PyData} (h : okD (.tuple ds)) : ds.length ≤ 60 ∧ ∀ x ∈ ds, okD x := by
  obtain ⟨h1, h2⟩ := h
  have h2' : (decide (ds.length ≤ 60) && smAll ds) = true := h2
  rw [Bool.and_eq_true, decide_eq_true_eq] at h2'
  refine ⟨h2'.1, fun x hx => ⟨?_, smAll_mem h2'.2 hx⟩⟩
  have l := SeqAt.canLay_of_shaped h1
  have d := SeqAt.depth_of_shaped h1
  have e0 : (PyData.tuple ds).depth = PyData.depthAll ds + 1 := by simp [PyData.depth]
  have := depthAll_mem hx
  exact Bool.and_eq_true_iff.mpr ⟨layAll_mem l hx, decide_eq_true (by omega)⟩
/-! ### what is a word, a letter -/
instance (z : Str) : Decidable (Lett z) := by unfold Lett; infer_instance
def isWordD : PyData → Bool
  | .str z => decide (Word z)
  | _ => false
def isLettD : PyData → Bool
  | .str z => decide (Lett z)
  | _ => false
def lenOkD : PyData → Bool
  | .str z => decide (1 ≤ z.length) && decide (z.length ≤ 8)
  | _ => false
/-- the promise of a test of data -/
def spTest (K : PySem.W.Frag) (T : List Addr) (p : PyData → Bool) : Sp := fun vs H Q _ => ∃ (v : V) (d : PyData), vs = [v] ∧ Dp K H v d ∧ okD d ∧ Tb T H ∧ ∀ (H' : Hp), Fr T H H' → Q (.bl (p d)) H'
/-- 'a' <= sign <= 'z' -/
theorem elt_between {prog : Program} {w : World} {scope : Scope} {x : Str} {a b : Nat} {j1 j2 : Nat} {p1 p2 p3 p4 : Pos} (hk : scope.kind = .function) (hl : scope.names.lookup x = some .local) (hd : (x == ("__debug__" : Str)) = false := by decide) :
    GxR.EltP prog w scope x (.Compare (.Constant (.str ⟨#[a]⟩) j1 p1) [.LtE, .LtE] [.Name x p2, .Constant (.str ⟨#[b]⟩) j2 p3] p4) (fun c => decide (a ≤ c) && decide (c ≤ b)) := by
  intro cenv A' E' c t s₂ m₂ hs hn hm
  refine Compare_chain (Calls.Constant_str (chain_link ?_)) (by with_unfolding_all rfl)
  refine wpAny_Name (wpAny_loadName_local (by rw [hs]; exact hk) (show cenv.scope.names.lookup x = some .local by rw [hs]; exact hl) hn hm ?_) hd
  refine PySem.P.le_str (wpAny_truthy_bool ?_)
  have l1 : (!decide ((⟨#[c]⟩ : Str).cps.toList < (⟨#[a]⟩ : Str).cps.toList)) = decide (a ≤ c) := by
    rw [← decide_not]
    refine decide_eq_decide.mpr ?_
    show ¬ [c] < [a] ↔ a ≤ c
    rw [List.cons_lt_cons_iff]
    simp
  have l2 : (!decide ((⟨#[b]⟩ : Str).cps.toList < (⟨#[c]⟩ : Str).cps.toList)) = decide (c ≤ b) := by
    rw [← decide_not]
    refine decide_eq_decide.mpr ?_
    show ¬ [b] < [c] ↔ c ≤ b
    rw [List.cons_lt_cons_iff]
    simp
  rw [l1]
  cases h : decide (a ≤ c) with
  | false =>
    rw [if_neg Bool.false_ne_true]
    refine ⟨?_, GxR.keeps_tok _ _⟩
    dsimp only
    rw [h]
    rfl
  | true =>
    rw [if_pos rfl]
    refine chain_last (Calls.Constant_str (PySem.P.le_str ?_))
    refine ⟨?_, GxR.keeps_tok _ _⟩
    dsimp only
    rw [l2, h, Bool.true_and]
end Sc
namespace Sc
open PySem PySem.Spec PyProof.Rows L2
/-! ### ascending texts -/
abbrev ltT (a b : Str) : Prop := a.cps.toList < b.cps.toList
def ascB (zs : List Str) : Bool := sortedS zs && decide zs.Nodup
theorem str_ext {a b : Str} (h : a.cps.toList = b.cps.toList) : a = b := by
  cases a; cases b
  exact congrArg _ (Array.toList_inj.mp h)
theorem rising_iff : ∀ (p : Str) (l : List Str), risingS p l = true ↔ (p :: l).Pairwise (fun a b => ¬ ltT b a)
  | p, [] => by simp [risingS]
  | p, x :: r => by
    unfold risingS
    rw [Bool.and_eq_true, rising_iff x r, Bool.not_eq_true', PyProof.Rows.ltCps_eq, decide_eq_false_iff_not]
    constructor
    · rintro ⟨h1, h2⟩
      refine List.pairwise_cons.mpr ⟨fun y hy => ?_, h2⟩
      rcases List.mem_cons.mp hy with e | e
      · rw [e]; exact h1
      · exact List.le_trans (α := Nat) h1 ((List.pairwise_cons.mp h2).1 y e)
    · intro h
      have h' := List.pairwise_cons.mp h
      exact ⟨h'.1 x List.mem_cons_self, h'.2⟩
theorem sorted_iff (l : List Str) : sortedS l = true ↔ l.Pairwise (fun a b => ¬ ltT b a) := by
  cases l with
  | nil => simp [sortedS]
  | cons p r => exact rising_iff p r
theorem asc_iff (l : List Str) : ascB l = true ↔ l.Pairwise ltT := by
  unfold ascB
  rw [Bool.and_eq_true, sorted_iff, decide_eq_true_eq]
  constructor
  · rintro ⟨h1, h2⟩
    refine List.Pairwise.imp₂ (fun a b h g => ?_) h1 h2
    exact Classical.byContradiction fun z => g (str_ext (List.le_antisymm (α := Nat) h z))
  · intro h
    exact ⟨h.imp fun g => List.lt_asymm g, h.imp fun {a b} g e => by rw [e] at g; exact List.lt_irrefl _ g⟩
theorem asc_uniq : ∀ (xs ys : List Str), xs.Pairwise ltT → ys.Pairwise ltT → (∀ x, x ∈ xs ↔ x ∈ ys) → xs = ys
  | [], [], _, _, _ => rfl
  | [], y :: _, _, _, h => absurd ((h y).mpr List.mem_cons_self) (by simp)
  | x :: _, [], _, _, h => absurd ((h x).mp List.mem_cons_self) (by simp)
  | x :: xs, y :: ys, hx, hy, h => by
    have hx' := List.pairwise_cons.mp hx
    have hy' := List.pairwise_cons.mp hy
    have e : x = y := by
      rcases List.mem_cons.mp ((h x).mp List.mem_cons_self) with e | e
      · exact e
      rcases List.mem_cons.mp ((h y).mpr List.mem_cons_self) with e2 | e2
      · exact e2.symm
      exact absurd (hy'.1 x e) (List.lt_asymm (hx'.1 y e2))
    subst e
    have irr : ∀ z, ltT x z → z ≠ x := fun z g e => by rw [e] at g; exact List.lt_irrefl _ g
    rw [asc_uniq xs ys hx'.2 hy'.2 fun z => ⟨fun m => ?_, fun m => ?_⟩]
    · rcases List.mem_cons.mp ((h z).mp (List.mem_cons_of_mem _ m)) with e | e
      · exact absurd e (irr z (hx'.1 z m))
      · exact e
    · rcases List.mem_cons.mp ((h z).mpr (List.mem_cons_of_mem _ m)) with e | e
      · exact absurd e (irr z (hy'.1 z m))
      · exact e
/-- a list against the sorted set of its members -/
theorem asc_eq {zs ys : List Str} (so : sortedS ys = true) (nd : ys.Nodup) (mem : ∀ x, x ∈ ys ↔ x ∈ zs) : decide (zs = ys) = ascB zs := by
  have hy : ascB ys = true := by unfold ascB; rw [so, decide_eq_true nd]; rfl
  rw [Bool.eq_iff_iff, decide_eq_true_eq]
  constructor
  · intro e; rw [e]; exact hy
  · intro h
    exact asc_uniq zs ys ((asc_iff _).mp h) ((asc_iff _).mp hy) fun x => (mem x).symm
theorem eqv_strs : ∀ (xs ys : List Str), PyData.eqvAll (xs.map .str) (ys.map .str) = decide (xs = ys)
  | [], [] => rfl
  | [], _ :: _ => rfl
  | _ :: _, [] => rfl
  | x :: xs, y :: ys => by
    have e : PyData.eqvAll ((x :: xs).map .str) ((y :: ys).map .str) = ((x == y) && PyData.eqvAll (xs.map .str) (ys.map .str)) := by
      simp [PyData.eqvAll, PyData.eqv]
    rw [e, eqv_strs xs ys, Bool.eq_iff_iff, Bool.and_eq_true, decide_eq_true_eq, beq_iff_eq, decide_eq_true_eq, List.cons.injEq]
theorem dp_strs {K : PySem.W.Frag} {H : Hp} : ∀ zs : List Str, DpAll K H (zs.map V.str) (zs.map .str)
  | [] => .nil
  | z :: zs => .cons (.str z) (dp_strs zs)
theorem lay_strs : ∀ {zs : List Str}, (∀ z ∈ zs, PyData.canLay0 (.str z) = true) → PyData.canLayAll0 (zs.map .str) = true
  | [], _ => rfl
  | z :: zs, h => by
    show (PyData.canLay0 (.str z) && PyData.canLayAll0 (zs.map .str)) = true
    rw [lay_strs fun x m => h x (List.mem_cons_of_mem _ m), Bool.and_true]
    exact h z List.mem_cons_self
theorem dep_strs : ∀ zs : List Str, PyData.depthAll (zs.map .str) ≤ 1
  | [] => by simp [PyData.depthAll]
  | z :: zs => by
    have := dep_strs zs
    simp only [List.map_cons, PyData.depthAll, PyData.depth]
    omega
theorem shaped_strs {zs : List Str} (h : ∀ z ∈ zs, PyData.canLay0 (.str z) = true) : SeqAt.shaped (.list (zs.map .str)) = true := by
  have d := dep_strs zs
  have e0 : (PyData.list (zs.map .str)).depth = PyData.depthAll (zs.map .str) + 1 := by simp [PyData.depth]
  exact Bool.and_eq_true_iff.mpr ⟨lay_strs h, decide_eq_true (by omega)⟩
end Sc
namespace Sc
open PySem PySem.Spec PyProof.Rows L2
/-! ### what is refused -/
/-- an own class of errors under ValueError -/
structure Ec (K : PySem.W.Frag) (mg : Str → Option Value) (x : Str) (C : Addr) : Prop where
  g : mg x = some (.ref C)
  q : PySem.W.excIn K C [.type "ValueError", .type "Exception", .type "BaseException", .type "object"] "ValueError.__new__" = true
  k : PySem.W.keepIn K (.ref C) = true
  b : PySem.W.subIn K (.ref C) (.type "BaseException") = some true
  t : PySem.W.typeIn K (.ref C) = some (.type "type")
def pairD : PyData → Bool
  | .tuple [.str _, _] => true
  | _ => false
def nameD : PyData → Str
  | .tuple (.str z :: _) => z
  | _ => Str.empty
def fldD : PyData → Bool
  | .tuple ds => !ds.isEmpty && ds.all pairD && ascB (ds.map nameD)
  | _ => false
theorem two_open {K : PySem.W.Frag} {H : Hp} {vs : List V} {ds : List PyData} (h : DpAll K H vs ds) (two : vs.length = 2) : ∃ x1 x2 d1 d2, vs = [x1, x2] ∧ ds = [d1, d2] ∧ Dp K H x1 d1 ∧ Dp K H x2 d2 := by
  cases h with
  | nil => cases two
  | cons h1 t => cases t with
    | nil => cases two
    | cons h2 t => cases t with
      | nil => exact ⟨_, _, _, _, rfl, rfl, h1, h2⟩
      | cons _ _ => exact absurd two (by simp)
theorem pair_len : ∀ {ds : List PyData}, ds.length ≠ 2 → pairD (.tuple ds) = false
  | [], _ => rfl
  | [u], _ => by cases u <;> rfl
  | [_, _], e => absurd rfl e
  | u :: _ :: _ :: _, _ => by cases u <;> rfl
theorem pair_two (d1 d2 : PyData) : pairD (.tuple [d1, d2]) = isStrB d1 := by cases d1 <;> rfl
def letD (ls : List Str) : PyData → Bool
  | .str z => isLettD (.str z) && decide (z ∈ ls)
  | _ => false
/-- choices, fields, by what is good within -/
def gPr (g : PyData → Bool) : PyData → Bool
  | .tuple [n, k] => isWordD n && g k
  | _ => false
def gFl (g : PyData → Bool) : PyData → Bool
  | .tuple ds => fldD (.tuple ds) && ds.all (gPr g)
  | _ => false
def gCh (ls : List Str) (g : PyData → Bool) : PyData → Bool
  | .tuple [.str w] => w == "number" || w == "text"
  | .tuple [.str w, t] => if w = "row" ∨ w = "book" then g t else if w = "shape" then gFl g t else if w = "letter" then letD ls t else false
  | _ => false
/-- a kind with room n - 1 -/
def gK (ls : List Str) : Nat → PyData → Bool
  | 0, _ => false
  | n + 1, d => match d with
    | .tuple ds => !ds.isEmpty && ds.all (gCh ls (gK ls n))
    | _ => false
/-- the promise of a def that refuses: rest behind the letters -/
def spNeed (K : PySem.W.Frag) (T : List Addr) (CB : Addr) (rest : List V) (p : List Str → PyData → Bool) : Sp := fun vs H Q E => ∃ (ls : List Str) (v : V) (d : PyData) (la : Addr), vs = v :: .ref la :: rest ∧ Dp K H v d ∧ okD d ∧ Tb T H ∧ SqT K H la (ls.map V.str) ∧
  (p ls d = true → ∀ (H' : Hp), Fr T H H' → Q .non H') ∧ (p ls d = false → ∀ (H' : Hp), Fr T H H' → E (.ref CB) none H')
theorem in_strs (z : Str) (ls : List Str) : inV (.str z) (ls.map V.str) = decide (z ∈ ls) := by
  unfold inV
  rw [Bool.eq_iff_iff, List.any_map, List.any_eq_true, decide_eq_true_eq]
  constructor
  · rintro ⟨y, hy, e⟩
    have e' : (y == z) = true := e
    rw [beq_iff_eq] at e'
    rw [← e']; exact hy
  · intro h
    exact ⟨z, h, by show (z == z) = true; rw [beq_iff_eq]⟩
theorem flat_strs : ∀ ls : List Str, (ls.map V.str).all flatV = true
  | [] => rfl
  | _ :: ls => by rw [List.map_cons, List.all_cons, flat_strs ls]; rfl
end Sc
namespace Sc
open PySem PySem.Spec PyProof.Rows L2
/-! ### literals -/
theorem Same.keepL {K : PySem.W.Frag} {H H' : Hp} (e : Same H H') : KeepL K H H' := ⟨fun _ _ h => Same.seq e h, fun _ _ h => Same.tup e h⟩
/-- a written value: the slot i holds g -/
def tLit (K : PySem.W.Frag) (i : Nat) (g d : PyData) : TE := fun σ H Q => (∃ v, σ[i]? = some (some v) ∧ Dp K H v g) ∧ ∀ v H', Same H H' → Dp K H' v d → Q v H'
def tLits (K : PySem.W.Frag) (i : Nat) (g : PyData) (ds : List PyData) : TA := fun σ H Q => (∃ v, σ[i]? = some (some v) ∧ Dp K H v g) ∧ ∀ vs H', Same H H' → DpAll K H' vs ds → Q vs H'
def tLitL (K : PySem.W.Frag) (i : Nat) (g : PyData) (ds : List PyData) : TE := fun σ H Q => (∃ v, σ[i]? = some (some v) ∧ Dp K H v g) ∧ ∀ l vs H', Same H H' → H' l = some (.lst vs) → DpAll K H' vs ds → Q (.ref l) H'
section
variable {X : Cx} {K : PySem.W.Frag} {i : Nat} {g d : PyData} {ds : List PyData} {e : Expr} {es : List Expr}
theorem pe_imp {t t' : TE} (h : PE X e t) (k : ∀ σ H Q, t' σ H Q → t σ H Q) : PE X e t' := ⟨fun pins s σ H Q I q => h.run pins s σ H Q I (k σ H Q q)⟩
theorem pa_imp {t t' : TA} (h : PA X es t) (k : ∀ σ H Q, t' σ H Q → t σ H Q) : PA X es t' := ⟨fun pos pins s σ H Q I q => h.run pos pins s σ H Q I (k σ H Q q)⟩
theorem lit_str {x : Str} {j : Nat} {pos : Pos} : PE X (.Constant (.str x) j pos) (tLit K i g (.str x)) := pe_imp pe_str fun _ _ _ q => q.2 _ _ (Same.refl _) (.str _)
theorem lit_int {x : Int} {j : Nat} {pos : Pos} : PE X (.Constant (.int x) j pos) (tLit K i g (.int x)) := pe_imp pe_int fun _ _ _ q => q.2 _ _ (Same.refl _) (.int _)
theorem lit_non {j : Nat} {pos : Pos} : PE X (.Constant .none j pos) (tLit K i g .none) := pe_imp pe_non fun _ _ _ q => q.2 _ _ (Same.refl _) .non
theorem lit_var (h : PE X e (tVar i)) : PE X e (tLit K i g g) := pe_imp h fun _ _ _ ⟨⟨v, a, b⟩, q⟩ => ⟨v, a, q _ _ (Same.refl _) b⟩
theorem lits_nil : PA X [] (tLits K i g []) := pa_imp pa_nil fun _ _ _ q => q.2 _ _ (Same.refl _) .nil
theorem lits_cons (h : PE X e (tLit K i g d)) (r : PA X es (tLits K i g ds)) (hs : starEach (e :: es) X.env = (false, eval e X.env) :: starEach es X.env := by rfl) : PA X (e :: es) (tLits K i g (d :: ds)) :=
  pa_imp (pa_cons h r hs) fun _ _ _ ⟨⟨v0, a, b⟩, q⟩ => ⟨⟨v0, a, b⟩, fun v H1 e1 d1 => ⟨⟨v0, a, KeepL.dp (Same.keepL e1) b⟩, fun vs H2 e2 d2 => q _ _ (Same.trans e1 e2) (.cons (KeepL.dp (Same.keepL e2) d1) d2)⟩⟩
theorem lit_tup {x1 : Nat} {pos : Pos} (h : PA X es (tLits K i g ds)) (hl : ds.length ≤ 1000) : PE X (.Tuple es x1 pos) (tLit K i g (.tuple ds)) :=
  pe_imp (pe_tup h) fun _ _ _ ⟨a, q⟩ => ⟨a, fun vs H1 e1 d1 => ⟨sizeOk (by rw [DpAll.len d1]; exact Nat.le_trans hl (by decide)), fun p hp => q _ _ (Same.trans e1 (same_new hp _)) (.tup (SqT.of upd_same) (KeepL.dps (Same.keepL (same_new hp _)) d1))⟩⟩
theorem lit_lst {pos : Pos} (h : PA X es (tLits K i g ds)) (hl : ds.length ≤ 1000) : PE X (.List es pos) (tLitL K i g ds) :=
  pe_imp (pe_lst h) fun _ _ _ ⟨a, q⟩ => ⟨a, fun vs H1 e1 d1 => ⟨sizeOk (by rw [DpAll.len d1]; exact Nat.le_trans hl (by decide)), fun p hp => q _ _ _ (Same.trans e1 (same_new hp _)) upd_same (KeepL.dps (Same.keepL (same_new hp _)) d1)⟩⟩
theorem lit_list {pos : Pos} (h : PA X es (tLits K i g ds)) (hl : ds.length ≤ 1000) : PE X (.List es pos) (tLit K i g (.list ds)) :=
  pe_imp (lit_lst h hl) fun _ _ _ ⟨a, q⟩ => ⟨a, fun _ _ _ e1 h1 d1 => q _ _ e1 (.lst (SqL.of h1) d1)⟩
end
theorem DpAll.app {K : PySem.W.Frag} {H : Hp} : ∀ {vs : List V} {ds : List PyData} {us : List V} {es : List PyData}, DpAll K H vs ds → DpAll K H us es → DpAll K H (vs ++ us) (ds ++ es)
  | _, _, _, _, .nil, h => h
  | _, _, _, _, .cons a b, h => .cons a (DpAll.app b h)
end Sc
namespace Sc
open PySem PySem.Spec PyProof.Rows L2
/-! ### good kinds, bad ones -/
theorem okL_mem' {ls : List Str} {d : Nat} {c : Ch} : ∀ {k : List Ch}, okL ls d k → c ∈ k → okC ls d c
  | _ :: _, h, m => by
    rcases List.mem_cons.mp m with e | e
    · rw [e]; exact h.1
    · exact okL_mem' h.2 e
theorem okF_mem' {ls : List Str} {d : Nat} {p : Str × List Ch} : ∀ {fs : List (Str × List Ch)}, okF ls d fs → p ∈ fs → Word p.1 ∧ p.2 ≠ [] ∧ p.2.length ≤ 3 ∧ okL ls d p.2
  | (f, k) :: r, h, m => by
    rcases List.mem_cons.mp m with e | e
    · rw [e]; exact ⟨h.1, h.2.1, h.2.2.1, h.2.2.2.1⟩
    · exact okF_mem' h.2.2.2.2 e
theorem gCh_two' {ls : List Str} {g : PyData → Bool} (w : Str) (t : PyData) : gCh ls g (.tuple [.str w, t]) = if w = "row" ∨ w = "book" then g t else if w = "shape" then gFl g t else if w = "letter" then letD ls t else false := rfl
theorem good_kind {ls : List Str} (hl : ∀ l ∈ ls, Lett l) : ∀ (d n : Nat), d < n → ∀ k : List Ch, k ≠ [] → okL ls d k → gK ls n (.tuple (pyL k)) = true := by
  intro d
  induction d with
  | zero => 
    intro n hn k k0 ok
    obtain ⟨m, rfl⟩ : ∃ m, n = m + 1 := ⟨n - 1, by omega⟩
    show (!(pyL k).isEmpty && (pyL k).all (gCh ls (gK ls m))) = true
    rw [pyL_map, Bool.and_eq_true]
    refine ⟨by cases k with | nil => exact absurd rfl k0 | cons _ _ => rfl, ?_⟩
    rw [List.all_map, List.all_eq_true]
    intro c hc
    have h := okL_mem' ok hc
    show gCh ls (gK ls m) (pyC c) = true
    cases c with
    | num => rw [pyC]; rfl
    | txt => rw [pyC]; rfl
    | row k => exact absurd h.1 (Nat.lt_irrefl _)
    | book k => exact absurd h.1 (Nat.lt_irrefl _)
    | shape fs => exact absurd h.1 (Nat.lt_irrefl _)
    | letter l =>
      have h' : l ∈ ls := by unfold okC at h; exact h
      rw [pyC, gCh_two', if_neg (by decide +kernel), if_neg (by decide +kernel), if_pos rfl]
      show (isLettD (.str l) && decide (l ∈ ls)) = true
      rw [decide_eq_true h', Bool.and_true]
      exact decide_eq_true (hl l h')
    | cut _ _ => unfold okC at h; exact h.elim
    | any _ => unfold okC at h; exact h.elim
    | wth _ => unfold okC at h; exact h.elim
  | succ d ih =>
    intro n hn k k0 ok
    obtain ⟨m, rfl⟩ : ∃ m, n = m + 1 := ⟨n - 1, by omega⟩
    show (!(pyL k).isEmpty && (pyL k).all (gCh ls (gK ls m))) = true
    rw [pyL_map, Bool.and_eq_true]
    refine ⟨by cases k with | nil => exact absurd rfl k0 | cons _ _ => rfl, ?_⟩
    rw [List.all_map, List.all_eq_true]
    intro c hc
    have h := okL_mem' ok hc
    show gCh ls (gK ls m) (pyC c) = true
    cases c with
    | num => rw [pyC]; rfl
    | txt => rw [pyC]; rfl
    | row k =>
      rw [pyC, gCh_two', if_pos (.inl rfl)]
      exact ih m (by omega) k h.2.1 h.2.2.2
    | book k =>
      rw [pyC, gCh_two', if_pos (.inr rfl)]
      exact ih m (by omega) k h.2.1 h.2.2.2
    | shape fs =>
      obtain ⟨_, _, fl, okf⟩ := h
      rw [pyC, gCh_two', if_neg (by decide +kernel), if_pos rfl]
      show (fldD (.tuple (pyF fs)) && (pyF fs).all (gPr (gK ls m))) = true
      rw [Bool.and_eq_true]
      obtain ⟨f0, f26, fnd, fso, fw⟩ := fl
      constructor
      · show (!(pyF fs).isEmpty && (pyF fs).all pairD && ascB ((pyF fs).map nameD)) = true
        rw [pyF_map, Bool.and_eq_true, Bool.and_eq_true]
        refine ⟨⟨by cases fs with | nil => exact absurd rfl f0 | cons _ _ => rfl, ?_⟩, ?_⟩
        · rw [List.all_map, List.all_eq_true]
          intro p _
          rfl
        · rw [List.map_map]
          show ascB (fs.map (·.1)) = true
          unfold ascB
          rw [fso, decide_eq_true fnd]
          rfl
      · rw [pyF_map, List.all_map, List.all_eq_true]
        intro p hp
        obtain ⟨w1, k1, _, o1⟩ := okF_mem' okf hp
        show (isWordD (.str p.1) && gK ls m (.tuple (pyL p.2))) = true
        rw [ih m (by omega) p.2 k1 o1, Bool.and_true]
        exact decide_eq_true w1
    | letter l =>
      have h' : l ∈ ls := by unfold okC at h; exact h
      rw [pyC, gCh_two', if_neg (by decide +kernel), if_neg (by decide +kernel), if_pos rfl]
      show (isLettD (.str l) && decide (l ∈ ls)) = true
      rw [decide_eq_true h', Bool.and_true]
      exact decide_eq_true (hl l h')
    | cut _ _ => unfold okC at h; exact h.elim
    | any _ => unfold okC at h; exact h.elim
    | wth _ => unfold okC at h; exact h.elim
/-- not too deep, not too long -/
def OkN (n : Nat) (d : PyData) : Prop := d.canLay0 = true ∧ sm d = true ∧ d.depth ≤ n
theorem OkN.ok {n : Nat} {d : PyData} (h : OkN n d) (hn : n ≤ 64) : okD d := ⟨Bool.and_eq_true_iff.mpr ⟨h.1, decide_eq_true (Nat.le_trans h.2.2 hn)⟩, h.2.1⟩
theorem OkN.mono {m n : Nat} {d : PyData} (h : OkN m d) (hn : m ≤ n) : OkN n d := ⟨h.1, h.2.1, Nat.le_trans h.2.2 hn⟩
theorem okN_tup {n : Nat} {ds : List PyData} (hl : ds.length ≤ 60) (h : ∀ d ∈ ds, OkN n d) : OkN (n + 1) (.tuple ds) := by
  have a : ∀ ds : List PyData, (∀ d ∈ ds, OkN n d) → PyData.canLayAll0 ds = true ∧ smAll ds = true ∧ PyData.depthAll ds ≤ n := fun ds => by
    induction ds with
    | nil => exact fun _ => ⟨rfl, rfl, by simp [PyData.depthAll]⟩
    | cons x xs ih =>
      intro h
      obtain ⟨h1, h2, h3⟩ := ih fun d m => h d (List.mem_cons_of_mem _ m)
      obtain ⟨g1, g2, g3⟩ := h x List.mem_cons_self
      refine ⟨?_, ?_, ?_⟩
      · show (x.canLay0 && PyData.canLayAll0 xs) = true
        rw [g1, h1]; rfl
      · show (sm x && smAll xs) = true
        rw [g2, h2]; rfl
      · have e0 : PyData.depthAll (x :: xs) = max x.depth (PyData.depthAll xs) := by simp [PyData.depthAll]
        rw [e0]
        omega
  obtain ⟨h1, h2, h3⟩ := a ds h
  refine ⟨h1, ?_, ?_⟩
  · show (decide (ds.length ≤ 60) && smAll ds) = true
    rw [h2, decide_eq_true hl]; rfl
  · have e0 : (PyData.tuple ds).depth = PyData.depthAll ds + 1 := by simp [PyData.depth]
    omega
end Sc
namespace Sc
open PySem PySem.Spec PyProof.Rows L2
theorem okN_str {z : Str} (h8 : z.cps.toList.length ≤ 8) (h : ∀ c ∈ z.cps.toList, c ≤ 122) : OkN 0 (.str z) := by
  refine ⟨?_, ?_, by simp [PyData.depth]⟩
  · show z.cps.all (· < 0x110000) = true
    rw [← Array.all_toList, List.all_eq_true]
    intro c hc
    have := h c hc
    exact decide_eq_true (by omega)
  · show decide (z.length ≤ 1000) = true
    rw [len_list]
    exact decide_eq_true (by omega)
theorem okN_word {z : Str} (h : Word z) : OkN 0 (.str z) := okN_str h.2.1 fun c hc => (h.2.2 c hc).2
theorem okN_lett {z : Str} (h : Lett z) : OkN 0 (.str z) := okN_str h.2.1 fun c hc => by have := h.2.2 c hc; omega
theorem okN_w {z : Str} {n : Nat} (h : (PyData.canLay0 (.str z) && sm (.str z)) = true) : OkN n (.str z) := by
  rw [Bool.and_eq_true] at h
  exact ⟨h.1, h.2, by simp [PyData.depth]⟩
theorem okN_one {z : Str} {n : Nat} (h : (PyData.canLay0 (.str z) && sm (.str z)) = true) : OkN (n + 1) (.tuple [.str z]) := okN_tup (by show 1 ≤ 60; decide) fun x m => by rw [List.mem_singleton.mp m]; exact okN_w h
theorem okN_num (n : Nat) : OkN (n + 1) (pyC .num) := by rw [pyC]; exact okN_one (by decide +kernel)
theorem okN_txt (n : Nat) : OkN (n + 1) (pyC .txt) := by rw [pyC]; exact okN_one (by decide +kernel)
theorem okN_two {n : Nat} {w : Str} {d : PyData} (hw : OkN n (.str w)) (h : OkN n d) : OkN (n + 1) (.tuple [.str w, d]) := okN_tup (by show 2 ≤ 60; decide) fun x m => by
  rcases List.mem_cons.mp m with e | e
  · rw [e]; exact hw
  · rw [List.mem_singleton.mp e]; exact h
theorem okN_kind {ls : List Str} (hl : ∀ l ∈ ls, Lett l) : ∀ (d : Nat) (k : List Ch), k.length ≤ 60 → okL ls d k → OkN (4 * d + 2) (.tuple (pyL k)) := by
  intro d
  induction d with
  | zero =>
    intro k kl ok
    refine okN_tup (by rw [pyL_map, List.length_map]; exact kl) fun x hx => ?_
    rw [pyL_map] at hx
    obtain ⟨c, hc, rfl⟩ := List.mem_map.mp hx
    have h := okL_mem' ok hc
    cases c with
    | num => exact okN_num 0
    | txt => exact okN_txt 0
    | row k => exact absurd h.1 (Nat.lt_irrefl _)
    | book k => exact absurd h.1 (Nat.lt_irrefl _)
    | shape fs => exact absurd h.1 (Nat.lt_irrefl _)
    | letter l =>
      have h' : l ∈ ls := by unfold okC at h; exact h
      rw [pyC]
      exact okN_two (okN_w (by decide +kernel)) (okN_lett (hl l h'))
    | cut _ _ => unfold okC at h; exact h.elim
    | any _ => unfold okC at h; exact h.elim
    | wth _ => unfold okC at h; exact h.elim
  | succ d ih =>
    intro k kl ok
    refine okN_tup (by rw [pyL_map, List.length_map]; exact kl) fun x hx => ?_
    rw [pyL_map] at hx
    obtain ⟨c, hc, rfl⟩ := List.mem_map.mp hx
    have h := okL_mem' ok hc
    cases c with
    | num => exact okN_num _
    | txt => exact okN_txt _
    | row k =>
      rw [pyC]
      exact okN_two (n := 4 * d + 4) (okN_w (by decide +kernel)) ((ih k (by have := h.2.2.1; omega) h.2.2.2).mono (by omega))
    | book k =>
      rw [pyC]
      exact okN_two (n := 4 * d + 4) (okN_w (by decide +kernel)) ((ih k (by have := h.2.2.1; omega) h.2.2.2).mono (by omega))
    | shape fs =>
      obtain ⟨_, f2, fl, okf⟩ := h
      rw [pyC]
      refine okN_two (n := 4 * d + 4) (okN_w (by decide +kernel)) (okN_tup (n := 4 * d + 3) (by rw [pyF_map, List.length_map]; omega) fun x hx => ?_)
      rw [pyF_map] at hx
      obtain ⟨p, hp, rfl⟩ := List.mem_map.mp hx
      obtain ⟨w1, k1, k3, o1⟩ := okF_mem' okf hp
      exact okN_two (n := 4 * d + 2) ((okN_word w1).mono (by omega)) (ih p.2 (by omega) o1)
    | letter l =>
      have h' : l ∈ ls := by unfold okC at h; exact h
      rw [pyC]
      exact okN_two (n := 4 * (d + 1)) (okN_w (by decide +kernel)) ((okN_lett (hl l h')).mono (by omega))
    | cut _ _ => unfold okC at h; exact h.elim
    | any _ => unfold okC at h; exact h.elim
    | wth _ => unfold okC at h; exact h.elim
/-- refused with any room to eight -/
def Bad (ls : List Str) (d : PyData) : Prop := ∀ n, n ≤ 9 → gK ls n d = false
theorem bad_in {ls : List Str} {c : PyData} {cs : List PyData} (m : c ∈ cs) (h : ∀ n, n ≤ 9 → gCh ls (gK ls n) c = false) : Bad ls (.tuple cs) := fun n hn => by
  cases n with
  | zero => rfl
  | succ n =>
    show (!cs.isEmpty && cs.all (gCh ls (gK ls n))) = false
    have e : cs.all (gCh ls (gK ls n)) = false := Bool.eq_false_iff.mpr fun z => by
      have := List.all_eq_true.mp z c m
      rw [h n (by omega)] at this
      cases this
    rw [e, Bool.and_false]
theorem ch_row {ls : List Str} {d : PyData} (h : Bad ls d) : ∀ n, n ≤ 9 → gCh ls (gK ls n) (.tuple [.str "row", d]) = false := fun n hn => by rw [gCh_two', if_pos (.inl rfl)]; exact h n hn
theorem ch_book {ls : List Str} {d : PyData} (h : Bad ls d) : ∀ n, n ≤ 9 → gCh ls (gK ls n) (.tuple [.str "book", d]) = false := fun n hn => by rw [gCh_two', if_pos (.inr rfl)]; exact h n hn
theorem ch_shape {ls : List Str} {d : PyData} (z : Str) (h : Bad ls d) : ∀ n, n ≤ 9 → gCh ls (gK ls n) (.tuple [.str "shape", .tuple [.tuple [.str z, d]]]) = false := fun n hn => by
  rw [gCh_two', if_neg (by decide +kernel), if_pos rfl]
  have e : gPr (gK ls n) (.tuple [.str z, d]) = false := by show (isWordD (.str z) && gK ls n d) = false; rw [h n hn, Bool.and_false]
  show (fldD (.tuple [.tuple [.str z, d]]) && [PyData.tuple [.str z, d]].all (gPr (gK ls n))) = false
  rw [List.all_cons, e, Bool.false_and, Bool.and_false]
theorem bad_deep (ls : List Str) (f : Nat → PyData) (f1 : ∀ n, f (n + 1) = .tuple [.tuple [.str "row", f n]]) : ∀ m n, n ≤ m → gK ls n (f m) = false := by
  intro m
  induction m with
  | zero =>
    intro n hn
    obtain rfl : n = 0 := by omega
    rfl
  | succ m ih =>
    intro n hn
    cases n with
    | zero => rfl
    | succ n =>
      rw [f1]
      show (!([PyData.tuple [.str "row", f m]]).isEmpty && [PyData.tuple [.str "row", f m]].all (gCh ls (gK ls n))) = false
      rw [List.all_cons, gCh_two', if_pos (.inl rfl), ih n (by omega), Bool.false_and, Bool.and_false]
/-! ### no drawn letter is ZZ -/
theorem word_zz {i : Inf} (h : i.Ok) {k : Int} (k0 : 0 ≤ k) : (wordOf i k).cps.toList ≠ [122, 122] := by
  unfold wordOf
  split
  · rename_i c
    have lt : k.toNat < talks.length := by show k.toNat < 19; omega
    rw [List.getD_eq_getElem?_getD, List.getElem?_eq_getElem lt]
    have : ∀ z ∈ talks, z.cps.toList ≠ [122, 122] := by decide +kernel
    exact this _ (List.getElem_mem lt)
  · obtain ⟨s1, s8, p0, p1, t0, t1, _, _⟩ := h
    rw [app_list, app_list, reps_list, reps_list]
    intro e
    have l := congrArg List.length e
    rw [List.length_append, List.length_append, List.length_replicate, List.length_replicate] at l
    have l' : i.place.toNat + 1 + (i.size - i.place - 1).toNat = 2 := l
    have m : 113 ∈ ([122, 122] : List Nat) := by
      rw [← e]
      by_cases z : i.place.toNat = 0
      · exact List.mem_append.mpr (.inr (List.mem_replicate.mpr ⟨by omega, rfl⟩))
      · exact List.mem_append.mpr (.inl (List.mem_append.mpr (.inl (List.mem_replicate.mpr ⟨z, rfl⟩))))
    exact absurd m (by decide)
theorem upper_zz {i : Inf} (h : i.Ok) {k : Int} (k0 : 0 ≤ k) : Txt.upper (wordOf i k) ≠ "ZZ" := fun e => by
  have w := word_of h k0
  have n := word_zz h k0
  generalize wordOf i k = z at e w n
  rw [upper_ascii fun c m => by have := w.2.2 c m; omega] at e
  have e' : z.cps.toList.map up1 = [90, 90] := by
    have a : (⟨z.cps.map up1⟩ : Str).cps.toList = z.cps.toList.map up1 := Array.toList_map
    rw [← a, e]
    rfl
  have w2 := w.2.2
  have h2 : z.cps.toList.length = 2 := by have := congrArg List.length e'; rw [List.length_map] at this; exact this
  obtain ⟨a, b, hl⟩ : ∃ a b, z.cps.toList = [a, b] := by
    generalize z.cps.toList = l at h2
    match l, h2 with
    | [a, b], _ => exact ⟨a, b, rfl⟩
  rw [hl] at e' w2 n
  have ha := w2 a List.mem_cons_self
  have hb := w2 b (List.mem_cons_of_mem _ List.mem_cons_self)
  have e1 : up1 a = 90 := by injection e'
  have e2 : up1 b = 90 := by injection e' with _ q; injection q
  unfold up1 at e1 e2
  rw [if_pos ha] at e1
  rw [if_pos hb] at e2
  refine n ?_
  rw [show a = 122 by omega, show b = 122 by omega]
end Sc
namespace Sc
open PySem PySem.Spec PyProof.Rows L2
/-! ### a law's state beside tables -/
theorem Tb.ext {K : PySem.W.Frag} {T : List Addr} {H H' : Hp} {s : Addr} {i : Inf} (t : Tb T H) (S : IsS K H s i) (x : Ext s H H') : Tb T H' := fun P hP => by
  obtain ⟨ps, e, g⟩ := t P hP
  obtain ⟨kvs, hk⟩ := S.dk
  exact ⟨ps, x _ _ (fun z => by rw [z, hk] at e; cases e) e, g⟩
theorem IsS.keepL {K : PySem.W.Frag} {H H' : Hp} {s : Addr} {i : Inf} (h : IsS K H s i) (e : Ext s H H') : KeepL K H H' := ⟨fun _ _ q => h.seq e q, h.keep e⟩
theorem IsS.fr {K : PySem.W.Frag} {T : List Addr} {H H' : Hp} {s : Addr} {i : Inf} (h : IsS K H s i) (t : Tb T H) (f : Fr T H H') : IsS K H' s i := by
  have kp := Fr.keep (K := K) t f
  obtain ⟨ns, m, a, b, c⟩ := h
  refine ⟨ns, m, f.old _ _ a fun z => ?_, kp.1 _ _ b, c⟩
  obtain ⟨ps, e, _⟩ := t s z
  rw [a] at e
  cases e
/-- what stays through the law -/
structure Bd (K : PySem.W.Frag) (T : List Addr) (s : Addr) (i : Inf) (l : Addr) (ls : List Str) (gv : V) (gd : PyData) (H : Hp) : Prop where
  S : IsS K H s i
  tb : Tb T H
  hl : SqL K H l (ls.map V.str)
  dg : Dp K H gv gd
section
variable {K : PySem.W.Frag} {T : List Addr} {s : Addr} {i : Inf} {l : Addr} {ls : List Str} {gv : V} {gd : PyData} {H H' : Hp}
theorem Bd.ext (b : Bd K T s i l ls gv gd H) (x : Ext s H H') (S' : IsS K H' s i) : Bd K T s i l ls gv gd H' := ⟨S', b.tb.ext b.S x, b.S.seq x b.hl, KeepL.dp (b.S.keepL x) b.dg⟩
theorem Bd.same (b : Bd K T s i l ls gv gd H) (e : Same H H') : Bd K T s i l ls gv gd H' := ⟨b.S.same e, (Fr.same b.tb e).tab, Same.seq e b.hl, KeepL.dp (Same.keepL e) b.dg⟩
theorem Bd.fr (b : Bd K T s i l ls gv gd H) (f : Fr T H H') : Bd K T s i l ls gv gd H' := ⟨b.S.fr b.tb f, f.tab, (Fr.keep b.tb f).1 _ _ b.hl, KeepL.dp (Fr.keep b.tb f) b.dg⟩
theorem Bd.keepF (b : Bd K T s i l ls gv gd H) (f : Fr T H H') : KeepL K H H' := Fr.keep b.tb f
end
theorem KeepL.trans {K : PySem.W.Frag} {H H1 H2 : Hp} (a : KeepL K H H1) (b : KeepL K H1 H2) : KeepL K H H2 := ⟨fun _ _ h => b.1 _ _ (a.1 _ _ h), fun _ _ h => b.2 _ _ (a.2 _ _ h)⟩
end Sc
namespace Sc
open PySem PySem.Spec PyProof.Rows L2
/-! ### sorted(rows, key=lambda row: row[0]) -/
section
variable {prog : Program} {w : World} {A : Around} {s : Shared}
theorem lam_key0 {f t : Addr} {qual : Str} {params : Arguments} {scope : Scope} {x : Str} {cl : List (Str × Addr)} {pm ctv : Value} {c' : Addr} {items : Array Value} {z : Str} {tk : Tok} {j : Nat} {p1 p2 p3 : Pos}
    (hroom : A.depth < recursionLimit) (ho : s.heap.get? f = some (PySem.W.kla_obj "<lambda>" qual params (.Subscript (.Name x p1) (.Constant (.int 0) j p2) p3) scope cl pm c' ctv)) (hcd : s.heap.CodeRec (.ref c') qual) (nl : s.heap.NoLimit)
    (hco : scope.isCoroutine = false) (hgen : scope.isGenerator = false) (hk : scope.kind = .function) (hcell : ∀ y ∈ scope.names, y.2 ≠ .cell) (hx : scope.names.lookup x = some .local)
    (hbind : bindArgs (PySem.W.kla_fn "<lambda>" qual params (.Subscript (.Name x p1) (.Constant (.int 0) j p2) p3) scope cl pm (.ref c') ctv) ⟨[.ref t], []⟩ = pure [(x, .ref t)])
    (ht : IsTup s.heap t items) (h0 : items[0]? = some (.str z tk)) (hd : (x == ("__debug__" : Str)) = false) :
    wpAny (model prog w) A (call (.ref f) [.ref t]) (PySem.W.KeyPure (.str z) s) (fun _ _ => False) s := by
  refine wpAny_call (codeAny_mono (PySem.W.kla_callFunE (R := fun r s' => ∃ u, r = .ok (.ret u) ∧ PySem.W.KeyPure (.str z) s u s') hroom ho rfl hco hgen rfl hcd ?_) fun r s' hq => ?_)
  · rw [hbind]
    refine wpAny_pure (wpAny_newFunctionEnv hcell (fun y hy => by rw [List.mem_singleton.mp hy]; exact hx) (fun h₁ hns hsb => ⟨nl.fresh _ hsb, ?_⟩) hk)
    have kp : ∀ b o, s.heap.get? b = some o → h₁.get? b = some o := fun b o e => hsb.extBut b o (Nat.ne_of_lt (Heap.lt_size e)) (Heap.get?_push_of_some _ e)
    refine PySem.W.kla_codeExpr ?_
    refine Subscript_ ?_
    refine wpAny_Name (wpAny_loadName_local hk (show scope.names.lookup x = some .local from hx) hns (v := .ref t) (by simp) ?_) hd
    refine wpAny_Constant_int ?_
    have ht1 : IsTup h₁ t items := ht.keeps kp
    exact subscriptTail_builtinR (x := .str z tk) ht1.typeIs slot_tuple_getitem.lookup
      (getItem_tuple (j := 0) (Q := fun r s' => r = .str z tk ∧ _) ht1 (by decide) (by decide) (by have := (Array.getElem?_eq_some_iff.mp h0).1; simp [seqIndex?, this]) h0 ⟨rfl, .str z tk, rfl, h₁, _, rfl, kp, .str _ _⟩)
  · obtain ⟨u, rfl, k⟩ := hq
    exact k
end
end Sc
namespace Sc
open PySem PySem.Spec PyProof.Rows L2
theorem extN_keep {K : PySem.W.Frag} {H H' : Hp} (e : LamX.ExtN H H') : KeepL K H H' := by
  refine ⟨fun a xs h => ?_, fun a xs h => ?_⟩
  · rcases h with (h | ⟨o, h⟩) | h
    · exact .inl (.inl (e _ _ h fun ps z => by cases z))
    · exact .inl (.inr ⟨o, e _ _ h fun ps z => by cases z⟩)
    · exact .inr h
  · rcases h with (h | ⟨o, h⟩) | h
    · exact .inl (.inl (e _ _ h fun ps z => by cases z))
    · exact .inl (.inr ⟨o, e _ _ h fun ps z => by cases z⟩)
    · exact .inr h
theorem each_refs : ∀ {its : List Value} {rs : List (Addr × Str)}, Vals (rs.map fun r => V.ref r.1) its → PySem.W.EachIs (fun v (r : Addr × Str) => v = .ref r.1) its rs
  | _, [], .nil => .nil
  | _, _ :: _, .cons a b => .cons a (each_refs b)
theorem refs_each : ∀ {its : List Value} {rs : List (Addr × Str)}, PySem.W.EachIs (fun v (r : Addr × Str) => v = .ref r.1) its rs → Vals (rs.map fun r => V.ref r.1) its
  | _, _, .nil => .nil
  | _, _, .cons a b => .cons a (refs_each b)
def leR : Addr × Str → Addr × Str → Bool := PySem.W.dataLe false fun r => .str r.2
def tSortBy (K : PySem.W.Frag) (T : List (Addr × Str)) (te : TE) : TE := fun σ H Q => te σ H fun v H1 => ∃ (a : Addr) (rs : List (Addr × Str)), v = .ref a ∧ LamX.Tabs T H1 ∧ SqL K H1 a (rs.map fun r => V.ref r.1) ∧ rs.length ≤ 1000 ∧ (∀ r ∈ rs, ∃ u, SqT K H1 r.1 [.str r.2, u]) ∧
  ∀ (H2 : Hp) (p : Addr), LamX.ExtN H1 H2 → LamX.Tabs T H2 → H2 p = none → Q (.ref p) (upd H2 p (.lst ((rs.mergeSort leR).map fun r => V.ref r.1)))
section
variable {X : Cx}
theorem pe_sortedBy {k : Nat} {T : List (Addr × Str)} {c P : Addr} {params : Arguments} {scope : Scope} {x : Str} {e : Expr} {te : TE} {j : Nat} {p1 p2 p3 lpos kpos p pos : Pos}
    (hc : X.calm = true) (hr : Room k X.A) (hg : Gl X "sorted") (hm : X.mg "sorted" = none) (TB : LamX.TabB X.base X.mg c P) (hcode : X.env.code = .ref c) (hmT : (P, X.env.qual ++ "<lambda>") ∈ T) (hu : ∀ q ∈ T, q.1 = P → q.2 = X.env.qual ++ "<lambda>")
    (hdef : defaultsOf params X.env = ([], [])) (hco : scope.isCoroutine = false) (hgen : scope.isGenerator = false) (hk : scope.kind = .function) (hcell : ∀ y ∈ scope.names, y.2 ≠ .cell ∧ y.2 ≠ .free) (hx : scope.names.lookup x = some .local)
    (hbind : ∀ (qual : Str) (cl : List (Str × Addr)) (pm cdv ct v : Value), bindArgs (PySem.W.kla_fn "<lambda>" qual params (.Subscript (.Name x p1) (.Constant (.int 0) j p2) p3) scope cl pm cdv ct) ⟨[v], []⟩ = pure [(x, v)]) (he : PE X e te)
    (hd : (x == ("__debug__" : Str)) = false := by decide) (hes : starEach [e] X.env = (false, eval e X.env) :: starEach [] X.env := by rfl) :
    PE X (.Call (.Name "sorted" p) [e] [⟨some "key", .Lambda params (.Subscript (.Name x p1) (.Constant (.int 0) j p2) p3) scope lpos, kpos⟩] pos) (tSortBy X.K T te) := by
  refine ⟨fun pins s σ H Q I h => ?_⟩
  refine wpAny_Call_Name_kw (ld_blt I hg hm boot_sorted ?_)
  refine callWith_kw ?_ (by rw [hes]; rfl) (by rw [hes]; rfl)
  rw [hes]
  show wpAny _ _ (spliced ((false, eval e X.env) :: backTo pos (starEach [] X.env))) _ _ s
  refine Calls.spliced_cons (thn (he.run pins s σ H _ I h) fun u s1 ⟨v, H1, I1, r1, q1⟩ => Calls.spliced_nil ?_)
  obtain ⟨a, rs, rfl, hT, ha, hl, hrs, q⟩ := q1
  obtain rfl : u = Value.ref a := r1
  show wpAny _ _ (evalAll ((do let v ← eval (.Lambda params (.Subscript (.Name x p1) (.Constant (.int 0) j p2) p3) scope lpos) X.env; standAt pos; pure v) :: [])) _ _ s1
  refine wpAny_evalAll_cons (wpAny_bind (LamX.lam_make2 I1 TB hcode hmT hu hT hdef (fun y hy z => absurd z (hcell y hy).2) fun f c' pm ctv H2 s2 I2 eN T2 hf hfn hfr hcd => ?_))
  refine wpAny_bind (wpAny_standAt (wpAny_pure (wpAny_evalAll_nil ?_)))
  have K2 := extN_keep (K := X.K) eN
  obtain ⟨its, rv, pl, hz⟩ := I2.list (K2.1 _ _ ha)
  obtain ⟨⟨oc, cvs, ct, k1, k2, k3⟩, _, _⟩ := I2.hok c' _ hcd
  have cr : s2.heap.CodeRec (.ref c') (X.env.qual ++ "<lambda>") := ⟨c', oc, cvs, ct, rfl, k1, k2, k3⟩
  show wpAny _ _ (call (.builtin "sorted") [.ref a] [(Str.ofString "key", .ref f)]) _ _ s2
  refine wpAny_mono (PySem.W.sorted_key_data (β := Addr × Str) (b := false) (E := fun _ _ => False) (Q := EP X pins σ Q) (fun r => .str r.2) pl.isList (each_refs rv) ?_ (.inr ?_) (Nat.le_trans hl (by decide)) (fun r _ => ?_) (ksk_s1 _ _) (fun y => ksk_l1 _ _) (fun y => ksk_t1 f y) (fun v r hv hm h tk kp => ?_) (fun out c2 h' tk kp free hD hlen eo => ?_)) (fun _ _ z => z) (fun _ _ z => z.elim)
  · intro d hd d' hd'
    obtain ⟨_, _, rfl⟩ := List.mem_map.mp hd
    obtain ⟨_, _, rfl⟩ := List.mem_map.mp hd'
    rfl
  · intro d hd
    obtain ⟨_, _, rfl⟩ := List.mem_map.mp hd
    exact ⟨(fun z => by cases z), fun xs z => by cases z⟩
  · have := hr.units
    show _ + 2 + 0 < _
    omega
  · obtain ⟨u, hu⟩ := hrs r hm
    obtain ⟨tits, tv, tpl, _⟩ := I2.tuple (K2.2 _ _ hu)
    subst hv
    cases tv with
    | cons rz rr =>
      obtain ⟨tz, rfl⟩ := rz
      exact lam_key0 (s := { s2 with heap := h, toks := tk }) hr.depth (kp _ _ hf) (cr.keeps kp) (I2.nolimit.keeps kp) hco hgen hk (fun y hy => (hcell y hy).1) hx (hbind _ _ _ _ _ _) (tpl.keeps kp) rfl hd
  · have fr2 : H2 (s2.heap.objs.size + 1) = none := I2.hok.fresh (Nat.le_succ _)
    have ml : ((rs.mergeSort leR).map fun r => V.ref r.1).length ≤ sizeLine := by
      rw [List.length_map, List.length_mergeSort]
      exact Nat.le_trans hl (by decide)
    have J : Inv X pins σ (upd H2 (s2.heap.objs.size + 1) (.lst ((rs.mergeSort leR).map fun r => V.ref r.1))) { s2 with heap := h', toks := tk } :=
      I2.call (ch := []) (Un.laid kp (Nat.le_succ _) fr2) (I2.hok.laid kp (Nat.le_succ _) ⟨ml, out, c2, refs_each eo, hD⟩) I2.bare (fun _ z => nomatch z)
    exact ⟨.ref (s2.heap.objs.size + 1), _, J, rfl, q _ _ eN T2 fr2⟩
end
end Sc
namespace Sc
open PySem PySem.Spec PyProof.Rows L2
/-! ### two choices with the same text are the same -/
def lt1 (c : Nat) : Bool := (decide (65 ≤ c) && decide (c ≤ 90)) || (decide (97 ≤ c) && decide (c ≤ 122))
/-- nothing, or a sign that is no letter ahead -/
def Stop (p : Nat → Bool) (x : List Nat) : Prop := ∀ a r, x = a :: r → p a = false
theorem span_eq {p : Nat → Bool} : ∀ {a a' x x' : List Nat}, (∀ c ∈ a, p c = true) → (∀ c ∈ a', p c = true) → Stop p x → Stop p x' → a ++ x = a' ++ x' → a = a' ∧ x = x'
  | [], [], _, _, _, _, _, _, e => ⟨rfl, e⟩
  | [], b :: _, _, _, _, h', hx, _, e => by
    have := hx _ _ e
    rw [h' b List.mem_cons_self] at this
    cases this
  | b :: _, [], _, _, h, _, _, hx', e => by
    have := hx' _ _ e.symm
    rw [h b List.mem_cons_self] at this
    cases this
  | b :: a, b' :: a', x, x', h, h', hx, hx', e => by
    have e' : b :: (a ++ x) = b' :: (a' ++ x') := e
    injection e' with e1 e2
    obtain ⟨r1, r2⟩ := span_eq (fun c m => h c (List.mem_cons_of_mem _ m)) (fun c m => h' c (List.mem_cons_of_mem _ m)) hx hx' e2
    exact ⟨by rw [e1, r1], r2⟩
/-- what may stand behind a choice, behind a kind -/
def TC (r : List Nat) : Prop := ∀ a s, r = a :: s → a = 32 ∨ a = 44 ∨ a = 41 ∨ a = 125
def TK (r : List Nat) : Prop := ∀ a s, r = a :: s → a = 44 ∨ a = 41 ∨ a = 125
theorem TK.c {r : List Nat} (h : TK r) : TC r := fun a s e => .inr (h a s e)
theorem TC.stop {r : List Nat} (h : TC r) : Stop lt1 r := fun a s e => by rcases h a s e with z | z | z | z <;> rw [z] <;> rfl
/-- heads of a cut: no comma, no bracket -/
def hok (h : Str) : Prop := ∀ c ∈ TL.tl h, c ≠ 44 ∧ c ≠ 41
/-- well-formed to n deep -/
def gd : Nat → Ch → Prop
  | 0, .num => True
  | 0, .txt => True
  | 0, .letter l => Lett l
  | 0, .cut l hs => Lett l ∧ hs ≠ [] ∧ ∀ h ∈ hs, hok h
  | 0, _ => False
  | _ + 1, .num => True
  | _ + 1, .txt => True
  | _ + 1, .letter l => Lett l
  | _ + 1, .cut l hs => Lett l ∧ hs ≠ [] ∧ ∀ h ∈ hs, hok h
  | n + 1, .row k => k ≠ [] ∧ ∀ c ∈ k, gd n c
  | n + 1, .book k => k ≠ [] ∧ ∀ c ∈ k, gd n c
  | n + 1, .shape fs => fs ≠ [] ∧ ∀ p ∈ fs, Word p.1 ∧ p.2 ≠ [] ∧ ∀ c ∈ p.2, gd n c
  | _ + 1, _ => False
/-- the letters ahead, and the rest -/
def lead : Ch → List Nat
  | .num => TL.tl "number"
  | .txt => TL.tl "text"
  | .row _ => TL.tl "row"
  | .book _ => TL.tl "book"
  | .shape _ => []
  | .letter l => TL.tl l
  | .cut l _ => TL.tl l
  | _ => []
def rest1 : Ch → List Nat
  | .row k => 40 :: (TL.joinL bar (cL k) ++ [41])
  | .book k => 40 :: (TL.joinL bar (cL k) ++ [41])
  | .shape fs => 123 :: (TL.joinL com (cF fs) ++ [125])
  | .cut _ hs => 40 :: (TL.joinL com (hs.map TL.tl) ++ [41])
  | .any w => TL.tl "some" ++ 32 :: TL.tl w
  | .wth f => TL.tl "with" ++ 32 :: TL.tl f
  | _ => []
theorem cC_lead (c : Ch) : cC c = lead c ++ rest1 c := by
  cases c <;> simp [cC, lead, rest1]
theorem joinL_one (S p : List Nat) : TL.joinL S [p] = p := by simp [TL.joinL]
theorem joinL_two (S p q : List Nat) (r : List (List Nat)) : TL.joinL S (p :: q :: r) = p ++ (S ++ TL.joinL S (q :: r)) := by simp [TL.joinL]
theorem join_inj {α : Type} {S : List Nat} {enc : α → List Nat} {E T : List Nat → Prop} (te : ∀ r, T r → E r) (se : ∀ x, E (S ++ x)) (ns : ∀ r x, T r → r ≠ S ++ x) : ∀ {as bs : List α} {r r' : List Nat},
    (∀ a ∈ as, ∀ b ∈ bs, ∀ x x', E x → E x' → enc a ++ x = enc b ++ x' → a = b ∧ x = x') → as ≠ [] → bs ≠ [] → T r → T r' → TL.joinL S (as.map enc) ++ r = TL.joinL S (bs.map enc) ++ r' → as = bs ∧ r = r'
  | [], _, _, _, _, h, _, _, _, _ => absurd rfl h
  | _ :: _, [], _, _, _, _, h, _, _, _ => absurd rfl h
  | [a], [b], r, r', inj, _, _, t, t', e => by
    simp only [List.map_cons, List.map_nil, joinL_one] at e
    obtain ⟨h1, h2⟩ := inj a List.mem_cons_self b List.mem_cons_self _ _ (te _ t) (te _ t') e
    exact ⟨by rw [h1], h2⟩
  | [a], b :: b2 :: bs, r, r', inj, _, _, t, t', e => by
    simp only [List.map_cons, List.map_nil, joinL_one, joinL_two, List.append_assoc] at e
    obtain ⟨_, h2⟩ := inj a List.mem_cons_self b List.mem_cons_self _ _ (te _ t) (se _) e
    exact absurd h2 (ns _ _ t)
  | a :: a2 :: as, [b], r, r', inj, _, _, t, t', e => by
    simp only [List.map_cons, List.map_nil, joinL_one, joinL_two, List.append_assoc] at e
    obtain ⟨_, h2⟩ := inj a List.mem_cons_self b List.mem_cons_self _ _ (se _) (te _ t') e
    exact absurd h2.symm (ns _ _ t')
  | a :: a2 :: as, b :: b2 :: bs, r, r', inj, _, _, t, t', e => by
    simp only [List.map_cons, joinL_two, List.append_assoc] at e
    obtain ⟨h1, h2⟩ := inj a List.mem_cons_self b List.mem_cons_self _ _ (se _) (se _) e
    have h3 := List.append_cancel_left h2
    rw [← List.map_cons, ← List.map_cons] at h3
    obtain ⟨h4, h5⟩ := join_inj te se ns (as := a2 :: as) (bs := b2 :: bs) (fun x hx y hy => inj x (List.mem_cons_of_mem _ hx) y (List.mem_cons_of_mem _ hy)) (by simp) (by simp) t t' h3
    exact ⟨by rw [h1, h4], h5⟩
theorem word_lt {z : Str} (h : Word z) : ∀ c ∈ TL.tl z, lt1 c = true := fun c m => by
  have := h.2.2 c m
  unfold lt1
  rw [decide_eq_true this.1, decide_eq_true this.2]
  simp
theorem lett_lt {z : Str} (h : Lett z) : ∀ c ∈ TL.tl z, lt1 c = true := fun c m => by
  have := h.2.2 c m
  unfold lt1
  rw [decide_eq_true this.1, decide_eq_true this.2]
  simp
/-- fields -/
theorem field_inj {n : Nat} (inj : ∀ {c c' : Ch}, gd n c → gd n c' → ∀ x x', TC x → TC x' → cC c ++ x = cC c' ++ x' → c = c' ∧ x = x') {p q : Str × List Ch}
    (hp : Word p.1 ∧ p.2 ≠ [] ∧ ∀ c ∈ p.2, gd n c) (hq : Word q.1 ∧ q.2 ≠ [] ∧ ∀ c ∈ q.2, gd n c) {x x' : List Nat} (t : TK x) (t' : TK x')
    (e : (TL.tl p.1 ++ 58 :: 32 :: TL.joinL bar (cL p.2)) ++ x = (TL.tl q.1 ++ 58 :: 32 :: TL.joinL bar (cL q.2)) ++ x') : p = q ∧ x = x' := by
  rw [List.append_assoc, List.append_assoc] at e
  obtain ⟨e1, e2⟩ := span_eq (p := lt1) (word_lt hp.1) (word_lt hq.1) (fun a r z => by injection z with z _; rw [← z]; rfl) (fun a r z => by injection z with z _; rw [← z]; rfl) e
  have e3 : TL.joinL bar (cL p.2) ++ x = TL.joinL bar (cL q.2) ++ x' := by injection e2 with _ e2; injection e2
  rw [cL_map, cL_map] at e3
  obtain ⟨h1, h2⟩ := join_inj (E := TC) (T := TK) (fun r h => h.c) (fun x a s z => by injection z with z _; exact .inl z.symm) (fun r x h z => by rcases h _ _ z with w | w | w <;> cases w)
    (fun a ha b hb x x' hx hx' => inj (hp.2.2 a ha) (hq.2.2 b hb) x x' hx hx') hp.2.1 hq.2.1 t t' e3
  exact ⟨Prod.ext (TL.ext_tl e1) h1, h2⟩
theorem kind_inj {n : Nat} (inj : ∀ {c c' : Ch}, gd n c → gd n c' → ∀ x x', TC x → TC x' → cC c ++ x = cC c' ++ x' → c = c' ∧ x = x') {k k' : List Ch} (k0 : k ≠ []) (k1 : k' ≠ []) (h : ∀ c ∈ k, gd n c) (h' : ∀ c ∈ k', gd n c) {r r' : List Nat}
    (e : (TL.joinL bar (cL k) ++ [41]) ++ r = (TL.joinL bar (cL k') ++ [41]) ++ r') : k = k' ∧ r = r' := by
  rw [List.append_assoc, List.append_assoc, cL_map, cL_map] at e
  obtain ⟨h1, h2⟩ := join_inj (E := TC) (T := TK) (fun r h => h.c) (fun x a s z => by injection z with z _; exact .inl z.symm) (fun r x h z => by rcases h _ _ z with w | w | w <;> cases w)
    (fun a ha b hb x x' hx hx' => inj (h a ha) (h' b hb) x x' hx hx') k0 k1 (r := [41] ++ r) (r' := [41] ++ r') (fun a s z => by injection z with z _; exact .inr (.inl z.symm)) (fun a s z => by injection z with z _; exact .inr (.inl z.symm)) e
  exact ⟨h1, by injection h2⟩
theorem cut_inj {hs hs' : List Str} (h0 : hs ≠ []) (h1 : hs' ≠ []) (h : ∀ z ∈ hs, hok z) (h' : ∀ z ∈ hs', hok z) {r r' : List Nat} (e : (TL.joinL com (hs.map TL.tl) ++ [41]) ++ r = (TL.joinL com (hs'.map TL.tl) ++ [41]) ++ r') : hs = hs' ∧ r = r' := by
  rw [List.append_assoc, List.append_assoc] at e
  obtain ⟨h1, h2⟩ := join_inj (S := com) (enc := TL.tl) (E := fun r => ∃ a s, r = a :: s ∧ (a = 44 ∨ a = 41)) (T := fun r => ∃ s, r = 41 :: s) (fun r ⟨s, z⟩ => ⟨_, s, z, .inr rfl⟩) (fun x => ⟨_, _, rfl, .inl rfl⟩) (fun r x ⟨s, z⟩ w => by rw [z] at w; injection w with w _; cases w)
    (fun a ha b hb x x' ⟨c, s, ex, hc⟩ ⟨c', s', ex', hc'⟩ q => by
      obtain ⟨e1, e2⟩ := span_eq (p := fun c => decide (c ≠ 44 ∧ c ≠ 41)) (fun c m => decide_eq_true (h a ha c m)) (fun c m => decide_eq_true (h' b hb c m))
        (fun a r z => by rw [ex] at z; injection z with z _; rw [← z]; rcases hc with w | w <;> rw [w] <;> rfl) (fun a r z => by rw [ex'] at z; injection z with z _; rw [← z]; rcases hc' with w | w <;> rw [w] <;> rfl) q
      exact ⟨TL.ext_tl e1, e2⟩) h0 h1 ⟨_, rfl⟩ ⟨_, rfl⟩ e
  exact ⟨h1, by injection h2⟩
theorem gd_any {n : Nat} {w : Str} : ¬ gd n (.any w) := by cases n <;> exact fun h => h
theorem gd_wth {n : Nat} {w : Str} : ¬ gd n (.wth w) := by cases n <;> exact fun h => h
theorem gd_lett {n : Nat} {l : Str} (h : gd n (.letter l)) : Lett l := by cases n <;> exact h
theorem gd_cut {n : Nat} {l : Str} {hs : List Str} (h : gd n (.cut l hs)) : Lett l ∧ hs ≠ [] ∧ ∀ z ∈ hs, hok z := by cases n <;> exact h
theorem gd_row {n : Nat} {k : List Ch} (h : gd n (.row k)) : ∃ m, n = m + 1 ∧ k ≠ [] ∧ ∀ c ∈ k, gd m c := by
  cases n with
  | zero => exact h.elim
  | succ m => exact ⟨m, rfl, h⟩
theorem gd_book {n : Nat} {k : List Ch} (h : gd n (.book k)) : ∃ m, n = m + 1 ∧ k ≠ [] ∧ ∀ c ∈ k, gd m c := by
  cases n with
  | zero => exact h.elim
  | succ m => exact ⟨m, rfl, h⟩
theorem gd_shape {n : Nat} {fs : List (Str × List Ch)} (h : gd n (.shape fs)) : ∃ m, n = m + 1 ∧ fs ≠ [] ∧ ∀ p ∈ fs, Word p.1 ∧ p.2 ≠ [] ∧ ∀ c ∈ p.2, gd m c := by
  cases n with
  | zero => exact h.elim
  | succ m => exact ⟨m, rfl, h⟩
theorem lead_lt {n : Nat} {c : Ch} (h : gd n c) : ∀ a ∈ lead c, lt1 a = true := by
  cases c with
  | num => exact (by decide : ∀ a ∈ TL.tl "number", lt1 a = true)
  | txt => exact (by decide : ∀ a ∈ TL.tl "text", lt1 a = true)
  | row _ => exact (by decide : ∀ a ∈ TL.tl "row", lt1 a = true)
  | book _ => exact (by decide : ∀ a ∈ TL.tl "book", lt1 a = true)
  | shape _ => intro a m; cases m
  | letter l => exact lett_lt (gd_lett h)
  | cut l _ => exact lett_lt (gd_cut h).1
  | any _ => exact (gd_any h).elim
  | wth _ => exact (gd_wth h).elim
theorem rest_stop {n : Nat} {c : Ch} (h : gd n c) {x : List Nat} (t : TC x) : Stop lt1 (rest1 c ++ x) := by
  cases c with
  | num => exact t.stop
  | txt => exact t.stop
  | row _ => intro a r e; injection e with e _; rw [← e]; rfl
  | book _ => intro a r e; injection e with e _; rw [← e]; rfl
  | shape _ => intro a r e; injection e with e _; rw [← e]; rfl
  | letter l => exact t.stop
  | cut l _ => intro a r e; injection e with e _; rw [← e]; rfl
  | any _ => exact (gd_any h).elim
  | wth _ => exact (gd_wth h).elim
theorem lett_no {l : Str} {z : List Nat} (h : Lett l) (e : TL.tl l = z) (b : (z.all fun c => decide (65 ≤ c) && decide (c ≤ 90)) = false ∨ z = []) : False := by
  rcases b with b | b
  · have : (z.all fun c => decide (65 ≤ c) && decide (c ≤ 90)) = true := by
      rw [← e, List.all_eq_true]
      intro c m
      have := h.2.2 c m
      rw [decide_eq_true this.1, decide_eq_true this.2]
      rfl
    rw [this] at b
    cases b
  · have h1 : 1 ≤ (TL.tl l).length := h.1
    rw [e, b] at h1
    exact absurd h1 (by decide)
theorem tc_no {x y : List Nat} {a : Nat} (t : TC x) (e : x = a :: y) (h : a ≠ 32 ∧ a ≠ 44 ∧ a ≠ 41 ∧ a ≠ 125) : False := by
  rcases t _ _ e with w | w | w | w
  · exact h.1 w
  · exact h.2.1 w
  · exact h.2.2.1 w
  · exact h.2.2.2 w
theorem choice_inj : ∀ (n : Nat) {c c' : Ch}, gd n c → gd n c' → ∀ x x', TC x → TC x' → cC c ++ x = cC c' ++ x' → c = c' ∧ x = x' := by
  intro n
  induction n using Nat.strongRecOn with
  | ind n ih =>
  intro c c' h h' x x' t t' e
  rw [cC_lead, cC_lead, List.append_assoc, List.append_assoc] at e
  obtain ⟨e1, e2⟩ := span_eq (lead_lt h) (lead_lt h') (rest_stop h t) (rest_stop h' t') e
  cases c with
  | any _ => exact (gd_any h).elim
  | wth _ => exact (gd_wth h).elim
  | num => cases c' with
    | any _ => exact (gd_any h').elim
    | wth _ => exact (gd_wth h').elim
    | num => exact ⟨rfl, e2⟩
    | txt => (dsimp only [lead] at e1; exact absurd e1 (by decide))
    | row _ => (dsimp only [lead] at e1; exact absurd e1 (by decide))
    | book _ => (dsimp only [lead] at e1; exact absurd e1 (by decide))
    | shape _ => (dsimp only [lead] at e1; exact absurd e1 (by decide))
    | letter l => exact (lett_no (gd_lett h') e1.symm (.inl (by dsimp only [lead]; decide))).elim
    | cut l _ => exact (lett_no (gd_cut h').1 e1.symm (.inl (by dsimp only [lead]; decide))).elim
  | txt => cases c' with
    | any _ => exact (gd_any h').elim
    | wth _ => exact (gd_wth h').elim
    | num => (dsimp only [lead] at e1; exact absurd e1 (by decide))
    | txt => exact ⟨rfl, e2⟩
    | row _ => (dsimp only [lead] at e1; exact absurd e1 (by decide))
    | book _ => (dsimp only [lead] at e1; exact absurd e1 (by decide))
    | shape _ => (dsimp only [lead] at e1; exact absurd e1 (by decide))
    | letter l => exact (lett_no (gd_lett h') e1.symm (.inl (by dsimp only [lead]; decide))).elim
    | cut l _ => exact (lett_no (gd_cut h').1 e1.symm (.inl (by dsimp only [lead]; decide))).elim
  | row k => cases c' with
    | any _ => exact (gd_any h').elim
    | wth _ => exact (gd_wth h').elim
    | num => (dsimp only [lead] at e1; exact absurd e1 (by decide))
    | txt => (dsimp only [lead] at e1; exact absurd e1 (by decide))
    | row k' =>
      obtain ⟨m, rfl, k0, hk⟩ := gd_row h
      obtain ⟨m', em, k1, hk'⟩ := gd_row h'
      cases em
      obtain ⟨r1, r2⟩ := kind_inj (fun {_ _} a b => ih m (Nat.lt_succ_self m) a b) k0 k1 hk hk' (by injection e2)
      exact ⟨by rw [r1], r2⟩
    | book _ => (dsimp only [lead] at e1; exact absurd e1 (by decide))
    | shape _ => (dsimp only [lead] at e1; exact absurd e1 (by decide))
    | letter l => exact (lett_no (gd_lett h') e1.symm (.inl (by dsimp only [lead]; decide))).elim
    | cut l _ => exact (lett_no (gd_cut h').1 e1.symm (.inl (by dsimp only [lead]; decide))).elim
  | book k => cases c' with
    | any _ => exact (gd_any h').elim
    | wth _ => exact (gd_wth h').elim
    | num => (dsimp only [lead] at e1; exact absurd e1 (by decide))
    | txt => (dsimp only [lead] at e1; exact absurd e1 (by decide))
    | book k' =>
      obtain ⟨m, rfl, k0, hk⟩ := gd_book h
      obtain ⟨m', em, k1, hk'⟩ := gd_book h'
      cases em
      obtain ⟨r1, r2⟩ := kind_inj (fun {_ _} a b => ih m (Nat.lt_succ_self m) a b) k0 k1 hk hk' (by injection e2)
      exact ⟨by rw [r1], r2⟩
    | row _ => (dsimp only [lead] at e1; exact absurd e1 (by decide))
    | shape _ => (dsimp only [lead] at e1; exact absurd e1 (by decide))
    | letter l => exact (lett_no (gd_lett h') e1.symm (.inl (by dsimp only [lead]; decide))).elim
    | cut l _ => exact (lett_no (gd_cut h').1 e1.symm (.inl (by dsimp only [lead]; decide))).elim
  | shape fs => cases c' with
    | any _ => exact (gd_any h').elim
    | wth _ => exact (gd_wth h').elim
    | num => (dsimp only [lead] at e1; exact absurd e1 (by decide))
    | txt => (dsimp only [lead] at e1; exact absurd e1 (by decide))
    | row _ => (dsimp only [lead] at e1; exact absurd e1 (by decide))
    | book _ => (dsimp only [lead] at e1; exact absurd e1 (by decide))
    | shape fs' =>
      obtain ⟨m, rfl, k0, hk⟩ := gd_shape h
      obtain ⟨m', em, k1, hk'⟩ := gd_shape h'
      cases em
      have e3 : (TL.joinL com (cF fs) ++ [125]) ++ x = (TL.joinL com (cF fs') ++ [125]) ++ x' := by injection e2
      rw [List.append_assoc, List.append_assoc, cF_map, cF_map] at e3
      obtain ⟨r1, r2⟩ := join_inj (S := com) (E := TK) (T := fun r => ∃ s, r = 125 :: s) (fun r ⟨s, z⟩ a s' w => by rw [z] at w; injection w with w _; exact .inr (.inr w.symm)) (fun x a s z => by injection z with z _; exact .inl z.symm) (fun r x ⟨s, z⟩ w => by rw [z] at w; injection w with w _; cases w)
        (fun a ha b hb x x' hx hx' q => field_inj (fun {_ _} a b => ih m (Nat.lt_succ_self m) a b) (hk a ha) (hk' b hb) hx hx' q) k0 k1 ⟨_, rfl⟩ ⟨_, rfl⟩ e3
      exact ⟨by rw [r1], by injection r2⟩
    | letter l => exact (lett_no (gd_lett h') e1.symm (.inr rfl)).elim
    | cut l _ => exact (lett_no (gd_cut h').1 e1.symm (.inr rfl)).elim
  | letter l => cases c' with
    | any _ => exact (gd_any h').elim
    | wth _ => exact (gd_wth h').elim
    | num => exact (lett_no (gd_lett h) e1 (.inl (by dsimp only [lead]; decide))).elim
    | txt => exact (lett_no (gd_lett h) e1 (.inl (by dsimp only [lead]; decide))).elim
    | row _ => exact (lett_no (gd_lett h) e1 (.inl (by dsimp only [lead]; decide))).elim
    | book _ => exact (lett_no (gd_lett h) e1 (.inl (by dsimp only [lead]; decide))).elim
    | shape _ => exact (lett_no (gd_lett h) e1 (.inr rfl)).elim
    | letter l' => exact ⟨by rw [TL.ext_tl e1], e2⟩
    | cut l' _ => exact (tc_no t e2 (by decide)).elim
  | cut l hs => cases c' with
    | any _ => exact (gd_any h').elim
    | wth _ => exact (gd_wth h').elim
    | num => exact (lett_no (gd_cut h).1 e1 (.inl (by dsimp only [lead]; decide))).elim
    | txt => exact (lett_no (gd_cut h).1 e1 (.inl (by dsimp only [lead]; decide))).elim
    | row _ => exact (lett_no (gd_cut h).1 e1 (.inl (by dsimp only [lead]; decide))).elim
    | book _ => exact (lett_no (gd_cut h).1 e1 (.inl (by dsimp only [lead]; decide))).elim
    | shape _ => exact (lett_no (gd_cut h).1 e1 (.inr rfl)).elim
    | letter l' => exact (tc_no t' e2.symm (by decide)).elim
    | cut l' hs' =>
      obtain ⟨_, h0, hh⟩ := gd_cut h
      obtain ⟨_, h1, hh'⟩ := gd_cut h'
      obtain ⟨r1, r2⟩ := cut_inj h0 h1 hh hh' (by injection e2)
      exact ⟨by rw [TL.ext_tl e1, r1], r2⟩
/-- two choices with the same text are the same -/
theorem txC_inj {n : Nat} {c c' : Ch} (h : gd n c) (h' : gd n c') (e : txC c = txC c') : c = c' := by
  have e' : cC c = cC c' := congrArg TL.tl e
  exact (choice_inj n h h' [] [] (fun a s z => by cases z) (fun a s z => by cases z) (by rw [List.append_nil, List.append_nil]; exact e')).1
end Sc
namespace Sc
open PySem PyProof.Rows L2
/-- a def whose code object is known -/
structure DefT (K : PySem.W.Frag) (mg : Str → Option Value) (x : Str) (st : Stmt) (ps : List Str) (c : Addr) : Prop where
  ex : ∃ (f : Addr) (fd : FuncData) (oc : Value) (od : Option Addr) (kV doc pm : Value) (an : Option Addr) (ct : Value) (osl : Array (Option Value)),
    fd = PySem.W.fnOf x x (defArgs st) (defBody st) (defScope st) .none kV doc pm an (.ref c) ct ∧ K.lookup f = some ⟨oc, od, .func fd, osl⟩ ∧ PySem.W.codeIn K (.ref c) x = true ∧ PySem.W.keepIn K (.ref f) = true ∧ mg x = some (.ref f) ∧ Binds K fd ps []
theorem DefT.of {K : PySem.W.Frag} {h : Heap} {mg : Str → Option Value} (X : K.In h) (G : h.Ns mainGlobals mg) {x : Str} {st : Stmt} {ps : List Str} {f c : Addr} {oc : Value} {od an : Option Addr} {osl : Array (Option Value)} {kV doc pm ct : Value}
    (a : PySem.W.nsIn K mainGlobals x = some (some (.ref f))) (l : K.lookup f = some ⟨oc, od, .func (PySem.W.fnOf x x (defArgs st) (defBody st) (defScope st) .none kV doc pm an (.ref c) ct), osl⟩) (cc : PySem.W.codeIn K (.ref c) x = true) (k : PySem.W.keepIn K (.ref f) = true)
    (b : ∀ (kV doc pm : Value) (an : Option Addr) (cdv ct : Value) (us : List Value), us.length = ps.length → bindArgs (PySem.W.fnOf x x (defArgs st) (defBody st) (defScope st) .none kV doc pm an cdv ct) ⟨us, []⟩ = pure (ps.zip us)) : DefT K mg x st ps c :=
  ⟨⟨f, _, oc, od, kV, doc, pm, an, ct, osl, rfl, l, cc, k, PySem.W.mg_of X G a, (fun_mk (st := st) l cc k).binds b⟩⟩
theorem DefT.ok {P : Program} {w : World} {K : PySem.W.Frag} {mg : Str → Option Value} {base : Heap} {x : Str} {st : Stmt} {N ps : List Str} {c : Addr} {k : Nat} {sp : Sp} (D : DefT K mg x st ps c) (S : FnScope N ps (defScope st)) (len : ∀ vs H Q E, sp vs H Q E → vs.length = ps.length)
    (body : ∀ (f : Addr) (A : Around) (outer : List Env) (s : Shared) (H : Hp) (vs : List V) (Q : VK) (E : XK), Room k (A.deeper (envOfC x (defScope st) s.heap.objs.size f (.ref c))) → sp vs H Q E →
      ∃ t, PSs (cxOf CX0 P w K mg base N x (defScope st) f (.ref c) A outer s H E).nox (defBody st) t ∧ t { nx := fun _ H' => Q .non H', rt := Q } (start N vs) H) : Cal P w K mg base (k + 1) x ps sp := by
  obtain ⟨f, fd, oc, od, kV, doc, pm, an, ct, osl, rfl, lk, hcd, kp, m, b⟩ := D.ex
  exact ⟨f, _, fn_of lk hcd S len fun A outer s H vs Q E hr hsp => by
    obtain ⟨t, h, q⟩ := body f A outer s H vs Q E hr hsp
    exact ⟨t, h.nox, q⟩, m, kp, b⟩
theorem gen_by {env : Env} {scope : Scope} {x : Str} (h : ((scope.kind == .function) && !scope.isCoroutine && scope.names.all (fun y => y.2 != .cell && y.2 != .free) && (scope.names.lookup (".0" : Str) == some NameKind.local) && (scope.names.lookup x == some NameKind.local)) = true) : GxR.GenS env scope x := by
  simp only [Bool.and_eq_true, List.all_eq_true, bne_iff_ne, beq_iff_eq, Bool.not_eq_true'] at h
  obtain ⟨⟨⟨⟨h1, h2⟩, h3⟩, h4⟩, h5⟩ := h
  exact ⟨h1, h2, fun y m => (h3 y m).1, h4, h5, fun y m e => absurd e (h3 y m).2⟩
end Sc
namespace Sc
open PySem PySem.Spec PyProof.Rows L2
/-! ### what is drawn is well-formed, in plain signs -/
theorem gd_of {ls : List Str} (hl : ∀ l ∈ ls, Lett l) : ∀ (n d : Nat), d ≤ n → ∀ c : Ch, okC ls d c → gd n c := by
  intro n
  induction n with
  | zero =>
    intro d hd c h
    obtain rfl : d = 0 := by omega
    cases c with
    | num => exact trivial
    | txt => exact trivial
    | row _ => exact absurd h.1 (Nat.lt_irrefl _)
    | book _ => exact absurd h.1 (Nat.lt_irrefl _)
    | shape _ => exact absurd h.1 (Nat.lt_irrefl _)
    | letter l => have h' : l ∈ ls := by unfold okC at h; exact h
                  exact hl l h'
    | cut _ _ => unfold okC at h; exact h.elim
    | any _ => unfold okC at h; exact h.elim
    | wth _ => unfold okC at h; exact h.elim
  | succ n ih =>
    intro d hd c h
    cases c with
    | num => exact trivial
    | txt => exact trivial
    | row k =>
      have h' : 0 < d ∧ k ≠ [] ∧ k.length ≤ 3 ∧ okL ls (d - 1) k := by unfold okC at h; exact h
      exact ⟨h'.2.1, fun c hc => ih (d - 1) (by omega) c (okL_mem' h'.2.2.2 hc)⟩
    | book k =>
      have h' : 0 < d ∧ k ≠ [] ∧ k.length ≤ 3 ∧ okL ls (d - 1) k := by unfold okC at h; exact h
      exact ⟨h'.2.1, fun c hc => ih (d - 1) (by omega) c (okL_mem' h'.2.2.2 hc)⟩
    | shape fs =>
      have h' : 0 < d ∧ fs.length ≤ 2 ∧ Fld (fs.map (·.1)) ∧ okF ls (d - 1) fs := by unfold okC at h; exact h
      refine ⟨fun z => h'.2.2.1.1 (by rw [z]; rfl), fun p hp => ?_⟩
      obtain ⟨w1, k1, _, o1⟩ := okF_mem' h'.2.2.2 hp
      exact ⟨w1, k1, fun c hc => ih (d - 1) (by omega) c (okL_mem' o1 hc)⟩
    | letter l => have h' : l ∈ ls := by unfold okC at h; exact h
                  exact hl l h'
    | cut _ _ => unfold okC at h; exact h.elim
    | any _ => unfold okC at h; exact h.elim
    | wth _ => unfold okC at h; exact h.elim
theorem mem_joinL {S : List Nat} {a : Nat} : ∀ {ps : List (List Nat)}, a ∈ TL.joinL S ps → a ∈ S ∨ ∃ p ∈ ps, a ∈ p
  | [], h => by simp [TL.joinL] at h
  | [p], h => by
    rw [joinL_one] at h
    exact .inr ⟨p, List.mem_cons_self, h⟩
  | p :: q :: r, h => by
    rw [joinL_two] at h
    rcases List.mem_append.mp h with z | z
    · exact .inr ⟨p, List.mem_cons_self, z⟩
    · rcases List.mem_append.mp z with z | z
      · exact .inl z
      · rcases mem_joinL z with w | ⟨x, m, w⟩
        · exact .inl w
        · exact .inr ⟨x, List.mem_cons_of_mem _ m, w⟩
/-- the signs of a head -/
theorem hd_signs {n : Nat} {c : Ch} (h : okC [] n c) : ∀ a ∈ TL.tl (hdC c), a ≠ 44 ∧ a ≠ 41 ∧ a < 128 := by
  cases c with
  | num => exact (by decide : ∀ a ∈ TL.tl "number", a ≠ 44 ∧ a ≠ 41 ∧ a < 128)
  | txt => exact (by decide : ∀ a ∈ TL.tl "text", a ≠ 44 ∧ a ≠ 41 ∧ a < 128)
  | row _ => exact (by decide : ∀ a ∈ TL.tl "row", a ≠ 44 ∧ a ≠ 41 ∧ a < 128)
  | book _ => exact (by decide : ∀ a ∈ TL.tl "book", a ≠ 44 ∧ a ≠ 41 ∧ a < 128)
  | shape fs =>
    have h' : 0 < n ∧ fs.length ≤ 2 ∧ Fld (fs.map (·.1)) ∧ okF [] (n - 1) fs := by unfold okC at h; exact h
    intro a m
    have e : TL.tl (hdC (.shape fs)) = TL.joinL (TL.tl " ") ((("shape" : Str) :: fs.map (·.1)).map TL.tl) := by
      show TL.tl (Txt.join " " ("shape" :: fs.map (·.1))) = _
      rw [TL.join_eq, TL.tl_join]
    rw [e] at m
    rcases mem_joinL m with z | ⟨p, hp, z⟩
    · exact (by decide : ∀ a ∈ TL.tl " ", a ≠ 44 ∧ a ≠ 41 ∧ a < 128) a z
    · obtain ⟨y, hy, rfl⟩ := List.mem_map.mp hp
      rcases List.mem_cons.mp hy with w | w
      · rw [w] at z
        exact (by decide : ∀ a ∈ TL.tl "shape", a ≠ 44 ∧ a ≠ 41 ∧ a < 128) a z
      · have := (h'.2.2.1.2.2.2.2 y w).2.2 a z
        omega
  | letter l => exact absurd (show l ∈ [] by unfold okC at h; exact h) (by simp)
  | cut _ _ => unfold okC at h; exact h.elim
  | any _ => unfold okC at h; exact h.elim
  | wth _ => unfold okC at h; exact h.elim
theorem okN_plain {z : Str} {n : Nat} (l : (TL.tl z).length ≤ 1000) (h : ∀ a ∈ TL.tl z, a < 128) : OkN n (.str z) := by
  refine ⟨?_, ?_, by simp [PyData.depth]⟩
  · show z.cps.all (· < 0x110000) = true
    rw [← Array.all_toList, List.all_eq_true]
    intro c hc
    have := h c hc
    exact decide_eq_true (by omega)
  · show decide (z.length ≤ 1000) = true
    rw [len_list]
    exact decide_eq_true l
theorem cut_well {bs : List (Str × List Ch)} (ok : okB bs) {c : Ch} (h : okCut bs c) : gd 9 c ∧ OkN 30 (pyC c) ∧ ∀ a ∈ cC c, a < 128 := by
  obtain ⟨l, k, hm, hc⟩ := h
  obtain ⟨lt, k0, k3, okk⟩ := ok _ hm
  have ls : ∀ a ∈ TL.tl l, a < 128 := fun a m => by have := lt.2.2 a m; omega
  rcases hc with rfl | ⟨ys, a, m, rfl, hs, m0, am, my⟩
  · exact ⟨lt, by rw [pyC]; exact okN_two (n := 29) (okN_w (by decide +kernel)) ((okN_lett lt).mono (by omega)), ls⟩
  · have hd : ∀ y ∈ (ys.drop a).take m, (∀ b ∈ TL.tl y, b ≠ 44 ∧ b ≠ 41 ∧ b < 128) ∧ (TL.tl y).length ≤ 300 := fun y hy => by
      have hy2 := (hs.2.2.2 y).mp (List.mem_of_mem_drop (List.mem_of_mem_take hy))
      obtain ⟨c, hc, rfl⟩ := List.mem_map.mp hy2
      have := hd_len (okL_mem okk hc)
      rw [len_list] at this
      exact ⟨hd_signs (okL_mem okk hc), this⟩
    have tk : ((ys.drop a).take m).length ≤ 3 := by
      have := List.length_take_le' m (ys.drop a)
      rw [List.length_drop] at this
      have few := hs.2.2.1
      have k3' : k.length ≤ 3 := k3
      omega
    refine ⟨⟨lt, fun z => ?_, fun y hy b hb => ⟨((hd y hy).1 b hb).1, ((hd y hy).1 b hb).2.1⟩⟩, ?_, fun b hb => ?_⟩
    · have := congrArg List.length z
      rw [List.length_take, List.length_drop] at this
      have h0 : ([] : List Str).length = 0 := rfl
      omega
    · rw [pyC]
      refine okN_tup (n := 29) (by show 3 ≤ 60; decide) fun x hx => ?_
      rcases List.mem_cons.mp hx with e | hx
      · rw [e]; exact okN_w (by decide +kernel)
      rcases List.mem_cons.mp hx with e | hx
      · rw [e]; exact (okN_lett lt).mono (by omega)
      rw [List.mem_singleton.mp hx]
      refine okN_tup (n := 28) (by rw [List.length_map]; omega) fun x hx => ?_
      obtain ⟨y, hy, rfl⟩ := List.mem_map.mp hx
      exact okN_plain (Nat.le_trans (hd y hy).2 (by decide)) fun b hb => ((hd y hy).1 b hb).2.2
    · have hb' : b ∈ TL.tl l ++ 40 :: (TL.joinL com (((ys.drop a).take m).map TL.tl) ++ [41]) := hb
      rcases List.mem_append.mp hb' with z | z
      · exact ls b z
      rcases List.mem_cons.mp z with z | z
      · omega
      rcases List.mem_append.mp z with z | z
      · rcases mem_joinL z with w | ⟨p, hp, w⟩
        · exact (by decide : ∀ b ∈ com, b < 128) b w
        · obtain ⟨y, hy, rfl⟩ := List.mem_map.mp hp
          exact ((hd y hy).1 b w).2.2
      · rw [List.mem_singleton.mp z]; decide
theorem signs_kind {k : List Ch} (h : ∀ c ∈ k, ∀ a ∈ cC c, a < 128) : ∀ a ∈ TL.joinL bar (cL k), a < 128 := fun a m => by
  rcases mem_joinL m with z | ⟨p, hp, z⟩
  · exact (by decide : ∀ a ∈ bar, a < 128) a z
  · rw [cL_map] at hp
    obtain ⟨c, hc, rfl⟩ := List.mem_map.mp hp
    exact h c hc a z
theorem signs_of {ls : List Str} (hl : ∀ l ∈ ls, Lett l) : ∀ (n d : Nat), d ≤ n → ∀ c : Ch, okC ls d c → ∀ a ∈ cC c, a < 128 := by
  have lt : ∀ l ∈ ls, ∀ a ∈ TL.tl l, a < 128 := fun l m a ha => by have := (hl l m).2.2 a ha; omega
  have brk : ∀ (w x : List Nat), (∀ a ∈ w, a < 128) → (∀ a ∈ x, a < 128) → ∀ a ∈ w ++ 40 :: (x ++ [41]), a < 128 := fun w x hw hx a m => by
    rcases List.mem_append.mp m with z | z
    · exact hw a z
    rcases List.mem_cons.mp z with z | z
    · omega
    rcases List.mem_append.mp z with z | z
    · exact hx a z
    · rw [List.mem_singleton.mp z]; decide
  intro n
  induction n with
  | zero =>
    intro d hd c h
    obtain rfl : d = 0 := by omega
    cases c with
    | num => exact (by decide : ∀ a ∈ TL.tl "number", a < 128)
    | txt => exact (by decide : ∀ a ∈ TL.tl "text", a < 128)
    | row _ => exact absurd h.1 (Nat.lt_irrefl _)
    | book _ => exact absurd h.1 (Nat.lt_irrefl _)
    | shape _ => exact absurd h.1 (Nat.lt_irrefl _)
    | letter l => exact lt l (by unfold okC at h; exact h)
    | cut _ _ => unfold okC at h; exact h.elim
    | any _ => unfold okC at h; exact h.elim
    | wth _ => unfold okC at h; exact h.elim
  | succ n ih =>
    intro d hd c h
    cases c with
    | num => exact (by decide : ∀ a ∈ TL.tl "number", a < 128)
    | txt => exact (by decide : ∀ a ∈ TL.tl "text", a < 128)
    | row k =>
      have h' : 0 < d ∧ k ≠ [] ∧ k.length ≤ 3 ∧ okL ls (d - 1) k := by unfold okC at h; exact h
      exact brk (TL.tl "row") _ (by decide) (signs_kind fun c hc => ih (d - 1) (by omega) c (okL_mem' h'.2.2.2 hc))
    | book k =>
      have h' : 0 < d ∧ k ≠ [] ∧ k.length ≤ 3 ∧ okL ls (d - 1) k := by unfold okC at h; exact h
      exact brk (TL.tl "book") _ (by decide) (signs_kind fun c hc => ih (d - 1) (by omega) c (okL_mem' h'.2.2.2 hc))
    | shape fs =>
      have h' : 0 < d ∧ fs.length ≤ 2 ∧ Fld (fs.map (·.1)) ∧ okF ls (d - 1) fs := by unfold okC at h; exact h
      intro a m
      have m' : a ∈ 123 :: (TL.joinL com (cF fs) ++ [125]) := m
      rcases List.mem_cons.mp m' with z | z
      · omega
      rcases List.mem_append.mp z with z | z
      · rcases mem_joinL z with w | ⟨p, hp, w⟩
        · exact (by decide : ∀ b ∈ com, b < 128) a w
        · rw [cF_map] at hp
          obtain ⟨p2, hp2, rfl⟩ := List.mem_map.mp hp
          obtain ⟨w1, _, _, o1⟩ := okF_mem' h'.2.2.2 hp2
          rcases List.mem_append.mp w with w | w
          · have := w1.2.2 a w
            omega
          rcases List.mem_cons.mp w with w | w
          · omega
          rcases List.mem_cons.mp w with w | w
          · omega
          exact signs_kind (fun c hc => ih (d - 1) (by omega) c (okL_mem' o1 hc)) a w
      · rw [List.mem_singleton.mp z]; decide
    | letter l => exact lt l (by unfold okC at h; exact h)
    | cut _ _ => unfold okC at h; exact h.elim
    | any _ => unfold okC at h; exact h.elim
    | wth _ => unfold okC at h; exact h.elim
theorem lay_of {c : Ch} (h : ∀ a ∈ cC c, a < 128) : PyData.canLay0 (.str (txC c)) = true := by
  show (txC c).cps.all (· < 0x110000) = true
  rw [← Array.all_toList, List.all_eq_true]
  intro a ha
  have := h a ha
  exact decide_eq_true (by omega)
theorem any_well {bs : List (Str × List Ch)} (ok : okB bs) {k : List Ch} (h : okA bs 2 k) : ∀ c ∈ k, gd 9 c ∧ dC c < 3 ∧ (cC c).length ≤ 100000 ∧ OkN 30 (pyC c) ∧ PyData.canLay0 (.str (txC c)) = true := fun c hc => by
  obtain ⟨g1, _, g3, _⟩ := any_len ok h
  have hl : ∀ l ∈ bs.map (·.1), Lett l := fun l m => by
    obtain ⟨q, hq, rfl⟩ := List.mem_map.mp m
    exact (ok q hq).1
  have dl : dC c < 3 := Nat.lt_of_le_of_lt (Nat.le_trans (dL_mem hc) g3) (by decide)
  have ll : (cC c).length ≤ 100000 := Nat.le_trans (g1 _ (by rw [cL_map]; exact List.mem_map_of_mem hc)) (by decide)
  obtain ⟨k0, cs, rfl, okk, n0, n3, hcs⟩ := h
  rcases List.mem_append.mp hc with m | m
  · have o := okL_mem' okk m
    refine ⟨gd_of hl 9 2 (by decide) c o, dl, ll, ?_, lay_of (signs_of hl 2 2 (Nat.le_refl _) c o)⟩
    have a := okN_kind hl 2 [c] (by show 1 ≤ 60; decide) ⟨o, trivial⟩
    obtain ⟨h1, h2, h3⟩ := a
    have e0 : (PyData.tuple (pyL [c])).depth = (pyC c).depth + 1 := by simp [PyData.depth, PyData.depthAll, pyL]
    rw [pyL_map] at h1 h2
    have h2' : (decide (1 ≤ 60) && smAll [pyC c]) = true := h2
    rw [Bool.and_eq_true] at h2'
    exact ⟨layAll_mem h1 List.mem_cons_self, smAll_mem h2'.2 List.mem_cons_self, by omega⟩
  · rcases hcs with rfl | ⟨c', rfl, hc'⟩
    · cases m
    · rw [List.mem_singleton.mp m] at dl ll ⊢
      obtain ⟨w1, w2, w3⟩ := cut_well ok hc'
      exact ⟨w1, dl, ll, w2, lay_of w3⟩
end Sc
namespace Sc
open PySem PySem.Spec PyProof.Rows L2
/-! ### kinds joined: what joined and the law's own joining are held against -/
/-- the choices joined: by their texts, each once -/
def J (all cs : List Ch) : Prop := (cs.map txC).Pairwise ltT ∧ (∀ c ∈ cs, c ∈ all) ∧ ∀ c ∈ all, txC c ∈ cs.map txC
theorem J_uniq {n : Nat} {all cs cs' : List Ch} (g : ∀ c ∈ all, gd n c) (h : J all cs) (h' : J all cs') : cs = cs' := by
  have e : cs.map txC = cs'.map txC := asc_uniq _ _ h.1 h'.1 fun z => ⟨fun m => by
    obtain ⟨c, hc, rfl⟩ := List.mem_map.mp m
    exact h'.2.2 c (h.2.1 c hc), fun m => by
    obtain ⟨c, hc, rfl⟩ := List.mem_map.mp m
    exact h.2.2 c (h'.2.1 c hc)⟩
  have inj : ∀ (as bs : List Ch), (∀ c ∈ as, gd n c) → (∀ c ∈ bs, gd n c) → as.map txC = bs.map txC → as = bs := fun as => by
    induction as with
    | nil => intro bs _ _ e; cases bs with
      | nil => rfl
      | cons _ _ => cases e
    | cons a as ih => intro bs ha hb e; cases bs with
      | nil => cases e
      | cons b bs =>
        injection e with e1 e2
        rw [txC_inj (ha a List.mem_cons_self) (hb b List.mem_cons_self) e1, ih bs (fun c m => ha c (List.mem_cons_of_mem _ m)) (fun c m => hb c (List.mem_cons_of_mem _ m)) e2]
  exact inj cs cs' (fun c m => g c (h.2.1 c m)) (fun c m => g c (h'.2.1 c m)) e
/-- kinds of a list -/
def IsKs (K : PySem.W.Frag) (H : Hp) (vs : List V) (ks : List (List Ch)) : Prop := vs.length = ks.length ∧ ∀ (j : Nat) (v : V) (k : List Ch), vs[j]? = some v → ks[j]? = some k → IsK K H v k
def spJoin (K : PySem.W.Frag) (n : Nat) (T : Hp → Prop) (R : Hp → Hp → Prop) : Sp := fun vs H Q _ => ∃ (l : Addr) (us : List V) (ks : List (List Ch)), vs = [.ref l] ∧ SqL K H l us ∧ IsKs K H us ks ∧ T H ∧ (∀ c ∈ ks.flatten, gd 9 c ∧ dC c < n ∧ (cC c).length ≤ 100000 ∧ OkN 30 (pyC c) ∧ PyData.canLay0 (.str (txC c)) = true) ∧ ks.flatten.length ≤ 60 ∧
  ∀ (v : V) (H' : Hp) (cs : List Ch), R H H' → Dt K H' v (.tuple (cs.map pyC)) → J ks.flatten cs → Q v H'
/-- a dict of texts to choices -/
structure DI (K : PySem.W.Frag) (H : Hp) (kvs : List (Key × V)) (seen : List Ch) : Prop where
  nd : (kvs.map (·.1)).Nodup
  ks : ∀ p ∈ kvs, ∃ c ∈ seen, p.1 = Sum.inr (txC c)
  vs : ∀ c ∈ seen, ∃ v, valV kvs (Sum.inr (txC c)) = some v ∧ IsC K H v c
  few : kvs.length ≤ seen.length
theorem DI.put {K : PySem.W.Frag} {H H' : Hp} {kvs : List (Key × V)} {seen : List Ch} {v : V} {c : Ch} {n : Nat} (d : DI K H kvs seen) (k : Keep K H H') (hv : IsC K H' v c) (g : gd n c) (gs : ∀ c ∈ seen, gd n c) : DI K H' (putK kvs (Sum.inr (txC c)) v) (seen ++ [c]) := by
  refine ⟨nd_put _ v d.nd, fun p hp => ?_, fun c' hc' => ?_, ?_⟩
  · rcases mem_put hp with e | e
    · exact ⟨c, List.mem_append.mpr (.inr List.mem_cons_self), by rw [e]⟩
    · obtain ⟨c', m, e'⟩ := d.ks p e
      exact ⟨c', List.mem_append.mpr (.inl m), e'⟩
  · by_cases e : txC c' = txC c
    · have g' : gd n c' := by
        rcases List.mem_append.mp hc' with m | m
        · exact gs c' m
        · rw [List.mem_singleton.mp m]; exact g
      have ec := txC_inj g' g e
      rw [ec]
      exact ⟨v, by rw [valV_put, if_pos rfl], hv⟩
    · rcases List.mem_append.mp hc' with m | m
      · obtain ⟨v', h1, h2⟩ := d.vs c' m
        exact ⟨v', by rw [valV_put, if_neg fun z => e (Sum.inr.inj z)]; exact h1, k.dt h2⟩
      · exact absurd (by rw [List.mem_singleton.mp m]) e
  · have := put_len kvs (Sum.inr (txC c)) v
    have := d.few
    rw [List.length_append]
    show _ ≤ _ + 1
    omega
theorem DI.keep {K : PySem.W.Frag} {H H' : Hp} {kvs : List (Key × V)} {seen : List Ch} (d : DI K H kvs seen) (k : Keep K H H') : DI K H' kvs seen := ⟨d.nd, d.ks, fun c m => let ⟨v, a, b⟩ := d.vs c m; ⟨v, a, k.dt b⟩, d.few⟩
/-- its keys -/
theorem DI.keys {K : PySem.W.Frag} {H : Hp} {kvs : List (Key × V)} {seen : List Ch} (d : DI K H kvs seen) : ∃ ts : List Str, kvs.map (·.1) = ts.map Sum.inr ∧ ts.Nodup ∧ ∀ t, t ∈ ts ↔ ∃ c ∈ seen, txC c = t := by
  have a : ∀ l : List (Key × V), (∀ p ∈ l, ∃ c ∈ seen, p.1 = Sum.inr (txC c)) → ∃ ts : List Str, l.map (·.1) = ts.map Sum.inr ∧ ∀ t ∈ ts, ∃ c ∈ seen, txC c = t := fun l => by
    induction l with
    | nil => exact fun _ => ⟨[], rfl, fun t m => by cases m⟩
    | cons p l ih =>
      intro h
      obtain ⟨ts, e, m⟩ := ih fun q hq => h q (List.mem_cons_of_mem _ hq)
      obtain ⟨c, hc, e1⟩ := h p List.mem_cons_self
      refine ⟨txC c :: ts, by rw [List.map_cons, List.map_cons, e, e1], fun t ht => ?_⟩
      rcases List.mem_cons.mp ht with z | z
      · exact ⟨c, hc, z.symm⟩
      · exact m t z
  obtain ⟨ts, e, m⟩ := a kvs d.ks
  refine ⟨ts, e, ?_, fun t => ⟨m t, fun ⟨c, hc, et⟩ => ?_⟩⟩
  · have h := d.nd
    rw [e] at h
    exact (List.pairwise_map.mp h).imp fun n z => n (by rw [z])
  · obtain ⟨v, h1, _⟩ := d.vs c hc
    have h2 := valV_in h1
    rw [e] at h2
    obtain ⟨t', m', e'⟩ := List.mem_map.mp h2
    rw [← et, ← Sum.inr.inj e']
    exact m'
theorem choose_cs {all : List Ch} : ∀ {ys : List Str}, (∀ y ∈ ys, ∃ c ∈ all, txC c = y) → ∃ cs : List Ch, cs.map txC = ys ∧ ∀ c ∈ cs, c ∈ all
  | [], _ => ⟨[], rfl, fun c m => by cases m⟩
  | y :: ys, h => by
    obtain ⟨cs, e, m⟩ := choose_cs (ys := ys) fun z hz => h z (List.mem_cons_of_mem _ hz)
    obtain ⟨c, hc, ec⟩ := h y List.mem_cons_self
    refine ⟨c :: cs, by rw [List.map_cons, e, ec], fun x hx => ?_⟩
    rcases List.mem_cons.mp hx with z | z
    · rw [z]; exact hc
    · exact m x z
def rowD (c : Ch) : PyData := .tuple [.str (txC c), pyC c]
structure RI (K : PySem.W.Frag) (H : Hp) (rr : List (Addr × Ch)) (seen : List Ch) : Prop where
  rows : ∀ r ∈ rr, r.2 ∈ seen ∧ ∃ u, SqT K H r.1 [.str (txC r.2), u] ∧ IsC K H u r.2
  cov : ∀ c ∈ seen, txC c ∈ rr.map fun r => txC r.2
  nd : (rr.map fun r => txC r.2).Nodup
  few : rr.length ≤ seen.length
theorem RI.keep {K : PySem.W.Frag} {H H' : Hp} {rr : List (Addr × Ch)} {seen : List Ch} (d : RI K H rr seen) (k : Keep K H H') : RI K H' rr seen :=
  ⟨fun r m => let ⟨a, u, b, c⟩ := d.rows r m; ⟨a, u, k _ _ b, k.dt c⟩, d.cov, d.nd, d.few⟩
theorem row_dp {K : PySem.W.Frag} {H : Hp} {t : Addr} {u : V} {c : Ch} (h : SqT K H t [.str (txC c), u]) (hc : IsC K H u c) : Dp K H (.ref t) (rowD c) := .tup h (.cons (.str _) (.cons (Dt.dp hc) .nil))
theorem RI.dp {K : PySem.W.Frag} {H : Hp} : ∀ {rr : List (Addr × Ch)}, (∀ r ∈ rr, ∃ u, SqT K H r.1 [.str (txC r.2), u] ∧ IsC K H u r.2) → DpAll K H (rr.map fun r => V.ref r.1) (rr.map fun r => rowD r.2)
  | [], _ => .nil
  | r :: rr, h => by
    obtain ⟨u, a, b⟩ := h r List.mem_cons_self
    exact .cons (row_dp a b) (RI.dp fun x m => h x (List.mem_cons_of_mem _ m))
theorem row_shaped {c : Ch} (h : OkN 30 (pyC c)) (t : PyData.canLay0 (.str (txC c)) = true) : SeqAt.shaped (rowD c) = true ∧ (rowD c).depth ≤ 31 := by
  have e0 : (rowD c).depth = max 0 (max (pyC c).depth 0) + 1 := by simp [rowD, PyData.depth, PyData.depthAll]
  have := h.2.2
  have d : (rowD c).depth ≤ 31 := by omega
  refine ⟨Bool.and_eq_true_iff.mpr ⟨?_, decide_eq_true (by omega)⟩, d⟩
  show (PyData.canLay0 (.str (txC c)) && (PyData.canLay0 (pyC c) && true)) = true
  rw [t, h.1]; rfl
theorem rows_shaped {cs : List Ch} (h : ∀ c ∈ cs, OkN 30 (pyC c) ∧ PyData.canLay0 (.str (txC c)) = true) : SeqAt.shaped (.list (cs.map rowD)) = true := by
  have a : PyData.canLayAll0 (cs.map rowD) = true ∧ PyData.depthAll (cs.map rowD) ≤ 31 := by
    induction cs with
    | nil => exact ⟨rfl, by simp [PyData.depthAll]⟩
    | cons c cs ih =>
      obtain ⟨h1, h2⟩ := ih fun x m => h x (List.mem_cons_of_mem _ m)
      obtain ⟨g1, g2⟩ := row_shaped (h c List.mem_cons_self).1 (h c List.mem_cons_self).2
      refine ⟨?_, ?_⟩
      · show ((rowD c).canLay0 && PyData.canLayAll0 (cs.map rowD)) = true
        rw [SeqAt.canLay_of_shaped g1, h1]; rfl
      · have e0 : PyData.depthAll (rowD c :: cs.map rowD) = max (rowD c).depth (PyData.depthAll (cs.map rowD)) := by simp [PyData.depthAll]
        rw [List.map_cons, e0]
        omega
  have e0 : (PyData.list (cs.map rowD)).depth = PyData.depthAll (cs.map rowD) + 1 := by simp [PyData.depth]
  exact Bool.and_eq_true_iff.mpr ⟨a.1, decide_eq_true (by omega)⟩
theorem row_eqv {n : Nat} {c c' : Ch} (g : gd n c) (g' : gd n c') (h : OkN 30 (pyC c)) (t : PyData.canLay0 (.str (txC c)) = true) : PyData.eqv (rowD c') (rowD c) = true ↔ txC c' = txC c := by
  constructor
  · intro e
    have e' : ((txC c' == txC c) && (PyData.eqv (pyC c') (pyC c) && true)) = true := by simpa [rowD, PyData.eqv, PyData.eqvAll] using e
    rw [Bool.and_eq_true, beq_iff_eq] at e'
    exact e'.1
  · intro e
    rw [txC_inj g' g e]
    exact SeqAt.eqv_refl _ (SeqAt.canLay_of_shaped (row_shaped h t).1)
/-- kinds of a list, further -/
theorem IsKs.nil {K : PySem.W.Frag} {H : Hp} : IsKs K H [] [] := ⟨rfl, fun j v k h => by simp at h⟩
theorem IsKs.keep {K : PySem.W.Frag} {H H' : Hp} {vs : List V} {ks : List (List Ch)} (h : IsKs K H vs ks) (e : Keep K H H') : IsKs K H' vs ks := ⟨h.1, fun j v k a b => e.dt (h.2 j v k a b)⟩
theorem IsKs.snoc {K : PySem.W.Frag} {H : Hp} {v : V} {k : List Ch} {vs : List V} {ks : List (List Ch)} (t : IsKs K H vs ks) (h : IsK K H v k) : IsKs K H (vs ++ [v]) (ks ++ [k]) := by
  refine ⟨by rw [List.length_append, List.length_append, t.1]; rfl, fun j u e h1 h2 => ?_⟩
  by_cases lt : j < vs.length
  · rw [List.getElem?_append_left lt] at h1
    rw [List.getElem?_append_left (t.1 ▸ lt)] at h2
    exact t.2 j u e h1 h2
  · rw [List.getElem?_append_right (by omega)] at h1
    rw [List.getElem?_append_right (by have := t.1; omega)] at h2
    have z : j - vs.length = 0 := by
      have := (List.getElem?_eq_some_iff.mp h1).1
      simp at this
      omega
    rw [z] at h1
    rw [← t.1, z] at h2
    cases h1; cases h2; exact h
theorem IsKs.dp {K : PySem.W.Frag} {H : Hp} {vs : List V} {ks : List (List Ch)} (h : IsKs K H vs ks) : DpAll K H vs (ks.map fun k => .tuple (pyL k)) := by
  refine dpAll_of (by rw [List.length_map, h.1]) fun j v d a b => ?_
  rw [List.getElem?_map] at b
  obtain ⟨k, hk, rfl⟩ := Option.map_eq_some_iff.mp b
  exact Dt.dp (h.2 j v k a hk)
theorem flat_len {m : Nat} : ∀ {ks : List (List Ch)}, (∀ k ∈ ks, k.length ≤ m) → ks.flatten.length ≤ m * ks.length
  | [], _ => by simp
  | k :: ks, h => by
    have a := flat_len (ks := ks) fun x hx => h x (List.mem_cons_of_mem _ hx)
    have b := h k List.mem_cons_self
    rw [List.flatten_cons, List.length_append, List.length_cons, Nat.mul_succ]
    omega
/-- a kind of good choices, some such kinds, can be compared -/
theorem okN_of_cs {cs : List Ch} (hl : cs.length ≤ 60) (h : ∀ c ∈ cs, OkN 30 (pyC c)) : OkN 31 (.tuple (cs.map pyC)) := okN_tup (by rw [List.length_map]; exact hl) fun d m => by
  obtain ⟨c, hc, rfl⟩ := List.mem_map.mp m
  exact h c hc
theorem shaped_lst {n : Nat} {ds : List PyData} (h : ∀ d ∈ ds, OkN n d) (hn : n < 60) : SeqAt.shaped (.list ds) = true := by
  have a : PyData.canLayAll0 ds = true ∧ PyData.depthAll ds ≤ n := by
    induction ds with
    | nil => exact ⟨rfl, by simp [PyData.depthAll]⟩
    | cons c cs ih =>
      obtain ⟨h1, h2⟩ := ih fun x m => h x (List.mem_cons_of_mem _ m)
      obtain ⟨g1, _, g3⟩ := h c List.mem_cons_self
      refine ⟨?_, ?_⟩
      · show (c.canLay0 && PyData.canLayAll0 cs) = true
        rw [g1, h1]; rfl
      · have e0 : PyData.depthAll (c :: cs) = max c.depth (PyData.depthAll cs) := by simp [PyData.depthAll]
        rw [e0]
        omega
  have e0 : (PyData.list ds).depth = PyData.depthAll ds + 1 := by simp [PyData.depth]
  exact Bool.and_eq_true_iff.mpr ⟨a.1, decide_eq_true (by omega)⟩
/-- the table of the lambda that _law_join makes -/
def TbJ (P1 : Addr) (H : Hp) : Prop := LamX.Tabs [(P1, ("_law_join.<locals>.<lambda>" : Str))] H
def RJ (P1 : Addr) (H H' : Hp) : Prop := LamX.ExtN H H' ∧ TbJ P1 H'
theorem TbJ.nil {P1 : Addr} {H : Hp} (h : H P1 = some (.tbl #[])) : TbJ P1 H := fun t ht => by
  rw [List.mem_singleton.mp ht]
  exact LamX.TabS.nil h
/-- tables and code objects stay -/
def KeepT (H H' : Hp) : Prop := ∀ a o, H a = some o → ¬ Soft o → (∀ xs, o ≠ .tup xs) → H' a = some o
theorem TbJ.keep {P1 : Addr} {H H' : Hp} (t : TbJ P1 H) (e : KeepT H H') : TbJ P1 H' := fun p hp => by
  obtain ⟨ps, h1, h2, h3⟩ := t p hp
  refine ⟨ps, e _ _ h1 (fun z => z) (fun xs z => by cases z), h2, fun pos cv hc => ?_⟩
  obtain ⟨c, e1, e2⟩ := h3 pos cv hc
  exact ⟨c, e1, e _ _ e2 (fun z => by unfold LamX.CodeO at z; exact z) (fun xs z => by unfold LamX.CodeO at z; cases z)⟩
theorem TbJ.same {P1 : Addr} {H H' : Hp} (t : TbJ P1 H) (e : Same H H') : TbJ P1 H' := LamX.Tabs.ext t e
theorem TbJ.upd {P1 D : Addr} {H : Hp} {o0 : HO} (t : TbJ P1 H) (h : H D = some o0) (s : Soft o0) (o : HO) : TbJ P1 (L2.upd H D o) := t.keep fun a u q n _ => by
  rw [upd_ne (fun z => by rw [z, h] at q; cases q; exact n s)]
  exact q
theorem TbJ.ext {K : PySem.W.Frag} {P1 s : Addr} {i : Inf} {H H' : Hp} (t : TbJ P1 H) (S : IsS K H s i) (e : Ext s H H') : TbJ P1 H' := t.keep fun a u q n _ => by
  obtain ⟨kvs, hk⟩ := S.dk
  exact e _ _ (fun z => by rw [z, hk] at q; cases q; exact n trivial) q
theorem RJ.trans {P1 : Addr} {H H1 H2 : Hp} (a : RJ P1 H H1) (b : RJ P1 H1 H2) : RJ P1 H H2 := ⟨a.1.trans b.1, b.2⟩
theorem RJ.keep {K : PySem.W.Frag} {P1 : Addr} {H H' : Hp} (a : RJ P1 H H') : Keep K H H' := (extN_keep a.1).2
theorem RJ.obj {P1 : Addr} {H H' : Hp} (a : RJ P1 H H') {b : Addr} {o : HO} (h : H b = some o) (n : ∀ ps, o ≠ .tbl ps) : H' b = some o := a.1 b o h n
end Sc
namespace Sc
open PySem PySem.Spec PyProof.Rows L2
/-! ### the choices joined, purely -/
theorem ltT_total {a b : Str} (h : a ≠ b) (n : ¬ ltT a b) : ltT b a := Classical.byContradiction fun m => h (str_ext (List.le_antisymm (α := Nat) m n))
instance (a b : Str) : Decidable (ltT a b) := inferInstanceAs (Decidable (a.cps.toList < b.cps.toList))
def insC (c : Ch) : List Ch → List Ch
  | [] => [c]
  | d :: r => if txC c = txC d then d :: r else if ltT (txC c) (txC d) then c :: d :: r else d :: insC c r
def jn : List Ch → List Ch
  | [] => []
  | c :: r => insC c (jn r)
theorem insC_sub {c : Ch} : ∀ {l : List Ch} {x : Ch}, x ∈ insC c l → x = c ∨ x ∈ l
  | [], x, h => .inl (List.mem_singleton.mp h)
  | d :: r, x, h => by
    unfold insC at h
    split at h
    · exact .inr h
    split at h
    · rcases List.mem_cons.mp h with e | e
      · exact .inl e
      · exact .inr e
    · rcases List.mem_cons.mp h with e | e
      · exact .inr (by rw [e]; exact List.mem_cons_self)
      · rcases insC_sub e with z | z
        · exact .inl z
        · exact .inr (List.mem_cons_of_mem _ z)
theorem insC_has {c : Ch} : ∀ {l : List Ch} {t : Str}, t ∈ (insC c l).map txC ↔ t = txC c ∨ t ∈ l.map txC
  | [], t => by simp [insC]
  | d :: r, t => by
    unfold insC
    split
    · rename_i e
      rw [e, List.map_cons, List.mem_cons]
      exact ⟨.inr, fun h => h.elim .inl id⟩
    split
    · rw [List.map_cons, List.mem_cons]
    · rw [List.map_cons, List.mem_cons, insC_has, List.map_cons, List.mem_cons]
      exact ⟨fun h => h.elim (fun z => .inr (.inl z)) fun z => z.elim .inl fun y => .inr (.inr y), fun h => h.elim (fun z => .inr (.inl z)) fun z => z.elim .inl fun y => .inr (.inr y)⟩
theorem insC_asc {c : Ch} : ∀ {l : List Ch}, (l.map txC).Pairwise ltT → ((insC c l).map txC).Pairwise ltT
  | [], _ => by simp [insC]
  | d :: r, h => by
    have h' := List.pairwise_cons.mp h
    unfold insC
    split
    · exact h
    rename_i ne
    split
    · rename_i lt
      refine List.pairwise_cons.mpr ⟨fun t ht => ?_, h⟩
      rcases List.mem_cons.mp ht with e | e
      · rw [e]; exact lt
      · exact List.lt_trans (α := Nat) lt (h'.1 t e)
    · rename_i nl
      refine List.pairwise_cons.mpr ⟨fun t ht => ?_, insC_asc h'.2⟩
      rcases insC_has.mp ht with e | e
      · rw [e]; exact ltT_total ne nl
      · exact h'.1 t e
theorem insC_len (c : Ch) : ∀ l : List Ch, (insC c l).length ≤ l.length + 1
  | [] => Nat.le_refl _
  | d :: r => by
    unfold insC
    split
    · exact Nat.le_succ _
    split
    · exact Nat.le_refl _
    · have := insC_len c r
      simp only [List.length_cons]
      omega
theorem jn_len : ∀ l : List Ch, (jn l).length ≤ l.length
  | [] => Nat.le_refl _
  | c :: r => by
    have a := jn_len r
    have b := insC_len c (jn r)
    show (insC c (jn r)).length ≤ r.length + 1
    omega
theorem jn_sub : ∀ {l : List Ch} {x : Ch}, x ∈ jn l → x ∈ l
  | c :: r, x, h => by
    rcases insC_sub (show x ∈ insC c (jn r) from h) with e | e
    · rw [e]; exact List.mem_cons_self
    · exact List.mem_cons_of_mem _ (jn_sub e)
theorem jn_has : ∀ {l : List Ch} {t : Str}, t ∈ (jn l).map txC ↔ t ∈ l.map txC
  | [], t => Iff.rfl
  | c :: r, t => by
    show t ∈ (insC c (jn r)).map txC ↔ _
    rw [insC_has, jn_has, List.map_cons, List.mem_cons]
theorem jn_asc : ∀ l : List Ch, ((jn l).map txC).Pairwise ltT
  | [] => List.Pairwise.nil
  | c :: r => insC_asc (jn_asc r)
theorem jn_ne {l : List Ch} (h : l ≠ []) : jn l ≠ [] := fun e => by
  cases l with
  | nil => exact h rfl
  | cons c r =>
    have : txC c ∈ (jn (c :: r)).map txC := jn_has.mpr List.mem_cons_self
    rw [e] at this
    cases this
theorem jn_J (l : List Ch) : J l (jn l) := ⟨jn_asc l, fun _ m => jn_sub m, fun _ m => jn_has.mpr (List.mem_map_of_mem m)⟩
theorem J_jn {n : Nat} {all cs : List Ch} (g : ∀ c ∈ all, gd n c) (h : J all cs) : cs = jn all := J_uniq g h (jn_J all)
theorem jn_few {l : List Ch} (a : l.length ≤ 60) : (jn l).length ≤ 60 := Nat.le_trans (jn_len l) a
/-! ### well-formed choices, by their size -/
/-- depth, length, nesting -/
structure Wl (d b e : Nat) (c : Ch) : Prop where
  g : ∀ n, d ≤ n → gd n c
  dp : dC c ≤ d
  ln : (cC c).length ≤ b
  ok : OkN e (pyC c)
  sg : ∀ a ∈ cC c, a < 128
theorem Wl.mono {d b e d' b' e' : Nat} {c : Ch} (h : Wl d b e c) (h1 : d ≤ d') (h2 : b ≤ b') (h3 : e ≤ e') : Wl d' b' e' c :=
  ⟨fun n l => h.g n (Nat.le_trans h1 l), Nat.le_trans h.dp h1, Nat.le_trans h.ln h2, h.ok.mono h3, h.sg⟩
theorem Wl.good {d b e n : Nat} {c : Ch} (h : Wl d b e c) (hd : d < n) (h9 : d ≤ 9) (hb : b ≤ 100000) (he : e ≤ 30) : gd 9 c ∧ dC c < n ∧ (cC c).length ≤ 100000 ∧ OkN 30 (pyC c) ∧ PyData.canLay0 (.str (txC c)) = true :=
  ⟨h.g 9 h9, Nat.lt_of_le_of_lt h.dp hd, Nat.le_trans h.ln hb, h.ok.mono he, lay_of h.sg⟩
theorem dL_le {d : Nat} : ∀ {k : List Ch}, (∀ c ∈ k, dC c ≤ d) → dL k ≤ d
  | [], _ => Nat.zero_le _
  | c :: r, h => Nat.max_le.mpr ⟨h c List.mem_cons_self, dL_le fun x m => h x (List.mem_cons_of_mem _ m)⟩
theorem dF_le {d : Nat} : ∀ {fs : List (Str × List Ch)}, (∀ p ∈ fs, dL p.2 ≤ d) → dF fs ≤ d
  | [], _ => Nat.zero_le _
  | (f, k) :: r, h => Nat.max_le.mpr ⟨h (f, k) List.mem_cons_self, dF_le fun x m => h x (List.mem_cons_of_mem _ m)⟩
theorem joinL_le {S : List Nat} {b : Nat} : ∀ {ps : List (List Nat)}, (∀ p ∈ ps, p.length ≤ b) → (TL.joinL S ps).length ≤ ps.length * (b + S.length)
  | [], _ => Nat.zero_le _
  | p :: ps, h => by
    have a : (ps.map (·.length)).sum ≤ ps.length * b := by
      have h' : ∀ q ∈ ps, q.length ≤ b := fun q m => h q (List.mem_cons_of_mem _ m)
      clear h
      induction ps with
      | nil => exact Nat.le_of_eq (by simp)
      | cons q qs ih =>
        have h1 := ih fun x m => h' x (List.mem_cons_of_mem _ m)
        have h2 := h' q List.mem_cons_self
        rw [List.map_cons, List.sum_cons, List.length_cons, Nat.succ_mul]
        omega
    have b1 := h p List.mem_cons_self
    rw [joinL_sum, List.length_cons, Nat.succ_mul, Nat.mul_add]
    omega
theorem bar_le {b : Nat} {k : List Ch} (h : ∀ c ∈ k, (cC c).length ≤ b) : (TL.joinL bar (cL k)).length ≤ k.length * (b + 3) := by
  have := joinL_le (S := bar) (b := b) (ps := cL k) fun p hp => by
    rw [cL_map] at hp
    obtain ⟨c, hc, rfl⟩ := List.mem_map.mp hp
    exact h c hc
  rw [cL_map, List.length_map] at this
  rw [cL_map]
  exact this
/-- a row, a book of such -/
theorem Wl.rb {d b e m : Nat} {k : List Ch} (k0 : k ≠ []) (km : k.length ≤ m) (m60 : m ≤ 60) (h : ∀ c ∈ k, Wl d b e c) : Wl (d + 1) (m * (b + 3) + 6) (e + 2) (.row k) ∧ Wl (d + 1) (m * (b + 3) + 6) (e + 2) (.book k) := by
  have l : (TL.joinL bar (cL k)).length ≤ m * (b + 3) := Nat.le_trans (bar_le fun c hc => (h c hc).ln) (Nat.mul_le_mul_right _ km)
  have dd : dL k ≤ d := dL_le fun c hc => (h c hc).dp
  have ok : OkN (e + 1) (.tuple (pyL k)) := okN_tup (by rw [pyL_map, List.length_map]; omega) fun x hx => by
    rw [pyL_map] at hx
    obtain ⟨c, hc, rfl⟩ := List.mem_map.mp hx
    exact (h c hc).ok
  have sg : ∀ a ∈ TL.joinL bar (cL k), a < 128 := signs_kind fun c hc => (h c hc).sg
  have gg : ∀ n, d + 1 ≤ n → ∃ n', n = n' + 1 ∧ ∀ c ∈ k, gd n' c := fun n hn => ⟨n - 1, by omega, fun c hc => (h c hc).g (n - 1) (by omega)⟩
  have brk : ∀ w : List Nat, (∀ a ∈ w, a < 128) → ∀ a ∈ w ++ 40 :: (TL.joinL bar (cL k) ++ [41]), a < 128 := fun w hw a m => by
    rcases List.mem_append.mp m with z | z
    · exact hw a z
    rcases List.mem_cons.mp z with z | z
    · omega
    rcases List.mem_append.mp z with z | z
    · exact sg a z
    · rw [List.mem_singleton.mp z]; decide
  constructor
  · refine ⟨fun n hn => ?_, Nat.succ_le_succ dd, ?_, ?_, brk (TL.tl "row") (by decide)⟩
    · obtain ⟨n', rfl, g⟩ := gg n hn
      exact ⟨k0, g⟩
    · show (TL.tl "row" ++ 40 :: (TL.joinL bar (cL k) ++ [41])).length ≤ _
      rw [List.length_append, List.length_cons, List.length_append]
      show 3 + (_ + 1 + 1) ≤ _
      omega
    · rw [pyC]
      exact okN_two (okN_w (by decide +kernel)) ok
  · refine ⟨fun n hn => ?_, Nat.succ_le_succ dd, ?_, ?_, brk (TL.tl "book") (by decide)⟩
    · obtain ⟨n', rfl, g⟩ := gg n hn
      exact ⟨k0, g⟩
    · show (TL.tl "book" ++ 40 :: (TL.joinL bar (cL k) ++ [41])).length ≤ _
      rw [List.length_append, List.length_cons, List.length_append]
      show 4 + (_ + 1 + 1) ≤ _
      omega
    · rw [pyC]
      exact okN_two (okN_w (by decide +kernel)) ok
/-- a shape of such -/
theorem Wl.sh {d b e m j : Nat} {fs : List (Str × List Ch)} (f0 : fs ≠ []) (fj : fs.length ≤ j) (j60 : j ≤ 60) (m60 : m ≤ 60) (h : ∀ p ∈ fs, Word p.1 ∧ p.2 ≠ [] ∧ p.2.length ≤ m ∧ ∀ c ∈ p.2, Wl d b e c) : Wl (d + 1) (j * (m * (b + 3) + 12) + 2) (e + 4) (.shape fs) := by
  have l : ∀ p ∈ fs, (TL.tl p.1 ++ 58 :: 32 :: TL.joinL bar (cL p.2)).length ≤ m * (b + 3) + 10 := fun p hp => by
    obtain ⟨w, _, km, hc⟩ := h p hp
    have l1 := Nat.le_trans (bar_le fun c hm => (hc c hm).ln) (Nat.mul_le_mul_right (b + 3) km)
    have w8 : (TL.tl p.1).length ≤ 8 := w.2.1
    rw [List.length_append, List.length_cons, List.length_cons]
    omega
  have l2 : (TL.joinL com (cF fs)).length ≤ j * (m * (b + 3) + 12) := by
    have := joinL_le (S := com) (b := m * (b + 3) + 10) (ps := cF fs) fun q hq => by
      rw [cF_map] at hq
      obtain ⟨p, hp, rfl⟩ := List.mem_map.mp hq
      exact l p hp
    rw [cF_map, List.length_map] at this
    rw [cF_map]
    exact Nat.le_trans this (Nat.mul_le_mul_right _ fj)
  refine ⟨fun n hn => ?_, Nat.succ_le_succ (dF_le fun p hp => dL_le fun c hc => ((h p hp).2.2.2 c hc).dp), ?_, ?_, fun a m => ?_⟩
  · obtain ⟨n', rfl⟩ : ∃ n', n = n' + 1 := ⟨n - 1, by omega⟩
    exact ⟨f0, fun p hp => ⟨(h p hp).1, (h p hp).2.1, fun c hc => ((h p hp).2.2.2 c hc).g n' (by omega)⟩⟩
  · show (123 :: (TL.joinL com (cF fs) ++ [125])).length ≤ _
    rw [List.length_cons, List.length_append]
    show _ + 1 + 1 ≤ _
    omega
  · rw [pyC]
    refine okN_two (n := e + 3) (okN_w (by decide +kernel)) (okN_tup (n := e + 2) (by rw [pyF_map, List.length_map]; omega) fun x hx => ?_)
    rw [pyF_map] at hx
    obtain ⟨p, hp, rfl⟩ := List.mem_map.mp hx
    refine okN_two (n := e + 1) ((okN_word (h p hp).1).mono (by omega)) (okN_tup (n := e) (by rw [pyL_map, List.length_map]; have := (h p hp).2.2.1; omega) fun x hx => ?_)
    rw [pyL_map] at hx
    obtain ⟨c, hc, rfl⟩ := List.mem_map.mp hx
    exact ((h p hp).2.2.2 c hc).ok
  · have m' : a ∈ 123 :: (TL.joinL com (cF fs) ++ [125]) := m
    rcases List.mem_cons.mp m' with z | z
    · omega
    rcases List.mem_append.mp z with z | z
    · rcases mem_joinL z with w | ⟨p, hp, w⟩
      · exact (by decide : ∀ b ∈ com, b < 128) a w
      · rw [cF_map] at hp
        obtain ⟨p2, hp2, rfl⟩ := List.mem_map.mp hp
        obtain ⟨w1, _, _, hc⟩ := h p2 hp2
        rcases List.mem_append.mp w with w | w
        · have := w1.2.2 a w
          omega
        rcases List.mem_cons.mp w with w | w
        · omega
        rcases List.mem_cons.mp w with w | w
        · omega
        exact signs_kind (fun c hm => (hc c hm).sg) a w
    · rw [List.mem_singleton.mp z]; decide
theorem Wl.num : Wl 0 10 1 .num := ⟨fun n _ => by cases n <;> exact trivial, Nat.le_refl _, by decide, okN_num 0, (by decide : ∀ a ∈ TL.tl "number", a < 128)⟩
theorem Wl.txt : Wl 0 10 1 .txt := ⟨fun n _ => by cases n <;> exact trivial, Nat.le_refl _, by decide, okN_txt 0, (by decide : ∀ a ∈ TL.tl "text", a < 128)⟩
theorem Wl.let_ {l : Str} (h : Lett l) : Wl 0 10 1 (.letter l) := ⟨fun n _ => by cases n <;> exact h, Nat.le_refl _, by have := h.2.1; show (TL.tl l).length ≤ 10; exact Nat.le_trans this (by decide), by rw [pyC]; exact okN_two (n := 0) (okN_w (by decide +kernel)) (okN_lett h), fun a m => by have := h.2.2 a m; omega⟩
/-- what is drawn, to d deep -/
def wB : Nat → Nat
  | 0 => 10
  | d + 1 => 2 * (3 * (wB d + 3) + 12) + 2
theorem wB_le : ∀ {d d' : Nat}, d ≤ d' → wB d ≤ wB d'
  | 0, 0, _ => Nat.le_refl _
  | 0, d' + 1, _ => by have := wB_le (Nat.zero_le d'); show wB 0 ≤ 2 * (3 * (wB d' + 3) + 12) + 2; omega
  | d + 1, d' + 1, h => by have := wB_le (Nat.le_of_succ_le_succ h); show 2 * (3 * (wB d + 3) + 12) + 2 ≤ 2 * (3 * (wB d' + 3) + 12) + 2; omega
theorem wl_of {ls : List Str} (hl : ∀ l ∈ ls, Lett l) : ∀ (n d : Nat), d ≤ n → ∀ c : Ch, okC ls d c → Wl d (wB d) (4 * d + 1) c := by
  intro n
  induction n with
  | zero =>
    intro d hd c h
    obtain rfl : d = 0 := by omega
    cases c with
    | num => exact .num
    | txt => exact .txt
    | row _ => exact absurd h.1 (Nat.lt_irrefl _)
    | book _ => exact absurd h.1 (Nat.lt_irrefl _)
    | shape _ => exact absurd h.1 (Nat.lt_irrefl _)
    | letter l => exact .let_ (hl l (by unfold okC at h; exact h))
    | cut _ _ => unfold okC at h; exact h.elim
    | any _ => unfold okC at h; exact h.elim
    | wth _ => unfold okC at h; exact h.elim
  | succ n ih =>
    intro d hd c h
    have b0 := wB_le (Nat.zero_le d)
    cases c with
    | num => exact Wl.num.mono (Nat.zero_le _) b0 (by omega)
    | txt => exact Wl.txt.mono (Nat.zero_le _) b0 (by omega)
    | row k =>
      have h' : 0 < d ∧ k ≠ [] ∧ k.length ≤ 3 ∧ okL ls (d - 1) k := by unfold okC at h; exact h
      obtain ⟨d, rfl⟩ : ∃ d', d = d' + 1 := ⟨d - 1, by omega⟩
      refine (Wl.rb (m := 3) h'.2.1 h'.2.2.1 (by decide) fun c hc => ih d (by omega) c (okL_mem' h'.2.2.2 hc)).1.mono (Nat.le_refl _) ?_ (by omega)
      show _ ≤ 2 * (3 * (wB d + 3) + 12) + 2
      omega
    | book k =>
      have h' : 0 < d ∧ k ≠ [] ∧ k.length ≤ 3 ∧ okL ls (d - 1) k := by unfold okC at h; exact h
      obtain ⟨d, rfl⟩ : ∃ d', d = d' + 1 := ⟨d - 1, by omega⟩
      refine (Wl.rb (m := 3) h'.2.1 h'.2.2.1 (by decide) fun c hc => ih d (by omega) c (okL_mem' h'.2.2.2 hc)).2.mono (Nat.le_refl _) ?_ (by omega)
      show _ ≤ 2 * (3 * (wB d + 3) + 12) + 2
      omega
    | shape fs =>
      have h' : 0 < d ∧ fs.length ≤ 2 ∧ Fld (fs.map (·.1)) ∧ okF ls (d - 1) fs := by unfold okC at h; exact h
      obtain ⟨d, rfl⟩ : ∃ d', d = d' + 1 := ⟨d - 1, by omega⟩
      refine (Wl.sh (d := d) (b := wB d) (e := 4 * d + 1) (m := 3) (j := 2) (fun z => h'.2.2.1.1 (by rw [z]; rfl)) h'.2.1 (by decide) (by decide) fun p hp => ?_).mono (Nat.le_refl _) (Nat.le_refl _) (by omega)
      obtain ⟨w1, k1, k3, o1⟩ := okF_mem' h'.2.2.2 hp
      exact ⟨w1, k1, k3, fun c hc => ih d (by omega) c (okL_mem' o1 hc)⟩
    | letter l => exact (Wl.let_ (hl l (by unfold okC at h; exact h))).mono (Nat.zero_le _) b0 (by omega)
    | cut _ _ => unfold okC at h; exact h.elim
    | any _ => unfold okC at h; exact h.elim
    | wth _ => unfold okC at h; exact h.elim
end Sc
namespace Sc
open PySem PySem.Spec PyProof.Rows L2
/-! ### kinds put in letters' places, purely -/
mutual
def puC (g : Str → List Ch) : Ch → List Ch
  | .num => [.num]
  | .txt => [.txt]
  | .letter l => g l
  | .row k => [.row (jn (puL g k))]
  | .book k => [.book (jn (puL g k))]
  | .shape fs => [.shape (puF g fs)]
  | .cut l hs => [.cut l hs]
  | .any w => [.any w]
  | .wth f => [.wth f]
def puL (g : Str → List Ch) : List Ch → List Ch
  | [] => []
  | c :: r => puC g c ++ puL g r
def puF (g : Str → List Ch) : List (Str × List Ch) → List (Str × List Ch)
  | [] => []
  | (f, k) :: r => (f, jn (puL g k)) :: puF g r
end
theorem puL_flat (g : Str → List Ch) : ∀ k : List Ch, puL g k = (k.map (puC g)).flatten
  | [] => rfl
  | c :: r => by rw [puL, puL_flat g r]; rfl
theorem puF_map (g : Str → List Ch) : ∀ fs : List (Str × List Ch), puF g fs = fs.map fun p => (p.1, jn (puL g p.2))
  | [] => rfl
  | (f, k) :: r => by rw [puF, puF_map g r]; rfl
def look (bs : List (Str × List Ch)) (l : Str) : List Ch := (bs.lookup l).getD []
theorem look_at : ∀ {bs : List (Str × List Ch)} {j : Nat} {q : Str × List Ch}, (bs.map (·.1)).Nodup → bs[j]? = some q → look bs q.1 = q.2
  | (t, x) :: bs, 0, q, _, h => by
    cases h
    unfold look
    rw [List.lookup_cons, beq_self_eq_true]
    rfl
  | (t, x) :: bs, j + 1, q, nd, h => by
    obtain ⟨n1, n2⟩ := List.nodup_cons.mp (show (t :: bs.map (·.1)).Nodup from nd)
    have h' : bs[j]? = some q := h
    have ne : (q.1 == t) = false := beq_eq_false_iff_ne.mpr fun e => n1 (by rw [← e]; exact List.mem_map_of_mem (List.mem_of_getElem? h'))
    have ih := look_at n2 h'
    unfold look at ih ⊢
    rw [List.lookup_cons, ne]
    exact ih
  | [], _, _, _, h => by simp at h
theorem look_mem {bs : List (Str × List Ch)} {l : Str} (nd : (bs.map (·.1)).Nodup) (m : l ∈ bs.map (·.1)) : ∃ (j : Nat) (q : Str × List Ch), bs[j]? = some q ∧ q.1 = l ∧ look bs l = q.2 ∧ q ∈ bs := by
  obtain ⟨q, hq, rfl⟩ := List.mem_map.mp m
  obtain ⟨j, hj⟩ := List.getElem?_of_mem hq
  exact ⟨j, q, hj, rfl, look_at nd hj, hq⟩
/-- kinds that are given, with letters among themselves -/
def okG (bs : List (Str × List Ch)) : Prop := ∀ q ∈ bs, Lett q.1 ∧ q.2 ≠ [] ∧ q.2.length ≤ 3 ∧ okL (bs.map (·.1)) 1 q.2
theorem okG.lett {bs : List (Str × List Ch)} (h : okG bs) : ∀ l ∈ bs.map (·.1), Lett l := fun l m => by
  obtain ⟨q, hq, rfl⟩ := List.mem_map.mp m
  exact (h q hq).1
def pB : Nat → Nat
  | 0 => wB 1
  | d + 1 => 2 * (9 * (pB d + 3) + 12) + 2
theorem pB_le : ∀ d : Nat, wB 1 ≤ pB d
  | 0 => Nat.le_refl _
  | d + 1 => by have := pB_le d; show wB 1 ≤ 2 * (9 * (pB d + 3) + 12) + 2; omega
theorem one3 (x : Ch) : ([x] : List Ch).length ≤ 3 := by show 1 ≤ 3; decide
theorem put_wl {bs : List (Str × List Ch)} (ok : okG bs) (nd : (bs.map (·.1)).Nodup) : ∀ (n d : Nat), d ≤ n → ∀ c : Ch, okC (bs.map (·.1)) d c → puC (look bs) c ≠ [] ∧ (puC (look bs) c).length ≤ 3 ∧ ∀ c' ∈ puC (look bs) c, Wl (d + 1) (pB d) (4 * (d + 1) + 1) c' := by
  have b10 : 10 ≤ wB 1 := by decide
  have flat : ∀ (d : Nat) (x : Ch), Wl 0 10 1 x → ([x] : List Ch) ≠ [] ∧ [x].length ≤ 3 ∧ ∀ c' ∈ [x], Wl (d + 1) (pB d) (4 * (d + 1) + 1) c' := fun d x hx => ⟨by simp, one3 _, fun c' m => by
    rw [List.mem_singleton.mp m]
    exact hx.mono (Nat.zero_le _) (Nat.le_trans b10 (pB_le d)) (by omega)⟩
  have lets : ∀ (d : Nat) (l : Str), l ∈ bs.map (·.1) → look bs l ≠ [] ∧ (look bs l).length ≤ 3 ∧ ∀ c' ∈ look bs l, Wl (d + 1) (pB d) (4 * (d + 1) + 1) c' := fun d l m => by
    obtain ⟨j, q, _, _, e, hq⟩ := look_mem nd m
    obtain ⟨_, k0, k3, okk⟩ := ok q hq
    rw [e]
    exact ⟨k0, k3, fun c hc => (wl_of ok.lett 1 1 (Nat.le_refl _) c (okL_mem' okk hc)).mono (by omega) (pB_le d) (by omega)⟩
  have kinds : ∀ (k : List Ch) (d : Nat), k ≠ [] → k.length ≤ 3 → (∀ c ∈ k, puC (look bs) c ≠ [] ∧ (puC (look bs) c).length ≤ 3 ∧ ∀ c' ∈ puC (look bs) c, Wl (d + 1) (pB d) (4 * (d + 1) + 1) c') →
      jn (puL (look bs) k) ≠ [] ∧ (jn (puL (look bs) k)).length ≤ 9 ∧ ∀ c' ∈ jn (puL (look bs) k), Wl (d + 1) (pB d) (4 * (d + 1) + 1) c' := fun k d k0 k3 h => by
    refine ⟨jn_ne fun e => ?_, Nat.le_trans (jn_len _) ?_, fun c' m => ?_⟩
    · cases k with
      | nil => exact k0 rfl
      | cons c r =>
        rw [puL] at e
        exact (h c List.mem_cons_self).1 (List.append_eq_nil_iff.mp e).1
    · rw [puL_flat]
      refine Nat.le_trans (flat_len (m := 3) fun x hx => ?_) (by rw [List.length_map]; omega)
      obtain ⟨c, hc, rfl⟩ := List.mem_map.mp hx
      exact (h c hc).2.1
    · have m' := jn_sub m
      rw [puL_flat] at m'
      obtain ⟨x, hx, hc'⟩ := List.mem_flatten.mp m'
      obtain ⟨c, hc, rfl⟩ := List.mem_map.mp hx
      exact (h c hc).2.2 c' hc'
  intro n
  induction n with
  | zero =>
    intro d hd c h
    obtain rfl : d = 0 := by omega
    cases c with
    | num => exact flat 0 _ .num
    | txt => exact flat 0 _ .txt
    | row _ => exact absurd h.1 (Nat.lt_irrefl _)
    | book _ => exact absurd h.1 (Nat.lt_irrefl _)
    | shape _ => exact absurd h.1 (Nat.lt_irrefl _)
    | letter l => exact lets 0 l (by unfold okC at h; exact h)
    | cut _ _ => unfold okC at h; exact h.elim
    | any _ => unfold okC at h; exact h.elim
    | wth _ => unfold okC at h; exact h.elim
  | succ n ih =>
    intro d hd c h
    cases c with
    | num => exact flat d _ .num
    | txt => exact flat d _ .txt
    | row k =>
      have h' : 0 < d ∧ k ≠ [] ∧ k.length ≤ 3 ∧ okL (bs.map (·.1)) (d - 1) k := by unfold okC at h; exact h
      obtain ⟨d, rfl⟩ : ∃ d', d = d' + 1 := ⟨d - 1, by omega⟩
      obtain ⟨j0, j9, jw⟩ := kinds k d h'.2.1 h'.2.2.1 fun c hc => ih d (by omega) c (okL_mem' h'.2.2.2 hc)
      refine ⟨by rw [puC]; simp, by rw [puC]; exact one3 _, fun c' m => ?_⟩
      rw [puC] at m
      rw [List.mem_singleton.mp m]
      refine (Wl.rb (d := d + 1) (b := pB d) (e := 4 * (d + 1) + 1) (m := 9) j0 j9 (by decide) jw).1.mono (Nat.le_refl _) ?_ (by omega)
      show _ ≤ 2 * (9 * (pB d + 3) + 12) + 2
      omega
    | book k =>
      have h' : 0 < d ∧ k ≠ [] ∧ k.length ≤ 3 ∧ okL (bs.map (·.1)) (d - 1) k := by unfold okC at h; exact h
      obtain ⟨d, rfl⟩ : ∃ d', d = d' + 1 := ⟨d - 1, by omega⟩
      obtain ⟨j0, j9, jw⟩ := kinds k d h'.2.1 h'.2.2.1 fun c hc => ih d (by omega) c (okL_mem' h'.2.2.2 hc)
      refine ⟨by rw [puC]; simp, by rw [puC]; exact one3 _, fun c' m => ?_⟩
      rw [puC] at m
      rw [List.mem_singleton.mp m]
      refine (Wl.rb (d := d + 1) (b := pB d) (e := 4 * (d + 1) + 1) (m := 9) j0 j9 (by decide) jw).2.mono (Nat.le_refl _) ?_ (by omega)
      show _ ≤ 2 * (9 * (pB d + 3) + 12) + 2
      omega
    | shape fs =>
      have h' : 0 < d ∧ fs.length ≤ 2 ∧ Fld (fs.map (·.1)) ∧ okF (bs.map (·.1)) (d - 1) fs := by unfold okC at h; exact h
      obtain ⟨d, rfl⟩ : ∃ d', d = d' + 1 := ⟨d - 1, by omega⟩
      refine ⟨by rw [puC]; simp, by rw [puC]; exact one3 _, fun c' m => ?_⟩
      rw [puC] at m
      rw [List.mem_singleton.mp m]
      refine (Wl.sh (d := d + 1) (b := pB d) (e := 4 * (d + 1) + 1) (m := 9) (j := 2) (fun z => h'.2.2.1.1 ?_) ?_ (by decide) (by decide) fun p hp => ?_).mono (Nat.le_refl _) (Nat.le_refl _) (by omega)
      · rw [puF_map] at z
        rw [List.map_eq_nil_iff.mp z]; rfl
      · rw [puF_map, List.length_map]; exact h'.2.1
      · rw [puF_map] at hp
        obtain ⟨q, hq, rfl⟩ := List.mem_map.mp hp
        obtain ⟨w1, k1, k3, o1⟩ := okF_mem' h'.2.2.2 hq
        obtain ⟨j0, j9, jw⟩ := kinds q.2 d k1 k3 fun c hc => ih d (by omega) c (okL_mem' o1 hc)
        exact ⟨w1, j0, j9, jw⟩
    | letter l => exact lets d l (by unfold okC at h; exact h)
    | cut _ _ => unfold okC at h; exact h.elim
    | any _ => unfold okC at h; exact h.elim
    | wth _ => unfold okC at h; exact h.elim
/-- what joining a list of what is put in asks -/
theorem put_good {bs : List (Str × List Ch)} (ok : okG bs) (nd : (bs.map (·.1)).Nodup) {d : Nat} (d2 : d ≤ 2) {k : List Ch} (k3 : k.length ≤ 3) (h : okL (bs.map (·.1)) d k) :
    (∀ c ∈ (k.map (puC (look bs))).flatten, gd 9 c ∧ dC c < 4 ∧ (cC c).length ≤ 100000 ∧ OkN 30 (pyC c) ∧ PyData.canLay0 (.str (txC c)) = true) ∧ (k.map (puC (look bs))).flatten.length ≤ 60 := by
  refine ⟨fun c' m => ?_, Nat.le_trans (flat_len (m := 3) fun x hx => ?_) (by rw [List.length_map]; omega)⟩
  · obtain ⟨x, hx, hc'⟩ := List.mem_flatten.mp m
    obtain ⟨c, hc, rfl⟩ := List.mem_map.mp hx
    have wl := (put_wl ok nd 2 d d2 c (okL_mem' h hc)).2.2 c' hc'
    have e2 : pB d ≤ 100000 := by
      have : d = 0 ∨ d = 1 ∨ d = 2 := by omega
      rcases this with rfl | rfl | rfl <;> decide
    exact wl.good (by omega) (by omega) e2 (by omega)
  · obtain ⟨c, hc, rfl⟩ := List.mem_map.mp hx
    exact (put_wl ok nd 2 d d2 c (okL_mem' h hc)).2.1
/-- what putting in promises -/
def spPut (K : PySem.W.Frag) (n : Nat) (T : Hp → Prop) (R : Hp → Hp → Prop) : Sp := fun vs H Q _ => ∃ (v : V) (ga : Addr) (k : List Ch) (bs : List (Str × List Ch)) (d : Nat), vs = [v, .ref ga] ∧ IsK K H v k ∧ IsB K H ga bs ∧ okG bs ∧ d < n ∧ d ≤ 2 ∧ k.length ≤ 3 ∧ okL (bs.map (·.1)) d k ∧ T H ∧
  ∀ (v' : V) (H' : Hp), R H H' → IsK K H' v' (jn (puL (look bs) k)) → Q v' H'
def spPutC (K : PySem.W.Frag) (n : Nat) (T : Hp → Prop) (R : Hp → Hp → Prop) : Sp := fun vs H Q _ => ∃ (v : V) (ga : Addr) (c : Ch) (bs : List (Str × List Ch)) (d : Nat), vs = [v, .ref ga] ∧ IsC K H v c ∧ IsB K H ga bs ∧ okG bs ∧ d < n ∧ d ≤ 2 ∧ okC (bs.map (·.1)) d c ∧ T H ∧
  ∀ (v' : V) (H' : Hp), R H H' → IsK K H' v' (puC (look bs) c) → Q v' H'
end Sc
namespace Sc
open PySem PySem.Spec PyProof.Rows L2
theorem IsB.nd {K : PySem.W.Frag} {H : Hp} {b : Addr} {bs : List (Str × List Ch)} (h : IsB K H b bs) : (bs.map (·.1)).Nodup := let ⟨_, _, _, nd, _⟩ := h; nd
theorem IsB.isD {K : PySem.W.Frag} {H : Hp} {b : Addr} {bs : List (Str × List Ch)} (h : IsB K H b bs) : IsD H b := let ⟨_, h1, _⟩ := h; .inl ⟨_, .inl h1⟩
end Sc
namespace Sc
open PySem PySem.Spec PyProof.Rows L2
/-! ### more letters may be told -/
theorem okC_sub {ls ls' : List Str} (hs : ∀ l ∈ ls, l ∈ ls') : ∀ (n d : Nat), d ≤ n → ∀ c : Ch, okC ls d c → okC ls' d c := by
  have okLs : ∀ (d : Nat), (∀ c, okC ls d c → okC ls' d c) → ∀ k : List Ch, okL ls d k → okL ls' d k := fun d hc k => by
    induction k with
    | nil => exact fun _ => trivial
    | cons c r ih => exact fun h => ⟨hc c h.1, ih h.2⟩
  have okFs : ∀ (d : Nat), (∀ c, okC ls d c → okC ls' d c) → ∀ fs : List (Str × List Ch), okF ls d fs → okF ls' d fs := fun d hc fs => by
    induction fs with
    | nil => exact fun _ => trivial
    | cons p r ih =>
      obtain ⟨f, k⟩ := p
      exact fun h => ⟨h.1, h.2.1, h.2.2.1, okLs d hc k h.2.2.2.1, ih h.2.2.2.2⟩
  intro n
  induction n with
  | zero =>
    intro d hd c h
    obtain rfl : d = 0 := by omega
    cases c with
    | num => exact trivial
    | txt => exact trivial
    | row _ => exact absurd h.1 (Nat.lt_irrefl _)
    | book _ => exact absurd h.1 (Nat.lt_irrefl _)
    | shape _ => exact absurd h.1 (Nat.lt_irrefl _)
    | letter l => unfold okC at h ⊢; exact hs l h
    | cut _ _ => unfold okC at h; exact h.elim
    | any _ => unfold okC at h; exact h.elim
    | wth _ => unfold okC at h; exact h.elim
  | succ n ih =>
    intro d hd c h
    cases c with
    | num => unfold okC; exact trivial
    | txt => unfold okC; exact trivial
    | row k => unfold okC at h ⊢; exact ⟨h.1, h.2.1, h.2.2.1, okLs _ (ih _ (by omega)) k h.2.2.2⟩
    | book k => unfold okC at h ⊢; exact ⟨h.1, h.2.1, h.2.2.1, okLs _ (ih _ (by omega)) k h.2.2.2⟩
    | shape fs => unfold okC at h ⊢; exact ⟨h.1, h.2.1, h.2.2.1, okFs _ (ih _ (by omega)) fs h.2.2.2⟩
    | letter l => unfold okC at h ⊢; exact hs l h
    | cut _ _ => unfold okC at h; exact h.elim
    | any _ => unfold okC at h; exact h.elim
    | wth _ => unfold okC at h; exact h.elim
theorem okL_sub {ls ls' : List Str} (hs : ∀ l ∈ ls, l ∈ ls') {d : Nat} : ∀ {k : List Ch}, okL ls d k → okL ls' d k
  | [], _ => trivial
  | c :: r, h => ⟨okC_sub hs d d (Nat.le_refl _) c h.1, okL_sub hs h.2⟩
theorem zipK_fst {β : Type} : ∀ {xs : List (Str × β)} {vs : List V}, vs.length = xs.length → (zipK xs vs).map (·.1) = xs.map fun q => (Sum.inr q.1 : Key)
  | [], [], _ => rfl
  | _ :: _, _ :: _, h => congrArg (_ :: ·) (zipK_fst (Nat.succ.inj h))
/-- a dict of kinds and its copy are equal -/
theorem bounds_eq {K : PySem.W.Frag} {H : Hp} {p b : Addr} {bs : List (Str × List Ch)} {us : List V} (hp : H p = some (.dK (zipK bs us))) (hb : H b = some (.dK (zipK bs us))) (hl : us.length = bs.length) (nd : (bs.map (·.1)).Nodup)
    (hk : ∀ (j : Nat) (v : V) (q : Str × List Ch), us[j]? = some v → bs[j]? = some q → IsK K H v q.2) : EqR K H (EqV K H 1) (.ref p) (.ref b) := by
  refine .inr ⟨p, b, _, _, rfl, rfl, hp, hb, rfl, fun q hq => ?_⟩
  obtain ⟨j, hj⟩ := List.getElem?_of_mem hq
  unfold zipK at hj
  rw [List.getElem?_zip_eq_some, List.getElem?_map] at hj
  obtain ⟨h1, h2⟩ := hj
  obtain ⟨x, hx, ex⟩ := Option.map_eq_some_iff.mp h1
  obtain ⟨a, _, ea, _⟩ := (hk j q.2 x h2 hx).open
  exact ⟨q.2, by rw [← ex]; exact zipK_get nd hx h2, .inr (.inl ⟨a, ea, ea⟩)⟩
theorem IsB.extN {K : PySem.W.Frag} {H H' : Hp} {b : Addr} {bs : List (Str × List Ch)} (h : IsB K H b bs) (e : LamX.ExtN H H') : IsB K H' b bs := by
  obtain ⟨vs, h1, h2, h3, h4⟩ := h
  exact ⟨vs, e _ _ h1 (fun ps z => by cases z), h2, h3, fun j v q a c => (extN_keep e).2.dt (h4 j v q a c)⟩
end Sc
namespace Sc
open PySem PySem.Spec PyProof.Rows L2
/-! ### kinds opened, purely -/
def inHs (hs : List Str) (c : Ch) : Bool := decide (hdC c ∈ hs)
def opC (bs : List (Str × List Ch)) : Ch → List Ch
  | .letter l => look bs l
  | .cut l hs => (look bs l).filter (inHs hs)
  | c => [c]
theorem okB.look {bs : List (Str × List Ch)} (ok : okB bs) (nd : (bs.map (·.1)).Nodup) {l : Str} {k : List Ch} (m : (l, k) ∈ bs) : look bs l = k := by
  obtain ⟨j, hj⟩ := List.getElem?_of_mem m
  exact look_at nd hj
theorem okB.nil {bs : List (Str × List Ch)} (ok : okB bs) {q : Str × List Ch} (m : q ∈ bs) : ∀ c ∈ q.2, okC [] 1 c := fun c hc => okL_mem' (ok q m).2.2.2 hc
/-- letters and cuts of a drawn kind are of the bounds -/
theorem okA.lets {bs : List (Str × List Ch)} {d : Nat} {k : List Ch} (h : okA bs d k) {c : Ch} (m : c ∈ k) : (∀ l, c = .letter l → ∃ k', (l, k') ∈ bs) ∧ (∀ l hs, c = .cut l hs → ∃ k', (l, k') ∈ bs) ∧ (∀ x, c ≠ .any x) ∧ (∀ x, c ≠ .wth x) := by
  obtain ⟨k0, cs, rfl, okk, _, _, hcs⟩ := h
  rcases List.mem_append.mp m with m | m
  · have o := okL_mem' okk m
    refine ⟨fun l e => ?_, fun l hs e => ?_, fun x e => ?_, fun x e => ?_⟩
    · subst e
      unfold okC at o
      obtain ⟨q, hq, e⟩ := List.mem_map.mp o
      exact ⟨q.2, by rw [← e]; exact hq⟩
    · subst e; unfold okC at o; exact o.elim
    · subst e; unfold okC at o; exact o.elim
    · subst e; unfold okC at o; exact o.elim
  · rcases hcs with rfl | ⟨c', rfl, l, k', hm, hc'⟩
    · cases m
    · obtain rfl := List.mem_singleton.mp m
      rcases hc' with rfl | ⟨ys, a, n, rfl, _⟩
      · exact ⟨fun l' e => by cases e; exact ⟨k', hm⟩, (fun _ _ e => by cases e), (fun _ e => by cases e), (fun _ e => by cases e)⟩
      · exact ⟨(fun l' e => by cases e), fun l' hs e => by cases e; exact ⟨k', hm⟩, (fun _ e => by cases e), (fun _ e => by cases e)⟩
theorem open_good {bs : List (Str × List Ch)} (ok : okB bs) (nd : (bs.map (·.1)).Nodup) {k : List Ch} (h : okA bs 2 k) :
    (∀ c ∈ (k.map (opC bs)).flatten, gd 9 c ∧ dC c < 3 ∧ (cC c).length ≤ 100000 ∧ OkN 30 (pyC c) ∧ PyData.canLay0 (.str (txC c)) = true) ∧ (k.map (opC bs)).flatten.length ≤ 60 := by
  have bnd : ∀ l k', (l, k') ∈ bs → ∀ c ∈ look bs l, gd 9 c ∧ dC c < 3 ∧ (cC c).length ≤ 100000 ∧ OkN 30 (pyC c) ∧ PyData.canLay0 (.str (txC c)) = true := fun l k' m c hc => by
    rw [ok.look nd m] at hc
    exact (wl_of (ls := []) (fun _ h => by cases h) 1 1 (Nat.le_refl _) c (ok.nil m c hc)).good (by decide) (by decide) (by decide) (by decide)
  have len : ∀ l k', (l, k') ∈ bs → (look bs l).length ≤ 3 := fun l k' m => by
    rw [ok.look nd m]
    exact (ok _ m).2.2.1
  refine ⟨fun c' m => ?_, Nat.le_trans (flat_len (m := 3) fun x hx => ?_) ?_⟩
  · obtain ⟨x, hx, hc'⟩ := List.mem_flatten.mp m
    obtain ⟨c, hc, rfl⟩ := List.mem_map.mp hx
    obtain ⟨h1, h2, _⟩ := h.lets hc
    cases c with
    | letter l => obtain ⟨k', m'⟩ := h1 l rfl; exact bnd l k' m' c' hc'
    | cut l hs => obtain ⟨k', m'⟩ := h2 l hs rfl; exact bnd l k' m' c' (List.mem_filter.mp hc').1
    | _ => rw [List.mem_singleton.mp hc']; exact any_well ok h _ hc
  · obtain ⟨c, hc, rfl⟩ := List.mem_map.mp hx
    obtain ⟨h1, h2, _⟩ := h.lets hc
    cases c with
    | letter l => obtain ⟨k', m'⟩ := h1 l rfl; exact len l k' m'
    | cut l hs => obtain ⟨k', m'⟩ := h2 l hs rfl; exact Nat.le_trans (List.length_filter_le _ _) (len l k' m')
    | _ => exact one3 _
  · rw [List.length_map]
    have := (any_len ok h).2.1
    omega
/-- what opening promises -/
def spOpen (K : PySem.W.Frag) (T : Hp → Prop) (R : Hp → Hp → Prop) : Sp := fun vs H Q _ => ∃ (v : V) (b : Addr) (k : List Ch) (bs : List (Str × List Ch)), vs = [v, .ref b] ∧ IsK K H v k ∧ IsB K H b bs ∧ okB bs ∧ okA bs 2 k ∧ T H ∧
  ∀ (v' : V) (H' : Hp), R H H' → IsK K H' v' (jn ((k.map (opC bs)).flatten)) → Q v' H'
def spOpenC (K : PySem.W.Frag) : Sp := fun vs H Q _ => ∃ (v : V) (b : Addr) (c : Ch) (bs : List (Str × List Ch)), vs = [v, .ref b] ∧ IsC K H v c ∧ IsB K H b bs ∧ okB bs ∧ (∀ l, c = .letter l → ∃ k', (l, k') ∈ bs) ∧ (∀ l hs, c = .cut l hs → ∃ k', (l, k') ∈ bs) ∧
  ∀ (v' : V) (H' : Hp), Same H H' → IsK K H' v' (opC bs c) → Q v' H'
theorem filter_next {f : Ch → Bool} {k : List Ch} {j : Nat} {c : Ch} (h : k[j]? = some c) : (k.take (j + 1)).filter f = if f c = true then (k.take j).filter f ++ [c] else (k.take j).filter f := by
  rw [List.take_add_one, h, List.filter_append]
  cases e : f c with
  | true => rw [if_pos rfl]; show _ ++ [c].filter f = _; rw [List.filter_cons, if_pos e]; rfl
  | false => rw [if_neg Bool.false_ne_true]; show _ ++ [c].filter f = _; rw [List.filter_cons, if_neg (by rw [e]; exact Bool.false_ne_true)]; exact List.append_nil _
end Sc
namespace Sc
open PySem PySem.Spec PyProof.Rows L2
/-! ### texts sorted, each once -/
def insS (c : Str) : List Str → List Str
  | [] => [c]
  | d :: r => if c = d then d :: r else if ltT c d then c :: d :: r else d :: insS c r
def js : List Str → List Str
  | [] => []
  | c :: r => insS c (js r)
theorem insS_has {c : Str} : ∀ {l : List Str} {t : Str}, t ∈ insS c l ↔ t = c ∨ t ∈ l
  | [], t => by simp [insS]
  | d :: r, t => by
    unfold insS
    split
    · rename_i e
      rw [e, List.mem_cons]
      exact ⟨.inr, fun h => h.elim .inl id⟩
    split
    · rw [List.mem_cons]
    · rw [List.mem_cons, insS_has, List.mem_cons]
      exact ⟨fun h => h.elim (fun z => .inr (.inl z)) fun z => z.elim .inl fun y => .inr (.inr y), fun h => h.elim (fun z => .inr (.inl z)) fun z => z.elim .inl fun y => .inr (.inr y)⟩
theorem insS_asc {c : Str} : ∀ {l : List Str}, l.Pairwise ltT → (insS c l).Pairwise ltT
  | [], _ => by simp [insS]
  | d :: r, h => by
    have h' := List.pairwise_cons.mp h
    unfold insS
    split
    · exact h
    rename_i ne
    split
    · rename_i lt
      refine List.pairwise_cons.mpr ⟨fun t ht => ?_, h⟩
      rcases List.mem_cons.mp ht with e | e
      · rw [e]; exact lt
      · exact List.lt_trans (α := Nat) lt (h'.1 t e)
    · rename_i nl
      refine List.pairwise_cons.mpr ⟨fun t ht => ?_, insS_asc h'.2⟩
      rcases insS_has.mp ht with e | e
      · rw [e]; exact ltT_total ne nl
      · exact h'.1 t e
theorem insS_len (c : Str) : ∀ l : List Str, (insS c l).length ≤ l.length + 1
  | [] => Nat.le_refl _
  | d :: r => by
    unfold insS
    split
    · exact Nat.le_succ _
    split
    · exact Nat.le_refl _
    · have := insS_len c r
      simp only [List.length_cons]
      omega
theorem js_has : ∀ {l : List Str} {t : Str}, t ∈ js l ↔ t ∈ l
  | [], t => Iff.rfl
  | c :: r, t => by
    show t ∈ insS c (js r) ↔ _
    rw [insS_has, js_has, List.mem_cons]
theorem js_asc : ∀ l : List Str, (js l).Pairwise ltT
  | [] => List.Pairwise.nil
  | c :: r => insS_asc (js_asc r)
theorem js_len : ∀ l : List Str, (js l).length ≤ l.length
  | [] => Nat.le_refl _
  | c :: r => by
    have a := js_len r
    have b := insS_len c (js r)
    show (insS c (js r)).length ≤ r.length + 1
    omega
theorem js_of {l ys : List Str} (so : sortedS ys = true) (nd : ys.Nodup) (mem : ∀ x, x ∈ ys ↔ x ∈ l) : ys = js l := by
  refine asc_uniq _ _ ((asc_iff _).mp ?_) (js_asc l) fun x => (mem x).trans js_has.symm
  unfold ascB
  rw [so, decide_eq_true nd]; rfl
/-- the heads of a bound -/
def hsB (k : List Ch) : List Str := js (k.map hdC)
theorem Hs.eq {k : List Ch} {ys : List Str} (h : Hs k ys) : ys = hsB k := js_of h.1 h.2.1 h.2.2.2
theorem hsB_ne {k : List Ch} (h : k ≠ []) : hsB k ≠ [] := fun e => by
  cases k with
  | nil => exact h rfl
  | cons c r =>
    have : hdC c ∈ hsB (c :: r) := js_has.mpr List.mem_cons_self
    rw [e] at this
    cases this
/-! ### the words of a head -/
def hdWs : Ch → List Str
  | .num => ["number"] | .txt => ["text"] | .row _ => ["row"] | .book _ => ["book"]
  | .shape fs => "shape" :: fs.map (·.1)
  | _ => []
/-- the head of some choice -/
def GHd (h : Str) : Prop := ∃ c, hdOk c ∧ h = hdC c
theorem join_one (z : Str) : Txt.join " " [z] = z := TL.ext_tl (by rw [TL.join_eq, TL.tl_join]; exact joinL_one _ _)
theorem word_no {z : Str} (h : Word z) : 32 ∉ TL.tl z := fun m => by have := h.2.2 32 m; omega
theorem hd_split {c : Ch} (h : hdOk c) : Txt.split (hdC c) " " = hdWs c ∧ hdWs c ≠ [] := by
  have one : ∀ z : Str, 32 ∉ TL.tl z → Txt.split z " " = [z] := fun z hz => by
    have := TL.split_join (y := " ") (s := 32) (S := []) rfl (by decide +kernel) (parts := [z]) (by simp) fun p m => by rw [List.mem_singleton.mp m]; exact hz
    rw [join_one] at this
    exact this
  cases c with
  | num => exact ⟨one _ (by decide), by simp [hdWs]⟩
  | txt => exact ⟨one _ (by decide), by simp [hdWs]⟩
  | row _ => exact ⟨one _ (by show 32 ∉ TL.tl "row"; decide), by simp [hdWs]⟩
  | book _ => exact ⟨one _ (by show 32 ∉ TL.tl "book"; decide), by simp [hdWs]⟩
  | shape fs =>
    have fld : Fld (fs.map (·.1)) := h
    refine ⟨TL.split_join (y := " ") (s := 32) (S := []) rfl (by decide +kernel) (by simp) fun p m => ?_, by simp [hdWs]⟩
    rcases List.mem_cons.mp m with e | e
    · rw [e]; decide
    · exact word_no (fld.2.2.2.2 p e)
  | letter _ => exact h.elim
  | cut _ _ => exact h.elim
  | any _ => exact h.elim
  | wth _ => exact h.elim
theorem hd_short {c : Ch} (h : hdOk c) : (hdC c).length ≤ 300 := by
  cases c with
  | shape fs =>
    have fld : Fld (fs.map (·.1)) := h
    have := join_len " " ("shape" :: fs.map (·.1))
    have s := fld.sum
    have z := fld.2.1
    show (Txt.join " " ("shape" :: fs.map (·.1))).length ≤ 300
    generalize fs.map (·.1) = zs at this s z ⊢
    have e1 : ((("shape" : Str) :: zs).map (·.length)).sum = 5 + (zs.map (·.length)).sum := by rw [List.map_cons, List.sum_cons]; rfl
    have e2 : (("shape" : Str) :: zs).length = zs.length + 1 := rfl
    have e3 : (" " : Str).length = 1 := rfl
    rw [e1, e2, e3] at this
    omega
  | num => decide
  | txt => decide
  | row _ => show ("row" : Str).length ≤ 300; decide
  | book _ => show ("book" : Str).length ≤ 300; decide
  | letter _ => exact h.elim
  | cut _ _ => exact h.elim
  | any _ => exact h.elim
  | wth _ => exact h.elim
theorem sw_eq (x : Str) : Txt.startswith x "shape " = ((TL.tl x).take 6 == TL.tl "shape ") := by
  have e := TL.at_iff (x := x) (y := "shape ") (by decide) 0
  have l6 : (TL.tl ("shape " : Str)).length = 6 := rfl
  have a : Txt.startswith x "shape " = TL.pre (TL.tl "shape ") ((TL.tl x).drop 0) := by
    rw [Bool.eq_iff_iff, ← e]
    unfold Txt.startswith
    rw [Bool.and_eq_true, decide_eq_true_eq]
    exact Iff.rfl
  rw [a]
  rfl
theorem sw_hd {c : Ch} (h : hdOk c) : Txt.startswith (hdC c) "shape " = decide (hdWs c ≠ [] ∧ (hdWs c).head? = some ("shape" : Str)) := by
  cases c with
  | num => decide +kernel
  | txt => decide +kernel
  | row _ => show Txt.startswith "row" "shape " = decide ((["row"] : List Str) ≠ [] ∧ (["row"] : List Str).head? = some ("shape" : Str)); decide +kernel
  | book _ => show Txt.startswith "book" "shape " = decide ((["book"] : List Str) ≠ [] ∧ (["book"] : List Str).head? = some ("shape" : Str)); decide +kernel
  | shape fs =>
    have fld : Fld (fs.map (·.1)) := h
    rw [sw_eq, show hdC (.shape fs) = ("shape " : Str) ++ Txt.join " " (fs.map (·.1)) from head_text fld.1, TL.tl_append]
    have e : decide (hdWs (.shape fs) ≠ [] ∧ (hdWs (.shape fs)).head? = some ("shape" : Str)) = true := decide_eq_true ⟨by simp [hdWs], rfl⟩
    rw [e]
    rw [List.take_append_of_le_length (by decide)]
    decide
  | letter _ => exact h.elim
  | cut _ _ => exact h.elim
  | any _ => exact h.elim
  | wth _ => exact h.elim
/-! ### what is asked -/
inductive Ask where
  | is (w : Str) | has (f : Str)
def pyA : Ask → PyData
  | .is w => .tuple [.str "is", .str w]
  | .has f => .tuple [.str "has", .str f]
def okAsk : Ask → Prop
  | .is w => w ∈ (["number", "text", "row", "book", "shape"] : List Str)
  | .has f => Word f
def ans (a : Ask) (h : Str) : Bool := match a with
  | .is w => decide ((Txt.split h " ").head? = some w)
  | .has f => decide (f ∈ (Txt.split h " ").drop 1)
/-- what is left of a choice on a side -/
def lefts (a : Ask) (y : Bool) (hs : List Str) : List Str := hs.filter fun h => decide (ans a h = y)
def leC (bs : List (Str × List Ch)) (a : Ask) (y : Bool) : Ch → List Ch
  | .letter l => if lefts a y (hsB (look bs l)) = [] then [] else if lefts a y (hsB (look bs l)) = hsB (look bs l) then [.letter l] else [.cut l (lefts a y (hsB (look bs l)))]
  | .cut l hs => if lefts a y hs = [] then [] else if lefts a y hs = hsB (look bs l) then [.letter l] else [.cut l (lefts a y hs)]
  | c => if decide (ans a (hdC c) = y) = true then [c] else []
theorem leC_one (bs : List (Str × List Ch)) (a : Ask) (y : Bool) (c : Ch) : (leC bs a y c).length ≤ 1 := by
  unfold leC
  split
  · split
    · exact Nat.zero_le _
    · split <;> exact Nat.le_refl _
  · split
    · exact Nat.zero_le _
    · split <;> exact Nat.le_refl _
  · split
    · exact Nat.le_refl _
    · exact Nat.zero_le _
/-- a cut of a letter by heads of its bound -/
theorem cut_wl {l : Str} (hl : Lett l) {k : List Ch} (hk : ∀ c ∈ k, okC [] 1 c) {ys : List Str} (y0 : ys ≠ []) (y3 : ys.length ≤ 3) (hy : ∀ y ∈ ys, y ∈ k.map hdC) : Wl 0 1000 2 (.cut l ys) := by
  have hd : ∀ y ∈ ys, (∀ b ∈ TL.tl y, b ≠ 44 ∧ b ≠ 41 ∧ b < 128) ∧ (TL.tl y).length ≤ 300 := fun y m => by
    obtain ⟨c, hc, rfl⟩ := List.mem_map.mp (hy y m)
    have := hd_len (hk c hc)
    rw [len_list] at this
    exact ⟨hd_signs (hk c hc), this⟩
  refine ⟨fun n _ => ?_, Nat.le_refl _, ?_, ?_, fun b hb => ?_⟩
  · have g : Lett l ∧ ys ≠ [] ∧ ∀ h ∈ ys, hok h := ⟨hl, y0, fun y m b hb => ⟨((hd y m).1 b hb).1, ((hd y m).1 b hb).2.1⟩⟩
    cases n <;> exact g
  · show (TL.tl l ++ 40 :: (TL.joinL com (ys.map TL.tl) ++ [41])).length ≤ _
    have j := joinL_le (S := com) (b := 300) (ps := ys.map TL.tl) fun p hp => by
      obtain ⟨y, m, rfl⟩ := List.mem_map.mp hp
      exact (hd y m).2
    rw [List.length_map] at j
    have j2 : ys.length * (300 + com.length) ≤ 3 * (300 + com.length) := Nat.mul_le_mul_right _ y3
    have c2 : com.length = 2 := rfl
    have l8 : (TL.tl l).length ≤ 8 := hl.2.1
    rw [List.length_append, List.length_cons, List.length_append]
    show _ + (_ + 1 + 1) ≤ _
    rw [c2] at j j2
    omega
  · rw [pyC]
    refine okN_tup (n := 1) (by show 3 ≤ 60; decide) fun x hx => ?_
    rcases List.mem_cons.mp hx with e | hx
    · rw [e]; exact okN_w (by decide +kernel)
    rcases List.mem_cons.mp hx with e | hx
    · rw [e]; exact (okN_lett hl).mono (by omega)
    rw [List.mem_singleton.mp hx]
    refine okN_tup (n := 0) (by rw [List.length_map]; omega) fun x hx => ?_
    obtain ⟨y, m, rfl⟩ := List.mem_map.mp hx
    exact okN_plain (Nat.le_trans (hd y m).2 (by decide)) fun b hb => ((hd y m).1 b hb).2.2
  · have hb' : b ∈ TL.tl l ++ 40 :: (TL.joinL com (ys.map TL.tl) ++ [41]) := hb
    rcases List.mem_append.mp hb' with z | z
    · have := hl.2.2 b z
      omega
    rcases List.mem_cons.mp z with z | z
    · omega
    rcases List.mem_append.mp z with z | z
    · rcases mem_joinL z with w | ⟨p, hp, w⟩
      · exact (by decide : ∀ b ∈ com, b < 128) b w
      · obtain ⟨y, m, rfl⟩ := List.mem_map.mp hp
        exact ((hd y m).1 b w).2.2
    · rw [List.mem_singleton.mp z]; decide
/-- a choice of a drawn kind: its heads -/
structure HdsOk (bs : List (Str × List Ch)) (c : Ch) : Prop where
  le : ∀ l, c = .letter l → ∃ k', (l, k') ∈ bs
  cu : ∀ l hs, c = .cut l hs → ∃ k', (l, k') ∈ bs ∧ hs ≠ [] ∧ hs.length ≤ 3 ∧ ∀ y ∈ hs, y ∈ k'.map hdC
  ot : (∀ l, c ≠ .letter l) → (∀ l hs, c ≠ .cut l hs) → hdOk c
theorem hdOk_in {ls : List Str} {n : Nat} {c : Ch} (h : okC ls n c) (nl : ∀ l, c ≠ .letter l) : hdOk c := by
  cases c with
  | shape fs => exact (show 0 < n ∧ fs.length ≤ 2 ∧ Fld (fs.map (·.1)) ∧ okF ls (n - 1) fs by unfold okC at h; exact h).2.2.1
  | letter l => exact absurd rfl (nl l)
  | cut l hs => unfold okC at h; exact h.elim
  | any l => unfold okC at h; exact h.elim
  | wth l => unfold okC at h; exact h.elim
  | _ => exact trivial
theorem okA.hds {bs : List (Str × List Ch)} (ok : okB bs) {d : Nat} {k : List Ch} (h : okA bs d k) {c : Ch} (m : c ∈ k) : HdsOk bs c := by
  obtain ⟨f1, f2, _⟩ := h.lets m
  refine ⟨f1, fun l hs e => ?_, fun nl nc => ?_⟩
  · obtain ⟨k0, cs, rfl, okk, _, _, hcs⟩ := h
    subst e
    rcases List.mem_append.mp m with m | m
    · have o := okL_mem' okk m
      unfold okC at o
      exact o.elim
    rcases hcs with rfl | ⟨c', rfl, l', k', hm, hc'⟩
    · cases m
    · rcases hc' with e | ⟨ys, a, n, e, hs1, m0, am, my⟩
      · rw [← List.mem_singleton.mp m] at e; cases e
      · rw [← List.mem_singleton.mp m] at e
        cases e
        have k3 : k'.length ≤ 3 := (ok _ hm).2.2.1
        have few := hs1.2.2.1
        refine ⟨k', hm, fun z => ?_, ?_, fun y hy => (hs1.2.2.2 y).mp (List.mem_of_mem_drop (List.mem_of_mem_take hy))⟩
        · have := congrArg List.length z
          rw [List.length_take, List.length_drop] at this
          have h0 : ([] : List Str).length = 0 := rfl
          omega
        · have := List.length_take_le' n (ys.drop a)
          rw [List.length_drop] at this
          omega
  · obtain ⟨k0, cs, rfl, okk, _, _, hcs⟩ := h
    rcases List.mem_append.mp m with m | m
    · exact hdOk_in (okL_mem' okk m) nl
    rcases hcs with rfl | ⟨c', rfl, l', k', hm, hc'⟩
    · cases m
    · rcases hc' with e | ⟨ys, a, n, e, _⟩
      · rw [← List.mem_singleton.mp m] at e; exact absurd e (nl _)
      · rw [← List.mem_singleton.mp m] at e; exact absurd e (nc _ _)
theorem hsB_look {bs : List (Str × List Ch)} (ok : okB bs) (nd : (bs.map (·.1)).Nodup) {l : Str} {k' : List Ch} (m : (l, k') ∈ bs) : hsB (look bs l) ≠ [] ∧ (hsB (look bs l)).length ≤ 3 ∧ ∀ y ∈ hsB (look bs l), y ∈ k'.map hdC := by
  rw [ok.look nd m]
  have h := ok _ m
  have h3 : k'.length ≤ 3 := h.2.2.1
  refine ⟨hsB_ne h.2.1, ?_, fun y hy => js_has.mp hy⟩
  have := js_len (k'.map hdC)
  rw [List.length_map] at this
  show (js _).length ≤ 3
  omega
theorem nar_good {bs : List (Str × List Ch)} (ok : okB bs) (nd : (bs.map (·.1)).Nodup) (a : Ask) (y : Bool) {k : List Ch} (h : okA bs 2 k) :
    (∀ c ∈ (k.map (leC bs a y)).flatten, gd 9 c ∧ dC c < 3 ∧ (cC c).length ≤ 100000 ∧ OkN 30 (pyC c) ∧ PyData.canLay0 (.str (txC c)) = true) ∧ (k.map (leC bs a y)).flatten.length ≤ 60 := by
  have letg : ∀ l k', (l, k') ∈ bs → gd 9 (.letter l) ∧ dC (.letter l) < 3 ∧ (cC (.letter l)).length ≤ 100000 ∧ OkN 30 (pyC (.letter l)) ∧ PyData.canLay0 (.str (txC (.letter l))) = true := fun l k' m =>
    (Wl.let_ (ok _ m).1).good (by decide) (by decide) (by decide) (by decide)
  have cutg : ∀ l k' (hs : List Str), (l, k') ∈ bs → hs ≠ [] → hs.length ≤ 3 → (∀ y ∈ hs, y ∈ k'.map hdC) → gd 9 (.cut l hs) ∧ dC (.cut l hs) < 3 ∧ (cC (.cut l hs)).length ≤ 100000 ∧ OkN 30 (pyC (.cut l hs)) ∧ PyData.canLay0 (.str (txC (.cut l hs))) = true := fun l k' hs m h0 h3 hy =>
    (cut_wl (ok _ m).1 (ok.nil m) h0 h3 hy).good (by decide) (by decide) (by decide) (by decide)
  have flt : ∀ hs : List Str, ∀ x ∈ lefts a y hs, x ∈ hs := fun hs x m => (List.mem_filter.mp m).1
  have fl3 : ∀ hs : List Str, hs.length ≤ 3 → (lefts a y hs).length ≤ 3 := fun hs h => Nat.le_trans (List.length_filter_le _ _) h
  refine ⟨fun c' m => ?_, Nat.le_trans (flat_len (m := 1) fun x hx => ?_) ?_⟩
  · obtain ⟨x, hx, hc'⟩ := List.mem_flatten.mp m
    obtain ⟨c, hc, rfl⟩ := List.mem_map.mp hx
    have hh := h.hds ok hc
    unfold leC at hc'
    split at hc'
    · obtain ⟨k', m'⟩ := hh.le _ rfl
      obtain ⟨g0, g3, gy⟩ := hsB_look ok nd m'
      split at hc'
      · cases hc'
      rename_i n0
      split at hc'
      · rw [List.mem_singleton.mp hc']; exact letg _ k' m'
      · rw [List.mem_singleton.mp hc']; exact cutg _ k' _ m' n0 (fl3 _ g3) fun z hz => gy z (flt _ z hz)
    · obtain ⟨k', m', g0, g3, gy⟩ := hh.cu _ _ rfl
      split at hc'
      · cases hc'
      rename_i n0
      split at hc'
      · rw [List.mem_singleton.mp hc']; exact letg _ k' m'
      · rw [List.mem_singleton.mp hc']; exact cutg _ k' _ m' n0 (fl3 _ g3) fun z hz => gy z (flt _ z hz)
    · split at hc'
      · rw [List.mem_singleton.mp hc']; exact any_well ok h _ hc
      · cases hc'
  · obtain ⟨c, hc, rfl⟩ := List.mem_map.mp hx
    exact leC_one bs a y c
  · rw [List.length_map]
    have := (any_len ok h).2.1
    omega
end Sc
namespace Sc
open PySem PySem.Spec PyProof.Rows L2
def hdsOf (bs : List (Str × List Ch)) : Ch → List Str
  | .letter l => hsB (look bs l)
  | .cut _ hs => hs
  | c => [hdC c]
theorem lefts_one (a : Ask) (y : Bool) (h : Str) : lefts a y [h] = if decide (ans a h = y) = true then [h] else [] := by
  unfold lefts
  rw [List.filter_cons]
  split
  · rfl
  · rfl
theorem oth {bs : List (Str × List Ch)} {a : Ask} {y : Bool} {c : Ch} (nl : ∀ l, c ≠ .letter l) (nc : ∀ l hs, c ≠ .cut l hs) : hdsOf bs c = [hdC c] ∧ leC bs a y c = if decide (ans a (hdC c) = y) = true then [c] else [] := by
  cases c with
  | letter l => exact absurd rfl (nl l)
  | cut l hs => exact absurd rfl (nc l hs)
  | _ => exact ⟨rfl, rfl⟩
/-- by the heads that are left -/
theorem leC_nil {bs : List (Str × List Ch)} {a : Ask} {y : Bool} {c : Ch} (h : lefts a y (hdsOf bs c) = []) : leC bs a y c = [] := by
  by_cases hl : ∃ l, c = .letter l
  · obtain ⟨l, rfl⟩ := hl
    exact if_pos h
  by_cases hcu : ∃ l hs, c = .cut l hs
  · obtain ⟨l, hs, rfl⟩ := hcu
    exact if_pos h
  obtain ⟨e1, e2⟩ := oth (bs := bs) (a := a) (y := y) (fun l e => hl ⟨l, e⟩) fun l hs e => hcu ⟨l, hs, e⟩
  rw [e1, lefts_one] at h
  rw [e2]
  split at h
  · cases h
  · rename_i e; rw [if_neg e]
theorem leC_flat {bs : List (Str × List Ch)} {a : Ask} {y : Bool} {c : Ch} (h : lefts a y (hdsOf bs c) ≠ []) (nl : ∀ l, c ≠ .letter l) (nc : ∀ l hs, c ≠ .cut l hs) : leC bs a y c = [c] := by
  obtain ⟨e1, e2⟩ := oth (bs := bs) (a := a) (y := y) nl nc
  rw [e1, lefts_one] at h
  rw [e2]
  split at h
  · rename_i e; rw [if_pos e]
  · exact absurd rfl h
theorem leC_let {bs : List (Str × List Ch)} {a : Ask} {y : Bool} {c : Ch} {l : Str} (hc : c = .letter l ∨ ∃ hs, c = .cut l hs) (h : lefts a y (hdsOf bs c) ≠ []) : leC bs a y c = if lefts a y (hdsOf bs c) = hsB (look bs l) then [.letter l] else [.cut l (lefts a y (hdsOf bs c))] := by
  rcases hc with rfl | ⟨hs, rfl⟩
  · show (if lefts a y (hsB (look bs l)) = [] then _ else _) = _
    rw [if_neg (show ¬ lefts a y (hsB (look bs l)) = [] from h)]
    rfl
  · show (if lefts a y hs = [] then _ else _) = _
    rw [if_neg (show ¬ lefts a y hs = [] from h)]
    rfl
theorem cut_one {ws : List V} (h : ws ≠ []) : cutV ws (some 1) none = ws.drop 1 := by
  unfold cutV
  have e : HT.sIx ws.length 0 (some 1) = min 1 ws.length := HT.sIx_nat ws.length 0 1
  rw [e, HT.sIx_none]
  have : 0 < ws.length := List.length_pos_iff.mpr h
  have e1 : min 1 ws.length = 1 := by omega
  rw [e1]
  exact List.take_of_length_le (by rw [List.length_drop]; exact Nat.le_refl _)
theorem eqV_bl (x y : Bool) : decide (V.bl x = V.bl y) = decide (x = y) := by cases x <;> cases y <;> rfl
def spAns (K : PySem.W.Frag) : Sp := fun vs H Q _ => ∃ (h : Str) (v : V) (a : Ask), vs = [.str h, v] ∧ GHd h ∧ Dt K H v (pyA a) ∧ okAsk a ∧ ∀ (H' : Hp), Same H H' → Q (.bl (ans a h)) H'
def spHB (K : PySem.W.Frag) : Sp := fun vs H Q _ => ∃ (v : V) (k : List Ch), vs = [v] ∧ IsK K H v k ∧ (∀ c ∈ k, hdOk c) ∧ k.length ≤ 60 ∧ ∀ (p : Addr) (H' : Hp), Same H H' → H' p = some (.lst ((hsB k).map V.str)) → Q (.ref p) H'
def spHC (K : PySem.W.Frag) : Sp := fun vs H Q _ => ∃ (v : V) (b : Addr) (c : Ch) (bs : List (Str × List Ch)), vs = [v, .ref b] ∧ IsC K H v c ∧ IsB K H b bs ∧ okB bs ∧ HdsOk bs c ∧
  ∀ (p : Addr) (H' : Hp), Same H H' → H' p = some (.lst ((hdsOf bs c).map V.str)) → Q (.ref p) H'
def spLeft (K : PySem.W.Frag) : Sp := fun vs H Q _ => ∃ (v : V) (b : Addr) (c : Ch) (bs : List (Str × List Ch)) (av : V) (a : Ask) (y : Bool), vs = [v, .ref b, av, .bl y] ∧ IsC K H v c ∧ IsB K H b bs ∧ okB bs ∧ HdsOk bs c ∧ Dt K H av (pyA a) ∧ okAsk a ∧
  ∀ (v' : V) (H' : Hp), Same H H' → IsK K H' v' (leC bs a y c) → Q v' H'
def narK (bs : List (Str × List Ch)) (a : Ask) (y : Bool) (k : List Ch) : List Ch := jn ((k.map (leC bs a y)).flatten)
def spNSide (K : PySem.W.Frag) : Sp := fun vs H Q _ => ∃ (v : V) (b : Addr) (k : List Ch) (bs : List (Str × List Ch)) (av : V) (a : Ask) (y : Bool), vs = [v, .ref b, av, .bl y] ∧ IsK K H v k ∧ IsB K H b bs ∧ okB bs ∧ okA bs 2 k ∧ Dt K H av (pyA a) ∧ okAsk a ∧
  ∀ (v' : V) (H' : Hp), Same H H' → IsK K H' v' (narK bs a y k) → Q v' H'
def spNar (K : PySem.W.Frag) : Sp := fun vs H Q _ => ∃ (v : V) (b : Addr) (k : List Ch) (bs : List (Str × List Ch)) (av : V) (a : Ask), vs = [v, .ref b, av] ∧ IsK K H v k ∧ IsB K H b bs ∧ okB bs ∧ okA bs 2 k ∧ Dt K H av (pyA a) ∧ okAsk a ∧
  ∀ (v' : V) (H' : Hp), Same H H' → Dt K H' v' (.tuple [.tuple (pyL (narK bs a true k)), .tuple (pyL (narK bs a false k))]) → Q v' H'
/-- the heads of such a choice -/
theorem HdsOk.all {bs : List (Str × List Ch)} (ok : okB bs) (nd : (bs.map (·.1)).Nodup) {c : Ch} (h : HdsOk bs c) : (∀ x ∈ hdsOf bs c, GHd x) ∧ (hdsOf bs c).length ≤ 3 := by
  have g : ∀ l k', (l, k') ∈ bs → ∀ x ∈ k'.map hdC, GHd x := fun l k' m x hx => by
    obtain ⟨c, hc, rfl⟩ := List.mem_map.mp hx
    exact ⟨c, hdOk_of (ok.nil m c hc), rfl⟩
  by_cases hl : ∃ l, c = .letter l
  · obtain ⟨l, rfl⟩ := hl
    obtain ⟨k', m⟩ := h.le l rfl
    obtain ⟨_, g3, gy⟩ := hsB_look ok nd m
    exact ⟨fun x hx => g l k' m x (gy x hx), g3⟩
  by_cases hcu : ∃ l hs, c = .cut l hs
  · obtain ⟨l, hs, rfl⟩ := hcu
    obtain ⟨k', m, _, g3, gy⟩ := h.cu l hs rfl
    exact ⟨fun x hx => g l k' m x (gy x hx), g3⟩
  have o := h.ot (fun l e => hl ⟨l, e⟩) fun l hs e => hcu ⟨l, hs, e⟩
  have e : hdsOf bs c = [hdC c] := by
    unfold hdsOf
    split
    · exact absurd ⟨_, rfl⟩ hl
    · exact absurd ⟨_, _, rfl⟩ hcu
    · rfl
  rw [e]
  exact ⟨fun x hx => ⟨c, o, List.mem_singleton.mp hx⟩, by show 1 ≤ 3; decide⟩
end Sc
namespace Sc
open PySem PySem.Spec PyProof.Rows L2
theorem ten {n : Nat} (h : n < 5) : n = 0 ∨ n = 1 ∨ n = 2 ∨ n = 3 ∨ n = 4 := by omega
theorem one_ans (x z : Str) (hx : x ≠ "shape") : decide (([x] : List Str).head? = some z) = (decide (x = z) || (decide (z = "shape") && decide (([x] : List Str) ≠ [] ∧ ([x] : List Str).head? = some ("shape" : Str)))) := by
  have e1 : decide (([x] : List Str) ≠ [] ∧ ([x] : List Str).head? = some ("shape" : Str)) = false := decide_eq_false fun h => hx (Option.some.inj h.2)
  have e2 : decide (([x] : List Str).head? = some z) = decide (x = z) := decide_eq_decide.mpr ⟨fun h => Option.some.inj h, fun h => congrArg some h⟩
  rw [e1, e2, Bool.and_false, Bool.or_false]
/-- the law's own answers -/
theorem is_ans {c : Ch} (h : hdOk c) {z : Str} (hz : okAsk (.is z)) : ans (.is z) (hdC c) = (decide (hdC c = z) || (decide (z = "shape") && Txt.startswith (hdC c) "shape ")) := by
  have e0 : ans (.is z) (hdC c) = decide ((hdWs c).head? = some z) := by
    show decide ((Txt.split (hdC c) " ").head? = some z) = _
    rw [(hd_split h).1]
  rw [e0, sw_hd h]
  have five : z = "number" ∨ z = "text" ∨ z = "row" ∨ z = "book" ∨ z = "shape" := by
    have hz' : z ∈ (["number", "text", "row", "book", "shape"] : List Str) := hz
    simpa only [List.mem_cons, List.not_mem_nil, or_false] using hz'
  cases c with
  | num => exact one_ans "number" z (by decide +kernel)
  | txt => exact one_ans "text" z (by decide +kernel)
  | row _ => exact one_ans "row" z (by decide +kernel)
  | book _ => exact one_ans "book" z (by decide +kernel)
  | shape fs =>
    have fld : Fld (fs.map (·.1)) := h
    have ne : hdC (.shape fs) ≠ z := fun e => by
      have m : 32 ∈ TL.tl (hdC (.shape fs)) := by
        rw [show hdC (.shape fs) = ("shape " : Str) ++ Txt.join " " (fs.map (·.1)) from head_text fld.1, TL.tl_append]
        exact List.mem_append.mpr (.inl (by decide))
      rw [e] at m
      rcases five with rfl | rfl | rfl | rfl | rfl <;> exact absurd m (by decide)
    rw [decide_eq_false ne, Bool.false_or]
    have e1 : decide ((hdWs (.shape fs)).head? = some z) = decide (z = "shape") := decide_eq_decide.mpr ⟨fun h => (Option.some.inj h).symm, fun h => by rw [h]; rfl⟩
    have e2 : decide (hdWs (.shape fs) ≠ [] ∧ (hdWs (.shape fs)).head? = some ("shape" : Str)) = true := decide_eq_true ⟨by simp [hdWs], rfl⟩
    rw [e1, e2, Bool.and_true]
  | letter _ => exact h.elim
  | cut _ _ => exact h.elim
  | any _ => exact h.elim
  | wth _ => exact h.elim
theorem has_ans {c : Ch} (h : hdOk c) (z : Str) : ans (.has z) (hdC c) = (Txt.startswith (hdC c) "shape " && decide (z ∈ (hdWs c).drop 1)) := by
  have e0 : ans (.has z) (hdC c) = decide (z ∈ (hdWs c).drop 1) := by
    show decide (z ∈ (Txt.split (hdC c) " ").drop 1) = _
    rw [(hd_split h).1]
  rw [e0, sw_hd h]
  cases c with
  | shape fs =>
    have e2 : decide (hdWs (.shape fs) ≠ [] ∧ (hdWs (.shape fs)).head? = some ("shape" : Str)) = true := decide_eq_true ⟨by simp [hdWs], rfl⟩
    rw [e2, Bool.true_and]
  | letter _ => exact h.elim
  | cut _ _ => exact h.elim
  | any _ => exact h.elim
  | wth _ => exact h.elim
  | _ =>
    have e : decide (z ∈ ([] : List Str)) = false := decide_eq_false (by simp)
    show decide (z ∈ ([] : List Str)) = (_ && decide (z ∈ ([] : List Str)))
    rw [e, Bool.and_false]
/-- a side of a kind, in the kind's order -/
def sideK (bs : List (Str × List Ch)) (a : Ask) (y : Bool) (k : List Ch) : List Ch := (k.map (leC bs a y)).flatten
def spSide (K : PySem.W.Frag) (S : Hp → Addr → List V → Prop) : Sp := fun vs H Q _ => ∃ (l : Addr) (us : List V) (b : Addr) (k : List Ch) (bs : List (Str × List Ch)) (av : V) (a : Ask) (y : Bool), vs = [.ref l, .ref b, av, .bl y] ∧ S H l us ∧ Dts K H us (pyL k) ∧ IsB K H b bs ∧ okB bs ∧ okA bs 2 k ∧ Dt K H av (pyA a) ∧ okAsk a ∧
  ∀ (v' : V) (H' : Hp), Same H H' → IsK K H' v' (sideK bs a y k) → Q v' H'
def spAsk (K : PySem.W.Frag) : Sp := fun vs H Q _ => ∃ (s : Addr) (i : Inf), vs = [.ref s] ∧ IsS K H s i ∧ ∀ (v : V) (H' : Hp) (a : Ask), Ext s H H' → IsS K H' s i → Dt K H' v (pyA a) → okAsk a → Q v H'
theorem side_next {bs : List (Str × List Ch)} {a : Ask} {y : Bool} {k : List Ch} {j : Nat} {c : Ch} (h : k[j]? = some c) : sideK bs a y (k.take (j + 1)) = sideK bs a y (k.take j) ++ leC bs a y c := by
  unfold sideK
  rw [List.take_add_one, h, List.map_append, List.flatten_append]
  show _ ++ (leC bs a y c ++ []) = _
  rw [List.append_nil]
theorem side_len (bs : List (Str × List Ch)) (a : Ask) (y : Bool) (k : List Ch) : (sideK bs a y k).length ≤ k.length := by
  have := flat_len (m := 1) (ks := k.map (leC bs a y)) fun x hx => by
    obtain ⟨c, _, rfl⟩ := List.mem_map.mp hx
    exact leC_one bs a y c
  rw [List.length_map, Nat.one_mul] at this
  exact this
end Sc
namespace Sc
open PySem PySem.Spec PyProof.Rows L2
/-! ### a generator over a text's signs whose element may read the module's names -/
/-- the module's names and the builtins, as the base has them -/
structure Grd (mg : Str → Option Value) (h : Heap) : Prop where
  own : h.Ns mainGlobals mg
  blt : ∃ mb, h.Ns builtinsNs mb ∧ ∀ x : Str, x ≠ "__name__" → mb x = bootBuiltins x
theorem Grd.but {mg : Str → Option Value} {h h' : Heap} {a : Addr} (G : Grd mg h) (k : ∀ b o, b ≠ a → h.get? b = some o → h'.get? b = some o) (n1 : mainGlobals ≠ a) (n2 : builtinsNs ≠ a) : Grd mg h' :=
  ⟨G.own.extBut (b := a) (fun b o hb e => k b o hb e) n1, let ⟨mb, u, q⟩ := G.blt; ⟨mb, u.extBut (b := a) (fun b o hb e => k b o hb e) n2, q⟩⟩
theorem ns_off {h : Heap} {a b : Addr} {m : Str → Option Value} {ps : Array Value} (n : h.Ns a m) (e : h.get? b = some { cls := .none, data := .fields ps }) : a ≠ b := by
  rintro rfl
  obtain ⟨u, es, ep, hu, hd, _⟩ := n
  rw [e] at hu
  cases hu
  cases hd
/-- the element: a test of the sign c, which may ask the module's names -/
def EltM (prog : Program) (w : World) (mg : Str → Option Value) (scope : Scope) (x : Str) (elt : Expr) (pb : Nat → Bool) : Prop :=
  ∀ (ce : Env) (Ar : Around) (Er : Value → Shared → Prop) (c : Nat) (t : Tok) (z : Shared) (m : Str → Option Value), (ce.scope = scope ∧ ce.globals = mainGlobals ∧ ce.builtins = builtinsNs) → Grd mg z.heap → (z.heap.Ns ce.locals m ∧ m x = some (.str ⟨#[c]⟩ t)) →
    wpAny (model prog w) Ar (eval elt ce) (fun y z' => y = .bool (pb c) ∧ Keeps z z') Er z
/-- ord(x) == G -/
theorem elt_ord {prog : Program} {w : World} {mg : Str → Option Value} {scope : Scope} {x g : Str} {n : Int} {tn : Tok} {p0 p1 p2 p3 p4 : Pos} (hk : scope.kind = .function) (hl : scope.names.lookup x = some .local) (ho : scope.names.lookup ("ord" : Str) = some .globalImplicit) (hg : scope.names.lookup g = some .globalImplicit)
    (mo : mg "ord" = none) (mn : mg g = some (.int n tn)) (hd : (x == ("__debug__" : Str)) = false := by decide) (hd2 : (g == ("__debug__" : Str)) = false := by decide) :
    EltM prog w mg scope x (.Compare (.Call (.Name "ord" p0) [.Name x p1] [] p2) [.Eq] [.Name g p3] p4) (fun c => ((c : Nat) : Int) == n) := by
  intro ce Ar Er c t z m ⟨hs, hgl, hbl⟩ G ⟨hn, hm⟩
  obtain ⟨mb, hb1, hb2⟩ := G.blt
  have kd : ce.scope.kind = .function := by rw [hs]; exact hk
  have he : starEach [.Name x p1] ce = (false, eval (.Name x p1) ce) :: starEach [] ce := rfl
  refine wpAny_Compare1 (wpAny_Call_Name_kw (Calls.Name_function_global kd (show ce.scope.names.lookup ("ord" : Str) = _ by rw [hs]; exact ho) (Calls.loadGlobal_builtin (by rw [hgl]; exact G.own) mo (by rw [hbl]; exact hb1) ((hb2 "ord" (by decide)).trans boot_ord) ?_)))
  refine PyProof.Rows.callWith_builtin1 ?_ he (by rfl)
  rw [he]
  show wpAny _ _ (spliced ((false, eval (.Name x p1) ce) :: backTo p2 (starEach [] ce))) _ _ z
  refine Calls.spliced_cons (wpAny_Name (wpAny_loadName_local kd (show ce.scope.names.lookup x = some .local by rw [hs]; exact hl) hn hm ?_) hd)
  refine Calls.spliced_nil (PySem.P.ord_of_char ?_)
  refine Calls.Name_function_global kd (show ce.scope.names.lookup g = _ by rw [hs]; exact hg) (Calls.loadGlobal_global (by rw [hgl]; exact G.own) mn ?_) hd2
  exact PySem.P.eq_int ⟨rfl, GxR.keeps_tok _ _⟩
section
variable {X : Cx} {pins : List (Addr × Obj)} {σ : L2.St} {H : Hp} {s : Shared}
theorem gen_code {M : Model} {A : Around} {E : Value → Shared → Prop} {env : Env} {c P : Addr} {ps : Array Value} {gpos : Pos} {q : Str} {scope : Scope} {Qc : Value → Shared → Prop} (hc : env.code = .ref c) (cd : s.heap.IsCode c P ps) (tb : s.heap.TableAt c P ps) (gP : s.heap.get? P = some { cls := .none, data := .fields ps }) (tri : TriplesOk ps.toList)
    (h : ∀ (cv : Value) (h3 : Heap) (tk : Nat) (more : Array Value), Heap.ExtBut P s.heap h3 → s.heap.objs.size ≤ h3.objs.size → h3.get? P = some { cls := .none, data := .fields (ps ++ more) } → TriplesOk (ps ++ more).toList → Qc cv { s with heap := h3, toks := tk }) :
    wpAny M A (genexprCode env gpos q scope) Qc E s := by
  cases hf : codeAmong gpos ps.toList with
  | some cv =>
    have e : ps ++ #[] = ps := by simp
    exact wpAny_genexprCode_hit hc cd hf (h cv s.heap s.toks #[] (Heap.ExtBut.refl _ _) (Nat.le_refl _) (by rw [e]; exact gP) (by rw [e]; exact tri))
  | none =>
    apply wpAny_genexprCodeX hc cd tb hf
    intro c' h3 tk hx hge hlt hco _ htab _
    obtain ⟨_, _, _, _, _, _, _, _, _, _, _, _, _, _, _, _, _, _, _, tr3, _⟩ := hco
    exact h _ h3 tk _ hx (Nat.le_trans hge (Nat.le_of_lt hlt)) htab.2 tr3
theorem gen_strM {c P : Addr} {elt iter : Expr} {x : Str} {px gpos : Pos} {scope : Scope} {pb : Nat → Bool} {te : TE} {k : Nat} {Q' : Value → Shared → Prop} {R : Str → Hp → Prop}
    (hr : Room k X.A) (TB : GxR.TabB X.base X.mg c P) (hcode : X.env.code = .ref c) (S : GxR.GenS X.env scope x) (hi : PE X iter te) (hel : EltM X.prog X.w X.mg scope x elt pb)
    (hs : ∀ v, genFold iter X.env v = pure v) (I : Inv X pins σ H s) (h : te σ H fun v H1 => ∃ a : Str, v = .str a ∧ GxR.TabG H1 P ∧ R a H1)
    (hQ : ∀ a H1 g s5, R a H1 → GxR.Ready X pins σ H1 P a pb g s5 → Q' (.ref g) s5) :
    wpAny (model X.prog X.w) X.A (eval (.GeneratorExp elt [⟨.Name x px, iter, [], 0⟩] scope gpos) X.env) Q' X.xe s := by
  apply wpAny_GeneratorExp_walksQ hr.hd S.co (closure_ok S.free) S.cell S.dot S.loc S.kind (Nat.lt_of_lt_of_le (Nat.lt_succ_self _) (by have := hr.dp; omega)) (hs := hs)
  apply thn (hi.run pins s σ H _ I h)
  rintro xv z ⟨v, H1, J, rv, a, rfl, ⟨ps, hP, tri⟩, hR⟩
  obtain ⟨u, rfl⟩ := (show ∃ u, xv = Value.str a u from rv)
  apply wpAny_pyIter_str
  intro it St W at0
  have gP : z.heap.get? P = some { cls := .none, data := .fields ps } := J.hok P _ hP
  have Plt := Heap.lt_size gP
  have base' : ∀ b o, X.base.get? b = some o → z.heap.get? b = some o := fun b o e => J.bk b o e
  have G0 : Grd X.mg z.heap := ⟨J.mod.glob.keeps base', let ⟨mb, q1, q2⟩ := J.mod.blt; ⟨mb, q1.keeps base', q2⟩⟩
  have nPb : builtinsNs ≠ P := let ⟨mb, q1, _⟩ := G0.blt; ns_off q1 gP
  have nPs : cStatics ≠ P := let ⟨mc, q1, _⟩ := J.nolimit; ns_off q1 gP
  have gltS : cStatics < z.heap.objs.size := let ⟨mc, q1, _⟩ := J.nolimit; q1.lt
  have gltG : mainGlobals < z.heap.objs.size := G0.own.lt
  have gltB : builtinsNs < z.heap.objs.size := let ⟨mb, q1, _⟩ := G0.blt; q1.lt
  have up : ∀ b o, z.heap.get? b = some o → (z.heap.push it).get? b = some o := fun b o e => Heap.get?_push_of_some _ e
  have codeP : PySem.W.CodeHd (z.heap.push it) c P := TB.code.keeps fun b o e => up b o (base' b o e)
  refine ⟨J.nolimit.push it, ?_⟩
  have gP' := up P _ gP
  refine gen_code hcode (codeP.code gP' tri) (codeP.tab gP') (show (z.heap.push it).get? P = _ from gP') tri fun cv h3 tk more hx hsz0 hP3 tr3 => ?_
  have hsz : z.heap.objs.size + 1 ≤ h3.objs.size := by
    have e := Heap.size_push z.heap it
    rw [← e]
    exact hsz0
  have k3 : ∀ b o, b ≠ P → z.heap.get? b = some o → h3.get? b = some o := fun b o hb e => hx b o hb (up b o e)
  have G3 : Grd X.mg h3 := G0.but k3 TB.gP nPb
  obtain ⟨bm, ob, e1, e2, e3, e4, e5, e6, e7, e8⟩ := TB.bm
  apply wpAny_builtinsFor (m := X.mg) (by rw [J.ok.glob]; exact G3.own) e1 e2 (k3 _ _ e4 (base' _ _ e5)) e6 e7 e8
  have inFp : ∀ b ∈ [z.heap.objs.size], b < h3.objs.size := fun b hb => by rw [List.mem_singleton.mp hb]; exact hsz
  refine ⟨z.heap.objs.size, [z.heap.objs.size], [z.heap.objs.size], a.cps.size, SignAt a, St, (fun _ => true), (fun i y => ∃ cc, a.cps[i]? = some cc ∧ y = .bool (pb cc)), rfl, W, ?_, inFp, (J.nolimit.push it).extBut hx nPs, ?_, ?_, ?_⟩
  · exact (W X.A hr.hd).frame _ _ _ at0 fun b hb o e => hx b o (fun q => absurd Plt (by rw [← q, List.mem_singleton.mp hb]; exact Nat.lt_irrefl _)) e
  · exact fun q => absurd gltS (by rw [List.mem_singleton.mp q]; exact Nat.lt_irrefl _)
  · intro href hh
    constructor
    · intro _ _ _ _ _ _ _ _ _ _ _
      simp only [List.forIn_nil]
      exact wpAny_pure ⟨rfl, GxR.keeps_refl _⟩
    · intro Ar Er i v z2 m2 _ hPv _ hn hm hk
      obtain ⟨cc, u, hcc, rfl⟩ := hPv
      have G2 : Grd X.mg z2.heap := G3.but (a := z.heap.objs.size) (fun b o hb e => hk b (List.mem_range.mpr (Heap.lt_size e)) (fun q => hb (List.mem_singleton.mp q)) o (hh b o e)) (Nat.ne_of_lt gltG) (Nat.ne_of_lt gltB)
      exact wpAny_mono (hel _ Ar Er cc u z2 m2 ⟨rfl, J.ok.glob, rfl⟩ G2 ⟨hn, hm⟩) (fun y z3 q => ⟨⟨cc, hcc, q.1⟩, q.2⟩) fun _ _ e => e
  · intro g h5 tk5 gs hgb hag hsz5 hk5 W5 hat
    simp only [GxR.passing_true, List.length_range] at W5
    refine hQ a H1 g _ hR ⟨_, _, _, _, _, W5.in4_1, hat, ?_, ?_⟩
    · rintro j y sj Qj Ej ⟨i, hij, cc, hcc, rfl⟩ hQj
      obtain ⟨hj, ej⟩ := List.getElem?_eq_some_iff.mp hij
      rw [List.getElem_range] at ej
      subst ej
      have tr0 : GxR.trF pb a.cps.toList j = pb cc := GxR.trF_some (by rw [Array.getElem?_toList]; exact hcc)
      exact wpAny_truthy_bool (by rw [← tr0]; exact hQj)
    · intro z' mv
      have off : ∀ b o, z.heap.get? b = some o → b ∉ h3.objs.size :: [z.heap.objs.size] := fun b o e q => by
        have lt := Heap.lt_size e
        rcases List.mem_cons.mp q with q | q
        · rw [q] at lt
          exact absurd (Nat.lt_of_lt_of_le lt (Nat.le_of_succ_le hsz)) (Nat.lt_irrefl _)
        · rw [List.mem_singleton.mp q] at lt
          exact Nat.lt_irrefl _ lt
      have J2 := GxR.inv_tab (more := more) (h' := z'.heap) (g' := z'.gens) (d' := z'.drawn) (t' := z'.toks) J hP (fun b o hb e => mv.heap b o (off b o e) (hk5 b o (k3 b o hb e))) (mv.heap P _ (off P _ gP) (hk5 P _ hP3)) (AllBare.movedS (J.bare.push hgb) mv)
      rw [GxR.sh_eta z z' mv.os] at J2
      exact ⟨_, ⟨⟨_, upd_same, tr3⟩, fun b hb => upd_ne hb⟩, J2⟩
/-- any(ord(x) == G for x in e) and its like -/
theorem pe_anyM {c P : Addr} {elt iter : Expr} {x : Str} {px p pos gpos : Pos} {scope : Scope} {pb : Nat → Bool} {te : TE} {k : Nat}
    (hr : Room k X.A) (hg : Gl X "any") (hm : X.mg "any" = none) (TB : GxR.TabB X.base X.mg c P) (hcode : X.env.code = .ref c) (S : GxR.GenS X.env scope x) (hi : PE X iter te) (hel : EltM X.prog X.w X.mg scope x elt pb)
    (hs : ∀ v, genFold iter X.env v = pure v)
    (he : starEach [.GeneratorExp elt [⟨.Name x px, iter, [], 0⟩] scope gpos] X.env = (false, eval (.GeneratorExp elt [⟨.Name x px, iter, [], 0⟩] scope gpos) X.env) :: starEach [] X.env := by rfl) :
    PE X (.Call (.Name "any" p) [.GeneratorExp elt [⟨.Name x px, iter, [], 0⟩] scope gpos] [] pos) (GxR.tAnyS P pb te) := by
  constructor
  intro pins s σ H Q I h
  refine wpAny_Call_Name_kw (ld_blt I hg hm boot_any (PyProof.Rows.callWith_builtin1 ?_ he (by rfl)))
  rw [he]
  show wpAny _ _ (spliced ((false, eval (.GeneratorExp elt [⟨.Name x px, iter, [], 0⟩] scope gpos) X.env) :: backTo pos (starEach [] X.env))) _ _ s
  apply Calls.spliced_cons
  refine gen_strM (R := fun a H1 => ∀ H2, GxR.Tabbed P H1 H2 → Q (.bl (a.cps.toList.any pb)) H2) hr TB hcode S hi hel hs I h ?_
  rintro a H1 g s5 hR ⟨fp, wr, G, F, St, W, hst, htr, hI⟩
  refine Calls.spliced_nil (call_any_walkS (W.self 0 _ _ _ hst ⟨g, fp, wr, G, _, F, St, _, rfl, W, hst, htr, ?_⟩))
  intro s' hmv
  obtain ⟨H2, hT, J⟩ := hI s' hmv
  refine ⟨.bl _, H2, J, rfl, ?_⟩
  rw [GxR.any_signs a pb]
  exact hR H2 hT
end
end Sc
namespace Sc
open PySem PySem.Spec PyProof.Rows L2
/-! ### any, all of what is walked by steps that may change the heap and the generators -/
/-- the walked thing I, by steps: J i behind i of n things, whose tests are tr; Fi behind the end -/
structure StepsJ (prog : Program) (w : World) (A : Around) (I : Addr) (n : Nat) (tr : Nat → Bool) (J : Nat → Shared → Prop) (Fi : Shared → Prop) : Prop where
  one : ∀ i s (E : Value → Shared → Prop), i < n → J i s → wpAny (model prog w) A (pyNext (.ref I)) (fun r s' => ∃ v, r = some v ∧ J (i + 1) s' ∧ ∀ (Q : Bool → Shared → Prop) (E' : Value → Shared → Prop), Q (tr i) s' → wpAny (model prog w) A (truthy v) Q E' s') E s
  out : ∀ s (E : Value → Shared → Prop), J n s → wpAny (model prog w) A (pyNext (.ref I)) (fun r s' => r = none ∧ Fi s') E s
  self : ∀ i s (Q : Value → Shared → Prop) (E : Value → Shared → Prop), J i s → Q (.ref I) s → wpAny (model prog w) A (pyIter (.ref I)) Q E s
section
variable {prog : Program} {w : World} {A : Around} {I : Addr} {n : Nat} {tr : Nat → Bool} {J : Nat → Shared → Prop} {Fi : Shared → Prop} {R : Result → Shared → Prop}
theorem any_steps (W : StepsJ prog w A.in1 I n tr J Fi) : ∀ (k i : Nat) (s : Shared), i + k = n → J i s → (∀ j, i ≤ j → j < n → (∀ l, i ≤ l → l < j → tr l = false) → tr j = true → ∀ s', J (j + 1) s' → R (.ok (.ret (.bool true))) s') →
    ((∀ l, i ≤ l → l < n → tr l = false) → ∀ s', Fi s' → R (.ok (.ret (.bool false))) s') → codeAny (model prog w) A (.builtin "any.loop" ⟨[.ref I], []⟩) R s
  | 0, i, s, hk, hJ, _, hF => by
    obtain rfl : i = n := hk
    refine codeAny_builtin F.entry_any_loop ?_
    rw [Around.under_plainId F.plain_any_loop _]
    show wpAny _ A.in1 (pyNext (.ref I) >>= _) _ _ s
    refine wpAny_bind (wpAny_mono (W.out s _ hJ) (fun r s' ⟨er, f⟩ => ?_) fun _ _ e => e)
    subst er
    exact wpAny_bind (wpAny_rule (wpAny_pure (hF (fun l h1 h2 => absurd h2 (Nat.not_lt.mpr h1)) s' f)))
  | k + 1, i, s, hk, hJ, hT, hF => by
    have lt : i < n := by omega
    refine codeAny_builtin F.entry_any_loop ?_
    rw [Around.under_plainId F.plain_any_loop _]
    show wpAny _ A.in1 (pyNext (.ref I) >>= _) _ _ s
    refine wpAny_bind (wpAny_mono (W.one i s _ lt hJ) (fun r s' ⟨v, er, J', tv⟩ => ?_) fun _ _ e => e)
    subst er
    refine wpAny_bind (wpAny_holding (tv _ _ (wpAny_bind (wpAny_letGo ?_))))
    cases b : tr i with
    | true =>
      simp only [if_true]
      exact wpAny_bind (wpAny_rule (wpAny_pure (hT i (Nat.le_refl _) lt (fun l h1 h2 => absurd h2 (Nat.not_lt.mpr h1)) b s' J')))
    | false =>
      simp only [Bool.false_eq_true, if_false]
      refine wpAny_pure ⟨plainId_quiet F.plain_any_loop _, any_steps W k (i + 1) s' (by omega) J' (fun j h1 h2 h3 => hT j (by omega) h2 fun l g1 g2 => ?_) fun h => hF fun l g1 g2 => ?_⟩
      · by_cases z : l = i
        · rw [z]; exact b
        · exact h3 l (by omega) g2
      · by_cases z : l = i
        · rw [z]; exact b
        · exact h l (by omega) g2
theorem all_steps (W : StepsJ prog w A.in1 I n tr J Fi) : ∀ (k i : Nat) (s : Shared), i + k = n → J i s → (∀ j, i ≤ j → j < n → (∀ l, i ≤ l → l < j → tr l = true) → tr j = false → ∀ s', J (j + 1) s' → R (.ok (.ret (.bool false))) s') →
    ((∀ l, i ≤ l → l < n → tr l = true) → ∀ s', Fi s' → R (.ok (.ret (.bool true))) s') → codeAny (model prog w) A (.builtin "all.loop" ⟨[.ref I], []⟩) R s
  | 0, i, s, hk, hJ, _, hF => by
    obtain rfl : i = n := hk
    refine codeAny_builtin F.entry_all_loop ?_
    rw [Around.under_plainId F.plain_all_loop _]
    show wpAny _ A.in1 (pyNext (.ref I) >>= _) _ _ s
    refine wpAny_bind (wpAny_mono (W.out s _ hJ) (fun r s' ⟨er, f⟩ => ?_) fun _ _ e => e)
    subst er
    exact wpAny_bind (wpAny_rule (wpAny_pure (hF (fun l h1 h2 => absurd h2 (Nat.not_lt.mpr h1)) s' f)))
  | k + 1, i, s, hk, hJ, hT, hF => by
    have lt : i < n := by omega
    refine codeAny_builtin F.entry_all_loop ?_
    rw [Around.under_plainId F.plain_all_loop _]
    show wpAny _ A.in1 (pyNext (.ref I) >>= _) _ _ s
    refine wpAny_bind (wpAny_mono (W.one i s _ lt hJ) (fun r s' ⟨v, er, J', tv⟩ => ?_) fun _ _ e => e)
    subst er
    refine wpAny_bind (wpAny_holding (tv _ _ (wpAny_bind (wpAny_letGo ?_))))
    cases b : tr i with
    | false =>
      simp only [Bool.false_eq_true, if_false]
      exact wpAny_bind (wpAny_rule (wpAny_pure (hT i (Nat.le_refl _) lt (fun l h1 h2 => absurd h2 (Nat.not_lt.mpr h1)) b s' J')))
    | true =>
      simp only [if_true]
      refine wpAny_pure ⟨plainId_quiet F.plain_all_loop _, all_steps W k (i + 1) s' (by omega) J' (fun j h1 h2 h3 => hT j (by omega) h2 fun l g1 g2 => ?_) fun h => hF fun l g1 g2 => ?_⟩
      · by_cases z : l = i
        · rw [z]; exact b
        · exact h3 l (by omega) g2
      · by_cases z : l = i
        · rw [z]; exact b
        · exact h l (by omega) g2
theorem any_false {n : Nat} {tr : Nat → Bool} (h : ∀ l, 0 ≤ l → l < n → tr l = false) : (List.range n).any tr = false := List.any_eq_false.mpr fun l m => by rw [h l (Nat.zero_le _) (List.mem_range.mp m)]; exact Bool.false_ne_true
theorem all_true {n : Nat} {tr : Nat → Bool} (h : ∀ l, 0 ≤ l → l < n → tr l = true) : (List.range n).all tr = true := List.all_eq_true.mpr fun l m => h l (Nat.zero_le _) (List.mem_range.mp m)
/-- any(x), all(x): x walked by steps; it may end before the end -/
theorem call_any_steps {x : Value} {E : Value → Shared → Prop} {s : Shared} {Q : Value → Shared → Prop}
    (h : wpAny (model prog w) A.in1 (pyIter x) (fun it s₂ => ∃ I n tr J Fi, it = .ref I ∧ StepsJ prog w A.in1 I n tr J Fi ∧ J 0 s₂ ∧ (∀ j, j < n → tr j = true → ∀ s', J (j + 1) s' → Q (.bool true) s') ∧ ((∀ l, l < n → tr l = false) → ∀ s', Fi s' → Q (.bool false) s')) E s) :
    wpAny (model prog w) A (call (.builtin "any") [x]) Q E s := by
  refine call_function_tree F.kind_any F.plain_any F.entry_any (F.args_any1 _) ?_
  unfold Builtin.«any»
  refine wpAny_bind (m := oneArg "any" _) (wpAny_pure (wpAny_bind (wpAny_mono h (fun it s₂ h₂ => ?_) fun _ _ e => e)))
  obtain ⟨I, n, tr, J, Fi, rfl, W, h0, hT, hF⟩ := h₂
  exact wpAny_pure ⟨plainId_quiet F.plain_any_loop _, any_steps W n 0 s₂ (Nat.zero_add _) h0 (fun j _ lt _ e s' k => hT j lt e s' k) fun e s' f => hF (fun l lt => e l (Nat.zero_le _) lt) s' f⟩
theorem call_all_steps {x : Value} {E : Value → Shared → Prop} {s : Shared} {Q : Value → Shared → Prop}
    (h : wpAny (model prog w) A.in1 (pyIter x) (fun it s₂ => ∃ I n tr J Fi, it = .ref I ∧ StepsJ prog w A.in1 I n tr J Fi ∧ J 0 s₂ ∧ (∀ j, j < n → tr j = false → ∀ s', J (j + 1) s' → Q (.bool false) s') ∧ ((∀ l, l < n → tr l = true) → ∀ s', Fi s' → Q (.bool true) s')) E s) :
    wpAny (model prog w) A (call (.builtin "all") [x]) Q E s := by
  refine call_function_tree F.kind_all F.plain_all F.entry_all (F.args_all1 _) ?_
  unfold Builtin.«all»
  refine wpAny_bind (m := oneArg "all" _) (wpAny_pure (wpAny_bind (wpAny_mono h (fun it s₂ h₂ => ?_) fun _ _ e => e)))
  obtain ⟨I, n, tr, J, Fi, rfl, W, h0, hT, hF⟩ := h₂
  exact wpAny_pure ⟨plainId_quiet F.plain_all_loop _, all_steps W n 0 s₂ (Nat.zero_add _) h0 (fun j _ lt _ e s' k => hT j lt e s' k) fun e s' f => hF (fun l lt => e l (Nat.zero_le _) lt) s' f⟩
end
end Sc
namespace Sc
open PySem PySem.Spec PyProof.Rows L2
/-! ### a generator expression, stepped: its elements may change the heap and the generators -/
section
variable {prog : Program} {w : World} {A : Around} {a : Addr} {g n : Nat} {tr : Nat → Bool} {Out : Nat → Shared → Prop} {Fin1 : Shared → Prop}
/-- what holds when the generator hands a thing out: m are still to come -/
def YJ (a : Addr) (n : Nat) (tr : Nat → Bool) (Out : Nat → Shared → Prop) : Protocol := fun m _ v s kap =>
  (∃ i, i + 1 + m = n ∧ v = .bool (tr i) ∧ Out (i + 1) s) ∧ (s.heap.IsGen a g ∧ s.heap.NoLimit) ∧ ∀ gs : GenState, gs.bare = true → kap (.send .none) ((s.setGen g gs).setGen g .running)
/-- how it ends -/
def PJ (Fin1 : Shared → Prop) : Nat → Shared → Shared → Prop := fun k _ s => k = 0 ∧ Fin1 s
/-- i of n are handed out -/
def GJ (prog : Program) (w : World) (A : Around) (a : Addr) (g n : Nat) (tr : Nat → Bool) (Out : Nat → Shared → Prop) (Fin1 : Shared → Prop) (i : Nat) (s : Shared) : Prop :=
  (s.heap.IsGen a g ∧ s.heap.NoLimit) ∧ (∃ gs, s.gens[g]? = some gs ∧ gs.Goes (model prog w) A.in1 (fun k s₀ r s₁ => r = .ok .next ∧ PJ Fin1 k s₀ s₁) (YJ (g := g) a n tr Out) (n - i) (.send .none) (s.setGen g .running)) ∧ Out i s
theorem steps_gen (hh : A.handled = none) (hroom : A.depth < recursionLimit) (stay : ∀ i s gs, Out i s → gs.bare = true → Out i (s.setGen g gs)) :
    StepsJ prog w A a n tr (GJ prog w A a g n tr Out Fin1) (fun s => ∃ s1 h', Fin1 s1 ∧ (∀ b o, s1.heap.get? b = some o → h'.get? b = some o) ∧ s = { s1.setGen g .finished with heap := h' }) where
  one := fun i s E lt ⟨⟨hg, hl⟩, ⟨gs, hgs, hgo⟩, _⟩ => by
    obtain ⟨m, hm⟩ : ∃ m, n - i = m + 1 := ⟨n - i - 1, by omega⟩
    rw [hm] at hgo
    refine GenW.wpAny_gsz (n := g + 1) (Array.getElem?_eq_some_iff.mp hgs).1 (wpAny_pyNext_genexpQ (P := PJ Fin1) hh hl hroom hg hgs hgo (fun v s₁ gs' hb hv => ?_) fun s₁ hp h' hk => absurd hp.1 (Nat.succ_ne_zero m))
    obtain ⟨⟨i', ei, rfl, ho⟩, ⟨hg1, hl1⟩, hkap⟩ := hv
    obtain rfl : i' = i := by
      have : i' + 1 + (m + 1 - 1) = n := ei
      omega
    intro hsz
    have hsz1 : g < s₁.gens.size := by
      have q : (s₁.setGen g gs').gens.size = s₁.gens.size := GenW.setGen_size _ _ _
      have hsz' : g + 1 ≤ (s₁.setGen g gs').gens.size := hsz
      omega
    refine ⟨_, rfl, ⟨⟨hg1, hl1⟩, ⟨gs', L2.setGen_at hsz1, ?_⟩, stay _ _ _ ho hb⟩, fun Q E' hQ => wpAny_truthy_bool hQ⟩
    have e : n - (i' + 1) = m := by omega
    rw [e]
    exact hkap gs' hb
  out := fun s E ⟨⟨hg, hl⟩, ⟨gs, hgs, hgo⟩, _⟩ => by
    rw [Nat.sub_self] at hgo
    refine wpAny_pyNext_genexpQ (P := PJ Fin1) hh hl hroom hg hgs hgo (fun v s₁ gs' hb hv => ?_) fun s₁ hp h' hk => ⟨rfl, s₁, h', hp.2, hk, rfl⟩
    exact (hv.2.2 gs' hb).elim
  self := fun _ _ _ _ st hQ => wpAny_pyIter_gen st.1.1 hQ
end
end Sc
namespace Sc
open PySem PySem.Spec PyProof.Rows L2
/-! ### the turns of a generator expression's loop -/
section
variable {prog : Program} {w : World} {A : Around} {a I : Addr} {g n : Nat} {tr : Nat → Bool} {Out : Nat → Shared → Prop} {Fin1 : Shared → Prop} {K : Nat → Shared → Prop} {M1 : Nat → Value → Shared → Prop} {M2 : Nat → Shared → Prop}
def loopC (elt iter : Expr) (x : Str) (px : Pos) (scope : Scope) (pos : Pos) (I : Addr) (ce : Env) : Code := .compLoop (.GeneratorExp elt [⟨.Name x px, iter, [], 0⟩] scope pos) 0 (.ref I) .none ce
/-- what each piece of a turn does -/
structure TurnsJ (prog : Program) (w : World) (B : Around) (a I : Addr) (g n : Nat) (tr : Nat → Bool) (Out : Nat → Shared → Prop) (Fin1 : Shared → Prop) (elt : Expr) (x : Str) (px : Pos) (ce : Env) (K : Nat → Shared → Prop) (M1 : Nat → Value → Shared → Prop) (M2 : Nat → Shared → Prop) : Prop where
  next : ∀ i s (E : Value → Shared → Prop), i < n → K i s → wpAny (model prog w) B (pyNext (.ref I)) (fun r s' => ∃ v, r = some v ∧ wpAny (model prog w) B (letOwnedTupleGo (.Name x px) (.ref I) v) (fun _ s2 => M1 i v s2) E s') E s
  done : ∀ s (E : Value → Shared → Prop), K n s → wpAny (model prog w) B (pyNext (.ref I)) (fun r s' => r = none ∧ Fin1 s') E s
  put : ∀ i v s (E : Value → Shared → Prop), i < n → M1 i v s → wpAny (model prog w) B (assign (.Name x px) ce v) (fun _ s' => M2 i s') E s
  elt : ∀ i s (E : Value → Shared → Prop), i < n → M2 i s → wpAny (model prog w) B (eval elt ce) (fun y s' => y = .bool (tr i) ∧ Out (i + 1) s' ∧ (s'.heap.IsGen a g ∧ s'.heap.NoLimit) ∧ ∀ gs : GenState, gs.bare = true → K (i + 1) ((s'.setGen g gs).setGen g .running)) E s
theorem seg_loopJ {elt iter : Expr} {x : Str} {px : Pos} {scope : Scope} {pos : Pos} {ce : Env} (hco : ce.scope.isCoroutine = false)
    (T : TurnsJ prog w (A.over (loopC elt iter x px scope pos I ce) []) a I g n tr Out Fin1 elt x px ce K M1 M2) : ∀ (k i : Nat) (s₀ s : Shared), i + k = n → K i s →
    Seg (model prog w) A (fun k s₀ r s₁ => r = .ok .next ∧ PJ Fin1 k s₀ s₁) (YJ (g := g) a n tr Out) (n - i) s₀ (loopC elt iter x px scope pos I ce) ((model prog w).den (loopC elt iter x px scope pos I ce)) [] s
  | 0, i, s₀, s, hk, hK => by
    obtain rfl : i = n := hk
    rw [Nat.sub_self]
    show Seg _ A _ _ _ s₀ _ ((compTurn (.GeneratorExp elt [⟨.Name x px, iter, [], 0⟩] scope pos) 0 (.ref I) .none ce).onRaise (leaving ce)) [] s
    rw [compTurn_gen, Sem.onRaise_eq_wrap]
    refine seg_bind_wrap (wpAny_standAt (seg_bind_wrap (wpAny_mono (T.done s _ hK) (fun r s' ⟨er, f⟩ => ?_) fun _ _ e => e)))
    subst er
    exact seg_end (.ok .next) ⟨rfl, rfl, f⟩
  | k + 1, i, s₀, s, hk, hK => by
    have lt : i < n := by omega
    have en : n - i = (n - (i + 1)) + 1 := by omega
    rw [en]
    show Seg _ A _ _ _ s₀ _ ((compTurn (.GeneratorExp elt [⟨.Name x px, iter, [], 0⟩] scope pos) 0 (.ref I) .none ce).onRaise (leaving ce)) [] s
    rw [compTurn_gen, Sem.onRaise_eq_wrap]
    refine seg_bind_wrap (wpAny_standAt (seg_bind_wrap (wpAny_mono (T.next i s _ lt hK) (fun r s1 ⟨v, er, h1⟩ => ?_) fun _ _ e => e)))
    subst er
    refine seg_bind_wrap (wpAny_mono h1 (fun _ s1 h1 => ?_) fun _ _ e => e)
    refine seg_bind_wrap (wpAny_mono (T.put i v s1 _ lt h1) (fun _ s2 h2 => ?_) fun _ _ e => e)
    simp only [List.forIn_nil]
    refine seg_bind_wrap (wpAny_pure ?_)
    simp only [if_true]
    have hy : ∀ v, yieldOut ce v = yieldValue v := fun v => by simp only [yieldOut, hco, Bool.false_eq_true, if_false]
    simp only [hy]
    rw [Sem.bind_eq_wrap', Sem.bind_eq_wrap', Sem.wrap_wrap, Sem.wrap_wrap]
    refine seg_wrap (wpAny_mono (T.elt i s2 _ lt h2) (fun y s3 ⟨ey, ho, hg, hK'⟩ => ?_) fun _ _ e => e)
    refine seg_at (seg_yield rfl rfl rfl ⟨⟨i, by omega, ey, ho⟩, hg, fun gs hb => ?_⟩)
    exact seg_again rfl (seg_loopJ hco T k (i + 1) _ _ (by omega) (hK' gs hb))
def startC (elt iter : Expr) (x : Str) (px : Pos) (scope : Scope) (pos : Pos) (I : Addr) (ce : Env) : Code := .compStart (.GeneratorExp elt [⟨.Name x px, iter, [], 0⟩] scope pos) 0 (.ref I) .none ce
theorem seg_startJ {elt iter : Expr} {x : Str} {px : Pos} {scope : Scope} {pos : Pos} {ce : Env} (hco : ce.scope.isCoroutine = false)
    (self : ∀ s (Q : Value → Shared → Prop) (E : Value → Shared → Prop), K 0 s → Q (.ref I) s → wpAny (model prog w) (A.over (startC elt iter x px scope pos I ce) []) (pyIter (.ref I)) Q E s)
    (T : TurnsJ prog w (A.over (loopC elt iter x px scope pos I ce) []) a I g n tr Out Fin1 elt x px ce K M1 M2) (s₀ s : Shared) (hK : K 0 s) :
    Seg (model prog w) A (fun k s₀ r s₁ => r = .ok .next ∧ PJ Fin1 k s₀ s₁) (YJ (g := g) a n tr Out) n s₀ (startC elt iter x px scope pos I ce) ((model prog w).den (startC elt iter x px scope pos I ce)) [] s := by
  have loop := seg_loopJ (iter := iter) (scope := scope) (pos := pos) hco T n 0 s₀ s (Nat.zero_add _) hK
  rw [Nat.sub_zero] at loop
  show Seg _ A _ _ _ s₀ _ ((compStart (.GeneratorExp elt [⟨.Name x px, iter, [], 0⟩] scope pos) 0 (.ref I) .none ce).onRaise (leaving ce)) [] s
  unfold compStart
  rw [Sem.onRaise_eq_wrap]
  show Seg _ A _ _ _ s₀ _ ((ask >>= _).wrap _ _ _ _) [] s
  refine seg_bind_wrap (wpAny_askSetting ?_)
  split
  · exact seg_again rfl loop
  · first
      | exact seg_bind_wrap (wpAny_rule (seg_bind_wrap (wpAny_standAt (seg_bind_wrap (self s _ _ hK (seg_again rfl loop))))))
      | (refine seg_bind_wrap (wpAny_rule ?_)
         show Seg _ A _ _ _ s₀ _ ((standAt iter.pos >>= _).wrap _ _ _ _) [] s
         exact seg_bind_wrap (wpAny_standAt (seg_bind_wrap (self s _ _ hK (seg_again rfl loop)))))
/-- the generator as it is made: nothing is handed out -/
theorem gj_fresh {elt iter : Expr} {x : Str} {px : Pos} {scope : Scope} {pos : Pos} {ce : Env} {s : Shared} (hco : ce.scope.isCoroutine = false)
    (self : ∀ s (Q : Value → Shared → Prop) (E : Value → Shared → Prop), K 0 s → Q (.ref I) s → wpAny (model prog w) (A.in1.over (startC elt iter x px scope pos I ce) []) (pyIter (.ref I)) Q E s)
    (T : TurnsJ prog w (A.in1.over (loopC elt iter x px scope pos I ce) []) a I g n tr Out Fin1 elt x px ce K M1 M2) (hg : s.heap.IsGen a g) (hl : s.heap.NoLimit) (hgs : s.gens[g]? = some (.fresh (startC elt iter x px scope pos I ce))) (hO : Out 0 s) (hK : K 0 (s.setGen g .running)) :
    GJ prog w A a g n tr Out Fin1 0 s := by
  refine ⟨⟨hg, hl⟩, ⟨_, hgs, rfl, ?_⟩, hO⟩
  rw [Nat.sub_zero]
  exact seg_startJ hco self T _ _ hK
end
end Sc
namespace Sc
open PySem PySem.Spec PyProof.Rows L2
/-! ### the context of a generator expression's frame -/
/-- A': its around; s, H: where it was made; ce: its scope's env; fp: its iterator -/
abbrev cxGen (X : Cx) (s : Shared) (H : Hp) (A' : Around) (ce : Env) (fp : List Addr) : Cx :=
  { X with A := A', s_0 := s, H_0 := H, env := ce, outer := X.stack, stack := ce :: X.stack, ex := fp, fn := fun _ => false, pn := [], xe := fun _ _ => False }
section
variable {X : Cx} {pins : List (Addr × Obj)} {σ : L2.St} {H : Hp} {s : Shared}
theorem gen_begin {scope : Scope} {x : Str} {ix : Nat} {fp : List Addr} {A' : Around} {code it : Value} {bi : Addr} {h5 : Heap} {G : Array GenState} {tk : Nat}
    (I : Inv X pins σ H s) (S : GxR.GenS X.env scope x) (hfv : ∀ y, scope.names.lookup y = some .free → X.env.kindOf y = some .cell ∨ X.env.kindOf y = some .free) (hloc : ∀ y, scope.names.lookup y = some .local → y = x ∨ y = ".0")
    (hix : X.N[ix]? = some x) (hN : X.N.Nodup) (h0 : (".0" : Str) ∉ X.N) (hbi : bi = builtinsNs) (hA : A'.handled = none) (hF : A'.frames = some (genEnv scope (cloFrom X.env.cells scope.names []) s.heap.objs.size code bi X.env :: X.stack))
    (hfp : ∀ b ∈ fp, FpOk X pins H b ∧ b < s.heap.objs.size) (hn : h5.Ns s.heap.objs.size (fun y => if y = ".0" then some it else none)) (kp : ∀ b o, s.heap.get? b = some o → h5.get? b = some o) (hG : AllBare G) :
    Inv (cxGen X s H A' (genEnv scope (cloFrom X.env.cells scope.names []) s.heap.objs.size code bi X.env) fp) [] (wipe σ [ix]) H { s with heap := h5, gens := G, toks := tk } := by
  generalize hce : genEnv scope (cloFrom X.env.cells scope.names []) s.heap.objs.size code bi X.env = ce at hF ⊢
  have hL : ce.locals = s.heap.objs.size := by rw [← hce]; rfl
  have hcl : ce.cells = cloFrom X.env.cells scope.names [] := by rw [← hce]; rfl
  have hsc : ce.scope = scope := by rw [← hce]; rfl
  have mem : ∀ {y c}, ce.cells.lookup y = some c → X.env.cells.lookup y = some c ∧ c < s.heap.objs.size := fun {y c} e => by
    rw [hcl] at e
    rcases cloFrom_mem (PySem.mem_of_lookup e) with hm | ⟨h1, rfl⟩
    · cases hm
    · obtain ⟨c, hc⟩ := S.free _ h1 rfl
      have hc : X.env.cells.lookup y = some c := hc
      rw [hc]
      obtain ⟨w, z⟩ := I.cell _ _ hc
      exact ⟨rfl, z.lt⟩
  have look : ∀ {y}, scope.names.lookup y = some .free → ∃ c, ce.cells.lookup y = some c ∧ X.env.cells.lookup y = some c := fun {y} hl => by
    obtain ⟨c', e'⟩ := mem_lookup (cloFrom_has (cells := X.env.cells) (acc := []) (PySem.mem_of_lookup hl))
    rw [← hcl] at e'
    exact ⟨c', e', (mem e').1⟩
  have okB : (cxGen X s H A' ce fp).Ok := by
    refine ⟨I.ok.mod, by show ce.scope.kind = _; rw [hsc]; exact S.kind, by show ce.globals = _; rw [← hce]; exact I.ok.glob, by show ce.builtins = _; rw [← hce]; exact hbi, by show s.heap.objs.size ≤ ce.locals; rw [hL]; exact Nat.le_refl _,
      fun y z c e1 e2 => I.ok.inj y z c (mem e1).1 (mem e2).1, fun y hy => ?_, (fun y c z e => by cases z), fun _ => hA, hF, .inr ⟨rfl, by show ce.frame = some ce.locals; rw [← hce]; rfl⟩, fun b hb => ⟨?_, fun y c e z => (hfp b hb).1.2.2.2.2.1 y c (mem e).1 z⟩, I.bs, Nat.le_trans I.ok.bsz I.sz, fun b o e hb => ?_, fun b hb z => ?_, I.stack, I.stkFree⟩
    · show ∃ c, ce.cells.lookup y = some c
      have hy : scope.names.lookup y = some .cell ∨ scope.names.lookup y = some .free := by rw [← hsc]; exact hy
      rcases hy with hy | hy
      · exact absurd rfl (S.cell _ (PySem.mem_of_lookup hy))
      · obtain ⟨c, h1, _⟩ := look hy
        exact ⟨c, h1⟩
    · show b ≠ ce.locals
      rw [hL]; exact Nat.ne_of_lt (hfp b hb).2
    · rcases (hfp b hb).1.2.2.2.1 with z | z
      · exact I.ok.noex b o e z
      · exact absurd (Nat.lt_of_lt_of_le (Heap.lt_size e) (Nat.le_trans I.ok.bsz z)) (Nat.lt_irrefl _)
    · rcases List.mem_cons.mp (I.stkSub b z) with z | z
      · exact (hfp b hb).1.2.1 z
      · exact (hfp b hb).1.2.2.1 z
  refine ⟨okB, rfl, hG, Un.kept kp, ⟨_, by show Heap.Ns _ ce.locals _; rw [hL]; exact hn, fun i y av e1 e2 e3 => ?_⟩, fun y c e => ?_, by show H ce.locals = none; rw [hL]; exact I.hok.fresh (Nat.le_refl _), fun y c e => I.freeC y c (mem e).1, fun p hp => absurd (show p ∈ ([] : List (Addr × Obj)) ++ [] from hp) (by simp), I.hok.kept kp, by rw [wipe_length]; exact I.len⟩
  · obtain ⟨e2, hne⟩ := wipe_some e2
    have e3 : scope.names.lookup y = some .local ∨ scope.names.lookup y = some .cell ∨ scope.names.lookup y = some .free := by rw [← hsc]; exact e3
    have hfr : scope.names.lookup y = some .free := by
      rcases e3 with e3 | e3 | e3
      · rcases hloc y e3 with z | z
        · rw [z] at e1
          exact absurd (List.mem_singleton.mpr (nodup_ix hN e1 hix)) hne
        · exact absurd (List.mem_of_getElem? e1) (by rw [z]; exact h0)
      · exact absurd rfl (S.cell _ (PySem.mem_of_lookup e3))
      · exact e3
    obtain ⟨m, hm, hl⟩ := I.loc
    obtain ⟨w, r, q⟩ := hl i y av e1 e2 ((hfv y hfr).elim (fun k => .inr (.inl k)) (fun k => .inr (.inr k)))
    obtain ⟨c, h1, h2⟩ := look hfr
    refine ⟨w, r, .inr ⟨.inr (by show ce.scope.names.lookup y = _; rw [hsc]; exact hfr), c, h1, ?_⟩⟩
    rcases q with ⟨k, _⟩ | ⟨_, c', e', z⟩
    · rcases hfv y hfr with k' | k' <;> rw [k'] at k <;> cases k
    · rw [h2] at e'; cases e'
      exact z.keeps kp
  · obtain ⟨w, z⟩ := I.cell y c (mem e).1
    exact ⟨w, z.keeps kp⟩
end
end Sc
namespace Sc
open PySem PySem.Spec PyProof.Rows L2
/-! ### the turns, by the rules of the element -/
theorem inv_gens {X : Cx} {pins : List (Addr × Obj)} {σ : L2.St} {H : Hp} {s : Shared} {G : Array GenState} (I : Inv X pins σ H s) (hG : AllBare G) : Inv X pins σ H { s with gens := G } :=
  ⟨I.ok, I.os, hG, I.base, I.loc, I.cell, I.free, I.freeC, I.pin, I.hok, I.len⟩
theorem inv_setGen {X : Cx} {pins : List (Addr × Obj)} {σ : L2.St} {H : Hp} {s : Shared} {g : Nat} {gs : GenState} (I : Inv X pins σ H s) (hb : gs.bare = true) : Inv X pins σ H (s.setGen g gs) :=
  ⟨I.ok, I.os, L2.allBare_setGen I.bare hb, I.base, I.loc, I.cell, I.free, I.freeC, I.pin, I.hok, I.len⟩
section
variable {X : Cx} {σ : L2.St} {H0 : Hp} {s0 : Shared} {A' : Around} {ce : Env} {fp : List Addr} {a it : Addr} {go : Obj} {g n : Nat} {tr : Nat → Bool} {W : Nat → Hp → Prop} {J : It} {tn : Nat → Heap → Prop} {x : Str} {px : Pos} {ix : Nat} {elt : Expr} {te : TE}
/-- between the turns: i are out -/
def KJ (X' : Cx) (a : Addr) (go : Obj) (fp : List Addr) (tn : Nat → Heap → Prop) (W : Nat → Hp → Prop) (σw : L2.St) (i : Nat) (s : Shared) : Prop :=
  ∃ H', Inv X' [(a, go)] σw H' s ∧ tn i s.heap ∧ (∀ b ∈ fp, H' b = none) ∧ W i H'
theorem turns_of {nm qn : Value} (T : Turn X.prog X.w X.K (.Name x px) J fp it tn) (hc : X.calm = true) (hN : X.N.Nodup) (hix : X.N[ix]? = some x) (hlo : ce.scope.names.lookup x = some .local) (afp : a ∉ fp)
    (hgo : go = { cls := .type "generator", data := .fields #[.int g 0, nm, qn] })
    (hf0 : ∀ b ∈ fp, b ≠ ce.locals ∧ b ∉ frs X.stack ∧ ∀ y c, ce.cells.lookup y = some c → c ≠ b)
    (pe : PE (cxGen X s0 H0 A' ce fp) elt te) (goI : ∀ i H', i < n → W i H' → J.go i H') (stop : ∀ H', W n H' → J.stop n H')
    (step : ∀ i H1 y H2, i < n → W i H1 → J.yld i H1 y H2 → te ((wipe σ [ix]).set ix (some y)) H2 fun r H3 => r = .bl (tr i) ∧ W (i + 1) H3) :
    TurnsJ X.prog X.w A' a it g n tr (fun i s => ∃ H', Inv (cxGen X s0 H0 A' ce fp) [(a, go)] (wipe σ [ix]) H' s ∧ W i H') (fun s => ∃ H', Inv (cxGen X s0 H0 A' ce fp) [(a, go)] (wipe σ [ix]) H' s ∧ W n H') elt x px ce
      (KJ (cxGen X s0 H0 A' ce fp) a go fp tn W (wipe σ [ix]))
      (fun i v s => ∃ H' y, Inv (cxGen X s0 H0 A' ce fp) [(a, go)] (wipe σ [ix]) H' s ∧ RelV y v ∧ tn (i + 1) s.heap ∧ (∀ b ∈ fp, H' b = none) ∧ te ((wipe σ [ix]).set ix (some y)) H' fun r H3 => r = .bl (tr i) ∧ W (i + 1) H3)
      (fun i s => ∃ H' y s1, Inv (cxGen X s0 H0 A' ce fp) ([(a, go)] ++ pinsAt fp s1) ((wipe σ [ix]).set ix (some y)) H' s ∧ tn (i + 1) s1 ∧ (∀ b ∈ fp, ∃ o, s1.get? b = some o) ∧ te ((wipe σ [ix]).set ix (some y)) H' fun r H3 => r = .bl (tr i) ∧ W (i + 1) H3) := by
  have stat : ∀ {σ' : L2.St} {H' : Hp} {s' : Shared}, Inv (cxGen X s0 H0 A' ce fp) [(a, go)] σ' H' s' → (∀ b ∈ fp, H' b = none) → ∀ b ∈ fp, FpOk (cxGen X s0 H0 A' ce fp) [(a, go)] H' b := fun {σ' H' s'} I' hn b hb =>
    ⟨hn b hb, (hf0 b hb).1, (hf0 b hb).2.1, .inl hb, (hf0 b hb).2.2, fun p hp z => by
      have e : p = (a, go) := by simpa using hp
      rw [e] at z
      exact afp (by rw [show a = b from z]; exact hb)⟩
  have isg : ∀ {pn : List (Addr × Obj)} {σ' : L2.St} {H' : Hp} {s' : Shared}, Inv (cxGen X s0 H0 A' ce fp) ([(a, go)] ++ pn) σ' H' s' → s'.heap.IsGen a g := fun {pn σ' H' s'} I' => by
    have q := (I'.pin (a, go) (List.mem_append_right _ (List.mem_append_left _ List.mem_cons_self))).1
    rw [hgo] at q
    exact ⟨_, nm, qn, q, rfl, rfl, rfl⟩
  refine ⟨fun i s E lt ⟨H', I', t', n', w'⟩ => ?_, fun s E ⟨H', I', t', n', w'⟩ => ?_, fun i v s E lt ⟨H', y, I', r', t', n', q'⟩ => ?_, fun i s E lt ⟨H', y, s1, I', t', o', q'⟩ => ?_⟩
  · refine wpAny_mono (T.item (cxGen X s0 H0 A' ce fp) rfl rfl rfl hc i [(a, go)] s _ H' E I' (stat I' n') t' (goI i H' lt w')) (fun r s1 ⟨u, hr, h6⟩ => ⟨u, hr, ?_⟩) fun _ _ e => e
    exact wpAny_mono h6 (fun _ s2 ⟨y, H7, I7, r7, y7, st7, n7⟩ => ⟨H7, y, I7, r7, st7, n7, step i H' y H7 lt w' y7⟩) fun _ _ e => e
  · exact wpAny_mono (T.done (cxGen X s0 H0 A' ce fp) rfl rfl rfl hc n [(a, go)] s _ H' E I' (stat I' n') t' (stop H' w')) (fun r s1 ⟨hr, I6⟩ => ⟨hr, H', I6, w'⟩) fun _ _ e => e
  · have pg : PG (cxGen X s0 H0 A' ce fp) (.Name x px) (gName ix) := pg_name hN hix (.inl hlo) (.inr hlo)
    have I7 := I'.pinned (stat I' n') (T.obj _ _ t')
    refine thnF (pg.run _ s _ H' y v (fun σ8 H8 => σ8 = (wipe σ [ix]).set ix (some y) ∧ H8 = H') I7 r' ⟨rfl, rfl⟩) fun _ s2 ⟨σ8, H8, I8, e1, e2⟩ => ?_
    subst e1 e2
    exact ⟨_, y, s.heap, I8, t', fun b hb => let ⟨o, e, _⟩ := T.obj _ _ t' b hb; ⟨o, e⟩, q'⟩
  · refine thnF (pe.run _ s _ H' _ I' q') fun v s2 ⟨r, H2, I2, r2, e2, w2⟩ => ?_
    subst e2
    obtain rfl : v = .bool (tr i) := r2
    have pin' : ∀ b ∈ fp, ∀ o, s1.get? b = some o → s2.heap.get? b = some o ∧ H2 b = none := fun b hb o e =>
      let z := I2.pin (b, o) (List.mem_append_right _ (List.mem_append_right _ (mem_pinsAt hb e)))
      ⟨z.1, z.2.1⟩
    have hl : (wipe σ [ix]).length = ((wipe σ [ix]).set ix (some y)).length := by rw [List.length_set]
    have I3 : Inv (cxGen X s0 H0 A' ce fp) [(a, go)] (wipe σ [ix]) H2 s2 := (I2.unpinned (pins := [(a, go)])).weak hl fun j v e => by
      obtain ⟨e1, e2⟩ := wipe_some e
      rw [List.getElem?_set_ne fun z => e2 (by rw [← z]; exact List.mem_cons_self)]
      exact e
    have kj : ∀ gs : GenState, gs.bare = true → KJ (cxGen X s0 H0 A' ce fp) a go fp tn W (wipe σ [ix]) (i + 1) ((s2.setGen g gs).setGen g .running) := fun gs hb =>
      ⟨H2, inv_setGen (inv_setGen I3 hb) rfl, T.keep _ _ _ t' fun b hb o e => (pin' b hb o e).1, fun b hb => let ⟨o, e⟩ := o' b hb; (pin' b hb o e).2, w2⟩
    exact ⟨rfl, ⟨H2, I3, w2⟩, ⟨isg (pn := []) I3, I3.nolimit⟩, kj⟩
end
end Sc
namespace Sc
open PySem PySem.Spec PyProof.Rows L2
/-! ### any(..), all(..) of a generator expression, by the rules of its element -/
/-- the generator's scope beside the def's: its one name x, which is N's at ix -/
structure GenJ (osc scope : Scope) (x : Str) (N : List Str) (ix : Nat) : Prop where
  kind : scope.kind = .function
  co : scope.isCoroutine = false
  cell : ∀ y ∈ scope.names, y.2 ≠ .cell
  dot : scope.names.lookup (".0" : Str) = some NameKind.local
  loc : scope.names.lookup x = some .local
  free : ∀ y ∈ scope.names, y.2 = .free → osc.names.lookup y.1 = some .cell ∨ osc.names.lookup y.1 = some .free
  own : ∀ y ∈ scope.names, y.2 = .local → y.1 = x ∨ y.1 = ".0"
  ix : N[ix]? = some x
  nd : N.Nodup
  no0 : (".0" : Str) ∉ N
theorem genJ_by {osc scope : Scope} {x : Str} {N : List Str} {ix : Nat} (h : ((scope.kind == .function) && !scope.isCoroutine && scope.names.all (fun y => y.2 != .cell && (y.2 != .free || osc.names.lookup y.1 == some NameKind.cell || osc.names.lookup y.1 == some NameKind.free) && (y.2 != .local || y.1 == x || y.1 == ".0")) && (scope.names.lookup (".0" : Str) == some NameKind.local) && (scope.names.lookup x == some NameKind.local) && (N[ix]? == some x) && decide N.Nodup && !decide ((".0" : Str) ∈ N)) = true) : GenJ osc scope x N ix := by
  simp only [Bool.and_eq_true, Bool.or_eq_true, List.all_eq_true, bne_iff_ne, beq_iff_eq, Bool.not_eq_true', decide_eq_true_eq, decide_eq_false_iff_not] at h
  obtain ⟨⟨⟨⟨⟨⟨⟨h1, h2⟩, h3⟩, h4⟩, h5⟩, h6⟩, h7⟩, h8⟩ := h
  refine ⟨h1, h2, fun y m => (h3 y m).1.1, h4, h5, fun y m e => ?_, fun y m e => ?_, h6, h7, h8⟩
  · rcases (h3 y m).1.2 with (z | z) | z
    · exact absurd e z
    · exact .inl z
    · exact .inr z
  · rcases (h3 y m).2 with (z | z) | z
    · exact absurd e z
    · exact .inl z
    · exact .inr z
theorem gen_around {A : Around} {l : List Env} {elt iter : Expr} {x : Str} {px : Pos} {scope : Scope} {pos : Pos} {I : Addr} {ce : Env} (hf : A.frames = some l) :
    (A.in1.in1.over (loopC elt iter x px scope pos I ce) []).handled = A.handled ∧ (A.in1.in1.over (loopC elt iter x px scope pos I ce) []).depth = A.depth + 1 ∧ (A.in1.in1.over (loopC elt iter x px scope pos I ce) []).units ≤ A.units + 32 ∧ (A.in1.in1.over (loopC elt iter x px scope pos I ce) []).frames = some (ce :: l) := by
  refine ⟨rfl, ?_, ?_, ?_⟩
  · simp [Around.over, loopC, Around.in1, frameCount, Code.weight, Code.isCreation, Code.isGuard, Code.isCaller, Code.frames, Code.isFrame, guardIds]
  · simp [Around.over, loopC, Around.in1, unitsOf, Code.cUnits, Code.frames, Code.isFrame, Code.isCreation, Code.isGuard, Code.isCaller]
  · simp [Around.over, loopC, Around.in1, envsOf, pushEnvs, Code.envs, Code.env?, Code.isFrame, hf]
theorem gen_room {k : Nat} {A : Around} {l : List Env} {elt iter : Expr} {x : Str} {px : Pos} {scope : Scope} {pos : Pos} {I : Addr} {ce : Env} (hf : A.frames = some l) (r : Room (k + 2) A) : Room k (A.in1.in1.over (loopC elt iter x px scope pos I ce) []) := by
  obtain ⟨h1, h2, h3, _⟩ := gen_around (elt := elt) (iter := iter) (x := x) (px := px) (scope := scope) (pos := pos) (I := I) (ce := ce) hf
  exact ⟨h1.trans r.hd, by have := r.dp; rw [h2]; omega, by have := r.un; omega⟩
section
variable {X : Cx} {pins : List (Addr × Obj)} {σ : L2.St} {H : Hp} {s : Shared}
/-- what is asked of the walked things: n of them, tests tr; W i: what holds behind i of them -/
structure WalkJ (J : It) (n : Nat) (tr : Nat → Bool) (W : Nat → Hp → Prop) (te : TE) (σ : L2.St) (ix : Nat) (H : Hp) : Prop where
  zero : W 0 H
  go : ∀ i H', i < n → W i H' → J.go i H'
  stop : ∀ H', W n H' → J.stop n H'
  step : ∀ i H1 y H2, i < n → W i H1 → J.yld i H1 y H2 → te ((wipe σ [ix]).set ix (some y)) H2 fun r H3 => r = .bl (tr i) ∧ W (i + 1) H3
theorem gen_made {c P : Addr} {elt iter : Expr} {x : Str} {px gpos : Pos} {scope : Scope} {wi : TI} {te : TE} {k ix : Nat} {Q' : Value → Shared → Prop}
    (hr : Room (k + 2) X.A) (hc : X.calm = true) (TB : GxR.TabB X.base X.mg c P) (hcode : X.env.code = .ref c) (GJ0 : GenJ X.env.scope scope x X.N ix) (hi : PI X (.Name x px) iter wi)
    (pe : ∀ (s : Shared) (H : Hp) (A' : Around) (C : Addr) (code : Value) (fp : List Addr), Room k A' → PE (cxGen X s H A' (genEnv scope (cloFrom X.env.cells scope.names []) C code builtinsNs X.env) fp) elt te)
    (hs : ∀ v, genFold iter X.env v = pure v) (I : Inv X pins σ H s) (R : Nat → (Nat → Bool) → (Nat → Hp → Prop) → Prop)
    (h : wi σ H fun J H1 => GxR.TabG H1 P ∧ ∀ H2, GxR.Tabbed P H1 H2 → ∃ n tr W, WalkJ J n tr W te σ ix H2 ∧ R n tr W)
    (hQ : ∀ a g n tr W (Out : Nat → Shared → Prop) (Fin1 : Shared → Prop) s5, R n tr W → GJ X.prog X.w X.A.in1 a g n tr Out Fin1 0 s5 → (∀ i s gs, Out i s → gs.bare = true → Out i (s.setGen g gs)) → (∀ i s, Out i s → ∃ H', Inv X pins σ H' s ∧ W i H') → (∀ s h', Fin1 s → (∀ b o, s.heap.get? b = some o → h'.get? b = some o) → ∃ H', Inv X pins σ H' { s.setGen g .finished with heap := h' } ∧ W n H') → Q' (.ref a) s5) :
    wpAny (model X.prog X.w) X.A (eval (.GeneratorExp elt [⟨.Name x px, iter, [], 0⟩] scope gpos) X.env) Q' X.xe s := by
  have S : GxR.GenS X.env scope x := ⟨GJ0.kind, GJ0.co, GJ0.cell, GJ0.dot, GJ0.loc, fun y hy e => I.ok.has y.1 (GJ0.free y hy e)⟩
  have hfv : ∀ y, scope.names.lookup y = some .free → X.env.kindOf y = some .cell ∨ X.env.kindOf y = some .free := fun y h => GJ0.free (y, .free) (PySem.mem_of_lookup h) rfl
  have hloc : ∀ y, scope.names.lookup y = some .local → y = x ∨ y = ".0" := fun y h => GJ0.own (y, .local) (PySem.mem_of_lookup h) rfl
  have hix := GJ0.ix
  have hN := GJ0.nd
  have h0 := GJ0.no0
  refine wpAny_GeneratorExp_make S.co (closure_ok S.free) S.cell S.dot S.kind hr.depth ?_ hs
  refine wpAny_mono (hi.run pins s σ H _ I h) (fun xv z1 h1 => wpAny_mono h1 (fun itv z ⟨it, fp, tn, J, H1, ei, J1, T, t0, hfp, ⟨ps, hP, tri⟩, hW⟩ => ?_) fun _ _ e => e) fun _ _ e => e
  subst ei
  have gP : z.heap.get? P = some { cls := .none, data := .fields ps } := J1.hok P _ hP
  have base' : ∀ b o, X.base.get? b = some o → z.heap.get? b = some o := fun b o e => J1.bk b o e
  have codeP : PySem.W.CodeHd z.heap c P := TB.code.keeps base'
  have hcl : cStatics < z.heap.objs.size := let ⟨mc, q1, _⟩ := J1.nolimit; q1.lt
  refine ⟨J1.nolimit, gen_code hcode (codeP.code gP tri) (codeP.tab gP) gP tri fun cv h3 tk more hx hsz hP3 tr3 => ?_⟩
  have nP : ∀ b ∈ fp, b ≠ P := fun b hb e => by
    have q := (hfp b hb).1
    rw [e, hP] at q
    cases q
  have J3 : Inv X pins σ (upd H1 P (.tbl (ps ++ more))) { z with heap := h3, toks := tk } := by
    have q := GxR.inv_tab (more := more) (h' := h3) (g' := z.gens) (d' := z.drawn) (t' := tk) J1 hP (fun b o hb e => hx b o hb e) hP3 J1.bare
    exact q
  obtain ⟨n, tr, W, WJ, hR⟩ := hW _ ⟨⟨_, upd_same, tr3⟩, fun b hb => upd_ne hb⟩
  obtain ⟨bm, ob, e1, e2, e3, e4, e5, e6, e7, e8⟩ := TB.bm
  refine wpAny_builtinsFor (m := X.mg) (by rw [J3.ok.glob]; exact J3.mod.glob.keeps fun b o e => J3.bk b o e) e1 e2 (J3.bk _ _ e5) e6 e7 e8 ?_
  intro h' hn' hs'
  have sz' : h'.objs.size = h3.objs.size + 1 := by rw [hs'.1]; exact Heap.size_push ..
  have f4 : ∀ b ∈ fp, FpOk X pins (upd H1 P (.tbl (ps ++ more))) b ∧ b < h3.objs.size := fun b hb => by
    obtain ⟨q0, q1⟩ := hfp b hb
    obtain ⟨o, eo, _⟩ := T.obj _ _ t0 b hb
    exact ⟨⟨by rw [upd_ne (nP b hb)]; exact q0, q1⟩, Nat.lt_of_lt_of_le (Heap.lt_size eo) hsz⟩
  have kp : ∀ b o, h3.get? b = some o → (h'.push { cls := .type "generator", data := .fields #[.int z.gens.size 0, .str "<genexpr>" (tk + 1), .str (X.env.qual ++ "<genexpr>") (tk + 1 + 1)] }).get? b = some o := fun b o e =>
    Heap.get?_push_of_some _ (hs'.extBut b o (Nat.ne_of_lt (Heap.lt_size e)) (Heap.get?_push_of_some _ e))
  have hF := (gen_around (A := X.A) (elt := elt) (iter := iter) (x := x) (px := px) (scope := scope) (pos := gpos) (I := it) (ce := genEnv scope (cloFrom X.env.cells scope.names []) h3.objs.size cv builtinsNs X.env) J3.ok.frames).2.2.2
  have J5 := gen_begin (A' := X.A.in1.in1.over (loopC elt iter x px scope gpos it (genEnv scope (cloFrom X.env.cells scope.names []) h3.objs.size cv builtinsNs X.env)) []) (code := cv) (it := .ref it) (bi := builtinsNs) (tk := tk + 1 + 1 + 1)
    (G := z.gens.push (.fresh (startC elt iter x px scope gpos it (genEnv scope (cloFrom X.env.cells scope.names []) h3.objs.size cv builtinsNs X.env)))) J3 S hfv hloc hix hN h0 rfl hr.hd hF f4 (hn'.push _) kp (J3.bare.push rfl)
  have pr := pe { z with heap := h3, toks := tk } (upd H1 P (.tbl (ps ++ more))) _ h3.objs.size cv fp (gen_room (elt := elt) (iter := iter) (x := x) (px := px) (scope := scope) (pos := gpos) (I := it) (ce := genEnv scope (cloFrom X.env.cells scope.names []) h3.objs.size cv builtinsNs X.env) J3.ok.frames hr)
  generalize hce : genEnv scope (cloFrom X.env.cells scope.names []) h3.objs.size cv builtinsNs X.env = ce at hF J5 pr ⊢
  have hL : ce.locals = h3.objs.size := by rw [← hce]; rfl
  have hsc : ce.scope = scope := by rw [← hce]; rfl
  have afp : h'.objs.size ∉ fp := fun q => by
    have l1 : (h'.objs.size : Nat) < h3.objs.size := (f4 _ q).2
    exact absurd (Nat.lt_of_lt_of_le l1 (by rw [sz']; exact Nat.le_succ _)) (Nat.lt_irrefl _)
  have J6 := J5.pins_of (pins' := [(h'.objs.size, { cls := .type "generator", data := .fields #[.int z.gens.size 0, .str "<genexpr>" (tk + 1), .str (X.env.qual ++ "<genexpr>") (tk + 1 + 1)] })]) fun p hp => by
    obtain rfl : p = _ := List.mem_singleton.mp hp
    refine ⟨Heap.get?_push_size _ rfl, J3.hok.fresh (by show h3.objs.size ≤ h'.objs.size; omega), by show h'.objs.size ≠ ce.locals; rw [hL]; omega, fun q => ?_, fun v q => by cases q⟩
    rcases List.mem_cons.mp (J3.stkSub _ q) with y | y
    · have lt : X.env.locals < h3.objs.size := J3.lt
      have y' : h'.objs.size = X.env.locals := y
      have l1 : (h'.objs.size : Nat) < h3.objs.size := by rw [y']; exact lt
      exact absurd (Nat.lt_of_lt_of_le l1 (by rw [sz']; exact Nat.le_succ _)) (Nat.lt_irrefl _)
    · exact J3.nofs (a := h'.objs.size) (by show h3.objs.size ≤ h'.objs.size; omega) y
  have back : ∀ {H' : Hp} {s' : Shared} {pn : List (Addr × Obj)} {σ' : L2.St}, Inv (cxGen X { z with heap := h3, toks := tk } (upd H1 P (.tbl (ps ++ more))) (X.A.in1.in1.over (loopC elt iter x px scope gpos it ce) []) ce fp) pn σ' H' s' → Inv X pins σ H' s' := fun {H' s' pn σ'} I' =>
    J3.call' (ch := fp) I'.os I'.base I'.hok I'.bare fun b hb => let q := (f4 b hb).1; ⟨q.2.2.2.1, q.2.1, q.2.2.2.2.1, q.2.2.2.2.2⟩
  have TJ := turns_of (A' := X.A.in1.in1.over (loopC elt iter x px scope gpos it ce) []) (a := h'.objs.size) (g := z.gens.size) (σ := σ) (nm := .str "<genexpr>" (tk + 1)) (qn := .str (X.env.qual ++ "<genexpr>") (tk + 1 + 1)) T hc hN hix (by rw [hsc]; exact S.loc) afp rfl (fun b hb => ⟨(J6.ok.exf b hb).1, J6.ok.exfs b hb, (J6.ok.exf b hb).2⟩) pr WJ.go WJ.stop WJ.step
  refine hQ h'.objs.size z.gens.size n tr W _ _ _ hR (gj_fresh (A := X.A.in1) (by rw [hsc]; exact S.co) (fun s Q E ⟨H', _, t', _⟩ hq => T.self _ 0 s Q E t' hq) TJ ⟨_, _, _, Heap.get?_push_size _ rfl, rfl, rfl, rfl⟩ J6.nolimit (Array.getElem?_push_size ..) ⟨_, J6, WJ.zero⟩ ⟨_, inv_setGen J6 rfl, ?_, fun b hb => (f4 b hb).1.1, WJ.zero⟩) ?_ ?_ ?_
  · exact T.keep _ _ _ t0 fun b hb o e => kp b o (hx b o (nP b hb) e)
  · exact fun i s gs ⟨H', I', w'⟩ hb => ⟨H', inv_setGen I' hb, w'⟩
  · exact fun i s ⟨H', I', w'⟩ => ⟨H', back I', w'⟩
  · exact fun s h9 ⟨H', I', w'⟩ hk => ⟨H', (inv_setGen (g := z.gens.size) (gs := .finished) (back I') rfl).kept (t' := s.toks) hk, w'⟩
/-- any(elt for x in iter), all(..): x walks what wi tells; the element's tests are tr; W: what is kept -/
def tAnyJ (P : Addr) (wi : TI) (te : TE) (ix : Nat) : TE := fun σ H Q => wi σ H fun J H1 => GxR.TabG H1 P ∧ ∀ H2, GxR.Tabbed P H1 H2 → ∃ n tr W, WalkJ J n tr W te σ ix H2 ∧ (∀ i H', i < n → tr i = true → W (i + 1) H' → Q (.bl true) H') ∧ ((∀ l, l < n → tr l = false) → ∀ H', W n H' → Q (.bl false) H')
def tAllJ (P : Addr) (wi : TI) (te : TE) (ix : Nat) : TE := fun σ H Q => wi σ H fun J H1 => GxR.TabG H1 P ∧ ∀ H2, GxR.Tabbed P H1 H2 → ∃ n tr W, WalkJ J n tr W te σ ix H2 ∧ (∀ i H', i < n → tr i = false → W (i + 1) H' → Q (.bl false) H') ∧ ((∀ l, l < n → tr l = true) → ∀ H', W n H' → Q (.bl true) H')
theorem pe_anyJ {c P : Addr} {elt iter : Expr} {x : Str} {px p pos gpos : Pos} {scope : Scope} {wi : TI} {te : TE} {k ix : Nat}
    (hr : Room (k + 2) X.A) (hg : Gl X "any") (hm : X.mg "any" = none) (hc : X.calm = true) (TB : GxR.TabB X.base X.mg c P) (hcode : X.env.code = .ref c) (GJ0 : GenJ X.env.scope scope x X.N ix) (hi : PI X (.Name x px) iter wi)
    (pe : ∀ (s : Shared) (H : Hp) (A' : Around) (C : Addr) (code : Value) (fp : List Addr), Room k A' → PE (cxGen X s H A' (genEnv scope (cloFrom X.env.cells scope.names []) C code builtinsNs X.env) fp) elt te)
    (hs : ∀ v, genFold iter X.env v = pure v)
    (he : starEach [.GeneratorExp elt [⟨.Name x px, iter, [], 0⟩] scope gpos] X.env = (false, eval (.GeneratorExp elt [⟨.Name x px, iter, [], 0⟩] scope gpos) X.env) :: starEach [] X.env := by rfl) :
    PE X (.Call (.Name "any" p) [.GeneratorExp elt [⟨.Name x px, iter, [], 0⟩] scope gpos] [] pos) (tAnyJ P wi te ix) := by
  constructor
  intro pins s σ H Q I h
  refine wpAny_Call_Name_kw (ld_blt I hg hm boot_any (PyProof.Rows.callWith_builtin1 ?_ he (by rfl)))
  rw [he]
  show wpAny _ _ (spliced ((false, eval (.GeneratorExp elt [⟨.Name x px, iter, [], 0⟩] scope gpos) X.env) :: backTo pos (starEach [] X.env))) _ _ s
  apply Calls.spliced_cons
  refine gen_made hr hc TB hcode GJ0 hi pe hs I (fun n tr W => (∀ i H', i < n → tr i = true → W (i + 1) H' → Q (.bl true) H') ∧ ((∀ l, l < n → tr l = false) → ∀ H', W n H' → Q (.bl false) H')) h ?_
  intro a g n tr W Out Fin1 s5 ⟨hT, hF⟩ gj stay out fin
  have st := steps_gen (prog := X.prog) (w := X.w) (A := X.A.in1) (a := a) (g := g) (n := n) (tr := tr) (Out := Out) (Fin1 := Fin1) hr.hd (by have := hr.dp; show X.A.depth < _; omega) stay
  refine Calls.spliced_nil (call_any_steps (st.self 0 _ _ _ gj ⟨a, n, tr, _, _, rfl, st, gj, fun j lt e s' k => ?_, fun e s' k => ?_⟩))
  · obtain ⟨H', I', w'⟩ := out _ _ k.2.2
    exact ⟨.bl true, H', I', rfl, hT j H' lt e w'⟩
  · obtain ⟨s1, h', f1, hk, rfl⟩ := k
    obtain ⟨H', I', w'⟩ := fin s1 h' f1 hk
    exact ⟨.bl false, H', I', rfl, hF e H' w'⟩
theorem pe_allJ {c P : Addr} {elt iter : Expr} {x : Str} {px p pos gpos : Pos} {scope : Scope} {wi : TI} {te : TE} {k ix : Nat}
    (hr : Room (k + 2) X.A) (hg : Gl X "all") (hm : X.mg "all" = none) (hb : bootBuiltins "all" = some (.builtin "all")) (hc : X.calm = true) (TB : GxR.TabB X.base X.mg c P) (hcode : X.env.code = .ref c) (GJ0 : GenJ X.env.scope scope x X.N ix) (hi : PI X (.Name x px) iter wi)
    (pe : ∀ (s : Shared) (H : Hp) (A' : Around) (C : Addr) (code : Value) (fp : List Addr), Room k A' → PE (cxGen X s H A' (genEnv scope (cloFrom X.env.cells scope.names []) C code builtinsNs X.env) fp) elt te)
    (hs : ∀ v, genFold iter X.env v = pure v)
    (he : starEach [.GeneratorExp elt [⟨.Name x px, iter, [], 0⟩] scope gpos] X.env = (false, eval (.GeneratorExp elt [⟨.Name x px, iter, [], 0⟩] scope gpos) X.env) :: starEach [] X.env := by rfl) :
    PE X (.Call (.Name "all" p) [.GeneratorExp elt [⟨.Name x px, iter, [], 0⟩] scope gpos] [] pos) (tAllJ P wi te ix) := by
  constructor
  intro pins s σ H Q I h
  refine wpAny_Call_Name_kw (ld_blt I hg hm hb (PyProof.Rows.callWith_builtin1 ?_ he (by rfl)))
  rw [he]
  show wpAny _ _ (spliced ((false, eval (.GeneratorExp elt [⟨.Name x px, iter, [], 0⟩] scope gpos) X.env) :: backTo pos (starEach [] X.env))) _ _ s
  apply Calls.spliced_cons
  refine gen_made hr hc TB hcode GJ0 hi pe hs I (fun n tr W => (∀ i H', i < n → tr i = false → W (i + 1) H' → Q (.bl false) H') ∧ ((∀ l, l < n → tr l = true) → ∀ H', W n H' → Q (.bl true) H')) h ?_
  intro a g n tr W Out Fin1 s5 ⟨hT, hF⟩ gj stay out fin
  have st := steps_gen (prog := X.prog) (w := X.w) (A := X.A.in1) (a := a) (g := g) (n := n) (tr := tr) (Out := Out) (Fin1 := Fin1) hr.hd (by have := hr.dp; show X.A.depth < _; omega) stay
  refine Calls.spliced_nil (call_all_steps (st.self 0 _ _ _ gj ⟨a, n, tr, _, _, rfl, st, gj, fun j lt e s' k => ?_, fun e s' k => ?_⟩))
  · obtain ⟨H', I', w'⟩ := out _ _ k.2.2
    exact ⟨.bl false, H', I', rfl, hT j H' lt e w'⟩
  · obtain ⟨s1, h', f1, hk, rfl⟩ := k
    obtain ⟨H', I', w'⟩ := fin s1 h' f1 hk
    exact ⟨.bl true, H', I', rfl, hF e H' w'⟩
end
end Sc
namespace Sc
open PySem PySem.Spec PyProof.Rows L2
/-! ### list(d.values()) -/
def tListVals (te : TE) : TE := fun σ H Q => te σ H fun x H1 => ∃ (d : Addr) (kvs : List (Key × V)), x = .ref d ∧ H1 d = some (.dK kvs) ∧ ∀ p, H1 p = none → Q (.ref p) (upd H1 p (.lst (kvs.map (·.2))))
section
variable {X : Cx} {e : Expr} {te : TE} {p apos cpos pos : Pos}
theorem pe_listVals (hc : X.calm = true) (he : PE X e te) (hg : Gl X "list") (hm : X.mg "list" = none) (hv : bootBuiltins "list" = some (.type "list")) (hbase : attributeBase e "values" X.env (eval e X.env) = eval e X.env := by rfl) (hline : (apos.endLine == cpos.line) = true := by rfl)
    (hs : starEach [.Call (.Attribute e "values" apos) [] [] cpos] X.env = (false, eval (.Call (.Attribute e "values" apos) [] [] cpos) X.env) :: starEach [] X.env := by rfl) :
    PE X (.Call (.Name "list" p) [.Call (.Attribute e "values" apos) [] [] cpos] [] pos) (tListVals te) := by
  refine ⟨fun pins s σ H Q I hq => ?_⟩
  refine wpAny_Call_Name_kw (ld_blt I hg hm hv ?_)
  refine PyProof.Rows.callWith_type1 ?_ hs rfl
  rw [hs]
  show wpAny _ _ (spliced ((false, eval (.Call (.Attribute e "values" apos) [] [] cpos) X.env) :: backTo pos (starEach [] X.env))) _ _ s
  refine Calls.spliced_cons ?_
  refine wpAny_Call_method (T := "dict") (id := "dict.values") hbase rfl hline F.plainAttrs_dict F.slot_dict_values F.type_dict_values (thn (he.run pins s σ H _ I hq) fun u s1 ⟨x, H1, I1, rx, d, kvs, ex, hd, q⟩ => ?_)
  subst ex
  obtain rfl : u = Value.ref d := rx
  obtain ⟨hz, hs0, vs, kv, hdo⟩ := I1.hok d _ hd
  obtain ⟨ep, hat⟩ := hdo.dictAt
  have lk : kvs.length = vs.length := Paired.length kv
  have I2 : Inv X pins σ H1 { s1 with heap := s1.heap.push { cls := .type "dict_values", data := .fields #[.ref d] } } := I1.kept (t' := s1.toks) fun b ob q => Heap.get?_push_of_some _ q
  refine ⟨hdo.typeIs, hdo.mapOf.noDict, ?_⟩
  show wpAny _ _ (callWith cpos (.builtin "dict.values") [.ref d] [] []) _ X.xe s1
  refine method_meetsIn F.slot_dict_values F.entry_dict_values rfl (PySem.evalArgs_none ⟨rfl, hdo.typeIs, F.args_dict_values_1 _, _, meets_dict_values (mixKind X.prog X.w) d hs0, ⟨vs, hdo⟩, ?_⟩)
  refine Calls.spliced_nil ?_
  refine PySem.W.kdl_call (s := { s1 with heap := s1.heap.push { cls := .type "dict_values", data := .fields #[.ref d] } }) (PySem.W.kdl_values (knd := mixKind X.prog X.w) (kvs := vs) (ep := ep)) (I1.ok.hd hc) ⟨⟨_, Heap.get?_push_size _ rfl, rfl, rfl⟩, hat.push _⟩ (by rw [← lk]; exact hz) fun h' tk acc' c' hkeep hS hacc => ?_
  refine ⟨.ref (s1.heap.push { cls := .type "dict_values", data := .fields #[.ref d] }).objs.size, upd H1 (s1.heap.push { cls := .type "dict_values", data := .fields #[.ref d] }).objs.size (.lst (kvs.map (·.2))), I2.laid hkeep (Nat.le_refl _) (show ObjOk X.prog X.w _ _ _ (.lst (kvs.map (·.2))) from ⟨?_, acc'.toList, c', ?_, ?_⟩), rfl, q _ (I2.hok.fresh (Nat.le_refl _))⟩
  · rw [List.length_map]; exact hz
  · have el : acc'.toList.length = acc'.size := by simp
    refine vals_of_at (by rw [List.length_map, el, hacc.1, lk]) fun j x w h1 h2 => ?_
    obtain ⟨k, hky⟩ := hacc.2 j w (by rw [← Array.getElem?_toList]; exact h2)
    obtain ⟨y, g1, g2⟩ := KV.at' kv hky
    rw [List.getElem?_map, g1] at h1
    cases h1
    exact g2
  · rw [Array.toArray_toList]; exact hS
end
end Sc
namespace Sc
open PySem PySem.Spec PyProof.Rows L2
/-! ### values of kinds, purely -/
/-- a choice with the head of a value -/
def vC : Vl → Ch
  | .num _ => .num | .text _ => .txt | .row _ => .row [] | .book _ => .book [] | .shape xs => .shape (xs.map fun q => (q.1, []))
theorem vC_names (xs : List (Str × Vl)) : (xs.map fun q => ((q.1, []) : Str × List Ch)).map (·.1) = xs.map (·.1) := by
  rw [List.map_map]; rfl
theorem vC_head (x : Vl) : hdC (vC x) = headV x := by
  cases x with
  | shape xs => show Txt.join " " ("shape" :: _) = Txt.join " " ("shape" :: _); rw [vC_names]
  | _ => rfl
theorem IsV.hd {H : Hp} {B : Addr → Prop} {v : V} {x : Vl} (h : IsV H B v x) : hdOk (vC x) := by
  cases h with
  | shape as vs xs fld => show Fld _; rw [vC_names]; exact fld
  | _ => exact trivial
def partsV : Vl → List Vl
  | .row xs => xs | .book xs => xs.map (·.2) | .shape xs => xs.map (·.2) | _ => []
def kindsC : Ch → Nat → List (List Ch)
  | .shape fs, _ => fs.map (·.2) | .row k, n => List.replicate n k | .book k, n => List.replicate n k | _, _ => []
/-- is the value of the choice; f: of the kinds within -/
def partsB (f : List Ch → Vl → Bool) (c : Ch) (x : Vl) : Bool := ((partsV x).zip (kindsC c (partsV x).length)).all fun p => f p.2 p.1
def isC (f : List Ch → Vl → Bool) (c : Ch) (x : Vl) : Bool := match c with
  | .any w => decide (headV x = w)
  | .wth z => ans (.has z) (headV x)
  | .letter _ => false
  | .cut _ _ => false
  | c => decide (headV x = hdC c) && partsB f c x
def isK : Nat → List Ch → Vl → Bool
  | 0, _, _ => false
  | n + 1, k, x => k.any fun c => isC (isK n) c x
mutual
/-- kinds without letters, some n deep, and what may be due -/
def kC : Nat → Ch → Prop
  | _, .num => True
  | _, .txt => True
  | n, .row k => 0 < n ∧ kL (n - 1) k
  | n, .book k => 0 < n ∧ kL (n - 1) k
  | n, .shape fs => 0 < n ∧ Fld (fs.map (·.1)) ∧ kF (n - 1) fs
  | _, .any w => w = "row" ∨ w = "book"
  | _, .wth z => Word z
  | _, _ => False
def kL : Nat → List Ch → Prop
  | _, [] => True
  | n, c :: r => kC n c ∧ kL n r
def kF : Nat → List (Str × List Ch) → Prop
  | _, [] => True
  | n, (_, k) :: r => kL n k ∧ kF n r
end
theorem kL_mem {n : Nat} {c : Ch} : ∀ {k : List Ch}, kL n k → c ∈ k → kC n c
  | _ :: _, h, m => by
    rcases List.mem_cons.mp m with z | z
    · rw [z]; exact h.1
    · exact kL_mem h.2 z
theorem kF_mem {n : Nat} {p : Str × List Ch} : ∀ {fs : List (Str × List Ch)}, kF n fs → p ∈ fs → kL n p.2
  | (_, _) :: _, h, m => by
    rcases List.mem_cons.mp m with z | z
    · rw [z]; exact h.1
    · exact kF_mem h.2 z
theorem kL_of {n : Nat} : ∀ {k : List Ch}, (∀ c ∈ k, kC n c) → kL n k
  | [], _ => trivial
  | c :: r, h => ⟨h c List.mem_cons_self, kL_of fun d m => h d (List.mem_cons_of_mem _ m)⟩
theorem kF_of {n : Nat} : ∀ {fs : List (Str × List Ch)}, (∀ p ∈ fs, kL n p.2) → kF n fs
  | [], _ => trivial
  | (_, _) :: r, h => ⟨h _ List.mem_cons_self, kF_of fun d m => h d (List.mem_cons_of_mem _ m)⟩
mutual
theorem kC_ok : ∀ {n : Nat} {c : Ch}, okC [] n c → kC n c
  | _, .num, _ => trivial
  | _, .txt, _ => trivial
  | n, .row k, h => ⟨(show 0 < n ∧ k ≠ [] ∧ k.length ≤ 3 ∧ okL [] (n - 1) k from h).1, kL_ok (show 0 < n ∧ k ≠ [] ∧ k.length ≤ 3 ∧ okL [] (n - 1) k from h).2.2.2⟩
  | n, .book k, h => ⟨(show 0 < n ∧ k ≠ [] ∧ k.length ≤ 3 ∧ okL [] (n - 1) k from h).1, kL_ok (show 0 < n ∧ k ≠ [] ∧ k.length ≤ 3 ∧ okL [] (n - 1) k from h).2.2.2⟩
  | n, .shape fs, h => ⟨(show 0 < n ∧ fs.length ≤ 2 ∧ Fld (fs.map (·.1)) ∧ okF [] (n - 1) fs from h).1, (show 0 < n ∧ fs.length ≤ 2 ∧ Fld (fs.map (·.1)) ∧ okF [] (n - 1) fs from h).2.2.1, kF_ok (show 0 < n ∧ fs.length ≤ 2 ∧ Fld (fs.map (·.1)) ∧ okF [] (n - 1) fs from h).2.2.2⟩
  | _, .letter l, h => absurd (show l ∈ ([] : List Str) from h) (by simp)
  | _, .cut _ _, h => (show False from h).elim
  | _, .any _, h => (show False from h).elim
  | _, .wth _, h => (show False from h).elim
theorem kL_ok : ∀ {n : Nat} {k : List Ch}, okL [] n k → kL n k
  | _, [], _ => trivial
  | _, _ :: _, h => ⟨kC_ok h.1, kL_ok h.2⟩
theorem kF_ok : ∀ {n : Nat} {fs : List (Str × List Ch)}, okF [] n fs → kF n fs
  | _, [], _ => trivial
  | _, (_, _) :: _, h => ⟨kL_ok h.2.2.2.1, kF_ok h.2.2.2.2⟩
end
mutual
/-- how many values stand in one -/
def vsz : Vl → Nat
  | .num _ => 1
  | .text _ => 1
  | .row xs => 1 + vszL xs
  | .book xs => 1 + vszP xs
  | .shape xs => 1 + vszP xs
def vszL : List Vl → Nat
  | [] => 0
  | x :: r => vsz x + vszL r
def vszP : List (Str × Vl) → Nat
  | [] => 0
  | (_, x) :: r => vsz x + vszP r
end
theorem vszL_sum : ∀ xs : List Vl, vszL xs = (xs.map vsz).sum
  | [] => rfl
  | x :: r => by rw [vszL, vszL_sum r]; rfl
theorem vszP_sum : ∀ xs : List (Str × Vl), vszP xs = ((xs.map (·.2)).map vsz).sum
  | [] => rfl
  | (_, x) :: r => by rw [vszP, vszP_sum r]; rfl
theorem vsz_parts (x : Vl) : vsz x = 1 + ((partsV x).map vsz).sum := by
  cases x with
  | num _ => rfl
  | text _ => rfl
  | row xs => rw [vsz, vszL_sum]; rfl
  | book xs => rw [vsz, vszP_sum]; rfl
  | shape xs => rw [vsz, vszP_sum]; rfl
theorem vsz_pos (x : Vl) : 0 < vsz x := by rw [vsz_parts]; omega
theorem sum_mem {f : Vl → Nat} {x : Vl} : ∀ {xs : List Vl}, x ∈ xs → f x ≤ (xs.map f).sum
  | y :: ys, h => by
    rw [List.map_cons, List.sum_cons]
    rcases List.mem_cons.mp h with e | e
    · rw [e]; omega
    · have := sum_mem (f := f) e; omega
theorem len_sum : ∀ xs : List Vl, xs.length ≤ (xs.map vsz).sum
  | [] => Nat.le_refl _
  | x :: r => by
    have := len_sum r
    have := vsz_pos x
    rw [List.map_cons, List.sum_cons, List.length_cons]
    omega
/-- what may stand where a value is -/
def valO : HO → Prop
  | .lst _ => True
  | .dK _ => True
  | .tup _ => True
  | _ => False
theorem IsV.keepO {H H' : Hp} {B B' : Addr → Prop} (e : ∀ a o, B a → H a = some o → valO o → B' a ∧ H' a = some o) {v : V} {x : Vl} (h : IsV H B v x) : IsV H' B' v x := by
  induction h with
  | num n => exact .num n
  | text t => exact .text t
  | row vs xs b hv hl _ ih => exact .row vs xs (e _ _ b hv trivial).1 (e _ _ b hv trivial).2 hl ih
  | book vs xs b hv hl nd _ ih => exact .book vs xs (e _ _ b hv trivial).1 (e _ _ b hv trivial).2 hl nd ih
  | shape as vs xs fld b ha hl hl2 hp _ ih => exact .shape as vs xs fld (e _ _ b ha trivial).1 (e _ _ b ha trivial).2 hl hl2 (fun j b v q h1 h2 h3 => let ⟨h4, h5⟩ := hp j b v q h1 h2 h3; e _ _ h4 h5 trivial) ih
theorem IsVs.keepO {H H' : Hp} {B B' : Addr → Prop} (e : ∀ a o, B a → H a = some o → valO o → B' a ∧ H' a = some o) {vs : List V} {xs : List Vl} (h : IsVs H B vs xs) : IsVs H' B' vs xs := ⟨h.1, fun j v x a b => (h.2 j v x a b).keepO e⟩
theorem Tb.valO {T : List Addr} {H : Hp} {a : Addr} {o : HO} (t : Tb T H) (h : H a = some o) (v : valO o) : a ∉ T := fun m => by
  obtain ⟨ps, g, _⟩ := t a m
  rw [h] at g
  cases g
  exact v
theorem IsV.fr {T : List Addr} {H H' : Hp} {B : Addr → Prop} (t : Tb T H) (f : Fr T H H') {v : V} {x : Vl} (h : IsV H B v x) : IsV H' B v x := h.keepO fun a o b e w => ⟨b, f.old a o e (t.valO e w)⟩
theorem IsVs.fr {T : List Addr} {H H' : Hp} {B : Addr → Prop} (t : Tb T H) (f : Fr T H H') {vs : List V} {xs : List Vl} (h : IsVs H B vs xs) : IsVs H' B vs xs := ⟨h.1, fun j v x a b => (h.2 j v x a b).fr t f⟩
theorem IsV.same {H H' : Hp} {B : Addr → Prop} (e : Same H H') {v : V} {x : Vl} (h : IsV H B v x) : IsV H' B v x := h.keep fun a o b q => ⟨b, e a o q⟩
theorem IsVs.same {H H' : Hp} {B : Addr → Prop} (e : Same H H') {vs : List V} {xs : List Vl} (h : IsVs H B vs xs) : IsVs H' B vs xs := h.keep fun a o b q => ⟨b, e a o q⟩
/-- where nothing is told of the addresses -/
def Any : Addr → Prop := fun _ => True
theorem IsV.any {H : Hp} {B : Addr → Prop} {v : V} {x : Vl} (h : IsV H B v x) : IsV H Any v x := h.keep fun _ _ _ q => ⟨trivial, q⟩
theorem IsVs.any {H : Hp} {B : Addr → Prop} {vs : List V} {xs : List Vl} (h : IsVs H B vs xs) : IsVs H Any vs xs := h.keep fun _ _ _ q => ⟨trivial, q⟩
theorem list_ext {α : Type} {xs ys : List α} (hl : xs.length = ys.length) (h : ∀ (j : Nat) (x y : α), xs[j]? = some x → ys[j]? = some y → x = y) : xs = ys := by
  refine List.ext_getElem hl fun j h1 h2 => h j _ _ (List.getElem?_eq_getElem h1) (List.getElem?_eq_getElem h2)
theorem zipK_inj {xs ys : List Str} {vs us : List V} (h1 : vs.length = xs.length) (h2 : us.length = ys.length) (e : (xs.map (Sum.inr : Str → Key)).zip vs = (ys.map (Sum.inr : Str → Key)).zip us) : xs = ys ∧ vs = us := by
  have f1 := congrArg (List.map Prod.fst) e
  have f2 := congrArg (List.map Prod.snd) e
  rw [List.map_fst_zip (by rw [List.length_map]; omega), List.map_fst_zip (by rw [List.length_map]; omega)] at f1
  rw [List.map_snd_zip (by rw [List.length_map]; omega), List.map_snd_zip (by rw [List.length_map]; omega)] at f2
  refine ⟨list_ext (by simpa using congrArg List.length f1) fun j x y e1 e2 => ?_, f2⟩
  have := congrArg (fun l : List Key => l[j]?) f1
  simp only [List.getElem?_map, e1, e2, Option.map_some, Option.some.injEq, Sum.inr.injEq] at this
  exact this
theorem IsV.det {H : Hp} {B B' : Addr → Prop} {v : V} {x y : Vl} (h : IsV H B v x) (g : IsV H B' v y) : x = y := by
  induction h generalizing y with
  | num n => cases g; rfl
  | text t => cases g; rfl
  | row vs xs b hv hl _ ih =>
    cases g with
    | row us ys b2 hu hl2 h2 =>
      rw [hv] at hu
      cases hu
      exact congrArg Vl.row (list_ext (by omega) fun j x y e1 e2 => by
        have lt : j < vs.length := by rw [hl]; exact (List.getElem?_eq_some_iff.mp e1).1
        exact ih j _ x (List.getElem?_eq_getElem lt) e1 (h2 j _ y (List.getElem?_eq_getElem lt) e2))
    | book us ys b2 hu => rw [hv] at hu; cases hu
    | shape as us ys _ b2 hu => rw [hv] at hu; cases hu
  | book vs xs b hv hl nd _ ih =>
    cases g with
    | row us ys b2 hu hl2 h2 => rw [hv] at hu; cases hu
    | shape as us ys _ b2 hu => rw [hv] at hu; cases hu
    | book us ys b2 hu hl2 nd2 h2 =>
      rw [hv] at hu
      have e : (xs.map fun q => (Sum.inr q.1 : Key)).zip vs = (ys.map fun q => (Sum.inr q.1 : Key)).zip us := by
        have := Option.some.inj hu
        exact HO.dK.inj this
      have e' : ((xs.map (·.1)).map (Sum.inr : Str → Key)).zip vs = ((ys.map (·.1)).map (Sum.inr : Str → Key)).zip us := by
        rw [List.map_map, List.map_map]; exact e
      obtain ⟨e1, rfl⟩ := zipK_inj (by rw [List.length_map]; exact hl) (by rw [List.length_map]; exact hl2) e'
      refine congrArg Vl.book (list_ext (by omega) fun j p q g1 g2 => ?_)
      have lt : j < vs.length := by rw [hl]; exact (List.getElem?_eq_some_iff.mp g1).1
      have f2 := ih j _ p (List.getElem?_eq_getElem lt) g1 (h2 j _ q (List.getElem?_eq_getElem lt) g2)
      have f1 := congrArg (fun l : List Str => l[j]?) e1
      simp only [List.getElem?_map, g1, g2, Option.map_some, Option.some.injEq] at f1
      exact Prod.ext f1 f2
  | @shape a as vs xs fld b ha hl hl2 hp _ ih =>
    cases g with
    | row us ys b2 hu hl2 h2 => rw [ha] at hu; cases hu
    | book us ys b2 hu => rw [ha] at hu; cases hu
    | shape as' us ys fld2 b2 hu hl3 hl4 hp2 h2 =>
      rw [ha] at hu
      have ea : as = as' := by
        have := HO.tup.inj (Option.some.inj hu)
        exact list_ext (by simpa using congrArg List.length this) fun j x y e1 e2 => by
          have q := congrArg (fun l : List V => l[j]?) this
          simp only [List.getElem?_map, e1, e2, Option.map_some, Option.some.injEq, V.ref.injEq] at q
          exact q
      subst ea
      refine congrArg Vl.shape (list_ext (by omega) fun j p q g1 g2 => ?_)
      have lt : j < xs.length := (List.getElem?_eq_some_iff.mp g1).1
      have l1 : j < as.length := by omega
      have l2 : j < vs.length := by omega
      have l3 : j < us.length := by have := (List.getElem?_eq_some_iff.mp g2).1; omega
      have t1 := (hp j _ _ p (List.getElem?_eq_getElem l1) (List.getElem?_eq_getElem l2) g1).2
      have t2 := (hp2 j _ _ q (List.getElem?_eq_getElem l1) (List.getElem?_eq_getElem l3) g2).2
      rw [t1] at t2
      have t3 := HO.tup.inj (Option.some.inj t2)
      have t4 : p.1 = q.1 ∧ vs[j] = us[j] := by simpa using t3
      refine Prod.ext t4.1 (ih j _ p (List.getElem?_eq_getElem l2) g1 ?_)
      rw [t4.2]
      exact h2 j _ q (List.getElem?_eq_getElem l3) g2
/-- a greater value stands elsewhere -/
theorem IsV.off {H : Hp} {B B' : Addr → Prop} {d : Addr} {z : Vl} (hz : IsV H B' (.ref d) z) (nz : ∀ xs, z ≠ .shape xs) {v : V} {x : Vl} (h : IsV H B v x) (lt : vsz x < vsz z) : IsV H (fun a => B a ∧ a ≠ d) v x := by
  have notup : ∀ xs, H d ≠ some (.tup xs) := fun xs e => by
    cases hz with
    | row us ys b2 hu hl2 h2 => rw [e] at hu; cases hu
    | book us ys b2 hu => rw [e] at hu; cases hu
    | shape as us ys _ b2 hu => exact nz _ rfl
  induction h with
  | num n => exact .num n
  | text t => exact .text t
  | @row a vs xs b hv hl hh ih =>
    have me : IsV H B (.ref a) (.row xs) := .row vs xs b hv hl hh
    have ne : a ≠ d := fun e => by subst e; rw [hz.det me] at lt; exact Nat.lt_irrefl _ lt
    refine .row vs xs ⟨b, ne⟩ hv hl fun j v x e1 e2 => ih j v x e1 e2 ?_
    have q := vsz_parts (.row xs)
    have := sum_mem (f := vsz) (List.mem_of_getElem? e2)
    have q' : vsz (.row xs) = 1 + (xs.map vsz).sum := q
    omega
  | @book a vs xs b hv hl nd hh ih =>
    have me : IsV H B (.ref a) (.book xs) := .book vs xs b hv hl nd hh
    have ne : a ≠ d := fun e => by subst e; rw [hz.det me] at lt; exact Nat.lt_irrefl _ lt
    refine .book vs xs ⟨b, ne⟩ hv hl nd fun j v x e1 e2 => ih j v x e1 e2 ?_
    have q : vsz (.book xs) = 1 + ((xs.map (·.2)).map vsz).sum := vsz_parts (.book xs)
    have := sum_mem (f := vsz) (List.mem_map_of_mem (f := (·.2)) (List.mem_of_getElem? e2))
    omega
  | @shape a as vs xs fld b ha hl hl2 hp hh ih =>
    have ne : a ≠ d := fun e => by subst e; exact notup _ ha
    refine .shape as vs xs fld ⟨b, ne⟩ ha hl hl2 (fun j b' v q h1 h2 h3 => ?_) fun j v x e1 e2 => ih j v x e1 e2 ?_
    · obtain ⟨h4, h5⟩ := hp j b' v q h1 h2 h3
      exact ⟨⟨h4, fun e => by subst e; exact notup _ h5⟩, h5⟩
    · have q : vsz (.shape xs) = 1 + ((xs.map (·.2)).map vsz).sum := vsz_parts (.shape xs)
      have := sum_mem (f := vsz) (List.mem_map_of_mem (f := (·.2)) (List.mem_of_getElem? e2))
      omega
/-- the head of a value that is a choice's -/
theorem head_inj {c c' : Ch} (h : hdOk c) (h' : hdOk c') (e : hdC c = hdC c') : hdWs c = hdWs c' := by
  have a := (hd_split h).1
  have b := (hd_split h').1
  rw [e] at a
  exact a.symm.trans b
/-! ### kinds of parts; heads that are alike -/
def nmC : Ch → List Str
  | .shape fs => fs.map (·.1) | _ => []
theorem hdWs_cons {c : Ch} (h : hdOk c) : hdWs c = wdC c :: nmC c := by
  cases c with
  | letter _ => exact h.elim
  | cut _ _ => exact h.elim
  | any _ => exact h.elim
  | wth _ => exact h.elim
  | _ => rfl
theorem head_same {x : Vl} {c : Ch} (hx : hdOk (vC x)) (hc : hdOk c) (e : headV x = hdC c) : wdC (vC x) = wdC c ∧ nmC (vC x) = nmC c := by
  rw [← vC_head] at e
  have := head_inj hx hc e
  rw [hdWs_cons hx, hdWs_cons hc] at this
  exact List.cons.inj this
theorem kinds_len {x : Vl} {c : Ch} (hx : hdOk (vC x)) (hc : hdOk c) (e : headV x = hdC c) : (partsV x).length = (kindsC c (partsV x).length).length := by
  obtain ⟨e1, e2⟩ := head_same hx hc e
  cases c with
  | letter _ => exact hc.elim
  | cut _ _ => exact hc.elim
  | any _ => exact hc.elim
  | wth _ => exact hc.elim
  | row k => exact (List.length_replicate ..).symm
  | book k => exact (List.length_replicate ..).symm
  | num =>
    cases x with
    | num _ => rfl
    | text _ => exact absurd e1 (by show ¬ ("text" : Str) = "number"; decide +kernel)
    | row _ => exact absurd e1 (by show ¬ ("row" : Str) = "number"; decide +kernel)
    | book _ => exact absurd e1 (by show ¬ ("book" : Str) = "number"; decide +kernel)
    | shape _ => exact absurd e1 (by show ¬ ("shape" : Str) = "number"; decide +kernel)
  | txt =>
    cases x with
    | num _ => exact absurd e1 (by show ¬ ("number" : Str) = "text"; decide +kernel)
    | text _ => rfl
    | row _ => exact absurd e1 (by show ¬ ("row" : Str) = "text"; decide +kernel)
    | book _ => exact absurd e1 (by show ¬ ("book" : Str) = "text"; decide +kernel)
    | shape _ => exact absurd e1 (by show ¬ ("shape" : Str) = "text"; decide +kernel)
  | shape fs =>
    cases x with
    | shape xs =>
      have e3 : (xs.map fun q => ((q.1, []) : Str × List Ch)).map (·.1) = fs.map (·.1) := e2
      have := congrArg List.length e3
      simp only [List.length_map] at this
      show (xs.map (·.2)).length = (fs.map (·.2)).length
      rw [List.length_map, List.length_map, this]
    | num _ => exact absurd e1 (by show ¬ ("number" : Str) = "shape"; decide +kernel)
    | text _ => exact absurd e1 (by show ¬ ("text" : Str) = "shape"; decide +kernel)
    | row _ => exact absurd e1 (by show ¬ ("row" : Str) = "shape"; decide +kernel)
    | book _ => exact absurd e1 (by show ¬ ("book" : Str) = "shape"; decide +kernel)
theorem kinds_kL {d : Nat} {c : Ch} {n : Nat} (h : kC d c) {k : List Ch} (m : k ∈ kindsC c n) : ∃ d', d = d' + 1 ∧ kL d' k := by
  cases c with
  | row k' =>
    have h' : 0 < d ∧ kL (d - 1) k' := h
    rw [(List.mem_replicate.mp m).2]
    exact ⟨d - 1, by omega, h'.2⟩
  | book k' =>
    have h' : 0 < d ∧ kL (d - 1) k' := h
    rw [(List.mem_replicate.mp m).2]
    exact ⟨d - 1, by omega, h'.2⟩
  | shape fs =>
    have h' : 0 < d ∧ Fld (fs.map (·.1)) ∧ kF (d - 1) fs := h
    obtain ⟨p, hp, rfl⟩ := List.mem_map.mp m
    exact ⟨d - 1, by omega, kF_mem h'.2.2 hp⟩
  | _ => exact absurd m (by simp [kindsC])
end Sc
namespace Sc
open PySem PySem.Spec PyProof.Rows L2
/-! ### drawn values, standings -/
mutual
/-- a value some n deep, rows and books short, texts and numbers as they are drawn -/
def vOk : Nat → Vl → Prop
  | _, .num n => -10 ^ 30 < n ∧ n < 10 ^ 30
  | _, .text t => Tex t
  | n, .row xs => 0 < n ∧ xs.length ≤ 26 ∧ vOkL (n - 1) xs
  | n, .book xs => 0 < n ∧ xs.length ≤ 26 ∧ (∀ t ∈ xs.map (·.1), Tex t) ∧ (xs.map (·.1)).Nodup ∧ vOkP (n - 1) xs
  | n, .shape xs => 0 < n ∧ Fld (xs.map (·.1)) ∧ vOkP (n - 1) xs
def vOkL : Nat → List Vl → Prop
  | _, [] => True
  | n, x :: r => vOk n x ∧ vOkL n r
def vOkP : Nat → List (Str × Vl) → Prop
  | _, [] => True
  | n, (_, x) :: r => vOk n x ∧ vOkP n r
end
theorem vOkL_iff {n : Nat} : ∀ {xs : List Vl}, vOkL n xs ↔ ∀ x ∈ xs, vOk n x
  | [] => by simp [vOkL]
  | x :: r => by
    unfold vOkL
    rw [vOkL_iff]
    simp
theorem vOkP_iff {n : Nat} : ∀ {xs : List (Str × Vl)}, vOkP n xs ↔ ∀ p ∈ xs, vOk n p.2
  | [] => by simp [vOkP]
  | (t, x) :: r => by
    unfold vOkP
    rw [vOkP_iff]
    simp
mutual
theorem vOk_mono : ∀ {n m : Nat} {x : Vl}, n ≤ m → vOk n x → vOk m x
  | _, _, .num _, _, h => h
  | _, _, .text _, _, h => h
  | n, m, .row xs, l, h => by
    have h' : 0 < n ∧ xs.length ≤ 26 ∧ vOkL (n - 1) xs := h
    exact ⟨by omega, h'.2.1, vOkL_mono (by omega) h'.2.2⟩
  | n, m, .book xs, l, h => by
    have h' : 0 < n ∧ xs.length ≤ 26 ∧ (∀ t ∈ xs.map (·.1), Tex t) ∧ (xs.map (·.1)).Nodup ∧ vOkP (n - 1) xs := h
    exact ⟨by omega, h'.2.1, h'.2.2.1, h'.2.2.2.1, vOkP_mono (by omega) h'.2.2.2.2⟩
  | n, m, .shape xs, l, h => by
    have h' : 0 < n ∧ Fld (xs.map (·.1)) ∧ vOkP (n - 1) xs := h
    exact ⟨by omega, h'.2.1, vOkP_mono (by omega) h'.2.2⟩
theorem vOkL_mono : ∀ {n m : Nat} {xs : List Vl}, n ≤ m → vOkL n xs → vOkL m xs
  | _, _, [], _, _ => trivial
  | _, _, _ :: _, l, h => ⟨vOk_mono l h.1, vOkL_mono l h.2⟩
theorem vOkP_mono : ∀ {n m : Nat} {xs : List (Str × Vl)}, n ≤ m → vOkP n xs → vOkP m xs
  | _, _, [], _, _ => trivial
  | _, _, (_, _) :: _, l, h => ⟨vOk_mono l h.1, vOkP_mono l h.2⟩
end
theorem vOk_parts {n : Nat} {x : Vl} (h : vOk n x) : (partsV x).length ≤ 26 ∧ ∀ y ∈ partsV x, 0 < n ∧ vOk (n - 1) y := by
  cases x with
  | num _ => exact ⟨Nat.zero_le _, fun y m => by simp [partsV] at m⟩
  | text _ => exact ⟨Nat.zero_le _, fun y m => by simp [partsV] at m⟩
  | row xs =>
    have h' : 0 < n ∧ xs.length ≤ 26 ∧ vOkL (n - 1) xs := h
    exact ⟨h'.2.1, fun y m => ⟨h'.1, vOkL_iff.mp h'.2.2 y m⟩⟩
  | book xs =>
    have h' : 0 < n ∧ xs.length ≤ 26 ∧ (∀ t ∈ xs.map (·.1), Tex t) ∧ (xs.map (·.1)).Nodup ∧ vOkP (n - 1) xs := h
    refine ⟨by show (xs.map (·.2)).length ≤ 26; rw [List.length_map]; exact h'.2.1, fun y m => ?_⟩
    obtain ⟨p, hp, rfl⟩ := List.mem_map.mp (show y ∈ xs.map (·.2) from m)
    exact ⟨h'.1, vOkP_iff.mp h'.2.2.2.2 p hp⟩
  | shape xs =>
    have h' : 0 < n ∧ Fld (xs.map (·.1)) ∧ vOkP (n - 1) xs := h
    refine ⟨by have := h'.2.1.2.1; rw [List.length_map] at this; show (xs.map (·.2)).length ≤ 26; rw [List.length_map]; exact this, fun y m => ?_⟩
    obtain ⟨p, hp, rfl⟩ := List.mem_map.mp (show y ∈ xs.map (·.2) from m)
    exact ⟨h'.1, vOkP_iff.mp h'.2.2 p hp⟩
theorem sum_le {f : Vl → Nat} {b : Nat} : ∀ {xs : List Vl}, (∀ x ∈ xs, f x ≤ b) → (xs.map f).sum ≤ xs.length * b
  | [], _ => Nat.zero_le _
  | x :: r, h => by
    have := sum_le (f := f) (b := b) (xs := r) fun y m => h y (List.mem_cons_of_mem _ m)
    have := h x List.mem_cons_self
    rw [List.map_cons, List.sum_cons, List.length_cons, Nat.add_mul]
    omega
theorem vOk_sz : ∀ (n : Nat) {x : Vl}, vOk n x → vsz x ≤ 27 ^ n
  | 0, x, h => by
    have z : partsV x = [] := by
      cases e : partsV x with
      | nil => rfl
      | cons y r => exact absurd ((vOk_parts h).2 y (by rw [e]; exact List.mem_cons_self)).1 (Nat.lt_irrefl _)
    rw [vsz_parts, z]
    exact Nat.le_refl _
  | n + 1, x, h => by
    obtain ⟨l, hp⟩ := vOk_parts h
    have := sum_le (f := vsz) (b := 27 ^ n) fun y m => vOk_sz n (hp y m).2
    have p : 0 < 27 ^ n := Nat.pow_pos (by decide)
    have q : (partsV x).length * 27 ^ n ≤ 26 * 27 ^ n := Nat.mul_le_mul_right _ l
    rw [vsz_parts, Nat.pow_succ]
    omega
/-- a standing at b: each letter's list -/
def IsSt (H : Hp) (B : Addr → Prop) (b : Addr) (ss : List (Str × List Vl)) : Prop := ∃ vs : List V, B b ∧ H b = some (.dK (zipK ss vs)) ∧ vs.length = ss.length ∧ (ss.map (·.1)).Nodup ∧
  ∀ (j : Nat) (v : V) (q : Str × List Vl), vs[j]? = some v → ss[j]? = some q → ∃ l us, v = .ref l ∧ B l ∧ H l = some (.lst us) ∧ IsVs H (fun a => B a ∧ a ≠ b) us q.2
theorem IsSt.keepO {H H' : Hp} {B B' : Addr → Prop} {b : Addr} {ss : List (Str × List Vl)} (h : IsSt H B b ss) (e : ∀ a o, B a → H a = some o → valO o → B' a ∧ H' a = some o) : IsSt H' B' b ss := by
  obtain ⟨vs, b1, b2, b3, b4, b5⟩ := h
  obtain ⟨c1, c2⟩ := e _ _ b1 b2 trivial
  refine ⟨vs, c1, c2, b3, b4, fun j v q h1 h2 => ?_⟩
  obtain ⟨l, us, rfl, g1, g2, g3⟩ := b5 j v q h1 h2
  obtain ⟨c3, c4⟩ := e _ _ g1 g2 trivial
  exact ⟨l, us, rfl, c3, c4, g3.keepO fun a o h w u => ⟨⟨(e a o h.1 w u).1, h.2⟩, (e a o h.1 w u).2⟩⟩
theorem IsSt.at {H : Hp} {B : Addr → Prop} {b : Addr} {ss : List (Str × List Vl)} (h : IsSt H B b ss) {q : Str × List Vl} (m : q ∈ ss) : ∃ l us, DGet H b (.str q.1) (some (.ref l)) ∧ B l ∧ H l = some (.lst us) ∧ IsVs H (fun a => B a ∧ a ≠ b) us q.2 := by
  obtain ⟨vs, b1, b2, b3, b4, b5⟩ := h
  obtain ⟨j, e⟩ := List.getElem?_of_mem m
  have lt : j < vs.length := b3 ▸ (List.getElem?_eq_some_iff.mp e).1
  have g := zipK_get b4 e (List.getElem?_eq_getElem lt)
  obtain ⟨l, us, e1, g1, g2, g3⟩ := b5 j _ q (List.getElem?_eq_getElem lt) e
  rw [e1] at g
  exact ⟨l, us, by rw [← g]; exact DGet.k (k := Sum.inr q.1) b2, g1, g2, g3⟩
mutual
/-- kinds some n deep of which a value may be drawn -/
def wC (ss : List (Str × List Vl)) : Nat → Ch → Prop
  | _, .num => True
  | _, .txt => True
  | n, .row k => 0 < n ∧ k ≠ [] ∧ k.length ≤ 30 ∧ wL ss (n - 1) k
  | n, .book k => 0 < n ∧ k ≠ [] ∧ k.length ≤ 30 ∧ wL ss (n - 1) k
  | n, .shape fs => 0 < n ∧ Fld (fs.map (·.1)) ∧ wF ss (n - 1) fs
  | _, .letter l => ∃ q ∈ ss, q.1 = l ∧ q.2 ≠ [] ∧ q.2.length ≤ 100
  | _, .cut l _ => ∃ q ∈ ss, q.1 = l ∧ q.2 ≠ [] ∧ q.2.length ≤ 100
  | _, _ => False
def wL (ss : List (Str × List Vl)) : Nat → List Ch → Prop
  | _, [] => True
  | n, c :: r => wC ss n c ∧ wL ss n r
def wF (ss : List (Str × List Vl)) : Nat → List (Str × List Ch) → Prop
  | _, [] => True
  | n, (_, k) :: r => k ≠ [] ∧ k.length ≤ 30 ∧ wL ss n k ∧ wF ss n r
end
theorem wL_iff {ss : List (Str × List Vl)} {n : Nat} : ∀ {k : List Ch}, wL ss n k ↔ ∀ c ∈ k, wC ss n c
  | [] => by simp [wL]
  | c :: r => by
    unfold wL
    rw [wL_iff]
    simp
theorem wF_iff {ss : List (Str × List Vl)} {n : Nat} : ∀ {fs : List (Str × List Ch)}, wF ss n fs ↔ ∀ p ∈ fs, p.2 ≠ [] ∧ p.2.length ≤ 30 ∧ wL ss n p.2
  | [] => by simp [wF]
  | (t, k) :: r => by
    unfold wF
    rw [wF_iff]
    simp [and_assoc]
mutual
theorem wC_of {ss : List (Str × List Vl)} {ls : List Str} (hs : ∀ l ∈ ls, ∃ q ∈ ss, q.1 = l ∧ q.2 ≠ [] ∧ q.2.length ≤ 100) : ∀ {n : Nat} {c : Ch}, okC ls n c → wC ss n c
  | _, .num, _ => trivial
  | _, .txt, _ => trivial
  | n, .row k, h => by
    have h' : 0 < n ∧ k ≠ [] ∧ k.length ≤ 3 ∧ okL ls (n - 1) k := h
    exact ⟨h'.1, h'.2.1, by omega, wL_of hs h'.2.2.2⟩
  | n, .book k, h => by
    have h' : 0 < n ∧ k ≠ [] ∧ k.length ≤ 3 ∧ okL ls (n - 1) k := h
    exact ⟨h'.1, h'.2.1, by omega, wL_of hs h'.2.2.2⟩
  | n, .shape fs, h => by
    have h' : 0 < n ∧ fs.length ≤ 2 ∧ Fld (fs.map (·.1)) ∧ okF ls (n - 1) fs := h
    exact ⟨h'.1, h'.2.2.1, wF_of hs h'.2.2.2⟩
  | _, .letter l, h => hs l h
  | _, .cut _ _, h => (show False from h).elim
  | _, .any _, h => (show False from h).elim
  | _, .wth _, h => (show False from h).elim
theorem wL_of {ss : List (Str × List Vl)} {ls : List Str} (hs : ∀ l ∈ ls, ∃ q ∈ ss, q.1 = l ∧ q.2 ≠ [] ∧ q.2.length ≤ 100) : ∀ {n : Nat} {k : List Ch}, okL ls n k → wL ss n k
  | _, [], _ => trivial
  | _, _ :: _, h => ⟨wC_of hs h.1, wL_of hs h.2⟩
theorem wF_of {ss : List (Str × List Vl)} {ls : List Str} (hs : ∀ l ∈ ls, ∃ q ∈ ss, q.1 = l ∧ q.2 ≠ [] ∧ q.2.length ≤ 100) : ∀ {n : Nat} {fs : List (Str × List Ch)}, okF ls n fs → wF ss n fs
  | _, [], _ => trivial
  | _, (_, _) :: _, h => ⟨h.2.1, by have := h.2.2.1; omega, wL_of hs h.2.2.2.1, wF_of hs h.2.2.2.2⟩
end
/-- a drawn value: its things new, or the standing's -/
def spValW (K : PySem.W.Frag) (n : Nat) : Sp := fun vs H Q _ => ∃ (s b : Addr) (i : Inf) (v : V) (d m : Nat) (k : List Ch) (ss : List (Str × List Vl)) (Bs : Addr → Prop), vs = [.ref s, v, .ref b] ∧ IsS K H s i ∧ d < n ∧ IsK K H v k ∧ k ≠ [] ∧ k.length ≤ 30 ∧ wL ss d k ∧
  IsSt H Bs b ss ∧ (∀ a, Bs a → a ≠ s ∧ ∃ o, H a = some o) ∧ (∀ q ∈ ss, ∀ y ∈ q.2, vOk m y) ∧
  ∀ (r : V) (H' : Hp) (x : Vl), Ext s H H' → IsS K H' s i → IsV H' (fun a => H a = none ∨ (Bs a ∧ a ≠ b)) r x → vOk (d + m) x → (∃ c ∈ k, hdOk c → headV x = hdC c) → Q r H'
theorem wform {ss : List (Str × List Vl)} {d : Nat} {c : Ch} (h : wC ss d c) : c = .num ∨ c = .txt ∨ (∃ d' fs, d = d' + 1 ∧ c = .shape fs ∧ Fld (fs.map (·.1)) ∧ wF ss d' fs) ∨
    (∃ (d' : Nat) (wd : Str) (kk : List Ch), d = d' + 1 ∧ (wd = "row" ∨ wd = "book") ∧ pyC c = .tuple [.str wd, .tuple (pyL kk)] ∧ hdC c = wd ∧ kk ≠ [] ∧ kk.length ≤ 30 ∧ wL ss d' kk) ∨
    ∃ (wd l : Str) (ds : List PyData) (ys : List Vl), (wd = "letter" ∨ wd = "cut") ∧ pyC c = .tuple (.str wd :: .str l :: ds) ∧ ¬ hdOk c ∧ (l, ys) ∈ ss ∧ ys ≠ [] ∧ ys.length ≤ 100 := by
  cases c with
  | num => exact .inl rfl
  | txt => exact .inr (.inl rfl)
  | row k =>
    obtain ⟨h0, h1, h2, h3⟩ : 0 < d ∧ k ≠ [] ∧ k.length ≤ 30 ∧ wL ss (d - 1) k := h
    exact .inr (.inr (.inr (.inl ⟨d - 1, "row", k, by omega, .inl rfl, rfl, rfl, h1, h2, h3⟩)))
  | book k =>
    obtain ⟨h0, h1, h2, h3⟩ : 0 < d ∧ k ≠ [] ∧ k.length ≤ 30 ∧ wL ss (d - 1) k := h
    exact .inr (.inr (.inr (.inl ⟨d - 1, "book", k, by omega, .inr rfl, rfl, rfl, h1, h2, h3⟩)))
  | shape fs =>
    obtain ⟨h0, h1, h3⟩ : 0 < d ∧ Fld (fs.map (·.1)) ∧ wF ss (d - 1) fs := h
    exact .inr (.inr (.inl ⟨d - 1, fs, by omega, rfl, h1, h3⟩))
  | letter l =>
    obtain ⟨q, hq, rfl, h1, h2⟩ : ∃ q ∈ ss, q.1 = l ∧ q.2 ≠ [] ∧ q.2.length ≤ 100 := by cases d <;> exact h
    exact .inr (.inr (.inr (.inr ⟨"letter", q.1, [], q.2, .inl rfl, rfl, (fun z => z), hq, h1, h2⟩)))
  | cut l hs =>
    obtain ⟨q, hq, rfl, h1, h2⟩ : ∃ q ∈ ss, q.1 = l ∧ q.2 ≠ [] ∧ q.2.length ≤ 100 := by cases d <;> exact h
    exact .inr (.inr (.inr (.inr ⟨"cut", q.1, [.tuple (hs.map .str)], q.2, .inr rfl, rfl, (fun z => z), hq, h1, h2⟩)))
  | any l => exact (show False by cases d <;> exact h).elim
  | wth l => exact (show False by cases d <;> exact h).elim
end Sc
namespace Sc
open PySem PySem.Spec PyProof.Rows L2
/-! ### dicts that are locked -/
/-- the heap, its dicts not locked -/
def un (H : Hp) : Hp := fun a => match H a with
  | some (.frz _ (.dK kvs)) => some (.dK kvs)
  | o => o
theorem un_dk {H : Hp} {a : Addr} {kvs : List (Key × V)} (h : un H a = some (.dK kvs)) : Rd H a (.dK kvs) := by
  unfold un at h
  split at h
  · rename_i o kvs' e
    cases h
    exact .inr ⟨_, e⟩
  · exact .inl h
theorem un_lst {H : Hp} {a : Addr} {xs : List V} (h : un H a = some (.lst xs)) : H a = some (.lst xs) := by
  unfold un at h
  split at h
  · cases h
  · exact h
theorem un_tup {H : Hp} {a : Addr} {xs : List V} (h : un H a = some (.tup xs)) : H a = some (.tup xs) := by
  unfold un at h
  split at h
  · cases h
  · exact h
theorem un_of {H : Hp} {a : Addr} {o : HO} (h : H a = some o) (v : valO o) : un H a = some o := by
  unfold un
  rw [h]
  cases o <;> first | rfl | exact v.elim
theorem un_rd {H : Hp} {a : Addr} {kvs : List (Key × V)} (h : Rd H a (.dK kvs)) : un H a = some (.dK kvs) := by
  unfold un
  rcases h with h | ⟨o, h⟩ <;> rw [h]
theorem un_same {H H' : Hp} (e : Same H H') : Same (un H) (un H') := fun a o h => by
  unfold un at h ⊢
  cases q : H a with
  | none => rw [q] at h; cases h
  | some u => rw [e _ _ q]; rw [q] at h; exact h
theorem un_lock {H : Hp} {a : Addr} {kvs : List (Key × V)} {o : Obj} (h : H a = some (.dK kvs)) : un (upd H a (.frz o (.dK kvs))) = un H := by
  funext b
  unfold un
  by_cases z : b = a
  · rw [z, upd_same, h]
  · rw [upd_ne z]
theorem IsV.un {H : Hp} {B : Addr → Prop} {v : V} {x : Vl} (h : IsV H B v x) : IsV (un H) B v x := h.keepO fun _ _ b e w => ⟨b, un_of e w⟩
theorem IsVs.un {H : Hp} {B : Addr → Prop} {vs : List V} {xs : List Vl} (h : IsVs H B vs xs) : IsVs (un H) B vs xs := h.keepO fun _ _ b e w => ⟨b, un_of e w⟩
theorem sqT_un {K : PySem.W.Frag} {H : Hp} {a : Addr} {xs : List V} (h : SqT K (un H) a xs) : SqT K H a xs := by
  rcases h with (h | ⟨o, h⟩) | h
  · exact .inl (.inl (un_tup h))
  · refine .inl (.inr ⟨o, ?_⟩)
    unfold Sc.un at h
    split at h
    · cases h
    · exact h
  · exact .inr h
theorem tyU {K : PySem.W.Frag} {H : Hp} {B : Addr → Prop} {v : V} {x : Vl} (h : IsV (un H) B v x) : TyX K H v (.type (headT x)) := by
  cases h with
  | num n => exact .base (.int n)
  | text t => exact .base (.str t)
  | row vs xs b hv => exact .base (.lst (un_lst hv))
  | book vs xs b hv =>
    rcases un_dk hv with h | ⟨o, h⟩
    · exact .base (.dK h)
    · exact .fDict h
  | shape as vs xs _ b ha => exact .base (.tup (un_tup ha))
theorem names_shapeU {K : PySem.W.Frag} {H : Hp} {B : Addr → Prop} {v : V} {xs : List (Str × Vl)} (h : IsV (un H) B v (.shape xs)) : ∃ a, v = .ref a ∧ Names K H a (xs.map (·.1)) ∧ Fld (xs.map (·.1)) := by
  obtain ⟨a, e, ⟨ps, h1, h2, h3⟩, f⟩ := names_shape (K := K) h
  exact ⟨a, e, ⟨ps, sqT_un h1, h2, fun j p z g1 g2 => let ⟨b, us, e1, e2⟩ := h3 j p z g1 g2; ⟨b, us, e1, sqT_un e2⟩⟩, f⟩
def tLockO (t : TE) : TE := fun σ H Q => tLockE t σ H Q ∨ t σ H Q
theorem pe_lockO {X : Cx} {e : Expr} {t : TE} (h : PE X e t) : PE X e (tLockO t) := ⟨fun pins s σ H Q I hw => hw.elim (fun hw => (pe_lock h).run pins s σ H Q I hw) fun hw => h.run pins s σ H Q I hw⟩
/-- a comprehension over a locked dict's keys -/
theorem lc_keysK {d : Addr} {o : Obj} {kvs : List (Key × V)} {g : TG} {tt : TT} {te : TE} {vs : List Nat} {σ : L2.St} {H1 : Hp} {D : Addr} {Qd : Hp → Prop} (Pv : Nat → Hp → Prop) (h0 : Pv 0 (upd H1 D (.lst []))) (hl : ∀ i H, i ≤ kvs.length → Pv i H → H d = some (.frz o (.dK kvs)))
    (hs : ∀ i k v H, kvs[i]? = some (k, v) → Pv i H → g (kV k) (wipe σ vs) H fun σ2 H2 => wipe σ2 vs = wipe σ vs ∧ tt σ2 H2 fun b H3 =>
      if b = true then te σ2 H3 fun y H4 => ∃ acc, H4 D = some (.lst acc) ∧ acc.length < sizeLine ∧ Pv (i + 1) (upd H4 D (.lst (acc ++ [y]))) else Pv (i + 1) H3) (hd : ∀ H, Pv kvs.length H → Qd H) :
    ∃ W : Nat → Nat → Hp → Prop, (∃ m, W 0 m (upd H1 D (.lst []))) ∧ ∀ i m H, W i m H →
      ((Itk d o kvs).stop i H ∧ Qd H) ∨ ((Itk d o kvs).go i H ∧ ∃ Nx : Hp → Prop, (∀ H', Nx H' → ∃ m', m' < m ∧ W (i + 1) m' H') ∧ ∀ x H', (Itk d o kvs).yld i H x H' → g x (wipe σ vs) H' fun σ2 H2 => wipe σ2 vs = wipe σ vs ∧ tt σ2 H2 fun b H3 =>
        if b = true then te σ2 H3 fun y H4 => ∃ acc, H4 D = some (.lst acc) ∧ acc.length < sizeLine ∧ Nx (upd H4 D (.lst (acc ++ [y]))) else Nx H3) := by
  refine ⟨fun i m H => m = kvs.length - i ∧ i ≤ kvs.length ∧ Pv i H, ⟨kvs.length, by simp, Nat.zero_le _, h0⟩, ?_⟩
  rintro i m H ⟨rfl, hi, p⟩
  have q := hl i H hi p
  by_cases hlt : i < kvs.length
  · refine .inr ⟨⟨q, hlt⟩, Pv (i + 1), fun H' p' => ⟨kvs.length - (i + 1), by omega, rfl, hlt, p'⟩, fun x H' y => ?_⟩
    obtain ⟨e, k, v, e1, e2⟩ := y
    subst e e2
    exact hs i k v _ e1 p
  · have e : i = kvs.length := by omega
    subst e
    exact .inl ⟨⟨q, Nat.le_refl _⟩, hd H p⟩
/-! ### values that are alike, as a law walks them -/
def lk (ys : List (Str × Vl)) (t : Str) : Vl := ((ys.find? fun q => q.1 == t).map (·.2)).getD (.num 0)
def mates : Vl → Vl → List Vl
  | .book xs, .book ys => xs.map fun p => lk ys p.1
  | _, y => partsV y
def flat2 : Vl → Vl → Bool
  | .num a, .num b => decide (a = b)
  | .text a, .text b => decide (a = b)
  | .row xs, .row ys => decide (xs.length = ys.length)
  | .book xs, .book ys => decide ((∀ t ∈ xs.map (·.1), t ∈ ys.map (·.1)) ∧ ∀ t ∈ ys.map (·.1), t ∈ xs.map (·.1))
  | _, _ => true
def smV : Nat → Vl → Vl → Bool
  | 0, _, _ => false
  | n + 1, x, y => decide (headV x = headV y) && (flat2 x y && ((partsV x).zip (mates x y)).all fun p => smV n p.1 p.2)
theorem lk_mem {ys : List (Str × Vl)} (nd : (ys.map (·.1)).Nodup) {q : Str × Vl} (m : q ∈ ys) : lk ys q.1 = q.2 := by
  induction ys with
  | nil => cases m
  | cons p r ih =>
    obtain ⟨n1, n2⟩ := List.nodup_cons.mp (show (p.1 :: r.map (·.1)).Nodup from nd)
    unfold lk
    rcases List.mem_cons.mp m with e | e
    · rw [List.find?_cons_of_pos (by rw [e]; exact beq_self_eq_true _), e]; rfl
    · have ne : p.1 ≠ q.1 := fun z => n1 (by rw [z]; exact List.mem_map_of_mem e)
      rw [List.find?_cons_of_neg (by simpa using ne)]
      exact ih n2 e
theorem mates_self {n : Nat} {x : Vl} (h : vOk n x) : mates x x = partsV x := by
  cases x with
  | book xs =>
    have h' : 0 < n ∧ xs.length ≤ 26 ∧ (∀ t ∈ xs.map (·.1), Tex t) ∧ (xs.map (·.1)).Nodup ∧ vOkP (n - 1) xs := h
    exact List.map_congr_left fun p hp => lk_mem h'.2.2.2.1 hp
  | _ => rfl
theorem flat2_self (x : Vl) : flat2 x x = true := by
  cases x with
  | num _ => exact decide_eq_true rfl
  | text _ => exact decide_eq_true rfl
  | row _ => exact decide_eq_true rfl
  | book _ => exact decide_eq_true ⟨fun _ h => h, fun _ h => h⟩
  | shape _ => rfl
theorem smV_self : ∀ (n : Nat) {x : Vl}, vOk n x → smV (n + 1) x x = true
  | n, x, h => by
    unfold smV
    rw [decide_eq_true rfl, flat2_self, mates_self h, Bool.true_and, Bool.true_and]
    refine List.all_eq_true.mpr fun p hp => ?_
    obtain ⟨j, hj⟩ := List.getElem?_of_mem hp
    obtain ⟨h1, h2⟩ := List.getElem?_zip_eq_some.mp hj
    have e : p.1 = p.2 := by rw [h1] at h2; exact Option.some.inj h2
    obtain ⟨n0, hy⟩ := (vOk_parts h).2 p.1 (List.mem_of_getElem? h1)
    rw [← e, show n = n - 1 + 1 by omega]
    exact smV_self (n - 1) hy
  termination_by n => n
/-- tests one by one -/
theorem all_range {α : Type} {xs : List α} {f : α → Bool} {g : Nat → Bool} (h : ∀ (j : Nat) (x : α), xs[j]? = some x → g j = f x) : (((List.range xs.length).map g).all id) = xs.all f := by
  rw [Bool.eq_iff_iff, List.all_eq_true, List.all_eq_true]
  constructor
  · intro a x hx
    obtain ⟨j, hj⟩ := List.getElem?_of_mem hx
    have := a (g j) (List.mem_map_of_mem (List.mem_range.mpr (List.getElem?_eq_some_iff.mp hj).1))
    rw [← h j x hj]
    exact this
  · intro a b hb
    obtain ⟨j, hj, rfl⟩ := List.mem_map.mp hb
    have lt := List.mem_range.mp hj
    have e := List.getElem?_eq_getElem lt
    show g j = true
    rw [h j _ e]
    exact a _ (List.getElem_mem lt)
theorem any_range {α : Type} {xs : List α} {f : α → Bool} {g : Nat → Bool} (h : ∀ (j : Nat) (x : α), xs[j]? = some x → g j = f x) : (((List.range xs.length).map g).any id) = xs.any f := by
  rw [Bool.eq_iff_iff, List.any_eq_true, List.any_eq_true]
  constructor
  · rintro ⟨b, hb, e⟩
    obtain ⟨j, hj, rfl⟩ := List.mem_map.mp hb
    have lt := List.mem_range.mp hj
    have e2 : g j = true := e
    rw [h j _ (List.getElem?_eq_getElem lt)] at e2
    exact ⟨_, List.getElem_mem lt, e2⟩
  · rintro ⟨x, hx, e⟩
    obtain ⟨j, hj⟩ := List.getElem?_of_mem hx
    exact ⟨g j, List.mem_map_of_mem (List.mem_range.mpr (List.getElem?_eq_some_iff.mp hj).1), by rw [h j x hj]; exact e⟩
theorem headV_ne {x : Vl} (h : hdOk (vC x)) : headV x ≠ "" := by
  cases x with
  | shape xs =>
    have fld : Fld ((xs.map fun q => ((q.1, []) : Str × List Ch)).map (·.1)) := h
    rw [vC_names] at fld
    show Txt.join " " ("shape" :: xs.map (·.1)) ≠ _
    rw [head_text fld.1]
    intro e
    have := congrArg (fun z : Str => z.cps.toList.length) e
    have e2 : (("shape " : Str) ++ Txt.join " " (xs.map (·.1))).cps.toList.length = 6 + (Txt.join " " (xs.map (·.1))).cps.toList.length := by rw [app_list, List.length_append]; rfl
    have e3 : ("" : Str).cps.toList.length = 0 := rfl
    have this : ((("shape " : Str) ++ Txt.join " " (xs.map (·.1))).cps.toList.length) = ("" : Str).cps.toList.length := this
    rw [e2, e3] at this
    omega
  | num _ => show ("number" : Str) ≠ ""; decide +kernel
  | text _ => show ("text" : Str) ≠ ""; decide +kernel
  | row _ => show ("row" : Str) ≠ ""; decide +kernel
  | book _ => show ("book" : Str) ≠ ""; decide +kernel
def spHeadU : Sp := fun vs H Q _ => ∃ (v : V) (B : Addr → Prop) (x : Vl), vs = [v] ∧ IsV (un H) B v x ∧
  ∀ (H' : Hp), Same H H' → Q (.str (headV x)) H'
def spSame (n : Nat) : Sp := fun vs H Q _ => ∃ (v u : V) (B B' : Addr → Prop) (x y : Vl) (d m : Nat), vs = [v, u] ∧ IsV (un H) B v x ∧ IsV (un H) B' u y ∧ vOk d x ∧ vOk m y ∧ d < n ∧
  ∀ (H' : Hp), Same H H' → Q (.bl (smV (d + 1) x y)) H'
end Sc
namespace Sc
open PySem PySem.Spec PyProof.Rows L2
theorem lockO_of {t : TE} {σ : L2.St} {H : Hp} {Q : VK} {a : Addr} {kvs : List (Key × V)} (hR : Rd H a (.dK kvs))
    (h : ∀ (Hf : Hp) (od : Obj), Hf a = some (.frz od (.dK kvs)) → un Hf = un H → (∀ b o, b ≠ a → H b = some o → Hf b = some o) → (∀ b, Hf b = none → H b = none) →
      ∀ Q' : VK, (∀ v H2, Same Hf H2 → (∀ H3 : Hp, Same H H3 → un H3 = un H2 → (∀ b o, b ≠ a → H2 b = some o → H3 b = some o) → Q v H3) → Q' v H2) → t σ Hf Q') : tLockO t σ H Q := by
  rcases hR with hd | ⟨o, hd⟩
  · refine .inl ⟨a, _, hd, trivial, fun od => ?_⟩
    refine h _ od upd_same (un_lock hd) (fun b o n e => by rw [upd_ne n]; exact e) (fun b e => ?_) _ fun v H2 e2 q => ⟨e2 _ _ upd_same, q _ (fun b o e => ?_) ?_ fun b o n e => by rw [upd_ne n]; exact e⟩
    · by_cases z : b = a
      · rw [z, upd_same] at e; cases e
      · rw [upd_ne z] at e; exact e
    · by_cases z : b = a
      · rw [z, upd_same, ← hd, ← z]; exact e
      · rw [upd_ne z]
        exact e2 _ _ (by rw [upd_ne z]; exact e)
    · have e4 := e2 a _ upd_same
      funext b
      unfold un
      by_cases z : b = a
      · rw [z, upd_same, e4]
      · rw [upd_ne z]
  · exact .inr (h H o hd rfl (fun _ _ _ e => e) (fun _ e => e) Q fun v H2 e2 q => q H2 e2 rfl fun _ _ _ e => e)
end Sc
namespace Sc
open PySem PySem.Spec PyProof.Rows L2
/-! ### values of kinds, as a law walks them -/
def lookS (ss : List (Str × List Vl)) (l : Str) : List Vl := ((ss.find? fun q => q.1 == l).map (·.2)).getD []
theorem lookS_mem {ss : List (Str × List Vl)} (nd : (ss.map (·.1)).Nodup) {q : Str × List Vl} (m : q ∈ ss) : lookS ss q.1 = q.2 := by
  induction ss with
  | nil => cases m
  | cons p r ih =>
    obtain ⟨n1, n2⟩ := List.nodup_cons.mp (show (p.1 :: r.map (·.1)).Nodup from nd)
    unfold lookS
    rcases List.mem_cons.mp m with e | e
    · rw [List.find?_cons_of_pos (by rw [e]; exact beq_self_eq_true _), e]; rfl
    · have ne : p.1 ≠ q.1 := fun z => n1 (by rw [z]; exact List.mem_map_of_mem e)
      rw [List.find?_cons_of_neg (by simpa using ne)]
      exact ih n2 e
def lawC (ss : List (Str × List Vl)) (f : List Ch → Vl → Bool) (c : Ch) (x : Vl) : Bool := match c with
  | .letter l => (lookS ss l).any fun y => smV 9 x y
  | .cut l hs => decide (headV x ∈ hs) && (lookS ss l).any fun y => smV 9 x y
  | .any w => decide (headV x = w)
  | .wth z => ans (.has z) (headV x)
  | c => decide (headV x = hdC c) && partsB f c x
def isL (ss : List (Str × List Vl)) : Nat → List Ch → Vl → Bool
  | 0, _, _ => false
  | n + 1, k, x => k.any fun c => lawC ss (isL ss n) c x
mutual
/-- kinds with letters of ls, and what may be due -/
def lC (ls : List Str) : Nat → Ch → Prop
  | _, .num => True
  | _, .txt => True
  | n, .row k => 0 < n ∧ lL ls (n - 1) k
  | n, .book k => 0 < n ∧ lL ls (n - 1) k
  | n, .shape fs => 0 < n ∧ Fld (fs.map (·.1)) ∧ lF ls (n - 1) fs
  | _, .any w => w = "row" ∨ w = "book"
  | _, .wth z => Word z
  | _, .letter l => l ∈ ls
  | _, .cut l hs => l ∈ ls ∧ hs.length ≤ 1000
def lL (ls : List Str) : Nat → List Ch → Prop
  | _, [] => True
  | n, c :: r => lC ls n c ∧ lL ls n r
def lF (ls : List Str) : Nat → List (Str × List Ch) → Prop
  | _, [] => True
  | n, (_, k) :: r => lL ls n k ∧ lF ls n r
end
theorem lL_iff {ls : List Str} {n : Nat} : ∀ {k : List Ch}, lL ls n k ↔ ∀ c ∈ k, lC ls n c
  | [] => by simp [lL]
  | c :: r => by
    unfold lL
    rw [lL_iff]
    simp
theorem lF_iff {ls : List Str} {n : Nat} : ∀ {fs : List (Str × List Ch)}, lF ls n fs ↔ ∀ p ∈ fs, lL ls n p.2
  | [] => by simp [lF]
  | (t, k) :: r => by
    unfold lF
    rw [lF_iff]
    simp
mutual
theorem lC_of {ls : List Str} : ∀ {n : Nat} {c : Ch}, kC n c → lC ls n c
  | _, .num, _ => trivial
  | _, .txt, _ => trivial
  | n, .row k, h => by
    have h' : 0 < n ∧ kL (n - 1) k := h
    exact ⟨h'.1, lL_of h'.2⟩
  | n, .book k, h => by
    have h' : 0 < n ∧ kL (n - 1) k := h
    exact ⟨h'.1, lL_of h'.2⟩
  | n, .shape fs, h => by
    have h' : 0 < n ∧ Fld (fs.map (·.1)) ∧ kF (n - 1) fs := h
    exact ⟨h'.1, h'.2.1, lF_of h'.2.2⟩
  | _, .any _, h => h
  | _, .wth _, h => h
  | n, .letter _, h => (show False by cases n <;> exact h).elim
  | n, .cut _ _, h => (show False by cases n <;> exact h).elim
theorem lL_of {ls : List Str} : ∀ {n : Nat} {k : List Ch}, kL n k → lL ls n k
  | _, [], _ => trivial
  | _, _ :: _, h => ⟨lC_of h.1, lL_of h.2⟩
theorem lF_of {ls : List Str} : ∀ {n : Nat} {fs : List (Str × List Ch)}, kF n fs → lF ls n fs
  | _, [], _ => trivial
  | _, (_, _) :: _, h => ⟨lL_of h.1, lF_of h.2⟩
end
theorem kinds_of {P : Nat → List Ch → Prop} {n : Nat} {c : Ch} (hr : ∀ k, (c = .row k ∨ c = .book k) → 0 < n ∧ P (n - 1) k) (hs : ∀ fs, c = .shape fs → 0 < n ∧ ∀ p ∈ fs, P (n - 1) p.2) {m : Nat} {k : List Ch} (hk : k ∈ kindsC c m) : 0 < n ∧ P (n - 1) k := by
  cases c with
  | row k' => rw [(List.mem_replicate.mp hk).2]; exact hr k' (.inl rfl)
  | book k' => rw [(List.mem_replicate.mp hk).2]; exact hr k' (.inr rfl)
  | shape fs =>
    obtain ⟨p, hp, rfl⟩ := List.mem_map.mp (show k ∈ fs.map (·.2) from hk)
    exact ⟨(hs fs rfl).1, (hs fs rfl).2 p hp⟩
  | _ => exact absurd hk (by simp [kindsC])
theorem isL_eq (ss : List (Str × List Vl)) : ∀ (d : Nat) {k : List Ch} {x : Vl}, kL d k → isL ss (d + 1) k x = isK (d + 1) k x
  | d, k, x, h => by
    unfold isL isK
    rw [Bool.eq_iff_iff, List.any_eq_true, List.any_eq_true]
    have e : ∀ c ∈ k, lawC ss (isL ss d) c x = isC (isK d) c x := fun c hc => by
      have kc := kL_mem h hc
      have pe : partsB (isL ss d) c x = partsB (isK d) c x := by
        unfold partsB
        rw [Bool.eq_iff_iff, List.all_eq_true, List.all_eq_true]
        have e2 : ∀ p ∈ (partsV x).zip (kindsC c (partsV x).length), isL ss d p.2 p.1 = isK d p.2 p.1 := fun p hp => by
          obtain ⟨d', rfl, kl⟩ := kinds_kL kc (List.of_mem_zip (show (p.1, p.2) ∈ _ from hp)).2
          exact isL_eq ss d' kl
        exact ⟨fun a p hp => by rw [← e2 p hp]; exact a p hp, fun a p hp => by rw [e2 p hp]; exact a p hp⟩
      cases c with
      | letter l => exact (show False by cases d <;> exact kc).elim
      | cut l hs => exact (show False by cases d <;> exact kc).elim
      | any w => rfl
      | wth z => rfl
      | num => show (_ && partsB _ _ _) = (_ && partsB _ _ _); rw [pe]
      | txt => show (_ && partsB _ _ _) = (_ && partsB _ _ _); rw [pe]
      | row k' => show (_ && partsB _ _ _) = (_ && partsB _ _ _); rw [pe]
      | book k' => show (_ && partsB _ _ _) = (_ && partsB _ _ _); rw [pe]
      | shape fs => show (_ && partsB _ _ _) = (_ && partsB _ _ _); rw [pe]
    exact ⟨fun ⟨c, m, a⟩ => ⟨c, m, by rw [← e c m]; exact a⟩, fun ⟨c, m, a⟩ => ⟨c, m, by rw [e c m]; exact a⟩⟩
  termination_by d => d
def spLIs (K : PySem.W.Frag) (n : Nat) : Sp := fun vs H Q _ => ∃ (v kv : V) (b : Addr) (B Bs : Addr → Prop) (x : Vl) (k : List Ch) (ss : List (Str × List Vl)) (d : Nat), vs = [v, kv, .ref b] ∧ IsV (un H) B v x ∧ vOk 8 x ∧ IsK K H kv k ∧ IsSt (un H) Bs b ss ∧ (∀ q ∈ ss, q.2.length ≤ 100 ∧ ∀ y ∈ q.2, vOk 8 y) ∧ lL (ss.map (·.1)) d k ∧ d < n ∧
  ∀ (H' : Hp), Same H H' → Q (.bl (isL ss (d + 1) k x)) H'
def spLOne (K : PySem.W.Frag) (n : Nat) : Sp := fun vs H Q _ => ∃ (v cv : V) (b : Addr) (B Bs : Addr → Prop) (x : Vl) (c : Ch) (ss : List (Str × List Vl)) (d : Nat), vs = [v, cv, .ref b] ∧ IsV (un H) B v x ∧ vOk 8 x ∧ IsC K H cv c ∧ IsSt (un H) Bs b ss ∧ (∀ q ∈ ss, q.2.length ≤ 100 ∧ ∀ y ∈ q.2, vOk 8 y) ∧ lC (ss.map (·.1)) d c ∧ d < n ∧
  ∀ (H' : Hp), Same H H' → Q (.bl (lawC ss (isL ss d) c x)) H'
end Sc
namespace Sc
open PySem PyProof.Rows L2
theorem isK_one (c : Ch) (x : Vl) (n : Nat) : isK (n + 1) [c] x = isC (isK n) c x := by
  unfold isK; rw [List.any_cons, List.any_nil, Bool.or_false]
theorem isK_num (n : Int) : isK 1 [.num] (.num n) = true := by
  rw [isK_one]
  show (decide (headV (.num n) = hdC .num) && partsB (isK 0) .num (.num n)) = true
  rw [show headV (.num n) = hdC .num from rfl, decide_eq_true rfl]; rfl
theorem isK_txt (t : Str) : isK 1 [.num] (.text t) = false := by
  rw [isK_one]
  show (decide (headV (.text t) = hdC .num) && partsB (isK 0) .num (.text t)) = false
  rw [decide_eq_false (show ¬ headV (.text t) = hdC .num by show ¬ (("text" : Str) = "number"); decide +kernel), Bool.false_and]
theorem zip_rep {α β : Type} (f : β → α → Bool) (b : β) : ∀ xs : List α, ((xs.zip (List.replicate xs.length b)).all fun p => f p.2 p.1) = xs.all (f b)
  | [] => rfl
  | x :: r => by rw [List.length_cons, List.replicate_succ, List.zip_cons_cons, List.all_cons, List.all_cons, zip_rep f b r]
theorem isK_row (xs : List Vl) (n : Nat) (k : List Ch) : isK (n + 1) [.row k] (.row xs) = xs.all (isK n k) := by
  rw [isK_one]
  show (decide (headV (.row xs) = hdC (.row k)) && partsB (isK n) (.row k) (.row xs)) = _
  rw [show headV (.row xs) = hdC (.row k) from rfl, decide_eq_true rfl, Bool.true_and]
  exact zip_rep (fun a b => isK n a b) k xs
theorem isK_book (xs : List (Str × Vl)) (n : Nat) (k : List Ch) : isK (n + 1) [.book k] (.book xs) = (xs.map (·.2)).all (isK n k) := by
  rw [isK_one]
  show (decide (headV (.book xs) = hdC (.book k)) && partsB (isK n) (.book k) (.book xs)) = _
  rw [show headV (.book xs) = hdC (.book k) from rfl, decide_eq_true rfl, Bool.true_and]
  exact zip_rep (fun a b => isK n a b) k (xs.map (·.2))
theorem putK_new {kvs : List (Key × V)} {k : Key} (v : V) (h : k ∉ kvs.map (·.1)) : putK kvs k v = kvs ++ [(k, v)] := by
  unfold putK
  rw [if_neg]
  intro z
  obtain ⟨p, hp, e⟩ := List.any_eq_true.mp z
  exact h (List.mem_map.mpr ⟨p, hp, of_decide_eq_true e⟩)
theorem putK_old {β : Type} {xs : List (Str × β)} {vs : List V} (v : V) (hl : vs.length = xs.length) (nd : (xs.map (·.1)).Nodup) {j : Nat} {q : Str × β} (hj : xs[j]? = some q) : putK (zipK xs vs) (Sum.inr q.1) v = zipK xs (vs.set j v) := by
  have lj : j < xs.length := (List.getElem?_eq_some_iff.mp hj).1
  have g := zipK_get nd hj (List.getElem?_eq_getElem (show j < vs.length by omega))
  unfold putK
  rw [valV_any, g, if_pos (show (some _).isSome = true from rfl)]
  refine list_ext (by rw [List.length_map, zipK_len hl, zipK_len (by rw [List.length_set]; exact hl)]) fun m p r h1 h2 => ?_
  rw [List.getElem?_map] at h1
  obtain ⟨p', hp', rfl⟩ := Option.map_eq_some_iff.mp h1
  obtain ⟨a1, a2⟩ := List.getElem?_zip_eq_some.mp (show ((xs.map fun q => (Sum.inr q.1 : Key)).zip vs)[m]? = some (p'.1, p'.2) from hp')
  obtain ⟨b1, b2⟩ := List.getElem?_zip_eq_some.mp (show ((xs.map fun q => (Sum.inr q.1 : Key)).zip (vs.set j v))[m]? = some (r.1, r.2) from h2)
  rw [a1] at b1
  have e1 := Option.some.inj b1
  rw [List.getElem?_map] at a1
  obtain ⟨qm, hqm, eqm⟩ := Option.map_eq_some_iff.mp a1
  by_cases z : m = j
  · subst z
    rw [hj] at hqm
    cases hqm
    rw [List.getElem?_set_self (by omega)] at b2
    rw [if_pos (show p'.1 = Sum.inr q.1 from eqm.symm)]
    exact Prod.ext e1 (Option.some.inj b2)
  · rw [List.getElem?_set_ne (fun e => z e.symm)] at b2
    rw [a2] at b2
    rw [if_neg]
    · exact Prod.ext e1 (Option.some.inj b2)
    · intro e
      rw [← eqm] at e
      have e2 : qm.1 = q.1 := Sum.inr.inj e
      have l1 : m < (xs.map (·.1)).length := by rw [List.length_map]; exact (List.getElem?_eq_some_iff.mp hqm).1
      have l2 : j < (xs.map (·.1)).length := by rw [List.length_map]; exact lj
      refine z ((List.getElem_inj nd (h₀ := l1) (h₁ := l2)).mp ?_)
      have g1 : (xs.map (·.1))[m]? = some qm.1 := by rw [List.getElem?_map, hqm]; rfl
      have g2 : (xs.map (·.1))[j]? = some q.1 := by rw [List.getElem?_map, hj]; rfl
      rw [List.getElem?_eq_getElem l1] at g1
      rw [List.getElem?_eq_getElem l2] at g2
      rw [Option.some.inj g1, Option.some.inj g2, e2]
def keyI (n : Int) : Str := ("k" : Str) ++ Str.ofString (toString n)
theorem keyI_nodup : ((List.range 71).map fun n : Nat => keyI n).Nodup := by decide +kernel
theorem keyI_len : ∀ n ∈ List.range 71, (Str.ofString (toString ((n : Nat) : Int))).length ≤ 10 := by decide +kernel
def isRow : Vl → Bool | .row _ => true | _ => false
theorem row_kit (x : Vl) : kitB (headT x) "list" = some (isRow x) := by
  cases x with
  | num _ => exact (by decide +kernel : kitB "int" "list" = some false)
  | text _ => exact (by decide +kernel : kitB "str" "list" = some false)
  | row _ => exact (by decide +kernel : kitB "list" "list" = some true)
  | book _ => exact (by decide +kernel : kitB "dict" "list" = some false)
  | shape _ => exact (by decide +kernel : kitB "tuple" "list" = some false)
theorem two_at {t : Int} (h0 : 0 ≤ t) (h2 : t < 2) : atI [V.int 4, V.int 70] t = some (.int (if t = 0 then 4 else 70)) := by
  rcases (show t = 0 ∨ t = 1 by omega) with rfl | rfl <;> rfl
theorem keyI_sub {j : Nat} (h : j ≤ 71) : ((List.range j).map fun n : Nat => keyI n).Nodup := (List.Sublist.map _ (List.range_sublist.mpr h)).nodup keyI_nodup
theorem ok0C {ls : List Str} {n : Nat} {c : Ch} (h : okC ls 0 c) : okC ls n c := by
  cases c with
  | num => cases n <;> trivial
  | txt => cases n <;> trivial
  | row k => exact absurd (show 0 < 0 ∧ k ≠ [] ∧ k.length ≤ 3 ∧ okL ls (0 - 1) k from h).1 (Nat.lt_irrefl _)
  | book k => exact absurd (show 0 < 0 ∧ k ≠ [] ∧ k.length ≤ 3 ∧ okL ls (0 - 1) k from h).1 (Nat.lt_irrefl _)
  | shape fs => exact absurd (show 0 < 0 ∧ fs.length ≤ 2 ∧ Fld (fs.map (·.1)) ∧ okF ls (0 - 1) fs from h).1 (Nat.lt_irrefl _)
  | letter l => cases n <;> exact h
  | cut l hs => exact (show False from h).elim
  | any w => exact (show False from h).elim
  | wth w => exact (show False from h).elim
theorem ok0L {ls : List Str} {n : Nat} : ∀ {k : List Ch}, okL ls 0 k → okL ls n k
  | [], _ => trivial
  | _ :: _, h => ⟨ok0C h.1, ok0L h.2⟩
theorem log2_small {n : Nat} (h : n < 128) : n.log2 < 1920 := by
  by_cases z : n = 0
  · rw [z]; decide
  · exact Nat.lt_of_lt_of_le ((Nat.log2_lt z).mpr (show n < 2 ^ 7 from h)) (by decide)
theorem keyI_new {j : Nat} (h : j < 71) : keyI j ∉ (List.range j).map fun n : Nat => keyI n := fun m => by
  have nd := keyI_sub (j := j + 1) (by omega)
  rw [List.range_succ, List.map_append, List.nodup_append] at nd
  exact nd.2.2 _ m _ (List.mem_singleton.mpr rfl) rfl
theorem kvs_zip (n : Nat) : (List.range n).map (fun k : Nat => ((Sum.inr (keyI k) : Key), V.int k)) = zipK ((List.range n).map fun k : Nat => (keyI k, Vl.num k)) ((List.range n).map fun k : Nat => V.int k) := by
  unfold zipK
  rw [List.map_map, List.zip_map']
  rfl
theorem keys_of (n : Nat) : ((List.range n).map fun k : Nat => (keyI k, Vl.num k)).map (·.1) = (List.range n).map fun k : Nat => keyI k := by
  rw [List.map_map]; rfl
theorem sz_flat {xs : List Vl} (h : ∀ x ∈ xs, vsz x ≤ 1) (hl : xs.length ≤ 100) : (xs.map vsz).sum ≤ 100 := by
  have := sum_le (f := vsz) (b := 1) h
  omega
end Sc
namespace Sc
open PySem PySem.Spec PyProof.Rows L2
/-! ### what narrowing parts -/
/-- each letter's values have heads of its bound -/
def Hst (bs : List (Str × List Ch)) (ss : List (Str × List Vl)) : Prop := ∀ l y, y ∈ lookS ss l → headV y ∈ hsB (look bs l)
theorem sm_head {n : Nat} {x y : Vl} (h : smV n x y = true) : headV x = headV y := by
  cases n with
  | zero => cases h
  | succ n =>
    unfold smV at h
    exact of_decide_eq_true (Bool.and_eq_true_iff.mp h).1
theorem lefts_mem {a : Ask} {y : Bool} {hs : List Str} {h : Str} : h ∈ lefts a y hs ↔ h ∈ hs ∧ ans a h = y := by
  unfold lefts
  rw [List.mem_filter, decide_eq_true_eq]
theorem leC_is {bs : List (Str × List Ch)} {ss : List (Str × List Vl)} (hst : Hst bs ss) (f : List Ch → Vl → Bool) (a : Ask) (y : Bool) (c : Ch) (hc : hdOk c ∨ (∃ l, c = .letter l) ∨ ∃ l hs, c = .cut l hs) (x : Vl) :
    (leC bs a y c).any (fun c' => lawC ss f c' x) = (lawC ss f c x && decide (ans a (headV x) = y)) := by
  have two : ∀ (l : Str) (hb : List Str) (c : Ch), (lawC ss f c x = true → (lookS ss l).any (fun y => smV 9 x y) = true ∧ headV x ∈ hb) → ((lookS ss l).any (fun y => smV 9 x y) = true → headV x ∈ hb → lawC ss f c x = true) →
      (if lefts a y hb = [] then [] else if lefts a y hb = hsB (look bs l) then [.letter l] else [.cut l (lefts a y hb)] : List Ch).any (fun c' => lawC ss f c' x) = (lawC ss f c x && decide (ans a (headV x) = y)) := fun l hb c h1 h2 => by
    have hin : (lookS ss l).any (fun y => smV 9 x y) = true → headV x ∈ hsB (look bs l) := fun e => by
      obtain ⟨y', hy, e'⟩ := List.any_eq_true.mp e
      rw [sm_head e']
      exact hst l y' hy
    rw [Bool.eq_iff_iff, Bool.and_eq_true, decide_eq_true_eq]
    split
    · rename_i e0
      constructor
      · intro z; cases z
      · rintro ⟨z1, z2⟩
        have : headV x ∈ lefts a y hb := lefts_mem.mpr ⟨(h1 z1).2, z2⟩
        rw [e0] at this
        cases this
    · split
      · rename_i e0 e1
        rw [List.any_cons, List.any_nil, Bool.or_false]
        show (lookS ss l).any (fun y => smV 9 x y) = true ↔ _
        constructor
        · intro z
          have m := hin z
          rw [← e1] at m
          obtain ⟨m1, m2⟩ := lefts_mem.mp m
          exact ⟨h2 z m1, m2⟩
        · exact fun z => (h1 z.1).1
      · rw [List.any_cons, List.any_nil, Bool.or_false]
        show (decide (headV x ∈ lefts a y hb) && (lookS ss l).any (fun y => smV 9 x y)) = true ↔ _
        rw [Bool.and_eq_true, decide_eq_true_eq, lefts_mem]
        exact ⟨fun z => ⟨h2 z.2 z.1.1, z.1.2⟩, fun z => ⟨⟨(h1 z.1).2, z.2⟩, (h1 z.1).1⟩⟩
  rcases hc with ok | ⟨l, rfl⟩ | ⟨l, hs, rfl⟩
  · have e : leC bs a y c = if decide (ans a (hdC c) = y) = true then [c] else [] := by
      cases c with
      | letter _ => exact ok.elim
      | cut _ _ => exact ok.elim
      | any _ => exact ok.elim
      | wth _ => exact ok.elim
      | _ => rfl
    have hl : lawC ss f c x = true → headV x = hdC c := fun z => by
      cases c with
      | letter _ => exact ok.elim
      | cut _ _ => exact ok.elim
      | any _ => exact ok.elim
      | wth _ => exact ok.elim
      | _ => exact of_decide_eq_true (Bool.and_eq_true_iff.mp z).1
    rw [e, Bool.eq_iff_iff, Bool.and_eq_true]
    by_cases e1 : decide (ans a (hdC c) = y) = true
    · rw [if_pos e1, List.any_cons, List.any_nil, Bool.or_false]
      exact ⟨fun z => ⟨z, by rw [hl z]; exact e1⟩, fun z => z.1⟩
    · rw [if_neg e1]
      constructor
      · intro z; cases z
      · rintro ⟨z1, z2⟩
        rw [hl z1] at z2
        exact absurd z2 e1
  · exact two l (hsB (look bs l)) (.letter l) (fun z => ⟨z, by
      obtain ⟨y', hy, e'⟩ := List.any_eq_true.mp (show (lookS ss l).any (fun y => smV 9 x y) = true from z)
      rw [sm_head e']
      exact hst l y' hy⟩) (fun z _ => z)
  · exact two l hs (.cut l hs) (fun z => by
      have z' : (decide (headV x ∈ hs) && (lookS ss l).any (fun y => smV 9 x y)) = true := z
      rw [Bool.and_eq_true, decide_eq_true_eq] at z'
      exact ⟨z'.2, z'.1⟩) (fun z1 z2 => by
      show (decide (headV x ∈ hs) && (lookS ss l).any (fun y => smV 9 x y)) = true
      rw [z1, decide_eq_true z2]; rfl)
theorem any_jn {n : Nat} {l : List Ch} (g : ∀ c ∈ l, gd n c) (f : Ch → Bool) : (jn l).any f = l.any f := by
  rw [Bool.eq_iff_iff, List.any_eq_true, List.any_eq_true]
  constructor
  · rintro ⟨c, m, e⟩; exact ⟨c, jn_sub m, e⟩
  · rintro ⟨c, m, e⟩
    obtain ⟨c', m', e'⟩ := List.mem_map.mp (jn_has.mpr (List.mem_map_of_mem (f := txC) m))
    have : c' = c := txC_inj (g c' (jn_sub m')) (g c m) e'
    exact ⟨c', m', by rw [this]; exact e⟩
/-- a side has the kind's values of its answer -/
theorem nar_is {bs : List (Str × List Ch)} {ss : List (Str × List Vl)} (hst : Hst bs ss) (a : Ask) (y : Bool) {k : List Ch} (g : ∀ c ∈ (k.map (leC bs a y)).flatten, gd 9 c) (hk : ∀ c ∈ k, hdOk c ∨ (∃ l, c = .letter l) ∨ ∃ l hs, c = .cut l hs) (d : Nat) (x : Vl) :
    isL ss (d + 1) (narK bs a y k) x = (isL ss (d + 1) k x && decide (ans a (headV x) = y)) := by
  show (jn ((k.map (leC bs a y)).flatten)).any (fun c => lawC ss (isL ss d) c x) = (k.any (fun c => lawC ss (isL ss d) c x) && _)
  rw [any_jn g]
  rw [Bool.eq_iff_iff, Bool.and_eq_true, List.any_eq_true, List.any_eq_true]
  constructor
  · rintro ⟨c', m, e⟩
    obtain ⟨r, hr, m'⟩ := List.mem_flatten.mp m
    obtain ⟨c, hc, rfl⟩ := List.mem_map.mp hr
    have := leC_is hst (isL ss d) a y c (hk c hc) x
    rw [List.any_eq_true.mpr ⟨c', m', e⟩] at this
    have z := Bool.and_eq_true_iff.mp this.symm
    exact ⟨⟨c, hc, z.1⟩, z.2⟩
  · rintro ⟨⟨c, hc, e⟩, z⟩
    have := leC_is hst (isL ss d) a y c (hk c hc) x
    rw [e, z] at this
    obtain ⟨c', m', e'⟩ := List.any_eq_true.mp this
    exact ⟨c', List.mem_flatten.mpr ⟨_, List.mem_map_of_mem hc, m'⟩, e'⟩
/-! ### drawn kinds, wider -/
mutual
theorem okC_mono {ls : List Str} : ∀ {n m : Nat} {c : Ch}, n ≤ m → okC ls n c → okC ls m c
  | _, _, .num, _, _ => trivial
  | _, _, .txt, _, _ => trivial
  | n, m, .row k, l, h => by
    have h' : 0 < n ∧ k ≠ [] ∧ k.length ≤ 3 ∧ okL ls (n - 1) k := h
    exact ⟨by omega, h'.2.1, h'.2.2.1, okL_mono (by omega) h'.2.2.2⟩
  | n, m, .book k, l, h => by
    have h' : 0 < n ∧ k ≠ [] ∧ k.length ≤ 3 ∧ okL ls (n - 1) k := h
    exact ⟨by omega, h'.2.1, h'.2.2.1, okL_mono (by omega) h'.2.2.2⟩
  | n, m, .shape fs, l, h => by
    have h' : 0 < n ∧ fs.length ≤ 2 ∧ Fld (fs.map (·.1)) ∧ okF ls (n - 1) fs := h
    exact ⟨by omega, h'.2.1, h'.2.2.1, okF_mono (by omega) h'.2.2.2⟩
  | _, _, .letter _, _, h => h
  | _, _, .cut _ _, _, h => (show False from h).elim
  | _, _, .any _, _, h => (show False from h).elim
  | _, _, .wth _, _, h => (show False from h).elim
theorem okL_mono {ls : List Str} : ∀ {n m : Nat} {k : List Ch}, n ≤ m → okL ls n k → okL ls m k
  | _, _, [], _, _ => trivial
  | _, _, _ :: _, l, h => ⟨okC_mono l h.1, okL_mono l h.2⟩
theorem okF_mono {ls : List Str} : ∀ {n m : Nat} {fs : List (Str × List Ch)}, n ≤ m → okF ls n fs → okF ls m fs
  | _, _, [], _, _ => trivial
  | _, _, (_, _) :: _, l, h => ⟨h.1, h.2.1, h.2.2.1, okL_mono l h.2.2.2.1, okF_mono l h.2.2.2.2⟩
end
theorem okA_mono {bs : List (Str × List Ch)} {n m : Nat} {k : List Ch} (l : n ≤ m) (h : okA bs n k) : okA bs m k := by
  obtain ⟨k0, cs, e, h1, h2⟩ := h
  exact ⟨k0, cs, e, okL_mono l h1, h2⟩
mutual
theorem lC_ok {ls : List Str} : ∀ {n : Nat} {c : Ch}, okC ls n c → lC ls n c
  | _, .num, _ => trivial
  | _, .txt, _ => trivial
  | n, .row k, h => by
    have h' : 0 < n ∧ k ≠ [] ∧ k.length ≤ 3 ∧ okL ls (n - 1) k := h
    exact ⟨h'.1, lL_ok h'.2.2.2⟩
  | n, .book k, h => by
    have h' : 0 < n ∧ k ≠ [] ∧ k.length ≤ 3 ∧ okL ls (n - 1) k := h
    exact ⟨h'.1, lL_ok h'.2.2.2⟩
  | n, .shape fs, h => by
    have h' : 0 < n ∧ fs.length ≤ 2 ∧ Fld (fs.map (·.1)) ∧ okF ls (n - 1) fs := h
    exact ⟨h'.1, h'.2.2.1, lF_ok h'.2.2.2⟩
  | _, .letter _, h => h
  | _, .cut _ _, h => (show False from h).elim
  | _, .any _, h => (show False from h).elim
  | _, .wth _, h => (show False from h).elim
theorem lL_ok {ls : List Str} : ∀ {n : Nat} {k : List Ch}, okL ls n k → lL ls n k
  | _, [], _ => trivial
  | _, _ :: _, h => ⟨lC_ok h.1, lL_ok h.2⟩
theorem lF_ok {ls : List Str} : ∀ {n : Nat} {fs : List (Str × List Ch)}, okF ls n fs → lF ls n fs
  | _, [], _ => trivial
  | _, (_, _) :: _, h => ⟨lL_ok h.2.2.2.1, lF_ok h.2.2.2.2⟩
end
end Sc
namespace Sc
open PySem PySem.Spec PyProof.Rows L2
/-! ### standings, drawn -/
theorem for_keysK {d : Addr} {o : Obj} {kvs : List (Key × V)} {g : TG} {tb : TS} {D : Ends} {σ : L2.St} {H : Hp} (Pv : Nat → L2.St → Hp → Prop) (h0 : Pv 0 σ H) (hq : ∀ i σ H, Pv i σ H → H d = some (.frz o (.dK kvs)))
    (hs : ∀ (i : Nat) (k : Key) (v : V) (σ : L2.St) (H : Hp), kvs[i]? = some (k, v) → Pv i σ H → g (kV k) σ H fun σ2 H2 => tb { D with nx := Pv (i + 1), ct := Pv (i + 1), bk := D.nx } σ2 H2) (hd : ∀ σ H, Pv kvs.length σ H → D.nx σ H) :
    ∃ W : Nat → Nat → L2.St → Hp → Prop, (∃ m, W 0 m σ H) ∧ ∀ i m σ H, W i m σ H →
      ((Itk d o kvs).stop i H ∧ D.nx σ H) ∨ ((Itk d o kvs).go i H ∧ ∃ N : L2.St → Hp → Prop, (∀ σ' H', N σ' H' → ∃ m', m' < m ∧ W (i + 1) m' σ' H') ∧ ∀ v H', (Itk d o kvs).yld i H v H' → g v σ H' fun σ2 H2 => tb { D with nx := N, ct := N, bk := D.nx } σ2 H2) := by
  refine ⟨fun i m σ H => m = kvs.length - i ∧ i ≤ kvs.length ∧ Pv i σ H, ⟨kvs.length, rfl, Nat.zero_le _, h0⟩, ?_⟩
  rintro i m σ H ⟨rfl, hi, p⟩
  have q := hq i σ H p
  by_cases hlt : i < kvs.length
  · refine .inr ⟨⟨q, hlt⟩, Pv (i + 1), fun σ' H' p' => ⟨kvs.length - (i + 1), by omega, rfl, hlt, p'⟩, fun v H' y => ?_⟩
    obtain ⟨rfl, k, v', e1, rfl⟩ := y
    exact hs i k v' σ _ e1 p
  · have e : i = kvs.length := by omega
    subst e
    exact .inl ⟨⟨q, Nat.le_refl _⟩, hd σ H p⟩
theorem zipK_snoc {β : Type} {xs : List (Str × β)} {vs : List V} (hl : vs.length = xs.length) (q : Str × β) (v : V) : zipK (xs ++ [q]) (vs ++ [v]) = zipK xs vs ++ [(Sum.inr q.1, v)] := by
  unfold zipK
  rw [List.map_append, List.zip_append (by rw [List.length_map]; exact hl.symm)]
  rfl
/-- what is said of a drawn standing, letter by letter -/
def StOk (bs : List (Str × List Ch)) (ss : List (Str × List Vl)) : Prop := ss.map (·.1) = bs.map (·.1) ∧ ∀ (j : Nat) (p : Str × List Vl) (q : Str × List Ch), ss[j]? = some p → bs[j]? = some q → p.2 ≠ [] ∧ p.2.length ≤ 2 ∧ ∀ y ∈ p.2, vOk 1 y ∧ headV y ∈ q.2.map hdC
def spStand (K : PySem.W.Frag) : Sp := fun vs H Q _ => ∃ (s b : Addr) (i : Inf) (bs : List (Str × List Ch)), vs = [.ref s, .ref b] ∧ IsS K H s i ∧ b ≠ s ∧ IsB K H b bs ∧ okB bs ∧ bs.length ≤ 10 ∧
  ∀ (t : Addr) (H' : Hp) (ss : List (Str × List Vl)), Ext s H H' → IsS K H' s i → IsSt H' (fun a => H a = none) t ss → StOk bs ss → Q (.ref t) H'
theorem StOk.hst {bs : List (Str × List Ch)} {ss : List (Str × List Vl)} (h : StOk bs ss) (nd : (bs.map (·.1)).Nodup) : Hst bs ss := fun l y hy => by
  have nds : (ss.map (·.1)).Nodup := by rw [h.1]; exact nd
  by_cases m : ∃ p ∈ ss, p.1 = l
  · obtain ⟨p, mp, rfl⟩ := m
    rw [lookS_mem nds mp] at hy
    obtain ⟨j, hj⟩ := List.getElem?_of_mem mp
    have e1 : (ss.map (·.1))[j]? = some p.1 := by rw [List.getElem?_map, hj]; rfl
    rw [h.1, List.getElem?_map] at e1
    obtain ⟨q, hq, eq⟩ := Option.map_eq_some_iff.mp e1
    have := ((h.2 j p q hj hq).2.2 y hy).2
    rw [← eq, look_at nd hq]
    exact js_has.mpr this
  · have e : lookS ss l = [] := by
      unfold lookS
      rw [List.find?_eq_none.mpr fun p mp => by
        intro z
        exact m ⟨p, mp, by simpa using z⟩]
      rfl
    rw [e] at hy
    cases hy
theorem StOk.val {bs : List (Str × List Ch)} {ss : List (Str × List Vl)} (h : StOk bs ss) {p : Str × List Vl} (m : p ∈ ss) : p.2 ≠ [] ∧ p.2.length ≤ 2 ∧ ∀ y ∈ p.2, vOk 1 y := by
  obtain ⟨j, hj⟩ := List.getElem?_of_mem m
  have e1 : (ss.map (·.1))[j]? = some p.1 := by rw [List.getElem?_map, hj]; rfl
  rw [h.1, List.getElem?_map] at e1
  obtain ⟨q, hq, eq⟩ := Option.map_eq_some_iff.mp e1
  obtain ⟨h1, h2, h3⟩ := h.2 j p q hj hq
  exact ⟨h1, h2, fun y hy => (h3 y hy).1⟩
theorem StOk.has {bs : List (Str × List Ch)} {ss : List (Str × List Vl)} (h : StOk bs ss) {l : Str} (m : l ∈ bs.map (·.1)) : ∃ q ∈ ss, q.1 = l ∧ q.2 ≠ [] ∧ q.2.length ≤ 100 := by
  rw [← h.1] at m
  obtain ⟨p, mp, rfl⟩ := List.mem_map.mp m
  obtain ⟨h1, h2, _⟩ := h.val mp
  exact ⟨p, mp, rfl, h1, by omega⟩
end Sc
namespace Sc
open PySem PySem.Spec PyProof.Rows L2
theorem IsS.but {K : PySem.W.Frag} {H : Hp} {s b : Addr} {i : Inf} {o o' : HO} (h : IsS K H s i) (hb : H b = some o') (no : ∀ xs, o' ≠ .lst xs ∧ ∀ u, o' ≠ .frz u (.lst xs)) (n : b ≠ s) : IsS K (L2.upd H b o) s i := by
  obtain ⟨ns, m, a1, a2, a3⟩ := h
  refine ⟨ns, m, by rw [upd_ne n.symm]; exact a1, ?_, a3⟩
  rcases a2 with (h | ⟨u, h⟩) | h
  · exact .inl (.inl (by rw [upd_ne fun z => by rw [z, hb] at h; exact (no _).1 (Option.some.inj h)]; exact h))
  · exact .inl (.inr ⟨u, by rw [upd_ne fun z => by rw [z, hb] at h; exact (no _).2 _ (Option.some.inj h)]; exact h⟩)
  · exact .inr h
theorem take_new {α : Type} {xs : List α} (nd : xs.Nodup) {j : Nat} {x : α} (h : xs[j]? = some x) : x ∉ xs.take j := fun m => by
  obtain ⟨m', hm⟩ := List.getElem?_of_mem m
  have l1 := (List.getElem?_eq_some_iff.mp hm).1
  rw [List.length_take] at l1
  rw [List.getElem?_take_of_lt (by omega)] at hm
  have l2 := (List.getElem?_eq_some_iff.mp h).1
  rw [List.getElem?_eq_getElem (by omega)] at hm
  rw [List.getElem?_eq_getElem l2] at h
  have := (List.getElem_inj nd).mp ((Option.some.inj hm).trans (Option.some.inj h).symm)
  omega
end Sc
namespace Sc
open PySem PySem.Spec PyProof.Rows L2
/-! ### kinds with a cut -/
theorem okA.forms {bs : List (Str × List Ch)} (ok : okB bs) {d : Nat} {k : List Ch} (h : okA bs d k) {c : Ch} (m : c ∈ k) : (okC (bs.map (·.1)) d c) ∨ (∃ l, c = .letter l ∧ l ∈ bs.map (·.1)) ∨ ∃ l hs, c = .cut l hs ∧ l ∈ bs.map (·.1) ∧ hs.length ≤ 3 := by
  obtain ⟨k0, cs, rfl, h1, _, _, h4⟩ := h
  rcases List.mem_append.mp m with m | m
  · exact .inl (okL_mem' h1 m)
  · rcases h4 with rfl | ⟨c', rfl, l, k', ml, hc⟩
    · cases m
    · rw [List.mem_singleton.mp m]
      have lm : l ∈ bs.map (·.1) := List.mem_map_of_mem (f := (·.1)) ml
      rcases hc with rfl | ⟨ys, a, n, rfl, hs, h0, h5, h6⟩
      · exact .inr (.inl ⟨l, rfl, lm⟩)
      · refine .inr (.inr ⟨l, _, rfl, lm, ?_⟩)
        have := hs.few
        have := (ok _ ml).2.2.1
        rw [List.length_take, List.length_drop]
        simp only [] at *
        omega
theorem okA.hk {bs : List (Str × List Ch)} (ok : okB bs) {d : Nat} {k : List Ch} (h : okA bs d k) : ∀ c ∈ k, hdOk c ∨ (∃ l, c = .letter l) ∨ ∃ l hs, c = .cut l hs := fun c m => by
  rcases h.forms ok m with o | ⟨l, rfl, _⟩ | ⟨l, hs, rfl, _⟩
  · by_cases z : ∃ l, c = .letter l
    · exact .inr (.inl z)
    · exact .inl (hdOk_in o fun l e => z ⟨l, e⟩)
  · exact .inr (.inl ⟨l, rfl⟩)
  · exact .inr (.inr ⟨l, hs, rfl⟩)
theorem okA.lL {bs : List (Str × List Ch)} (ok : okB bs) {d : Nat} {k : List Ch} (h : okA bs d k) : lL (bs.map (·.1)) d k := lL_iff.mpr fun c m => by
  rcases h.forms ok m with o | ⟨l, rfl, ml⟩ | ⟨l, hs, rfl, ml, h3⟩
  · exact lC_ok o
  · cases d <;> exact ml
  · cases d <;> exact ⟨ml, by omega⟩
theorem okA.wL {bs : List (Str × List Ch)} (ok : okB bs) {ss : List (Str × List Vl)} (hs : ∀ l ∈ bs.map (·.1), ∃ q ∈ ss, q.1 = l ∧ q.2 ≠ [] ∧ q.2.length ≤ 100) {d : Nat} {k : List Ch} (h : okA bs d k) : wL ss d k := wL_iff.mpr fun c m => by
  rcases h.forms ok m with o | ⟨l, rfl, ml⟩ | ⟨l, hs', rfl, ml, h3⟩
  · exact wC_of hs o
  · cases d <;> exact hs l ml
  · cases d <;> exact hs l ml
theorem okA.ne {bs : List (Str × List Ch)} {d : Nat} {k : List Ch} (h : okA bs d k) : k ≠ [] ∧ k.length ≤ 4 := by
  obtain ⟨k0, cs, rfl, h1, h2, h3, h4⟩ := h
  refine ⟨fun z => h2 (List.append_eq_nil_iff.mp z).1, ?_⟩
  rcases h4 with rfl | ⟨c, rfl, _⟩
  · rw [List.append_nil]; omega
  · rw [List.length_append]; show _ + 1 ≤ 4; omega
theorem nar_lL {bs : List (Str × List Ch)} (ok : okB bs) (nd : (bs.map (·.1)).Nodup) (a : Ask) (y : Bool) {d : Nat} {k : List Ch} (h : okA bs d k) : lL (bs.map (·.1)) d (narK bs a y k) := lL_iff.mpr fun c' m' => by
  obtain ⟨r, hr, m2⟩ := List.mem_flatten.mp (jn_sub m')
  obtain ⟨c, m, rfl⟩ := List.mem_map.mp hr
  have cutL : ∀ (l : Str) (hs : List Str), l ∈ bs.map (·.1) → hs.length ≤ 3 → c' ∈ (if lefts a y hs = [] then [] else if lefts a y hs = hsB (look bs l) then [.letter l] else [.cut l (lefts a y hs)] : List Ch) → lC (bs.map (·.1)) d c' := fun l hs ml h3 mm => by
    split at mm
    · cases mm
    · split at mm
      · rw [List.mem_singleton.mp mm]; cases d <;> exact ml
      · rw [List.mem_singleton.mp mm]
        have : (lefts a y hs).length ≤ hs.length := List.length_filter_le _ _
        cases d <;> exact ⟨ml, by omega⟩
  have letL : ∀ l, l ∈ bs.map (·.1) → c' ∈ leC bs a y (.letter l) → lC (bs.map (·.1)) d c' := fun l ml mm => by
    obtain ⟨q, mq, rfl⟩ := List.mem_map.mp ml
    exact cutL q.1 (hsB (look bs q.1)) ml (hsB_look ok nd (l := q.1) (k' := q.2) mq).2.1 mm
  rcases h.forms ok m with o | ⟨l, rfl, ml⟩ | ⟨l, hs, rfl, ml, h3⟩
  · have plain : (∀ l, c ≠ .letter l) → (∀ l hs, c ≠ .cut l hs) → c' = c := fun n1 n2 => by
      have e := (oth (bs := bs) (a := a) (y := y) n1 n2).2
      rw [e] at m2
      split at m2
      · exact List.mem_singleton.mp m2
      · cases m2
    cases c with
    | letter l => exact letL l o m2
    | cut l hs => exact (show False from o).elim
    | num => rw [plain (by intro l z; cases z) (by intro l hs z; cases z)]; exact lC_ok o
    | txt => rw [plain (by intro l z; cases z) (by intro l hs z; cases z)]; exact lC_ok o
    | row _ => rw [plain (by intro l z; cases z) (by intro l hs z; cases z)]; exact lC_ok o
    | book _ => rw [plain (by intro l z; cases z) (by intro l hs z; cases z)]; exact lC_ok o
    | shape _ => rw [plain (by intro l z; cases z) (by intro l hs z; cases z)]; exact lC_ok o
    | any _ => exact (show False from o).elim
    | wth _ => exact (show False from o).elim
  · exact letL l ml m2
  · exact cutL l hs ml h3 m2
theorem head_word {x : Vl} (h : hdOk (vC x)) : (Txt.split (headV x) " ").head? = some (wdC (vC x)) ∧ wdC (vC x) ∈ (["number", "text", "row", "book", "shape"] : List Str) ∧ (Txt.split (headV x) " ") ≠ [] := by
  have e := (hd_split h).1
  have n := (hd_split h).2
  rw [vC_head] at e
  rw [e, hdWs_cons h]
  refine ⟨rfl, ?_, by simp⟩
  cases x with
  | num _ => show ("number" : Str) ∈ _; simp
  | text _ => show ("text" : Str) ∈ _; simp
  | row _ => show ("row" : Str) ∈ _; simp
  | book _ => show ("book" : Str) ∈ _; simp
  | shape _ => show ("shape" : Str) ∈ _; simp
end Sc
namespace Sc
open PySem PySem.Spec PyProof.Rows L2
/-! ### signs, blanks, tokens -/
def lowN (c : Nat) : Bool := decide (97 ≤ c ∧ c ≤ 122)
def upN (c : Nat) : Bool := decide (65 ≤ c ∧ c ≤ 90)
def letN (u : Bool) (c : Nat) : Bool := if u then upN c else lowN c
def nolet (c : Nat) : Prop := lowN c = false ∧ upN c = false
def blk (l : List Nat) : Prop := ∀ c ∈ l, c = 32
def wb (l : List Nat) : List Nat := l.dropWhile (· == 32)
theorem wb_blank {b l : List Nat} (h : blk b) : wb (b ++ l) = wb l := by
  induction b with
  | nil => rfl
  | cons c r ih =>
    have e : c = 32 := h c List.mem_cons_self
    subst e
    show (32 :: (r ++ l)).dropWhile (· == 32) = _
    rw [List.dropWhile_cons_of_pos rfl]
    exact ih fun d m => h d (List.mem_cons_of_mem _ m)
theorem wb_sign {c : Nat} {l : List Nat} (h : c ≠ 32) : wb (c :: l) = c :: l := List.dropWhile_cons_of_neg (by simpa using h)
theorem wb_split : ∀ l : List Nat, ∃ b, blk b ∧ l = b ++ wb l ∧ ∀ c r, wb l = c :: r → c ≠ 32
  | [] => ⟨[], (fun _ h => by cases h), rfl, fun c r h => by cases h⟩
  | c :: l => by
    by_cases e : c = 32
    · subst e
      obtain ⟨b, h1, h2, h3⟩ := wb_split l
      have w : wb (32 :: l) = wb l := List.dropWhile_cons_of_pos rfl
      refine ⟨32 :: b, fun d m => ?_, ?_, fun d r q => h3 d r (w ▸ q)⟩
      · rcases List.mem_cons.mp m with z | z
        · exact z
        · exact h1 d z
      · rw [w, List.cons_append, ← h2]
    · rw [wb_sign e]
      exact ⟨[], (fun _ h => by cases h), rfl, fun d r q => by cases q; exact e⟩
theorem wb_wb (l : List Nat) : wb (wb l) = wb l := by
  obtain ⟨b, _, _, h⟩ := wb_split l
  cases e : wb l with
  | nil => rfl
  | cons c r => exact wb_sign (h c r e)
inductive Tk where
  | wd (u : Bool) (w : List Nat) | pt (c : Nat)
/-- tokens stand in l, blanks between them -/
def Tks : List Tk → List Nat → Prop
  | [], l => wb l = []
  | .pt c :: ts, l => ∃ r, wb l = c :: r ∧ Tks ts r
  | .wd _ w :: ts, l => ∃ r, wb l = w ++ r ∧ Tks ts r
theorem sp_wb {ts : List Tk} {l m : List Nat} (e : wb l = wb m) (h : Tks ts l) : Tks ts m := by
  cases ts with
  | nil =>
    have h : wb l = [] := h
    show wb m = []
    rw [← e]; exact h
  | cons t ts =>
    cases t with
    | wd u w => obtain ⟨r, h1, h2⟩ := h; exact ⟨r, e ▸ h1, h2⟩
    | pt c => obtain ⟨r, h1, h2⟩ := h; exact ⟨r, e ▸ h1, h2⟩
/-- after a word a sign or the end -/
def Fol (ts : List Tk) : Prop := ts = [] ∨ ∃ c r, ts = .pt c :: r ∧ nolet c
def Alt : List Tk → Prop
  | [] => True
  | .pt c :: ts => nolet c ∧ c ≠ 32 ∧ Alt ts
  | .wd u w :: ts => w ≠ [] ∧ (∀ c ∈ w, letN u c = true) ∧ Fol ts ∧ Alt ts
theorem nolet32 : nolet 32 := ⟨by decide, by decide⟩
theorem fol_head {ts : List Tk} {l : List Nat} (f : Fol ts) (h : Tks ts l) : ∀ c r, l = c :: r → nolet c := by
  rintro c r rfl
  by_cases e : c = 32
  · rw [e]; exact nolet32
  · have w := wb_sign (l := r) e
    rcases f with rfl | ⟨d, ts', rfl, nd⟩
    · have h : wb (c :: r) = [] := h
      rw [w] at h; cases h
    · obtain ⟨r', h1, _⟩ := h
      rw [w] at h1
      cases h1
      exact nd
theorem let_ne {u : Bool} {c : Nat} (h : letN u c = true) : c ≠ 32 := fun z => by
  rw [z] at h
  cases u <;> exact absurd h (by decide)
theorem nolet_of {u : Bool} {c : Nat} (h : nolet c) : letN u c = false := by
  cases u
  · exact h.1
  · exact h.2
/-! ### the same tokens with other blanks -/
def Piece (c : Nat) (p : List Nat) : Prop := (c = 32 ∧ blk p) ∨ (c ≠ 32 ∧ nolet c ∧ ∃ b b', blk b ∧ blk b' ∧ p = b ++ c :: b') ∨ (c ≠ 32 ∧ p = [c])
inductive Bl : List Nat → List Nat → Prop
  | nil : Bl [] []
  | cons {c : Nat} {p l m : List Nat} : Piece c p → Bl l m → Bl (c :: l) (p ++ m)
theorem Bl.snoc {c : Nat} {p l m : List Nat} (h : Bl l m) (k : Piece c p) : Bl (l ++ [c]) (m ++ p) := by
  induction h with
  | nil => have := Bl.cons k .nil; rw [List.append_nil] at this; exact this
  | cons q _ ih => rw [List.cons_append, List.append_assoc]; exact .cons q ih
theorem bl_blank {b l m : List Nat} (hb : blk b) (h : Bl (b ++ l) m) : ∃ m', wb m = wb m' ∧ Bl l m' := by
  induction b generalizing m with
  | nil => exact ⟨m, rfl, h⟩
  | cons c r ih =>
    have e : c = 32 := hb c List.mem_cons_self
    subst e
    cases h with
    | cons k h =>
      obtain ⟨m', h1, h2⟩ := ih (fun d q => hb d (List.mem_cons_of_mem _ q)) h
      rcases k with ⟨_, k⟩ | ⟨k, _⟩ | ⟨k, _⟩
      · exact ⟨m', by rw [wb_blank k, h1], h2⟩
      · exact absurd rfl k
      · exact absurd rfl k
theorem bl_word {u : Bool} {w l m : List Nat} (hw : ∀ c ∈ w, letN u c = true) (h : Bl (w ++ l) m) : ∃ m', m = w ++ m' ∧ Bl l m' := by
  induction w generalizing m with
  | nil => exact ⟨m, rfl, h⟩
  | cons c r ih =>
    have hc := hw c List.mem_cons_self
    cases h with
    | cons k h =>
      obtain ⟨m', h1, h2⟩ := ih (fun d q => hw d (List.mem_cons_of_mem _ q)) h
      rcases k with ⟨e, _⟩ | ⟨_, k, _⟩ | ⟨_, k⟩
      · exact absurd e (let_ne hc)
      · rw [nolet_of k] at hc; cases hc
      · exact ⟨m', by rw [k, h1]; rfl, h2⟩
theorem sp_bl : ∀ (ts : List Tk) {l m : List Nat}, Alt ts → Tks ts l → Bl l m → Tks ts m
  | [], l, m, _, h, b => by
    obtain ⟨bb, h1, h2, _⟩ := wb_split l
    have h : wb l = [] := h
    rw [h, List.append_nil] at h2
    rw [h2, ← List.append_nil bb] at b
    obtain ⟨m', e, hm⟩ := bl_blank h1 b
    cases hm
    exact e
  | .pt c :: ts, l, m, a, h, b => by
    obtain ⟨bb, h1, h2, _⟩ := wb_split l
    obtain ⟨r, e, s⟩ := h
    obtain ⟨nc, n32, a⟩ := a
    rw [h2, e] at b
    obtain ⟨m', em, hm⟩ := bl_blank h1 b
    cases hm with
    | cons k hm =>
      rename_i p m2
      have s2 := sp_bl ts a s hm
      rcases k with ⟨z, _⟩ | ⟨_, _, b1, b2, hb1, hb2, rfl⟩ | ⟨_, rfl⟩
      · exact absurd z n32
      · refine ⟨b2 ++ m2, ?_, sp_wb (wb_blank hb2).symm s2⟩
        rw [em, List.append_assoc, wb_blank hb1, List.cons_append, wb_sign n32]
      · exact ⟨m2, by rw [em]; exact wb_sign n32, s2⟩
  | .wd u w :: ts, l, m, a, h, b => by
    obtain ⟨bb, h1, h2, _⟩ := wb_split l
    obtain ⟨r, e, s⟩ := h
    obtain ⟨nw, lw, _, a⟩ := a
    rw [h2, e] at b
    obtain ⟨m', em, hm⟩ := bl_blank h1 b
    obtain ⟨m2, rfl, hm2⟩ := bl_word lw hm
    refine ⟨m2, ?_, sp_bl ts a s hm2⟩
    rw [em]
    cases w with
    | nil => exact absurd rfl nw
    | cons c w' => exact wb_sign (let_ne (lw c List.mem_cons_self))
/-! ### the tokens of a kind -/
def ptB : Tk := .pt 124
def ptC : Tk := .pt 44
mutual
def tkC : Ch → List Tk
  | .num => [.wd false (TL.tl "number")]
  | .txt => [.wd false (TL.tl "text")]
  | .row k => .wd false (TL.tl "row") :: .pt 40 :: (tkL k ++ [.pt 41])
  | .book k => .wd false (TL.tl "book") :: .pt 40 :: (tkL k ++ [.pt 41])
  | .shape fs => .pt 123 :: (tkF fs ++ [.pt 125])
  | .letter l => [.wd true (TL.tl l)]
  | _ => []
def tkL : List Ch → List Tk
  | [] => []
  | c :: r => tkC c ++ tkM r
def tkM : List Ch → List Tk
  | [] => []
  | c :: r => .pt 124 :: (tkC c ++ tkM r)
def tkF : List (Str × List Ch) → List Tk
  | [] => []
  | (f, k) :: r => .wd false (TL.tl f) :: .pt 58 :: (tkL k ++ tkG r)
def tkG : List (Str × List Ch) → List Tk
  | [] => []
  | (f, k) :: r => .pt 44 :: .wd false (TL.tl f) :: .pt 58 :: (tkL k ++ tkG r)
end
def Low (z : Str) : Prop := TL.tl z ≠ [] ∧ (∀ c ∈ TL.tl z, lowN c = true) ∧ (TL.tl z).length ≤ 8
def Upp (z : Str) : Prop := TL.tl z ≠ [] ∧ (∀ c ∈ TL.tl z, upN c = true) ∧ (TL.tl z).length ≤ 8
mutual
/-- kinds whose words are words -/
def tkOk : Ch → Prop
  | .num => True
  | .txt => True
  | .row k => k ≠ [] ∧ tkOkL k
  | .book k => k ≠ [] ∧ tkOkL k
  | .shape fs => fs ≠ [] ∧ tkOkF fs
  | .letter l => Upp l
  | _ => False
def tkOkL : List Ch → Prop
  | [] => True
  | c :: r => tkOk c ∧ tkOkL r ∧ r.length ≤ 999
def tkOkF : List (Str × List Ch) → Prop
  | [] => True
  | (f, k) :: r => Low f ∧ k ≠ [] ∧ tkOkL k ∧ tkOkF r ∧ r.length ≤ 999
end
theorem alt_app : ∀ (ts us : List Tk), Alt ts → Fol us → Alt us → Alt (ts ++ us)
  | [], us, _, _, a => a
  | .pt c :: ts, us, h, f, a => ⟨h.1, h.2.1, alt_app ts us h.2.2 f a⟩
  | .wd u w :: ts, us, h, f, a => by
    refine ⟨h.1, h.2.1, ?_, alt_app ts us h.2.2.2 f a⟩
    rcases h.2.2.1 with rfl | ⟨c, r, rfl, nc⟩
    · exact f
    · exact .inr ⟨c, r ++ us, rfl, nc⟩
theorem fol_pt {c : Nat} {ts : List Tk} (h : nolet c) : Fol (.pt c :: ts) := .inr ⟨c, ts, rfl, h⟩
theorem nl40 : nolet 40 := ⟨by decide, by decide⟩
theorem nl41 : nolet 41 := ⟨by decide, by decide⟩
theorem nl44 : nolet 44 := ⟨by decide, by decide⟩
theorem nl58 : nolet 58 := ⟨by decide, by decide⟩
theorem nl123 : nolet 123 := ⟨by decide, by decide⟩
theorem nl124 : nolet 124 := ⟨by decide, by decide⟩
theorem nl125 : nolet 125 := ⟨by decide, by decide⟩
mutual
theorem alt_C : ∀ {c : Ch}, tkOk c → Alt (tkC c)
  | .num, _ => ⟨by decide +kernel, by decide +kernel, .inl rfl, trivial⟩
  | .txt, _ => ⟨by decide +kernel, by decide +kernel, .inl rfl, trivial⟩
  | .row k, h => ⟨by decide +kernel, by decide +kernel, fol_pt nl40, nl40, by decide, alt_app _ _ (alt_L h.2) (fol_pt nl41) ⟨nl41, by decide, trivial⟩⟩
  | .book k, h => ⟨by decide +kernel, by decide +kernel, fol_pt nl40, nl40, by decide, alt_app _ _ (alt_L h.2) (fol_pt nl41) ⟨nl41, by decide, trivial⟩⟩
  | .shape fs, h => ⟨nl123, by decide, alt_app _ _ (alt_F h.2) (fol_pt nl125) ⟨nl125, by decide, trivial⟩⟩
  | .letter l, h => ⟨h.1, h.2.1, .inl rfl, trivial⟩
  | .cut _ _, h => h.elim
  | .any _, h => h.elim
  | .wth _, h => h.elim
theorem alt_L : ∀ {k : List Ch}, tkOkL k → Alt (tkL k)
  | [], _ => trivial
  | _ :: r, h => alt_app _ _ (alt_C h.1) (fol_M r) (alt_M h.2.1)
theorem alt_M : ∀ {k : List Ch}, tkOkL k → Alt (tkM k)
  | [], _ => trivial
  | c :: r, h => ⟨nl124, by decide, alt_app _ _ (alt_C h.1) (fol_M r) (alt_M h.2.1)⟩
theorem alt_F : ∀ {fs : List (Str × List Ch)}, tkOkF fs → Alt (tkF fs)
  | [], _ => trivial
  | (f, k) :: r, h => ⟨h.1.1, h.1.2.1, fol_pt nl58, nl58, by decide, alt_app _ _ (alt_L h.2.2.1) (fol_G r) (alt_G h.2.2.2.1)⟩
theorem alt_G : ∀ {fs : List (Str × List Ch)}, tkOkF fs → Alt (tkG fs)
  | [], _ => trivial
  | (f, k) :: r, h => ⟨nl44, by decide, h.1.1, h.1.2.1, fol_pt nl58, nl58, by decide, alt_app _ _ (alt_L h.2.2.1) (fol_G r) (alt_G h.2.2.2.1)⟩
theorem fol_M : ∀ (k : List Ch), Fol (tkM k)
  | [] => .inl rfl
  | _ :: _ => fol_pt nl124
theorem fol_G : ∀ (fs : List (Str × List Ch)), Fol (tkG fs)
  | [] => .inl rfl
  | (_, _) :: _ => fol_pt nl44
end
/-! ### a kind's text is its tokens -/
def tailJ (S : List Nat) (xs : List (List Nat)) : List Nat := (xs.map (S ++ ·)).flatten
theorem joinL_tail (S x : List Nat) : ∀ xs : List (List Nat), TL.joinL S (x :: xs) = x ++ tailJ S xs
  | [] => (List.append_nil x).symm
  | y :: ys => by
    show x ++ (S ++ TL.joinL S (y :: ys)) = _
    rw [joinL_tail S y ys]
    show _ = x ++ ((S ++ y) ++ tailJ S ys)
    rw [List.append_assoc]
theorem tailJ_cons (S x : List Nat) (xs : List (List Nat)) : tailJ S (x :: xs) = S ++ (x ++ tailJ S xs) := by
  show (S ++ x) ++ tailJ S xs = _
  rw [List.append_assoc]
theorem bar_eq : bar = [32, 124, 32] := by decide +kernel
theorem com_eq : com = [44, 32] := by decide +kernel
theorem sp_word {u : Bool} {w r : List Nat} {ts : List Tk} (nw : w ≠ []) (lw : ∀ c ∈ w, letN u c = true) (h : Tks ts r) : Tks (.wd u w :: ts) (w ++ r) := by
  refine ⟨r, ?_, h⟩
  cases w with
  | nil => exact absurd rfl nw
  | cons c w => exact wb_sign (let_ne (lw c List.mem_cons_self))
theorem sp_pt {c : Nat} {r : List Nat} {ts : List Tk} (n : c ≠ 32) (h : Tks ts r) : Tks (.pt c :: ts) (c :: r) := ⟨r, wb_sign n, h⟩
theorem sp_sp {r : List Nat} {ts : List Tk} (h : Tks ts r) : Tks ts (32 :: r) := sp_wb (wb_blank (b := [32]) (l := r) fun c m => by simpa using m).symm h
mutual
theorem sp_C : ∀ {c : Ch} {ts : List Tk} {r : List Nat}, tkOk c → Tks ts r → Tks (tkC c ++ ts) (cC c ++ r)
  | .num, ts, r, _, h => sp_word (by decide +kernel) (by decide +kernel) h
  | .txt, ts, r, _, h => sp_word (by decide +kernel) (by decide +kernel) h
  | .row k, ts, r, ok, h => by
    show Tks (.wd false (TL.tl "row") :: .pt 40 :: ((tkL k ++ [.pt 41]) ++ ts)) ((TL.tl "row" ++ 40 :: (TL.joinL bar (cL k) ++ [41])) ++ r)
    rw [List.append_assoc, List.append_assoc, List.cons_append, List.cons_append, List.append_assoc]
    exact sp_word (by decide +kernel) (by decide +kernel) (sp_pt (by decide) (sp_L ok.2 (sp_pt (by decide) h)))
  | .book k, ts, r, ok, h => by
    show Tks (.wd false (TL.tl "book") :: .pt 40 :: ((tkL k ++ [.pt 41]) ++ ts)) ((TL.tl "book" ++ 40 :: (TL.joinL bar (cL k) ++ [41])) ++ r)
    rw [List.append_assoc, List.append_assoc, List.cons_append, List.cons_append, List.append_assoc]
    exact sp_word (by decide +kernel) (by decide +kernel) (sp_pt (by decide) (sp_L ok.2 (sp_pt (by decide) h)))
  | .shape fs, ts, r, ok, h => by
    show Tks (.pt 123 :: ((tkF fs ++ [.pt 125]) ++ ts)) (123 :: ((TL.joinL com (cF fs) ++ [125]) ++ r))
    rw [List.append_assoc, List.append_assoc]
    exact sp_pt (by decide) (sp_F ok.2 (sp_pt (by decide) h))
  | .letter l, ts, r, ok, h => sp_word ok.1 ok.2.1 h
  | .cut _ _, _, _, ok, _ => ok.elim
  | .any _, _, _, ok, _ => ok.elim
  | .wth _, _, _, ok, _ => ok.elim
theorem sp_L : ∀ {k : List Ch} {ts : List Tk} {r : List Nat}, tkOkL k → Tks ts r → Tks (tkL k ++ ts) (TL.joinL bar (cL k) ++ r)
  | [], _, _, _, h => h
  | c :: k, ts, r, ok, h => by
    show Tks ((tkC c ++ tkM k) ++ ts) (TL.joinL bar (cC c :: cL k) ++ r)
    rw [joinL_tail, List.append_assoc, List.append_assoc]
    exact sp_C ok.1 (sp_M ok.2.1 h)
theorem sp_M : ∀ {k : List Ch} {ts : List Tk} {r : List Nat}, tkOkL k → Tks ts r → Tks (tkM k ++ ts) (tailJ bar (cL k) ++ r)
  | [], _, _, _, h => h
  | c :: k, ts, r, ok, h => by
    show Tks (.pt 124 :: ((tkC c ++ tkM k) ++ ts)) (tailJ bar (cC c :: cL k) ++ r)
    rw [tailJ_cons, bar_eq, List.append_assoc, List.append_assoc, List.append_assoc, ← bar_eq]
    exact sp_sp (sp_pt (by decide) (sp_sp (sp_C ok.1 (sp_M ok.2.1 h))))
theorem sp_F : ∀ {fs : List (Str × List Ch)} {ts : List Tk} {r : List Nat}, tkOkF fs → Tks ts r → Tks (tkF fs ++ ts) (TL.joinL com (cF fs) ++ r)
  | [], _, _, _, h => h
  | (f, k) :: fs, ts, r, ok, h => by
    show Tks (.wd false (TL.tl f) :: .pt 58 :: ((tkL k ++ tkG fs) ++ ts)) (TL.joinL com ((TL.tl f ++ 58 :: 32 :: TL.joinL bar (cL k)) :: cF fs) ++ r)
    rw [joinL_tail, List.append_assoc, List.append_assoc, List.append_assoc]
    exact sp_word ok.1.1 ok.1.2.1 (sp_pt (by decide) (sp_sp (sp_L ok.2.2.1 (sp_G ok.2.2.2.1 h))))
theorem sp_G : ∀ {fs : List (Str × List Ch)} {ts : List Tk} {r : List Nat}, tkOkF fs → Tks ts r → Tks (tkG fs ++ ts) (tailJ com (cF fs) ++ r)
  | [], _, _, _, h => h
  | (f, k) :: fs, ts, r, ok, h => by
    show Tks (.pt 44 :: .wd false (TL.tl f) :: .pt 58 :: ((tkL k ++ tkG fs) ++ ts)) (tailJ com ((TL.tl f ++ 58 :: 32 :: TL.joinL bar (cL k)) :: cF fs) ++ r)
    rw [tailJ_cons, com_eq, List.append_assoc, List.append_assoc, List.append_assoc, List.append_assoc, ← com_eq]
    exact sp_pt (by decide) (sp_sp (sp_word ok.1.1 ok.1.2.1 (sp_pt (by decide) (sp_sp (sp_L ok.2.2.1 (sp_G ok.2.2.2.1 h))))))
end
theorem tkOkL_len : ∀ {k : List Ch}, tkOkL k → k.length ≤ 1000
  | [], _ => Nat.zero_le _
  | c :: r, h => by have := h.2.2; show r.length + 1 ≤ 1000; omega
theorem tkOkF_len : ∀ {fs : List (Str × List Ch)}, tkOkF fs → fs.length ≤ 1000
  | [], _ => Nat.zero_le _
  | (f, k) :: r, h => by have := h.2.2.2.2; show r.length + 1 ≤ 1000; omega
end Sc
namespace Sc
open PySem PySem.Spec PyProof.Rows L2
/-! ### a reader -/
def rflds (z : Str) (n d : Int) : List (Str × V) := [("row", .str z), ("at", .int n), ("depth", .int d)]
theorem nra : ¬ (("row" : Str) = "at") := by decide +kernel
theorem nrd : ¬ (("row" : Str) = "depth") := by decide +kernel
theorem nad : ¬ (("at" : Str) = "depth") := by decide +kernel
theorem rflds_row (z : Str) (n d : Int) : (rflds z n d).lookup ("row" : Str) = some (.str z) := rfl
theorem rflds_at (z : Str) (n d : Int) : (rflds z n d).lookup ("at" : Str) = some (.int n) := rfl
theorem rflds_depth (z : Str) (n d : Int) : (rflds z n d).lookup ("depth" : Str) = some (.int d) := rfl
theorem rflds_putA (z : Str) (n d y : Int) : putF "at" (.int y) (rflds z n d) = rflds z y d := by
  show (if ("row" : Str) = "at" then _ else (("row" : Str), V.str z) :: (if ("at" : Str) = "at" then [(("at" : Str), V.int y), ("depth", V.int d)] else _)) = ([("row", V.str z), ("at", V.int y), ("depth", V.int d)] : List (Str × V))
  rw [if_neg nra, if_pos rfl]
theorem rflds_putD (z : Str) (n d y : Int) : putF "depth" (.int y) (rflds z n d) = rflds z n y := by
  show (if ("row" : Str) = "depth" then _ else (("row" : Str), V.str z) :: (if ("at" : Str) = "depth" then _ else (("at" : Str), V.int n) :: (if ("depth" : Str) = "depth" then [(("depth" : Str), V.int y)] else _))) = ([("row", V.str z), ("at", V.int n), ("depth", V.int y)] : List (Str × V))
  rw [if_neg nrd, if_neg nad, if_pos rfl]
theorem rflds_mk (z : Str) : putF "depth" (.int 0) (putF "at" (.int 0) (putF "row" (.str z) [])) = rflds z 0 0 := by
  show putF "depth" (.int 0) (if ("row" : Str) = "at" then [(("row" : Str), V.int 0)] else (("row" : Str), V.str z) :: putF "at" (V.int 0) []) = _
  rw [if_neg nra]
  show (if ("row" : Str) = "depth" then _ else (("row" : Str), V.str z) :: (if ("at" : Str) = "depth" then _ else (("at" : Str), V.int 0) :: [(("depth" : Str), V.int 0)])) = _
  rw [if_neg nrd, if_neg nad]
  rfl
/-- a reader stands at p: l is left of its row -/
def RAt (C : Addr) (H : Hp) (p : Addr) (z : Str) (l : List Nat) (d : Int) : Prop := ∃ (dx : Addr) (n : Nat), H p = some (.ins C dx (rflds z n d)) ∧ n ≤ z.length ∧ (TL.tl z).drop n = l ∧ z.length ≤ 6000 ∧ 0 ≤ d ∧ d ≤ 100
structure RdT (K : PySem.W.Frag) (mg : Str → Option Value) (C : Addr) : Prop where
  cl : Cls K C
  nR : NoAttr K C "row"
  nA : NoAttr K C "at"
  nD : NoAttr K C "depth"
  g : mg "Reader" = some (.ref C)
def spRInit (C : Addr) : Sp := fun vs H Q _ => ∃ (p dx : Addr) (z : Str), vs = [.ref p, .str z] ∧ H p = some (.ins C dx []) ∧ z.length ≤ 6000 ∧ ∀ (H' : Hp), RAt C H' p z (TL.tl z) 0 → Ext p H H' → Q .non H'
def spPassB (C : Addr) : Sp := fun vs H Q _ => ∃ (p : Addr) (z : Str) (l : List Nat) (d : Int), vs = [.ref p] ∧ RAt C H p z l d ∧ ∀ (H' : Hp), RAt C H' p z (wb l) d → Ext p H H' → Q .non H'
def spRSign (C : Addr) : Sp := fun vs H Q _ => ∃ (p : Addr) (z : Str) (l : List Nat) (d : Int), vs = [.ref p] ∧ RAt C H p z l d ∧ ∀ (H' : Hp), RAt C H' p z (wb l) d → Ext p H H' → Q (.str (mkS ((wb l).take 1))) H'
def spRTake (C : Addr) : Sp := fun vs H Q _ => ∃ (p : Addr) (z : Str) (l r : List Nat) (d : Int) (c : Nat), vs = [.ref p, .str (mkS [c])] ∧ RAt C H p z l d ∧ wb l = c :: r ∧ ∀ (H' : Hp), RAt C H' p z r d → Ext p H H' → Q .non H'
def spRPass (C : Addr) : Sp := fun vs H Q _ => ∃ (p : Addr) (z : Str) (l : List Nat) (d : Int) (c : Nat), vs = [.ref p, .str (mkS [c])] ∧ RAt C H p z l d ∧
  (∀ (H' : Hp) (r : List Nat), wb l = c :: r → RAt C H' p z r d → Ext p H H' → Q (.bl true) H') ∧ ∀ (H' : Hp), (∀ r, wb l ≠ c :: r) → RAt C H' p z (wb l) d → Ext p H H' → Q (.bl false) H'
def spREnter (C : Addr) : Sp := fun vs H Q _ => ∃ (p : Addr) (z : Str) (l r : List Nat) (d : Int) (c : Nat), vs = [.ref p, .str (mkS [c])] ∧ RAt C H p z l d ∧ wb l = c :: r ∧ d + 1 ≤ 40 ∧ ∀ (H' : Hp), RAt C H' p z r (d + 1) → Ext p H H' → Q .non H'
def spRLeave (C : Addr) : Sp := fun vs H Q _ => ∃ (p : Addr) (z : Str) (l r : List Nat) (d : Int) (c : Nat), vs = [.ref p, .str (mkS [c])] ∧ RAt C H p z l d ∧ wb l = c :: r ∧ 0 < d ∧ ∀ (H' : Hp), RAt C H' p z r (d - 1) → Ext p H H' → Q .non H'
def spTakeAll (C : Addr) : Sp := fun vs H Q _ => ∃ (p : Addr) (z : Str) (w r : List Nat) (d : Int) (a b : Nat), vs = [.ref p, .str (mkS [a]), .str (mkS [b])] ∧ RAt C H p z (w ++ r) d ∧ (∀ c ∈ w, a ≤ c ∧ c ≤ b) ∧ (∀ c r', r = c :: r' → ¬ (a ≤ c ∧ c ≤ b)) ∧
  ∀ (H' : Hp), RAt C H' p z r d → Ext p H H' → Q (.str (mkS w)) H'
def spNeedEnd (C : Addr) : Sp := fun vs H Q _ => ∃ (p : Addr) (z : Str) (l : List Nat) (d : Int), vs = [.ref p] ∧ RAt C H p z l d ∧ wb l = [] ∧ ∀ (H' : Hp), RAt C H' p z [] d → Ext p H H' → Q .non H'
/-- a method keeps its promise -/
def MOk (P : Program) (w : World) (K : PySem.W.Frag) (mg : Str → Option Value) (base : Heap) (C : Addr) (lv : Nat) (m : Str) (ps : List Str) (sp : Sp) : Prop := ∃ f fd, FnOk P w K mg base CX0 lv f fd ps sp ∧ Meth K C m f ∧ Binds K fd ps []
/-- a statement that is never come to -/
theorem ps_no {X : Cx} {s : Stmt} : PS X s (fun _ _ _ => False) := ⟨fun _ _ _ _ _ _ h => h.elim⟩
section
theorem cut1 {z : Str} {n : Nat} (h : n ≤ z.length) : cutS z (some (n : Int)) (some ((n : Int) + 1)) = mkS (((TL.tl z).drop n).take 1) := by
  have hl : z.length = (TL.tl z).length := TL.len_tl z
  unfold cutS
  rw [show HT.sIx z.length 0 (some (n : Int)) = n by rw [HT.sIx_nat]; omega, show ((n : Int) + 1) = ((n + 1 : Nat) : Int) by push_cast; rfl, HT.sIx_nat]
  refine congrArg (fun l : List Nat => (⟨l.toArray⟩ : Str)) ?_
  show ((TL.tl z).drop n).take (min (n + 1) z.length - n) = ((TL.tl z).drop n).take 1
  by_cases e : n < z.length
  · rw [show min (n + 1) z.length - n = 1 by omega]
  · rw [List.drop_of_length_le (by omega), List.take_nil, List.take_nil]
end
end Sc
namespace Sc
open PySem PyProof.Rows L2
def top (i : Nat) : Stmt := PySem.Challenge.pw_soothcheck_k38_kinds_told_and_read.main.body.getD i (.Pass ⟨0, 0, 0, 0⟩)
abbrev sPWall : Stmt := top 0
abbrev sShownKind : Stmt := top 6
abbrev sShownChoice : Stmt := top 7
abbrev sIsWord : Stmt := top 8
abbrev sHasWordSigns : Stmt := top 9
abbrev sIsLetter : Stmt := top 10
abbrev sPHasWordLength : Stmt := top 11
abbrev sReadKind : Stmt := top 16
abbrev sPNeedShort : Stmt := top 17
abbrev sPReadInBrackets : Stmt := top 18
abbrev sPReadWord : Stmt := top 19
abbrev sPReadLetter : Stmt := top 20
abbrev sPReadFieldAndKind : Stmt := top 21
abbrev sPReadKind : Stmt := top 22
abbrev sPReadChoice : Stmt := top 23
abbrev sBegun : Stmt := top 25
abbrev sTaken : Stmt := top 26
abbrev sWord : Stmt := top 27
abbrev sKind : Stmt := top 28
abbrev sChoice : Stmt := top 29
abbrev sFields : Stmt := top 30
abbrev sTold : Stmt := top 31
abbrev sToldChoice : Stmt := top 32
abbrev sWithinTexts : Stmt := top 33
abbrev sSpaced : Stmt := top 34
abbrev sLaw : Stmt := top 35
abbrev sReaderInit : Stmt := inClass (top 15) 0
abbrev sReaderPassBlanks : Stmt := inClass (top 15) 1
abbrev sReaderSign : Stmt := inClass (top 15) 2
abbrev sReaderTake : Stmt := inClass (top 15) 3
abbrev sReaderPasses : Stmt := inClass (top 15) 4
abbrev sReaderEnter : Stmt := inClass (top 15) 5
abbrev sReaderLeave : Stmt := inClass (top 15) 6
abbrev sReaderTakeAny : Stmt := inClass (top 15) 7
abbrev sReaderTakeAll : Stmt := inClass (top 15) 8
abbrev sReaderNeedBlank : Stmt := inClass (top 15) 9
abbrev sReaderNeedEnd : Stmt := inClass (top 15) 10
structure Tx (K : PySem.W.Frag) (mg : Str → Option Value) : Prop where
  p_wall : Def K mg "_wall" sPWall ["k"]
  shown_kind : Def K mg "shown_kind" sShownKind ["kind"]
  shown_choice : Def K mg "shown_choice" sShownChoice ["choice"]
  is_word : Def K mg "is_word" sIsWord ["thing"]
  has_word_signs : Def K mg "has_word_signs" sHasWordSigns ["text"]
  is_letter : Def K mg "is_letter" sIsLetter ["thing"]
  p_has_word_length : Def K mg "_has_word_length" sPHasWordLength ["thing"]
  read_kind : Def K mg "read_kind" sReadKind ["text"]
  p_need_short : Def K mg "_need_short" sPNeedShort ["text"]
  p_read_word : Def K mg "_read_word" sPReadWord ["reader"]
  p_read_letter : Def K mg "_read_letter" sPReadLetter ["reader"]
  p_read_field_and_kind : Def K mg "_read_field_and_kind" sPReadFieldAndKind ["reader"]
  p_read_kind : Def K mg "_read_kind" sPReadKind ["reader"]
  p_read_choice : Def K mg "_read_choice" sPReadChoice ["reader"]
  begun : Def K mg "_law_begun" sBegun ["_law_script"]
  taken : Def K mg "_law_taken" sTaken ["_law_s", "_law_most"]
  word : Def K mg "_law_word" sWord ["_law_s", "_law_k"]
  kind : Def K mg "_law_kind" sKind ["_law_s", "_law_deep", "_law_letters"]
  choice : Def K mg "_law_choice" sChoice ["_law_s", "_law_deep", "_law_letters"]
  fields : Def K mg "_law_fields" sFields ["_law_s", "_law_deep", "_law_letters"]
  told : Def K mg "_law_told" sTold ["_law_kind_here"]
  told_choice : Def K mg "_law_told_choice" sToldChoice ["_law_choice_here"]
  within_texts : Def K mg "_law_within_texts" sWithinTexts ["_law_text"]
  spaced : Def K mg "_law_spaced" sSpaced ["_law_s", "_law_text"]
  m_ValueError : mg "ValueError" = none
  m_abs : mg "abs" = none
  m_all : mg "all" = none
  m_int : mg "int" = none
  m_isinstance : mg "isinstance" = none
  m_len : mg "len" = none
  m_list : mg "list" = none
  m_range : mg "range" = none
  m_set : mg "set" = none
  m_sorted : mg "sorted" = none
  m_str : mg "str" = none
  m_sum : mg "sum" = none
  m_tuple : mg "tuple" = none
end Sc
namespace Sc
open PySem PyProof.Rows L2
section
variable {P : Program} {w : World} {K : PySem.W.Frag} {mg : Str → Option Value} {base : Heap}
theorem scRP : FnScope ["self"] ["self"] (defScope sReaderPassBlanks) := ⟨rfl, rfl, rfl, by decide +kernel, rfl, by decide +kernel, by decide +kernel⟩
theorem ok_rpassb {f C : Addr} {fd : FuncData} (F : Fun K "pass_blanks" "Reader.pass_blanks" sReaderPassBlanks f fd) (T : RdT K mg C) : FnOk P w K mg base CX0 1 f fd ["self"] (spPassB C) := by
  refine F.ok scRP (fun vs H Q E h => ?_) (fun cdv A outer s H vs Q E hr h => ?_)
  · obtain ⟨p, z, l, d, rfl, _⟩ := h
    rfl
  obtain ⟨p, z, l, d, rfl, R, q⟩ := h
  refine ⟨_, pss_one (ps_while PassesOwn.never (pt_cmpR op_eq (pe_slice sl_str (pe_fld (pv 0) rfl) (po_some (pe_fld (pv 0) rfl)) (po_some (pe_op op_add (pe_fld (pv 0) rfl) pe_int))) pe_str (nomark _)) (pss_one (ps_fldaug (pv 0) pe_int in_add))), ?_⟩
  refine ⟨fun m σ2 H2 => σ2 = [some (.ref p)] ∧ ∃ l2, m = l2.length ∧ wb l2 = wb l ∧ RAt C H2 p z l2 d ∧ Ext p H H2, ⟨l.length, rfl, l, rfl, rfl, R, Ext.refl _ _⟩, ?_⟩
  rintro m σ2 H2 ⟨rfl, l2, rfl, e2, R2, x2⟩
  obtain ⟨dx, n, hp, hn, hd, hz, d0, d1⟩ := id R2
  refine ⟨_, rfl, p, C, dx, _, _, rfl, hp, T.cl, T.nR, rflds_row _ _ _, _, rfl, p, C, dx, _, _, rfl, hp, T.cl, T.nA, rflds_at _ _ _, _, rfl, _, rfl, p, C, dx, _, _, rfl, hp, T.cl, T.nA, rflds_at _ _ _, _, _, rfl, rfl, _, rfl, z, rfl, sizeOk (by omega), ?_⟩
  rw [cut1 hn, hd]
  refine ⟨rfl, _, rfl, ?_⟩
  cases l2 with
  | nil =>
    refine iteNo (by decide +kernel) (q H2 ?_ x2)
    rw [← e2]; exact R2
  | cons c r =>
    by_cases e : c = 32
    · subst e
      have wr : wb (32 :: r) = wb r := List.dropWhile_cons_of_pos rfl
      have hr2 : (TL.tl z).drop (n + 1) = r := by rw [← List.drop_drop, hd]; rfl
      have n1 : n + 1 ≤ z.length := by
        have l3 := congrArg List.length hd
        rw [List.length_drop, ← TL.len_tl, List.length_cons] at l3
        omega
      refine iteYes (show decide (V.str (mkS [32]) = V.str " ") = true by decide +kernel) ⟨fun σ' H' => σ' = [some (.ref p)] ∧ RAt C H' p z r d ∧ Ext p H H', fun σ' H' h => ⟨r.length, Nat.lt_succ_self _, h.1, r, rfl, by rw [← wr]; exact e2, h.2.1, h.2.2⟩, ?_⟩
      refine ⟨_, rfl, p, C, dx, _, _, rfl, hp, T.cl, T.nA, rflds_at _ _ _, _, _, rfl, rfl, _, _, hp, (by show 3 < 1000; decide), ?_⟩
      refine ⟨rfl, ⟨dx, n + 1, ?_, n1, hr2, hz, d0, d1⟩, x2.trans (Ext.upd _ _ _)⟩
      rw [upd_same, rflds_putA]
      rfl
    · refine iteNo (fun h => ?_) (q H2 ?_ x2)
      · have h2 := V.str.inj (of_decide_eq_true h)
        have h3 : [c] = [32] := congrArg (fun t : Str => t.cps.toList) h2
        exact e (List.cons.inj h3).1
      · rw [← e2, wb_sign e]; exact R2
theorem scRS : FnScope ["self"] ["self"] (defScope sReaderSign) := ⟨rfl, rfl, rfl, by decide +kernel, rfl, by decide +kernel, by decide +kernel⟩
theorem ok_rsign {f C : Addr} {fd : FuncData} (F : Fun K "sign" "Reader.sign" sReaderSign f fd) (T : RdT K mg C) (MB : MOk P w K mg base C 1 "pass_blanks" ["self"] (spPassB C)) : FnOk P w K mg base CX0 2 f fd ["self"] (spRSign C) := by
  obtain ⟨g, gd, GF, MF, BF⟩ := MB
  refine F.ok scRS (fun vs H Q E h => ?_) (fun cdv A outer s H vs Q E hr h => ?_)
  · obtain ⟨p, z, l, d, rfl, _⟩ := h
    rfl
  obtain ⟨p, z, l, d, rfl, R, q⟩ := h
  have r1 : Room 1 _ := hr.mono (by decide)
  refine ⟨_, pss_cons (ps_expr (pe_meth0 (pv 0) T.cl MF GF r1 BF .nil pass0)) (pss_one (ps_ret (pe_slice sl_str (pe_fld (pv 0) rfl) (po_some (pe_fld (pv 0) rfl)) (po_some (pe_op op_add (pe_fld (pv 0) rfl) pe_int))))), ?_⟩
  obtain ⟨dx, n, hp, _⟩ := id R
  refine ⟨_, rfl, p, dx, _, rfl, hp, rfl, p, z, l, d, rfl, R, fun H2 R2 x2 => ?_⟩
  obtain ⟨dx, n, hp, hn, hd, hz, d0, d1⟩ := id R2
  refine ⟨_, rfl, p, C, dx, _, _, rfl, hp, T.cl, T.nR, rflds_row _ _ _, _, rfl, p, C, dx, _, _, rfl, hp, T.cl, T.nA, rflds_at _ _ _, _, rfl, _, rfl, p, C, dx, _, _, rfl, hp, T.cl, T.nA, rflds_at _ _ _, _, _, rfl, rfl, _, rfl, z, rfl, sizeOk (by omega), ?_⟩
  rw [cut1 hn, hd]
  exact q H2 R2 x2
theorem mkS1_eq {a b : Nat} : decide (V.str (mkS [a]) = V.str (mkS [b])) = decide (a = b) := by
  refine decide_eq_decide.mpr ⟨fun h => ?_, fun h => by rw [h]⟩
  have h3 : [a] = [b] := congrArg (fun t : Str => t.cps.toList) (V.str.inj h)
  exact (List.cons.inj h3).1
theorem mkS0_ne {b : Nat} : ¬ (V.str (mkS []) = V.str (mkS [b])) := fun h => by
  have h3 : [] = [b] := congrArg (fun t : Str => t.cps.toList) (V.str.inj h)
  cases h3
theorem RAt.step {C : Addr} {H : Hp} {p : Addr} {z : Str} {c : Nat} {r : List Nat} {d : Int} (h : RAt C H p z (c :: r) d) : ∃ (dx : Addr) (n : Nat), H p = some (.ins C dx (rflds z n d)) ∧ n + 1 ≤ z.length ∧ (TL.tl z).drop (n + 1) = r ∧ z.length ≤ 6000 ∧ 0 ≤ d ∧ d ≤ 100 := by
  obtain ⟨dx, n, hp, hn, hd, hz, d0, d1⟩ := h
  have l3 := congrArg List.length hd
  rw [List.length_drop, ← TL.len_tl, List.length_cons] at l3
  exact ⟨dx, n, hp, by omega, by rw [← List.drop_drop, hd]; rfl, hz, d0, d1⟩
theorem scRT : FnScope ["self", "sign"] ["self", "sign"] (defScope sReaderTake) := ⟨rfl, rfl, rfl, by decide +kernel, rfl, by decide +kernel, by decide +kernel⟩
theorem ok_rtake {f C : Addr} {fd : FuncData} (F : Fun K "take" "Reader.take" sReaderTake f fd) (T : RdT K mg C) (MS : MOk P w K mg base C 2 "sign" ["self"] (spRSign C)) : FnOk P w K mg base CX0 3 f fd ["self", "sign"] (spRTake C) := by
  obtain ⟨g, gd, GF, MF, BF⟩ := MS
  refine F.ok scRT (fun vs H Q E h => ?_) (fun cdv A outer s H vs Q E hr h => ?_)
  · obtain ⟨p, z, l, r, d, c, rfl, _⟩ := h
    rfl
  obtain ⟨p, z, l, r, d, c, rfl, R, hw, q⟩ := h
  have r2 : Room 2 _ := hr.mono (by decide)
  refine ⟨_, pss_cons (ps_if (pt_cmpR op_ne (pe_meth0 (pv 0) T.cl MF GF r2 BF .nil pass0) (pv 1) (nomark _)) (pss_one ps_no) pss_nil) (pss_one (ps_fldaug (pv 0) pe_int in_add)), ?_⟩
  obtain ⟨dx, n, hp, _⟩ := id R
  refine ⟨_, rfl, p, dx, _, rfl, hp, rfl, p, z, l, d, rfl, R, fun H2 R2 x2 => ?_⟩
  rw [hw] at R2 ⊢
  obtain ⟨dx, n, hp, hn, hd, hz, d0, d1⟩ := R2.step
  refine ⟨_, rfl, rfl, _, rfl, iteNo (fun h => ?_) ⟨_, rfl, p, C, dx, _, _, rfl, hp, T.cl, T.nA, rflds_at _ _ _, _, _, rfl, rfl, _, _, hp, (by show 3 < 1000; decide), q _ ⟨dx, n + 1, ?_, hn, hd, hz, d0, d1⟩ (x2.trans (Ext.upd _ _ _))⟩⟩
  · rw [show List.take 1 (c :: r) = [c] from rfl, decide_eq_true rfl] at h; cases h
  · rw [upd_same, rflds_putA]
    rfl
theorem scRPa : FnScope ["self", "sign"] ["self", "sign"] (defScope sReaderPasses) := ⟨rfl, rfl, rfl, by decide +kernel, rfl, by decide +kernel, by decide +kernel⟩
theorem ok_rpass {f C : Addr} {fd : FuncData} (F : Fun K "passes" "Reader.passes" sReaderPasses f fd) (T : RdT K mg C) (MS : MOk P w K mg base C 2 "sign" ["self"] (spRSign C)) : FnOk P w K mg base CX0 3 f fd ["self", "sign"] (spRPass C) := by
  obtain ⟨g, gd, GF, MF, BF⟩ := MS
  refine F.ok scRPa (fun vs H Q E h => ?_) (fun cdv A outer s H vs Q E hr h => ?_)
  · obtain ⟨p, z, l, d, c, rfl, _⟩ := h
    rfl
  obtain ⟨p, z, l, d, c, rfl, R, qT, qF⟩ := h
  have r2 : Room 2 _ := hr.mono (by decide)
  refine ⟨_, pss_cons (ps_if (pt_cmpR op_ne (pe_meth0 (pv 0) T.cl MF GF r2 BF .nil pass0) (pv 1) (nomark _)) (pss_one (ps_ret pe_bl)) pss_nil) (pss_cons (ps_fldaug (pv 0) pe_int in_add) (pss_one (ps_ret pe_bl))), ?_⟩
  obtain ⟨dx, n, hp, _⟩ := id R
  refine ⟨_, rfl, p, dx, _, rfl, hp, rfl, p, z, l, d, rfl, R, fun H2 R2 x2 => ?_⟩
  by_cases e : ∃ r, wb l = c :: r
  · obtain ⟨r, hw⟩ := e
    rw [hw] at R2 ⊢
    obtain ⟨dx, n, hp, hn, hd, hz, d0, d1⟩ := R2.step
    refine ⟨_, rfl, rfl, _, rfl, iteNo (fun h => ?_) ⟨_, rfl, p, C, dx, _, _, rfl, hp, T.cl, T.nA, rflds_at _ _ _, _, _, rfl, rfl, _, _, hp, (by show 3 < 1000; decide), qT _ r hw ⟨dx, n + 1, ?_, hn, hd, hz, d0, d1⟩ (x2.trans (Ext.upd _ _ _))⟩⟩
    · rw [show List.take 1 (c :: r) = [c] from rfl, decide_eq_true rfl] at h; cases h
    · rw [upd_same, rflds_putA]
      rfl
  · have no : ¬ (V.str (mkS ((wb l).take 1)) = V.str (mkS [c])) := fun h => e ?_
    · exact ⟨_, rfl, rfl, _, rfl, iteYes (by rw [decide_eq_false no]; rfl) (qF _ (fun r hr => e ⟨r, hr⟩) R2 x2)⟩
    cases hl : wb l with
    | nil => rw [hl] at h; exact absurd h mkS0_ne
    | cons b r =>
      rw [hl] at h
      have h3 : [b] = [c] := congrArg (fun t : Str => t.cps.toList) (V.str.inj h)
      exact ⟨r, by rw [(List.cons.inj h3).1]⟩
theorem scRE : FnScope ["self", "sign"] ["self", "sign"] (defScope sReaderEnter) := ⟨rfl, rfl, rfl, by decide +kernel, rfl, by decide +kernel, by decide +kernel⟩
theorem ok_renter {f C : Addr} {fd : FuncData} (F : Fun K "enter" "Reader.enter" sReaderEnter f fd) (T : RdT K mg C) (g40 : ∃ t, mg "DEEPEST_BRACKETS" = some (.int 40 t)) (MS : MOk P w K mg base C 3 "take" ["self", "sign"] (spRTake C)) : FnOk P w K mg base CX0 4 f fd ["self", "sign"] (spREnter C) := by
  obtain ⟨g, gd, GF, MF, BF⟩ := MS
  obtain ⟨t40, g40⟩ := g40
  refine F.ok scRE (fun vs H Q E h => ?_) (fun cdv A outer s H vs Q E hr h => ?_)
  · obtain ⟨p, z, l, r, d, c, rfl, _⟩ := h
    rfl
  obtain ⟨p, z, l, r, d, c, rfl, R, hw, d40, q⟩ := h
  have r3 : Room 3 _ := hr.mono (by decide)
  refine ⟨_, pss_cons (ps_expr (pe_meth (pv 0) T.cl MF GF r3 BF .nil pass0 (pa_cons (pv 1) pa_nil))) (pss_cons (ps_fldaug (pv 0) pe_int in_add)
    (pss_one (ps_if (pt_cmpR op_gt (pe_fld (pv 0) rfl) (pe_glob (v := .int 40) (by rfl) g40 ⟨t40, rfl⟩) (nomark _)) (pss_one ps_no) pss_nil))), ?_⟩
  obtain ⟨dx, n, hp, _⟩ := id R
  refine ⟨_, rfl, p, dx, _, rfl, hp, rfl, _, rfl, p, z, l, r, d, c, rfl, R, hw, fun H2 R2 x2 => ?_⟩
  obtain ⟨dx, n, hp, hn, hd, hz, d0, d1⟩ := id R2
  refine ⟨_, rfl, p, C, dx, _, _, rfl, hp, T.cl, T.nD, rflds_depth _ _ _, _, _, rfl, rfl, _, _, hp, (by show 3 < 1000; decide), ?_⟩
  have hp2 : (upd H2 p (.ins C dx (putF "depth" (.int (d + 1)) (rflds z n d)))) p = some (.ins C dx (rflds z n (d + 1))) := by rw [upd_same, rflds_putD]
  refine ⟨_, rfl, p, C, dx, _, _, rfl, hp2, T.cl, T.nD, rflds_depth _ _ _, _, _, rfl, rfl, _, rfl, iteNo (fun h => ?_) (q _ ⟨dx, n, hp2, hn, hd, hz, by omega, by omega⟩ (x2.trans (Ext.upd _ _ _)))⟩
  have := of_decide_eq_true h
  omega
theorem scRL : FnScope ["self", "sign"] ["self", "sign"] (defScope sReaderLeave) := ⟨rfl, rfl, rfl, by decide +kernel, rfl, by decide +kernel, by decide +kernel⟩
theorem ok_rleave {f C : Addr} {fd : FuncData} (F : Fun K "leave" "Reader.leave" sReaderLeave f fd) (T : RdT K mg C) (MS : MOk P w K mg base C 3 "take" ["self", "sign"] (spRTake C)) : FnOk P w K mg base CX0 4 f fd ["self", "sign"] (spRLeave C) := by
  obtain ⟨g, gd, GF, MF, BF⟩ := MS
  refine F.ok scRL (fun vs H Q E h => ?_) (fun cdv A outer s H vs Q E hr h => ?_)
  · obtain ⟨p, z, l, r, d, c, rfl, _⟩ := h
    rfl
  obtain ⟨p, z, l, r, d, c, rfl, R, hw, d0', q⟩ := h
  have r3 : Room 3 _ := hr.mono (by decide)
  refine ⟨_, pss_cons (ps_expr (pe_meth (pv 0) T.cl MF GF r3 BF .nil pass0 (pa_cons (pv 1) pa_nil))) (pss_one (ps_fldaug (pv 0) pe_int in_sub)), ?_⟩
  obtain ⟨dx, n, hp, _⟩ := id R
  refine ⟨_, rfl, p, dx, _, rfl, hp, rfl, _, rfl, p, z, l, r, d, c, rfl, R, hw, fun H2 R2 x2 => ?_⟩
  obtain ⟨dx, n, hp, hn, hd, hz, d0, d1⟩ := id R2
  refine ⟨_, rfl, p, C, dx, _, _, rfl, hp, T.cl, T.nD, rflds_depth _ _ _, _, _, rfl, rfl, _, _, hp, (by show 3 < 1000; decide), q _ ⟨dx, n, ?_, hn, hd, hz, by omega, by omega⟩ (x2.trans (Ext.upd _ _ _))⟩
  rw [upd_same, rflds_putD]
theorem scRN : FnScope ["self"] ["self"] (defScope sReaderNeedEnd) := ⟨rfl, rfl, rfl, by decide +kernel, rfl, by decide +kernel, by decide +kernel⟩
theorem ok_rend {f C : Addr} {fd : FuncData} (F : Fun K "need_end" "Reader.need_end" sReaderNeedEnd f fd) (T : RdT K mg C) (MS : MOk P w K mg base C 2 "sign" ["self"] (spRSign C)) : FnOk P w K mg base CX0 3 f fd ["self"] (spNeedEnd C) := by
  obtain ⟨g, gd, GF, MF, BF⟩ := MS
  refine F.ok scRN (fun vs H Q E h => ?_) (fun cdv A outer s H vs Q E hr h => ?_)
  · obtain ⟨p, z, l, d, rfl, _⟩ := h
    rfl
  obtain ⟨p, z, l, d, rfl, R, hw, q⟩ := h
  have r2 : Room 2 _ := hr.mono (by decide)
  refine ⟨_, pss_one (ps_if (pt_cmpR op_ne (pe_meth0 (pv 0) T.cl MF GF r2 BF .nil pass0) pe_str (nomark _)) (pss_one ps_no) pss_nil), ?_⟩
  obtain ⟨dx, n, hp, _⟩ := id R
  refine ⟨_, rfl, p, dx, _, rfl, hp, rfl, p, z, l, d, rfl, R, fun H2 R2 x2 => ?_⟩
  rw [hw] at R2 ⊢
  exact ⟨rfl, _, rfl, iteNo (by decide +kernel) (q _ R2 x2)⟩
end
end Sc
namespace Sc
open PySem PyProof.Rows L2
section
variable {P : Program} {w : World} {K : PySem.W.Frag} {mg : Str → Option Value} {base : Heap} {T0 : List Addr}
theorem scHasLen : FnScope ["thing"] ["thing"] (defScope sPHasWordLength) := ⟨rfl, rfl, rfl, by decide +kernel, rfl, by decide +kernel, by decide +kernel⟩
theorem c_has_len (T : Tx K mg) (hl8 : ∃ t, mg "LONGEST_WORD" = some (.int 8 t)) : Cal P w K mg base 1 "_has_word_length" ["thing"] (spTest K T0 lenOkD) := by
  refine T.p_has_word_length.ok scHasLen (fun vs H Q E h => ?_) (fun f cdv A outer s H vs Q E hr h => ?_)
  · obtain ⟨v, d, rfl, _⟩ := h
    rfl
  obtain ⟨v, d, rfl, hd, ok, tb, q⟩ := h
  obtain ⟨t8, m8⟩ := hl8
  refine ⟨_, pss_one (ps_ret (pe_and (pe_callB call_isi (by rfl) T.m_isinstance boot_isinstance (pa_cons (pv 0) (pa_cons (pe_bltn (v := .ty "str") (by rfl) T.m_str boot_str rfl) pa_nil)))
    (pe_one (pe_chain op_le op_le pe_int (pe_callB call_len_str (by rfl) T.m_len PySem.boot_len (pa_cons (pv 0) pa_nil)) (pe_glob (v := .int 8) (by rfl) m8 ⟨_, rfl⟩))))), ?_⟩
  refine ⟨_, rfl, v, _, _, _, _, rfl, .ty _, Dp.ty hd, kit_ty (isStr hd), _, rfl, ?_⟩
  have fin := q H (Fr.refl tb)
  cases hd with
  | str z =>
    refine iteT ⟨_, rfl, z, rfl, ?_, _, _, rfl, rfl, _, rfl, ?_⟩
    · have h2 : decide (z.length ≤ 1000) = true := ok.2
      exact sizeOk (by have := of_decide_eq_true h2; omega)
    · have e1 : decide ((1 : Int) ≤ (z.length : Int)) = decide (1 ≤ z.length) := decide_eq_decide.mpr (by omega)
      have e2 : decide ((z.length : Int) ≤ 8) = decide (z.length ≤ 8) := decide_eq_decide.mpr (by omega)
      have fin' : Q (.bl (decide (1 ≤ z.length) && decide (z.length ≤ 8))) H := fin
      rw [e1]
      cases h1 : decide (1 ≤ z.length) with
      | false =>
        rw [h1, Bool.false_and] at fin'
        exact iteF fin'
      | true =>
        rw [h1, Bool.true_and, ← e2] at fin'
        exact iteT ⟨_, _, rfl, rfl, fin'⟩
  | non => exact iteF fin
  | bl b => exact iteF fin
  | int b => exact iteF fin
  | lst _ _ => exact iteF fin
  | tup _ _ => exact iteF fin
end
end Sc
namespace Sc
open PySem PyProof.Rows L2
section
variable {P : Program} {w : World} {K : PySem.W.Frag} {mg : Str → Option Value} {base : Heap} {T0 : List Addr}
theorem word_iff (z : Str) : decide (Word z) = ((decide (1 ≤ z.length) && decide (z.length ≤ 8)) && z.cps.toList.all fun c => decide (97 ≤ c) && decide (c ≤ 122)) := by
  rw [Bool.eq_iff_iff]
  simp only [Bool.and_eq_true, decide_eq_true_eq, List.all_eq_true]
  exact ⟨fun h => ⟨⟨h.1, h.2.1⟩, h.2.2⟩, fun h => ⟨h.1.1, h.1.2, h.2⟩⟩
theorem lett_iff (z : Str) : decide (Lett z) = ((decide (1 ≤ z.length) && decide (z.length ≤ 8)) && z.cps.toList.all fun c => decide (65 ≤ c) && decide (c ≤ 90)) := by
  rw [Bool.eq_iff_iff]
  simp only [Bool.and_eq_true, decide_eq_true_eq, List.all_eq_true]
  exact ⟨fun h => ⟨⟨h.1, h.2.1⟩, h.2.2⟩, fun h => ⟨h.1.1, h.1.2, h.2⟩⟩
theorem scIsWord : FnScope ["thing"] ["thing"] (defScope sIsWord) := ⟨rfl, rfl, rfl, by decide +kernel, rfl, by decide +kernel, by decide +kernel⟩
theorem scIsLetter : FnScope ["thing"] ["thing"] (defScope sIsLetter) := ⟨rfl, rfl, rfl, by decide +kernel, rfl, by decide +kernel, by decide +kernel⟩
def spSigns (T : List Addr) : Sp := fun vs H Q _ => ∃ z : Str, vs = [.str z] ∧ Tb T H ∧ ∀ (H' : Hp), Fr T H H' → Q (.bl (z.cps.toList.all fun c => decide (97 ≤ c) && decide (c ≤ 122))) H'
theorem scWordSigns : FnScope ["text"] ["text"] (defScope sHasWordSigns) := ⟨rfl, rfl, rfl, by decide +kernel, rfl, by decide +kernel, by decide +kernel⟩
theorem c_word_signs {c Pa : Addr} (T : Tx K mg) (D : DefT K mg "has_word_signs" sHasWordSigns ["text"] c) (TB : GxR.TabB base mg c Pa) (hP : Pa ∈ T0) : Cal P w K mg base 1 "has_word_signs" ["text"] (spSigns T0) := by
  refine D.ok scWordSigns (fun vs H Q E h => ?_) (fun f A outer s H vs Q E hr h => ?_)
  · obtain ⟨z, rfl, _⟩ := h
    rfl
  obtain ⟨z, rfl, tb, q⟩ := h
  refine ⟨_, pss_one (ps_ret (GxR.pe_allS hr (by rfl) T.m_all (by decide +kernel) TB (by rfl) (gen_by (by decide +kernel)) (pv 0) (elt_between (a := 97) (b := 122) (by rfl) (by rfl)) (fun _ => rfl))), ?_⟩
  obtain ⟨ps, g, tr⟩ := tb Pa hP
  exact ⟨_, rfl, z, rfl, ⟨ps, g, tr⟩, fun H2 t2 => q H2 (Fr.tabbed tb t2 hP)⟩
theorem c_is_word (T : Tx K mg) (CS : Cal P w K mg base 1 "has_word_signs" ["text"] (spSigns T0)) (hl8 : ∃ t, mg "LONGEST_WORD" = some (.int 8 t)) : Cal P w K mg base 2 "is_word" ["thing"] (spTest K T0 isWordD) := by
  have CL : Cal P w K mg base 1 "_has_word_length" ["thing"] (spTest K T0 lenOkD) := c_has_len T hl8
  refine T.is_word.ok scIsWord (fun vs H Q E h => ?_) (fun f cdv A outer s H vs Q E hr h => ?_)
  · obtain ⟨v, d, rfl, _⟩ := h
    rfl
  obtain ⟨v, d, rfl, hd, ok, tb, q⟩ := h
  refine ⟨_, pss_one (ps_ret (pe_and (pe_cal CL hr (pa_cons (pv 0) pa_nil)) (pe_one (pe_cal CS hr (pa_cons (pv 0) pa_nil))))), ?_⟩
  refine ⟨_, rfl, v, d, rfl, hd, ok, tb, fun H1 f1 => ⟨_, rfl, ?_⟩⟩
  cases h1 : lenOkD d with
  | false =>
    have e : isWordD d = false := by
      cases d with
      | str z =>
        show decide (Word z) = false
        rw [word_iff, show (decide (1 ≤ z.length) && decide (z.length ≤ 8)) = false from h1, Bool.false_and]
      | _ => rfl
    have fin := q H1 f1
    rw [e] at fin
    exact iteF fin
  | true =>
    cases hd with
    | str z =>
      refine iteT ⟨_, rfl, z, rfl, f1.tab, fun H2 f2 => ?_⟩
      have fin := q H2 (f1.trans f2)
      have e : isWordD (.str z) = z.cps.toList.all fun c => decide (97 ≤ c) && decide (c ≤ 122) := by
        show decide (Word z) = _
        rw [word_iff, show (decide (1 ≤ z.length) && decide (z.length ≤ 8)) = true from h1, Bool.true_and]
      rw [e] at fin
      exact fin
    | non => cases h1
    | bl _ => cases h1
    | int _ => cases h1
    | lst _ _ => cases h1
    | tup _ _ => cases h1
theorem c_is_letter {c Pa : Addr} (T : Tx K mg) (D : DefT K mg "is_letter" sIsLetter ["thing"] c) (TB : GxR.TabB base mg c Pa) (hP : Pa ∈ T0) (hl8 : ∃ t, mg "LONGEST_WORD" = some (.int 8 t)) : Cal P w K mg base 2 "is_letter" ["thing"] (spTest K T0 isLettD) := by
  have CL : Cal P w K mg base 1 "_has_word_length" ["thing"] (spTest K T0 lenOkD) := c_has_len T hl8
  refine D.ok scIsLetter (fun vs H Q E h => ?_) (fun f A outer s H vs Q E hr h => ?_)
  · obtain ⟨v, d, rfl, _⟩ := h
    rfl
  obtain ⟨v, d, rfl, hd, ok, tb, q⟩ := h
  refine ⟨_, pss_one (ps_ret (pe_and (pe_cal CL hr (pa_cons (pv 0) pa_nil)) (pe_one (GxR.pe_allS hr (by rfl) T.m_all (by decide +kernel) TB (by rfl) (gen_by (by decide +kernel)) (pv 0) (elt_between (a := 65) (b := 90) (by rfl) (by rfl)) (fun _ => rfl))))), ?_⟩
  refine ⟨_, rfl, v, d, rfl, hd, ok, tb, fun H1 f1 => ⟨_, rfl, ?_⟩⟩
  cases h1 : lenOkD d with
  | false =>
    have e : isLettD d = false := by
      cases d with
      | str z =>
        show decide (Lett z) = false
        rw [lett_iff, show (decide (1 ≤ z.length) && decide (z.length ≤ 8)) = false from h1, Bool.false_and]
      | _ => rfl
    have fin := q H1 f1
    rw [e] at fin
    exact iteF fin
  | true =>
    cases hd with
    | str z =>
      obtain ⟨ps, g, tr⟩ := f1.tab Pa hP
      refine iteT ⟨_, rfl, z, rfl, ⟨ps, g, tr⟩, fun H2 t2 => ?_⟩
      have fin := q H2 (f1.trans (Fr.tabbed f1.tab t2 hP))
      have e : isLettD (.str z) = z.cps.toList.all fun c => decide (65 ≤ c) && decide (c ≤ 90) := by
        show decide (Lett z) = _
        rw [lett_iff, show (decide (1 ≤ z.length) && decide (z.length ≤ 8)) = true from h1, Bool.true_and]
      rw [e] at fin
      exact fin
    | non => cases h1
    | bl _ => cases h1
    | int _ => cases h1
    | lst _ _ => cases h1
    | tup _ _ => cases h1
end
end Sc
namespace Sc
open PySem PyProof.Rows L2
section
variable {P : Program} {w : World} {K : PySem.W.Frag} {mg : Str → Option Value} {base : Heap}
theorem le1 {a b : Nat} : (!decide ((mkS [b]).cps.toList < (mkS [a]).cps.toList)) = decide (a ≤ b) := by
  show (!decide ([b] < [a])) = _
  rw [Bool.eq_iff_iff, Bool.not_eq_true', decide_eq_false_iff_not, decide_eq_true_eq]
  constructor
  · intro h
    by_cases z : a ≤ b
    · exact z
    · exact absurd (List.Lex.rel (by omega)) h
  · intro h z
    cases z with
    | rel z => omega
    | cons z => cases z
theorem scRA : FnScope ["self", "first", "last", "start"] ["self", "first", "last"] (defScope sReaderTakeAll) := ⟨rfl, rfl, rfl, by decide +kernel, rfl, by decide +kernel, by decide +kernel⟩
theorem ok_rall {f C : Addr} {fd : FuncData} (F : Fun K "take_all" "Reader.take_all" sReaderTakeAll f fd) (T : RdT K mg C) (ml : mg "len" = none) : FnOk P w K mg base CX0 1 f fd ["self", "first", "last"] (spTakeAll C) := by
  refine F.ok scRA (fun vs H Q E h => ?_) (fun cdv A outer s H vs Q E hr h => ?_)
  · obtain ⟨p, z, l, r, d, a, b, rfl, _⟩ := h
    rfl
  obtain ⟨p, z, l, r, d, a, b, rfl, R, hin, hout, q⟩ := h
  refine ⟨_, pss_cons (ps_set (i := 3) scRA.nd rfl (Or.inl rfl) (pe_fld (pv 0) rfl))
    (pss_cons (ps_while PassesOwn.never (PW.pt (pw_and (pt_cmpR op_lt (pe_fld (pv 0) rfl) (pe_callB call_len_str (by rfl) ml PySem.boot_len (pa_cons (pe_fld (pv 0) rfl) pa_nil)) (nomark _))
        (pw_and1 (pt_chain op_le_str op_le_str (pv 1) (pe_ix ix_str (pe_fld (pv 0) rfl) (pe_fld (pv 0) rfl) (fun _ _ => rfl)) (pv 2))))) (pss_one (ps_fldaug (pv 0) pe_int in_add)))
    (pss_one (ps_ret (pe_slice sl_str (pe_fld (pv 0) rfl) (po_some (pv 3)) (po_some (pe_fld (pv 0) rfl)))))), ?_⟩
  obtain ⟨dx0, n0, hp0, hn0, hd0, hz, d0, d1⟩ := id R
  refine ⟨_, rfl, p, C, dx0, _, _, rfl, hp0, T.cl, T.nA, rflds_at _ _ _, ?_⟩
  dsimp only [gName, tNext]
  refine ⟨fun m σ2 H2 => σ2 = [some (.ref p), some (.str (mkS [a])), some (.str (mkS [b])), some (.int n0)] ∧ ∃ (dx : Addr) (k : Nat), m = l.length - k ∧ k ≤ l.length ∧ H2 p = some (.ins C dx (rflds z ((n0 + k : Nat) : Int) d)) ∧ Ext p H H2, ⟨l.length, rfl, dx0, 0, rfl, Nat.zero_le _, hp0, Ext.refl _ _⟩, ?_⟩
  rintro m σ2 H2 ⟨rfl, dx, k, rfl, lk, hp, x2⟩
  have zl : z.length = n0 + (l ++ r).length := by
    have := congrArg List.length hd0
    rw [List.length_drop, ← TL.len_tl] at this
    omega
  have at_k : (TL.tl z).drop (n0 + k) = l.drop k ++ r := by
    rw [← List.drop_drop, hd0, List.drop_append_of_le_length lk]
  refine ⟨_, rfl, p, C, dx, _, _, rfl, hp, T.cl, T.nA, rflds_at _ _ _, _, rfl, p, C, dx, _, _, rfl, hp, T.cl, T.nR, rflds_row _ _ _, z, rfl, sizeOk (by omega), _, _, rfl, rfl, _, rfl, ?_⟩
  have done : k = l.length → ∀ H' : Hp, H' = H2 → tRet (tSl rSlS (tFld K (tVar 0) "row") (tPart (tVar 3)) (tPart (tFld K (tVar 0) "at"))) { nx := fun _ H' => Q .non H', rt := Q } [some (.ref p), some (.str (mkS [a])), some (.str (mkS [b])), some (.int n0)] H' := by
    rintro rfl H' rfl
    refine ⟨_, rfl, p, C, dx, _, _, rfl, hp, T.cl, T.nR, rflds_row _ _ _, _, rfl, _, rfl, _, rfl, p, C, dx, _, _, rfl, hp, T.cl, T.nA, rflds_at _ _ _, _, rfl, z, rfl, sizeOk (by omega), ?_⟩
    have ec : cutS z (some (n0 : Int)) (some ((n0 + l.length : Nat) : Int)) = mkS l := by
      unfold cutS
      rw [HT.sIx_nat, HT.sIx_nat]
      refine congrArg (fun l : List Nat => (⟨l.toArray⟩ : Str)) ?_
      show ((TL.tl z).drop (min n0 z.length)).take (min (n0 + l.length) z.length - min n0 z.length) = l
      rw [List.length_append] at zl
      rw [show min n0 z.length = n0 by omega, hd0, show min (n0 + l.length) z.length - n0 = l.length by omega, List.take_left']
      rfl
    rw [ec]
    refine q _ ⟨dx, n0 + l.length, hp, by rw [List.length_append] at zl; omega, ?_, hz, d0, d1⟩ x2
    rw [at_k, List.drop_length, List.nil_append]
  refine ite2 (fun c1 => ?_) (fun c1 => ?_)
  rotate_left
  · have k_end : k = l.length := by
      have h : ¬ (((n0 + k : Nat) : Int) < (z.length : Int)) := fun h => c1 (decide_eq_true h)
      rw [List.length_append] at zl
      omega
    exact iteF (done k_end H2 rfl)
  have lt : n0 + k < z.length := by
    have h : ((n0 + k : Nat) : Int) < (z.length : Int) := of_decide_eq_true c1
    omega
  obtain ⟨c, t, ect⟩ : ∃ c t, l.drop k ++ r = c :: t := by
    cases e : l.drop k ++ r with
    | nil =>
      have := congrArg List.length at_k
      rw [e, List.length_drop, ← TL.len_tl, List.length_nil] at this
      omega
    | cons c t => exact ⟨c, t, rfl⟩
  have hc : (TL.tl z)[n0 + k]? = some c := by
    have := congrArg (fun x : List Nat => x[0]?) (at_k.trans ect)
    simpa [List.getElem?_drop] using this
  refine ⟨_, rfl, _, rfl, p, C, dx, _, _, rfl, hp, T.cl, T.nR, rflds_row _ _ _, _, rfl, p, C, dx, _, _, rfl, hp, T.cl, T.nA, rflds_at _ _ _, z, _, c, rfl, rfl, sizeOk (by omega), atI_nat (j := n0 + k) hc, _, _, rfl, rfl, _, rfl, ?_⟩
  have go : a ≤ c ∧ c ≤ b → k < l.length := fun g => by
    rcases Nat.lt_or_ge k l.length with z | z
    · exact z
    · rw [show k = l.length by omega, List.drop_length, List.nil_append] at ect
      exact absurd g (hout c t ect)
  have stop : ¬ (a ≤ c ∧ c ≤ b) → k = l.length := fun g => by
    rcases Nat.lt_or_ge k l.length with z | z
    · rw [List.drop_eq_getElem_cons z, List.cons_append] at ect
      injection ect with e1 e2
      exact absurd (e1 ▸ hin _ (List.getElem_mem z)) g
    · omega
  rw [show (({ cps := #[c] } : Str).cps.toList) = (mkS [c]).cps.toList from rfl, le1]
  by_cases ha : a ≤ c
  rotate_left
  · exact iteNo (by rw [decide_eq_false ha]; exact Bool.false_ne_true) ⟨_, rfl, iteF (done (stop fun g => ha g.1) H2 rfl)⟩
  refine iteYes (decide_eq_true ha) ⟨_, rfl, _, _, rfl, rfl, _, rfl, ?_⟩
  rw [show (({ cps := #[c] } : Str).cps.toList) = (mkS [c]).cps.toList from rfl, le1]
  by_cases hb : c ≤ b
  rotate_left
  · rw [decide_eq_false hb]
    exact iteF (done (stop fun g => hb g.2) H2 rfl)
  rw [decide_eq_true hb]
  have kl := go ⟨ha, hb⟩
  refine iteT ⟨fun σ' H' => σ' = [some (.ref p), some (.str (mkS [a])), some (.str (mkS [b])), some (.int n0)] ∧ ∃ dx : Addr, H' p = some (.ins C dx (rflds z ((n0 + (k + 1) : Nat) : Int) d)) ∧ Ext p H H', fun σ' H' h => ⟨l.length - (k + 1), by omega, h.1, h.2.choose, k + 1, rfl, kl, h.2.choose_spec⟩, ?_⟩
  refine ⟨_, rfl, p, C, dx, _, _, rfl, hp, T.cl, T.nA, rflds_at _ _ _, _, _, rfl, rfl, _, _, hp, (by show 3 < 1000; decide), ?_⟩
  refine ⟨rfl, dx, ?_, x2.trans (Ext.upd _ _ _)⟩
  rw [upd_same, rflds_putA]
  rfl
end
end Sc
namespace Sc
open PySem PySem.Spec PyProof.Rows L2
/-- what is kept but for a reader and tables -/
def Fq (T : List Addr) (p : Addr) (H H' : Hp) : Prop := (∀ b o, H b = some o → b ∉ T → b ≠ p → H' b = some o) ∧ Tb T H'
theorem Fq.refl {T : List Addr} {p : Addr} {H : Hp} (t : Tb T H) : Fq T p H H := ⟨fun _ _ h _ _ => h, t⟩
theorem Fq.trans {T : List Addr} {p : Addr} {H H1 H2 : Hp} (a : Fq T p H H1) (b : Fq T p H1 H2) : Fq T p H H2 := ⟨fun c o h n m => b.1 c o (a.1 c o h n m) n m, b.2⟩
theorem Fq.fr {T : List Addr} {p : Addr} {H H' : Hp} (f : Fr T H H') : Fq T p H H' := ⟨fun b o h n _ => f.old b o h n, f.tab⟩
theorem RAt.nT {C : Addr} {H : Hp} {p : Addr} {z : Str} {l : List Nat} {d : Int} {T : List Addr} (R : RAt C H p z l d) (t : Tb T H) : p ∉ T := fun m => by
  obtain ⟨dx, n, hp, _⟩ := R
  obtain ⟨ps, e, _⟩ := t p m
  rw [hp] at e
  cases e
theorem Fq.ext {C : Addr} {H H' : Hp} {p : Addr} {z : Str} {l : List Nat} {d : Int} {T : List Addr} (R : RAt C H p z l d) (t : Tb T H) (x : Ext p H H') : Fq T p H H' := ⟨fun b o h _ m => x b o m h, fun P hP => by
  obtain ⟨ps, e, g⟩ := t P hP
  exact ⟨ps, x P _ (fun (z : P = p) => R.nT t (z ▸ hP)) e, g⟩⟩
theorem RAt.fr {C : Addr} {H H' : Hp} {p : Addr} {z : Str} {l : List Nat} {d : Int} {T : List Addr} (R : RAt C H p z l d) (t : Tb T H) (f : Fr T H H') : RAt C H' p z l d := by
  have n := R.nT t
  obtain ⟨dx, m, hp, r⟩ := R
  exact ⟨dx, m, f.old _ _ hp n, r⟩
theorem RAt.same {C : Addr} {H H' : Hp} {p : Addr} {z : Str} {l : List Nat} {d : Int} (R : RAt C H p z l d) (e : Same H H') : RAt C H' p z l d := by
  obtain ⟨dx, m, hp, r⟩ := R
  exact ⟨dx, m, e _ _ hp, r⟩
theorem Fq.same {T : List Addr} {p : Addr} {H H' : Hp} (t : Tb T H) (e : Same H H') : Fq T p H H' := .fr (Fr.same t e)
/-- tuples are kept -/
theorem Fq.keep {K : PySem.W.Frag} {C : Addr} {H H' : Hp} {p : Addr} {z : Str} {l : List Nat} {d : Int} {T : List Addr} (R : RAt C H p z l d) (t : Tb T H) (f : Fq T p H H') : Keep K H H' := fun a xs h => by
  obtain ⟨dx, m, hp, _⟩ := R
  have nT : ∀ {o : HO}, H a = some o → (∀ ps, o ≠ .tbl ps) → a ∉ T := fun e n m => by
    obtain ⟨ps, g, _⟩ := t a m
    rw [e] at g
    cases g
    exact n ps rfl
  rcases h with (h | ⟨o, h⟩) | h
  · exact .inl (.inl (f.1 _ _ h (nT h fun ps z => by cases z) fun z => by rw [z, hp] at h; cases h))
  · exact .inl (.inr ⟨o, f.1 _ _ h (nT h fun ps z => by cases z) fun z => by rw [z, hp] at h; cases h⟩)
  · exact .inr h
/-- a def with values for its last parameters -/
structure DefD (K : PySem.W.Frag) (mg : Str → Option Value) (x : Str) (st : Stmt) (ps : List Str) (ds : List V) : Prop where
  ex : ∃ (f : Addr) (fd : FuncData) (oc : Value) (od : Option Addr) (dV kV doc pm : Value) (an : Option Addr) (cdv ct : Value) (osl : Array (Option Value)) (dvs : List Value),
    fd = PySem.W.fnOf x x (defArgs st) (defBody st) (defScope st) dV kV doc pm an cdv ct ∧ K.lookup f = some ⟨oc, od, .func fd, osl⟩ ∧ PySem.W.codeIn K cdv x = true ∧ PySem.W.keepIn K (.ref f) = true ∧ mg x = some (.ref f) ∧ Binds K fd ps dvs ∧ Vals ds dvs
structure CalD (P : Program) (w : World) (K : PySem.W.Frag) (mg : Str → Option Value) (base : Heap) (k : Nat) (x : Str) (ps : List Str) (ds : List V) (sp : Sp) : Prop where
  ex : ∃ f fd dvs, FnOk P w K mg base CX0 k f fd ps sp ∧ mg x = some (.ref f) ∧ PySem.W.keepIn K (.ref f) = true ∧ Binds K fd ps dvs ∧ Vals ds dvs
theorem DefD.ok {P : Program} {w : World} {K : PySem.W.Frag} {mg : Str → Option Value} {base : Heap} {x : Str} {st : Stmt} {N ps : List Str} {ds : List V} {k : Nat} {sp : Sp} (D : DefD K mg x st ps ds) (S : FnScope N ps (defScope st)) (len : ∀ vs H Q E, sp vs H Q E → vs.length = ps.length)
    (body : ∀ (f : Addr) (cdv : Value) (A : Around) (outer : List Env) (s : Shared) (H : Hp) (vs : List V) (Q : VK) (E : XK), Room k (A.deeper (envOfC x (defScope st) s.heap.objs.size f cdv)) → sp vs H Q E →
      ∃ t, PSs (cxOf CX0 P w K mg base N x (defScope st) f cdv A outer s H E).nox (defBody st) t ∧ t { nx := fun _ H' => Q .non H', rt := Q } (start N vs) H) : CalD P w K mg base (k + 1) x ps ds sp := by
  obtain ⟨f, fd, oc, od, dV, kV, doc, pm, an, cdv, ct, osl, dvs, rfl, lk, hcd, kp, m, b, d⟩ := D.ex
  exact ⟨f, _, dvs, fn_of lk hcd S len fun A outer s H vs Q E hr hsp => by
    obtain ⟨t, h, q⟩ := body f cdv A outer s H vs Q E hr hsp
    exact ⟨t, h.nox, q⟩, m, kp, b, d⟩
section
variable {X : Cx} {k : Nat} {x : Str} {ps : List Str} {ds : List V} {sp : Sp} {e : Expr} {es : List Expr} {t : TA} {p pos : Pos}
theorem pe_calD (C : CalD X.prog X.w X.K X.mg X.base k x ps ds sp) (hr : Room k X.A) (ha : PA X (e :: es) t) (hg : Gl X x := by rfl) (hdb : (x == ("__debug__" : Str)) = false := by decide)
    (he : starEach (e :: es) X.env = (false, eval e X.env) :: starEach es X.env := by rfl) (hpl : (backTo pos (starEach es X.env)).any (·.1) = false := by rfl) :
    PE X (.Call (.Name x p) (e :: es) [] pos) (tCall sp ds E0 t) := by
  obtain ⟨f, fd, dvs, F, m, kp, b, d⟩ := C.ex
  exact pe_call F hr hg m kp b d pass0 ha hdb he hpl
end
/-- the reader's class -/
structure RdC (P : Program) (w : World) (K : PySem.W.Frag) (mg : Str → Option Value) (base : Heap) (C : Addr) : Prop where
  t : RdT K mg C
  ini : ∃ f fd, FnOk P w K mg base CX0 1 f fd ["self", "row"] (spRInit C) ∧ Mk K C f ∧ Binds K fd ["self", "row"] []
  passb : MOk P w K mg base C 1 "pass_blanks" ["self"] (spPassB C)
  sign : MOk P w K mg base C 2 "sign" ["self"] (spRSign C)
  passes : MOk P w K mg base C 3 "passes" ["self", "sign"] (spRPass C)
  take : MOk P w K mg base C 3 "take" ["self", "sign"] (spRTake C)
  enter : MOk P w K mg base C 4 "enter" ["self", "sign"] (spREnter C)
  leave : MOk P w K mg base C 4 "leave" ["self", "sign"] (spRLeave C)
  all : MOk P w K mg base C 1 "take_all" ["self", "first", "last"] (spTakeAll C)
  fin : MOk P w K mg base C 3 "need_end" ["self"] (spNeedEnd C)
def spRWord (C : Addr) (T : List Addr) : Sp := fun vs H Q _ => ∃ (p : Addr) (z : Str) (l r : List Nat) (d : Int) (wd : Str), vs = [.ref p] ∧ RAt C H p z l d ∧ Tb T H ∧ wb l = TL.tl wd ++ r ∧ Low wd ∧ (∀ c r', r = c :: r' → nolet c) ∧ ∀ (H' : Hp), Fq T p H H' → RAt C H' p z r d → Q (.str wd) H'
def spRLett (C : Addr) (T : List Addr) : Sp := fun vs H Q _ => ∃ (p : Addr) (z : Str) (l r : List Nat) (d : Int) (wd : Str), vs = [.ref p] ∧ RAt C H p z l d ∧ Tb T H ∧ wb l = TL.tl wd ++ r ∧ Upp wd ∧ (∀ c r', r = c :: r' → nolet c) ∧ ∀ (H' : Hp), Fq T p H H' → RAt C H' p z r d → Q (.str wd) H'
theorem low_word {z : Str} (h : Low z) : Word z := by
  refine ⟨?_, h.2.2, fun c m => of_decide_eq_true (h.2.1 c m)⟩
  cases e : z.cps.toList with
  | nil => exact absurd e h.1
  | cons c r => show 1 ≤ r.length + 1; omega
theorem upp_lett {z : Str} (h : Upp z) : Lett z := by
  refine ⟨?_, h.2.2, fun c m => of_decide_eq_true (h.2.1 c m)⟩
  cases e : z.cps.toList with
  | nil => exact absurd e h.1
  | cons c r => show 1 ≤ r.length + 1; omega
section
variable {P : Program} {w : World} {K : PySem.W.Frag} {mg : Str → Option Value} {base : Heap} {T0 : List Addr}
theorem scRI : FnScope ["self", "row"] ["self", "row"] (defScope sReaderInit) := ⟨rfl, rfl, rfl, by decide +kernel, rfl, by decide +kernel, by decide +kernel⟩
theorem ok_rinit {f C : Addr} {fd : FuncData} (F : Fun K "__init__" "Reader.__init__" sReaderInit f fd) (T : RdT K mg C) : FnOk P w K mg base CX0 1 f fd ["self", "row"] (spRInit C) := by
  refine F.ok scRI (fun vs H Q E h => ?_) (fun cdv A outer s H vs Q E hr h => ?_)
  · obtain ⟨p, dx, z, rfl, _⟩ := h
    rfl
  obtain ⟨p, dx, z, rfl, hp, hz, q⟩ := h
  refine ⟨_, pss_cons (ps_fld (pv 0) (pv 1) rfl) (pss_cons (ps_fld (pv 0) pe_int rfl) (pss_one (ps_fld (pv 0) pe_int rfl))), ?_⟩
  refine ⟨_, rfl, _, rfl, p, C, dx, [], rfl, hp, T.cl, T.nR, (by show 0 < 1000; decide), _, rfl, p, C, dx, _, rfl, upd_same, T.cl, T.nA, (by show 1 < 1000; decide), _, rfl, p, C, dx, _, rfl, upd_same, T.cl, T.nD, (by show 2 < 1000; decide), ?_⟩
  refine q _ ⟨dx, 0, by rw [upd_same, rflds_mk]; rfl, Nat.zero_le _, rfl, hz, by decide, by decide⟩ fun c o hc e => ?_
  rw [upd_ne hc, upd_ne hc, upd_ne hc]
  exact e
theorem okD_str {z : Str} (h : (TL.tl z).length ≤ 8) (hc : ∀ c ∈ TL.tl z, c ≤ 122) : okD (.str z) := by
  have e : z.length ≤ 8 := by rw [TL.len_tl]; exact h
  have o : PyData.strOk z = true := by
    show z.cps.all (fun c => decide (c < 0x110000)) = true
    rw [← Array.all_toList]
    exact List.all_eq_true.mpr fun c m => decide_eq_true (Nat.lt_of_le_of_lt (hc c m) (by decide))
  refine ⟨?_, decide_eq_true (show z.length ≤ 1000 by omega)⟩
  show (PyData.canLay0 (.str z) && decide (PyData.depth (.str z) ≤ 64)) = true
  simp [PyData.canLay0, PyData.depth, o]
theorem scRWord : FnScope ["reader", "word"] ["reader"] (defScope sPReadWord) := ⟨rfl, rfl, rfl, by decide +kernel, rfl, by decide +kernel, by decide +kernel⟩
theorem c_read_word {C : Addr} (T : Tx K mg) (R : RdC P w K mg base C) (CW : Cal P w K mg base 2 "is_word" ["thing"] (spTest K T0 isWordD)) : Cal P w K mg base 3 "_read_word" ["reader"] (spRWord C T0) := by
  obtain ⟨g1, gd1, G1, M1, B1⟩ := R.passb
  obtain ⟨g2, gd2, G2, M2, B2⟩ := R.all
  refine T.p_read_word.ok scRWord (fun vs H Q E h => ?_) (fun f cdv A outer s H vs Q E hr h => ?_)
  · obtain ⟨p, z, l, r, d, wd, rfl, _⟩ := h
    rfl
  obtain ⟨p, z, l, r, d, wd, rfl, RA, tb, hw, lw, hnl, q⟩ := h
  have r1 : Room 1 _ := hr.mono (by decide)
  refine ⟨_, pss_cons (ps_expr (pe_meth0 (pv 0) R.t.cl M1 G1 r1 B1 .nil pass0))
    (pss_cons (ps_set (i := 1) scRWord.nd rfl (Or.inl rfl) (pe_meth (pv 0) R.t.cl M2 G2 r1 B2 .nil pass0 (pa_cons pe_str (pa_cons pe_str pa_nil))))
    (pss_cons (ps_if (pt_not (pt_val (pe_cal CW hr (pa_cons (pv 1) pa_nil)))) (pss_one ps_no) pss_nil)
    (pss_one (ps_ret (pv 1))))), ?_⟩
  obtain ⟨dx, n, hp, _⟩ := id RA
  refine ⟨_, rfl, p, dx, _, rfl, hp, rfl, p, z, l, d, rfl, RA, fun H2 R2 x2 => ?_⟩
  rw [hw] at R2
  have f2 := Fq.ext RA tb x2
  obtain ⟨dx2, n2, hp2, _⟩ := id R2
  refine ⟨_, rfl, p, dx2, _, rfl, hp2, rfl, p, z, TL.tl wd, r, d, 97, 122, rfl, R2, fun c m => of_decide_eq_true (lw.2.1 c m), fun c r' e h => absurd (hnl c r' e).1 (by rw [show lowN c = true from decide_eq_true h]; decide), fun H3 R3 x3 => ?_⟩
  have f3 := f2.trans (Fq.ext R2 f2.2 x3)
  rw [show mkS (TL.tl wd) = wd from mkS_tl wd]
  dsimp only [gName, tNext]
  refine ⟨_, rfl, _, .str wd, rfl, .str wd, ?_, f3.2, fun H4 f4 => ⟨_, rfl, ?_⟩⟩
  · exact okD_str lw.2.2 (fun c m => (of_decide_eq_true (lw.2.1 c m)).2)
  rw [show isWordD (.str wd) = true from decide_eq_true (low_word lw)]
  exact iteF ⟨_, rfl, q H4 (f3.trans (.fr f4)) (R3.fr f3.2 f4)⟩
theorem scRLett : FnScope ["reader", "letter"] ["reader"] (defScope sPReadLetter) := ⟨rfl, rfl, rfl, by decide +kernel, rfl, by decide +kernel, by decide +kernel⟩
theorem c_read_letter {C : Addr} (T : Tx K mg) (R : RdC P w K mg base C) (CW : Cal P w K mg base 2 "is_letter" ["thing"] (spTest K T0 isLettD)) : Cal P w K mg base 3 "_read_letter" ["reader"] (spRLett C T0) := by
  obtain ⟨g1, gd1, G1, M1, B1⟩ := R.passb
  obtain ⟨g2, gd2, G2, M2, B2⟩ := R.all
  refine T.p_read_letter.ok scRLett (fun vs H Q E h => ?_) (fun f cdv A outer s H vs Q E hr h => ?_)
  · obtain ⟨p, z, l, r, d, wd, rfl, _⟩ := h
    rfl
  obtain ⟨p, z, l, r, d, wd, rfl, RA, tb, hw, lw, hnl, q⟩ := h
  have r1 : Room 1 _ := hr.mono (by decide)
  refine ⟨_, pss_cons (ps_expr (pe_meth0 (pv 0) R.t.cl M1 G1 r1 B1 .nil pass0))
    (pss_cons (ps_set (i := 1) scRLett.nd rfl (Or.inl rfl) (pe_meth (pv 0) R.t.cl M2 G2 r1 B2 .nil pass0 (pa_cons pe_str (pa_cons pe_str pa_nil))))
    (pss_cons (ps_if (pt_not (pt_val (pe_cal CW hr (pa_cons (pv 1) pa_nil)))) (pss_one ps_no) pss_nil)
    (pss_one (ps_ret (pv 1))))), ?_⟩
  obtain ⟨dx, n, hp, _⟩ := id RA
  refine ⟨_, rfl, p, dx, _, rfl, hp, rfl, p, z, l, d, rfl, RA, fun H2 R2 x2 => ?_⟩
  rw [hw] at R2
  have f2 := Fq.ext RA tb x2
  obtain ⟨dx2, n2, hp2, _⟩ := id R2
  refine ⟨_, rfl, p, dx2, _, rfl, hp2, rfl, p, z, TL.tl wd, r, d, 65, 90, rfl, R2, fun c m => of_decide_eq_true (lw.2.1 c m), fun c r' e h => absurd (hnl c r' e).2 (by rw [show upN c = true from decide_eq_true h]; decide), fun H3 R3 x3 => ?_⟩
  have f3 := f2.trans (Fq.ext R2 f2.2 x3)
  rw [show mkS (TL.tl wd) = wd from mkS_tl wd]
  dsimp only [gName, tNext]
  refine ⟨_, rfl, _, .str wd, rfl, .str wd, okD_str lw.2.2 (fun c m => Nat.le_trans (of_decide_eq_true (lw.2.1 c m)).2 (by decide)), f3.2, fun H4 f4 => ⟨_, rfl, ?_⟩⟩
  rw [show isLettD (.str wd) = true from decide_eq_true (upp_lett lw)]
  exact iteF ⟨_, rfl, q H4 (f3.trans (.fr f4)) (R3.fr f3.2 f4)⟩
end
end Sc
namespace Sc
open PySem PySem.Spec PyProof.Rows L2
/-- the tokens after what is read are not of it -/
def NoB (c : Nat) (ts : List Tk) : Prop := ∀ r, ts ≠ .pt c :: r
def spRKind (K : PySem.W.Frag) (C : Addr) (T : List Addr) (n : Nat) : Sp := fun vs H Q _ => ∃ (p : Addr) (z : Str) (l : List Nat) (d : Int) (k : List Ch) (ts : List Tk), vs = [.ref p] ∧ RAt C H p z l d ∧ Tb T H ∧ Tks (tkL k ++ ts) l ∧ k ≠ [] ∧ tkOkL k ∧ dL k < n ∧ d + dL k ≤ 40 ∧ k.length ≤ 1000 ∧ Fol ts ∧ NoB 124 ts ∧
  ∀ (v : V) (H' : Hp) (r : List Nat), Fq T p H H' → RAt C H' p z r d → Tks ts r → IsK K H' v k → Q v H'
def spRChoice (K : PySem.W.Frag) (C : Addr) (T : List Addr) (n : Nat) : Sp := fun vs H Q _ => ∃ (p : Addr) (z : Str) (l : List Nat) (d : Int) (c : Ch) (ts : List Tk), vs = [.ref p] ∧ RAt C H p z l d ∧ Tb T H ∧ Tks (tkC c ++ ts) l ∧ tkOk c ∧ dC c < n ∧ d + dC c ≤ 40 ∧ Fol ts ∧
  ∀ (v : V) (H' : Hp) (r : List Nat), Fq T p H H' → RAt C H' p z r d → Tks ts r → IsC K H' v c → Q v H'
theorem fol_app {ts us : List Tk} (h : Fol ts) (f : Fol us) : Fol (ts ++ us) := by
  rcases h with rfl | ⟨c, r, rfl, n⟩
  · exact f
  · exact .inr ⟨c, r ++ us, rfl, n⟩
section
variable {P : Program} {w : World} {K : PySem.W.Frag} {mg : Str → Option Value} {base : Heap} {T0 : List Addr}
theorem scRKind : FnScope ["reader", "choices"] ["reader"] (defScope sPReadKind) := ⟨rfl, rfl, rfl, by decide +kernel, rfl, by decide +kernel, by decide +kernel⟩
theorem c_read_k {C : Addr} {n lv : Nat} (T : Tx K mg) (l3 : 3 ≤ lv) (R : RdC P w K mg base C) (CC : Cal P w K mg base lv "_read_choice" ["reader"] (spRChoice K C T0 n)) : Cal P w K mg base (lv + 1) "_read_kind" ["reader"] (spRKind K C T0 n) := by
  obtain ⟨g1, gd1, G1, M1, B1⟩ := R.passes
  refine T.p_read_kind.ok scRKind (fun vs H Q E h => ?_) (fun f cdv A outer s H vs Q E hr h => ?_)
  · obtain ⟨p, z, l, d, k, ts, rfl, _⟩ := h
    rfl
  obtain ⟨p, z, l, d, k, ts, rfl, RA, tb, tk, k0, kok, dn, d40, kl, fol, nob, q⟩ := h
  have r3 : Room 3 _ := hr.mono l3
  refine ⟨_, pss_cons (ps_set (i := 1) scRKind.nd rfl (Or.inl rfl) (pe_lst (pa_cons (pe_cal CC hr (pa_cons (pv 0) pa_nil)) pa_nil)))
    (pss_cons (ps_while PassesOwn.never (pt_val (pe_meth (pv 0) R.t.cl M1 G1 r3 B1 .nil pass0 (pa_cons pe_str pa_nil)))
      (pss_one (ps_expr (pe_bm PySem.F.plainAttrs_list PySem.F.slot_list_append PySem.F.type_list_append mt_append (pv 1) (pa_cons (pe_cal CC hr (pa_cons (pv 0) pa_nil)) pa_nil)))))
    (pss_one (ps_ret (pe_callTy call_tuple_of (by rfl) T.m_tuple (by decide +kernel) (pa_cons (pv 1) pa_nil))))), ?_⟩
  cases k with
  | nil => exact absurd rfl k0
  | cons c k =>
  have tk' : Tks (tkC c ++ (tkM k ++ ts)) l := by
    have e : tkL (c :: k) ++ ts = tkC c ++ (tkM k ++ ts) := List.append_assoc _ _ _
    rw [← e]; exact tk
  have dle : dC c ≤ dL (c :: k) := Nat.le_max_left _ _
  refine ⟨_, rfl, p, z, l, d, c, tkM k ++ ts, rfl, RA, tb, tk', kok.1, by omega, by omega, fol_app (fol_M k) fol, fun v H2 r f2 R2 t2 dv => ?_⟩
  refine ⟨(by show 1 ≤ sizeLine; decide), fun D hD => ?_⟩
  dsimp only [gName, tNext]
  have e3 := same_new hD (.lst [v])
  have HD : H D = none := by
    cases e : H D with
    | none => rfl
    | some o =>
      by_cases z1 : D ∈ T0
      · obtain ⟨ps, g, _⟩ := f2.2 D z1
        rw [hD] at g; cases g
      · by_cases z2 : D = p
        · obtain ⟨dx, m, hp, _⟩ := R2
          rw [z2, hp] at hD; cases hD
        · have := f2.1 D o e z1 z2
          rw [hD] at this; cases this
  have R3 := R2.same e3
  have f3 : Fq T0 p H (upd H2 D (.lst [v])) := f2.trans (.same f2.2 e3)
  have h3 : (upd H2 D (.lst [v])) D = some (.lst [v]) := upd_same
  have d3 : Dts K (upd H2 D (.lst [v])) [v] (pyL [c]) := Dts.nil.cons ((Same.keep e3).dt dv)
  generalize upd H2 D (.lst [v]) = H3 at R3 f3 h3 d3 ⊢
  refine ⟨fun m σ H4 => σ = [some (.ref p), some (.ref D)] ∧ ∃ (dn rest : List Ch) (us : List V) (r : List Nat), m = rest.length ∧ c :: k = dn ++ rest ∧ H4 D = some (.lst us) ∧ Dts K H4 us (pyL dn) ∧ RAt C H4 p z r d ∧ Tks (tkM rest ++ ts) r ∧ Fq T0 p H H4,
    ⟨k.length, rfl, [c], k, [v], r, rfl, rfl, h3, d3, R3, t2, f3⟩, ?_⟩
  rintro m σ H4 ⟨rfl, dn, rest, us, r4, rfl, ek, h4, d4, R4, t4, f4⟩
  have nDp : D ≠ p := fun z => by
    obtain ⟨dx, m, hp, _⟩ := R4
    rw [z, hp] at h4; cases h4
  have nDT : D ∉ T0 := fun z => by
    obtain ⟨ps, g, _⟩ := f4.2 D z
    rw [h4] at g; cases g
  have lens : dn.length + rest.length = k.length + 1 := by
    have := congrArg List.length ek
    rw [List.length_append] at this
    exact this.symm
  have ul : us.length = dn.length := by rw [d4.1, pyL_map, List.length_map]
  obtain ⟨dx, m, hp, _⟩ := id R4
  refine ⟨_, rfl, p, dx, _, rfl, hp, rfl, p, z, r4, d, 124, rfl, R4, fun H5 r5 hw R5 x5 => ⟨true, rfl, ?_⟩, fun H5 hw R5 x5 => ⟨false, rfl, ?_⟩⟩
  · cases rest with
    | nil =>
      exfalso
      have t4 : Tks ts r4 := t4
      rcases fol with rfl | ⟨b, tr, rfl, _⟩
      · have t4 : wb r4 = [] := t4
        rw [hw] at t4; cases t4
      · obtain ⟨r0, e0, _⟩ := t4
        rw [hw] at e0
        injection e0 with e1 _
        exact nob tr (by rw [e1])
    | cons c2 rest =>
      obtain ⟨r0, e0, t0⟩ := t4
      rw [hw] at e0
      injection e0 with _ e1
      subst e1
      have t0 : Tks (tkC c2 ++ (tkM rest ++ ts)) r5 := by
        have e : (tkC c2 ++ tkM rest) ++ ts = tkC c2 ++ (tkM rest ++ ts) := List.append_assoc _ _ _
        rw [← e]; exact t0
      have mc : c2 ∈ c :: k := by rw [ek]; exact List.mem_append_right _ List.mem_cons_self
      have dle2 := dL_mem mc
      have f5 := f4.trans (Fq.ext R4 f4.2 x5)
      have h5 := x5 _ _ nDp h4
      have d5 := (Fq.keep R4 f4.2 (Fq.ext R4 f4.2 x5)).dts d4
      have okc : tkOk c2 := by
        have : ∀ {ks : List Ch}, tkOkL ks → c2 ∈ ks → tkOk c2 := by
          intro ks h m
          induction ks with
          | nil => cases m
          | cons a b ih =>
            rcases List.mem_cons.mp m with e | e
            · rw [e]; exact h.1
            · exact ih h.2.1 e
        exact this kok mc
      refine iteT ⟨fun σ' H' => σ' = [some (.ref p), some (.ref D)] ∧ ∃ (us : List V) (r : List Nat), H' D = some (.lst us) ∧ Dts K H' us (pyL (dn ++ [c2])) ∧ RAt C H' p z r d ∧ Tks (tkM rest ++ ts) r ∧ Fq T0 p H H',
        fun σ' H' h => by
          obtain ⟨h1, us', r', g⟩ := h
          exact ⟨rest.length, Nat.lt_succ_self _, h1, dn ++ [c2], rest, us', r', rfl, by rw [ek, List.append_assoc]; rfl, g⟩, ?_⟩
      refine ⟨_, rfl, .inl ⟨rfl, _, SqL.of h5⟩, _, rfl, p, z, r5, d, c2, tkM rest ++ ts, rfl, R5, f5.2, t0, okc, by omega, by omega, fol_app (fol_M rest) fol, fun v6 H6 r6 f6 R6 t6 dv6 => ?_⟩
      have h6 := f6.1 _ _ h5 nDT nDp
      have d6 := (Fq.keep R5 f5.2 f6).dts d5
      have f06 := f5.trans f6
      have kl' : k.length + 1 ≤ 1000 := kl
      have lens' : dn.length + (rest.length + 1) = k.length + 1 := lens
      have kD : Keep K H6 (upd H6 D (.lst (us ++ [v6]))) := fun a xs h => by
        rcases h with (h | ⟨o, h⟩) | h
        · exact .inl (.inl (by rw [upd_ne fun z => by rw [z, h6] at h; cases h]; exact h))
        · exact .inl (.inr ⟨o, by rw [upd_ne fun z => by rw [z, h6] at h; cases h]; exact h⟩)
        · exact .inr h
      refine ⟨D, us, v6, rfl, rfl, h6, small1000 (by omega), rfl, us ++ [v6], r6, upd_same, ?_, ?_, t6, ?_⟩
      · rw [pyL_map, List.map_append, ← pyL_map]
        exact (kD.dts d6).snoc (kD.dt dv6)
      · obtain ⟨dx, m, hp, g⟩ := R6
        exact ⟨dx, m, by rw [upd_ne (fun z => nDp z.symm)]; exact hp, g⟩
      · exact ⟨fun b o hb n1 n2 => by rw [upd_ne (ne_of_none hb HD)]; exact f06.1 b o hb n1 n2, fun P hP => by
          obtain ⟨ps, e, g⟩ := f06.2 P hP
          exact ⟨ps, by rw [upd_ne fun (z : P = D) => nDT (z ▸ hP)]; exact e, g⟩⟩
  · cases rest with
    | cons c2 rest =>
      exfalso
      obtain ⟨r0, e0, _⟩ := t4
      exact hw r0 e0
    | nil =>
      have f5 := Fq.ext R4 f4.2 x5
      have h5 := x5 _ _ nDp h4
      have d5 := (Fq.keep R4 f4.2 f5).dts d4
      rw [List.append_nil] at ek
      subst ek
      refine iteF ?_
      refine ⟨_, rfl, D, us, rfl, .inl ⟨SqL.of h5, fun t ht => ?_⟩⟩
      have e6 := same_new ht (.tup us)
      refine q _ _ (wb r4) ((f4.trans f5).trans (.same f5.2 e6)) (R5.same e6) ?_ (((Same.keep e6).dts d5).tup (SqT.of upd_same))
      exact sp_wb (wb_wb r4).symm t4
end
end Sc
namespace Sc
open PySem PySem.Spec PyProof.Rows L2
def spRField (K : PySem.W.Frag) (C : Addr) (T : List Addr) (n : Nat) : Sp := fun vs H Q _ => ∃ (p : Addr) (z : Str) (l : List Nat) (d : Int) (f : Str) (k : List Ch) (ts : List Tk), vs = [.ref p] ∧ RAt C H p z l d ∧ Tb T H ∧ Tks (.wd false (TL.tl f) :: .pt 58 :: (tkL k ++ ts)) l ∧ Low f ∧ k ≠ [] ∧ tkOkL k ∧ dL k < n ∧ d + dL k ≤ 40 ∧ k.length ≤ 1000 ∧ Fol ts ∧ NoB 124 ts ∧
  ∀ (v : V) (H' : Hp) (r : List Nat), Fq T p H H' → RAt C H' p z r d → Tks ts r → Dt K H' v (.tuple [.str f, .tuple (pyL k)]) → Q v H'
section
variable {P : Program} {w : World} {K : PySem.W.Frag} {mg : Str → Option Value} {base : Heap} {T0 : List Addr}
theorem scRField : FnScope ["reader", "word"] ["reader"] (defScope sPReadFieldAndKind) := ⟨rfl, rfl, rfl, by decide +kernel, rfl, by decide +kernel, by decide +kernel⟩
theorem c_read_field {C : Addr} {n lv : Nat} (T : Tx K mg) (l3 : 3 ≤ lv) (R : RdC P w K mg base C) (CW : Cal P w K mg base 3 "_read_word" ["reader"] (spRWord C T0)) (CK : Cal P w K mg base lv "_read_kind" ["reader"] (spRKind K C T0 n)) : Cal P w K mg base (lv + 1) "_read_field_and_kind" ["reader"] (spRField K C T0 n) := by
  obtain ⟨g1, gd1, G1, M1, B1⟩ := R.take
  refine T.p_read_field_and_kind.ok scRField (fun vs H Q E h => ?_) (fun f cdv A outer s H vs Q E hr h => ?_)
  · obtain ⟨p, z, l, d, f, k, ts, rfl, _⟩ := h
    rfl
  obtain ⟨p, z, l, d, f, k, ts, rfl, RA, tb, tk, lf, k0, kok, dn, d40, kl, fol, nob, q⟩ := h
  have r3 : Room 3 _ := hr.mono l3
  refine ⟨_, pss_cons (ps_set (i := 1) scRField.nd rfl (Or.inl rfl) (pe_cal CW r3 (pa_cons (pv 0) pa_nil)))
    (pss_cons (ps_expr (pe_meth (pv 0) R.t.cl M1 G1 r3 B1 .nil pass0 (pa_cons pe_str pa_nil)))
    (pss_one (ps_ret (pe_tup (pa_cons (pv 1) (pa_cons (pe_cal CK hr (pa_cons (pv 0) pa_nil)) pa_nil)))))), ?_⟩
  obtain ⟨r, hw, s1, hw2, t2⟩ := tk
  have hnl : ∀ c r', r = c :: r' → nolet c := fun c r' e => by
    by_cases z : c = 32
    · rw [z]; exact nolet32
    · rw [e, wb_sign z] at hw2
      cases hw2
      exact nl58
  refine ⟨_, rfl, p, z, l, r, d, f, rfl, RA, tb, hw, lf, hnl, fun H2 f2 R2 => ?_⟩
  dsimp only [gName, tNext]
  obtain ⟨dx, n1, hp, _⟩ := id R2
  refine ⟨_, rfl, p, dx, _, rfl, hp, rfl, p, z, r, s1, d, 58, rfl, R2, hw2, fun H3 R3 x3 => ?_⟩
  have f3 := f2.trans (Fq.ext R2 f2.2 x3)
  refine ⟨_, rfl, _, rfl, p, z, s1, d, k, ts, rfl, R3, f3.2, t2, k0, kok, dn, d40, kl, fol, nob, fun v H4 r4 f4 R4 t4 dk => ?_⟩
  refine ⟨(by show 2 ≤ sizeLine; decide), fun t ht => ?_⟩
  have e5 := same_new ht (.tup [.str f, v])
  have f5 := f3.trans f4
  exact q _ _ r4 (f5.trans (.same f5.2 e5)) (R4.same e5) t4 (((Dts.nil.cons ((Same.keep e5).dt dk)).cons (.str f)).tup (SqT.of upd_same))
end
end Sc
namespace Sc
open PySem PySem.Spec PyProof.Rows L2
def spRBr (K : PySem.W.Frag) (mg : Str → Option Value) (C : Addr) (T : List Addr) (n : Nat) : Sp := fun vs H Q _ => ∃ (p fa : Addr) (z : Str) (l : List Nat) (d : Int) (fs : List (Str × List Ch)) (ts : List Tk), vs = [.ref p, .str "{}", .ref fa, .int 1] ∧ mg "_read_field_and_kind" = some (.ref fa) ∧ RAt C H p z l d ∧ Tb T H ∧ Tks (.pt 123 :: (tkF fs ++ .pt 125 :: ts)) l ∧ fs ≠ [] ∧ tkOkF fs ∧ dF fs < n ∧ d + 1 + dF fs ≤ 40 ∧ fs.length ≤ 1000 ∧ (∀ q ∈ fs, q.2.length ≤ 1000) ∧
  ∀ (v : V) (H' : Hp) (r : List Nat), Fq T p H H' → RAt C H' p z r d → Tks ts r → Dt K H' v (.tuple (pyF fs)) → Q v H'
theorem tkOkF_mem {q : Str × List Ch} : ∀ {fs : List (Str × List Ch)}, tkOkF fs → q ∈ fs → Low q.1 ∧ q.2 ≠ [] ∧ tkOkL q.2
  | (f, k) :: r, h, m => by
    rcases List.mem_cons.mp m with e | e
    · rw [e]; exact ⟨h.1, h.2.1, h.2.2.1⟩
    · exact tkOkF_mem h.2.2.2.1 e
theorem noB_G {fs : List (Str × List Ch)} {ts : List Tk} : NoB 124 (tkG fs ++ .pt 125 :: ts) := fun r e => by
  cases fs with
  | nil => injection e with e; injection e with e; cases e
  | cons q r => obtain ⟨f, k⟩ := q; injection e with e; injection e with e; cases e
section
variable {P : Program} {w : World} {K : PySem.W.Frag} {mg : Str → Option Value} {base : Heap} {T0 : List Addr}
def nBr : List Str := ["reader", "ends", "read_one", "least", "things"]
theorem scBr : FnScope nBr ["reader", "ends", "read_one", "least"] (defScope sPReadInBrackets) := ⟨rfl, rfl, rfl, by decide +kernel, rfl, by decide +kernel, by decide +kernel⟩
theorem c_brackets {C : Addr} {n lv : Nat} (T : Tx K mg) (l4 : 4 ≤ lv) (BD : DefD K mg "_read_in_brackets" sPReadInBrackets ["reader", "ends", "read_one", "least"] [.int 1]) (R : RdC P w K mg base C) (CF : Cal P w K mg base lv "_read_field_and_kind" ["reader"] (spRField K C T0 n)) :
    CalD P w K mg base (lv + 1) "_read_in_brackets" ["reader", "ends", "read_one", "least"] [.int 1] (spRBr K mg C T0 n) := by
  obtain ⟨g1, gd1, G1, M1, B1⟩ := R.passes
  obtain ⟨g2, gd2, G2, M2, B2⟩ := R.enter
  obtain ⟨g3, gd3, G3, M3, B3⟩ := R.leave
  obtain ⟨g4, gd4, G4, M4, B4⟩ := R.sign
  obtain ⟨fr, frd, FR, mr, kr, br⟩ := CF.ex
  refine BD.ok scBr (fun vs H Q E h => ?_) (fun f cdv A outer s H vs Q E hr h => ?_)
  · obtain ⟨p, fa, z, l, d, fs, ts, rfl, _⟩ := h
    rfl
  obtain ⟨p, fa, z, l, d, fs, ts, rfl, mfa, RA, tb, tk, k0, kok, dn, d40, kl, kls, q⟩ := h
  rw [mr] at mfa
  cases mfa
  have r2 : Room 2 _ := hr.mono (by omega)
  have r3 : Room 3 _ := hr.mono (by omega)
  have r4 : Room 4 _ := hr.mono l4
  refine ⟨_, pss_cons (ps_expr (pe_meth (pv 0) R.t.cl M2 G2 r4 B2 .nil pass0 (pa_cons (pe_ix ix_str (pv 1) pe_int (fun _ _ => rfl)) pa_nil)))
    (pss_cons (ps_set (i := 4) scBr.nd rfl (Or.inl rfl) (pe_lst pa_nil))
    (pss_cons (ps_if (PW.pt (pw_or (pt_cmpR op_eq (pv 3) pe_int (nomark _)) (pw_or1 (pt_cmpR op_ne (pe_meth0 (pv 0) R.t.cl M4 G4 r2 B4 .nil pass0) (pe_ix ix_str (pv 1) pe_int (fun _ _ => rfl)) (nomark _)))))
      (pss_one (ps_expr (pe_bm PySem.F.plainAttrs_list PySem.F.slot_list_append PySem.F.type_list_append mt_append (pv 4) (pa_cons (pe_callL (i := 2) (E := E0) FR hr rfl (Or.inl rfl) kr br .nil pass0 (pa_cons (pv 0) pa_nil)) pa_nil)))) pss_nil)
    (pss_cons (ps_while PassesOwn.never (pt_val (pe_meth (pv 0) R.t.cl M1 G1 r3 B1 .nil pass0 (pa_cons pe_str pa_nil)))
      (pss_one (ps_expr (pe_bm PySem.F.plainAttrs_list PySem.F.slot_list_append PySem.F.type_list_append mt_append (pv 4) (pa_cons (pe_callL (i := 2) (E := E0) FR hr rfl (Or.inl rfl) kr br .nil pass0 (pa_cons (pv 0) pa_nil)) pa_nil)))))
    (pss_cons (ps_expr (pe_meth (pv 0) R.t.cl M3 G3 r4 B3 .nil pass0 (pa_cons (pe_ix ix_str (pv 1) pe_int (fun _ _ => rfl)) pa_nil)))
    (pss_one (ps_ret (pe_callTy call_tuple_of (by rfl) T.m_tuple (by decide +kernel) (pa_cons (pv 4) pa_nil)))))))), ?_⟩
  cases fs with
  | nil => exact absurd rfl k0
  | cons q0 fs =>
  obtain ⟨f0, k⟩ := q0
  obtain ⟨r1, hw1, tk1⟩ := tk
  obtain ⟨dx, n1, hp, _, _, _, dz, _⟩ := id RA
  refine ⟨_, rfl, p, dx, _, rfl, hp, rfl, _, rfl, "{}", 0, 123, rfl, rfl, (by show 2 ≤ sizeLine; decide), rfl, p, z, l, r1, d, 123, rfl, RA, hw1, by omega, fun H2 R2 x2 => ?_⟩
  have f2 := Fq.ext RA tb x2
  refine ⟨Nat.zero_le _, fun D hD => ?_⟩
  dsimp only [gName, tNext]
  have e3 := same_new hD (.lst [])
  have HD : H D = none := by
    cases e : H D with
    | none => rfl
    | some o =>
      by_cases z1 : D ∈ T0
      · obtain ⟨ps, g, _⟩ := f2.2 D z1
        rw [hD] at g; cases g
      · by_cases z2 : D = p
        · obtain ⟨dx, m, hp, _⟩ := R2
          rw [z2, hp] at hD; cases hD
        · have := f2.1 D o e z1 z2
          rw [hD] at this; cases this
  have R3 := R2.same e3
  have f3 : Fq T0 p H (upd H2 D (.lst [])) := f2.trans (.same f2.2 e3)
  have h3 : (upd H2 D (.lst [])) D = some (.lst []) := upd_same
  generalize upd H2 D (.lst []) = H3 at R3 f3 h3 ⊢
  have stepD : ∀ {H6 : Hp} {us : List V} {v6 : V} {dn : List (Str × List Ch)} {q2 : Str × List Ch}, H6 D = some (.lst us) → Dts K H6 us (pyF dn) → Dt K H6 v6 (.tuple [.str q2.1, .tuple (pyL q2.2)]) → Dts K (upd H6 D (.lst (us ++ [v6]))) (us ++ [v6]) (pyF (dn ++ [q2])) := by
    intro H6 us v6 dn q2 h6 d6 dv6
    have kD : Keep K H6 (upd H6 D (.lst (us ++ [v6]))) := fun a xs h => by
      rcases h with (h | ⟨o, h⟩) | h
      · exact .inl (.inl (by rw [upd_ne fun z => by rw [z, h6] at h; cases h]; exact h))
      · exact .inl (.inr ⟨o, by rw [upd_ne fun z => by rw [z, h6] at h; cases h]; exact h⟩)
      · exact .inr h
    rw [pyF_map, List.map_append, ← pyF_map]
    exact (kD.dts d6).snoc (kD.dt dv6)
  have stepR : ∀ {H6 : Hp} {us : List V} {r6 : List Nat} {dd : Int} (o : HO), H6 D = some (.lst us) → RAt C H6 p z r6 dd → RAt C (upd H6 D o) p z r6 dd := by
    intro H6 us r6 dd o h6 R6
    obtain ⟨dx, m, hp, g⟩ := R6
    exact ⟨dx, m, by rw [upd_ne fun z => by rw [← z, hp] at h6; cases h6]; exact hp, g⟩
  have stepF : ∀ {H6 : Hp} {us : List V} (o : HO), H6 D = some (.lst us) → Fq T0 p H H6 → Fq T0 p H (upd H6 D o) := by
    intro H6 us o h6 f06
    exact ⟨fun b o hb n1 n2 => by rw [upd_ne (ne_of_none hb HD)]; exact f06.1 b o hb n1 n2, fun P hP => by
          obtain ⟨ps, e, g⟩ := f06.2 P hP
          exact ⟨ps, by rw [upd_ne fun (z : P = D) => by rw [z, h6] at e; cases e]; exact e, g⟩⟩
  obtain ⟨lf0, kn0, ko0, kr0⟩ := kok
  have dF0 : dL k ≤ dF ((f0, k) :: fs) := Nat.le_max_left _ _
  have tk1' : Tks (.wd false (TL.tl f0) :: .pt 58 :: (tkL k ++ (tkG fs ++ .pt 125 :: ts))) r1 := by
    have e : tkF ((f0, k) :: fs) ++ .pt 125 :: ts = .wd false (TL.tl f0) :: .pt 58 :: (tkL k ++ (tkG fs ++ .pt 125 :: ts)) := by
      show Tk.wd false (TL.tl f0) :: .pt 58 :: ((tkL k ++ tkG fs) ++ .pt 125 :: ts) = _
      rw [List.append_assoc]
    rw [← e]; exact tk1
  refine ⟨_, rfl, rfl, _, rfl, iteT ?_⟩
  refine ⟨_, rfl, .inl ⟨rfl, _, SqL.of h3⟩, rfl, _, rfl, p, z, r1, d + 1, f0, k, tkG fs ++ .pt 125 :: ts, rfl, R3, f3.2, tk1', lf0, kn0, ko0, by omega, by omega, kls (f0, k) List.mem_cons_self, fol_app (fol_G fs) (fol_pt nl125), noB_G, fun v H4 r4' f4 R4 t4 dv => ?_⟩
  have nDp : D ≠ p := fun z => by
    obtain ⟨dx, m, hp, _⟩ := R3
    rw [z, hp] at h3; cases h3
  have nDT : D ∉ T0 := fun z => by
    obtain ⟨ps, g, _⟩ := f3.2 D z
    rw [h3] at g; cases g
  have h4 := f4.1 _ _ h3 nDT nDp
  refine ⟨D, [], v, rfl, rfl, h4, (by show 0 < sizeLine; decide), ?_⟩
  have h5 : (upd H4 D (.lst ([] ++ [v]))) D = some (.lst [v]) := upd_same
  have d5 := stepD (dn := []) (q2 := (f0, k)) h4 Dts.nil dv
  have R5 := stepR (.lst ([] ++ [v])) h4 R4
  have f5 := stepF (.lst ([] ++ [v])) h4 (f3.trans f4)
  refine ⟨fun m σ H6 => σ = [some (.ref p), some (.str "{}"), some (.ref fr), some (.int 1), some (.ref D)] ∧ ∃ (dn rest : List (Str × List Ch)) (us : List V) (r : List Nat), m = rest.length ∧ (f0, k) :: fs = dn ++ rest ∧ H6 D = some (.lst us) ∧ Dts K H6 us (pyF dn) ∧ RAt C H6 p z r (d + 1) ∧ Tks (tkG rest ++ .pt 125 :: ts) r ∧ Fq T0 p H H6,
    ⟨fs.length, rfl, [(f0, k)], fs, [v], r4', rfl, rfl, h5, d5, R5, t4, f5⟩, ?_⟩
  clear h5 d5 R5 f5 h4 dv R4 f4 t4 h3 f3 R3 e3
  rintro m σ H6 ⟨rfl, dn2, rest, us, r6, rfl, ek, h6, d6, R6, t6, f6⟩
  have lens : dn2.length + rest.length = fs.length + 1 := by
    have := congrArg List.length ek
    rw [List.length_append] at this
    exact this.symm
  have ul : us.length = dn2.length := by rw [d6.1, pyF_map, List.length_map]
  have kl' : fs.length + 1 ≤ 1000 := kl
  obtain ⟨dx, m, hp, _⟩ := id R6
  refine ⟨_, rfl, p, dx, _, rfl, hp, rfl, p, z, r6, d + 1, 44, rfl, R6, fun H7 r7 hw R7 x7 => ⟨true, rfl, ?_⟩, fun H7 hw R7 x7 => ⟨false, rfl, ?_⟩⟩
  · cases rest with
    | nil =>
      exfalso
      obtain ⟨r0, e0, _⟩ := t6
      rw [hw] at e0
      injection e0 with e1 _
      exact absurd e1 (by decide)
    | cons q2 rest =>
      obtain ⟨f2', k2⟩ := q2
      obtain ⟨r0, e0, t0⟩ := t6
      rw [hw] at e0
      injection e0 with _ e1
      subst e1
      have t0 : Tks (.wd false (TL.tl f2') :: .pt 58 :: (tkL k2 ++ (tkG rest ++ .pt 125 :: ts))) r7 := by
        have e : Tk.wd false (TL.tl f2') :: .pt 58 :: ((tkL k2 ++ tkG rest) ++ .pt 125 :: ts) = .wd false (TL.tl f2') :: .pt 58 :: (tkL k2 ++ (tkG rest ++ .pt 125 :: ts)) := by rw [List.append_assoc]
        rw [← e]; exact t0
      have mc : (f2', k2) ∈ (f0, k) :: fs := by rw [ek]; exact List.mem_append_right _ List.mem_cons_self
      have dle2 : dL k2 ≤ dF ((f0, k) :: fs) := dF_mem mc
      obtain ⟨o1, o2, o3⟩ := tkOkF_mem (fs := (f0, k) :: fs) ⟨lf0, kn0, ko0, kr0⟩ mc
      have f7 := f6.trans (Fq.ext R6 f6.2 x7)
      have h7 := x7 _ _ nDp h6
      have d7 := (Fq.keep R6 f6.2 (Fq.ext R6 f6.2 x7)).dts d6
      have lens' : dn2.length + (rest.length + 1) = fs.length + 1 := lens
      refine iteT ⟨fun σ' H' => σ' = [some (.ref p), some (.str "{}"), some (.ref fr), some (.int 1), some (.ref D)] ∧ ∃ (us : List V) (r : List Nat), H' D = some (.lst us) ∧ Dts K H' us (pyF (dn2 ++ [(f2', k2)])) ∧ RAt C H' p z r (d + 1) ∧ Tks (tkG rest ++ .pt 125 :: ts) r ∧ Fq T0 p H H',
        fun σ' H' h => by
          obtain ⟨h1, us', r', g⟩ := h
          exact ⟨rest.length, Nat.lt_succ_self _, h1, dn2 ++ [(f2', k2)], rest, us', r', rfl, by rw [ek, List.append_assoc]; rfl, g⟩, ?_⟩
      refine ⟨_, rfl, .inl ⟨rfl, _, SqL.of h7⟩, rfl, _, rfl, p, z, r7, d + 1, f2', k2, tkG rest ++ .pt 125 :: ts, rfl, R7, f7.2, t0, o1, o2, o3, by omega, by omega, kls _ mc, fol_app (fol_G rest) (fol_pt nl125), noB_G, fun v8 H8 r8 f8 R8 t8 dv8 => ?_⟩
      have h8 := f8.1 _ _ h7 nDT nDp
      have d8 := (Fq.keep R7 f7.2 f8).dts d7
      exact ⟨D, us, v8, rfl, rfl, h8, small1000 (by omega), rfl, us ++ [v8], r8, upd_same, stepD (q2 := (f2', k2)) h8 d8 dv8, stepR _ h8 R8, t8, stepF _ h8 (f7.trans f8)⟩
  · cases rest with
    | cons q2 rest =>
      exfalso
      obtain ⟨f2', k2⟩ := q2
      obtain ⟨r0, e0, _⟩ := t6
      exact hw r0 e0
    | nil =>
      have f7 := Fq.ext R6 f6.2 x7
      have h7 := x7 _ _ nDp h6
      have d7 := (Fq.keep R6 f6.2 f7).dts d6
      rw [List.append_nil] at ek
      subst ek
      obtain ⟨r0, e0, t0⟩ := t6
      obtain ⟨dx, m, hp, _⟩ := id R7
      refine iteF ⟨_, rfl, p, dx, _, rfl, hp, rfl, _, rfl, "{}", 1, 125, rfl, rfl, (by show 2 ≤ sizeLine; decide), rfl, p, z, wb r6, r0, d + 1, 125, rfl, R7, by rw [wb_wb]; exact e0, by omega, fun H8 R8 x8 => ?_⟩
      have f8 := f7.trans (Fq.ext R7 f7.2 x8)
      have h8 := x8 _ _ nDp h7
      have d8 := (Fq.keep R7 f7.2 (Fq.ext R7 f7.2 x8)).dts d7
      refine ⟨_, rfl, D, us, rfl, .inl ⟨SqL.of h8, fun t ht => ?_⟩⟩
      have e9 := same_new ht (.tup us)
      rw [show d + 1 - 1 = d by omega] at R8
      exact q _ _ r0 ((f6.trans f8).trans (.same f8.2 e9)) (R8.same e9) t0 (((Same.keep e9).dts d8).tup (SqT.of upd_same))
end
end Sc
namespace Sc
open PySem PySem.Spec PyProof.Rows L2
/-- what a choice begins with -/
theorem cform {c : Ch} {ts : List Tk} (h : tkOk c) (fol : Fol ts) : (∃ fs, c = .shape fs ∧ fs ≠ [] ∧ tkOkF fs) ∨ (∃ L, c = .letter L ∧ Upp L) ∨
    ∃ (wd : Str) (ts2 : List Tk), tkC c ++ ts = .wd false (TL.tl wd) :: ts2 ∧ Low wd ∧ Fol ts2 ∧ ((pyC c = .tuple [.str wd] ∧ ts2 = ts ∧ inV (.str wd) [.str "number", .str "text"] = true) ∨
      ∃ k, pyC c = .tuple [.str wd, .tuple (pyL k)] ∧ ts2 = .pt 40 :: (tkL k ++ .pt 41 :: ts) ∧ inV (.str wd) [.str "number", .str "text"] = false ∧ inV (.str wd) [.str "row", .str "book"] = true ∧ k ≠ [] ∧ tkOkL k ∧ dC c = dL k + 1) := by
  cases c with
  | num => exact .inr (.inr ⟨"number", ts, rfl, ⟨by decide +kernel, by decide +kernel, by decide +kernel⟩, fol, .inl ⟨rfl, rfl, by decide +kernel⟩⟩)
  | txt => exact .inr (.inr ⟨"text", ts, rfl, ⟨by decide +kernel, by decide +kernel, by decide +kernel⟩, fol, .inl ⟨rfl, rfl, by decide +kernel⟩⟩)
  | row k =>
    refine .inr (.inr ⟨"row", .pt 40 :: (tkL k ++ .pt 41 :: ts), ?_, ⟨by decide +kernel, by decide +kernel, by decide +kernel⟩, fol_pt nl40, .inr ⟨k, rfl, rfl, by decide +kernel, by decide +kernel, h.1, h.2, rfl⟩⟩)
    show Tk.wd false (TL.tl "row") :: .pt 40 :: ((tkL k ++ [.pt 41]) ++ ts) = _
    rw [List.append_assoc]; rfl
  | book k =>
    refine .inr (.inr ⟨"book", .pt 40 :: (tkL k ++ .pt 41 :: ts), ?_, ⟨by decide +kernel, by decide +kernel, by decide +kernel⟩, fol_pt nl40, .inr ⟨k, rfl, rfl, by decide +kernel, by decide +kernel, h.1, h.2, rfl⟩⟩)
    show Tk.wd false (TL.tl "book") :: .pt 40 :: ((tkL k ++ [.pt 41]) ++ ts) = _
    rw [List.append_assoc]; rfl
  | shape fs => exact .inl ⟨fs, rfl, h.1, h.2⟩
  | letter L => exact .inr (.inl ⟨L, rfl, h⟩)
  | cut _ _ => exact h.elim
  | any _ => exact h.elim
  | wth _ => exact h.elim
theorem noB41 {ts : List Tk} : NoB 124 (.pt 41 :: ts) := fun r e => by injection e with e; injection e with e; cases e
theorem le_sg {a b : Nat} : (!decide ((mkS [b]).cps.toList < ({ cps := #[a] } : Str).cps.toList)) = decide (a ≤ b) := le1 (a := a) (b := b)
section
variable {P : Program} {w : World} {K : PySem.W.Frag} {mg : Str → Option Value} {base : Heap} {T0 : List Addr}
def nRCh : List Str := ["reader", "sign", "word", "kind"]
theorem scRCh : FnScope nRCh ["reader"] (defScope sPReadChoice) := ⟨rfl, rfl, rfl, by decide +kernel, rfl, by decide +kernel, by decide +kernel⟩
theorem c_read_c {C : Addr} {n lv : Nat} (T : Tx K mg) (l4 : 4 ≤ lv) (R : RdC P w K mg base C) (CW : Cal P w K mg base 3 "_read_word" ["reader"] (spRWord C T0)) (CL : Cal P w K mg base 3 "_read_letter" ["reader"] (spRLett C T0)) (CK : Cal P w K mg base lv "_read_kind" ["reader"] (spRKind K C T0 n))
    (CB : CalD P w K mg base lv "_read_in_brackets" ["reader", "ends", "read_one", "least"] [.int 1] (spRBr K mg C T0 n)) : Cal P w K mg base (lv + 1) "_read_choice" ["reader"] (spRChoice K C T0 (n + 1)) := by
  obtain ⟨g2, gd2, G2, M2, B2⟩ := R.enter
  obtain ⟨g3, gd3, G3, M3, B3⟩ := R.leave
  obtain ⟨g4, gd4, G4, M4, B4⟩ := R.sign
  obtain ⟨fr, frd, _, mr, _⟩ := T.p_read_field_and_kind.ex
  refine T.p_read_choice.ok scRCh (fun vs H Q E h => ?_) (fun f cdv A outer s H vs Q E hr h => ?_)
  · obtain ⟨p, z, l, d, c, ts, rfl, _⟩ := h
    rfl
  obtain ⟨p, z, l, d, c, ts, rfl, RA, tb, tk, ok, dn, d40, fol, q⟩ := h
  have r2 : Room 2 _ := hr.mono (by omega)
  have r3 : Room 3 _ := hr.mono (by omega)
  have r4 : Room 4 _ := hr.mono l4
  refine ⟨_, pss_cons (ps_set (i := 1) scRCh.nd rfl (Or.inl rfl) (pe_meth0 (pv 0) R.t.cl M4 G4 r2 B4 .nil pass0))
    (pss_cons (ps_if (pt_cmpR op_eq (pv 1) pe_str (nomark _)) (pss_one (ps_ret (pe_tup (pa_cons pe_str (pa_cons (pe_calD CB hr (pa_cons (pv 0) (pa_cons pe_str (pa_cons (pe_glob (v := .ref fr) (by rfl) mr rfl) pa_nil)))) pa_nil))))) pss_nil)
    (pss_cons (ps_if (pt_chain op_le_str op_le_str pe_str (pv 1) pe_str) (pss_one (ps_ret (pe_tup (pa_cons pe_str (pa_cons (pe_cal CL r3 (pa_cons (pv 0) pa_nil)) pa_nil))))) pss_nil)
    (pss_cons (ps_set (i := 2) scRCh.nd rfl (Or.inl rfl) (pe_cal CW r3 (pa_cons (pv 0) pa_nil)))
    (pss_cons (ps_if (pt_cmpR op_in_seq (pv 2) (pe_tup (pa_cons pe_str (pa_cons pe_str pa_nil))) (by rfl)) (pss_one (ps_ret (pe_tup (pa_cons (pv 2) pa_nil)))) pss_nil)
    (pss_cons (ps_if (pt_cmpR op_notIn_seq (pv 2) (pe_tup (pa_cons pe_str (pa_cons pe_str pa_nil))) (by rfl)) (pss_one ps_no) pss_nil)
    (pss_cons (ps_expr (pe_meth (pv 0) R.t.cl M2 G2 r4 B2 .nil pass0 (pa_cons pe_str pa_nil)))
    (pss_cons (ps_set (i := 3) scRCh.nd rfl (Or.inl rfl) (pe_cal CK hr (pa_cons (pv 0) pa_nil)))
    (pss_cons (ps_expr (pe_meth (pv 0) R.t.cl M3 G3 r4 B3 .nil pass0 (pa_cons pe_str pa_nil)))
    (pss_one (ps_ret (pe_tup (pa_cons (pv 2) (pa_cons (pv 3) pa_nil))))))))))))), ?_⟩
  obtain ⟨dx, n1, hp, _⟩ := id RA
  refine ⟨_, rfl, p, dx, _, rfl, hp, rfl, p, z, l, d, rfl, RA, fun H2 R2 x2 => ?_⟩
  have f2 := Fq.ext RA tb x2
  dsimp only [gName, tNext]
  rcases cform ok fol with ⟨fs, rfl, k0, kok⟩ | ⟨L, rfl, up⟩ | ⟨wd, ts2, et, lw, fol2, hc⟩
  · have tk' : Tks (.pt 123 :: (tkF fs ++ .pt 125 :: ts)) l := by
      have e : tkC (.shape fs) ++ ts = .pt 123 :: (tkF fs ++ .pt 125 :: ts) := by
        show Tk.pt 123 :: ((tkF fs ++ [.pt 125]) ++ ts) = _
        rw [List.append_assoc]; rfl
      rw [← e]; exact tk
    obtain ⟨r, hw, _⟩ := id tk'
    have tkw := sp_wb (wb_wb l).symm tk'
    rw [hw] at R2 tkw ⊢
    have dF' : dC (.shape fs) = dF fs + 1 := rfl
    refine ⟨_, rfl, rfl, _, rfl, iteYes (show decide (V.str (mkS [123]) = V.str "{") = true by decide +kernel) ?_⟩
    refine ⟨_, rfl, p, fr, z, 123 :: r, d, fs, ts, rfl, mr, R2, f2.2, tkw, k0, kok, by omega, by omega, tkOkF_len kok, fun q2 m => tkOkL_len (tkOkF_mem kok m).2.2, fun v H3 r3 f3 R3 t3 dv => ⟨(by show 2 ≤ sizeLine; decide), fun t ht => ?_⟩⟩
    have e4 := same_new ht (.tup [.str "shape", v])
    have f03 := f2.trans f3
    exact q _ _ r3 (f03.trans (.same f03.2 e4)) (R3.same e4) t3 (((Dts.nil.cons ((Same.keep e4).dt dv)).cons (.str "shape")).tup (SqT.of upd_same))
  · obtain ⟨r, hw, t2⟩ := id tk
    have hnl := fol_head fol t2
    obtain ⟨c0, L', eL⟩ : ∃ c0 L', TL.tl L = c0 :: L' := by
      cases e : TL.tl L with
      | nil => exact absurd e up.1
      | cons a b => exact ⟨a, b, rfl⟩
    have u0 : 65 ≤ c0 ∧ c0 ≤ 90 := of_decide_eq_true (up.2.1 c0 (by rw [eL]; exact List.mem_cons_self))
    have hw1 : wb l = c0 :: (L' ++ r) := by rw [hw, eL]; rfl
    have sg : mkS ((wb l).take 1) = mkS [c0] := by rw [hw1]; rfl
    rw [sg]
    refine ⟨_, rfl, rfl, _, rfl, iteNo (fun h => ?_) ⟨_, rfl, _, _, rfl, rfl, _, rfl, ?_⟩⟩
    · have h3 : [c0] = [123] := congrArg (fun t : Str => t.cps.toList) (V.str.inj (of_decide_eq_true h))
      injection h3 with h3 _
      omega
    rw [show (("A" : Str)) = { cps := #[65] } from rfl, le_sg, decide_eq_true u0.1]
    refine iteT ?_
    refine ⟨_, _, rfl, rfl, _, rfl, ?_⟩
    rw [show (("Z" : Str)) = mkS [90] from rfl, le1, decide_eq_true u0.2]
    refine iteT ?_
    refine ⟨_, rfl, p, z, wb l, r, d, L, rfl, R2, f2.2, by rw [wb_wb]; exact hw, up, hnl, fun H3 f3 R3 => ⟨(by show 2 ≤ sizeLine; decide), fun t ht => ?_⟩⟩
    have e4 := same_new ht (.tup [.str "letter", .str L])
    have f03 := f2.trans f3
    exact q _ _ r (f03.trans (.same f03.2 e4)) (R3.same e4) t2 (((Dts.nil.cons (.str L)).cons (.str "letter")).tup (SqT.of upd_same))
  · rw [et] at tk
    obtain ⟨r, hw, t2⟩ := tk
    have hnl := fol_head fol2 t2
    obtain ⟨c0, L', eL⟩ : ∃ c0 L', TL.tl wd = c0 :: L' := by
      cases e : TL.tl wd with
      | nil => exact absurd e lw.1
      | cons a b => exact ⟨a, b, rfl⟩
    have u0 : 97 ≤ c0 ∧ c0 ≤ 122 := of_decide_eq_true (lw.2.1 c0 (by rw [eL]; exact List.mem_cons_self))
    have hw1 : wb l = c0 :: (L' ++ r) := by rw [hw, eL]; rfl
    have sg : mkS ((wb l).take 1) = mkS [c0] := by rw [hw1]; rfl
    rw [sg]
    refine ⟨_, rfl, rfl, _, rfl, iteNo (fun h => ?_) ⟨_, rfl, _, _, rfl, rfl, _, rfl, ?_⟩⟩
    · have h3 : [c0] = [123] := congrArg (fun t : Str => t.cps.toList) (V.str.inj (of_decide_eq_true h))
      injection h3 with h3 _
      omega
    rw [show (("A" : Str)) = { cps := #[65] } from rfl, le_sg, decide_eq_true (show 65 ≤ c0 by omega)]
    refine iteT ?_
    refine ⟨_, _, rfl, rfl, _, rfl, ?_⟩
    rw [show (("Z" : Str)) = mkS [90] from rfl, le1, decide_eq_false (show ¬ c0 ≤ 90 by omega)]
    refine iteF ?_
    refine ⟨_, rfl, p, z, wb l, r, d, wd, rfl, R2, f2.2, by rw [wb_wb]; exact hw, lw, hnl, fun H3 f3 R3 => ?_⟩
    have f03 := f2.trans f3
    dsimp only [gName, tNext]
    refine ⟨_, rfl, (by show 2 ≤ sizeLine; decide), fun t1 ht1 => ⟨t1, _, rfl, .inr (SqT.of upd_same), rfl, rfl, _, rfl, ?_⟩⟩
    have e4 := same_new ht1 (.tup [.str "number", .str "text"])
    have R4 := R3.same e4
    have f04 := f03.trans (.same f03.2 e4)
    generalize upd H3 t1 (.tup [.str "number", .str "text"]) = H4 at R4 f04 ⊢
    rcases hc with ⟨pc, rfl, hin⟩ | ⟨k, pc, rfl, hno, hin, k0, kok, dC'⟩
    · refine iteYes hin ⟨_, rfl, (by show 1 ≤ sizeLine; decide), fun t ht => ?_⟩
      have e5 := same_new ht (.tup [.str wd])
      refine q _ _ r (f04.trans (.same f04.2 e5)) (R4.same e5) t2 ?_
      show Dt K _ _ (pyC c)
      rw [pc]
      exact (Dts.nil.cons (.str wd)).tup (SqT.of upd_same)
    · refine iteNo (by rw [show (if false = true then !inV (.str wd) [.str "number", .str "text"] else inV (.str wd) [.str "number", .str "text"]) = false from hno]; exact Bool.false_ne_true) ?_
      refine ⟨_, rfl, (by show 2 ≤ sizeLine; decide), fun t3 ht3 => ⟨t3, _, rfl, .inr (SqT.of upd_same), rfl, rfl, _, rfl, ?_⟩⟩
      have e5 := same_new ht3 (.tup [.str "row", .str "book"])
      have R5 := R4.same e5
      have f05 := f04.trans (.same f04.2 e5)
      generalize upd H4 t3 (.tup [.str "row", .str "book"]) = H5 at R5 f05 ⊢
      refine iteNo (by rw [show (if true = true then !inV (.str wd) [.str "row", .str "book"] else inV (.str wd) [.str "row", .str "book"]) = !inV (.str wd) [.str "row", .str "book"] from rfl, hin]; exact Bool.false_ne_true) ?_
      obtain ⟨s1, hs1, t4⟩ := t2
      obtain ⟨dx, m5, hp5, _, _, _, dz, _⟩ := id R5
      refine ⟨_, rfl, p, dx, _, rfl, hp5, rfl, p, z, r, s1, d, 40, rfl, R5, hs1, by omega, fun H6 R6 x6 => ?_⟩
      have f06 := f05.trans (Fq.ext R5 f05.2 x6)
      refine ⟨_, rfl, p, z, s1, d + 1, k, .pt 41 :: ts, rfl, R6, f06.2, t4, k0, kok, by omega, by omega, tkOkL_len kok, fol_pt nl41, noB41, fun v H7 r7 f7 R7 t7 dv => ?_⟩
      have f07 := f06.trans f7
      dsimp only [gName, tNext]
      obtain ⟨s2, hs2, t8⟩ := t7
      obtain ⟨dx, m7, hp7, _⟩ := id R7
      refine ⟨_, rfl, p, dx, _, rfl, hp7, rfl, p, z, r7, s2, d + 1, 41, rfl, R7, hs2, by omega, fun H8 R8 x8 => ?_⟩
      have f8 := Fq.ext R7 f07.2 x8
      have dv8 := (Fq.keep R7 f07.2 f8).dt dv
      have f08 := f07.trans f8
      rw [show d + 1 - 1 = d by omega] at R8
      refine ⟨_, rfl, _, rfl, (by show 2 ≤ sizeLine; decide), fun t ht => ?_⟩
      have e9 := same_new ht (.tup [.str wd, v])
      refine q _ _ s2 (f08.trans (.same f08.2 e9)) (R8.same e9) t8 ?_
      show Dt K _ _ (pyC c)
      rw [pc]
      exact ((Dts.nil.cons ((Same.keep e9).dt dv8)).cons (.str wd)).tup (SqT.of upd_same)
end
end Sc
namespace Sc
open PySem PySem.Spec PyProof.Rows L2
def spRShort : Sp := fun vs H Q _ => ∃ z : Str, vs = [.str z] ∧ z.length ≤ 6000 ∧ Q .non H
/-- a text of a kind is read -/
def spRead (K : PySem.W.Frag) (T : List Addr) (n : Nat) : Sp := fun vs H Q _ => ∃ (z : Str) (k : List Ch), vs = [.str z] ∧ z.length ≤ 6000 ∧ Tb T H ∧ Tks (tkL k) (TL.tl z) ∧ k ≠ [] ∧ tkOkL k ∧ dL k < n ∧ dL k ≤ 40 ∧ ∀ (v : V) (H' : Hp), Fr T H H' → IsK K H' v k → Q v H'
section
variable {P : Program} {w : World} {K : PySem.W.Frag} {mg : Str → Option Value} {base : Heap} {T0 : List Addr}
/-- all depths: four levels each -/
theorem c_reads {C : Addr} (T : Tx K mg) (BD : DefD K mg "_read_in_brackets" sPReadInBrackets ["reader", "ends", "read_one", "least"] [.int 1]) (R : RdC P w K mg base C) (CW : Cal P w K mg base 3 "_read_word" ["reader"] (spRWord C T0)) (CL : Cal P w K mg base 3 "_read_letter" ["reader"] (spRLett C T0)) :
    ∀ n : Nat, Cal P w K mg base (4 * n + 4) "_read_choice" ["reader"] (spRChoice K C T0 n)
  | 0 => (T.p_read_choice.never fun vs H Q E ⟨_, _, _, _, _, _, _, _, _, _, _, h, _⟩ => absurd h (Nat.not_lt_zero _)).mono (by omega)
  | n + 1 => by
    have CC := c_reads T BD R CW CL n
    have CK := c_read_k T (by omega) R CC
    have CF := c_read_field T (by omega) R CW CK
    have CB := c_brackets T (by omega) BD R CF
    exact c_read_c T (by omega) R CW CL (CK.mono (by omega)) CB
theorem scRSh : FnScope ["text"] ["text"] (defScope sPNeedShort) := ⟨rfl, rfl, rfl, by decide +kernel, rfl, by decide +kernel, by decide +kernel⟩
theorem c_need_short (T : Tx K mg) (g6 : ∃ t, mg "LONGEST_TEXT" = some (.int 6000 t)) : Cal P w K mg base 1 "_need_short" ["text"] spRShort := by
  obtain ⟨t6, g6⟩ := g6
  refine T.p_need_short.ok scRSh (fun vs H Q E h => ?_) (fun f cdv A outer s H vs Q E hr h => ?_)
  · obtain ⟨z, rfl, _⟩ := h
    rfl
  obtain ⟨z, rfl, hz, q⟩ := h
  refine ⟨_, pss_one (ps_if (pt_cmpR op_gt (pe_callB call_len_str (by rfl) T.m_len PySem.boot_len (pa_cons (pv 0) pa_nil)) (pe_glob (v := .int 6000) (by rfl) g6 ⟨t6, rfl⟩) (nomark _)) (pss_one ps_no) pss_nil), ?_⟩
  refine ⟨_, rfl, z, rfl, sizeOk (by omega), _, _, rfl, rfl, _, rfl, iteNo (fun h => ?_) q⟩
  have := of_decide_eq_true h
  omega
theorem scRRead : FnScope ["text", "reader", "kind"] ["text"] (defScope sReadKind) := ⟨rfl, rfl, rfl, by decide +kernel, rfl, by decide +kernel, by decide +kernel⟩
theorem c_read_kind {C : Addr} {n lv : Nat} (T : Tx K mg) (l4 : 4 ≤ lv) (R : RdC P w K mg base C) (CS : Cal P w K mg base 1 "_need_short" ["text"] spRShort) (CK : Cal P w K mg base lv "_read_kind" ["reader"] (spRKind K C T0 n)) : Cal P w K mg base (lv + 1) "read_kind" ["text"] (spRead K T0 n) := by
  obtain ⟨fi, fid, GI, MI, BI⟩ := R.ini
  obtain ⟨g4, gd4, G4, M4, B4⟩ := R.fin
  refine T.read_kind.ok scRRead (fun vs H Q E h => ?_) (fun f cdv A outer s H vs Q E hr h => ?_)
  · obtain ⟨z, k, rfl, _⟩ := h
    rfl
  obtain ⟨z, k, rfl, hz, tb, tk, k0, kok, dn, d40, q⟩ := h
  have r1 : Room 1 _ := hr.mono (by omega)
  have r2 : Room 2 _ := hr.mono (by omega)
  have r3 : Room 3 _ := hr.mono (by omega)
  refine ⟨_, pss_cons (ps_expr (pe_cal CS r1 (pa_cons (pv 0) pa_nil)))
    (pss_cons (ps_set (i := 1) scRRead.nd rfl (Or.inl rfl) (pe_make MI GI r2 (by rfl) R.t.g BI .nil pass0 (pa_cons (pv 0) pa_nil)))
    (pss_cons (ps_set (i := 2) scRRead.nd rfl (Or.inl rfl) (pe_cal CK hr (pa_cons (pv 1) pa_nil)))
    (pss_cons (ps_expr (pe_meth0 (pv 1) R.t.cl M4 G4 r3 B4 .nil pass0))
    (pss_one (ps_ret (pv 2)))))), ?_⟩
  refine ⟨_, rfl, z, rfl, hz, _, rfl, fun p dx np ndx nex => ?_⟩
  have s0 : Same H (upd (upd H dx (.own p)) p (.ins C dx [])) := fun b o e => by
    rw [upd_ne (ne_of_none e np), upd_ne (ne_of_none e ndx)]
    exact e
  refine ⟨p, dx, z, rfl, upd_same, hz, fun H1 R1 kp => ⟨rfl, ?_⟩⟩
  have s1 : Same H H1 := fun c o e => kp c o (ne_of_none e np) (s0 c o e)
  have f1 := Fr.same tb s1
  dsimp only [gName, tNext]
  refine ⟨_, rfl, p, z, TL.tl z, 0, k, [], rfl, R1, f1.tab, by rw [List.append_nil]; exact tk, k0, kok, dn, by omega, tkOkL_len kok, .inl rfl, (fun r e => by cases e), fun v H2 r2 f2 R2 t2 dv => ?_⟩
  dsimp only [gName, tNext]
  obtain ⟨dx2, m2, hp2, _⟩ := id R2
  have t2 : wb r2 = [] := t2
  refine ⟨_, rfl, p, dx2, _, rfl, hp2, rfl, p, z, r2, 0, rfl, R2, t2, fun H3 R3 x3 => ?_⟩
  have f3 := f2.trans (Fq.ext R2 f2.2 x3)
  have dv3 := (Fq.keep R2 f2.2 (Fq.ext R2 f2.2 x3)).dt dv
  refine ⟨_, rfl, q v H3 ⟨fun b o hb nb => f3.1 b o (s1 b o hb) nb (ne_of_none hb np), f3.2⟩ dv3⟩
end
end Sc
namespace Sc
open PySem PyProof.Rows L2
section
variable {P : Program} {w : World} {K : PySem.W.Frag} {mg : Str → Option Value} {base : Heap}
theorem scTaken : FnScope ["_law_s", "_law_most", "_law_found"] ["_law_s", "_law_most"] (defScope sTaken) := ⟨rfl, rfl, rfl, by decide +kernel, rfl, by decide +kernel, by decide +kernel⟩
theorem c_taken (T : Tx K mg) : Cal P w K mg base 1 "_law_taken" ["_law_s", "_law_most"] (spTaken K) := by
  refine T.taken.ok scTaken (fun vs H Q E h => ?_) (fun f cdv A outer s H vs Q E hr h => ?_)
  · obtain ⟨s, i, m, rfl, _⟩ := h
    rfl
  obtain ⟨s, i, m, rfl, ⟨ns, g, hs, hc, hl, iok, ok⟩, m0, mb, q⟩ := h
  have hu := hu_of hr
  have ml := T.m_len
  refine ⟨_, pss_cons (ps_if (pt_cmpR op_eq (pe_dget hu (pv 0) pe_str (fun _ _ => rfl)) pe_int (nomark _))
      (pss_cons (ps_dput hu (pv 0) pe_str (pe_op op_add (pe_dget hu (pv 0) pe_str (fun _ _ => rfl)) pe_int) rfl)
      (pss_cons (ps_if (pt_cmpR op_gt (pe_dget hu (pv 0) pe_str (fun _ _ => rfl)) (pe_callB call_len_seq (by rfl) ml PySem.boot_len (pa_cons (pe_dget hu (pv 0) pe_str (fun _ _ => rfl)) pa_nil)) (nomark _))
        (pss_cons (ps_dput hu (pv 0) pe_str (pe_op op_mod (pe_op op_add (pe_op op_mul (pe_dget hu (pv 0) pe_str (fun _ _ => rfl)) pe_int) pe_int) pe_int) rfl)
        (pss_cons (ps_set (i := 2) scTaken.nd rfl (Or.inl rfl) (pe_op op_fdiv (pe_dget hu (pv 0) pe_str (fun _ _ => rfl)) pe_int))
        (pss_one (ps_ret (pe_ifExp (pt_cmpR op_gt (pv 1) (pe_op op_pow pe_int pe_int) (nomark _)) (pe_op op_modN (pe_op op_pow (pv 2) pe_int) (pv 1)) (pe_op op_modN (pv 2) (pv 1)))))))
        pss_nil)
      (pss_cons (ps_if (pt_cmpR op_lt (pe_ix ix_list (pe_dget hu (pv 0) pe_str (fun _ _ => rfl)) (pe_op op_sub (pe_dget hu (pv 0) pe_str (fun _ _ => rfl)) pe_int) (fun _ _ => rfl)) (pe_op op_pow pe_int pe_int) (nomark _))
        (pss_one (ps_ret (pe_op op_modN (pe_ix ix_list (pe_dget hu (pv 0) pe_str (fun _ _ => rfl)) (pe_op op_sub (pe_dget hu (pv 0) pe_str (fun _ _ => rfl)) pe_int) (fun _ _ => rfl)) (pv 1))))
        pss_nil)
      (pss_one (ps_dput hu (pv 0) pe_str (pe_ix ix_list (pe_dget hu (pv 0) pe_str (fun _ _ => rfl)) (pe_op op_sub (pe_dget hu (pv 0) pe_str (fun _ _ => rfl)) pe_int) (fun _ _ => rfl)) rfl)))))
      pss_nil)
    (pss_cons (ps_set (i := 2) scTaken.nd rfl (Or.inl rfl) (pe_op op_modN (pe_dget hu (pv 0) pe_str (fun _ _ => rfl)) (pv 1)))
    (pss_cons (ps_dput hu (pv 0) pe_str (pe_op op_fdivW (pe_dget hu (pv 0) pe_str (fun _ _ => rfl)) (pv 1)) rfl)
    (pss_one (ps_ret (pv 2))))), ?_⟩
  -- the rows behind the if, from any state
  have last : ∀ (H1 : Hp) (g1 : Mv) (v2 : Option V), H1 s = some (.dK (stD i g1)) → SqL K H1 i.c (ns.map V.int) → g1.Ok → Ext s H H1 →
      tSeq (tAsg (tOp (rI (fun _ j => j ≠ 0) fun i j => V.int (i.fmod j)) (tDGet (tVar 0) (tC (.str "rest"))) (tVar 1)) (gName 2))
        (tSeq (sDPut (tVar 0) (tC (.str "rest")) (tOp (rI CDivW fun i j => V.int (i / j)) (tDGet (tVar 0) (tC (.str "rest"))) (tVar 1))) (tRet (tVar 2)))
        { nx := fun _ H' => Q .non H', rt := Q } [some (.ref s), some (.int m), v2] H1 := fun H1 g1 v2 hs1 hc1 ok1 e1 => by
    refine ⟨_, rfl, s, _, rfl, gS hs1 rfl, _, rfl, _, _, rfl, rfl, by omega, ?_⟩
    refine ⟨_, rfl, s, _, rfl, gS hs1 rfl, _, rfl, _, _, rfl, rfl, ⟨m0, ?_⟩, _, rfl, s, _, rfl, pS hs1 (p_rest i g1 _), _, rfl, ?_⟩
    · exact Nat.lt_trans (PySem.Flt.log2_lt_of (by decide) mb) (by decide)
    have em : g1.rest.fmod m = g1.rest % m := Int.fmod_eq_emod_of_nonneg _ (by omega)
    refine q _ _ (by rw [em]; exact Int.emod_nonneg _ (by omega)) (by rw [em]; exact Int.emod_lt_of_pos _ m0) (e1.trans (Ext.upd _ _ _)) ⟨ns, _, upd_same, (Ext.upd s H1 _).seq hs1 hc1, hl, iok, ?_⟩
    exact { ok1 with r0 := Int.ediv_nonneg ok1.r0 (by omega) }
  refine ⟨_, rfl, s, _, rfl, gS hs rfl, rfl, _, rfl, ite2 (fun c1 => ?_) (fun c1 => last H g none hs hc ok (Ext.refl s H))⟩
  refine ⟨_, rfl, s, _, rfl, gS hs rfl, _, _, rfl, rfl, _, rfl, s, _, rfl, pS hs (p_at i g _), ?_⟩
  have hs1 : (upd H s (.dK (stD i { g with att := g.att + 1 }))) s = _ := upd_same
  have e1 := Ext.upd s H (.dK (stD i { g with att := g.att + 1 }))
  have hc1 := e1.seq hs hc
  have ok1 : ({ g with att := g.att + 1 } : Mv).Ok := { ok with a0 := by have := ok.a0; show 0 ≤ g.att + 1; omega }
  generalize upd H s (.dK (stD i { g with att := g.att + 1 })) = H1 at hs1 e1 hc1 ⊢
  have a1 : 1 ≤ ({ g with att := g.att + 1 } : Mv).att := by have := ok.a0; show 1 ≤ g.att + 1; omega
  generalize ({ g with att := g.att + 1 } : Mv) = g1 at hs1 ok1 a1 ⊢
  refine ⟨_, rfl, s, _, rfl, gS hs1 rfl, _, rfl, s, _, rfl, gS hs1 rfl, i.c, _, rfl, .inl hc1, _, _, rfl, rfl, _, rfl, ite2 (fun c2 => ?_) (fun c2 => ?_)⟩
  · refine ⟨_, rfl, s, _, rfl, gS hs1 rfl, _, _, rfl, rfl, .inr (by decide), _, _, rfl, rfl, _, _, rfl, rfl, (by show (0 : Int) < 2147483647; decide), _, rfl, s, _, rfl, pS hs1 (p_seed i g1 _), ?_⟩
    have s0 : 0 ≤ (g1.seed * 48271 + 11) % 2147483647 := Int.emod_nonneg _ (by decide)
    have s1 : (g1.seed * 48271 + 11) % 2147483647 < 2147483647 := Int.emod_lt_of_pos _ (by decide)
    generalize (g1.seed * 48271 + 11) % 2147483647 = sd at s0 s1 ⊢
    have hs2 : (upd H1 s (.dK (stD i { g1 with seed := sd }))) s = _ := upd_same
    have e2 := Ext.upd s H1 (.dK (stD i { g1 with seed := sd }))
    have hc2 := e2.seq hs1 hc1
    have ok2 : ({ g1 with seed := sd } : Mv).Ok := { ok1 with e0 := s0 }
    generalize upd H1 s (.dK (stD i { g1 with seed := sd })) = H2 at hs2 e2 hc2 ⊢
    refine ⟨_, rfl, s, _, rfl, gS hs2 rfl, _, _, rfl, rfl, ⟨by decide, by decide⟩, _, rfl, _, _, rfl, rfl, ⟨by decide, by decide, by decide⟩, _, _, rfl, rfl, _, rfl, ?_⟩
    have fin : ∀ x : Int, Q (.int (x.fmod m)) H2 := fun x => by
      have em : x.fmod m = x % m := Int.fmod_eq_emod_of_nonneg _ (by omega)
      rw [em]
      exact q _ _ (Int.emod_nonneg _ (by omega)) (Int.emod_lt_of_pos _ m0) (e1.trans e2) ⟨ns, _, hs2, hc2, hl, iok, ok2⟩
    refine ite2 (fun c3 => ?_) (fun c3 => ?_)
    · refine ⟨_, rfl, _, _, rfl, rfl, ⟨by decide, by decide, ?_⟩, _, rfl, _, _, rfl, rfl, by omega, fin _⟩
      show (sd / 64).natAbs < 2 ^ 64
      omega
    · exact ⟨_, rfl, _, rfl, _, _, rfl, rfl, by omega, fin _⟩
  · have hlt : g1.att - 1 < (ns.length : Int) := by
      have c2' : ¬ (((ns.map V.int).length : Nat) : Int) < g1.att := of_decide_eq_false (Bool.eq_false_iff.mpr c2)
      rw [List.length_map] at c2'
      omega
    obtain ⟨j, hj⟩ : ∃ j : Nat, g1.att - 1 = (j : Int) := ⟨(g1.att - 1).toNat, by omega⟩
    have hjl : j < ns.length := by omega
    have hat : atI (ns.map V.int) (g1.att - 1) = some (.int ns[j]) := by
      rw [hj]
      exact atI_nat (by rw [List.getElem?_map, List.getElem?_eq_getElem hjl] <;> rfl)
    refine ⟨_, rfl, s, _, rfl, gS hs1 rfl, _, rfl, s, _, rfl, gS hs1 rfl, _, _, rfl, rfl, i.c, _, _, _, rfl, rfl, hc1, hat, _, _, rfl, rfl, ⟨by decide, by decide, by decide⟩, _, _, rfl, rfl, _, rfl, ite2 (fun c3 => ?_) (fun c3 => ?_)⟩
    · have em : ns[j].fmod m = ns[j] % m := Int.fmod_eq_emod_of_nonneg _ (by omega)
      refine ⟨_, rfl, s, _, rfl, gS hs1 rfl, _, rfl, s, _, rfl, gS hs1 rfl, _, _, rfl, rfl, i.c, _, _, _, rfl, rfl, hc1, hat, _, rfl, _, _, rfl, rfl, by omega, ?_⟩
      exact q _ _ (by rw [em]; exact Int.emod_nonneg _ (by omega)) (by rw [em]; exact Int.emod_lt_of_pos _ m0) e1 ⟨ns, _, hs1, hc1, hl, iok, ok1⟩
    · refine ⟨_, rfl, s, _, rfl, gS hs1 rfl, _, rfl, s, _, rfl, gS hs1 rfl, _, _, rfl, rfl, i.c, _, _, _, rfl, rfl, hc1, hat, _, rfl, s, _, rfl, pS hs1 (p_rest i g1 _), ?_⟩
      have c3' : ¬ ns[j] < 10 ^ 18 := of_decide_eq_false (Bool.eq_false_iff.mpr c3)
      exact last _ _ none upd_same ((Ext.upd s H1 _).seq hs1 hc1) { ok1 with r0 := by show 0 ≤ ns[j]; omega } (e1.trans (Ext.upd _ _ _))
end
end Sc
namespace Sc
open PySem PyProof.Rows L2
section
variable {P : Program} {w : World} {K : PySem.W.Frag} {mg : Str → Option Value} {base : Heap}
def d9 (c fl : Addr) : List (Key × V) := [(.inr "cells", .ref c), (.inr "at", .int 0), (.inr "size", .int 1), (.inr "place", .int 0), (.inr "turn", .int 0), (.inr "rest", .int 0),
  (.inr "functions", .ref fl), (.inr "odd", .int 0), (.inr "talk", .int 0)]
theorem merge9 (c fl : Addr) : mergeK [] (d9 c fl) = d9 c fl := by kernel_rfl
theorem seed9 (c fl : Addr) (n : Int) : putK (d9 c fl) (.inr "seed") (.int n) = stD ⟨c, fl, 1, 0, 0, 0, 0⟩ ⟨0, 0, n⟩ := by rfl
theorem scBegun : FnScope ["_law_script", "_law_s", "_law_cell"] ["_law_script"] (defScope sBegun) := ⟨rfl, rfl, rfl, by decide +kernel, rfl, by decide +kernel, by decide +kernel⟩
theorem c_begun (T : Tx K mg) : Cal P w K mg base 2 "_law_begun" ["_law_script"] (spBegun K) := by
  have CT : Cal P w K mg base 1 "_law_taken" ["_law_s", "_law_most"] (spTaken K) := c_taken T
  refine T.begun.ok scBegun (fun vs H Q E h => ?_) (fun f cdv A outer s H vs Q E hr h => ?_)
  · obtain ⟨c, ns, rfl, _⟩ := h
    rfl
  obtain ⟨c, ns, rfl, hc, hl, q⟩ := h
  have hu := hu_of hr
  refine ⟨_, pss_cons (ps_set (i := 1) scBegun.nd rfl (Or.inl rfl) (pe_disp (pps_cons pe_str (pv 0) (pps_cons pe_str pe_int (pps_cons pe_str pe_int (pps_cons pe_str pe_int (pps_cons pe_str pe_int (pps_cons pe_str pe_int
        (pps_cons pe_str (pe_lst pa_nil) (pps_cons pe_str pe_int (pps_cons pe_str pe_int pps_nil))))))))) (by rfl) (by rfl) (fun z => by cases z) (by decide)))
    (pss_cons (ps_dput hu (pv 1) pe_str (pe_op op_add pe_int (pe_callB (cr_sum rfl) (by rfl) T.m_sum (by decide +kernel) (pa_cons
        (pe_lc (own := [("_law_cell", 2)]) (g := gName 2) (tt := tYes) rfl scBegun.nd (pi_list (pv 0)) (blkOk_by (N := ["_law_script", "_law_s", "_law_cell"]) (sc := defScope sBegun) (by decide +kernel))
          (fun _ _ _ _ _ => pg_name (i := 2) scBegun.nd rfl (Or.inl rfl)) (fun _ _ _ _ _ => pts_nil)
          (fun _ _ _ _ _ => pe_op op_mul pe_int (pe_callB call_abs (by rfl) T.m_abs (by decide +kernel) (pa_cons (pv 2) pa_nil)))) pa_nil))) rfl)
    (pss_cons (ps_dput hu (pv 1) pe_str (pe_op op_add pe_int (pe_cal CT hr (pa_cons (pv 1) (pa_cons pe_int pa_nil)))) rfl)
    (pss_cons (ps_dput hu (pv 1) pe_str (pe_cal CT hr (pa_cons (pv 1) (pa_cons (pe_dget hu (pv 1) pe_str (fun _ _ => rfl)) pa_nil))) rfl)
    (pss_cons (ps_dput hu (pv 1) pe_str (pe_cal CT hr (pa_cons (pv 1) (pa_cons pe_int pa_nil))) rfl)
    (pss_cons (ps_dput hu (pv 1) pe_str (pe_callTy call_int1 (by rfl) T.m_int (by decide +kernel) (pa_cons (pe_cmpR op_eq (pe_cal CT hr (pa_cons (pv 1) (pa_cons pe_int pa_nil))) pe_int (nomark _)) pa_nil)) rfl)
    (pss_one (ps_ret (pv 1)))))))), ?_⟩
  refine fun s hs0 => ⟨_, rfl, Nat.zero_le _, fun fl hfl => ⟨?_, d9 c fl, rfl, by show 9 ≤ 15; decide, ?_⟩⟩
  · rw [upd_ne (ne_of_none upd_same hfl)]
    exact upd_same
  have hfl0 : H fl = none := (same_new hs0 (.dK [])).free hfl
  have nsf : s ≠ fl := ne_of_none upd_same hfl
  have e0 : Same H (upd (upd (upd H s (.dK [])) fl (.lst [])) s (.dK (mergeK [] (d9 c fl)))) := fun b o h => by
    rw [upd_ne (ne_of_none h hs0), upd_ne (ne_of_none h hfl0), upd_ne (ne_of_none h hs0)]
    exact h
  have f0 : (upd (upd (upd H s (.dK [])) fl (.lst [])) s (.dK (mergeK [] (d9 c fl)))) fl = some (.lst []) := by rw [upd_ne nsf.symm, upd_same]
  have d0 : (upd (upd (upd H s (.dK [])) fl (.lst [])) s (.dK (mergeK [] (d9 c fl)))) s = some (.dK (d9 c fl)) := by rw [upd_same, merge9]
  generalize (upd (upd (upd H s (.dK [])) fl (.lst [])) s (.dK (mergeK [] (d9 c fl)))) = H1 at e0 f0 d0 ⊢
  refine ⟨_, rfl, c, rfl, ⟨_, Same.seq e0 hc⟩, fun D hD => lc_list (K := K) (a := c) (xs := ns.map V.int) (fun j H2 => Same H1 H2 ∧ H2 D = some (.lst ((ns.take j).map fun z => V.int (31 * (if z < 0 then -z else z))))) ⟨same_new hD _, upd_same⟩
    (fun j H2 _ h => Same.seq (e0.trans h.1) hc) ?_ ?_⟩
  · rintro j x H2 hx ⟨e2, h2⟩
    rw [List.getElem?_map] at hx
    obtain ⟨z, hz, rfl⟩ := Option.map_eq_some_iff.mp hx
    refine ⟨rfl, _, rfl, z, rfl, _, _, rfl, rfl, .inl ⟨by decide, by decide⟩, _, h2, ?_, fun b o hb => ?_, ?_⟩
    · rw [List.length_map]
      exact small1000 (Nat.le_trans (List.length_take_le' _ _) (by omega))
    · rw [upd_ne (ne_of_none hb hD)]
      exact e2 b o hb
    · rw [upd_same, List.take_add_one, hz, List.map_append]
      rfl
  rintro H2 ⟨e2, h2⟩
  refine ⟨D, ns.map fun z => 31 * (if z < 0 then -z else z), rfl, ?_, _, _, rfl, rfl, _, rfl, s, _, rfl, DPut.k (k := Sum.inr "seed") (e2 _ _ d0) (by show 9 < sizeLine; decide), ?_⟩
  · rw [List.length_map, List.take_length] at h2
    rw [List.map_map]
    exact SqL.of h2
  rw [seed9]
  have hc2 : SqL K H2 c (ns.map V.int) := Same.seq (e0.trans e2) hc
  have x3 := Ext.upd s H2 (.dK (stD ⟨c, fl, 1, 0, 0, 0, 0⟩ ⟨0, 0, 7 + (ns.map fun z => 31 * (if z < 0 then -z else z)).sum⟩))
  have hs2 : (upd H2 s (.dK (stD ⟨c, fl, 1, 0, 0, 0, 0⟩ ⟨0, 0, 7 + (ns.map fun z => 31 * (if z < 0 then -z else z)).sum⟩))) s = _ := upd_same
  have hf2 : (upd H2 s (.dK (stD ⟨c, fl, 1, 0, 0, 0, 0⟩ ⟨0, 0, 7 + (ns.map fun z => 31 * (if z < 0 then -z else z)).sum⟩))) fl = some (.lst []) := by rw [upd_ne nsf.symm]; exact e2 _ _ f0
  have x03 : Ext s H (upd H2 s (.dK (stD ⟨c, fl, 1, 0, 0, 0, 0⟩ ⟨0, 0, 7 + (ns.map fun z => 31 * (if z < 0 then -z else z)).sum⟩))) := (Ext.same (e0.trans e2)).trans x3
  have hc3 := x3.seq (e2 _ _ d0) hc2
  generalize (upd H2 s (.dK (stD ⟨c, fl, 1, 0, 0, 0, 0⟩ ⟨0, 0, 7 + (ns.map fun z => 31 * (if z < 0 then -z else z)).sum⟩))) = H3 at hs2 hf2 x03 hc3 ⊢
  have sum0 : ∀ l : List Int, 0 ≤ (l.map fun z => 31 * (if z < 0 then -z else z)).sum := fun l => by
    induction l with
    | nil => exact Int.le_refl 0
    | cons z l ih =>
      rw [List.map_cons, List.sum_cons]
      split <;> omega
  have S3 : IsS K H3 s ⟨c, fl, 1, 0, 0, 0, 0⟩ := ⟨ns, _, hs2, hc3, hl, ⟨by show (1 : Int) ≤ 1; decide, by show (1 : Int) ≤ 8; decide, by show (0 : Int) ≤ 0; decide, by show (0 : Int) < 1; decide, by show (0 : Int) ≤ 0; decide, by show (0 : Int) < 26; decide, by show (0 : Int) ≤ 0; decide, by show (0 : Int) ≤ 1; decide⟩,
    ⟨by show (0 : Int) ≤ 0; decide, by show (0 : Int) ≤ 0; decide, by have := sum0 ns; show 0 ≤ 7 + _; omega⟩⟩
  -- the four draws
  have put : ∀ {H4 : Hp} {i i' : Inf} {k : Str} {v : V}, IsS K H4 s i → (∀ m, putK (stD i m) (.inr k) v = stD i' m) → i'.c = i.c → i'.Ok → ∃ H5, DPut H4 s (.str k) v H5 ∧ IsS K H5 s i' ∧ Ext s H4 H5 := fun {H4 i i' k v} h hp hi ho => by
    obtain ⟨ns, m, a1, a2, a3, a4, a5⟩ := h
    exact ⟨_, pS a1 (hp m), ⟨ns, m, upd_same, by rw [hi]; exact (Ext.upd s H4 _).seq a1 a2, a3, ho, a5⟩, Ext.upd s H4 _⟩
  refine ⟨_, rfl, s, _, 8, rfl, S3, by decide, by decide, fun r1 H4 a1 b1 x4 S4 => ?_⟩
  obtain ⟨H5, p5, S5, x5⟩ := put (k := "size") (v := .int (1 + r1)) S4 (fun m => p_size _ m _) rfl { s1 := by show 1 ≤ 1 + r1; omega, s8 := by show 1 + r1 ≤ 8; omega, p0 := by show (0 : Int) ≤ 0; decide, p1 := by show 0 < 1 + r1; omega, t0 := by show (0 : Int) ≤ 0; decide, t1 := by show (0 : Int) < 26; decide, k0 := by show (0 : Int) ≤ 0; decide, k1 := by show (0 : Int) ≤ 1; decide }
  refine ⟨_, _, rfl, rfl, _, rfl, s, _, rfl, p5, ?_⟩
  obtain ⟨ns5, m5, h5, _⟩ := id S5
  refine ⟨_, rfl, _, rfl, s, _, rfl, gS h5 rfl, s, _, _, rfl, S5, by show 0 < 1 + r1; omega, ?_, fun r2 H6 a2 b2 x6 S6 => ?_⟩
  · show (1 + r1).natAbs < 2 ^ 200
    exact Nat.lt_trans (show (1 + r1).natAbs < 100 by omega) (by decide)
  have b2' : r2 < 1 + r1 := b2
  obtain ⟨H7, p7, S7, x7⟩ := put (k := "place") (v := .int r2) S6 (fun m => p_place _ m _) rfl { s1 := by show 1 ≤ 1 + r1; omega, s8 := by show 1 + r1 ≤ 8; omega, p0 := a2, p1 := b2, t0 := by show (0 : Int) ≤ 0; decide, t1 := by show (0 : Int) < 26; decide, k0 := by show (0 : Int) ≤ 0; decide, k1 := by show (0 : Int) ≤ 1; decide }
  refine ⟨_, rfl, s, _, rfl, p7, ?_⟩
  refine ⟨_, rfl, s, _, 26, rfl, S7, by decide, by decide, fun r3 H8 a3 b3 x8 S8 => ?_⟩
  obtain ⟨H9, p9, S9, x9⟩ := put (k := "turn") (v := .int r3) S8 (fun m => p_turn _ m _) rfl { s1 := by show 1 ≤ 1 + r1; omega, s8 := by show 1 + r1 ≤ 8; omega, p0 := a2, p1 := b2, t0 := a3, t1 := b3, k0 := by show (0 : Int) ≤ 0; decide, k1 := by show (0 : Int) ≤ 1; decide }
  refine ⟨_, rfl, s, _, rfl, p9, ?_⟩
  refine ⟨_, rfl, s, _, 9, rfl, S9, by decide, by decide, fun r4 Ha a4 b4 xa Sa => ⟨rfl, .inr ⟨_, rfl, ?_⟩⟩⟩
  obtain ⟨Hb, pb, Sb, xb⟩ := put (k := "talk") (v := .int (if decide (V.int r4 = V.int 8) = true then 1 else 0)) Sa (fun m => p_talk _ m _) rfl { s1 := by show 1 ≤ 1 + r1; omega, s8 := by show 1 + r1 ≤ 8; omega, p0 := a2, p1 := b2, t0 := a3, t1 := b3, k0 := by show (0 : Int) ≤ ite _ _ _; split <;> decide, k1 := by show ite _ _ _ ≤ (1 : Int); split <;> decide }
  refine ⟨_, rfl, s, _, rfl, pb, _, rfl, ?_⟩
  have xx := x4.trans (x5.trans (x6.trans (x7.trans (x8.trans (x9.trans (xa.trans xb))))))
  refine q s _ Hb (fun b o h => ?_) hs0 rfl rfl (xx _ _ nsf.symm hf2) hfl0 Sb
  exact (x03.trans xx) b o (ne_of_none h hs0) h
end
end Sc
namespace Sc
open PySem PyProof.Rows L2
section
variable {P : Program} {w : World} {K : PySem.W.Frag} {mg : Str → Option Value} {base : Heap}
theorem scWord : FnScope ["_law_s", "_law_k", "_law_words", "_law_sign"] ["_law_s", "_law_k"] (defScope sWord) := ⟨rfl, rfl, rfl, by decide +kernel, rfl, by decide +kernel, by decide +kernel⟩
theorem abc_at : ∀ n : Nat, n < 26 → ("abcdefghijklmnopqrstuvwxyz" : Str).cps[n]? = some (97 + n) := by decide +kernel
theorem abc_len : ("abcdefghijklmnopqrstuvwxyz" : Str).length = 26 := by decide +kernel
theorem c_word (T : Tx K mg) : Cal P w K mg base 1 "_law_word" ["_law_s", "_law_k"] (spWord K) := by
  refine T.word.ok scWord (fun vs H Q E h => ?_) (fun f cdv A outer s H vs Q E hr h => ?_)
  · obtain ⟨s, i, k, rfl, _⟩ := h
    rfl
  obtain ⟨s, i, k, rfl, ⟨ns, m, hs, hc, hl, iok, ok⟩, k0, q⟩ := h
  have hu := hu_of hr
  refine ⟨_, pss_cons (ps_if (PW.pt (pw_and (pt_cmpR op_eq (pe_dget hu (pv 0) pe_str (fun _ _ => rfl)) pe_int (nomark _)) (pw_and1 (pt_cmpR op_lt (pv 1) pe_int (nomark _)))))
      (pss_cons (ps_set (i := 2) scWord.nd rfl (Or.inl rfl) (pe_lst (pa_cons pe_str (pa_cons pe_str (pa_cons pe_str (pa_cons pe_str (pa_cons pe_str (pa_cons pe_str (pa_cons pe_str (pa_cons pe_str
          (pa_cons pe_str (pa_cons pe_str (pa_cons pe_str (pa_cons pe_str (pa_cons pe_str (pa_cons pe_str pa_nil))))))))))))))))
      (pss_one (ps_ret (pe_ix ix_list (pe_op op_cat (pv 2) (pe_lst (pa_cons pe_str (pa_cons pe_str (pa_cons pe_str (pa_cons pe_str (pa_cons pe_str pa_nil))))))) (pv 1) (fun _ _ => rfl)))))
      pss_nil)
    (pss_cons (ps_set (i := 3) scWord.nd rfl (Or.inl rfl) (pe_item_str pe_str (pe_op op_mod (pe_op op_add (pv 1) (pe_dget hu (pv 0) pe_str (fun _ _ => rfl))) pe_int) (fun _ _ => rfl)))
    (pss_one (ps_ret (pe_op op_add_str (pe_op op_add_str (pe_op op_reps pe_str (pe_dget hu (pv 0) pe_str (fun _ _ => rfl))) (pv 3))
      (pe_op op_reps pe_str (pe_op op_sub (pe_op op_sub (pe_dget hu (pv 0) pe_str (fun _ _ => rfl)) (pe_dget hu (pv 0) pe_str (fun _ _ => rfl))) pe_int)))))), ?_⟩
  have plain : ¬ (i.talk = 1 ∧ k < 19) → ∀ v2, tSeq (tAsg (tOp (fun x y H Q => ∃ z i c, x = .str z ∧ y = .int i ∧ 0 ≤ i ∧ i < 2 ^ 63 ∧ i < z.length ∧ z.cps[i.toNat]? = some c ∧ Q (.str ⟨#[c]⟩) H) (tC (.str "abcdefghijklmnopqrstuvwxyz"))
      (tOp (rI (fun _ j => 0 < j) fun i j => V.int (i % j)) (tOp (rI0 fun i j => V.int (i + j)) (tVar 1) (tDGet (tVar 0) (tC (.str "turn")))) (tC (.int 26)))) (gName 3))
      (tRet (tOp (fun x y H Q => ∃ i j, x = .str i ∧ y = .str j ∧ i.length + j.length ≤ sizeLine ∧ Q (.str (i ++ j)) H) (tOp (fun x y H Q => ∃ i j, x = .str i ∧ y = .str j ∧ i.length + j.length ≤ sizeLine ∧ Q (.str (i ++ j)) H)
        (tOp rReps (tC (.str "q")) (tDGet (tVar 0) (tC (.str "place")))) (tVar 3)) (tOp rReps (tC (.str "q")) (tOp (rI0 fun i j => V.int (i - j)) (tOp (rI0 fun i j => V.int (i - j)) (tDGet (tVar 0) (tC (.str "size"))) (tDGet (tVar 0) (tC (.str "place")))) (tC (.int 1))))))
      { nx := fun _ H' => Q .non H', rt := Q } [some (.ref s), some (.int k), v2, none] H := fun no v2 => by
    have j0 : 0 ≤ (k + i.turn) % 26 := Int.emod_nonneg _ (by decide)
    have j1 : (k + i.turn) % 26 < 26 := Int.emod_lt_of_pos _ (by decide)
    have ew : wordOf i k = reps 113 i.place.toNat ++ signAt (97 + ((k + i.turn) % 26).toNat) ++ reps 113 (i.size - i.place - 1).toNat := if_neg no
    obtain ⟨s1, s8, p0, p1, t0, t1, _, _⟩ := iok
    refine ⟨_, rfl, _, rfl, s, _, rfl, gS hs rfl, _, _, rfl, rfl, _, _, rfl, rfl, (by show (0 : Int) < 26; decide), _, _, _, rfl, rfl, j0, by omega, by rw [abc_len]; exact j1, abc_at _ (by omega), ?_⟩
    refine ⟨_, rfl, s, _, rfl, gS hs rfl, 113, _, rfl, rfl, p0, by omega, _, rfl, _, _, rfl, rfl, ?_, _, rfl, s, _, rfl, gS hs rfl, _, rfl, s, _, rfl, gS hs rfl, _, _, rfl, rfl, _, _, rfl, rfl, 113, _, rfl, rfl, by omega, by omega, _, _, rfl, rfl, ?_, ?_⟩
    · rw [len_list, len_list, reps_list, List.length_replicate]
      show _ + 1 ≤ sizeLine
      rw [sizeLine_eq]; omega
    · rw [len_list, len_list, app_list, reps_list, reps_list, List.length_append, List.length_replicate, List.length_replicate]
      show _ + 1 + _ ≤ sizeLine
      rw [sizeLine_eq]; omega
    · have z := q H (Same.refl H)
      rw [ew] at z
      exact z
  refine ⟨_, rfl, s, _, rfl, gS hs rfl, rfl, _, rfl, ite2 (fun c1 => ?_) (fun c1 => ?_)⟩
  · refine ⟨_, rfl, _, _, rfl, rfl, _, rfl, ite2 (fun c2 => ?_) (fun c2 => plain (fun z => c2 (decide_eq_true z.2)) none)⟩
    have c1' : i.talk = 1 := by
      have z := of_decide_eq_true c1
      injection z
    have c2' : k < 19 := of_decide_eq_true c2
    refine ⟨(by show 14 ≤ sizeLine; decide), fun p hp => ⟨_, rfl, (by show 5 ≤ sizeLine; decide), fun p2 hp2 => ?_⟩⟩
    refine ⟨p, p2, _, _, rfl, rfl, by rw [upd_ne (ne_of_none upd_same hp2)]; exact upd_same, upd_same, (by show 14 + 5 ≤ sizeLine; decide), fun p3 hp3 => ⟨_, rfl, p3, talks.map V.str, k, .str (wordOf i k), rfl, rfl, SqL.of upd_same, ?_, ?_⟩⟩
    · have lt : k.toNat < talks.length := by show k.toNat < 19; omega
      have e : wordOf i k = talks[k.toNat] := by
        unfold wordOf
        rw [if_pos ⟨c1', c2'⟩, List.getD_eq_getElem?_getD, List.getElem?_eq_getElem lt]
        rfl
      rw [e]
      exact at_of (j := k.toNat) (by omega) (by rw [List.getElem?_map, List.getElem?_eq_getElem lt]; rfl)
    · exact q _ (((same_new hp _).trans (same_new hp2 _)).trans (same_new hp3 _))
  · refine plain (fun z => c1 (decide_eq_true ?_)) none
    show V.int i.talk = V.int 1
    rw [z.1]
end
end Sc
namespace Sc
open PySem PyProof.Rows L2
section
variable {P : Program} {w : World} {K : PySem.W.Frag} {mg : Str → Option Value} {base : Heap}
theorem scKind : FnScope ["_law_s", "_law_deep", "_law_letters", "_law_k"] ["_law_s", "_law_deep", "_law_letters"] (defScope sKind) := ⟨rfl, rfl, rfl, by decide +kernel, rfl, by decide +kernel, by decide +kernel⟩
theorem c_kind {n lv : Nat} (T : Tx K mg) (lv1 : 1 ≤ lv) (CC : Cal P w K mg base lv "_law_choice" ["_law_s", "_law_deep", "_law_letters"] (spChoice K n)) : Cal P w K mg base (lv + 1) "_law_kind" ["_law_s", "_law_deep", "_law_letters"] (spKind K n) := by
  have CT : Cal P w K mg base 1 "_law_taken" ["_law_s", "_law_most"] (spTaken K) := c_taken T
  refine T.kind.ok scKind (fun vs H Q E h => ?_) (fun f cdv A outer s H vs Q E hr h => ?_)
  · obtain ⟨s, l, i, d, ls, rfl, _⟩ := h
    rfl
  obtain ⟨s, l, i, d, ls, rfl, S, dn, hl, hls, q⟩ := h
  have hr1 : Room 1 _ := hr.mono lv1
  refine ⟨_, pss_one (ps_ret (pe_callTy call_tuple_of (by rfl) T.m_tuple (by decide +kernel) (pa_cons
      (pe_lc (own := [("_law_k", 3)]) (g := gName 3) (tt := tYes) rfl scKind.nd (pi_range1 rfl T.m_range (pa_cons (pe_op op_add pe_int (pe_cal CT hr1 (pa_cons (pv 0) (pa_cons pe_int pa_nil)))) pa_nil))
        (blkOk_by (N := ["_law_s", "_law_deep", "_law_letters", "_law_k"]) (sc := defScope sKind) (by decide +kernel))
        (fun _ _ _ _ _ => pg_name (i := 3) scKind.nd rfl (Or.inl rfl)) (fun _ _ _ _ _ => pts_nil)
        (fun _ _ _ _ _ => pe_cal CC hr (pa_cons (pv 0) (pa_cons (pv 1) (pa_cons (pv 2) pa_nil))))) pa_nil))), ?_⟩
  refine ⟨_, rfl, s, i, 3, rfl, S, by decide, by decide, fun r H1 r0 r3 x1 S1 => ⟨_, _, rfl, rfl, _, rfl, by omega, by omega, fun D hD => ?_⟩⟩
  have nds : D ≠ s := S1.ne hD
  have hl1 : SqL K H1 l (ls.map V.str) := S.seq x1 hl
  refine lc_range (lo := 0) (n := (1 + r).toNat) (fun j H2 => Ext s H1 H2 ∧ IsS K H2 s i ∧ ∃ vs k, H2 D = some (.lst vs) ∧ Dts K H2 vs (pyL k) ∧ okL ls d k ∧ k.length = j)
    ⟨Ext.new _ hD, S1.same (same_new hD _), [], [], upd_same, .nil, trivial, rfl⟩ ?_ ?_
  · rintro j H2 hj ⟨x2, S2, us, k, hd, dp, okk, lk⟩
    refine ⟨rfl, _, rfl, _, rfl, _, rfl, s, l, i, d, ls, rfl, S2, dn, S1.seq x2 hl1, hls, fun v H3 c x3 S3 dv oc => ⟨us, x3 _ _ nds hd, ?_, ?_⟩⟩
    · rw [dp.1, pyL_map, List.length_map]
      exact small1000 (by omega)
    · have x4 : Ext s H1 (upd H3 D (.lst (us ++ [v]))) := (x2.trans x3).over hD _
      have k4 : Keep K H3 (upd H3 D (.lst (us ++ [v]))) := Keep.upd (x3 _ _ nds hd) trivial _
      refine ⟨x4, S1.over S3 x4 nds, us ++ [v], k ++ [c], upd_same, ?_, okL_snoc oc okk, by rw [List.length_append, lk]; rfl⟩
      rw [pyL_map, List.map_append, ← pyL_map]
      exact (k4.dts ((S2.keep x3).dts dp)).snoc (k4.dt dv)
  · rintro H2 ⟨x2, S2, us, k, hd, dp, okk, lk⟩
    refine ⟨D, us, rfl, .inl ⟨SqL.of hd, fun t ht => ?_⟩⟩
    refine q _ _ k (x1.trans (x2.trans (Ext.new _ ht))) (S2.same (same_new ht _)) (((Same.keep (same_new ht _)).dts dp).tup (SqT.of upd_same)) ?_ ?_ okk
    · intro z
      rw [z] at lk
      have : 0 = (1 + r).toNat := lk
      omega
    · omega
end
end Sc
namespace Sc
open PySem PyProof.Rows L2
section
variable {P : Program} {w : World} {K : PySem.W.Frag} {mg : Str → Option Value} {base : Heap}
theorem scChoice : FnScope ["_law_s", "_law_deep", "_law_letters", "_law_way"] ["_law_s", "_law_deep", "_law_letters"] (defScope sChoice) := ⟨rfl, rfl, rfl, by decide +kernel, rfl, by decide +kernel, by decide +kernel⟩
theorem c_choice {n lv : Nat} (T : Tx K mg) (lv1 : 1 ≤ lv) (CK : Cal P w K mg base lv "_law_kind" ["_law_s", "_law_deep", "_law_letters"] (spKind K n)) (CF : Cal P w K mg base lv "_law_fields" ["_law_s", "_law_deep", "_law_letters"] (spFields K n)) :
    Cal P w K mg base (lv + 1) "_law_choice" ["_law_s", "_law_deep", "_law_letters"] (spChoice K (n + 1)) := by
  have CT : Cal P w K mg base 1 "_law_taken" ["_law_s", "_law_most"] (spTaken K) := c_taken T
  refine T.choice.ok scChoice (fun vs H Q E h => ?_) (fun f cdv A outer s H vs Q E hr h => ?_)
  · obtain ⟨s, l, i, d, ls, rfl, _⟩ := h
    rfl
  obtain ⟨s, l, i, d, ls, rfl, S, dn, hl, hls, q⟩ := h
  have hr1 : Room 1 _ := hr.mono lv1
  refine ⟨_, pss_cons (ps_set (i := 3) scChoice.nd rfl (Or.inl rfl) (pe_cal CT hr1 (pa_cons (pv 0) (pa_cons pe_int pa_nil))))
    (pss_cons (ps_if (PW.pt (pw_and (pt_cmpR op_eq (pv 3) pe_int (nomark _)) (pw_and1 (pt_cmpR op_gt (pe_callB call_len_seq (by rfl) T.m_len PySem.boot_len (pa_cons (pv 2) pa_nil)) pe_int (nomark _)))))
      (pss_one (ps_ret (pe_tup (pa_cons pe_str (pa_cons (pe_ix ix_list (pv 2) (pe_cal CT hr1 (pa_cons (pv 0) (pa_cons (pe_callB call_len_seq (by rfl) T.m_len PySem.boot_len (pa_cons (pv 2) pa_nil)) pa_nil))) (fun _ _ => rfl)) pa_nil))))) pss_nil)
    (pss_cons (ps_if (PW.pt (pw_and (pt_cmpR op_gt (pv 1) pe_int (nomark _)) (pw_and1 (pt_chain op_le op_le pe_int (pv 3) pe_int))))
      (pss_one (ps_ret (pe_tup (pa_cons (pe_ix ix_list (pe_lst (pa_cons pe_str (pa_cons pe_str pa_nil))) (pe_op op_sub (pv 3) pe_int) (fun _ _ => rfl)) (pa_cons (pe_cal CK hr (pa_cons (pv 0) (pa_cons (pe_op op_sub (pv 1) pe_int) (pa_cons (pv 2) pa_nil)))) pa_nil))))) pss_nil)
    (pss_cons (ps_if (PW.pt (pw_and (pt_cmpR op_gt (pv 1) pe_int (nomark _)) (pw_and1 (pt_cmpR op_ge (pv 3) pe_int (nomark _)))))
      (pss_one (ps_ret (pe_tup (pa_cons pe_str (pa_cons (pe_cal CF hr (pa_cons (pv 0) (pa_cons (pv 1) (pa_cons (pv 2) pa_nil)))) pa_nil))))) pss_nil)
    (pss_one (ps_ret (pe_ix ix_list (pe_lst (pa_cons (pe_tup (pa_cons pe_str pa_nil)) (pa_cons (pe_tup (pa_cons pe_str pa_nil)) pa_nil))) (pe_op op_mod (pv 3) pe_int) (fun _ _ => rfl))))))), ?_⟩
  refine ⟨_, rfl, s, i, 7, rfl, S, by decide, by decide, fun r H1 r0 r7 x1 S1 => ?_⟩
  have hl1 : SqL K H1 l (ls.map V.str) := S.seq x1 hl
  -- the last row
  have last : tRet (tOp (rIxL K) (tLst (tCons (tTup (tCons (tC (.str "number")) tNil)) (tCons (tTup (tCons (tC (.str "text")) tNil)) tNil))) (tOp (rI (fun _ j => 0 < j) fun i j => V.int (i % j)) (tVar 3) (tC (.int 2))))
      { nx := fun _ H' => Q .non H', rt := Q } [some (.ref s), some (.int d), some (.ref l), some (.int r)] H1 := by
    refine ⟨(by show 1 ≤ sizeLine; decide), fun p1 hp1 => ⟨(by show 1 ≤ sizeLine; decide), fun p2 hp2 => ⟨(by show 2 ≤ sizeLine; decide), fun p3 hp3 => ?_⟩⟩⟩
    have e1 := same_new hp1 (.tup [.str "number"])
    have e2 := same_new hp2 (.tup [.str "text"])
    have e3 := same_new hp3 (.lst [.ref p1, .ref p2])
    have g1 := e3 _ _ (e2 _ _ (upd_same (H := H1) (a := p1) (o := .tup [.str "number"])))
    have g2 := e3 _ _ (upd_same (a := p2) (o := .tup [.str "text"]) (H := upd H1 p1 (.tup [.str "number"])))
    have ee := e1.trans (e2.trans e3)
    have h01 : r % 2 = 0 ∨ r % 2 = 1 := by omega
    refine ⟨_, rfl, _, _, rfl, rfl, (by show (0 : Int) < 2; decide), p3, [.ref p1, .ref p2], r % 2, (if r % 2 = 0 then .ref p1 else .ref p2), rfl, rfl, SqL.of upd_same, ?_, ?_⟩
    · rcases h01 with h | h <;> rw [h] <;> rfl
    · rcases h01 with h | h <;> rw [h]
      · exact q _ _ .num (x1.trans (Ext.same ee)) (S1.same ee) ((Dts.nil.cons (.str _)).tup (SqT.of g1)) trivial
      · exact q _ _ .txt (x1.trans (Ext.same ee)) (S1.same ee) ((Dts.nil.cons (.str _)).tup (SqT.of g2)) trivial
  have hd1 : ∀ {k : Nat}, d = k + 1 → k < n := fun h => by omega
  dsimp only [tNext, gName]
  show tAnd _ _ _ _ _
  refine and_pure (decide (V.int r = V.int 6)) (decide ((((ls.map V.str).length : Nat) : Int) > 0)) (fun R h => ⟨_, rfl, rfl, _, rfl, h⟩) (fun _ R h => ⟨_, rfl, l, _, rfl, .inl hl1, _, _, rfl, rfl, _, rfl, h⟩) (fun c1 c2 => iteT ?_) (fun _ => iteF ?_)
  · have c2' : 0 < (ls.length : Int) := by
      have z := of_decide_eq_true c2
      rw [List.length_map] at z
      exact z
    refine ⟨_, rfl, _, rfl, _, rfl, l, _, rfl, .inl hl1, s, i, ls.length, by simp, S1, c2', ?_, fun r2 H2 a2 b2 x2 S2 => ?_⟩
    · exact Nat.lt_of_le_of_lt (show (ls.length : Int).natAbs ≤ 1000 by omega) (by decide)
    have lt : r2.toNat < ls.length := by omega
    refine ⟨l, ls.map V.str, r2, .str ls[r2.toNat], rfl, rfl, S1.seq x2 hl1, at_of (j := r2.toNat) (by omega) (by rw [List.getElem?_map, List.getElem?_eq_getElem lt]; rfl), (by show 2 ≤ sizeLine; decide), fun t ht => ?_⟩
    exact q _ _ (.letter ls[r2.toNat]) (x1.trans (x2.trans (Ext.new _ ht))) (S2.same (same_new ht _)) (((Dts.nil.cons (.str _)).cons (.str _)).tup (SqT.of upd_same)) (List.getElem_mem lt)
  dsimp only [tNext, gName]
  show tAnd _ _ _ _ _
  refine and_pure (decide ((d : Int) > 0)) (decide (2 ≤ r) && decide (r ≤ 3)) (fun R h => ⟨_, rfl, _, _, rfl, rfl, _, rfl, h⟩) (fun _ R h => ⟨_, rfl, _, _, rfl, rfl, _, rfl, ?_⟩) (fun c1 c2 => iteT ?_) (fun _ => iteF ?_)
  · by_cases a : 2 ≤ r
    · rw [decide_eq_true a] at h ⊢
      exact iteT ⟨_, _, rfl, rfl, _, rfl, h⟩
    · rw [decide_eq_false a] at h ⊢
      exact iteF ⟨_, rfl, h⟩
  · have c1' : (d : Int) > 0 := of_decide_eq_true c1
    rw [Bool.and_eq_true, decide_eq_true_eq, decide_eq_true_eq] at c2
    obtain ⟨k, rfl⟩ : ∃ k : Nat, d = k + 1 := ⟨d - 1, by omega⟩
    have r23 : r = 2 ∨ r = 3 := by omega
    refine ⟨(by show 2 ≤ sizeLine; decide), fun p hp => ⟨_, rfl, _, _, rfl, rfl, p, [.str "row", .str "book"], r - 2, .str (if r = 2 then "row" else "book"), rfl, rfl, SqL.of upd_same, ?_, _, rfl, _, rfl, _, _, rfl, rfl, _, rfl, s, l, i, k, ls, ?_, S1.same (same_new hp _), hd1 rfl, Same.seq (same_new hp _) hl1, hls,
      fun v H2 kk x2 S2 dv k0 k3 ok => ⟨(by show 2 ≤ sizeLine; decide), fun t ht => ?_⟩⟩⟩
    · rcases r23 with h | h <;> rw [h] <;> rfl
    · show ([.ref s, .int (((k + 1 : Nat) : Int) - 1), .ref l] : List V) = _
      rw [show ((k + 1 : Nat) : Int) - 1 = (k : Int) by omega]
    · have ex : Ext s H (upd H2 t (.tup [.str (if r = 2 then "row" else "book"), v])) := x1.trans ((Ext.same (same_new hp _)).trans (x2.trans (Ext.new _ ht)))
      have dt : Dt K (upd H2 t (.tup [.str (if r = 2 then "row" else "book"), v])) (.ref t) (.tuple [.str (if r = 2 then "row" else "book"), .tuple (pyL kk)]) := ((Dts.nil.cons ((Same.keep (same_new ht _)).dt dv)).cons (.str _)).tup (SqT.of upd_same)
      have S3 := S2.same (same_new ht (.tup [.str (if r = 2 then "row" else "book"), v]))
      rcases r23 with h | h
      · rw [if_pos h] at ex dt S3 ⊢
        exact q _ _ (.row kk) ex S3 dt ⟨Nat.succ_pos _, k0, k3, ok⟩
      · rw [if_neg (by omega)] at ex dt S3 ⊢
        exact q _ _ (.book kk) ex S3 dt ⟨Nat.succ_pos _, k0, k3, ok⟩
  dsimp only [tNext, gName]
  show tAnd _ _ _ _ _
  refine and_pure (decide ((d : Int) > 0)) (decide (r ≥ 4)) (fun R h => ⟨_, rfl, _, _, rfl, rfl, _, rfl, h⟩) (fun _ R h => ⟨_, rfl, _, _, rfl, rfl, _, rfl, h⟩) (fun c1 c2 => iteT ?_) (fun _ => iteF last)
  have c1' : (d : Int) > 0 := of_decide_eq_true c1
  obtain ⟨k, rfl⟩ : ∃ k : Nat, d = k + 1 := ⟨d - 1, by omega⟩
  refine ⟨_, rfl, _, rfl, _, rfl, s, l, i, k, ls, rfl, S1, hd1 rfl, hl1, hls, fun v H2 fs x2 S2 dv f2 fld ok => ⟨(by show 2 ≤ sizeLine; decide), fun t ht => ?_⟩⟩
  exact q _ _ (.shape fs) (x1.trans (x2.trans (Ext.new _ ht))) (S2.same (same_new ht _)) (((Dts.nil.cons ((Same.keep (same_new ht _)).dt dv)).cons (.str _)).tup (SqT.of upd_same)) ⟨Nat.succ_pos _, f2, fld, ok⟩
end
end Sc
namespace Sc
open PySem PyProof.Rows L2
section
variable {P : Program} {w : World} {K : PySem.W.Frag} {mg : Str → Option Value} {base : Heap}
theorem scFields : FnScope ["_law_s", "_law_deep", "_law_letters", "_law_words", "_law_k", "_law_word_here"] ["_law_s", "_law_deep", "_law_letters"] (defScope sFields) := ⟨rfl, rfl, rfl, by decide +kernel, rfl, by decide +kernel, by decide +kernel⟩
theorem c_fields {n lv : Nat} (T : Tx K mg) (lv1 : 1 ≤ lv) (CK : Cal P w K mg base lv "_law_kind" ["_law_s", "_law_deep", "_law_letters"] (spKind K n)) :
    Cal P w K mg base (lv + 1) "_law_fields" ["_law_s", "_law_deep", "_law_letters"] (spFields K n) := by
  have CT : Cal P w K mg base 1 "_law_taken" ["_law_s", "_law_most"] (spTaken K) := c_taken T
  have CW : Cal P w K mg base 1 "_law_word" ["_law_s", "_law_k"] (spWord K) := c_word T
  refine T.fields.ok scFields (fun vs H Q E h => ?_) (fun f cdv A outer s H vs Q E hr h => ?_)
  · obtain ⟨s, l, i, d, ls, rfl, _⟩ := h
    rfl
  obtain ⟨s, l, i, d, ls, rfl, S, dn, hl, hls, q⟩ := h
  have hr1 : Room 1 _ := hr.mono lv1
  refine ⟨_, pss_cons (ps_set (i := 3) scFields.nd rfl (Or.inl rfl) (pe_callB (cr_txSorted rfl) (by rfl) T.m_sorted (by decide +kernel) (pa_cons (pe_callTy (cr_txSet rfl) (by rfl) T.m_set (by decide +kernel) (pa_cons
        (pe_lc (own := [("_law_k", 4)]) (g := gName 4) (tt := tYes) rfl scFields.nd (pi_range1 rfl T.m_range (pa_cons (pe_op op_add pe_int (pe_cal CT hr1 (pa_cons (pv 0) (pa_cons pe_int pa_nil)))) pa_nil))
        (blkOk_by (N := ["_law_s", "_law_deep", "_law_letters", "_law_words", "_law_k", "_law_word_here"]) (sc := defScope sFields) (by decide +kernel))
        (fun _ _ _ _ _ => pg_name (i := 4) scFields.nd rfl (Or.inl rfl)) (fun _ _ _ _ _ => pts_nil)
        (fun _ _ _ _ _ => pe_cal CW hr1 (pa_cons (pv 0) (pa_cons (pe_cal CT hr1 (pa_cons (pv 0) (pa_cons pe_int pa_nil))) pa_nil)))) pa_nil)) pa_nil)))
    (pss_one (ps_ret (pe_callTy call_tuple_of (by rfl) T.m_tuple (by decide +kernel) (pa_cons
      (pe_lc (own := [("_law_word_here", 5)]) (g := gName 5) (tt := tYes) rfl scFields.nd (pi_list (pv 3))
        (blkOk_by (N := ["_law_s", "_law_deep", "_law_letters", "_law_words", "_law_k", "_law_word_here"]) (sc := defScope sFields) (by decide +kernel))
        (fun _ _ _ _ _ => pg_name (i := 5) scFields.nd rfl (Or.inl rfl)) (fun _ _ _ _ _ => pts_nil)
        (fun _ _ _ _ _ => pe_tup (pa_cons (pv 5) (pa_cons (pe_cal CK hr (pa_cons (pv 0) (pa_cons (pe_op op_sub (pv 1) pe_int) (pa_cons (pv 2) pa_nil)))) pa_nil)))) pa_nil)))), ?_⟩
  refine ⟨_, rfl, s, i, 2, rfl, S, by decide, by decide, fun r H1 r0 r2 x1 S1 => ⟨_, _, rfl, rfl, _, rfl, by omega, by omega, fun D hD => ?_⟩⟩
  have nds : D ≠ s := S1.ne hD
  refine lc_range (lo := 0) (n := (1 + r).toNat) (fun j H2 => Ext s H1 H2 ∧ IsS K H2 s i ∧ ∃ zs : List Str, H2 D = some (.lst (zs.map V.str)) ∧ (∀ z ∈ zs, Word z) ∧ zs.length = j)
    ⟨Ext.new _ hD, S1.same (same_new hD _), [], upd_same, (fun z hz => by cases hz), rfl⟩ ?_ ?_
  · rintro j H2 hj ⟨x2, S2, zs, hd, wd, lz⟩
    refine ⟨rfl, _, rfl, _, rfl, s, i, 3, rfl, S2, by decide, by decide, fun k H3 k0 k3 x3 S3 => ⟨s, i, k, rfl, S3, k0, fun H4 e4 => ⟨zs.map V.str, e4 _ _ (x3 _ _ nds hd), ?_, ?_⟩⟩⟩
    · rw [List.length_map]
      exact small1000 (by omega)
    · have x5 : Ext s H1 (upd H4 D (.lst (zs.map V.str ++ [.str (wordOf i k)]))) := ((x2.trans x3).trans (Ext.same e4)).over hD _
      obtain ⟨_, _, _, _, _, iok, _⟩ := id S1
      refine ⟨x5, S1.over (S3.same e4) x5 nds, zs ++ [wordOf i k], by rw [upd_same, List.map_append]; rfl, fun z hz => ?_, by rw [List.length_append, lz]; rfl⟩
      rcases List.mem_append.mp hz with h | h
      · exact wd z h
      · rw [List.mem_singleton.mp h]
        exact word_of iok k0
  rintro H2 ⟨x2, S2, zs, hd, wd, lz⟩
  have lz' : zs.length = (1 + r).toNat := lz
  refine ⟨D, zs, rfl, SqL.of hd, by omega, fun a m ha hm => ⟨a, _, m, rfl, upd_same, by omega, fun ys p so nd mem len hp => ?_⟩⟩
  generalize TxO _ a (fun y => decide (y ∈ zs)) m = o3 at hp ⊢
  have e3 := (same_new ha o3).trans (same_new hp (.lst (ys.map V.str)))
  have hp3 : (upd (upd H2 a o3) p (.lst (ys.map V.str))) p = _ := upd_same
  have x3 := x1.trans (x2.trans (Ext.same e3))
  have S3 := S2.same e3
  have wy : ∀ y ∈ ys, Word y := fun y hy => wd y (of_decide_eq_true ((mem y).mp hy))
  have y0 : ys ≠ [] := fun z => by
    cases zs with
    | nil => 
      have : 0 = (1 + r).toNat := lz'
      omega
    | cons z0 zs =>
      have h := (mem z0).mpr (decide_eq_true List.mem_cons_self)
      rw [z] at h
      cases h
  have y2 : ys.length ≤ 2 := by omega
  generalize (upd (upd H2 a o3) p (.lst (ys.map V.str))) = H3 at hp3 x3 S3 ⊢
  have hl3 : SqL K H3 l (ls.map V.str) := S.seq x3 hl
  refine ⟨_, rfl, p, rfl, ⟨_, SqL.of hp3⟩, fun F hF => ?_⟩
  have nfs : F ≠ s := S3.ne hF
  refine lc_list (K := K) (a := p) (xs := ys.map V.str) (fun j H4 => Ext s H3 H4 ∧ IsS K H4 s i ∧ ∃ vs fs, H4 F = some (.lst vs) ∧ Dts K H4 vs (pyF fs) ∧ okF ls d fs ∧ fs.map (·.1) = ys.take j)
    ⟨Ext.new _ hF, S3.same (same_new hF _), [], [], upd_same, .nil, trivial, rfl⟩ (fun j H4 _ h => S3.seq h.1 (SqL.of hp3)) ?_ ?_
  · rintro j x H4 hx ⟨x4, S4, us, fs, hf, dts, okf, efs⟩
    rw [List.getElem?_map] at hx
    obtain ⟨z, hz, rfl⟩ := Option.map_eq_some_iff.mp hx
    have hlen : fs.length ≤ 2 := by
      have e := congrArg List.length efs
      rw [List.length_map, List.length_take] at e
      omega
    refine ⟨rfl, _, rfl, _, rfl, _, rfl, _, _, rfl, rfl, _, rfl, s, l, i, d, ls, ?_, S4, dn, S3.seq x4 hl3, hls, fun v H5 kk x5 S5 dv k0 k3 ok => ⟨(by show 2 ≤ sizeLine; decide), fun t ht => ⟨us, (same_new ht _) _ _ (x5 _ _ nfs hf), ?_, ?_⟩⟩⟩
    · show ([.ref s, .int (((d + 1 : Nat) : Int) - 1), .ref l] : List V) = _
      rw [show ((d + 1 : Nat) : Int) - 1 = (d : Int) by omega]
    · rw [dts.1, pyF_map, List.length_map]
      exact small1000 (by omega)
    · have e6 := same_new ht (.tup [.str z, v])
      have x7 : Ext s H3 (upd (upd H5 t (.tup [.str z, v])) F (.lst (us ++ [.ref t]))) := ((x4.trans x5).trans (Ext.same e6)).over hF _
      have k7 : Keep K (upd H5 t (.tup [.str z, v])) (upd (upd H5 t (.tup [.str z, v])) F (.lst (us ++ [.ref t]))) := Keep.upd (e6 _ _ (x5 _ _ nfs hf)) trivial _
      refine ⟨x7, S3.over (S5.same e6) x7 nfs, us ++ [.ref t], fs ++ [(z, kk)], upd_same, ?_, okF_snoc (wy z (List.mem_of_getElem? hz)) k0 k3 ok okf, ?_⟩
      · rw [pyF_map, List.map_append, ← pyF_map]
        refine (k7.dts ((Same.keep e6).dts ((S4.keep x5).dts dts))).snoc (k7.dt ?_)
        exact ((Dts.nil.cons ((Same.keep e6).dt dv)).cons (.str _)).tup (SqT.of upd_same)
      · rw [List.map_append, efs, List.take_add_one, hz]
        rfl
  rintro H4 ⟨x4, S4, us, fs, hf, dts, okf, efs⟩
  rw [List.length_map, List.take_length] at efs
  refine ⟨F, us, rfl, .inl ⟨SqL.of hf, fun t ht => ?_⟩⟩
  have e5 := same_new ht (.tup us)
  have fl2 : fs.length ≤ 2 := by
    have e := congrArg List.length efs
    rw [List.length_map] at e
    omega
  refine q _ _ fs (x3.trans (x4.trans (Ext.same e5))) (S4.same e5) (((Same.keep e5).dts dts).tup (SqT.of upd_same)) fl2 ?_ okf
  rw [efs]
  exact ⟨y0, by omega, nd, so, wy⟩
end
end Sc
namespace Sc
open PySem PyProof.Rows L2
section
variable {P : Program} {w : World} {K : PySem.W.Frag} {mg : Str → Option Value} {base : Heap}
theorem scShownKind : FnScope ["kind", "choice"] ["kind"] (defScope sShownKind) := ⟨rfl, rfl, rfl, by decide +kernel, rfl, by decide +kernel, by decide +kernel⟩
theorem c_shown_kind {n lv : Nat} (T : Tx K mg) (CC : Cal P w K mg base lv "shown_choice" ["choice"] (spTellC K n)) : Cal P w K mg base (lv + 1) "shown_kind" ["kind"] (spTellK K n) := by
  refine T.shown_kind.ok scShownKind (fun vs H Q E h => ?_) (fun f cdv A outer s H vs Q E hr h => ?_)
  · obtain ⟨v, k, rfl, _⟩ := h
    rfl
  obtain ⟨v, k, rfl, hk, dk, lk, q⟩ := h
  refine ⟨_, pss_one (ps_ret (pe_join pe_str (pe_lc (own := [("choice", 1)]) (g := gName 1) (tt := tYes) rfl scShownKind.nd (pi_tup (pv 0)) (blkOk_by (N := ["kind", "choice"]) (sc := defScope sShownKind) (by decide +kernel))
        (fun _ _ _ _ _ => pg_name (i := 1) scShownKind.nd rfl (Or.inl rfl)) (fun _ _ _ _ _ => pts_nil) (fun _ _ _ _ _ => pe_cal CC hr (pa_cons (pv 1) pa_nil))))), ?_⟩
  obtain ⟨a, vs, rfl, ht, hd⟩ := hk.open
  unfold txK at lk
  rw [tx_len] at lk
  refine ⟨⟨_, rfl⟩, _, rfl, a, rfl, ⟨_, ht⟩, fun D hD => ?_⟩
  refine lc_tup (K := K) (a := a) (xs := vs) (fun j H2 => Same H H2 ∧ H2 D = some (.lst (((k.take j).map txC).map V.str))) ⟨same_new hD _, upd_same⟩ (fun j H2 _ h => (Same.keep h.1) _ _ ht) ?_ ?_
  · rintro j x H2 hx ⟨e2, h2⟩
    obtain ⟨d, hd1, hd2⟩ := hd.at hx
    rw [pyL_map, List.getElem?_map] at hd1
    obtain ⟨c, hc, rfl⟩ := Option.map_eq_some_iff.mp hd1
    have mc := List.mem_of_getElem? hc
    refine ⟨rfl, _, rfl, x, c, rfl, (Same.keep e2).dt hd2, Nat.lt_of_le_of_lt (dL_mem mc) dk, ?_, fun H3 e3 => ⟨_, e3 _ _ h2, ?_, fun b o hb => ?_, ?_⟩⟩
    · rw [txC, tx_len]
      exact Nat.le_trans (joinL_mem bar (by rw [cL_map]; exact List.mem_map_of_mem mc)) lk
    · rw [List.length_map, List.length_map]
      refine Nat.lt_of_le_of_lt (Nat.le_trans (List.length_take_le' _ _) (Nat.le_trans (Nat.le_of_eq (by rw [cL_map, List.length_map])) (joinL_many bar (by decide) (cL k)))) ?_
      rw [sizeLine_eq]
      omega
    · rw [upd_ne (ne_of_none hb hD)]
      exact e3 _ _ (e2 b o hb)
    · rw [upd_same, List.take_add_one, hc, List.map_append, List.map_append]
      rfl
  rintro H2 ⟨e2, h2⟩
  rw [List.take_of_length_le (by rw [hd.1, pyL_map, List.length_map]; exact Nat.le_refl _)] at h2
  refine ⟨" | ", D, k.map txC, rfl, rfl, .inl (SqL.of h2), ?_, ?_⟩
  · have e : (k.map txC).map TL.tl = cL k := by rw [List.map_map, cL_map]; rfl
    have := join_room (y := " | ") (zs := k.map txC) (n := 1000000) (by rw [e]; exact lk)
    refine Nat.le_trans this ?_
    decide
  · show Q (.str (Txt.join " | " (k.map txC))) H2
    rw [txK_join]
    exact q _ e2
theorem scShownChoice : FnScope ["choice", "word", "fields", "field", "inner"] ["choice"] (defScope sShownChoice) := ⟨rfl, rfl, rfl, by decide +kernel, rfl, by decide +kernel, by decide +kernel⟩
theorem c_shown_choice {n lv : Nat} (T : Tx K mg) (CK : Cal P w K mg base lv "shown_kind" ["kind"] (spTellK K n)) : Cal P w K mg base (lv + 1) "shown_choice" ["choice"] (spTellC K (n + 1)) := by
  refine T.shown_choice.ok scShownChoice (fun vs H Q E h => ?_) (fun f cdv A outer s H vs Q E hr h => ?_)
  · obtain ⟨v, c, rfl, _⟩ := h
    rfl
  obtain ⟨v, c, rfl, hc, dc, lc, q⟩ := h
  refine ⟨_, pss_cons (ps_set (i := 1) scShownChoice.nd rfl (Or.inl rfl) (pe_ix ix_tup (pv 0) pe_int (fun _ _ => rfl)))
    (pss_cons (ps_if (pt_cmpR op_in_seq (pv 1) (pe_tup (pa_cons pe_str (pa_cons pe_str pa_nil))) (by rfl))
      (pss_one (ps_ret (pe_fs (.cons (pe_fmt (pv 1)) (.cons pe_str (.cons (pe_fmt (pe_cal CK hr (pa_cons (pe_ix ix_tup (pv 0) pe_int (fun _ _ => rfl)) pa_nil))) (.cons pe_str .nil))))))) pss_nil)
    (pss_cons (ps_if (pt_cmpR op_eq (pv 1) pe_str (nomark _))
      (pss_cons (ps_setLc (i := 2) (own := [("field", 3), ("inner", 4)]) (g := gTup K 2 (gCons (gName 3) (gCons (gName 4) gNil))) (tt := tYes) rfl scShownChoice.nd rfl rfl (sw_true rfl rfl rfl (by decide +kernel)) (pi_tup (pe_ix ix_tup (pv 0) pe_int (fun _ _ => rfl)))
          (blkOk_by (N := ["choice", "word", "fields", "field", "inner"]) (sc := defScope sShownChoice) (by decide +kernel))
          (fun _ _ _ _ _ => pg_tup (by rfl) (pgs_cons (pg_name (i := 3) scShownChoice.nd rfl (Or.inl rfl)) (pgs_cons (pg_name (i := 4) scShownChoice.nd rfl (Or.inl rfl)) pgs_nil))) (fun _ _ _ _ _ => pts_nil)
          (fun _ _ _ _ _ => pe_fs (.cons (pe_fmt (pv 3)) (.cons pe_str (.cons (pe_fmt (pe_cal CK hr (pa_cons (pv 4) pa_nil))) .nil)))))
        (pss_one (ps_ret (pe_op op_add_str (pe_op op_add_str pe_str (pe_join pe_str (pv 2))) pe_str)))) pss_nil)
    (pss_cons (ps_if (pt_cmpR op_eq (pv 1) pe_str (nomark _)) (pss_one (ps_ret (pe_ix ix_tup (pv 0) pe_int (fun _ _ => rfl)))) pss_nil)
    (pss_cons (ps_if (pt_cmpR op_eq (pv 1) pe_str (nomark _))
      (pss_one (ps_ret (pe_op op_add_str (pe_op op_add_str (pe_op op_add_str (pe_ix ix_tup (pv 0) pe_int (fun _ _ => rfl)) pe_str) (pe_join pe_str (pe_ix ix_tup (pv 0) pe_int (fun _ _ => rfl)))) pe_str))) pss_nil)
    (pss_one (ps_ret (pe_join pe_str (pv 0)))))))), ?_⟩
  obtain ⟨a, us, rfl, ht0, hd0⟩ := hc.lead
  refine ⟨_, rfl, a, _, _, _, rfl, rfl, ht0, at_of (j := 0) rfl rfl, _, rfl, (by show 2 ≤ sizeLine; decide), fun t hp => ⟨t, [.str "row", .str "book"], rfl, .inr (SqT.of upd_same), rfl, rfl, _, rfl, ?_⟩⟩
  have e1 := same_new hp (.tup [.str "row", .str "book"])
  generalize (upd H t (.tup [.str "row", .str "book"])) = H1 at e1 ⊢
  have ht : SqT K H1 a (.str (wdC c) :: us) := (Same.keep e1) _ _ ht0
  have hd : Dts K H1 us (restC c) := (Same.keep e1).dts hd0
  generalize hw : wdC c = wd at ht ⊢
  have rb : ∀ k : List Ch, (c = .row k ∨ c = .book k) → restC c = [.tuple (pyL k)] → dL k < n → tJs [tFmt (tVar 1), tC (.str "("), tFmt (tCall (spTellK K n) [] E0 (tCons (tOp (rIxT K) (tVar 0) (tC (.int 1))) tNil)), tC (.str ")")] Str.empty
      [some (.ref a), some (.str wd), none, none, none] H1 fun out H2 => Q (.str out) H2 := fun k hk hr0 hd' => by
    have ec := txC_rb k hk
    rw [hw] at ec
    have lc' := lc
    rw [ec, app_len, app_len, app_len, app_len] at lc'
    rw [hr0] at hd
    obtain ⟨u, rfl, hu⟩ := hd.one
    have l0 : Str.empty.length = 0 := rfl
    have l1 : ("(" : Str).length = 1 := rfl
    have l2 : (")" : Str).length = 1 := rfl
    refine ⟨_, rfl, .inl ⟨_, rfl, sizeOk (by omega), _, rfl, sizeOk (by rw [app_len]; omega), _, rfl, sizeOk (by rw [app_len, app_len]; omega), _, rfl, a, _, _, _, rfl, rfl, ht, at_of (j := 1) rfl rfl, u, k, rfl, hu, hd', by omega, fun H2 e2 => .inl ⟨_, rfl, sizeOk (by omega), _, rfl, sizeOk (by rw [app_len, app_len, app_len]; omega), _, rfl, sizeOk (by rw [app_len, app_len, app_len, app_len]; omega), ?_⟩⟩⟩
    have z := q H2 (e1.trans e2)
    rw [ec] at z
    exact z
  cases c with
  | row k =>
    replace hw : ("row" : Str) = wd := hw
    subst hw
    exact iteYes (by decide +kernel) (rb k (.inl rfl) rfl (Nat.lt_of_succ_lt_succ dc))
  | book k =>
    replace hw : ("book" : Str) = wd := hw
    subst hw
    exact iteYes (by decide +kernel) (rb k (.inr rfl) rfl (Nat.lt_of_succ_lt_succ dc))
  | num =>
    replace hw : ("number" : Str) = wd := hw
    subst hw
    refine iteNo (by decide +kernel) ⟨_, rfl, rfl, _, rfl, iteNo (by decide +kernel) ⟨_, rfl, rfl, _, rfl, iteNo (by decide +kernel) ⟨_, rfl, rfl, _, rfl, iteNo (by decide +kernel) ⟨⟨_, rfl⟩, _, rfl, " ", a, ["number"], rfl, rfl, .inr ?_, by decide, ?_⟩⟩⟩⟩
    · rw [Dts.unnil hd] at ht
      exact ht
    · show Q (.str (Txt.join " " ["number"])) H1
      rw [← txC_num]
      exact q _ e1
  | txt =>
    replace hw : ("text" : Str) = wd := hw
    subst hw
    refine iteNo (by decide +kernel) ⟨_, rfl, rfl, _, rfl, iteNo (by decide +kernel) ⟨_, rfl, rfl, _, rfl, iteNo (by decide +kernel) ⟨_, rfl, rfl, _, rfl, iteNo (by decide +kernel) ⟨⟨_, rfl⟩, _, rfl, " ", a, ["text"], rfl, rfl, .inr ?_, by decide, ?_⟩⟩⟩⟩
    · rw [Dts.unnil hd] at ht
      exact ht
    · show Q (.str (Txt.join " " ["text"])) H1
      rw [← txC_txt]
      exact q _ e1
  | any z =>
    replace hw : ("some" : Str) = wd := hw
    subst hw
    have ez := txC_any z
    obtain ⟨u, rfl, hu⟩ := Dts.one (d := .str z) hd
    rw [hu.strOf] at ht
    have lz : z.length ≤ 1000000 := by
      have g : (txC (.any z)).length = 5 + z.length := by
        rw [txC, tx_len]
        show (TL.tl "some" ++ 32 :: TL.tl z).length = _
        rw [List.length_append, List.length_cons, len_list]
        show 4 + (z.cps.toList.length + 1) = 5 + z.cps.toList.length
        omega
      omega
    refine iteNo (by decide +kernel) ⟨_, rfl, rfl, _, rfl, iteNo (by decide +kernel) ⟨_, rfl, rfl, _, rfl, iteNo (by decide +kernel) ⟨_, rfl, rfl, _, rfl, iteNo (by decide +kernel) ⟨⟨_, rfl⟩, _, rfl, " ", a, ["some", z], rfl, rfl, .inr ht, ?_, ?_⟩⟩⟩⟩
    · show 4 + (z.length + 0) + 2 * 1 ≤ _
      omega
    · show Q (.str (Txt.join " " ["some", z])) H1
      rw [← ez]
      exact q _ e1
  | wth z =>
    replace hw : ("with" : Str) = wd := hw
    subst hw
    have ez := txC_wth z
    obtain ⟨u, rfl, hu⟩ := Dts.one (d := .str z) hd
    rw [hu.strOf] at ht
    have lz : z.length ≤ 1000000 := by
      have g : (txC (.wth z)).length = 5 + z.length := by
        rw [txC, tx_len]
        show (TL.tl "with" ++ 32 :: TL.tl z).length = _
        rw [List.length_append, List.length_cons, len_list]
        show 4 + (z.cps.toList.length + 1) = 5 + z.cps.toList.length
        omega
      omega
    refine iteNo (by decide +kernel) ⟨_, rfl, rfl, _, rfl, iteNo (by decide +kernel) ⟨_, rfl, rfl, _, rfl, iteNo (by decide +kernel) ⟨_, rfl, rfl, _, rfl, iteNo (by decide +kernel) ⟨⟨_, rfl⟩, _, rfl, " ", a, ["with", z], rfl, rfl, .inr ht, ?_, ?_⟩⟩⟩⟩
    · show 4 + (z.length + 0) + 2 * 1 ≤ _
      omega
    · show Q (.str (Txt.join " " ["with", z])) H1
      rw [← ez]
      exact q _ e1
  | letter l =>
    replace hw : ("letter" : Str) = wd := hw
    subst hw
    obtain ⟨u, rfl, hu⟩ := Dts.one (d := .str l) hd
    rw [hu.strOf] at ht
    refine iteNo (by decide +kernel) ⟨_, rfl, rfl, _, rfl, iteNo (by decide +kernel) ⟨_, rfl, rfl, _, rfl, iteYes (by decide +kernel) ⟨_, rfl, a, _, _, _, rfl, rfl, ht, at_of (j := 1) rfl rfl, ?_⟩⟩⟩
    show Q (.str l) H1
    have z := q _ e1
    rw [show txC (.letter l) = l from mkS_tl l] at z
    exact z
  | cut l hs =>
    replace hw : ("cut" : Str) = wd := hw
    subst hw
    obtain ⟨u, us', rfl, hu, hd2⟩ := Dts.uncons (d := .str l) hd
    obtain ⟨u2, rfl, hu2⟩ := hd2.one
    rw [hu.strOf] at ht
    obtain ⟨b, vs, rfl, hb, hbd⟩ := hu2.open
    rw [hbd.strs] at hb
    have ec := txC_cut l hs
    have lc' := lc
    rw [ec, app_len, app_len, app_len] at lc'
    have l1 : ("(" : Str).length = 1 := rfl
    have l2 : (")" : Str).length = 1 := rfl
    refine iteNo (by decide +kernel) ⟨_, rfl, rfl, _, rfl, iteNo (by decide +kernel) ⟨_, rfl, rfl, _, rfl, iteNo (by decide +kernel) ⟨_, rfl, rfl, _, rfl, iteYes (by decide +kernel) ⟨_, rfl, a, _, _, _, rfl, rfl, ht, at_of (j := 1) rfl rfl, _, _, rfl, rfl, sizeOk (by omega), ⟨_, rfl⟩, _, rfl, a, _, _, _, rfl, rfl, ht, at_of (j := 2) rfl rfl,
      ", ", b, hs, rfl, rfl, .inr hb, ?_, _, _, rfl, rfl, sizeOk (by rw [app_len]; omega), _, _, rfl, rfl, sizeOk (by rw [app_len, app_len]; omega), ?_⟩⟩⟩⟩
    · have := join_room (y := ", ") (zs := hs) (n := 1000000) (by
        have e : (Txt.join ", " hs).length = (TL.joinL (TL.tl ", ") (hs.map TL.tl)).length := by
          rw [len_list]
          exact congrArg List.length ((congrArg TL.tl (TL.join_eq ", " hs)).trans (TL.tl_join ", " hs))
        omega)
      exact Nat.le_trans this (by decide)
    · have z := q _ e1
      rw [ec] at z
      exact z
  | shape fs =>
    replace hw : ("shape" : Str) = wd := hw
    subst hw
    have ec := txC_shape fs
    have lc' := lc
    rw [ec, app_len, app_len] at lc'
    obtain ⟨u, rfl, hu⟩ := Dts.one (d := .tuple (pyF fs)) hd
    obtain ⟨b, vs, rfl, hb, hbd⟩ := hu.open
    have ej : (Txt.join ", " (fs.map txF)).length = (TL.joinL com (cF fs)).length := by
      rw [len_list]
      refine congrArg List.length (((congrArg TL.tl (TL.join_eq ", " _)).trans (TL.tl_join ", " _)).trans ?_)
      rw [List.map_map, cF_map]
      rfl
    refine iteNo (by decide +kernel) ⟨_, rfl, rfl, _, rfl, iteYes (by decide +kernel) ⟨_, rfl, a, _, _, _, rfl, rfl, ht, at_of (j := 1) rfl rfl, b, rfl, ⟨_, hb⟩, fun D hD => ?_⟩⟩
    refine lc_tup (K := K) (a := b) (xs := vs) (fun j H2 => Same H1 H2 ∧ H2 D = some (.lst (((fs.take j).map txF).map V.str))) ⟨same_new hD _, upd_same⟩ (fun j H2 _ h => (Same.keep h.1) _ _ hb) ?_ ?_
    · rintro j x H2 hx ⟨e2, h2⟩
      obtain ⟨d, hd1, hd2⟩ := hbd.at hx
      rw [pyF_map, List.getElem?_map] at hd1
      obtain ⟨p, hp, rfl⟩ := Option.map_eq_some_iff.mp hd1
      have mp := List.mem_of_getElem? hp
      obtain ⟨pa, pk, rfl, hpt, hpk⟩ := ((Same.keep e2).dt hd2).two
      have lp : (txF p).length ≤ 1000000 := by
        have := joinL_mem com (ps := cF fs) (p := TL.tl (txF p)) (by rw [cF_map]; exact List.mem_map_of_mem (f := fun p => TL.tl p.1 ++ 58 :: 32 :: TL.joinL bar (cL p.2)) mp)
        rw [len_list]
        exact Nat.le_trans this (by omega)
      have ep := txF_eq p
      rw [ep, app_len, app_len, app_len] at lp
      have l0 : Str.empty.length = 0 := rfl
      have l1 : (": " : Str).length = 2 := rfl
      refine ⟨pa, _, rfl, hpt, rfl, _, _, rfl, _, _, rfl, rfl, rfl, _, rfl, .inl ⟨_, rfl, sizeOk (by omega), _, rfl, sizeOk (by rw [app_len]; omega), _, rfl, sizeOk (by rw [app_len, app_len]; omega), _, rfl, pk, p.2, rfl, hpk, ?_, by omega, fun H3 e3 => .inl ⟨_, rfl, sizeOk (by omega), _, rfl, sizeOk (by rw [app_len, app_len, app_len]; omega), _, e3 _ _ h2, ?_, fun c o hb => ?_, ?_⟩⟩⟩
      · exact Nat.lt_of_le_of_lt (dF_mem mp) (Nat.lt_of_succ_lt_succ dc)
      · rw [List.length_map, List.length_map]
        refine Nat.lt_of_le_of_lt (Nat.le_trans (List.length_take_le' _ _) (Nat.le_trans (Nat.le_of_eq (by rw [cF_map, List.length_map])) (joinL_many com (by decide) (cF fs)))) ?_
        rw [sizeLine_eq]
        omega
      · rw [upd_ne (ne_of_none hb hD)]
        exact e3 _ _ (e2 c o hb)
      · rw [upd_same, List.take_add_one, hp, List.map_append, List.map_append, ← ep]
        rfl
    rintro H2 ⟨e2, h2⟩
    rw [List.take_of_length_le (by rw [hbd.1, pyF_map, List.length_map]; exact Nat.le_refl _)] at h2
    have l1 : ("{" : Str).length = 1 := rfl
    have l2 : ("}" : Str).length = 1 := rfl
    refine ⟨⟨_, rfl⟩, _, rfl, ", ", D, fs.map txF, rfl, rfl, .inl (SqL.of h2), ?_, _, _, rfl, rfl, sizeOk (by omega), _, _, rfl, rfl, sizeOk (by rw [app_len]; omega), ?_⟩
    · have := join_room (y := ", ") (zs := fs.map txF) (n := 1000000) (by
        rw [List.map_map]
        show (TL.joinL com (fs.map _)).length ≤ _
        have e : fs.map (TL.tl ∘ txF) = cF fs := by rw [cF_map]; rfl
        rw [e]
        omega)
      exact Nat.le_trans this (by decide)
    · have z := q _ (e1.trans e2)
      rw [ec] at z
      exact z
theorem c_shown (T : Tx K mg) : ∀ n : Nat, Cal P w K mg base (2 * n) "shown_choice" ["choice"] (spTellC K n) ∧ Cal P w K mg base (2 * n + 1) "shown_kind" ["kind"] (spTellK K n)
  | 0 => by
    have c := T.shown_choice.never (P := P) (w := w) (base := base) (sp := spTellC K 0) fun vs H Q E ⟨_, _, _, _, h, _⟩ => absurd h (Nat.not_lt_zero _)
    exact ⟨c, c_shown_kind T c⟩
  | n + 1 => by
    have c := c_shown_choice T (c_shown T n).2
    exact ⟨c, c_shown_kind T c⟩
end
end Sc
namespace Sc
open PySem PyProof.Rows L2
section
variable {P : Program} {w : World} {K : PySem.W.Frag} {mg : Str → Option Value} {base : Heap}
theorem scTold : FnScope ["_law_kind_here", "_law_choice_here"] ["_law_kind_here"] (defScope sTold) := ⟨rfl, rfl, rfl, by decide +kernel, rfl, by decide +kernel, by decide +kernel⟩
theorem c_told {n lv : Nat} (T : Tx K mg) (CC : Cal P w K mg base lv "_law_told_choice" ["_law_choice_here"] (spTellC K n)) : Cal P w K mg base (lv + 1) "_law_told" ["_law_kind_here"] (spTellK K n) := by
  refine T.told.ok scTold (fun vs H Q E h => ?_) (fun f cdv A outer s H vs Q E hr h => ?_)
  · obtain ⟨v, k, rfl, _⟩ := h
    rfl
  obtain ⟨v, k, rfl, hk, dk, lk, q⟩ := h
  refine ⟨_, pss_one (ps_ret (pe_join pe_str (pe_lc (own := [("_law_choice_here", 1)]) (g := gName 1) (tt := tYes) rfl scTold.nd (pi_tup (pv 0)) (blkOk_by (N := ["_law_kind_here", "_law_choice_here"]) (sc := defScope sTold) (by decide +kernel))
        (fun _ _ _ _ _ => pg_name (i := 1) scTold.nd rfl (Or.inl rfl)) (fun _ _ _ _ _ => pts_nil) (fun _ _ _ _ _ => pe_cal CC hr (pa_cons (pv 1) pa_nil))))), ?_⟩
  obtain ⟨a, vs, rfl, ht, hd⟩ := hk.open
  unfold txK at lk
  rw [tx_len] at lk
  refine ⟨⟨_, rfl⟩, _, rfl, a, rfl, ⟨_, ht⟩, fun D hD => ?_⟩
  refine lc_tup (K := K) (a := a) (xs := vs) (fun j H2 => Same H H2 ∧ H2 D = some (.lst (((k.take j).map txC).map V.str))) ⟨same_new hD _, upd_same⟩ (fun j H2 _ h => (Same.keep h.1) _ _ ht) ?_ ?_
  · rintro j x H2 hx ⟨e2, h2⟩
    obtain ⟨d, hd1, hd2⟩ := hd.at hx
    rw [pyL_map, List.getElem?_map] at hd1
    obtain ⟨c, hc, rfl⟩ := Option.map_eq_some_iff.mp hd1
    have mc := List.mem_of_getElem? hc
    refine ⟨rfl, _, rfl, x, c, rfl, (Same.keep e2).dt hd2, Nat.lt_of_le_of_lt (dL_mem mc) dk, ?_, fun H3 e3 => ⟨_, e3 _ _ h2, ?_, fun b o hb => ?_, ?_⟩⟩
    · rw [txC, tx_len]
      exact Nat.le_trans (joinL_mem bar (by rw [cL_map]; exact List.mem_map_of_mem mc)) lk
    · rw [List.length_map, List.length_map]
      refine Nat.lt_of_le_of_lt (Nat.le_trans (List.length_take_le' _ _) (Nat.le_trans (Nat.le_of_eq (by rw [cL_map, List.length_map])) (joinL_many bar (by decide) (cL k)))) ?_
      rw [sizeLine_eq]
      omega
    · rw [upd_ne (ne_of_none hb hD)]
      exact e3 _ _ (e2 b o hb)
    · rw [upd_same, List.take_add_one, hc, List.map_append, List.map_append]
      rfl
  rintro H2 ⟨e2, h2⟩
  rw [List.take_of_length_le (by rw [hd.1, pyL_map, List.length_map]; exact Nat.le_refl _)] at h2
  refine ⟨" | ", D, k.map txC, rfl, rfl, .inl (SqL.of h2), ?_, ?_⟩
  · have e : (k.map txC).map TL.tl = cL k := by rw [List.map_map, cL_map]; rfl
    have := join_room (y := " | ") (zs := k.map txC) (n := 1000000) (by rw [e]; exact lk)
    refine Nat.le_trans this ?_
    decide
  · show Q (.str (Txt.join " | " (k.map txC))) H2
    rw [txK_join]
    exact q _ e2
theorem scToldChoice : FnScope ["_law_choice_here", "_law_pair"] ["_law_choice_here"] (defScope sToldChoice) := ⟨rfl, rfl, rfl, by decide +kernel, rfl, by decide +kernel, by decide +kernel⟩
theorem c_told_choice {n lv : Nat} (T : Tx K mg) (CK : Cal P w K mg base lv "_law_told" ["_law_kind_here"] (spTellK K n)) : Cal P w K mg base (lv + 1) "_law_told_choice" ["_law_choice_here"] (spTellC K (n + 1)) := by
  refine T.told_choice.ok scToldChoice (fun vs H Q E h => ?_) (fun f cdv A outer s H vs Q E hr h => ?_)
  · obtain ⟨v, c, rfl, _⟩ := h
    rfl
  obtain ⟨v, c, rfl, hc, dc, lc, q⟩ := h
  refine ⟨_, pss_cons (ps_if (PW.pt (pw_or (pt_cmpR op_eq (pe_ix ix_tup (pv 0) pe_int (fun _ _ => rfl)) pe_str (nomark _)) (pw_or1 (pt_cmpR op_eq (pe_ix ix_tup (pv 0) pe_int (fun _ _ => rfl)) pe_str (nomark _)))))
      (pss_one (ps_ret (pe_op op_add_str (pe_op op_add_str (pe_op op_add_str (pe_ix ix_tup (pv 0) pe_int (fun _ _ => rfl)) pe_str) (pe_cal CK hr (pa_cons (pe_ix ix_tup (pv 0) pe_int (fun _ _ => rfl)) pa_nil))) pe_str))) pss_nil)
    (pss_cons (ps_if (pt_cmpR op_eq (pe_ix ix_tup (pv 0) pe_int (fun _ _ => rfl)) pe_str (nomark _))
      (pss_one (ps_ret (pe_op op_add_str (pe_op op_add_str pe_str (pe_join pe_str
        (pe_lc (own := [("_law_pair", 1)]) (g := gName 1) (tt := tYes) rfl scToldChoice.nd (pi_tup (pe_ix ix_tup (pv 0) pe_int (fun _ _ => rfl))) (blkOk_by (N := ["_law_choice_here", "_law_pair"]) (sc := defScope sToldChoice) (by decide +kernel))
          (fun _ _ _ _ _ => pg_name (i := 1) scToldChoice.nd rfl (Or.inl rfl)) (fun _ _ _ _ _ => pts_nil)
          (fun _ _ _ _ _ => pe_op op_add_str (pe_op op_add_str (pe_ix (ix_tupK K) (pv 1) pe_int (fun _ _ => rfl)) pe_str) (pe_cal CK hr (pa_cons (pe_ix (ix_tupK K) (pv 1) pe_int (fun _ _ => rfl)) pa_nil)))))) pe_str))) pss_nil)
    (pss_cons (ps_if (pt_cmpR op_eq (pe_ix ix_tup (pv 0) pe_int (fun _ _ => rfl)) pe_str (nomark _)) (pss_one (ps_ret (pe_ix ix_tup (pv 0) pe_int (fun _ _ => rfl)))) pss_nil)
    (pss_cons (ps_if (pt_cmpR op_eq (pe_ix ix_tup (pv 0) pe_int (fun _ _ => rfl)) pe_str (nomark _))
      (pss_one (ps_ret (pe_op op_add_str (pe_op op_add_str (pe_op op_add_str (pe_ix ix_tup (pv 0) pe_int (fun _ _ => rfl)) pe_str) (pe_join pe_str (pe_callTy call_list_of (by rfl) T.m_list (by decide +kernel) (pa_cons (pe_ix ix_tup (pv 0) pe_int (fun _ _ => rfl)) pa_nil)))) pe_str))) pss_nil)
    (pss_cons (ps_if (PW.pt (pw_or (pt_cmpR op_eq (pe_ix ix_tup (pv 0) pe_int (fun _ _ => rfl)) pe_str (nomark _)) (pw_or1 (pt_cmpR op_eq (pe_ix ix_tup (pv 0) pe_int (fun _ _ => rfl)) pe_str (nomark _)))))
      (pss_one (ps_ret (pe_op op_add_str (pe_op op_add_str (pe_ix ix_tup (pv 0) pe_int (fun _ _ => rfl)) pe_str) (pe_ix ix_tup (pv 0) pe_int (fun _ _ => rfl))))) pss_nil)
    (pss_one (ps_ret (pe_ix ix_tup (pv 0) pe_int (fun _ _ => rfl)))))))), ?_⟩
  obtain ⟨a, us, rfl, ht, hd⟩ := hc.lead
  have rb : ∀ k : List Ch, (c = .row k ∨ c = .book k) → restC c = [.tuple (pyL k)] → dL k < n → tRet (tOp (fun x y H Q => ∃ i j, x = .str i ∧ y = .str j ∧ i.length + j.length ≤ sizeLine ∧ Q (.str (i ++ j)) H) (tOp (fun x y H Q => ∃ i j, x = .str i ∧ y = .str j ∧ i.length + j.length ≤ sizeLine ∧ Q (.str (i ++ j)) H)
      (tOp (fun x y H Q => ∃ i j, x = .str i ∧ y = .str j ∧ i.length + j.length ≤ sizeLine ∧ Q (.str (i ++ j)) H) (tOp (rIxT K) (tVar 0) (tC (.int 0))) (tC (.str "("))) (tCall (spTellK K n) [] E0 (tCons (tOp (rIxT K) (tVar 0) (tC (.int 1))) tNil))) (tC (.str ")")))
      { nx := fun _ H' => Q .non H', rt := Q } [some (.ref a), none] H := fun k hk hr0 hd' => by
    have ec := txC_rb k hk
    have lc' := lc
    rw [ec, app_len, app_len, app_len, app_len] at lc'
    rw [hr0] at hd
    obtain ⟨u, rfl, hu⟩ := hd.one
    have l0 : Str.empty.length = 0 := rfl
    have l1 : ("(" : Str).length = 1 := rfl
    have l2 : (")" : Str).length = 1 := rfl
    refine ⟨_, rfl, a, _, _, _, rfl, rfl, ht, at_of (j := 0) rfl rfl, _, _, rfl, rfl, sizeOk (by omega), _, rfl, a, _, _, _, rfl, rfl, ht, at_of (j := 1) rfl rfl, u, k, rfl, hu, hd', by omega, fun H2 e2 => ⟨_, _, rfl, rfl, sizeOk (by rw [app_len]; omega), _, _, rfl, rfl, sizeOk (by rw [app_len, app_len]; omega), ?_⟩⟩
    have z := q H2 e2
    rw [ec, show Str.empty ++ wdC c = wdC c from TL.ext_tl (by rw [TL.tl_append]; rfl)] at z
    exact z
  generalize hw : wdC c = wd at ht rb ⊢
  have ors : ∀ x y : Str, ∀ Qt : Bool → Hp → Prop, ((wd = x ∨ wd = y) → Qt true H) → (¬ (wd = x ∨ wd = y) → Qt false H) →
      tOr (tTest (tOp rEq (tOp (rIxT K) (tVar 0) (tC (.int 0))) (tC (.str x)))) (tTest (tOp rEq (tOp (rIxT K) (tVar 0) (tC (.int 0))) (tC (.str y)))) [some (.ref a), none] H Qt := fun x y Qt hT hF => by
    refine or_pure (decide (V.str wd = V.str x)) (decide (V.str wd = V.str y)) (fun R h => ⟨_, rfl, a, _, _, _, rfl, rfl, ht, at_of (j := 0) rfl rfl, rfl, _, rfl, h⟩) (fun _ R h => ⟨_, rfl, a, _, _, _, rfl, rfl, ht, at_of (j := 0) rfl rfl, rfl, _, rfl, h⟩) (fun h => hT ?_) (fun h1 h2 => hF ?_)
    · rcases h with h | h
      · exact .inl (V.str.inj (of_decide_eq_true h))
      · exact .inr (V.str.inj (of_decide_eq_true h))
    · rintro (h | h)
      · exact absurd (decide_eq_true (congrArg V.str h)) (by rw [h1]; exact Bool.false_ne_true)
      · exact absurd (decide_eq_true (congrArg V.str h)) (by rw [h2]; exact Bool.false_ne_true)
  have tst : ∀ (x : Str) (th : TS) (D : Ends), (wd = x → th D [some (.ref a), none] H) → (wd ≠ x → D.nx [some (.ref a), none] H) → tIfS (tTest (tOp rEq (tOp (rIxT K) (tVar 0) (tC (.int 0))) (tC (.str x)))) th tNext D [some (.ref a), none] H := fun x th D hT hF =>
    ⟨_, rfl, a, _, _, _, rfl, rfl, ht, at_of (j := 0) rfl rfl, rfl, _, rfl, ite2 (fun h => hT (V.str.inj (of_decide_eq_true h))) fun h => hF fun e => h (decide_eq_true (congrArg V.str e))⟩
  refine ors _ _ _ (fun h => iteT ?_) (fun h1 => iteF (tst _ _ _ (fun h => ?_) fun h2 => tst _ _ _ (fun h => ?_) fun h3 => tst _ _ _ (fun h => ?_) fun h4 => ors _ _ _ (fun h => iteT ?_) fun h5 => iteF ?_))
  · obtain ⟨k, hk⟩ := wd_rb (c := c) (hw ▸ h)
    rcases hk with rfl | rfl
    · exact rb k (.inl rfl) rfl (Nat.lt_of_succ_lt_succ dc)
    · exact rb k (.inr rfl) rfl (Nat.lt_of_succ_lt_succ dc)
  · obtain ⟨fs, rfl⟩ := wd_shape (hw.trans h)
    have ec := txC_shape fs
    have lc' := lc
    rw [ec, app_len, app_len] at lc'
    obtain ⟨u, rfl, hu⟩ := Dts.one (d := .tuple (pyF fs)) hd
    obtain ⟨b, vs, rfl, hb, hbd⟩ := hu.open
    have ej : (Txt.join ", " (fs.map txF)).length = (TL.joinL com (cF fs)).length := by
      rw [len_list]
      refine congrArg List.length (((congrArg TL.tl (TL.join_eq ", " _)).trans (TL.tl_join ", " _)).trans ?_)
      rw [List.map_map, cF_map]
      rfl
    refine ⟨⟨_, rfl⟩, _, rfl, a, _, _, _, rfl, rfl, ht, at_of (j := 1) rfl rfl, b, rfl, ⟨_, hb⟩, fun D hD => ?_⟩
    refine lc_tup (K := K) (a := b) (xs := vs) (fun j H2 => Same H H2 ∧ H2 D = some (.lst (((fs.take j).map txF).map V.str))) ⟨same_new hD _, upd_same⟩ (fun j H2 _ h => (Same.keep h.1) _ _ hb) ?_ ?_
    · rintro j x H2 hx ⟨e2, h2⟩
      obtain ⟨d, hd1, hd2⟩ := hbd.at hx
      rw [pyF_map, List.getElem?_map] at hd1
      obtain ⟨p, hp, rfl⟩ := Option.map_eq_some_iff.mp hd1
      have mp := List.mem_of_getElem? hp
      obtain ⟨pa, pk, rfl, hpt, hpk⟩ := ((Same.keep e2).dt hd2).two
      have lp : (txF p).length ≤ 1000000 := by
        have := joinL_mem com (ps := cF fs) (p := TL.tl (txF p)) (by rw [cF_map]; exact List.mem_map_of_mem (f := fun p => TL.tl p.1 ++ 58 :: 32 :: TL.joinL bar (cL p.2)) mp)
        rw [len_list]
        exact Nat.le_trans this (by omega)
      have ep := txF_eq p
      have ee : Str.empty ++ p.1 = p.1 := TL.ext_tl (by rw [TL.tl_append]; rfl)
      rw [ee] at ep
      rw [ep, app_len, app_len] at lp
      have l1 : (": " : Str).length = 2 := rfl
      refine ⟨rfl, _, rfl, pa, _, _, _, rfl, rfl, hpt, at_of (j := 0) rfl rfl, _, _, rfl, rfl, sizeOk (by omega), _, rfl, pa, _, _, _, rfl, rfl, hpt, at_of (j := 1) rfl rfl, pk, p.2, rfl, hpk, ?_, by omega, fun H3 e3 => ⟨_, _, rfl, rfl, sizeOk (by rw [app_len]; omega), _, e3 _ _ h2, ?_, fun c o hb => ?_, ?_⟩⟩
      · exact Nat.lt_of_le_of_lt (dF_mem mp) (Nat.lt_of_succ_lt_succ dc)
      · rw [List.length_map, List.length_map]
        refine Nat.lt_of_le_of_lt (Nat.le_trans (List.length_take_le' _ _) (Nat.le_trans (Nat.le_of_eq (by rw [cF_map, List.length_map])) (joinL_many com (by decide) (cF fs)))) ?_
        rw [sizeLine_eq]
        omega
      · rw [upd_ne (ne_of_none hb hD)]
        exact e3 _ _ (e2 c o hb)
      · rw [upd_same, List.take_add_one, hp, List.map_append, List.map_append, ← ep]
        rfl
    rintro H2 ⟨e2, h2⟩
    rw [List.take_of_length_le (by rw [hbd.1, pyF_map, List.length_map]; exact Nat.le_refl _)] at h2
    have l1 : ("{" : Str).length = 1 := rfl
    have l2 : ("}" : Str).length = 1 := rfl
    refine ⟨", ", D, fs.map txF, rfl, rfl, .inl (SqL.of h2), ?_, _, _, rfl, rfl, sizeOk (by omega), _, _, rfl, rfl, sizeOk (by rw [app_len]; omega), ?_⟩
    · have := join_room (y := ", ") (zs := fs.map txF) (n := 1000000) (by
        rw [List.map_map]
        show (TL.joinL com (fs.map _)).length ≤ _
        have e : fs.map (TL.tl ∘ txF) = cF fs := by rw [cF_map]; rfl
        rw [e]
        omega)
      exact Nat.le_trans this (by decide)
    · have z := q _ e2
      rw [ec] at z
      exact z
  · obtain ⟨l, rfl⟩ := wd_letter (hw.trans h)
    obtain ⟨u, rfl, hu⟩ := Dts.one (d := .str l) hd
    rw [hu.strOf] at ht
    refine ⟨_, rfl, a, _, _, _, rfl, rfl, ht, at_of (j := 1) rfl rfl, ?_⟩
    show Q (.str l) H
    have z := q _ (Same.refl H)
    rw [show txC (.letter l) = l from mkS_tl l] at z
    exact z
  · obtain ⟨l, hs, rfl⟩ := wd_cut (hw.trans h)
    obtain ⟨u, us', rfl, hu, hd2⟩ := Dts.uncons (d := .str l) hd
    obtain ⟨u2, rfl, hu2⟩ := hd2.one
    rw [hu.strOf] at ht
    obtain ⟨b, vs, rfl, hb, hbd⟩ := hu2.open
    rw [hbd.strs] at hb
    have ec := txC_cut l hs
    have lc' := lc
    rw [ec, app_len, app_len, app_len] at lc'
    have l1 : ("(" : Str).length = 1 := rfl
    have l2 : (")" : Str).length = 1 := rfl
    refine ⟨_, rfl, a, _, _, _, rfl, rfl, ht, at_of (j := 1) rfl rfl, _, _, rfl, rfl, sizeOk (by omega), ⟨_, rfl⟩, _, rfl, a, _, _, _, rfl, rfl, ht, at_of (j := 2) rfl rfl, b, _, rfl, .inr hb, fun L hL => ⟨", ", L, hs, rfl, rfl, .inl (SqL.of upd_same), ?_, _, _, rfl, rfl, sizeOk (by rw [app_len]; omega), _, _, rfl, rfl, sizeOk (by rw [app_len, app_len]; omega), ?_⟩⟩
    · have := join_room (y := ", ") (zs := hs) (n := 1000000) (by
        have e : (Txt.join ", " hs).length = (TL.joinL (TL.tl ", ") (hs.map TL.tl)).length := by
          rw [len_list]
          exact congrArg List.length ((congrArg TL.tl (TL.join_eq ", " hs)).trans (TL.tl_join ", " hs))
        omega)
      exact Nat.le_trans this (by decide)
    · have z := q _ (same_new hL (.lst (hs.map V.str)))
      rw [ec] at z
      exact z
  · obtain ⟨z0, hz⟩ := wd_due (c := c) (hw ▸ h)
    obtain ⟨ec, er⟩ := txC_due hz
    have lc' := lc
    rw [ec, app_len, app_len, hw] at lc'
    rw [er] at hd
    obtain ⟨u, rfl, hu⟩ := hd.one
    rw [hu.strOf] at ht
    refine ⟨_, rfl, a, _, _, _, rfl, rfl, ht, at_of (j := 0) rfl rfl, _, _, rfl, rfl, sizeOk (by omega), _, rfl, a, _, _, _, rfl, rfl, ht, at_of (j := 1) rfl rfl, _, _, rfl, rfl, sizeOk (by rw [app_len]; omega), ?_⟩
    have z := q _ (Same.refl H)
    rw [ec, hw] at z
    exact z
  · refine ⟨_, rfl, a, _, _, _, rfl, rfl, ht, at_of (j := 0) rfl rfl, ?_⟩
    have z := q _ (Same.refl H)
    rcases wd_flat (c := c) (hw ▸ h1) (hw ▸ h2) (hw ▸ h3) (hw ▸ h4) (hw ▸ h5) with rfl | rfl
    · rw [show txC .num = wd from (mkS_tl "number").trans hw] at z
      exact z
    · rw [show txC .txt = wd from (mkS_tl "text").trans hw] at z
      exact z
theorem c_tells (T : Tx K mg) : ∀ n : Nat, Cal P w K mg base (2 * n) "_law_told_choice" ["_law_choice_here"] (spTellC K n) ∧ Cal P w K mg base (2 * n + 1) "_law_told" ["_law_kind_here"] (spTellK K n)
  | 0 => by
    have c := T.told_choice.never (P := P) (w := w) (base := base) (sp := spTellC K 0) fun vs H Q E ⟨_, _, _, _, h, _⟩ => absurd h (Nat.not_lt_zero _)
    exact ⟨c, c_told T c⟩
  | n + 1 => by
    have c := c_told_choice T (c_tells T n).2
    exact ⟨c, c_told T c⟩
end
end Sc
namespace Sc
open PySem PySem.Spec PyProof.Rows L2
theorem pss_no {X : Cx} {ss : List Stmt} : PSs X ss (fun _ _ _ => False) := ⟨fun _ _ _ _ _ _ h => h.elim⟩
def spWithin : Sp := fun vs H Q _ => ∃ z : Str, vs = [.str z] ∧ z.length ≤ 6000 ∧ (∀ c ∈ TL.tl z, c ≠ 34) ∧ ∀ (D : Addr) (H' : Hp), Same H H' → H' D = some (.lst (List.replicate z.length (.bl false))) → Q (.ref D) H'
section
variable {P : Program} {w : World} {K : PySem.W.Frag} {mg : Str → Option Value} {base : Heap}
def nWi : List Str := ["_law_text", "_law_inside", "_law_here", "_law_k"]
theorem scWi : FnScope nWi ["_law_text"] (defScope sWithinTexts) := ⟨rfl, rfl, rfl, by decide +kernel, rfl, by decide +kernel, by decide +kernel⟩
theorem c_within (T : Tx K mg) : Cal P w K mg base 1 "_law_within_texts" ["_law_text"] spWithin := by
  refine T.within_texts.ok scWi (fun vs H Q E h => ?_) (fun f cdv A outer s H vs Q E hr h => ?_)
  · obtain ⟨z, rfl, _⟩ := h
    rfl
  obtain ⟨z, rfl, hz, nq, q⟩ := h
  refine ⟨_, pss_cons (ps_set (i := 1) scWi.nd rfl (Or.inl rfl) (pe_lst pa_nil))
    (pss_cons (ps_set (i := 2) scWi.nd rfl (Or.inl rfl) pe_bl)
    (pss_cons (ps_set (i := 3) scWi.nd rfl (Or.inl rfl) pe_int)
    (pss_cons (ps_while PassesOwn.never (pt_cmpR op_lt (pv 3) (pe_callB call_len_str (by rfl) T.m_len PySem.boot_len (pa_cons (pv 0) pa_nil)) (nomark _))
      (pss_cons (ps_if (PW.pt (pw_and (pt_val (pv 2)) (pw_and1 (pt_cmpR op_eq (pe_ix ix_str (pv 0) (pv 3) (fun _ _ => rfl)) pe_str (nomark _))))) pss_no
        (pss_one (ps_if (pt_cmpR op_eq (pe_ix ix_str (pv 0) (pv 3) (fun _ _ => rfl)) pe_str (nomark _)) pss_no pss_nil)))
      (pss_cons (ps_expr (pe_bm PySem.F.plainAttrs_list PySem.F.slot_list_append PySem.F.type_list_append mt_append (pv 1) (pa_cons (pv 2) pa_nil)))
      (pss_one (ps_set (i := 3) scWi.nd rfl (Or.inl rfl) (pe_op op_add (pv 3) pe_int))))))
    (pss_one (ps_ret (pe_slice sl_list (pv 1) po_none (po_some (pe_callB call_len_str (by rfl) T.m_len PySem.boot_len (pa_cons (pv 0) pa_nil))))))))), ?_⟩
  refine ⟨Nat.zero_le _, fun D hD => ?_⟩
  dsimp only [gName, tNext]
  have e1 := same_new hD (.lst [])
  refine ⟨fun m σ H2 => ∃ k : Nat, m = z.length - k ∧ k ≤ z.length ∧ σ = [some (.str z), some (.ref D), some (.bl false), some (.int k)] ∧ (∀ b o, H b = some o → H2 b = some o) ∧ H2 D = some (.lst (List.replicate k (.bl false))), ⟨z.length, 0, rfl, Nat.zero_le _, rfl, e1, upd_same⟩, ?_⟩
  rintro m σ H2 ⟨k, rfl, lk, rfl, e2, h2⟩
  refine ⟨_, rfl, _, rfl, z, rfl, sizeOk (by omega), _, _, rfl, rfl, _, rfl, ite2 (fun c1 => ?_) (fun c1 => ?_)⟩
  · have lt : k < z.length := by have h : ((k : Nat) : Int) < (z.length : Int) := of_decide_eq_true c1; omega
    have lt2 : k < (TL.tl z).length := by rw [← TL.len_tl]; exact lt
    have ec : (TL.tl z)[k]? = some (TL.tl z)[k] := List.getElem?_eq_getElem lt2
    refine ⟨fun σ' H' => σ' = [some (.str z), some (.ref D), some (.bl false), some (.int ((k + 1 : Nat) : Int))] ∧ (∀ b o, H b = some o → H' b = some o) ∧ H' D = some (.lst (List.replicate (k + 1) (.bl false))), fun σ' H' h => ⟨z.length - (k + 1), by omega, k + 1, rfl, lt, h⟩, ?_⟩
    refine ⟨_, rfl, false, rfl, iteF (iteF ?_)⟩
    refine ⟨_, rfl, _, rfl, z, _, _, rfl, rfl, sizeOk (by omega), atI_nat (j := k) ec, rfl, _, rfl, iteNo (fun h => ?_) ?_⟩
    · have h3 : [(TL.tl z)[k]] = [34] := congrArg (fun t : Str => t.cps.toList) (V.str.inj (of_decide_eq_true h))
      injection h3 with h3 _
      exact nq _ (List.getElem_mem lt2) h3
    refine ⟨_, rfl, .inl ⟨rfl, _, SqL.of h2⟩, _, rfl, D, _, _, rfl, rfl, h2, (by rw [List.length_replicate, sizeLine_eq]; omega), ?_⟩
    refine ⟨_, rfl, _, _, rfl, rfl, ?_⟩
    refine ⟨rfl, fun b o hb => by rw [upd_ne (ne_of_none hb hD)]; exact e2 b o hb, ?_⟩
    rw [upd_same, ← List.replicate_succ']
  · have ek : k = z.length := by
      have h : ¬ (((k : Nat) : Int) < (z.length : Int)) := fun h => c1 (decide_eq_true h)
      omega
    subst ek
    refine ⟨_, rfl, _, rfl, z, rfl, sizeOk (by omega), _, rfl, D, _, rfl, SqL.of h2, fun p hp => ?_⟩
    refine q p _ (Same.trans e2 (same_new hp _)) ?_
    rw [upd_same]
    refine congrArg (fun l : List V => some (HO.lst l)) ?_
    unfold cutV
    rw [HT.sIx_none, List.drop_zero, List.length_replicate, HT.sIx_nat, Nat.min_self, Nat.sub_zero]
    exact List.take_of_length_le (by rw [List.length_replicate]; exact Nat.le_refl _)
end
end Sc
namespace Sc
open PySem PySem.Spec PyProof.Rows L2
/-- the signs that may have blanks about them -/
def pun : Str := "(),:[]{}|=<>"
def okS (c : Nat) : Prop := c = 32 ∨ (c ≠ 32 ∧ nolet c ∧ c ≠ 34 ∧ c ∈ pun.cps.toList) ∨ (c ≠ 32 ∧ c ∉ pun.cps.toList ∧ c ≠ 34)
def spSpaced (K : PySem.W.Frag) : Sp := fun vs H Q _ => ∃ (s : Addr) (i : Inf) (z : Str), vs = [.ref s, .str z] ∧ IsS K H s i ∧ z.length ≤ 2500 ∧ (∀ c ∈ TL.tl z, okS c) ∧ (∀ j : Nat, (TL.tl z)[j]? = some 32 → 0 < j ∧ j + 1 < z.length) ∧
  ∀ (y : Str) (H' : Hp), Ext s H H' → IsS K H' s i → Bl (TL.tl z) (TL.tl y) → y.length ≤ 10000 → Q (.str y) H'
theorem reps_tl (c n : Nat) : TL.tl (reps c n) = List.replicate n c := rfl
theorem blk_reps (n : Nat) : blk (List.replicate n 32) := fun _ m => (List.mem_replicate.mp m).2
section
variable {P : Program} {w : World} {K : PySem.W.Frag} {mg : Str → Option Value} {base : Heap}
def nSp : List Str := ["_law_s", "_law_text", "_law_inside", "_law_made", "_law_k", "_law_sign", "_law_loose", "_law_many"]
theorem scSp : FnScope nSp ["_law_s", "_law_text"] (defScope sSpaced) := ⟨rfl, rfl, rfl, by decide +kernel, rfl, by decide +kernel, by decide +kernel⟩
theorem c_spaced (T : Tx K mg) : Cal P w K mg base 2 "_law_spaced" ["_law_s", "_law_text"] (spSpaced K) := by
  have CT : Cal P w K mg base 1 "_law_taken" ["_law_s", "_law_most"] (spTaken K) := c_taken T
  have CI : Cal P w K mg base 1 "_law_within_texts" ["_law_text"] spWithin := c_within T
  refine T.spaced.ok scSp (fun vs H Q E h => ?_) (fun f cdv A outer s0 H vs Q E hr h => ?_)
  · obtain ⟨s, i, z, rfl, _⟩ := h
    rfl
  obtain ⟨s, i, z, rfl, S, hz, oks, edge, q⟩ := h
  have r1 : Room 1 _ := hr.mono (by decide)
  refine ⟨_, pss_cons (ps_set (i := 2) scSp.nd rfl (Or.inl rfl) (pe_cal CI r1 (pa_cons (pv 1) pa_nil))) (pss_cons (ps_set (i := 3) scSp.nd rfl (Or.inl rfl) pe_str) (pss_cons (ps_for PassesOwn.never rfl (pi_range1 rfl T.m_range (pa_cons (pe_callB call_len_str (by rfl) T.m_len PySem.boot_len (pa_cons (pv 1) pa_nil)) pa_nil)) (pg_name (i := 4) scSp.nd rfl (Or.inl rfl)) (pss_cons (ps_set (i := 5) scSp.nd rfl (Or.inl rfl) (pe_ix ix_str (pv 1) (pv 4) (fun _ _ => rfl))) (pss_one (ps_if (pt_val (pe_ix ix_list (pv 2) (pv 4) (fun _ _ => rfl))) pss_no (pss_one (ps_if (pt_cmpR op_eq (pv 5) pe_str (nomark _)) (pss_cons (ps_set (i := 6) scSp.nd rfl (Or.inl rfl) (pe_or (pe_cmpR op_in_sign (pe_ix ix_str (pv 1) (pe_op op_sub (pv 4) pe_int) (fun _ _ => rfl)) pe_str (by rfl)) (pe_one (pe_cmpR op_in_sign (pe_ix ix_str (pv 1) (pe_op op_add (pv 4) pe_int) (fun _ _ => rfl)) pe_str (by rfl))))) (pss_cons (ps_set (i := 7) scSp.nd rfl (Or.inl rfl) (pe_cal CT r1 (pa_cons (pv 0) (pa_cons pe_int pa_nil)))) (pss_one (ps_set (i := 3) scSp.nd rfl (Or.inl rfl) (pe_op op_add_str (pv 3) (pe_op op_reps pe_str (pe_ifExp (pt_val (pv 6)) (pv 7) (pe_op op_add pe_int (pv 7))))))))) (pss_one (ps_if (pt_cmpR op_in_sign (pv 5) pe_str (by rfl)) (pss_one (ps_set (i := 3) scSp.nd rfl (Or.inl rfl) (pe_op op_add_str (pe_op op_add_str (pe_op op_add_str (pv 3) (pe_op op_reps pe_str (pe_cal CT r1 (pa_cons (pv 0) (pa_cons pe_int pa_nil))))) (pv 5)) (pe_op op_reps pe_str (pe_cal CT r1 (pa_cons (pv 0) (pa_cons pe_int pa_nil))))))) (pss_one (ps_set (i := 3) scSp.nd rfl (Or.inl rfl) (pe_op op_add_str (pv 3) (pv 5)))))))))))) (pss_one (ps_ret (pv 3))))), ?_⟩
  have lz : z.length = (TL.tl z).length := TL.len_tl z
  refine ⟨_, rfl, z, rfl, by omega, fun c m e => ?_, fun D H1 e1 hD => ?_⟩
  · rcases oks c m with rfl | ⟨_, _, h, _⟩ | ⟨_, _, h⟩
    · cases e
    · exact h e
    · exact h e
  have S1 := S.same e1
  have nDs : D ≠ s := fun w => by
    obtain ⟨kvs, hk⟩ := S1.dk
    rw [w, hk] at hD
    cases hD
  dsimp only [gName, tNext]
  refine ⟨_, rfl, z, rfl, sizeOk (by omega), _, rfl, by omega, by omega, ?_⟩
  refine for_range (lo := 0) (n := (z.length : Int).toNat) (fun j σ H2 => (∃ (y : Str) (o4 o5 o6 o7 : Option V), σ = [some (.ref s), some (.str z), some (.ref D), some (.str y), o4, o5, o6, o7] ∧ Bl ((TL.tl z).take j) (TL.tl y) ∧ y.length ≤ 4 * j) ∧ Ext s H1 H2 ∧ IsS K H2 s i)
    ⟨⟨"", none, none, none, none, rfl, .nil, Nat.le_refl _⟩, Ext.refl _ _, S1⟩ ?_ ?_
  · rintro j σ H2 hj ⟨⟨y, o4, o5, o6, o7, rfl, hb, hy⟩, x2, S2⟩
    have lt : j < (TL.tl z).length := by omega
    have hc : (TL.tl z)[j]? = some (TL.tl z)[j] := List.getElem?_eq_getElem lt
    have okc := oks _ (List.getElem_mem lt)
    have tk1 : (TL.tl z).take (j + 1) = (TL.tl z).take j ++ [(TL.tl z)[j]] := by rw [List.take_add_one, hc]; rfl
    have hD2 := x2 _ _ nDs hD
    have nx : ∀ {p : List Nat}, Piece (TL.tl z)[j] p → Bl ((TL.tl z).take (j + 1)) (TL.tl y ++ p) := fun k => by rw [tk1]; exact hb.snoc k
    generalize (TL.tl z)[j] = c at hc okc nx
    dsimp only [gName, tNext]
    refine ⟨_, rfl, _, rfl, z, 0 + (j : Int), c, rfl, rfl, sizeOk (by omega), by rw [Int.zero_add]; exact atI_nat hc, ?_⟩
    refine ⟨_, rfl, _, rfl, D, _, 0 + (j : Int), _, rfl, rfl, SqL.of hD2, by rw [Int.zero_add]; exact atI_nat (List.getElem?_replicate_of_lt (by omega)), _, rfl, iteF ?_⟩
    rcases okc with rfl | ⟨n32, nl, _, hp⟩ | ⟨n32, hp, _⟩
    · refine ⟨_, rfl, rfl, _, rfl, iteYes (by decide +kernel) ?_⟩
      obtain ⟨j0, j1⟩ := edge j hc
      have h0 : (TL.tl z)[j - 1]? = some (TL.tl z)[j - 1] := List.getElem?_eq_getElem (by omega)
      have h1 : (TL.tl z)[j + 1]? = some (TL.tl z)[j + 1] := List.getElem?_eq_getElem (by omega)
      refine ⟨_, rfl, _, rfl, _, _, rfl, rfl, z, 0 + (j : Int) - 1, _, rfl, rfl, sizeOk (by omega), by rw [show 0 + (j : Int) - 1 = ((j - 1 : Nat) : Int) by omega]; exact atI_nat h0, _, _, rfl, rfl, ?_⟩
      have fin : ∀ (n : Int) (H3 : Hp) (o6 o7 : Option V), 0 ≤ n → n ≤ 3 → Ext s H2 H3 → IsS K H3 s i → (∃ (y' : Str) (o4 o5 o6' o7' : Option V), ([some (.ref s), some (.str z), some (.ref D), some (.str (y ++ reps 32 n.toNat)), some (.int (0 + (j : Int))), some (.str { cps := #[32] }), o6, o7] : L2.St) = [some (.ref s), some (.str z), some (.ref D), some (.str y'), o4, o5, o6', o7'] ∧ Bl ((TL.tl z).take (j + 1)) (TL.tl y') ∧ y'.length ≤ 4 * (j + 1)) ∧ Ext s H1 H3 ∧ IsS K H3 s i := by
        intro n H3 o6 o7 n0 n3 x3 S3
        refine ⟨⟨_, _, _, _, _, rfl, ?_, ?_⟩, x2.trans x3, S3⟩
        · rw [TL.tl_append]
          exact nx (.inl ⟨rfl, blk_reps _⟩)
        · rw [TL.len_tl, TL.tl_append, List.length_append, ← TL.len_tl, reps_tl, List.length_replicate]
          omega
      have szr : ∀ n : Int, 0 ≤ n → n ≤ 3 → y.length + (reps 32 n.toNat).length ≤ sizeLine := fun n n0 n3 => sizeOk (by rw [TL.len_tl (reps 32 n.toNat), reps_tl, List.length_replicate]; omega)
      refine ⟨_, rfl, ite2 (fun _ => ?_) (fun _ => ?_)⟩
      · refine ⟨_, rfl, s, i, 3, rfl, S2, by decide, by decide, fun m H3 m0 m3 x3 S3 => ?_⟩
        refine ⟨_, rfl, _, rfl, true, rfl, iteT ?_⟩
        exact ⟨_, rfl, 32, m, rfl, rfl, m0, by omega, _, _, rfl, rfl, szr m m0 (by omega), fin m H3 _ _ m0 (by omega) x3 S3⟩
      · refine ⟨_, rfl, _, rfl, _, _, rfl, rfl, z, 0 + (j : Int) + 1, _, rfl, rfl, sizeOk (by omega), by rw [show 0 + (j : Int) + 1 = ((j + 1 : Nat) : Int) by omega]; exact atI_nat h1, _, _, rfl, rfl, ?_⟩
        refine ⟨_, rfl, s, i, 3, rfl, S2, by decide, by decide, fun m H3 m0 m3 x3 S3 => ?_⟩
        refine ⟨_, rfl, _, rfl, _, rfl, ite2 (fun _ => ?_) (fun _ => ?_)⟩
        · exact ⟨_, rfl, 32, m, rfl, rfl, m0, by omega, _, _, rfl, rfl, szr m m0 (by omega), fin m H3 _ _ m0 (by omega) x3 S3⟩
        · exact ⟨_, rfl, _, _, rfl, rfl, 32, 1 + m, rfl, rfl, by omega, by omega, _, _, rfl, rfl, szr (1 + m) (by omega) (by omega), fin (1 + m) H3 _ _ (by omega) (by omega) x3 S3⟩
    · have no : ¬ decide (V.str { cps := #[c] } = V.str " ") = true := fun h => by
        have h3 : [c] = [32] := congrArg (fun t : Str => t.cps.toList) (V.str.inj (of_decide_eq_true h))
        injection h3 with h3 _
        exact n32 h3
      refine ⟨_, rfl, rfl, _, rfl, iteNo no ⟨_, rfl, c, pun, rfl, rfl, _, rfl, iteYes (decide_eq_true hp) ?_⟩⟩
      have lr : ∀ n : Nat, (reps 32 n).length = n := fun n => by rw [TL.len_tl, reps_tl, List.length_replicate]
      have la : ∀ u v : Str, (u ++ v).length = u.length + v.length := fun u v => by rw [TL.len_tl, TL.tl_append, List.length_append, ← TL.len_tl, ← TL.len_tl]
      have l1 : ({ cps := #[c] } : Str).length = 1 := rfl
      refine ⟨_, rfl, _, rfl, s, i, 3, rfl, S2, by decide, by decide, fun m H3 m0 m3 x3 S3 => ⟨32, m, rfl, rfl, m0, by omega, _, _, rfl, rfl, sizeOk (by rw [lr]; omega), _, rfl, _, _, rfl, rfl, sizeOk (by rw [la, lr, l1]; omega), ?_⟩⟩
      refine ⟨_, rfl, s, i, 2, rfl, S3, by decide, by decide, fun m2 H4 m20 m23 x4 S4 => ⟨32, m2, rfl, rfl, m20, by omega, _, _, rfl, rfl, sizeOk (by rw [la, la, lr, lr, l1]; omega), ?_⟩⟩
      refine ⟨⟨_, _, _, _, _, rfl, ?_, ?_⟩, x2.trans (x3.trans x4), S4⟩
      · rw [TL.tl_append, TL.tl_append, TL.tl_append, List.append_assoc, List.append_assoc]
        exact nx (.inr (.inl ⟨n32, nl, List.replicate m.toNat 32, List.replicate m2.toNat 32, blk_reps _, blk_reps _, rfl⟩))
      · rw [la, la, la, lr, lr, l1]
        omega
    · have no : ¬ decide (V.str { cps := #[c] } = V.str " ") = true := fun h => by
        have h3 : [c] = [32] := congrArg (fun t : Str => t.cps.toList) (V.str.inj (of_decide_eq_true h))
        injection h3 with h3 _
        exact n32 h3
      have la : ∀ u v : Str, (u ++ v).length = u.length + v.length := fun u v => by rw [TL.len_tl, TL.tl_append, List.length_append, ← TL.len_tl, ← TL.len_tl]
      have l1 : ({ cps := #[c] } : Str).length = 1 := rfl
      refine ⟨_, rfl, rfl, _, rfl, iteNo no ⟨_, rfl, c, pun, rfl, rfl, _, rfl, iteNo (fun h => hp (of_decide_eq_true h)) ?_⟩⟩
      refine ⟨_, rfl, _, rfl, _, _, rfl, rfl, sizeOk (by rw [l1]; omega), ?_⟩
      refine ⟨⟨_, _, _, _, _, rfl, ?_, ?_⟩, x2, S2⟩
      · rw [TL.tl_append]
        exact nx (.inr (.inr ⟨n32, rfl⟩))
      · rw [la, l1]
        omega
  · rintro σ H2 ⟨⟨y, o4, o5, o6, o7, rfl, hb, hy⟩, x2, S2⟩
    rw [Int.toNat_natCast] at hb hy
    rw [List.take_of_length_le (by omega)] at hb
    exact ⟨_, rfl, q y H2 ((Ext.same e1).trans x2) S2 hb (by omega)⟩
end
end Sc
namespace Sc
open PySem PySem.Spec PyProof.Rows L2
/-! ### a kind's text: its signs, no blank at its ends -/
def Edge (l : List Nat) : Prop := l ≠ [] ∧ (∀ c ∈ l, okS c) ∧ ∀ j : Nat, l[j]? = some 32 → 0 < j ∧ j + 1 < l.length
theorem Edge.mid {a b m : List Nat} (ha : Edge a) (hb : Edge b) (hm : ∀ c ∈ m, okS c) : Edge (a ++ (m ++ b)) := by
  have la : 0 < a.length := List.length_pos_iff.mpr ha.1
  have lb : 0 < b.length := List.length_pos_iff.mpr hb.1
  refine ⟨fun z => ha.1 (List.append_eq_nil_iff.mp z).1, fun c hc => ?_, fun j hj => ?_⟩
  · rcases List.mem_append.mp hc with h | h
    · exact ha.2.1 c h
    · rcases List.mem_append.mp h with h | h
      · exact hm c h
      · exact hb.2.1 c h
  · rw [List.length_append, List.length_append]
    by_cases h1 : j < a.length
    · rw [List.getElem?_append_left h1] at hj
      have := ha.2.2 j hj
      omega
    · rw [List.getElem?_append_right (by omega)] at hj
      by_cases h2 : j - a.length < m.length
      · omega
      · rw [List.getElem?_append_right (by omega)] at hj
        have := hb.2.2 _ hj
        omega
theorem Edge.app {a b : List Nat} (ha : Edge a) (hb : Edge b) : Edge (a ++ b) := ha.mid (m := []) hb fun c h => by cases h
theorem edge_one {c : Nat} (h : okS c) (n : c ≠ 32) : Edge [c] := ⟨(fun z => by cases z), (fun d m => by rw [List.mem_singleton.mp m]; exact h), fun j hj => by
  have := List.mem_of_getElem? hj
  exact absurd (List.mem_singleton.mp this).symm n⟩
theorem okS_let {u : Bool} {c : Nat} (h : letN u c = true) : okS c := by
  have hc : (97 ≤ c ∧ c ≤ 122) ∨ (65 ≤ c ∧ c ≤ 90) := by
    cases u
    · exact .inl (of_decide_eq_true h)
    · exact .inr (of_decide_eq_true h)
  have e : pun.cps.toList = [40, 41, 44, 58, 91, 93, 123, 125, 124, 61, 60, 62] := by decide +kernel
  refine .inr (.inr ⟨by omega, fun m => ?_, by omega⟩)
  rw [e] at m
  simp only [List.mem_cons, List.not_mem_nil, or_false] at m
  omega
theorem edge_word {u : Bool} {w : List Nat} (n : w ≠ []) (h : ∀ c ∈ w, letN u c = true) : Edge w := ⟨n, fun c m => okS_let (h c m), fun j hj => absurd rfl (let_ne (h _ (List.mem_of_getElem? hj)))⟩
theorem okS_pun {c : Nat} (h : (decide (c ≠ 32) && decide (lowN c = false) && decide (upN c = false) && decide (c ≠ 34) && decide (c ∈ pun.cps.toList)) = true) : okS c := by
  simp only [Bool.and_eq_true, decide_eq_true_eq] at h
  exact .inr (.inl ⟨h.1.1.1.1, ⟨h.1.1.1.2, h.1.1.2⟩, h.1.2, h.2⟩)
theorem okS_bar : ∀ c ∈ bar, okS c := fun c m => by
  rw [bar_eq] at m
  rcases List.mem_cons.mp m with rfl | m
  · exact .inl rfl
  rcases List.mem_cons.mp m with rfl | m
  · exact okS_pun (by decide +kernel)
  rw [List.mem_singleton.mp m]; exact .inl rfl
theorem okS_com : ∀ c ∈ com, okS c := fun c m => by
  rw [com_eq] at m
  rcases List.mem_cons.mp m with rfl | m
  · exact okS_pun (by decide +kernel)
  rw [List.mem_singleton.mp m]; exact .inl rfl
theorem edge_join {S : List Nat} (hS : ∀ c ∈ S, okS c) : ∀ {xs : List (List Nat)}, xs ≠ [] → (∀ x ∈ xs, Edge x) → Edge (TL.joinL S xs)
  | [], n, _ => absurd rfl n
  | [x], _, h => h x List.mem_cons_self
  | x :: y :: r, _, h => (h x List.mem_cons_self).mid (edge_join hS (fun z => by cases z) fun z m => h z (List.mem_cons_of_mem _ m)) hS
theorem edge_br {k : List Nat} (h : Edge k) {w : Str} (hw : Low w) : Edge (TL.tl w ++ 40 :: (k ++ [41])) :=
  (edge_word (u := false) hw.1 hw.2.1).app ((edge_one (c := 40) (okS_pun (by decide +kernel)) (by decide)).app (h.app (edge_one (okS_pun (by decide +kernel)) (by decide))))
mutual
theorem edge_C : ∀ {c : Ch}, tkOk c → Edge (cC c)
  | .num, _ => edge_word (u := false) (by decide +kernel) (by decide +kernel)
  | .txt, _ => edge_word (u := false) (by decide +kernel) (by decide +kernel)
  | .row k, h => edge_br (edge_K h.1 h.2) ⟨by decide +kernel, by decide +kernel, by decide +kernel⟩
  | .book k, h => edge_br (edge_K h.1 h.2) ⟨by decide +kernel, by decide +kernel, by decide +kernel⟩
  | .shape fs, h => (edge_one (c := 123) (okS_pun (by decide +kernel)) (by decide)).app ((edge_join okS_com (by cases fs with | nil => exact absurd rfl h.1 | cons q r => obtain ⟨f, k⟩ := q; exact fun z => by cases z) (edge_F h.2)).app (edge_one (okS_pun (by decide +kernel)) (by decide)))
  | .letter l, h => edge_word (u := true) h.1 h.2.1
  | .cut _ _, h => h.elim
  | .any _, h => h.elim
  | .wth _, h => h.elim
theorem edge_K : ∀ {k : List Ch}, k ≠ [] → tkOkL k → Edge (TL.joinL bar (cL k))
  | [], n, _ => absurd rfl n
  | c :: r, _, h => edge_join okS_bar (fun z => by cases z) (edge_L h)
theorem edge_L : ∀ {k : List Ch}, tkOkL k → ∀ x ∈ cL k, Edge x
  | [], _, x, m => by cases m
  | c :: r, h, x, m => by
    rcases List.mem_cons.mp m with e | e
    · rw [e]; exact edge_C h.1
    · exact edge_L h.2.1 x e
theorem edge_F : ∀ {fs : List (Str × List Ch)}, tkOkF fs → ∀ x ∈ cF fs, Edge x
  | [], _, x, m => by cases m
  | (f, k) :: r, h, x, m => by
    rcases List.mem_cons.mp m with e | e
    · rw [e]
      exact (edge_word (u := false) h.1.1 h.1.2.1).mid (m := [58, 32]) (edge_K h.2.1 h.2.2.1) fun c m => by
        rcases List.mem_cons.mp m with rfl | m
        · exact okS_pun (by decide +kernel)
        rw [List.mem_singleton.mp m]; exact .inl rfl
    · exact edge_F h.2.2.2.1 x e
end
/-! ### drawn kinds are such -/
theorem word_low {z : Str} (h : Word z) : Low z := ⟨fun e => by
  have h1 : 1 ≤ (TL.tl z).length := h.1
  rw [e] at h1
  exact absurd h1 (by decide), fun c m => decide_eq_true (h.2.2 c m), h.2.1⟩
theorem lett_upp {z : Str} (h : Lett z) : Upp z := ⟨fun e => by
  have h1 : 1 ≤ (TL.tl z).length := h.1
  rw [e] at h1
  exact absurd h1 (by decide), fun c m => decide_eq_true (h.2.2 c m), h.2.1⟩
mutual
theorem tk_C {ls : List Str} (hl : ∀ l ∈ ls, Lett l) : ∀ {n : Nat} {c : Ch}, okC ls n c → tkOk c ∧ dC c ≤ n
  | _, .num, _ => ⟨trivial, Nat.zero_le _⟩
  | _, .txt, _ => ⟨trivial, Nat.zero_le _⟩
  | n, .row k, h => by
    have h' : 0 < n ∧ k ≠ [] ∧ k.length ≤ 3 ∧ okL ls (n - 1) k := h
    obtain ⟨g1, g2⟩ := tk_L hl (by omega : k.length ≤ 900) h'.2.2.2
    exact ⟨⟨h'.2.1, g1⟩, by show dL k + 1 ≤ n; omega⟩
  | n, .book k, h => by
    have h' : 0 < n ∧ k ≠ [] ∧ k.length ≤ 3 ∧ okL ls (n - 1) k := h
    obtain ⟨g1, g2⟩ := tk_L hl (by omega : k.length ≤ 900) h'.2.2.2
    exact ⟨⟨h'.2.1, g1⟩, by show dL k + 1 ≤ n; omega⟩
  | n, .shape fs, h => by
    have h' : 0 < n ∧ fs.length ≤ 2 ∧ Fld (fs.map (·.1)) ∧ okF ls (n - 1) fs := h
    obtain ⟨g1, g2⟩ := tk_F hl (by omega : fs.length ≤ 900) h'.2.2.2
    exact ⟨⟨fun z => h'.2.2.1.1 (by rw [z]; rfl), g1⟩, by show dF fs + 1 ≤ n; omega⟩
  | n, .letter l, h => ⟨lett_upp (hl l (by cases n <;> exact h)), Nat.zero_le _⟩
  | n, .cut _ _, h => (show False by cases n <;> exact h).elim
  | n, .any _, h => (show False by cases n <;> exact h).elim
  | n, .wth _, h => (show False by cases n <;> exact h).elim
theorem tk_L {ls : List Str} (hl : ∀ l ∈ ls, Lett l) : ∀ {n : Nat} {k : List Ch}, k.length ≤ 900 → okL ls n k → tkOkL k ∧ dL k ≤ n
  | _, [], _, _ => ⟨trivial, Nat.zero_le _⟩
  | n, c :: r, l, h => by
    have l' : r.length + 1 ≤ 900 := l
    obtain ⟨g1, g2⟩ := tk_C hl h.1
    obtain ⟨g3, g4⟩ := tk_L hl (by omega : r.length ≤ 900) h.2
    exact ⟨⟨g1, g3, by omega⟩, Nat.max_le.mpr ⟨g2, g4⟩⟩
theorem tk_F {ls : List Str} (hl : ∀ l ∈ ls, Lett l) : ∀ {n : Nat} {fs : List (Str × List Ch)}, fs.length ≤ 900 → okF ls n fs → tkOkF fs ∧ dF fs ≤ n
  | _, [], _, _ => ⟨trivial, Nat.zero_le _⟩
  | n, (f, k) :: r, l, h => by
    have l' : r.length + 1 ≤ 900 := l
    obtain ⟨g1, g2⟩ := tk_L hl (by have := h.2.2.1; omega : k.length ≤ 900) h.2.2.2.1
    obtain ⟨g3, g4⟩ := tk_F hl (by omega : r.length ≤ 900) h.2.2.2.2
    exact ⟨⟨word_low h.1, h.2.1, g1, g3, by omega⟩, Nat.max_le.mpr ⟨g2, g4⟩⟩
end
end Sc
namespace Sc
open PySem PyProof.Rows L2
section
variable {P : Program} {w : World} {K : PySem.W.Frag} {mg : Str → Option Value} {base : Heap}
theorem c_kinds (T : Tx K mg) : ∀ n : Nat, Cal P w K mg base (3 * n + 1) "_law_kind" ["_law_s", "_law_deep", "_law_letters"] (spKind K n)
  | 0 => (T.kind.never fun vs H Q E ⟨_, _, _, _, _, _, _, h, _⟩ => absurd h (Nat.not_lt_zero _)).mono (Nat.zero_le _)
  | n + 1 => by
    have ih := c_kinds T n
    have cf := c_fields T (by omega) ih
    have cc := c_choice T (lv := 3 * n + 1 + 1) (by omega) (ih.mono (by omega)) cf
    exact c_kind T (by omega) cc
end
end Sc
namespace Sc
open PySem PyProof.Rows L2
section
variable {P : Program} {w : World} {K : PySem.W.Frag} {mg : Str → Option Value} {base : Heap} {T0 : List Addr}
def spLaw (K : PySem.W.Frag) (T0 : List Addr) : Sp := fun vs H Q _ => ∃ (a : Addr) (ns : List Int), vs = [.ref a] ∧ SqL K H a (ns.map V.int) ∧ ns.length ≤ 63 ∧ Tb T0 H ∧ ∀ H', Q (.bl true) H'
def nLaw : List Str := ["_law_script", "_law_s", "_law_letters", "_law_kind_here", "_law_text", "_law_found", "_law_spaced_here", "_law_k"]
theorem scLaw : FnScope nLaw ["_law_script"] (defScope sLaw) := ⟨rfl, rfl, rfl, by decide +kernel, rfl, by decide +kernel, by decide +kernel⟩
theorem ok_law {f : Addr} {fd : FuncData} (F : Fun K "law" "law" sLaw f fd) (T : Tx K mg) (CR : Cal P w K mg base 22 "read_kind" ["text"] (spRead K T0 4)) : FnOk P w K mg base CX0 23 f fd ["_law_script"] (spLaw K T0) := by
  have CB : Cal P w K mg base 2 "_law_begun" ["_law_script"] (spBegun K) := c_begun T
  have CT : Cal P w K mg base 1 "_law_taken" ["_law_s", "_law_most"] (spTaken K) := c_taken T
  have CW : Cal P w K mg base 1 "_law_word" ["_law_s", "_law_k"] (spWord K) := c_word T
  have CK : Cal P w K mg base 13 "_law_kind" ["_law_s", "_law_deep", "_law_letters"] (spKind K 4) := c_kinds T 4
  have CS : Cal P w K mg base 9 "shown_kind" ["kind"] (spTellK K 4) := (c_shown T 4).2
  have CL : Cal P w K mg base 9 "_law_told" ["_law_kind_here"] (spTellK K 4) := (c_tells T 4).2
  have CP : Cal P w K mg base 2 "_law_spaced" ["_law_s", "_law_text"] (spSpaced K) := c_spaced T
  refine F.ok scLaw (fun vs H Q E h => ?_) (fun cdv A outer s0 H vs Q E hr h => ?_)
  · obtain ⟨a, ns, rfl, _⟩ := h
    rfl
  obtain ⟨a, ns, rfl, ha, hl, tb, q⟩ := h
  have r1 : Room 1 _ := hr.mono (by decide)
  have r2 : Room 2 _ := hr.mono (by decide)
  have r9 : Room 9 _ := hr.mono (by decide)
  have r13 : Room 13 _ := hr.mono (by decide)
  have hu := hr.units
  refine ⟨_, pss_cons (ps_set (i := 1) scLaw.nd rfl (Or.inr rfl) (pe_cal CB r2 (pa_cons (pv 0) pa_nil)))
    (pss_cons (ps_setLc (i := 2) (own := [("_law_k", 7)]) (g := gName 7) (tt := tYes) rfl scLaw.nd rfl rfl (sw_true rfl rfl rfl (by decide +kernel)) (pi_range1 rfl T.m_range (pa_cons (pe_cal CT r1 (pa_cons (pv 1) (pa_cons pe_int pa_nil))) pa_nil)) (blkOk_by (N := nLaw) (sc := defScope sLaw) (by decide +kernel))
          (fun _ _ _ _ _ => pg_name (i := 7) scLaw.nd rfl (Or.inl rfl)) (fun _ _ _ _ _ => pts_nil) (fun _ _ _ _ _ => pe_upper (pe_cal CW r1 (pa_cons (pv 1) (pa_cons (pv 7) pa_nil)))))
    (pss_cons (ps_set (i := 3) scLaw.nd rfl (Or.inl rfl) (pe_cal CK r13 (pa_cons (pv 1) (pa_cons pe_int (pa_cons (pv 2) pa_nil)))))
    (pss_cons (ps_set (i := 4) scLaw.nd rfl (Or.inl rfl) (pe_cal CS r9 (pa_cons (pv 3) pa_nil)))
    (pss_cons (ps_if (PW.pt (pw_or (pt_not (pt_val (pe_callB call_isi (by rfl) T.m_isinstance boot_isinstance (pa_cons (pv 4) (pa_cons (pe_bltn (v := .ty "str") (by rfl) T.m_str boot_str rfl) pa_nil))))) (pw_or1 (pt_cmpR op_ne (pv 4) (pe_cal CL r9 (pa_cons (pv 3) pa_nil)) (nomark _))))) (pss_one (ps_ret pe_bl)) pss_nil)
    (pss_cons (ps_if (pt_cmpR op_gt (pe_callB call_len_str (by rfl) T.m_len PySem.boot_len (pa_cons (pv 4) pa_nil)) pe_int (nomark _)) (pss_one (ps_ret pe_bl)) pss_nil)
    (pss_cons (ps_set (i := 5) scLaw.nd rfl (Or.inl rfl) (pe_cal CR hr (pa_cons (pv 4) pa_nil)))
    (pss_cons (ps_if (PW.pt (pw_or (pt_not (pt_val (pe_callB call_isi (by rfl) T.m_isinstance boot_isinstance (pa_cons (pv 5) (pa_cons (pe_bltn (v := .ty "tuple") (by rfl) T.m_tuple boot_tuple rfl) pa_nil))))) (pw_or1 (pt_cmpR (op_neD hu) (pv 5) (pv 3) (nomark _))))) (pss_one (ps_ret pe_bl)) pss_nil)
    (pss_cons (ps_set (i := 6) scLaw.nd rfl (Or.inl rfl) (pe_cal CP r2 (pa_cons (pv 1) (pa_cons (pv 4) pa_nil))))
    (pss_one (ps_ret (pe_or (pe_cmpR op_gt (pe_callB call_len_str (by rfl) T.m_len PySem.boot_len (pa_cons (pv 6) pa_nil)) pe_int (nomark _)) (pe_one (pe_cmpR (op_eqD hu) (pe_cal CR hr (pa_cons (pv 6) pa_nil)) (pv 3) (nomark _)))))))))))))), ?_⟩
  refine ⟨_, rfl, a, ns, rfl, ha, hl, fun s i H1 e1 hs ic io hf0 hf1 S1 => ?_⟩
  have tb1 : Tb T0 H1 := (Fr.same tb e1).tab
  dsimp only [gName]
  refine ⟨_, rfl, s, i, 3, rfl, S1, by decide, by decide, fun r H2 r0 r3 x2 S2 => ⟨_, rfl, by omega, by omega, fun D hD => ?_⟩⟩
  have tb2 := tb1.ext S1 x2
  refine lc_range (lo := 0) (n := r.toNat) (fun j H3 => Same H2 H3 ∧ H3 D = some (.lst (((List.range j).map fun k : Nat => Txt.upper (wordOf i k)).map V.str))) ⟨same_new hD _, upd_same⟩ ?_ ?_
  · rintro j H3 hj ⟨e3, h3⟩
    refine ⟨rfl, _, rfl, _, rfl, s, i, 0 + (j : Int), rfl, S2.same e3, by omega, fun H4 e4 => ⟨⟨_, rfl⟩, _, rfl, rfl, ?_, _, e4 _ _ h3, ?_, fun c o hc => ?_, ?_⟩⟩
    · obtain ⟨_, _, _, _, _, iok, _⟩ := id S1
      have := (word_of iok (k := 0 + (j : Int)) (by omega)).2.1
      rw [len_list]
      omega
    · rw [List.length_map, List.length_map, List.length_range]
      exact small1000 (by omega)
    · rw [upd_ne (ne_of_none hc hD)]
      exact e4 _ _ (e3 c o hc)
    · rw [upd_same, List.range_succ, List.map_append, List.map_append, Int.zero_add]
      rfl
  rintro H3 ⟨e3, h3⟩
  have S3 := S2.same e3
  have tb3 := (Fr.same tb2 e3).tab
  have hls : ∀ l ∈ (List.range r.toNat).map (fun k : Nat => Txt.upper (wordOf i k)), Lett l := fun l hl => by
    obtain ⟨k, _, rfl⟩ := List.mem_map.mp hl
    obtain ⟨_, _, _, _, _, iok, _⟩ := id S1
    exact upper_word (word_of iok (by omega))
  have lnl : ((List.range r.toNat).map (fun k : Nat => Txt.upper (wordOf i k))).length ≤ 1000 := by
    rw [List.length_map, List.length_range]; omega
  generalize (List.range r.toNat).map (fun k : Nat => Txt.upper (wordOf i k)) = ls at *
  dsimp only [gName, tNext]
  refine ⟨_, rfl, _, rfl, s, D, i, 3, ls, rfl, S3, by decide, SqL.of h3, lnl, fun v H4 k x4 S4 dk k0 k3 okk => ?_⟩
  have tb4 := tb3.ext S3 x4
  obtain ⟨tko, dle⟩ := tk_L hls (by omega : k.length ≤ 900) okk
  have lk : (txK k).length ≤ 1000000 := by
    unfold txK
    rw [tx_len]
    exact Nat.le_trans (kind_len (lenL (fun l m => (hls l m).2.1) okk) k3) (by decide)
  have ed := edge_K k0 tko
  have tks : Tks (tkL k) (TL.tl (txK k)) := by
    have := sp_L (ts := []) (r := []) tko (show wb [] = [] from rfl)
    rw [List.append_nil, List.append_nil] at this
    exact this
  have shc : SeqAt.shaped (.tuple (pyL k)) = true := ((okN_kind hls 3 k (by omega) okk).ok (by decide)).1
  dsimp only [gName, tNext]
  refine ⟨_, rfl, v, k, rfl, dk, by omega, lk, fun H5 e5 => ?_⟩
  have S5 := S4.same e5
  have tb5 := (Fr.same tb4 e5).tab
  have dk5 := (Same.keep e5).dt dk
  dsimp only [gName, tNext]
  refine ⟨_, rfl, _, _, _, _, true, rfl, .ty _, .base (.str _), kit_ty (by decide +kernel : kitB "str" "str" = some true), _, rfl, iteF ?_⟩
  refine ⟨_, rfl, _, rfl, v, k, rfl, dk5, by omega, lk, fun H6 e6 => ⟨rfl, _, rfl, iteNo (by simp) ?_⟩⟩
  have S6 := S5.same e6
  have tb6 := (Fr.same tb5 e6).tab
  have dk6 := (Same.keep e6).dt dk5
  refine ⟨_, rfl, txK k, rfl, sizeOk (by omega), _, _, rfl, rfl, _, rfl, ite2 (fun _ => q H6) (fun c1 => ?_)⟩
  have l25 : (txK k).length ≤ 2500 := by
    have h : ¬ ((2500 : Int) < ((txK k).length : Int)) := fun h => c1 (decide_eq_true h)
    omega
  refine ⟨_, rfl, txK k, k, rfl, by omega, tb6, tks, k0, tko, by omega, by omega, fun v7 H7 f7 dv7 => ?_⟩
  have dk7 := (Fr.keep tb6 f7).2.dt dk6
  have S7 := S6.fr tb6 f7
  refine ⟨_, rfl, _, _, _, _, true, rfl, .ty _, Dp.ty (Dt.dp dv7), kit_ty (isTup (Dt.dp dv7)), _, rfl, iteF ?_⟩
  refine ⟨_, rfl, _, rfl, _, _, Dt.dp dv7, Dt.dp dk7, shc, shc, ?_⟩
  rw [SeqAt.eqv_refl _ (SeqAt.canLay_of_shaped shc)]
  refine ⟨_, rfl, iteNo (by simp) ?_⟩
  refine ⟨_, rfl, _, rfl, s, i, txK k, rfl, S7, l25, ed.2.1, fun j hj => ?_, fun y H8 x8 S8 hbl hy => ?_⟩
  · have := ed.2.2 j hj
    rw [TL.len_tl]
    exact this
  have tb8 := f7.tab.ext S7 x8
  have dk8 := (S7.keep x8).dt dk7
  dsimp only [gName, tNext]
  refine ⟨_, rfl, y, rfl, sizeOk (by omega), _, _, rfl, rfl, _, rfl, ite2 (fun c2 => ?_) (fun c2 => ?_)⟩
  · exact q H8
  have l60 : y.length ≤ 6000 := by
    have h : ¬ ((6000 : Int) < (y.length : Int)) := fun h => c2 (decide_eq_true h)
    omega
  refine ⟨_, rfl, y, k, rfl, l60, tb8, sp_bl _ (alt_L tko) tks hbl, k0, tko, by omega, by omega, fun v9 H9 f9 dv9 => ?_⟩
  have dk9 := (Fr.keep tb8 f9).2.dt dk8
  refine ⟨_, rfl, _, _, Dt.dp dv9, Dt.dp dk9, shc, shc, ?_⟩
  rw [SeqAt.eqv_refl _ (SeqAt.canLay_of_shaped shc)]
  exact q H9
end
end Sc
namespace Sc
open PySem PySem.Spec PyProof.Rows L2
theorem int_ofK {K : PySem.W.Frag} {h : Heap} {mg : Str → Option Value} (X : K.In h) (G : h.Ns mainGlobals mg) {x : Str} {n : Int} {t : Tok} (a : PySem.W.nsIn K mainGlobals x = some (some (.int n t))) : ∃ t, mg x = some (.int n t) := ⟨t, PySem.W.mg_of X G a⟩
theorem DefD.of {K : PySem.W.Frag} {h : Heap} {mg : Str → Option Value} (X : K.In h) (G : h.Ns mainGlobals mg) {f T : Addr} {oc kV doc pm cdv ct o1 : Value} {od an o2 : Option Addr} {sl sl2 : Array (Option Value)} {n : Nat} {t : Tok}
    (a : PySem.W.nsIn K mainGlobals "_read_in_brackets" = some (some (.ref f))) (l : K.lookup f = some ⟨oc, od, .func (PySem.W.fnOf "_read_in_brackets" "_read_in_brackets" (defArgs sPReadInBrackets) (defBody sPReadInBrackets) (defScope sPReadInBrackets) (.ref T) kV doc pm an cdv ct), sl⟩)
    (c : PySem.W.codeIn K cdv "_read_in_brackets" = true) (k : PySem.W.keepIn K (.ref f) = true) (d : K.lookup T = some ⟨o1, o2, .seq #[.int 1 t] n, sl2⟩) : DefD K mg "_read_in_brackets" sPReadInBrackets ["reader", "ends", "read_one", "least"] [.int 1] := by
  have F : FunD K "_read_in_brackets" "_read_in_brackets" (defArgs sPReadInBrackets) (defBody sPReadInBrackets) (defScope sPReadInBrackets) [.int 1] [] f (PySem.W.fnOf "_read_in_brackets" "_read_in_brackets" (defArgs sPReadInBrackets) (defBody sPReadInBrackets) (defScope sPReadInBrackets) (.ref T) kV doc pm an cdv ct) :=
    ⟨⟨oc, od, .ref T, kV, doc, pm, an, cdv, ct, sl, rfl, l, c, .inr ⟨(fun z => by cases z), T, _, [.int 1 t], n, rfl, d, rfl, .cons ⟨t, rfl⟩ .nil⟩, .inl rfl⟩, k⟩
  obtain ⟨ds, hd, hb⟩ := F.binds1 (ps := ["reader", "ends", "read_one", "least"]) 3 0 (fun z => by cases z) rfl (fun T kV doc pm an cdv ct us its h1 h2 => match us, its, h1, h2 with | [_, _, _], [_], _, _ => ⟨_, rfl, rfl⟩)
  exact ⟨⟨f, _, oc, od, .ref T, kV, doc, pm, an, cdv, ct, sl, ds, rfl, l, c, k, PySem.W.mg_of X G a, hb, hd⟩⟩
end Sc
namespace Sc
open PySem PySem.Spec PyProof.Rows L2
theorem walkT {l : PySem.W.OpenLaw} {q : Program} {loose : List Str} {XP : (Str → Option Value) → Heap → Prop} {YP : World → Heap → Prop} {d : DefRec} {K : Params → PySem.W.Frag} (hn : l.most = some 63) (hdf : d.params.defaults = [])
    (hY : ∀ (w : World) (h : Heap), YP w h → (K w.params).In h)
    (F : ∀ (w : World) (mg mb : Str → Option Value) (lo : List Str) (mean : ExcName → Option Value) (fa : Addr) (h : Heap), (K w.params).In h → Top q lo mean mg mb h → mg d.name = some (.ref fa) → LamX.LawAtS l w (K w.params) CX0 23 63 "_law_script" mg fa h) :
    PySem.W.WalkO q loose XP YP l.row.toRowW d [] (fun f vs => PySem.call f vs) := by
  refine Att.attach_callB hn hdf fun w s₀ s₁ mg mb fa o pm cd doc a vs ns G Y ho hd hcd hmg hobj hints hlen hbits hg => ?_
  have KX := hY w _ Y
  obtain ⟨fd, cs, sp, hT, nT, C, hb, hsp, hF⟩ := F w mg mb _ _ fa _ KX G.T hmg
  exact LamX.law_callTs KX G.T.g G.T.b G.T.builtins G.T.nolimit hg hT nT C G.T.bmain hobj hints (Nat.le_trans hlen (by decide)) ⟨rfl, by decide, by decide⟩ hF hb (fun H hH hS => hsp H a ns hlen hbits hH hS) fun H e s' => fun z => z
theorem law_endT {l : PySem.W.OpenLaw} {w : World} {K : PySem.W.Frag} {h : Heap} {q : Program} {lo : List Str} {mean : ExcName → Option Value} {mg mb : Str → Option Value} {fa f c1 P1 c2 P2 : Addr} (X : K.In h) (TT : Top q lo mean mg mb h) (hfa : mg "law" = some (.ref fa)) (T : Tx K mg)
    (D1 : DefT K mg "has_word_signs" sHasWordSigns ["text"] c1) (t1 : PySem.W.tabIn K "has_word_signs" = some (c1, P1)) (r1 : ((recsOf q).find? (fun e => e.name == ("has_word_signs" : Str))).isSome = true) (n1 : K.lookup P1 = none)
    (D2 : DefT K mg "is_letter" sIsLetter ["thing"] c2) (t2 : PySem.W.tabIn K "is_letter" = some (c2, P2)) (r2 : ((recsOf q).find? (fun e => e.name == ("is_letter" : Str))).isSome = true) (n2 : K.lookup P2 = none)
    {C f1 f2 f3 f4 f5 f6 f7 f8 f9 fb bT : Addr} {od1 an1 od2 an2 od3 an3 od4 an4 od5 an5 od6 an6 od7 an7 od8 an8 od9 an9 : Option Addr} {sl1 sl2 sl3 sl4 sl5 sl6 sl7 sl8 sl9 bsl bsl2 : Array (Option Value)} {oc1 kV1 dc1 pm1 cd1 ct1 oc2 kV2 dc2 pm2 cd2 ct2 oc3 kV3 dc3 pm3 cd3 ct3 oc4 kV4 dc4 pm4 cd4 ct4 oc5 kV5 dc5 pm5 cd5 ct5 oc6 kV6 dc6 pm6 cd6 ct6 oc7 kV7 dc7 pm7 cd7 ct7 oc8 kV8 dc8 pm8 cd8 ct8 oc9 kV9 dc9 pm9 cd9 ct9 boc bkV bdc bpm bcd bct bo1 : Value} {bod ban bo2 : Option Addr} {bn : Nat} {btk t8 t6 t40 : Tok} (aC : PySem.W.nsIn K mainGlobals "Reader" = some (some (.ref C))) (a1 : PySem.W.findIn K (.ref C) "__init__" = some (some (.ref f1))) (i1 : PySem.W.isFn K (.ref f1) = true) (l1 : K.lookup f1 = some ⟨oc1, od1, .func (PySem.W.fnOf "__init__" "Reader.__init__" (defArgs sReaderInit) (defBody sReaderInit) (defScope sReaderInit) .none kV1 dc1 pm1 an1 cd1 ct1), sl1⟩) (cc1 : PySem.W.codeIn K cd1 "Reader.__init__" = true) (k1 : PySem.W.keepIn K (.ref f1) = true) (a2 : PySem.W.findIn K (.ref C) "pass_blanks" = some (some (.ref f2))) (i2 : PySem.W.isFn K (.ref f2) = true) (l2 : K.lookup f2 = some ⟨oc2, od2, .func (PySem.W.fnOf "pass_blanks" "Reader.pass_blanks" (defArgs sReaderPassBlanks) (defBody sReaderPassBlanks) (defScope sReaderPassBlanks) .none kV2 dc2 pm2 an2 cd2 ct2), sl2⟩) (cc2 : PySem.W.codeIn K cd2 "Reader.pass_blanks" = true) (k2 : PySem.W.keepIn K (.ref f2) = true) (a3 : PySem.W.findIn K (.ref C) "sign" = some (some (.ref f3))) (i3 : PySem.W.isFn K (.ref f3) = true) (l3 : K.lookup f3 = some ⟨oc3, od3, .func (PySem.W.fnOf "sign" "Reader.sign" (defArgs sReaderSign) (defBody sReaderSign) (defScope sReaderSign) .none kV3 dc3 pm3 an3 cd3 ct3), sl3⟩) (cc3 : PySem.W.codeIn K cd3 "Reader.sign" = true) (k3 : PySem.W.keepIn K (.ref f3) = true) (a4 : PySem.W.findIn K (.ref C) "take" = some (some (.ref f4))) (i4 : PySem.W.isFn K (.ref f4) = true) (l4 : K.lookup f4 = some ⟨oc4, od4, .func (PySem.W.fnOf "take" "Reader.take" (defArgs sReaderTake) (defBody sReaderTake) (defScope sReaderTake) .none kV4 dc4 pm4 an4 cd4 ct4), sl4⟩) (cc4 : PySem.W.codeIn K cd4 "Reader.take" = true) (k4 : PySem.W.keepIn K (.ref f4) = true) (a5 : PySem.W.findIn K (.ref C) "passes" = some (some (.ref f5))) (i5 : PySem.W.isFn K (.ref f5) = true) (l5 : K.lookup f5 = some ⟨oc5, od5, .func (PySem.W.fnOf "passes" "Reader.passes" (defArgs sReaderPasses) (defBody sReaderPasses) (defScope sReaderPasses) .none kV5 dc5 pm5 an5 cd5 ct5), sl5⟩) (cc5 : PySem.W.codeIn K cd5 "Reader.passes" = true) (k5 : PySem.W.keepIn K (.ref f5) = true) (a6 : PySem.W.findIn K (.ref C) "enter" = some (some (.ref f6))) (i6 : PySem.W.isFn K (.ref f6) = true) (l6 : K.lookup f6 = some ⟨oc6, od6, .func (PySem.W.fnOf "enter" "Reader.enter" (defArgs sReaderEnter) (defBody sReaderEnter) (defScope sReaderEnter) .none kV6 dc6 pm6 an6 cd6 ct6), sl6⟩) (cc6 : PySem.W.codeIn K cd6 "Reader.enter" = true) (k6 : PySem.W.keepIn K (.ref f6) = true) (a7 : PySem.W.findIn K (.ref C) "leave" = some (some (.ref f7))) (i7 : PySem.W.isFn K (.ref f7) = true) (l7 : K.lookup f7 = some ⟨oc7, od7, .func (PySem.W.fnOf "leave" "Reader.leave" (defArgs sReaderLeave) (defBody sReaderLeave) (defScope sReaderLeave) .none kV7 dc7 pm7 an7 cd7 ct7), sl7⟩) (cc7 : PySem.W.codeIn K cd7 "Reader.leave" = true) (k7 : PySem.W.keepIn K (.ref f7) = true) (a8 : PySem.W.findIn K (.ref C) "take_all" = some (some (.ref f8))) (i8 : PySem.W.isFn K (.ref f8) = true) (l8 : K.lookup f8 = some ⟨oc8, od8, .func (PySem.W.fnOf "take_all" "Reader.take_all" (defArgs sReaderTakeAll) (defBody sReaderTakeAll) (defScope sReaderTakeAll) .none kV8 dc8 pm8 an8 cd8 ct8), sl8⟩) (cc8 : PySem.W.codeIn K cd8 "Reader.take_all" = true) (k8 : PySem.W.keepIn K (.ref f8) = true) (a9 : PySem.W.findIn K (.ref C) "need_end" = some (some (.ref f9))) (i9 : PySem.W.isFn K (.ref f9) = true) (l9 : K.lookup f9 = some ⟨oc9, od9, .func (PySem.W.fnOf "need_end" "Reader.need_end" (defArgs sReaderNeedEnd) (defBody sReaderNeedEnd) (defScope sReaderNeedEnd) .none kV9 dc9 pm9 an9 cd9 ct9), sl9⟩) (cc9 : PySem.W.codeIn K cd9 "Reader.need_end" = true) (k9 : PySem.W.keepIn K (.ref f9) = true) (pg : PySem.W.plainGet K C Str.empty = true) (hd : PySem.W.hasDictIn K C = true) (po : PySem.W.plainOver K C = true) (sa : PySem.W.findIn K (.ref C) "__setattr__" = some (some (.builtin "object.__setattr__"))) (mk : PySem.W.makesIn K C = true) (kc : PySem.W.keepIn K (.ref C) = true) (nR : PySem.W.findIn K (.ref C) "row" = some none) (nA : PySem.W.findIn K (.ref C) "at" = some none) (nD : PySem.W.findIn K (.ref C) "depth" = some none) (d8 : PySem.W.nsIn K mainGlobals "LONGEST_WORD" = some (some (.int 8 t8))) (d60 : PySem.W.nsIn K mainGlobals "LONGEST_TEXT" = some (some (.int 6000 t6))) (d40 : PySem.W.nsIn K mainGlobals "DEEPEST_BRACKETS" = some (some (.int 40 t40))) (bA : PySem.W.nsIn K mainGlobals "_read_in_brackets" = some (some (.ref fb))) (bL : K.lookup fb = some ⟨boc, bod, .func (PySem.W.fnOf "_read_in_brackets" "_read_in_brackets" (defArgs sPReadInBrackets) (defBody sPReadInBrackets) (defScope sPReadInBrackets) (.ref bT) bkV bdc bpm ban bcd bct), bsl⟩) (bC : PySem.W.codeIn K bcd "_read_in_brackets" = true) (bK : PySem.W.keepIn K (.ref fb) = true) (bD : K.lookup bT = some ⟨bo1, bo2, .seq #[.int 1 btk] bn, bsl2⟩) {oc : Value} {od an : Option Addr} {osl : Array (Option Value)} {kV doc pm cdv ct : Value}
    (a : PySem.W.nsIn K mainGlobals "law" = some (some (.ref f))) (lk : K.lookup f = some ⟨oc, od, .func (PySem.W.fnOf "law" "law" (defArgs sLaw) (defBody sLaw) (defScope sLaw) .none kV doc pm an cdv ct), osl⟩) (c : PySem.W.codeIn K cdv "law" = true) (k : PySem.W.keepIn K (.ref f) = true) :
    LamX.LawAtS l w K CX0 23 63 "_law_script" mg fa h := by
  have e := hfa.symm.trans (PySem.W.mg_of X TT.g a)
  cases e
  obtain ⟨d1, f1⟩ := Option.isSome_iff_exists.mp r1
  obtain ⟨h1, g1⟩ := PySem.W.tab_of TT X f1 t1
  obtain ⟨d2, f2⟩ := Option.isSome_iff_exists.mp r2
  obtain ⟨h2, g2⟩ := PySem.W.tab_of TT X f2 t2
  refine ⟨PySem.W.fnOf "law" "law" (defArgs sLaw) (defBody sLaw) (defScope sLaw) .none kV doc pm an cdv ct, [(c1, P1), (c2, P2)], spLaw K [P1, P2], ?_, ?_, ?_, fun s v => .of_eq rfl, ?_, ?_⟩
  · intro p hp
    rcases List.mem_cons.mp hp with z | hp
    · rw [z]; exact g1
    rw [List.mem_singleton.mp hp]; exact g2
  · intro p hp
    rcases List.mem_cons.mp hp with z | hp
    · rw [z]; exact n1
    rw [List.mem_singleton.mp hp]; exact n2
  · intro p hp
    rcases List.mem_cons.mp hp with z | hp
    · rw [z]; exact h1
    rw [List.mem_singleton.mp hp]; exact h2
  · intro H a ns hl _ ht hS
    refine ⟨a, ns, rfl, hS, hl, fun P hP => ?_, fun _ => rfl⟩
    rcases List.mem_cons.mp hP with z | hP
    · exact ⟨#[], by rw [z]; exact ht (c1, P1) (List.mem_cons_self), True.intro⟩
    exact ⟨#[], by rw [List.mem_singleton.mp hP]; exact ht (c2, P2) (List.mem_cons_of_mem _ (List.mem_cons_self)), True.intro⟩
  · intro base KX G TB
    have T1 := TB (c1, P1) (List.mem_cons_self)
    have TB1 : GxR.TabB base mg c1 P1 := ⟨T1.code, T1.bm, T1.gP⟩
    have T2 := TB (c2, P2) (List.mem_cons_of_mem _ (List.mem_cons_self))
    have TB2 : GxR.TabB base mg c2 P2 := ⟨T2.code, T2.bm, T2.gP⟩
    have RT : RdT K mg C := ⟨⟨pg, hd, po, sa⟩, nR, nA, nD, PySem.W.mg_of X TT.g aC⟩
    have F1 := fun_mk (st := sReaderInit) l1 cc1 k1
    have b1 := F1.binds (ps := ["self", "row"]) fun _ _ _ _ _ _ us hl => match us, hl with | [_, _], _ => rfl
    have F2 := fun_mk (st := sReaderPassBlanks) l2 cc2 k2
    have b2 := F2.binds (ps := ["self"]) fun _ _ _ _ _ _ us hl => match us, hl with | [_], _ => rfl
    have F3 := fun_mk (st := sReaderSign) l3 cc3 k3
    have b3 := F3.binds (ps := ["self"]) fun _ _ _ _ _ _ us hl => match us, hl with | [_], _ => rfl
    have F4 := fun_mk (st := sReaderTake) l4 cc4 k4
    have b4 := F4.binds (ps := ["self", "sign"]) fun _ _ _ _ _ _ us hl => match us, hl with | [_, _], _ => rfl
    have F5 := fun_mk (st := sReaderPasses) l5 cc5 k5
    have b5 := F5.binds (ps := ["self", "sign"]) fun _ _ _ _ _ _ us hl => match us, hl with | [_, _], _ => rfl
    have F6 := fun_mk (st := sReaderEnter) l6 cc6 k6
    have b6 := F6.binds (ps := ["self", "sign"]) fun _ _ _ _ _ _ us hl => match us, hl with | [_, _], _ => rfl
    have F7 := fun_mk (st := sReaderLeave) l7 cc7 k7
    have b7 := F7.binds (ps := ["self", "sign"]) fun _ _ _ _ _ _ us hl => match us, hl with | [_, _], _ => rfl
    have F8 := fun_mk (st := sReaderTakeAll) l8 cc8 k8
    have b8 := F8.binds (ps := ["self", "first", "last"]) fun _ _ _ _ _ _ us hl => match us, hl with | [_, _, _], _ => rfl
    have F9 := fun_mk (st := sReaderNeedEnd) l9 cc9 k9
    have b9 := F9.binds (ps := ["self"]) fun _ _ _ _ _ _ us hl => match us, hl with | [_], _ => rfl
    have M2 : MOk l.prog w K mg base C 1 "pass_blanks" ["self"] (spPassB C) := ⟨_, _, ok_rpassb F2 RT, ⟨a2, i2, k2⟩, b2⟩
    have M3 : MOk l.prog w K mg base C 2 "sign" ["self"] (spRSign C) := ⟨_, _, ok_rsign F3 RT M2, ⟨a3, i3, k3⟩, b3⟩
    have M4 : MOk l.prog w K mg base C 3 "take" ["self", "sign"] (spRTake C) := ⟨_, _, ok_rtake F4 RT M3, ⟨a4, i4, k4⟩, b4⟩
    have M5 : MOk l.prog w K mg base C 3 "passes" ["self", "sign"] (spRPass C) := ⟨_, _, ok_rpass F5 RT M3, ⟨a5, i5, k5⟩, b5⟩
    have M6 : MOk l.prog w K mg base C 4 "enter" ["self", "sign"] (spREnter C) := ⟨_, _, ok_renter F6 RT (int_ofK X TT.g d40) M4, ⟨a6, i6, k6⟩, b6⟩
    have M7 : MOk l.prog w K mg base C 4 "leave" ["self", "sign"] (spRLeave C) := ⟨_, _, ok_rleave F7 RT M4, ⟨a7, i7, k7⟩, b7⟩
    have M8 : MOk l.prog w K mg base C 1 "take_all" ["self", "first", "last"] (spTakeAll C) := ⟨_, _, ok_rall F8 RT T.m_len, ⟨a8, i8, k8⟩, b8⟩
    have M9 : MOk l.prog w K mg base C 3 "need_end" ["self"] (spNeedEnd C) := ⟨_, _, ok_rend F9 RT M3, ⟨a9, i9, k9⟩, b9⟩
    have RC : RdC l.prog w K mg base C := ⟨RT, ⟨_, _, ok_rinit F1 RT, ⟨mk, a1, i1, kc⟩, b1⟩, M2, M3, M5, M4, M6, M7, M8, M9⟩
    have BD := DefD.of X TT.g bA bL bC bK bD
    have CS := c_word_signs (P := l.prog) (w := w) (base := base) (T0 := [P1, P2]) T D1 TB1 (by simp)
    have CWd := c_is_word (P := l.prog) (w := w) (base := base) (T0 := [P1, P2]) T CS (int_ofK X TT.g d8)
    have CLt := c_is_letter (P := l.prog) (w := w) (base := base) (T0 := [P1, P2]) T D2 TB2 (by simp) (int_ofK X TT.g d8)
    have CW := c_read_word T RC CWd
    have CL := c_read_letter T RC CLt
    have CC := c_reads T BD RC CW CL 4
    have CK := c_read_k T (by decide) RC CC
    have CR := c_read_kind T (by decide) RC (c_need_short T (int_ofK X TT.g d60)) CK
    exact ok_law (fun_mk (st := sLaw) lk c k) T CR
end Sc
namespace Sc
open PySem PyProof.Rows L2
/-! ### what the top has written -/
theorem Def.of {K : PySem.W.Frag} {h : Heap} {mg : Str → Option Value} (X : K.In h) (G : h.Ns mainGlobals mg) {x : Str} {st : Stmt} {ps : List Str} {f : Addr} {oc : Value} {od an : Option Addr} {osl : Array (Option Value)} {kV doc pm cdv ct : Value}
    (a : PySem.W.nsIn K mainGlobals x = some (some (.ref f))) (l : K.lookup f = some ⟨oc, od, .func (PySem.W.fnOf x x (defArgs st) (defBody st) (defScope st) .none kV doc pm an cdv ct), osl⟩) (c : PySem.W.codeIn K cdv x = true) (k : PySem.W.keepIn K (.ref f) = true)
    (b : ∀ (kV doc pm : Value) (an : Option Addr) (cdv ct : Value) (us : List Value), us.length = ps.length → bindArgs (PySem.W.fnOf x x (defArgs st) (defBody st) (defScope st) .none kV doc pm an cdv ct) ⟨us, []⟩ = pure (ps.zip us)) : Def K mg x st ps :=
  have F := fun_mk (st := st) l c k
  ⟨⟨f, _, F, PySem.W.mg_of X G a, F.binds b⟩⟩
theorem tabIn_of {K : PySem.W.Frag} {x : Str} {f c P : Addr} {oc o1 : Value} {od o2 : Option Addr} {osl o3 : Array (Option Value)} {fd : FuncData} {vs : Array Value} (a : PySem.W.nsIn K mainGlobals x = some (some (.ref f))) (l : K.lookup f = some ⟨oc, od, .func fd, osl⟩) (hc : fd.code = .ref c)
    (lc : K.lookup c = some ⟨o1, o2, .fields vs, o3⟩) (hv : (vs[11]? : Option Value) = some (.ref P)) : PySem.W.tabIn K x = some (c, P) := by
  unfold PySem.W.tabIn
  rw [a]
  dsimp only
  rw [l]
  dsimp only
  rw [hc]
  dsimp only
  rw [lc]
  dsimp only
  rw [hv]
end Sc
open PySem PySem.W PyProof.Rows
set_option maxRecDepth 100000 in
set_option maxHeartbeats 0 in
theorem PySem.Challenge.cw_soothcheck_k38_kinds_told_and_read_holds : PySem.Challenge.rw_soothcheck_k38_kinds_told_and_read.Holds := by
  w_on; o_law; k_head; (case hw => w_witness2)
  k_fill
  refine Sc.walkT (l := PySem.Challenge.rw_soothcheck_k38_kinds_told_and_read) rfl rfl (fun w h Y => by first | exact PySem.W.kIn_of Y | exact PySem.W.km_in_of Y) ?F
  case F =>
    intro w mg mb lo mean fa h KX TT hmg
    have G := TT.g
    refine' Sc.law_endT KX TT hmg ⟨Sc.Def.of KX G ?a0 ?l0 ?c0 ?k0 ?b0, Sc.Def.of KX G ?a1 ?l1 ?c1 ?k1 ?b1, Sc.Def.of KX G ?a2 ?l2 ?c2 ?k2 ?b2, Sc.Def.of KX G ?a3 ?l3 ?c3 ?k3 ?b3, Sc.Def.of KX G ?a4 ?l4 ?c4 ?k4 ?b4, Sc.Def.of KX G ?a5 ?l5 ?c5 ?k5 ?b5, 
      Sc.Def.of KX G ?a6 ?l6 ?c6 ?k6 ?b6, Sc.Def.of KX G ?a7 ?l7 ?c7 ?k7 ?b7, Sc.Def.of KX G ?a8 ?l8 ?c8 ?k8 ?b8, Sc.Def.of KX G ?a9 ?l9 ?c9 ?k9 ?b9, Sc.Def.of KX G ?a10 ?l10 ?c10 ?k10 ?b10, 
      Sc.Def.of KX G ?a11 ?l11 ?c11 ?k11 ?b11, Sc.Def.of KX G ?a12 ?l12 ?c12 ?k12 ?b12, Sc.Def.of KX G ?a13 ?l13 ?c13 ?k13 ?b13, Sc.Def.of KX G ?a14 ?l14 ?c14 ?k14 ?b14, Sc.Def.of KX G ?a15 ?l15 ?c15 ?k15 ?b15, 
      Sc.Def.of KX G ?a16 ?l16 ?c16 ?k16 ?b16, Sc.Def.of KX G ?a17 ?l17 ?c17 ?k17 ?b17, Sc.Def.of KX G ?a18 ?l18 ?c18 ?k18 ?b18, Sc.Def.of KX G ?a19 ?l19 ?c19 ?k19 ?b19, Sc.Def.of KX G ?a20 ?l20 ?c20 ?k20 ?b20, 
      Sc.Def.of KX G ?a21 ?l21 ?c21 ?k21 ?b21, Sc.Def.of KX G ?a22 ?l22 ?c22 ?k22 ?b22, Sc.Def.of KX G ?a23 ?l23 ?c23 ?k23 ?b23, PySem.W.mg_none_of KX G ?z0, PySem.W.mg_none_of KX G ?z1, 
      PySem.W.mg_none_of KX G ?z2, PySem.W.mg_none_of KX G ?z3, PySem.W.mg_none_of KX G ?z4, PySem.W.mg_none_of KX G ?z5, PySem.W.mg_none_of KX G ?z6, PySem.W.mg_none_of KX G ?z7, PySem.W.mg_none_of KX G ?z8, 
      PySem.W.mg_none_of KX G ?z9, PySem.W.mg_none_of KX G ?z10, PySem.W.mg_none_of KX G ?z11, PySem.W.mg_none_of KX G ?z12⟩
      (Sc.DefT.of KX G ?da1 ?dl1 ?dc1 ?dk1 ?db1) (Sc.tabIn_of ?ta1 ?tl1 ?tk1 ?tc1 ?tv1) ?r1 ?n1 (Sc.DefT.of KX G ?da2 ?dl2 ?dc2 ?dk2 ?db2) (Sc.tabIn_of ?ta2 ?tl2 ?tk2 ?tc2 ?tv2) ?r2 ?n2 ?xC ?ma1 ?mi1 ?ml1 ?mc1 ?mk1 ?ma2 ?mi2 ?ml2 ?mc2 ?mk2 ?ma3 ?mi3 ?ml3 ?mc3 ?mk3 ?ma4 ?mi4 ?ml4 ?mc4 ?mk4 ?ma5 ?mi5 ?ml5 ?mc5 ?mk5 ?ma6 ?mi6 ?ml6 ?mc6 ?mk6 ?ma7 ?mi7 ?ml7 ?mc7 ?mk7 ?ma8 ?mi8 ?ml8 ?mc8 ?mk8 ?ma9 ?mi9 ?ml9 ?mc9 ?mk9 ?xpg ?xhd ?xpo ?xsa ?xmk ?xkc ?xnR ?xnA ?xnD ?xd8 ?xd6 ?xd4 ?bA ?bL ?bC ?bK ?bD ?a ?l ?c ?k
    (case db1 => exact fun _ _ _ _ _ _ us hl => match us, hl with | [_], _ => rfl)
    (case da1 => k_is); (case dl1 => k_is); (case dc1 => k_is); (case dk1 => k_is)
    (case ta1 => k_is); (case tl1 => k_is); (case tk1 => exact rfl); (case tc1 => k_is); (case tv1 => exact rfl); (case n1 => first | kernel_rfl | exact rfl); (case r1 => decide +kernel)
    (case db2 => exact fun _ _ _ _ _ _ us hl => match us, hl with | [_], _ => rfl)
    (case da2 => k_is); (case dl2 => k_is); (case dc2 => k_is); (case dk2 => k_is)
    (case ta2 => k_is); (case tl2 => k_is); (case tk2 => exact rfl); (case tc2 => k_is); (case tv2 => exact rfl); (case n2 => first | kernel_rfl | exact rfl); (case r2 => decide +kernel)
    (case xC => k_is)
    (case ma1 => k_is); (case mi1 => k_is); (case ml1 => k_is); (case mc1 => k_is); (case mk1 => k_is)
    (case ma2 => k_is); (case mi2 => k_is); (case ml2 => k_is); (case mc2 => k_is); (case mk2 => k_is)
    (case ma3 => k_is); (case mi3 => k_is); (case ml3 => k_is); (case mc3 => k_is); (case mk3 => k_is)
    (case ma4 => k_is); (case mi4 => k_is); (case ml4 => k_is); (case mc4 => k_is); (case mk4 => k_is)
    (case ma5 => k_is); (case mi5 => k_is); (case ml5 => k_is); (case mc5 => k_is); (case mk5 => k_is)
    (case ma6 => k_is); (case mi6 => k_is); (case ml6 => k_is); (case mc6 => k_is); (case mk6 => k_is)
    (case ma7 => k_is); (case mi7 => k_is); (case ml7 => k_is); (case mc7 => k_is); (case mk7 => k_is)
    (case ma8 => k_is); (case mi8 => k_is); (case ml8 => k_is); (case mc8 => k_is); (case mk8 => k_is)
    (case ma9 => k_is); (case mi9 => k_is); (case ml9 => k_is); (case mc9 => k_is); (case mk9 => k_is)
    (case xpg => k_is); (case xhd => k_is); (case xpo => k_is); (case xsa => k_is); (case xmk => k_is); (case xkc => k_is); (case xnR => k_is); (case xnA => k_is); (case xnD => k_is)
    (case xd8 => k_is); (case xd6 => k_is); (case xd4 => k_is)
    (case bA => k_is); (case bL => k_is); (case bC => k_is); (case bK => k_is); (case bD => k_is)
    (case b0 => exact fun _ _ _ _ _ _ us hl => match us, hl with | [_], _ => rfl)
    (case b1 => exact fun _ _ _ _ _ _ us hl => match us, hl with | [_], _ => rfl)
    (case b2 => exact fun _ _ _ _ _ _ us hl => match us, hl with | [_], _ => rfl)
    (case b3 => exact fun _ _ _ _ _ _ us hl => match us, hl with | [_], _ => rfl)
    (case b4 => exact fun _ _ _ _ _ _ us hl => match us, hl with | [_], _ => rfl)
    (case b5 => exact fun _ _ _ _ _ _ us hl => match us, hl with | [_], _ => rfl)
    (case b6 => exact fun _ _ _ _ _ _ us hl => match us, hl with | [_], _ => rfl)
    (case b7 => exact fun _ _ _ _ _ _ us hl => match us, hl with | [_], _ => rfl)
    (case b8 => exact fun _ _ _ _ _ _ us hl => match us, hl with | [_], _ => rfl)
    (case b9 => exact fun _ _ _ _ _ _ us hl => match us, hl with | [_], _ => rfl)
    (case b10 => exact fun _ _ _ _ _ _ us hl => match us, hl with | [_], _ => rfl)
    (case b11 => exact fun _ _ _ _ _ _ us hl => match us, hl with | [_], _ => rfl)
    (case b12 => exact fun _ _ _ _ _ _ us hl => match us, hl with | [_], _ => rfl)
    (case b13 => exact fun _ _ _ _ _ _ us hl => match us, hl with | [_], _ => rfl)
    (case b14 => exact fun _ _ _ _ _ _ us hl => match us, hl with | [_], _ => rfl)
    (case b15 => exact fun _ _ _ _ _ _ us hl => match us, hl with | [_, _], _ => rfl)
    (case b16 => exact fun _ _ _ _ _ _ us hl => match us, hl with | [_, _], _ => rfl)
    (case b17 => exact fun _ _ _ _ _ _ us hl => match us, hl with | [_, _, _], _ => rfl)
    (case b18 => exact fun _ _ _ _ _ _ us hl => match us, hl with | [_, _, _], _ => rfl)
    (case b19 => exact fun _ _ _ _ _ _ us hl => match us, hl with | [_, _, _], _ => rfl)
    (case b20 => exact fun _ _ _ _ _ _ us hl => match us, hl with | [_], _ => rfl)
    (case b21 => exact fun _ _ _ _ _ _ us hl => match us, hl with | [_], _ => rfl)
    (case b22 => exact fun _ _ _ _ _ _ us hl => match us, hl with | [_], _ => rfl)
    (case b23 => exact fun _ _ _ _ _ _ us hl => match us, hl with | [_, _], _ => rfl)
    (case a0 => k_is); (case l0 => k_is); (case c0 => k_is); (case k0 => k_is)
    (case a1 => k_is); (case l1 => k_is); (case c1 => k_is); (case k1 => k_is)
    (case a2 => k_is); (case l2 => k_is); (case c2 => k_is); (case k2 => k_is)
    (case a3 => k_is); (case l3 => k_is); (case c3 => k_is); (case k3 => k_is)
    (case a4 => k_is); (case l4 => k_is); (case c4 => k_is); (case k4 => k_is)
    (case a5 => k_is); (case l5 => k_is); (case c5 => k_is); (case k5 => k_is)
    (case a6 => k_is); (case l6 => k_is); (case c6 => k_is); (case k6 => k_is)
    (case a7 => k_is); (case l7 => k_is); (case c7 => k_is); (case k7 => k_is)
    (case a8 => k_is); (case l8 => k_is); (case c8 => k_is); (case k8 => k_is)
    (case a9 => k_is); (case l9 => k_is); (case c9 => k_is); (case k9 => k_is)
    (case a10 => k_is); (case l10 => k_is); (case c10 => k_is); (case k10 => k_is)
    (case a11 => k_is); (case l11 => k_is); (case c11 => k_is); (case k11 => k_is)
    (case a12 => k_is); (case l12 => k_is); (case c12 => k_is); (case k12 => k_is)
    (case a13 => k_is); (case l13 => k_is); (case c13 => k_is); (case k13 => k_is)
    (case a14 => k_is); (case l14 => k_is); (case c14 => k_is); (case k14 => k_is)
    (case a15 => k_is); (case l15 => k_is); (case c15 => k_is); (case k15 => k_is)
    (case a16 => k_is); (case l16 => k_is); (case c16 => k_is); (case k16 => k_is)
    (case a17 => k_is); (case l17 => k_is); (case c17 => k_is); (case k17 => k_is)
    (case a18 => k_is); (case l18 => k_is); (case c18 => k_is); (case k18 => k_is)
    (case a19 => k_is); (case l19 => k_is); (case c19 => k_is); (case k19 => k_is)
    (case a20 => k_is); (case l20 => k_is); (case c20 => k_is); (case k20 => k_is)
    (case a21 => k_is); (case l21 => k_is); (case c21 => k_is); (case k21 => k_is)
    (case a22 => k_is); (case l22 => k_is); (case c22 => k_is); (case k22 => k_is)
    (case a23 => k_is); (case l23 => k_is); (case c23 => k_is); (case k23 => k_is)
    (case z0 => k_is)
    (case z1 => k_is)
    (case z2 => k_is)
    (case z3 => k_is)
    (case z4 => k_is)
    (case z5 => k_is)
    (case z6 => k_is)
    (case z7 => k_is)
    (case z8 => k_is)
    (case z9 => k_is)
    (case z10 => k_is)
    (case z11 => k_is)
    (case z12 => k_is)
    (case a => k_is); (case l => k_is); (case c => k_is); (case k => k_is)
