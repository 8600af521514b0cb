import PyProof.Rows.All
import Wide.All
import OpenK.AllK
import Wide.FinOn
import HandS.ForMost
import HandS.Set
import HandS.SetFor
import HandS.More
import HandS.Wide
import HandS.IsInst
import HandS.WordsDict
import HandS.FStr
import HandS.TupAny
import HandS.AnyAll
import HandS.ForExc
import HandS.WordsExc
import HandS.ExcIs
import HandS.RaiseMore
import HandS.ExcOwn
import PyProof.ExcBaseAll.ValueError
import HandS.WordsList
import HandS.CallLocal
import HandS.Zip
import HandS.ListItems
import KE.KDictZip
import KE.KTurns
import HandS.Strs
import HandS.EndTab
import HandS.HeadHook3
import PySem.Challenge.RW_soothcheck_k51_parts_as_deep_as_may_be
set_option Elab.async false
set_option linter.all false
set_option maxRecDepth 100000
set_option maxHeartbeats 4000000
namespace Sc
open PySem PySem.Spec PyProof.Rows L2
/-! sets of texts: set(a list of texts), sorted of that -/
def txOf (c : Int × Value) : Str := match c.2 with | .str x _ => x | _ => Str.empty
def TxE (w : World) (c : Int × Value) : Prop := ∃ x tk, c.2 = Value.str x tk ∧ c.1 = hashStr w x
/-- a set of texts stands at a: which, how many; it can be walked -/
def TxSet (w : World) (h : Heap) (a : Addr) (S : Str → Bool) (n : Nat) : Prop :=
  ∃ ob cs ver tb, h.get? a = some ob ∧ ob.ExactSet ∧ ob.data = .set cs ver tb ∧ (∀ c ∈ cs.toList, TxE w c) ∧ (cs.toList.map txOf).Nodup ∧
    (∀ x, S x = true ↔ x ∈ cs.toList.map txOf) ∧ cs.size < scanBound ∧ tb.fits cs.size = true ∧ cs.size = n ∧ Ris tb.place.toList ∧
    (w.params.followText "set-order" = true ∨ tb.led = true)
section
variable {P : Program} {w : World} {h h' : Heap} {a : Addr} {S : Str → Bool} {n : Nat}
theorem TxSet.keep (R : TxSet w h a S n) (kp : ∀ ob, h.get? a = some ob → h'.get? a = some ob) : TxSet w h' a S n := by
  obtain ⟨ob, cs, ver, tb, hob, more⟩ := R
  exact ⟨ob, cs, ver, tb, kp ob hob, more⟩
theorem TxSet.say {S' : Str → Bool} (R : TxSet w h a S n) (same : ∀ x, S' x = S x) : TxSet w h a S' n := (funext same : S' = S) ▸ R
theorem tx_elems {l : List (Int × Value)} (g : ∀ c ∈ l, TxE w c) : ElemsOf (strKind P w) l := fun c hc => by
  obtain ⟨x, tk, h1, h2⟩ := g c hc
  refine ⟨⟨x, ?_, h2⟩, by rw [h1] <;> rfl⟩
  rw [h1]
  show Value.isStrOf x (.str x tk) = true
  simp [Value.isStrOf]
theorem tx_is {c : Int × Value} (g : TxE w c) (x : Str) : (strKind P w).is x c.2 = true ↔ txOf c = x := by
  obtain ⟨y, tk, h1, _⟩ := g
  unfold txOf
  rw [h1]
  show Value.isStrOf x (.str y tk) = true ↔ y = x
  constructor
  · intro q
    obtain ⟨t, e⟩ := Value.isStrOf_shape (x := x) (v := Value.str y tk) q
    injection e
  · rintro rfl
    simp [Value.isStrOf]
theorem tx_mem {l : List (Int × Value)} (g : ∀ c ∈ l, TxE w c) (x : Str) : x ∈ l.map txOf ↔ ∃ c ∈ l, (strKind P w).is x c.2 = true := by
  refine List.mem_map.trans ⟨fun ⟨c, hc, q⟩ => ⟨c, hc, (tx_is (g c hc) x).2 q⟩, fun ⟨c, hc, q⟩ => ⟨c, hc, (tx_is (g c hc) x).1 q⟩⟩
end
section
variable {P : Program} {w : World} {A : Around} {E : Value → Shared → Prop} {s : Shared} {a : Addr} {S : Str → Bool} {n : Nat}
theorem tx_add_tail {note : Bool → Sem Unit} (hnote : ∀ (b : Bool) (s1 : Shared) (R : Unit → Shared → Prop), R () s1 → wpAny (model P w) A (note b) R E s1)
    {ob : Obj} {cs : Array (Int × Value)} {ver : Nat} {tb : SetTable} (hob : s.heap.get? a = some ob) (ex : ob.ExactSet) (dt : ob.data = .set cs ver tb)
    {cs1 : Array (Int × Value)} {tb1 : SetTable} {S1 : Str → Bool} (gd : ∀ c ∈ cs1.toList, TxE w c) (nd : (cs1.toList.map txOf).Nodup) (mm : ∀ x, S1 x = true ↔ x ∈ cs1.toList.map txOf)
    (few : cs1.size < scanBound) (ft : tb1.fits cs1.size = true) (ri : Ris tb1.place.toList) (ld : w.params.followText "set-order" = true ∨ tb1.led = true) {dummy : Bool} {R : Option Bool → Shared → Prop}
    (fin : ∀ h', Heap.SameBut a s.heap h' → TxSet w h' a S1 cs1.size → R (some true) { s with heap := h' }) :
    wpAny (model P w) A (do
        storeSet a cs1 tb1
        if (!dummy && tb1.tooFull) = true then do
            note (relayAll tb1 cs1 (SetTable.grown cs1.size)).2.2
            storeSet a (relayAll tb1 cs1 (SetTable.grown cs1.size)).1 (relayAll tb1 cs1 (SetTable.grown cs1.size)).2.1
            pure (some true)
          else pure (some true)) R E s := by
  refine wpAny_bind (wpAny_storeSet_of hob dt ?_ (fits_of_scanBound few))
  have at1 := L2.store_at (es' := cs1) (t' := tb1) hob dt
  have sb := Heap.SameBut.update s.heap a (Obj.putSet cs1 tb1)
  by_cases hfull : (!dummy && tb1.tooFull) = true
  · rw [if_pos hfull]
    have r1 := relayAll_perm tb1 cs1 (SetTable.grown cs1.size)
    have r2 := relayAll_fits tb1 cs1 (SetTable.grown cs1.size)
    have r3 := relayAll_ris tb1 cs1 (SetTable.grown cs1.size)
    have r4 := relayAll_led tb1 cs1 (SetTable.grown cs1.size)
    generalize relayAll tb1 cs1 (SetTable.grown cs1.size) = Y at r1 r2 r3 r4 ⊢
    obtain ⟨cs2, tb2, way⟩ := Y
    dsimp only at r1 r2 r3 r4 ⊢
    have sz : cs2.size = cs1.size := by rw [← Array.length_toList, ← Array.length_toList]; exact r1.length_eq
    have few2 : cs2.size < scanBound := sz ▸ few
    refine wpAny_bind (hnote _ _ _ (wpAny_bind (wpAny_storeSet_of at1 rfl ?_ (fits_of_scanBound few2))))
    have at2 := L2.store_at (es' := cs2) (t' := tb2) at1 rfl
    refine wpAny_pure (fin _ (sb.trans (Heap.SameBut.update _ a _)) ⟨_, cs2, _, tb2, at2, ex, rfl, fun c hc => gd c (r1.mem_iff.mp hc), ?_, fun x => ?_, few2, r2, sz, r3, ?_⟩)
    · exact (r1.map txOf).nodup_iff.mpr nd
    · exact (mm x).trans (r1.map txOf).mem_iff.symm
    · exact ld.imp id fun z => r4 ▸ z
  · rw [if_neg hfull]
    exact wpAny_pure (fin _ sb ⟨_, cs1, _, tb1, at1, ex, rfl, gd, nd, mm, few, ft, rfl, ri, ld⟩)
theorem tx_add {x : Str} {tk : Tok} {Q : Bool → Shared → Prop} (R : TxSet w s.heap a S n) (room : n + 1 < scanBound)
    (fin : ∀ h', Heap.SameBut a s.heap h' → TxSet w h' a (fun y => S y || decide (y = x)) (if S x = true then n else n + 1) → Q (!S x) { s with heap := h' }) :
    wpAny (model P w) A (setAddHashed a (.str x tk) ((strKind P w).hash x)) Q E s := by
  obtain ⟨ob, cs, ver, tb, hob, ex, dt, gd, nd, mm, few, ft, sz, ri, ld⟩ := R
  have isx : (strKind P w).is x (.str x tk) = true := by
    show Value.isStrOf x (.str x tk) = true
    simp [Value.isStrOf]
  have scn : (Value.str x tk).scannable = true := rfl
  have els : ElemsOf (strKind P w) cs.toList := tx_elems gd
  unfold setAddHashed setAddHashedIn
  refine wpAny_holding (wpAny_bind (wpAny_setState_of hob dt ft ?_))
  dsimp only
  rw [byScan_of scn few els]
  simp only [↓reduceIte]
  unfold setAddByScan
  refine wpAny_bind (wpAny_bind (wpAny_rule (wpAny_bind (wpAny_setScan_of isx hob dt ft els ?_))))
  cases found : List.findIdx? (fun e => (strKind P w).is x e.2) cs.toList with
  | some j =>
    dsimp only
    obtain ⟨lt, yes, _⟩ := List.findIdx?_eq_some_iff_getElem.mp found
    have inS : S x = true := (mm x).2 ((tx_mem (P := P) (w := w) gd x).2 ⟨cs.toList[j], List.getElem_mem lt, yes⟩)
    refine wpAny_pure (wpAny_pure ?_)
    have z := fin s.heap (Heap.SameBut.refl a s.heap) ⟨ob, cs, ver, tb, hob, ex, dt, gd, nd, fun y => ?_, few, ft, by rw [if_pos inS]; exact sz, ri, ld⟩
    · rw [inS] at z
      exact z
    · rw [Bool.or_eq_true, decide_eq_true_eq, ← mm y]
      exact ⟨fun o => o.elim id fun e => e ▸ inS, .inl⟩
  | none =>
    dsimp only
    have out : x ∉ cs.toList.map txOf := fun z => by
      obtain ⟨c, hc, q⟩ := (tx_mem (P := P) (w := w) gd x).1 z
      exact absurd q (by rw [List.findIdx?_eq_none_iff.mp found c hc]; exact Bool.false_ne_true)
    have outS : S x = false := Bool.eq_false_iff.mpr fun q => out ((mm x).1 q)
    have gave : ∀ (b : Bool) {s1 : Shared} {R : Unit → Shared → Prop}, R () s1 → wpAny (model P w) A (match b with | true => rule "set.scan.the-table-gave-way" | false => pure ()) R E s1 :=
      fun b s1 R q => by cases b <;> first | exact wpAny_pure q | exact wpAny_rule q
    have l1 := layNew_perm tb cs ((strKind P w).hash x) (.str x tk)
    have l2 := layNew_fits tb cs ((strKind P w).hash x) (.str x tk)
    have l3 := layNew_ris tb cs ((strKind P w).hash x) (.str x tk) ri
    have l4 := layNew_led tb cs ((strKind P w).hash x) (.str x tk)
    generalize layNew tb cs ((strKind P w).hash x) (.str x tk) = Y at l1 l2 l3 l4 ⊢
    obtain ⟨cs1, tb1, dummy, way⟩ := Y
    dsimp only at l1 l2 l3 l4 ⊢
    rw [Array.toList_push] at l1
    have pm : cs1.toList.Perm (((strKind P w).hash x, Value.str x tk) :: cs.toList) := l1.trans (List.perm_append_singleton _ _)
    have pk : (cs1.toList.map txOf).Perm (x :: cs.toList.map txOf) := pm.map txOf
    have gd1 : ∀ c ∈ cs1.toList, TxE w c := fun c hc => (List.mem_cons.mp (pm.mem_iff.mp hc)).elim (fun z => z ▸ ⟨x, tk, rfl, rfl⟩) (gd c)
    have ndd : (cs1.toList.map txOf).Nodup := pk.nodup_iff.mpr (List.nodup_cons.mpr ⟨out, nd⟩)
    have mm1 : ∀ y, (S y || decide (y = x)) = true ↔ y ∈ cs1.toList.map txOf := fun y => by
      rw [pk.mem_iff, List.mem_cons, ← mm y, Bool.or_eq_true, decide_eq_true_eq]
      exact Or.comm
    have sz1 : cs1.size = n + 1 := by rw [← sz, ← Array.length_toList, pm.length_eq, List.length_cons, Array.length_toList]
    have few1 : cs1.size < scanBound := sz1 ▸ room
    have ld1 : w.params.followText "set-order" = true ∨ tb1.led = true := ld.imp id fun z => l4 ▸ z
    have done : ∀ h', Heap.SameBut a s.heap h' → TxSet w h' a (fun y => S y || decide (y = x)) cs1.size → Q true { s with heap := h' } := fun h' sb r => by
      have z := fin h' sb
      rw [outS] at z
      exact z (sz1 ▸ r)
    refine wpAny_bind (gave _ ?_)
    split
    · refine wpAny_bind ?_
      rw [hashByValue_scannable 8 scn]
      refine wpAny_pure (tx_add_tail (fun b s1 R q => ?_) hob ex dt gd1 ndd mm1 few1 ?_ ?_ ?_ fun h' sb r => ?_)
      · cases b <;> first | exact wpAny_pure q | exact wpAny_rule q
      · first | (split <;> first | exact l2 | exact SetTable.fits_plain_off l2) | exact l2
      · first | (split <;> exact l3) | exact l3
      · first | (split <;> exact ld1) | exact ld1
      · dsimp only
        exact wpAny_pure (done h' sb r)
    · refine wpAny_bind (wpAny_pure ?_)
      simp only [↓reduceIte]
      refine tx_add_tail (fun b s1 R q => ?_) hob ex dt gd1 ndd mm1 few1 l2 l3 ld1 fun h' sb r => ?_
      · cases b <;> first | exact wpAny_pure q | exact wpAny_rule q
      · dsimp only
        exact wpAny_pure (done h' sb r)
end

/-! the loop of update, the call set(l), sorted -/
abbrev bareSet (w : World) : Obj := { cls := .type "set", dict := none, data := .set #[] 0 (.fresh 0 0 (!w.params.followText "set-order")) }
theorem tx_bare {w : World} {h : Heap} {a : Addr} {zs : List Str} (hob : h.get? a = some (bareSet w)) : TxSet w h a (fun y => decide (y ∈ zs.take 0)) 0 := by
  refine ⟨_, #[], 0, _, hob, ⟨rfl, rfl, rfl⟩, rfl, ?_, ?_, ?_, by decide, by rfl, rfl, List.Pairwise.nil, ?_⟩
  · intro c hc
    simp at hc
  · simp
  · intro x
    simp
  · show _ ∨ (!w.params.followText "set-order") = true
    cases w.params.followText "set-order" <;> simp
section
variable {P : Program} {w : World} {A : Around} {E : Value → Shared → Prop} {s : Shared}
theorem tx_update {it : Addr} {fp wr : List Addr} {G : Array GenState → Array GenState → Prop} {n : Nat} {Pv : Nat → Value → Prop} {At : Nat → Shared → Prop} {R : Result → Shared → Prop}
    (W : WalksS P w A.in1 it fp wr G n Pv At) (d : Addr) (apart : d ∉ fp) (zs : List Str) (en : n = zs.length) (room : zs.length + 1 < scanBound) (item : ∀ i v, Pv i v → ∃ x t, zs[i]? = some x ∧ v = .str x t) :
    ∀ (left i : Nat) (s : Shared), n - i = left → i ≤ n → At i s → (∃ m, m ≤ i ∧ TxSet w s.heap d (fun y => decide (y ∈ zs.take i)) m) →
      (∀ s' m, Moved (d :: wr) G s s' → m ≤ n → TxSet w s'.heap d (fun y => decide (y ∈ zs)) m → R (.ok (.ret .none)) s') →
      codeAny (model P w) A (.builtin "set.update.loop" ⟨[.ref d, .ref it], []⟩) R s := by
  have dw : d ∉ wr := fun z => apart (W.sub _ z)
  have more : ∀ b ∈ wr, b ∈ d :: wr := fun b z => List.mem_cons_of_mem _ z
  intro left
  induction left with
  | zero =>
    intro i s el le at_ ⟨m, hm, R0⟩ go
    have ei : i = n := by omega
    subst ei
    refine codeAny_builtin PyProof.Rows.F.entry_set_update_loop ?_
    rw [Around.under_plainId PyProof.Rows.F.plain_set_update_loop _]
    show wpAny _ A.in1 (pyNext (.ref it) >>= _) _ _ s
    refine wpAny_bind (W.done s _ _ at_ fun s' mv => ?_)
    show wpAny _ A.in1 (ret Value.none) _ _ s'
    rw [show zs.take i = zs from List.take_of_length_le (by omega)] at R0
    exact wpAny_pure (go s' m (mv.mono more) hm (R0.keep fun ob e => mv.heap d ob dw e))
  | succ left ih =>
    intro i s el le at_ ⟨m, hm, R0⟩ go
    have lt : i < n := by omega
    refine codeAny_builtin PyProof.Rows.F.entry_set_update_loop ?_
    rw [Around.under_plainId PyProof.Rows.F.plain_set_update_loop _]
    show wpAny _ A.in1 (pyNext (.ref it) >>= _) _ _ s
    refine wpAny_bind (W.item i s _ _ lt at_ fun v s1 pv at1 mv => ?_)
    obtain ⟨x, t, hx, rfl⟩ := item i v pv
    have R1 : TxSet w s1.heap d (fun y => decide (y ∈ zs.take i)) m := R0.keep fun ob e => mv.heap d ob dw e
    show wpAny _ A.in1 (holding [Value.str x t] (setAdd d (.str x t)) >>= _) _ _ s1
    refine wpAny_bind (wpAny_holding ?_)
    unfold setAdd
    refine wpAny_holding (wpAny_bind ((strKind P w).pyHash (k := x) (v := .str x t) ?_ ?_))
    · show Value.isStrOf x (.str x t) = true
      simp [Value.isStrOf]
    refine tx_add (s := { s1 with toks := s1.toks + 1 }) R1 (by omega) fun h2 sb R2 => ?_
    have R3 : TxSet w h2 d (fun y => decide (y ∈ zs.take (i + 1))) (if decide (x ∈ zs.take i) = true then m else m + 1) := R2.say fun y => by
      rw [List.take_add_one, hx]
      simp [List.mem_append]
    have hm3 : (if decide (x ∈ zs.take i) = true then m else m + 1) ≤ i + 1 := by split <;> omega
    refine wpAny_pure ⟨plainId_quiet PyProof.Rows.F.plain_set_update_loop _, ih (i + 1) _ (by omega) lt (W.frame _ s1 _ _ at1 (Nat.le_succ _) fun b hb ob e => ?_) ⟨_, hm3, R3⟩ fun s3 m3 mv3 le3 R4 => ?_⟩
    · exact (sb.2 b fun z => apart (z ▸ hb)).trans e
    · refine go s3 m3 (Moved.trans W.gtrans ((mv.mono more).then_heap (Nat.le_succ _) fun b ob hb e => ?_) mv3) le3 R4
      exact (sb.2 b fun z => hb (z ▸ List.mem_cons_self)).trans e
theorem tx_item : ∀ {us : List Value} {zs : List Str}, StrsAre us zs → ∀ (i : Nat) (v : Value), us[i]? = some v → ∃ x t, zs[i]? = some x ∧ v = .str x t
  | _, _, .nil, i, v, hi => by simp at hi
  | _, _, .cons x t _, 0, v, hi => ⟨x, t, rfl, by simpa using hi.symm⟩
  | _, _, .cons _ _ rest, i + 1, v, hi => by simpa using tx_item rest i v (by simpa using hi)
/-- set(l), l a list of texts -/
theorem call_set_txs {l : Addr} {items : Array Value} (zs : List Str) {Q : Value → Shared → Prop} (calm : A.handled = none) (hl : s.heap.IsList l items) (hit : StrsAre items.toList zs) (room : zs.length + 1 < scanBound)
    (fin : ∀ (h' : Heap) (tk m : Nat), TxSet w h' s.heap.objs.size (fun y => decide (y ∈ zs)) m → m ≤ zs.length → (∀ b ob, s.heap.get? b = some ob → h'.get? b = some ob) → Q (.ref s.heap.objs.size) { s with heap := h', toks := tk }) :
    wpAny (model P w) A (call (.type "set") [.ref l]) Q E s := by
  have isz : items.size = zs.length := by
    have z := hit.length
    rw [Array.length_toList] at z
    exact z
  obtain ⟨c, tl, hmro⟩ := F.called_set.mro
  have hmade := F.called_set.made
  have hsub := F.called_set.sub
  refine wpAny_call (codeAny_of_tree ?_)
  show wpAny _ _ (callAny (.type "set") _) _ _ _
  refine wpAny_pure ⟨Code.quiet_builtin _ (by decide +kernel), codeAny_builtin F.entry_type_call ?_⟩
  rw [Around.under_plain (weight_type_call_type "set" [.ref l] []) rfl]
  have no_t := F.called_set.notType
  have can := F.called_set.canCreate
  have chk := PySem.F.typeCall_set_1 (.ref l)
  repeat (any_goals (first | assumption | wp_step))
  refine codeAny_mono (code_set_led1 (.ref l) (E := E) (Q₁ := fun obj s1 => obj = .ref s.heap.objs.size ∧ s1 = { s with heap := s.heap.push (bareSet w) }) ⟨rfl, rfl⟩) fun r s1 hr => ?_
  cases r with
  | error e => exact hr
  | ok fl =>
  cases fl with
  | next => exact hr.elim
  | brk => exact hr.elim
  | cont => exact hr.elim
  | ret obj =>
  obtain ⟨rfl, rfl⟩ := hr
  have atS : (s.heap.push (bareSet w)).get? s.heap.objs.size = some (bareSet w) := Heap.get?_push_size _ rfl
  have tyS : Shared.TypeIs { s with heap := s.heap.push (bareSet w) } (.ref s.heap.objs.size) "set" := ⟨_, atS, rfl⟩
  have ini := F.called_set.init.lookup
  have inb := F.called_set.init.bind (.ref s.heap.objs.size)
  repeat (any_goals (first | assumption | wp_step))
  refine codeAny_mono (codeAny_call_builtin (R := wants (fun r s2 => r = .none ∧ ∃ h' tk m, s2 = { s with heap := h', toks := tk } ∧ TxSet w h' s.heap.objs.size (fun y => decide (y ∈ zs)) m ∧ m ≤ zs.length ∧
      (∀ b ob, s.heap.get? b = some ob → h'.get? b = some ob)) E) F.called_set.init.plain F.entry_set_init (check_set_init_1 tyS ?_)) fun r2 s2 hr2 => ?_
  · obtain ⟨ob, hob, hc, nl, hd⟩ := hl
    obtain ⟨k1, k2, k3, k4⟩ := ob
    simp only at hc hd
    subst hc hd
    have ob1 : (s.heap.push (bareSet w)).get? l = some { cls := .type "list", dict := k2, data := .seq items nl, slots := k4 } := Heap.get?_push_of_some _ hob
    have not1 := F.sub_list_set
    have not2 := F.sub_list_frozenset
    have not3 : (Value.type "list" == Value.type "dict") = false := by decide
    have l1 : (s.heap.push (bareSet w)).IsList l items := ⟨_, ob1, rfl, nl, rfl⟩
    unfold Builtin.«set.__init__» noKeywords Builtin.Frozenset.updateFrom
    generalize hIt : pyIter = It
    wp_walk
    subst hIt
    refine wpAny_pyIter_list l1 (wpAny_bind (wpAny_runValue ?_))
    have low : l < s.heap.objs.size := Heap.lt_size hob
    have calm3 : A.in1.in1.in1.handled = none := by simp [calm]
    have one : (s.heap.push (bareSet w)).objs.size = s.heap.objs.size + 1 := Heap.size_push ..
    have n1 : l ≠ (s.heap.push (bareSet w)).objs.size := Nat.ne_of_lt (by rw [one]; exact Nat.lt_succ_of_lt low)
    have n2 : s.heap.objs.size ∉ [(s.heap.push (bareSet w)).objs.size, l] := by
      rw [List.mem_cons, List.mem_singleton, one]
      exact fun z => z.elim (Nat.ne_of_lt (Nat.lt_succ_self _)) (Nat.ne_of_gt low)
    refine tx_update ((Walks.list calm3 _ l n1 items).toS) s.heap.objs.size n2 zs isz room (fun i v hv => tx_item hit i v (by rw [Array.getElem?_toList]; exact hv)) (items.size - 0) 0 _ (by omega) (Nat.zero_le _)
      ⟨⟨_, Heap.get?_push_size _ rfl, rfl, rfl⟩, (l1.push _)⟩ ⟨0, Nat.le_refl 0, tx_bare (Heap.get?_push_of_some _ atS)⟩ ?_
    intro s3 m mv hm R3
    obtain ⟨h3, g3, d3, t3, o3⟩ := s3
    have z1 : g3 = s.gens := mv.gens
    have z2 : d3 = s.drawn := mv.drawn
    have z3 : o3 = s.os := mv.os
    subst z1 z2 z3
    show wpAny _ _ _ _ _ _
    refine wpAny_pure ?_
    show wpAny _ _ (ret Value.none) _ _ _
    refine wpAny_pure ⟨rfl, h3, t3, m, rfl, R3, isz ▸ hm, fun b ob e => ?_⟩
    have lb : b < s.heap.objs.size := Heap.lt_size e
    refine mv.heap b ob ?_ (Heap.get?_push_of_some _ (Heap.get?_push_of_some _ e))
    rw [List.mem_cons, List.mem_singleton, one]
    exact fun z => z.elim (Nat.ne_of_lt lb) (Nat.ne_of_lt (Nat.lt_succ_of_lt lb))
  · cases r2 with
    | error e => exact hr2
    | ok fl2 =>
    cases fl2 with
    | next => exact hr2.elim
    | brk => exact hr2.elim
    | cont => exact hr2.elim
    | ret r =>
    obtain ⟨rfl, h', tk, m, rfl, R2, hm, kp⟩ := hr2
    repeat (any_goals (first | assumption | wp_step))
    exact fin _ _ _ R2 hm kp

/-- sorted(d), d a set of texts -/
theorem call_sorted_txs {d : Addr} {S : Str → Bool} {n : Nat} {Q : Value → Shared → Prop} (R : TxSet w s.heap d S n) (calm : A.handled = none) (few : n < 64)
    (fin : ∀ s' p (out : Array Value) (c : Nat) (ys : List Str), (∀ b ob, s.heap.get? b = some ob → s'.heap.get? b = some ob) → s'.gens = s.gens → s'.os = s.os → s.heap.objs.size ≤ p →
      s'.heap.get? p = some (seqObj "list" out c) → StrsAre out.toList ys → sortedS ys = true → ys.Nodup → (∀ x, x ∈ ys ↔ S x = true) → ys.length = n → Q (.ref p) s') :
    wpAny (model P w) A (call (.builtin "sorted") [.ref d]) Q E s := by
  obtain ⟨ob, cs, ver, tb, hob, ex, dt, gd, nd, mm, sb, ft, sz, ri, ld⟩ := R
  refine Calls.call_function_entry PyProof.Rows.kind_sorted PyProof.Rows.plain_sorted PyProof.Rows.entry_sorted (PyProof.Rows.args_sorted1 _) ?_
  unfold Builtin.«sorted»
  refine wpAny_bind (m := checkCount "sorted" 1 1 _) (wpAny_pure ?_)
  refine wpAny_bind (collect_set (A := A.in1) calm ⟨ob, hob, ex.1, dt⟩ ft sb ri ld fun s1 us kp hz hg ho pm => ?_)
  have lu : us.length = n := by rw [pm.length_eq, List.length_map, Array.length_toList]; exact sz
  have txs : ∀ (ws : List Value), (∀ v ∈ ws, ∃ c ∈ cs.toList, v = c.2) → ∃ zs, StrsAre ws zs ∧ zs = ws.map fun v => txOf (0, v) := by
    intro ws
    induction ws with
    | nil => exact fun _ => ⟨[], .nil, rfl⟩
    | cons v ws ih =>
      intro al
      obtain ⟨zs, h1, h2⟩ := ih fun u hu => al u (List.mem_cons_of_mem _ hu)
      obtain ⟨c, hc, rfl⟩ := al v List.mem_cons_self
      obtain ⟨x, tk, e, _⟩ := gd c hc
      refine ⟨x :: zs, ?_, ?_⟩
      · rw [e]; exact .cons x tk h1
      · rw [List.map_cons, ← h2]
        unfold txOf
        rw [e]
  obtain ⟨zs, hS, ez⟩ := txs us fun v hv => by
    obtain ⟨c, hc, e⟩ := List.mem_map.mp (pm.mem_iff.mp hv)
    exact ⟨c, hc, e.symm⟩
  have pz : zs.Perm (cs.toList.map txOf) := by
    rw [ez]
    have z := pm.map fun v => txOf ((0 : Int), v)
    rw [List.map_map] at z
    exact z
  refine wpAny_bind (wpAny_newList ?_ (by rw [lu, sizeLine_eq]; omega))
  have atL : (s1.heap.push (seqObj "list" us.toArray 0)).get? s1.heap.objs.size = some (seqObj "list" us.toArray 0) := Heap.get?_push_size _ rfl
  refine wpAny_bind (wpAny_holding (wpAny_call_entry PyProof.Rows.slot_list_sort ⟨_, atL, rfl⟩ PyProof.Rows.entry_list_sort
    (list_sort_treeK strKind_oneLt atL hS.keysOf (fun u1 u2 more e => keyKind_strs (by rw [← e]; exact hS)) (by rw [lu]; exact few) fun st pp sp => ⟨_, rfl, ?_⟩) (PyProof.Rows.args_list_sort _)))
  obtain ⟨ys, g1, g2, g3⟩ := sorted_out_str hS pp sp
  obtain ⟨c, hc⟩ := PyProof.Rows.sortedHeap_at (vs := us) (out := (arrOf st).map (·.2)) atL
  have py := g2.trans pz
  refine wpAny_pure ⟨_, rfl, fin _ s1.heap.objs.size ((arrOf st).map (·.2)) c ys (fun b u e => ?_) hg ho hz hc g1 g3 (py.nodup_iff.mpr nd) (fun x => py.mem_iff.trans (mm x).symm) ?_⟩
  · have lt := Heap.lt_size (kp b u e)
    show (PyProof.Rows.sortedHeap (s1.heap.push (seqObj "list" us.toArray 0)) s1.heap.objs.size us _).get? b = some u
    rw [PyProof.Rows.sortedHeap_old (Nat.ne_of_lt lt) (by rw [size_push']; exact Nat.lt_succ_of_lt lt)]
    exact Heap.get?_push_of_some _ (kp b u e)
  · rw [py.length_eq, List.length_map, Array.length_toList]; exact sz
end
/-! as rules -/
def TxO (w : World) (a : Addr) (S : Str → Bool) (n : Nat) : HO := .ext fun h => TxSet w h a S n
section
variable {X : Cx}
def rTxSet (K : PySem.W.Frag) (w : World) : List V → Hp → VK → Prop := fun xs H Q => ∃ (l : Addr) (zs : List Str), xs = [V.ref l] ∧ SqL K H l (zs.map V.str) ∧ zs.length < 1000 ∧
  ∀ a m, H a = none → m ≤ zs.length → Q (.ref a) (upd H a (TxO w a (fun y => decide (y ∈ zs)) m))
theorem cr_txSet (hc : X.calm = true) : CallR X (.type "set") (rTxSet X.K X.w) := by
  intro pins s σ H xs us Q I r h
  obtain ⟨l, zs, rfl, hl, few, q⟩ := h
  rw [Vals.ref1 r]
  obtain ⟨its, rv, pl, hz⟩ := I.list hl
  have free : H s.heap.objs.size = none := I.hok.fresh (Nat.le_refl _)
  refine call_set_txs (P := X.prog) (w := X.w) zs (I.ok.hd hc) pl.isList rv.strs (by unfold scanBound; omega) fun h' tk m R hm kp => ?_
  have R' : ∀ H2 : Hp, ObjOk X.prog X.w H2 h' s.heap.objs.size (TxO X.w s.heap.objs.size (fun y => decide (y ∈ zs)) m) := fun H2 => by
    have ⟨ob, _, _, _, hob, _⟩ := R
    exact ⟨R, ⟨ob, hob⟩, fun h1 h2 p k => p.keep k⟩
  exact ⟨.ref s.heap.objs.size, _, I.laid (t' := tk) kp (Nat.le_refl _) (R' _), rfl, q _ m free hm⟩
def rTxSorted (w : World) : List V → Hp → VK → Prop := fun xs H Q => ∃ (d : Addr) (S : Str → Bool) (n : Nat), xs = [V.ref d] ∧ H d = some (TxO w d S n) ∧ n < 64 ∧
  ∀ (ys : List Str) (p : Addr), sortedS ys = true → ys.Nodup → (∀ x, x ∈ ys ↔ S x = true) → ys.length = n → H p = none → Q (.ref p) (upd H p (.lst (ys.map V.str)))
theorem cr_txSorted (hc : X.calm = true) : CallR X (.builtin "sorted") (rTxSorted X.w) := by
  intro pins s σ H xs us Q I r h
  obtain ⟨d, S, n, rfl, hd, few, q⟩ := h
  have R : TxSet X.w s.heap d S n := (I.hok d _ hd).1
  rw [Vals.ref1 r]
  refine call_sorted_txs (P := X.prog) R (I.ok.hd hc) few fun s' p out c ys kp hg ho hp at' hS so nd mem len => ?_
  have le : (ys.map V.str).length ≤ sizeLine := by rw [List.length_map, len, sizeLine_eq]; omega
  have free : H p = none := I.hok.fresh hp
  have J : Inv X pins σ (upd H p (.lst (ys.map V.str))) { s with heap := s'.heap, gens := s'.gens, drawn := s'.drawn, toks := s'.toks } :=
    I.call (ch := []) (Un.laid kp hp free) (I.hok.laid kp hp ⟨le, out.toList, c, vals_of_strs hS, at'⟩) (by rw [hg]; exact I.bare) (fun _ z => nomatch z)
  have e : s' = { s with heap := s'.heap, gens := s'.gens, drawn := s'.drawn, toks := s'.toks } := by
    obtain ⟨h1, h2, h3, h4, h5⟩ := s'
    cases ho
    rfl
  rw [e]
  exact ⟨.ref p, _, J, rfl, q ys p so nd mem len free⟩
end
end Sc
namespace Sc
open PySem PySem.Spec PyProof.Rows L2
/-! one sign, many times -/
def reps (c n : Nat) : Str := ⟨(List.replicate n c).toArray⟩
theorem fold_reps (c : Nat) : ∀ (n : Nat) (acc : Array Nat), (List.replicate n #[c]).foldl (· ++ ·) acc = acc ++ (List.replicate n c).toArray
  | 0, acc => by simp
  | n + 1, acc => by
    rw [List.replicate_succ, List.foldl_cons, fold_reps c n]
    apply Array.ext'
    simp [List.replicate_succ]
section
variable {X : Cx}
def rReps : V → V → Hp → VK → Prop := fun x y H Q => ∃ (c : Nat) (k : Int), x = .str ⟨#[c]⟩ ∧ y = .int k ∧ 0 ≤ k ∧ k ≤ 1000 ∧ Q (.str (reps c k.toNat)) H
theorem op_reps : OpR X (binaryOp .Mult) rReps := by
  intro pins s σ H x y v u Q I rx ry h
  obtain ⟨c, k, rfl, rfl, h0, h1, q⟩ := h
  obtain ⟨t, rfl⟩ := rx
  obtain ⟨t', rfl⟩ := ry
  have ln : (⟨#[c]⟩ : Str).length = 1 := rfl
  refine PySem.P.mul_str (by rw [decide_eq_false (by omega), decide_eq_false (by omega)]; rfl) (fun a b => ?_) (fun a b => ?_) ?_
  · rw [ln]
    have hk : k ≠ 0 := by omega
    have : 1 * k ≤ 2 ^ 63 - 1 := by omega
    have := (Int.le_ediv_iff_mul_le (a := 1) (b := 2 ^ 63 - 1) (c := k) (by omega)).mpr this
    show ¬ (1 : Int) > (2 ^ 63 - 1) / k
    omega
  · rw [ln]
    unfold Builtin.Str.tooLong
    rw [decide_eq_false]
    rw [sizeLine_eq]
    omega
  · by_cases a : k < 1
    · rw [if_pos a]
      have e : reps c k.toNat = Str.empty := by rw [show k.toNat = 0 by omega]; rfl
      rw [e] at q
      exact ⟨by decide, ⟨.str Str.empty, H, I.tok _, ⟨_, rfl⟩, q⟩⟩
    · rw [if_neg a]
      by_cases b : k = 1
      · subst b
        simp only [beq_self_eq_true, Bool.true_or, if_true]
        exact ⟨.str ⟨#[c]⟩, H, I, ⟨_, rfl⟩, q⟩
      · have e : (k == 1 || (⟨#[c]⟩ : Str).length == 0) = false := by
          rw [ln]
          simp [b]
        rw [if_neg (by rw [e]; exact Bool.false_ne_true)]
        have e2 : (⟨(List.replicate k.toNat (⟨#[c]⟩ : Str).cps).foldl (· ++ ·) #[]⟩ : Str) = reps c k.toNat := by
          unfold reps
          rw [show (⟨#[c]⟩ : Str).cps = #[c] from rfl, fold_reps]
          simp
        rw [e2]
        refine ⟨?_, ⟨.str (reps c k.toNat), H, I.tok _, ⟨_, rfl⟩, q⟩⟩
        show (reps c k.toNat).cps.size ≤ _
        unfold reps
        rw [List.size_toArray, List.length_replicate]
        first | omega | (rw [sizeLine_eq]; omega)
end

/-! ### defs that may be called, defs that stand -/
structure Cal (P : Program) (w : World) (K : PySem.W.Frag) (mg : Str → Option Value) (base : Heap) (k : Nat) (x : Str) (ps : List Str) (sp : Sp) : Prop where
  ex : ∃ f fd, FnOk P w K mg base CX0 k f fd ps sp ∧ mg x = some (.ref f) ∧ PySem.W.keepIn K (.ref f) = true ∧ Binds K fd ps []
structure Def (K : PySem.W.Frag) (mg : Str → Option Value) (x : Str) (st : Stmt) (ps : List Str) : Prop where
  ex : ∃ f fd, Fun K x x st f fd ∧ mg x = some (.ref f) ∧ Binds K fd ps []
theorem Cal.mono {P : Program} {w : World} {K : PySem.W.Frag} {mg : Str → Option Value} {base : Heap} {j k : Nat} {x : Str} {ps : List Str} {sp : Sp} (C : Cal P w K mg base j x ps sp) (h : j ≤ k) : Cal P w K mg base k x ps sp := by
  obtain ⟨f, fd, a, b⟩ := C.ex
  exact ⟨f, fd, a.mono h, b⟩
theorem Cal.imp {P : Program} {w : World} {K : PySem.W.Frag} {mg : Str → Option Value} {base : Heap} {k : Nat} {x : Str} {ps : List Str} {sp sp' : Sp} (C : Cal P w K mg base k x ps sp) (h : ∀ vs H Q E, sp' vs H Q E → sp vs H Q E) : Cal P w K mg base k x ps sp' := by
  obtain ⟨f, fd, a, b⟩ := C.ex
  exact ⟨f, fd, a.imp h, b⟩
theorem Def.never {P : Program} {w : World} {K : PySem.W.Frag} {mg : Str → Option Value} {base : Heap} {x : Str} {st : Stmt} {ps : List Str} {sp : Sp} (D : Def K mg x st ps) (no : ∀ vs H Q E, ¬ sp vs H Q E) : Cal P w K mg base 0 x ps sp := by
  obtain ⟨f, fd, F, m, b⟩ := D.ex
  exact ⟨f, fd, ⟨fun vs H Q E h => absurd h (no vs H Q E), fun A outer s H args us vs Q E _ _ _ _ h => absurd h (no vs H Q E)⟩, m, F.kp, b⟩
theorem Def.ok {P : Program} {w : World} {K : PySem.W.Frag} {mg : Str → Option Value} {base : Heap} {x : Str} {st : Stmt} {N ps : List Str} {k : Nat} {sp : Sp} (D : Def K mg x st ps) (S : FnScope N ps (defScope st)) (len : ∀ vs H Q E, sp vs H Q E → vs.length = ps.length)
    (body : ∀ (f : Addr) (cdv : Value) (A : Around) (outer : List Env) (s : Shared) (H : Hp) (vs : List V) (Q : VK) (E : XK), Room k (A.deeper (envOfC x (defScope st) s.heap.objs.size f cdv)) → sp vs H Q E →
      ∃ t, PSs (cxOf CX0 P w K mg base N x (defScope st) f cdv A outer s H E).nox (defBody st) t ∧ t { nx := fun _ H' => Q .non H', rt := Q } (start N vs) H) : Cal P w K mg base (k + 1) x ps sp := by
  obtain ⟨f, fd, F, m, b⟩ := D.ex
  exact ⟨f, fd, F.ok S len fun cdv A outer s H vs Q E hr h => body f cdv A outer s H vs Q E hr h, m, F.kp, b⟩
section
variable {X : Cx} {k : Nat} {x : Str} {ps : List Str} {sp : Sp} {e : Expr} {es : List Expr} {t : TA} {p pos : Pos}
theorem pe_cal (C : Cal X.prog X.w X.K X.mg X.base k x ps sp) (hr : Room k X.A) (ha : PA X (e :: es) t) (hg : Gl X x := by rfl) (hdb : (x == ("__debug__" : Str)) = false := by decide)
    (he : starEach (e :: es) X.env = (false, eval e X.env) :: starEach es X.env := by rfl) (hpl : (backTo pos (starEach es X.env)).any (·.1) = false := by rfl) :
    PE X (.Call (.Name x p) (e :: es) [] pos) (tCall sp [] E0 t) := by
  obtain ⟨f, fd, F, m, kp, b⟩ := C.ex
  exact pe_call F hr hg m kp b .nil pass0 ha hdb he hpl
end
/-! ### heaps -/
/-- all that was tracked, but what stands at s, is as it was -/
def Ext (s : Addr) (H H' : Hp) : Prop := ∀ b o, b ≠ s → H b = some o → H' b = some o
theorem Ext.refl (s : Addr) (H : Hp) : Ext s H H := fun _ _ _ h => h
theorem Ext.trans {s : Addr} {H H1 H2 : Hp} (a : Ext s H H1) (b : Ext s H1 H2) : Ext s H H2 := fun c o n h => b c o n (a c o n h)
theorem Ext.upd (s : Addr) (H : Hp) (o : HO) : Ext s H (upd H s o) := fun b u n h => by rw [upd_ne n]; exact h
theorem Ext.new {s p : Addr} {H : Hp} (o : HO) (hp : H p = none) : Ext s H (L2.upd H p o) := fun b u _ h => by
  rw [upd_ne (ne_of_none h hp)]; exact h
theorem Ext.same {s : Addr} {H H' : Hp} (e : Same H H') : Ext s H H' := fun b o _ h => e b o h
theorem same_new {H : Hp} {p : Addr} (h : H p = none) (o : HO) : Same H (upd H p o) := fun b u q => by rw [upd_ne (ne_of_none q h)]; exact q
theorem Ext.free {s l : Addr} {H H' : Hp} {o : HO} (e : Ext s H H') (hs : H s = some o) (hs' : ∃ o', H' s = some o') (h : H' l = none) : H l = none := by
  by_cases z : l = s
  · subst z
    obtain ⟨o', e'⟩ := hs'
    rw [e'] at h
    cases h
  · cases q : H l with
    | none => rfl
    | some u => rw [e l u z q] at h; cases h
theorem Ext.seq {K : PySem.W.Frag} {s a : Addr} {H H' : Hp} {kvs : List (Key × V)} {xs : List V} (e : Ext s H H') (hs : H s = some (.dK kvs)) (h : SqL K H a xs) : SqL K H' a xs := by
  have ne : ∀ o, (∀ q : HO.dK kvs = o, False) → H a = some o → a ≠ s := fun o hq ha z => by
    subst z; rw [hs] at ha; exact hq (Option.some.inj ha)
  rcases h with (h | ⟨o, h⟩) | h
  · exact .inl (.inl (e _ _ (ne _ (fun q => by cases q) h) h))
  · exact .inl (.inr ⟨o, e _ _ (ne _ (fun q => by cases q) h) h⟩)
  · exact .inr h
theorem Ext.tup {K : PySem.W.Frag} {s a : Addr} {H H' : Hp} {kvs : List (Key × V)} {xs : List V} (e : Ext s H H') (hs : H s = some (.dK kvs)) (h : SqT K H a xs) : SqT K H' a xs := by
  have ne : ∀ o, (∀ q : HO.dK kvs = o, False) → H a = some o → a ≠ s := fun o hq ha z => by
    subst z; rw [hs] at ha; exact hq (Option.some.inj ha)
  rcases h with (h | ⟨o, h⟩) | h
  · exact .inl (.inl (e _ _ (ne _ (fun q => by cases q) h) h))
  · exact .inl (.inr ⟨o, e _ _ (ne _ (fun q => by cases q) h) h⟩)
  · exact .inr h
theorem Same.tup {K : PySem.W.Frag} {a : Addr} {H H' : Hp} {xs : List V} (e : Same H H') (h : SqT K H a xs) : SqT K H' a xs := by
  rcases h with (h | ⟨o, h⟩) | h
  · exact .inl (.inl (e _ _ h))
  · exact .inl (.inr ⟨o, e _ _ h⟩)
  · exact .inr h
/-- tuples are kept: what a kind wants -/
def Keep (K : PySem.W.Frag) (H H' : Hp) : Prop := ∀ a xs, SqT K H a xs → SqT K H' a xs
theorem Keep.refl {K : PySem.W.Frag} (H : Hp) : Keep K H H := fun _ _ h => h
theorem Keep.trans {K : PySem.W.Frag} {H H1 H2 : Hp} (e : Keep K H H1) (f : Keep K H1 H2) : Keep K H H2 := fun _ _ h => f _ _ (e _ _ h)
theorem Ext.keep {K : PySem.W.Frag} {s : Addr} {H H' : Hp} {kvs : List (Key × V)} (e : Ext s H H') (hs : H s = some (.dK kvs)) : Keep K H H' := fun _ _ h => e.tup hs h
theorem Same.keep {K : PySem.W.Frag} {H H' : Hp} (e : Same H H') : Keep K H H' := fun _ _ h => Same.tup e h
/-- what may be stored to -/
def Soft : HO → Prop
  | .lst _ => True
  | .dK _ => True
  | _ => False
theorem Keep.upd {K : PySem.W.Frag} {H : Hp} {D : Addr} {o0 : HO} (h : H D = some o0) (t : Soft o0) (o : HO) : Keep K H (L2.upd H D o) := fun a xs q => by
  have ne : ∀ u, H a = some u → ¬ Soft u → a ≠ D := fun u e n z => by
    subst z
    rw [h] at e
    exact n (Option.some.inj e ▸ t)
  rcases q with (q | ⟨u, q⟩) | q
  · exact .inl (.inl (by rw [upd_ne (ne _ q (fun z => z))]; exact q))
  · exact .inl (.inr ⟨u, by rw [upd_ne (ne _ q (fun z => z))]; exact q⟩)
  · exact .inr q
/-- data of tuples, texts, numbers, truths, None -/
inductive Dt (K : PySem.W.Frag) (H : Hp) : V → PyData → Prop
  | non : Dt K H .non .none
  | bl (b : Bool) : Dt K H (.bl b) (.bool b)
  | int (i : Int) : Dt K H (.int i) (.int i)
  | str (x : Str) : Dt K H (.str x) (.str x)
  | tup {a : Addr} (vs : List V) {ds : List PyData} : SqT K H a vs → vs.length = ds.length → (∀ (j : Nat) (v : V) (d : PyData), vs[j]? = some v → ds[j]? = some d → Dt K H v d) → Dt K H (.ref a) (.tuple ds)
def Dts (K : PySem.W.Frag) (H : Hp) (vs : List V) (ds : List PyData) : Prop := vs.length = ds.length ∧ ∀ (j : Nat) (v : V) (d : PyData), vs[j]? = some v → ds[j]? = some d → Dt K H v d
theorem Dts.nil {K : PySem.W.Frag} {H : Hp} : Dts K H [] [] := ⟨rfl, fun j v d h => by simp at h⟩
theorem Dts.cons {K : PySem.W.Frag} {H : Hp} {v : V} {d : PyData} {vs : List V} {ds : List PyData} (h : Dt K H v d) (t : Dts K H vs ds) : Dts K H (v :: vs) (d :: ds) := ⟨congrArg (· + 1) t.1, fun j u e h1 h2 => by
  cases j with
  | zero => cases h1; cases h2; exact h
  | succ j => exact t.2 j u e h1 h2⟩
theorem Dts.head {K : PySem.W.Frag} {H : Hp} {v : V} {d : PyData} {vs : List V} {ds : List PyData} (h : Dts K H (v :: vs) (d :: ds)) : Dt K H v d := h.2 0 v d rfl rfl
theorem Dts.tail {K : PySem.W.Frag} {H : Hp} {v : V} {d : PyData} {vs : List V} {ds : List PyData} (h : Dts K H (v :: vs) (d :: ds)) : Dts K H vs ds := ⟨Nat.succ.inj h.1, fun j u e h1 h2 => h.2 (j + 1) u e h1 h2⟩
theorem Dts.at {K : PySem.W.Frag} {H : Hp} {vs : List V} {ds : List PyData} {j : Nat} {v : V} (h : Dts K H vs ds) (e : vs[j]? = some v) : ∃ d, ds[j]? = some d ∧ Dt K H v d := by
  have lt : j < ds.length := h.1 ▸ (List.getElem?_eq_some_iff.mp e).1
  exact ⟨ds[j], List.getElem?_eq_getElem lt, h.2 j v _ e (List.getElem?_eq_getElem lt)⟩
theorem Dts.snoc {K : PySem.W.Frag} {H : Hp} {v : V} {d : PyData} {vs : List V} {ds : List PyData} (t : Dts K H vs ds) (h : Dt K H v d) : Dts K H (vs ++ [v]) (ds ++ [d]) := by
  refine ⟨by rw [List.length_append, List.length_append, t.1]; rfl, fun j u e h1 h2 => ?_⟩
  by_cases lt : j < vs.length
  · rw [List.getElem?_append_left lt] at h1
    rw [List.getElem?_append_left (t.1 ▸ lt)] at h2
    exact t.2 j u e h1 h2
  · rw [List.getElem?_append_right (by omega)] at h1
    rw [List.getElem?_append_right (by have := t.1; omega)] at h2
    have z : j - vs.length = 0 := by
      have := (List.getElem?_eq_some_iff.mp h1).1
      simp at this
      omega
    rw [z] at h1
    rw [← t.1, z] at h2
    cases h1; cases h2; exact h
theorem Dts.tup {K : PySem.W.Frag} {H : Hp} {a : Addr} {vs : List V} {ds : List PyData} (t : Dts K H vs ds) (h : SqT K H a vs) : Dt K H (.ref a) (.tuple ds) := .tup vs h t.1 t.2
theorem Dt.open {K : PySem.W.Frag} {H : Hp} {v : V} {ds : List PyData} (h : Dt K H v (.tuple ds)) : ∃ a vs, v = .ref a ∧ SqT K H a vs ∧ Dts K H vs ds := by
  cases h with
  | tup vs hs hl ha => exact ⟨_, vs, rfl, hs, hl, ha⟩
theorem Keep.dt {K : PySem.W.Frag} {H H' : Hp} (e : Keep K H H') {v : V} {d : PyData} (h : Dt K H v d) : Dt K H' v d := by
  induction h with
  | non => exact .non
  | bl b => exact .bl b
  | int i => exact .int i
  | str x => exact .str x
  | tup vs hs hl _ ih => exact .tup vs (e _ _ hs) hl ih
theorem Keep.dts {K : PySem.W.Frag} {H H' : Hp} (e : Keep K H H') {vs : List V} {ds : List PyData} (h : Dts K H vs ds) : Dts K H' vs ds := ⟨h.1, fun j v d a b => e.dt (h.2 j v d a b)⟩
theorem dpAll_of {K : PySem.W.Frag} {H : Hp} : ∀ {vs : List V} {ds : List PyData}, vs.length = ds.length → (∀ (j : Nat) (v : V) (d : PyData), vs[j]? = some v → ds[j]? = some d → Dp K H v d) → DpAll K H vs ds
  | [], [], _, _ => .nil
  | v :: vs, d :: ds, hl, h => .cons (h 0 v d rfl rfl) (dpAll_of (Nat.succ.inj hl) fun j u e a b => h (j + 1) u e a b)
theorem Dt.dp {K : PySem.W.Frag} {H : Hp} {v : V} {d : PyData} (h : Dt K H v d) : Dp K H v d := by
  induction h with
  | non => exact .non
  | bl b => exact .bl b
  | int i => exact .int i
  | str x => exact .str x
  | tup vs hs hl _ ih => exact .tup hs (dpAll_of hl ih)
/-! ### a law's state -/
structure Inf where
  c : Addr
  f : Addr
  size : Int
  place : Int
  turn : Int
  odd : Int
  talk : Int
structure Mv where
  att : Int
  rest : Int
  seed : Int
def stD (i : Inf) (m : Mv) : List (Key × V) :=
  [(.inr "cells", .ref i.c), (.inr "at", .int m.att), (.inr "rest", .int m.rest), (.inr "size", .int i.size), (.inr "place", .int i.place), (.inr "turn", .int i.turn),
   (.inr "talk", .int i.talk), (.inr "odd", .int i.odd), (.inr "functions", .ref i.f), (.inr "seed", .int m.seed)]
theorem p_at (i : Inf) (m : Mv) (n : Int) : putK (stD i m) (.inr "at") (.int n) = stD i { m with att := n } := by rfl
theorem p_rest (i : Inf) (m : Mv) (n : Int) : putK (stD i m) (.inr "rest") (.int n) = stD i { m with rest := n } := by rfl
theorem p_seed (i : Inf) (m : Mv) (n : Int) : putK (stD i m) (.inr "seed") (.int n) = stD i { m with seed := n } := by rfl
theorem p_size (i : Inf) (m : Mv) (n : Int) : putK (stD i m) (.inr "size") (.int n) = stD { i with size := n } m := by rfl
theorem p_place (i : Inf) (m : Mv) (n : Int) : putK (stD i m) (.inr "place") (.int n) = stD { i with place := n } m := by rfl
theorem p_turn (i : Inf) (m : Mv) (n : Int) : putK (stD i m) (.inr "turn") (.int n) = stD { i with turn := n } m := by rfl
theorem p_talk (i : Inf) (m : Mv) (n : Int) : putK (stD i m) (.inr "talk") (.int n) = stD { i with talk := n } m := by rfl
structure Inf.Ok (i : Inf) : Prop where
  s1 : 1 ≤ i.size
  s8 : i.size ≤ 8
  p0 : 0 ≤ i.place
  p1 : i.place < i.size
  t0 : 0 ≤ i.turn
  t1 : i.turn < 26
  k0 : 0 ≤ i.talk
  k1 : i.talk ≤ 1
structure Mv.Ok (m : Mv) : Prop where
  a0 : 0 ≤ m.att
  r0 : 0 ≤ m.rest
  e0 : 0 ≤ m.seed
/-- at s stands a law's state -/
def IsS (K : PySem.W.Frag) (H : Hp) (s : Addr) (i : Inf) : Prop := ∃ (ns : List Int) (m : Mv),
  H s = some (.dK (stD i m)) ∧ SqL K H i.c (ns.map V.int) ∧ ns.length ≤ 63 ∧ i.Ok ∧ m.Ok
theorem IsS.dk {K : PySem.W.Frag} {H : Hp} {s : Addr} {i : Inf} (h : IsS K H s i) : ∃ kvs, H s = some (.dK kvs) := let ⟨_, _, h, _⟩ := h; ⟨_, h⟩
theorem IsS.same {K : PySem.W.Frag} {H H' : Hp} {s : Addr} {i : Inf} (h : IsS K H s i) (e : Same H H') : IsS K H' s i := by
  obtain ⟨ns, m, a, b, c⟩ := h
  exact ⟨ns, m, e _ _ a, Same.seq e b, c⟩
theorem IsS.keep {K : PySem.W.Frag} {H H' : Hp} {s : Addr} {i : Inf} (h : IsS K H s i) (e : Ext s H H') : Keep K H H' := by
  obtain ⟨kvs, hk⟩ := h.dk
  exact e.keep hk
theorem IsS.seq {K : PySem.W.Frag} {H H' : Hp} {s a : Addr} {i : Inf} {xs : List V} (h : IsS K H s i) (e : Ext s H H') (q : SqL K H a xs) : SqL K H' a xs := by
  obtain ⟨kvs, hk⟩ := h.dk
  exact e.seq hk q
theorem IsS.ne {K : PySem.W.Frag} {H : Hp} {s D : Addr} {i : Inf} (h : IsS K H s i) (hD : H D = none) : D ≠ s := fun z => by
  obtain ⟨kvs, hk⟩ := h.dk
  rw [z, hk] at hD
  cases hD
/-- a list that is filled at D stands beside the state -/
theorem IsS.over {K : PySem.W.Frag} {H1 H3 : Hp} {s D : Addr} {i : Inf} {o : HO} (a : IsS K H1 s i) (b : IsS K H3 s i) (x : Ext s H1 (upd H3 D o)) (n : D ≠ s) : IsS K (upd H3 D o) s i := by
  obtain ⟨ns, m, a1, a2, a3, a4, _⟩ := a
  obtain ⟨_, m3, b1, _, _, _, b5⟩ := b
  exact ⟨ns, m3, by rw [upd_ne n.symm]; exact b1, x.seq a1 a2, a3, a4, b5⟩
theorem Ext.over {H1 H3 : Hp} {s D : Addr} (x : Ext s H1 H3) (hD : H1 D = none) (o : HO) : Ext s H1 (L2.upd H3 D o) := fun b u n h => by
  rw [upd_ne (ne_of_none h hD)]
  exact x b u n h
theorem gS {H : Hp} {s : Addr} {i : Inf} {m : Mv} {k : Str} {v : V} (h : H s = some (.dK (stD i m))) (e : valV (stD i m) (.inr k) = some v) : DGet H s (.str k) (some v) := by
  rw [← e]; exact DGet.k (k := Sum.inr k) h
theorem pS {H : Hp} {s : Addr} {i i' : Inf} {m m' : Mv} {k : Str} {v : V} (h : H s = some (.dK (stD i m))) (e : putK (stD i m) (.inr k) v = stD i' m') : DPut H s (.str k) v (upd H s (.dK (stD i' m'))) := by
  rw [← e]; exact DPut.k (k := Sum.inr k) h (by show 10 < sizeLine; decide)
/-- what a drawn number promises -/
def spTaken (K : PySem.W.Frag) : Sp := fun vs H Q _ => ∃ (s : Addr) (i : Inf) (m : Int), vs = [.ref s, .int m] ∧ IsS K H s i ∧ 0 < m ∧ m.natAbs < 2 ^ 200 ∧
  ∀ (r : Int) (H' : Hp), 0 ≤ r → r < m → Ext s H H' → IsS K H' s i → Q (.int r) H'
end Sc
namespace Sc
open PySem PySem.Spec PyProof.Rows L2
/-- the state that a law begins with -/
def spBegun (K : PySem.W.Frag) : Sp := fun vs H Q _ => ∃ (c : Addr) (ns : List Int), vs = [.ref c] ∧ SqL K H c (ns.map V.int) ∧ ns.length ≤ 63 ∧
  ∀ (s : Addr) (i : Inf) (H' : Hp), Same H H' → H s = none → i.c = c → i.odd = 0 → H' i.f = some (.lst []) → H i.f = none → IsS K H' s i → Q (.ref s) H'
end Sc
namespace Sc
open PySem PySem.Spec PyProof.Rows L2
/-! ### words -/
/-- one to eight of the letters from a to z -/
def Word (z : Str) : Prop := 1 ≤ z.cps.toList.length ∧ z.cps.toList.length ≤ 8 ∧ ∀ c ∈ z.cps.toList, 97 ≤ c ∧ c ≤ 122
def talks : List Str := ["size", "at", "row", "is", "has", "get", "put", "look", "let", "each", "fold", "if", "plus", "minus", "join", "push", "name", "text", "book"]
def signAt (n : Nat) : Str := ⟨#[n]⟩
/-- the word of a number -/
def wordOf (i : Inf) (k : Int) : Str :=
  if i.talk = 1 ∧ k < 19 then talks.getD k.toNat Str.empty else reps 113 i.place.toNat ++ signAt (97 + ((k + i.turn) % 26).toNat) ++ reps 113 (i.size - i.place - 1).toNat
theorem app_list (x y : Str) : (x ++ y).cps.toList = x.cps.toList ++ y.cps.toList := Array.toList_append
theorem len_list (x : Str) : x.length = x.cps.toList.length := (Array.length_toList ..).symm
theorem reps_list (c n : Nat) : (reps c n).cps.toList = List.replicate n c := rfl
instance (z : Str) : Decidable (Word z) := by unfold Word; infer_instance
theorem talks_word : ∀ z ∈ talks, Word z := by decide +kernel
theorem word_of {i : Inf} (h : i.Ok) {k : Int} (k0 : 0 ≤ k) : Word (wordOf i k) := by
  unfold wordOf
  split
  · rename_i c
    have lt : k.toNat < talks.length := by show k.toNat < 19; omega
    rw [List.getD_eq_getElem?_getD, List.getElem?_eq_getElem lt]
    exact talks_word _ (List.getElem_mem lt)
  · obtain ⟨s1, s8, p0, p1, t0, t1, _, _⟩ := h
    refine ⟨?_, ?_, fun c hc => ?_⟩
    · rw [app_list, app_list, reps_list, reps_list, List.length_append, List.length_append, List.length_replicate, List.length_replicate]
      show 1 ≤ _ + 1 + _
      omega
    · rw [app_list, app_list, reps_list, reps_list, List.length_append, List.length_append, List.length_replicate, List.length_replicate]
      show _ + 1 + _ ≤ 8
      omega
    · rw [app_list, app_list, reps_list, reps_list, List.mem_append, List.mem_append, List.mem_replicate, List.mem_replicate] at hc
      rcases hc with (hc | hc) | hc
      · omega
      · have e : c = 97 + ((k + i.turn) % 26).toNat := List.mem_singleton.mp hc
        omega
      · omega
def spWord (K : PySem.W.Frag) : Sp := fun vs H Q _ => ∃ (s : Addr) (i : Inf) (k : Int), vs = [.ref s, .int k] ∧ IsS K H s i ∧ 0 ≤ k ∧
  ∀ (H' : Hp), Same H H' → Q (.str (wordOf i k)) H'
/-! ### kinds -/
inductive Ch where
  | num | txt
  | row (k : List Ch) | book (k : List Ch)
  | shape (fs : List (Str × List Ch))
  | letter (l : Str) | cut (l : Str) (hs : List Str)
  | any (w : Str) | wth (f : Str)
mutual
/-- a choice as Python's data -/
def pyC : Ch → PyData
  | .num => .tuple [.str "number"]
  | .txt => .tuple [.str "text"]
  | .row k => .tuple [.str "row", .tuple (pyL k)]
  | .book k => .tuple [.str "book", .tuple (pyL k)]
  | .shape fs => .tuple [.str "shape", .tuple (pyF fs)]
  | .letter l => .tuple [.str "letter", .str l]
  | .cut l hs => .tuple [.str "cut", .str l, .tuple (hs.map .str)]
  | .any w => .tuple [.str "some", .str w]
  | .wth f => .tuple [.str "with", .str f]
def pyL : List Ch → List PyData
  | [] => []
  | c :: r => pyC c :: pyL r
def pyF : List (Str × List Ch) → List PyData
  | [] => []
  | (f, k) :: r => .tuple [.str f, .tuple (pyL k)] :: pyF r
end
theorem pyL_map : ∀ k : List Ch, pyL k = k.map pyC
  | [] => rfl
  | c :: r => by rw [pyL, pyL_map r]; rfl
theorem pyF_map : ∀ fs : List (Str × List Ch), pyF fs = fs.map fun p => .tuple [.str p.1, .tuple (pyL p.2)]
  | [] => rfl
  | (f, k) :: r => by rw [pyF, pyF_map r]; rfl
/-- the value v is the kind k, the choice c -/
abbrev IsK (K : PySem.W.Frag) (H : Hp) (v : V) (k : List Ch) : Prop := Dt K H v (.tuple (pyL k))
abbrev IsC (K : PySem.W.Frag) (H : Hp) (v : V) (c : Ch) : Prop := Dt K H v (pyC c)
/-- a shape's fields: some words, ascending -/
def Fld (zs : List Str) : Prop := zs ≠ [] ∧ zs.length ≤ 26 ∧ zs.Nodup ∧ sortedS zs = true ∧ ∀ z ∈ zs, Word z
mutual
/-- what a law draws: to n deep, letters of ls -/
def okC (ls : List Str) : Nat → Ch → Prop
  | _, .num => True
  | _, .txt => True
  | n, .row k => 0 < n ∧ k ≠ [] ∧ k.length ≤ 3 ∧ okL ls (n - 1) k
  | n, .book k => 0 < n ∧ k ≠ [] ∧ k.length ≤ 3 ∧ okL ls (n - 1) k
  | n, .shape fs => 0 < n ∧ fs.length ≤ 2 ∧ Fld (fs.map (·.1)) ∧ okF ls (n - 1) fs
  | _, .letter l => l ∈ ls
  | _, _ => False
def okL (ls : List Str) : Nat → List Ch → Prop
  | _, [] => True
  | n, c :: r => okC ls n c ∧ okL ls n r
def okF (ls : List Str) : Nat → List (Str × List Ch) → Prop
  | _, [] => True
  | n, (f, k) :: r => Word f ∧ k ≠ [] ∧ k.length ≤ 3 ∧ okL ls n k ∧ okF ls n r
end
theorem okL_snoc {ls : List Str} {n : Nat} {c : Ch} (h : okC ls n c) : ∀ {k : List Ch}, okL ls n k → okL ls n (k ++ [c])
  | [], _ => ⟨h, trivial⟩
  | _ :: _, a => ⟨a.1, okL_snoc h a.2⟩
theorem okF_snoc {ls : List Str} {n : Nat} {f : Str} {l : List Ch} (w : Word f) (l0 : l ≠ []) (l3 : l.length ≤ 3) (h : okL ls n l) : ∀ {fs : List (Str × List Ch)}, okF ls n fs → okF ls n (fs ++ [(f, l)])
  | [], _ => ⟨w, l0, l3, h, trivial⟩
  | _ :: _, a => ⟨a.1, a.2.1, a.2.2.1, a.2.2.2.1, okF_snoc w l0 l3 h a.2.2.2.2⟩
/-- a drawn kind, a drawn choice, drawn fields -/
def spKind (K : PySem.W.Frag) (n : Nat) : Sp := fun vs H Q _ => ∃ (s l : Addr) (i : Inf) (d : Nat) (ls : List Str), vs = [.ref s, .int d, .ref l] ∧ IsS K H s i ∧ d < n ∧ SqL K H l (ls.map V.str) ∧ ls.length ≤ 1000 ∧
  ∀ (v : V) (H' : Hp) (k : List Ch), Ext s H H' → IsS K H' s i → IsK K H' v k → k ≠ [] → k.length ≤ 3 → okL ls d k → Q v H'
def spChoice (K : PySem.W.Frag) (n : Nat) : Sp := fun vs H Q _ => ∃ (s l : Addr) (i : Inf) (d : Nat) (ls : List Str), vs = [.ref s, .int d, .ref l] ∧ IsS K H s i ∧ d < n ∧ SqL K H l (ls.map V.str) ∧ ls.length ≤ 1000 ∧
  ∀ (v : V) (H' : Hp) (c : Ch), Ext s H H' → IsS K H' s i → IsC K H' v c → okC ls d c → Q v H'
def spFields (K : PySem.W.Frag) (n : Nat) : Sp := fun vs H Q _ => ∃ (s l : Addr) (i : Inf) (d : Nat) (ls : List Str), vs = [.ref s, .int (d + 1 : Nat), .ref l] ∧ IsS K H s i ∧ d < n ∧ SqL K H l (ls.map V.str) ∧ ls.length ≤ 1000 ∧
  ∀ (v : V) (H' : Hp) (fs : List (Str × List Ch)), Ext s H H' → IsS K H' s i → Dt K H' v (.tuple (pyF fs)) → fs.length ≤ 2 → Fld (fs.map (·.1)) → okF ls d fs → Q v H'
end Sc
namespace Sc
open PySem PySem.Spec PyProof.Rows L2
/-! ### tests that change nothing -/
theorem and_pure {t u : TT} {σ : L2.St} {H : Hp} {Q : Bool → Hp → Prop} (c1 c2 : Bool) (h1 : ∀ R : Bool → Hp → Prop, R c1 H → t σ H R) (h2 : c1 = true → ∀ R : Bool → Hp → Prop, R c2 H → u σ H R) (hT : c1 = true → c2 = true → Q true H) (hF : ¬ (c1 = true ∧ c2 = true) → Q false H) : tAnd t u σ H Q := by
  refine h1 _ (ite2 (fun a => h2 a _ ?_) fun a => hF fun z => a z.1)
  cases b : c2 with
  | true => exact hT a b
  | false => exact hF fun z => by rw [b] at z; exact Bool.false_ne_true z.2
theorem or_pure {t u : TT} {σ : L2.St} {H : Hp} {Q : Bool → Hp → Prop} (c1 c2 : Bool) (h1 : ∀ R : Bool → Hp → Prop, R c1 H → t σ H R) (h2 : c1 = false → ∀ R : Bool → Hp → Prop, R c2 H → u σ H R) (hT : (c1 = true ∨ c2 = true) → Q true H) (hF : c1 = false → c2 = false → Q false H) : tOr t u σ H Q := by
  refine h1 _ (ite2 (fun a => hT (.inl a)) fun a => h2 (Bool.eq_false_iff.mpr a) _ ?_)
  cases b : c2 with
  | true => exact hT (.inr b)
  | false => exact hF (Bool.eq_false_iff.mpr a) b
theorem eqV_str (x y : Str) : decide (V.str x = V.str y) = decide (x = y) := by
  by_cases h : x = y
  · subst h; simp
  · rw [decide_eq_false h, decide_eq_false]; exact fun z => h (V.str.inj z)
theorem eqV_int (x y : Int) : decide (V.int x = V.int y) = decide (x = y) := by
  by_cases h : x = y
  · subst h; simp
  · rw [decide_eq_false h, decide_eq_false]; exact fun z => h (V.int.inj z)
end Sc
namespace Sc
open PySem PySem.Spec PyProof.Rows L2
theorem iteNo {c A B : Prop} [Decidable c] (h : ¬ c) (b : B) : if c then A else B := by rw [if_neg h]; exact b
theorem iteYes {c A B : Prop} [Decidable c] (h : c) (a : A) : if c then A else B := by rw [if_pos h]; exact a
/-! ### values -/
inductive Vl where
  | num (n : Int) | text (t : Str)
  | row (xs : List Vl) | book (xs : List (Str × Vl)) | shape (xs : List (Str × Vl))
/-- the value x stands at v, its objects among B -/
inductive IsV (H : Hp) (B : Addr → Prop) : V → Vl → Prop
  | num (n : Int) : IsV H B (.int n) (.num n)
  | text (t : Str) : IsV H B (.str t) (.text t)
  | row {a : Addr} (vs : List V) (xs : List Vl) : B a → H a = some (.lst vs) → vs.length = xs.length → (∀ (j : Nat) (v : V) (x : Vl), vs[j]? = some v → xs[j]? = some x → IsV H B v x) → IsV H B (.ref a) (.row xs)
  | book {a : Addr} (vs : List V) (xs : List (Str × Vl)) : B a → H a = some (.dK ((xs.map fun q => Sum.inr q.1).zip vs)) → vs.length = xs.length → (xs.map (·.1)).Nodup → (∀ (j : Nat) (v : V) (q : Str × Vl), vs[j]? = some v → xs[j]? = some q → IsV H B v q.2) → IsV H B (.ref a) (.book xs)
  | shape {a : Addr} (as : List Addr) (vs : List V) (xs : List (Str × Vl)) : Fld (xs.map (·.1)) → B a → H a = some (.tup (as.map V.ref)) → as.length = xs.length → vs.length = xs.length →
      (∀ (j : Nat) (b : Addr) (v : V) (q : Str × Vl), as[j]? = some b → vs[j]? = some v → xs[j]? = some q → B b ∧ H b = some (.tup [.str q.1, v])) →
      (∀ (j : Nat) (v : V) (q : Str × Vl), vs[j]? = some v → xs[j]? = some q → IsV H B v q.2) → IsV H B (.ref a) (.shape xs)
theorem IsV.keep {H H' : Hp} {B B' : Addr → Prop} (e : ∀ a o, B a → H a = some o → B' a ∧ H' a = some o) {v : V} {x : Vl} (h : IsV H B v x) : IsV H' B' v x := by
  induction h with
  | num n => exact .num n
  | text t => exact .text t
  | row vs xs b hv hl _ ih => exact .row vs xs (e _ _ b hv).1 (e _ _ b hv).2 hl ih
  | book vs xs b hv hl nd _ ih => exact .book vs xs (e _ _ b hv).1 (e _ _ b hv).2 hl nd ih
  | shape as vs xs fld b ha hl hl2 hp _ ih => exact .shape as vs xs fld (e _ _ b ha).1 (e _ _ b ha).2 hl hl2 (fun j b v q h1 h2 h3 => let ⟨h4, h5⟩ := hp j b v q h1 h2 h3; e _ _ h4 h5) ih
/-- values one by one -/
def IsVs (H : Hp) (B : Addr → Prop) (vs : List V) (xs : List Vl) : Prop := vs.length = xs.length ∧ ∀ (j : Nat) (v : V) (x : Vl), vs[j]? = some v → xs[j]? = some x → IsV H B v x
theorem IsVs.nil {H : Hp} {B : Addr → Prop} : IsVs H B [] [] := ⟨rfl, fun j v d h => by simp at h⟩
theorem IsVs.keep {H H' : Hp} {B B' : Addr → Prop} (e : ∀ a o, B a → H a = some o → B' a ∧ H' a = some o) {vs : List V} {xs : List Vl} (h : IsVs H B vs xs) : IsVs H' B' vs xs := ⟨h.1, fun j v x a b => (h.2 j v x a b).keep e⟩
theorem IsVs.snoc {H : Hp} {B : Addr → Prop} {v : V} {d : Vl} {vs : List V} {ds : List Vl} (t : IsVs H B vs ds) (h : IsV H B v d) : IsVs H B (vs ++ [v]) (ds ++ [d]) := by
  refine ⟨by rw [List.length_append, List.length_append, t.1]; rfl, fun j u e h1 h2 => ?_⟩
  by_cases lt : j < vs.length
  · rw [List.getElem?_append_left lt] at h1
    rw [List.getElem?_append_left (t.1 ▸ lt)] at h2
    exact t.2 j u e h1 h2
  · rw [List.getElem?_append_right (by omega)] at h1
    rw [List.getElem?_append_right (by have := t.1; omega)] at h2
    have z : j - vs.length = 0 := by
      have := (List.getElem?_eq_some_iff.mp h1).1
      simp at this
      omega
    rw [z] at h1
    rw [← t.1, z] at h2
    cases h1; cases h2; exact h
/-- what a value's type is -/
def headT : Vl → String
  | .num _ => "int" | .text _ => "str" | .row _ => "list" | .book _ => "dict" | .shape _ => "tuple"
theorem IsV.ty {K : PySem.W.Frag} {H : Hp} {B : Addr → Prop} {v : V} {x : Vl} (h : IsV H B v x) : TyX K H v (.type (headT x)) := by
  cases h with
  | num n => exact .base (.int n)
  | text t => exact .base (.str t)
  | row vs xs b hv => exact .base (.lst hv)
  | book vs xs b hv => exact .base (.dK hv)
  | shape as vs xs _ b ha => exact .base (.tup ha)
/-! ### heads -/
def blank : Str := " "
/-- the head's text of fields, behind the word shape -/
def headV : Vl → Str
  | .num _ => "number" | .text _ => "text" | .row _ => "row" | .book _ => "book" | .shape xs => Txt.join " " ("shape" :: xs.map (·.1))
theorem joinL_cons (S p : List Nat) : ∀ ps : List (List Nat), ps ≠ [] → TL.joinL S (p :: ps) = p ++ (S ++ TL.joinL S ps)
  | [], h => absurd rfl h
  | _ :: _, _ => rfl
end Sc
namespace Sc
open PySem PySem.Spec PyProof.Rows L2
/-- a text of up to three signs, from the blank to ~ but the percent sign -/
def Tex (t : Str) : Prop := t.cps.toList.length ≤ 3 ∧ ∀ c ∈ t.cps.toList, 32 ≤ c ∧ c ≤ 126 ∧ c ≠ 37
def spText (K : PySem.W.Frag) : Sp := fun vs H Q _ => ∃ (s : Addr) (i : Inf), vs = [.ref s] ∧ IsS K H s i ∧
  ∀ (t : Str) (H' : Hp), Ext s H H' → IsS K H' s i → Tex t → Q (.str t) H'
def spNumber (K : PySem.W.Frag) : Sp := fun vs H Q _ => ∃ (s : Addr) (i : Inf), vs = [.ref s] ∧ IsS K H s i ∧
  ∀ (n : Int) (H' : Hp), Ext s H H' → IsS K H' s i → -10 ^ 30 < n → n < 10 ^ 30 → Q (.int n) H'
/-- a drawn value of a kind without letters -/
def spValue (K : PySem.W.Frag) (n : Nat) : Sp := fun vs H Q _ => ∃ (s : Addr) (i : Inf) (v st : V) (d : Nat) (k : List Ch), vs = [.ref s, v, st] ∧ IsS K H s i ∧ d < n ∧ IsK K H v k ∧ k ≠ [] ∧ k.length ≤ 3 ∧ okL [] d k ∧
  ∀ (r : V) (H' : Hp) (x : Vl), Ext s H H' → IsS K H' s i → IsV H' (fun a => H a = none) r x → Q r H'
theorem IsS.freed {K : PySem.W.Frag} {H H' : Hp} {s l : Addr} {i : Inf} (a : IsS K H s i) (b : IsS K H' s i) (e : Ext s H H') (h : H' l = none) : H l = none := by
  obtain ⟨k1, h1⟩ := a.dk
  obtain ⟨k2, h2⟩ := b.dk
  exact e.free h1 ⟨_, h2⟩ h
end Sc
namespace Sc
open PySem PySem.Spec PyProof.Rows L2
/-- what follows, once for all ways -/
theorem seq_with {t u : TS} {D : Ends} {σ : L2.St} {H : Hp} (F : (L2.St → Hp → Prop) → Prop) (h1 : F (u D)) (h2 : F (u D) → t { D with nx := u D } σ H) : tSeq t u D σ H := h2 h1
theorem mem_put {kvs : List (Key × V)} {k : Key} {v : V} {p : Key × V} (h : p ∈ putK kvs k v) : p = (k, v) ∨ p ∈ kvs := by
  unfold putK at h
  split at h
  · obtain ⟨q, hq, e⟩ := List.mem_map.mp h
    by_cases z : q.1 = k
    · rw [if_pos z] at e
      exact .inl (e ▸ z ▸ rfl)
    · rw [if_neg z] at e
      exact .inr (e ▸ hq)
  · rcases List.mem_append.mp h with h | h
    · exact .inr h
    · exact .inl (List.mem_singleton.mp h)
theorem nd_put {kvs : List (Key × V)} (k : Key) (v : V) (nd : (kvs.map (·.1)).Nodup) : ((putK kvs k v).map (·.1)).Nodup := by
  cases z : valV kvs k with
  | none => exact nd_putK v nd z
  | some y =>
    have e : (putK kvs k v).map (·.1) = kvs.map (·.1) := by
      unfold putK
      rw [valV_any, z, if_pos (show (some y).isSome = true from rfl), List.map_map]
      refine List.map_congr_left fun p _ => ?_
      show (if p.1 = k then (p.1, v) else p).1 = p.1
      split <;> rfl
    rw [e]
    exact nd
theorem put_len (kvs : List (Key × V)) (k : Key) (v : V) : (putK kvs k v).length ≤ kvs.length + 1 := by
  unfold putK
  split
  · rw [List.length_map]; omega
  · rw [List.length_append]; exact Nat.le_refl _
/-- a dict of texts with values, as a book -/
theorem book_of {H : Hp} {B : Addr → Prop} : ∀ kvs : List (Key × V), (∀ p ∈ kvs, ∃ t x, p.1 = Sum.inr t ∧ IsV H B p.2 x) → (kvs.map (·.1)).Nodup →
    ∃ (vs : List V) (xs : List (Str × Vl)), kvs = (xs.map fun q => Sum.inr q.1).zip vs ∧ vs.length = xs.length ∧ (xs.map (·.1)).Nodup ∧ (∀ t, t ∈ xs.map (·.1) → (Sum.inr t : Key) ∈ kvs.map (·.1)) ∧ ∀ (j : Nat) (v : V) (q : Str × Vl), vs[j]? = some v → xs[j]? = some q → IsV H B v q.2
  | [], _, _ => ⟨[], [], rfl, rfl, List.nodup_nil, fun t h => by simp at h, fun j v q h => by simp at h⟩
  | (k, v) :: r, h, nd => by
    obtain ⟨t, x, rfl, hx⟩ := h _ List.mem_cons_self
    have nd' : ((Sum.inr t : Key) :: r.map (·.1)).Nodup := nd
    obtain ⟨n1, n2⟩ := List.nodup_cons.mp nd'
    obtain ⟨vs, xs, e, hl, nd2, hm, ha⟩ := book_of r (fun p hp => h p (List.mem_cons_of_mem _ hp)) n2
    refine ⟨v :: vs, (t, x) :: xs, by rw [e]; rfl, congrArg (· + 1) hl, List.nodup_cons.mpr ⟨fun z => n1 (hm t z), nd2⟩, fun u hu => ?_, fun j v' q h1 h2 => ?_⟩
    · rcases List.mem_cons.mp hu with z | z
      · rw [z]; exact List.mem_cons_self
      · exact List.mem_cons_of_mem _ (hm u z)
    · cases j with
      | zero => cases h1; cases h2; exact hx
      | succ j => exact ha j v' q h1 h2
theorem okL_mem {ls : List Str} {n : Nat} {c : Ch} : ∀ {k : List Ch}, okL ls n k → c ∈ k → okC ls n c
  | _ :: _, h, m => by
    rcases List.mem_cons.mp m with z | z
    · rw [z]; exact h.1
    · exact okL_mem h.2 z
theorem okF_mem {ls : List Str} {n : Nat} {p : Str × List Ch} : ∀ {fs : List (Str × List Ch)}, okF ls n fs → p ∈ fs → Word p.1 ∧ p.2 ≠ [] ∧ p.2.length ≤ 3 ∧ okL ls n p.2
  | (_, _) :: _, h, m => by
    rcases List.mem_cons.mp m with z | z
    · rw [z]; exact ⟨h.1, h.2.1, h.2.2.1, h.2.2.2.1⟩
    · exact okF_mem h.2.2.2.2 z
end Sc
namespace Sc
open PySem PySem.Spec PyProof.Rows L2
section
variable {X : Cx}
/-! rules within a comprehension's block: the written part said by its name -/
theorem ix_tupK (K : PySem.W.Frag) (h : X.K = K := by rfl) : IxR X (rIxT K) := h ▸ ix_tup
theorem ix_listK (K : PySem.W.Frag) (h : X.K = K := by rfl) : IxR X (rIxL K) := h ▸ ix_list
end
end Sc
namespace Sc
open PySem PySem.Spec PyProof.Rows L2
theorem Dt.strOf {K : PySem.W.Frag} {H : Hp} {v : V} {z : Str} (h : Dt K H v (.str z)) : v = .str z := by cases h; rfl
theorem Dts.uncons {K : PySem.W.Frag} {H : Hp} {vs : List V} {d : PyData} {ds : List PyData} (h : Dts K H vs (d :: ds)) : ∃ v us, vs = v :: us ∧ Dt K H v d ∧ Dts K H us ds := by
  cases vs with
  | nil => exact absurd h.1 (by simp)
  | cons v us => exact ⟨v, us, rfl, h.head, h.tail⟩
theorem Dts.unnil {K : PySem.W.Frag} {H : Hp} {vs : List V} (h : Dts K H vs []) : vs = [] := List.length_eq_zero_iff.mp h.1
/-- a tuple of a text -/
theorem Dt.one {K : PySem.W.Frag} {H : Hp} {v : V} {z : Str} (h : Dt K H v (.tuple [.str z])) : ∃ a, v = .ref a ∧ SqT K H a [.str z] := by
  obtain ⟨a, vs, rfl, ht, hd⟩ := h.open
  obtain ⟨u, us, rfl, h1, h2⟩ := hd.uncons
  rw [h1.strOf, h2.unnil] at ht
  exact ⟨a, rfl, ht⟩
/-- a tuple of a text and more -/
theorem Dt.two {K : PySem.W.Frag} {H : Hp} {v : V} {z : Str} {d : PyData} (h : Dt K H v (.tuple [.str z, d])) : ∃ a u, v = .ref a ∧ SqT K H a [.str z, u] ∧ Dt K H u d := by
  obtain ⟨a, vs, rfl, ht, hd⟩ := h.open
  obtain ⟨u, us, rfl, h1, h2⟩ := hd.uncons
  obtain ⟨u2, us2, rfl, h3, h4⟩ := h2.uncons
  rw [h1.strOf, h4.unnil] at ht
  exact ⟨a, u2, rfl, ht, h3⟩
theorem drawn_form {d : Nat} {c : Ch} (h : okC [] d c) : c = .num ∨ c = .txt ∨ (∃ d' fs, d = d' + 1 ∧ c = .shape fs ∧ Fld (fs.map (·.1)) ∧ fs.length ≤ 2 ∧ okF [] d' fs) ∨
    ∃ (d' : Nat) (wd : Str) (kk : List Ch), d = d' + 1 ∧ (wd = "row" ∨ wd = "book") ∧ pyC c = .tuple [.str wd, .tuple (pyL kk)] ∧ kk ≠ [] ∧ kk.length ≤ 3 ∧ okL [] d' kk := by
  cases c with
  | num => exact .inl rfl
  | txt => exact .inr (.inl rfl)
  | row k =>
    obtain ⟨h0, h1, h2, h3⟩ : 0 < d ∧ k ≠ [] ∧ k.length ≤ 3 ∧ okL [] (d - 1) k := h
    exact .inr (.inr (.inr ⟨d - 1, "row", k, by omega, .inl rfl, rfl, h1, h2, h3⟩))
  | book k =>
    obtain ⟨h0, h1, h2, h3⟩ : 0 < d ∧ k ≠ [] ∧ k.length ≤ 3 ∧ okL [] (d - 1) k := h
    exact .inr (.inr (.inr ⟨d - 1, "book", k, by omega, .inr rfl, rfl, h1, h2, h3⟩))
  | shape fs =>
    obtain ⟨h0, h1, h2, h3⟩ : 0 < d ∧ fs.length ≤ 2 ∧ Fld (fs.map (·.1)) ∧ okF [] (d - 1) fs := h
    exact .inr (.inr (.inl ⟨d - 1, fs, by omega, rfl, h2, h1, h3⟩))
  | letter l => exact absurd (show l ∈ [] from h) (by simp)
  | cut l hs => exact (show False from h).elim
  | any l => exact (show False from h).elim
  | wth l => exact (show False from h).elim
end Sc
namespace Sc
open PySem PySem.Spec PyProof.Rows L2
/-! ### the names that lead pairs -/
def Names (K : PySem.W.Frag) (H : Hp) (a : Addr) (zs : List Str) : Prop := ∃ ps : List V, SqT K H a ps ∧ ps.length = zs.length ∧ ∀ (j : Nat) (p : V) (z : Str), ps[j]? = some p → zs[j]? = some z → ∃ b us, p = .ref b ∧ SqT K H b (.str z :: us)
theorem names_shape {K : PySem.W.Frag} {H : Hp} {B : Addr → Prop} {v : V} {xs : List (Str × Vl)} (h : IsV H B v (.shape xs)) : ∃ a, v = .ref a ∧ Names K H a (xs.map (·.1)) ∧ Fld (xs.map (·.1)) := by
  cases h with
  | @shape a as vs xs fld b ha hl hl2 hp hv =>
    refine ⟨a, rfl, ⟨as.map V.ref, SqT.of ha, by rw [List.length_map, List.length_map, hl], fun j p z h1 h2 => ?_⟩, fld⟩
    rw [List.getElem?_map] at h1 h2
    obtain ⟨b', h3, rfl⟩ := Option.map_eq_some_iff.mp h1
    obtain ⟨q, h4, rfl⟩ := Option.map_eq_some_iff.mp h2
    have lt : j < vs.length := by rw [hl2]; exact (List.getElem?_eq_some_iff.mp h4).1
    exact ⟨b', [vs[j]], rfl, SqT.of (hp j b' vs[j] q h3 (List.getElem?_eq_getElem lt) h4).2⟩
theorem names_kind {K : PySem.W.Frag} {H : Hp} {v : V} {fs : List (Str × List Ch)} (h : Dt K H v (.tuple (pyF fs))) : ∃ a, v = .ref a ∧ Names K H a (fs.map (·.1)) := by
  obtain ⟨a, ps, rfl, ht, hd⟩ := h.open
  refine ⟨a, rfl, ps, ht, by rw [hd.1, pyF_map, List.length_map, List.length_map], fun j p z h1 h2 => ?_⟩
  obtain ⟨d, h3, h4⟩ := hd.at h1
  rw [pyF_map, List.getElem?_map] at h3
  rw [List.getElem?_map] at h2
  obtain ⟨q, h5, rfl⟩ := Option.map_eq_some_iff.mp h3
  obtain ⟨q', h6, rfl⟩ := Option.map_eq_some_iff.mp h2
  rw [h5] at h6
  cases h6
  obtain ⟨b, u, e, hb, _⟩ := h4.two
  exact ⟨b, [u], e, hb⟩
theorem Keep.names {K : PySem.W.Frag} {H H' : Hp} {a : Addr} {zs : List Str} (e : Keep K H H') (h : Names K H a zs) : Names K H' a zs := by
  obtain ⟨ps, h1, h2, h3⟩ := h
  exact ⟨ps, e _ _ h1, h2, fun j p z g1 g2 => let ⟨b, us, e1, e2⟩ := h3 j p z g1 g2; ⟨b, us, e1, e _ _ e2⟩⟩
theorem Fld.sum {zs : List Str} (h : Fld zs) : (zs.map (·.length)).sum ≤ 208 := by
  obtain ⟨_, h26, _, _, hw⟩ := h
  have g : ∀ zs : List Str, (∀ z ∈ zs, Word z) → (zs.map (·.length)).sum ≤ zs.length * 8 := fun zs => by
    induction zs with
    | nil => exact fun _ => Nat.le_refl _
    | cons z zs ih =>
      intro h
      have := ih fun y hy => h y (List.mem_cons_of_mem _ hy)
      have := (h z List.mem_cons_self).2.1
      rw [List.map_cons, List.sum_cons, len_list, List.length_cons]
      omega
  have := g zs hw
  omega
def spShapeHead (K : PySem.W.Frag) : Sp := fun vs H Q _ => ∃ (a : Addr) (zs : List Str), vs = [.ref a] ∧ Names K H a zs ∧ zs.length ≤ 100 ∧ (zs.map (·.length)).sum ≤ 10000 ∧
  ∀ (H' : Hp), Same H H' → Q (.str (Txt.join " " ("shape" :: zs))) H'
def spHeadOf (K : PySem.W.Frag) : Sp := fun vs H Q _ => ∃ (v : V) (B : Addr → Prop) (x : Vl), vs = [v] ∧ IsV H B v x ∧
  ∀ (H' : Hp), Same H H' → Q (.str (headV x)) H'
theorem sum_le_add (zs : List Str) (n : Nat) : (zs.map (·.length)).sum + zs.length * n = (zs.map fun z => z.length + n).sum := by
  induction zs with
  | nil => simp
  | cons z zs ih =>
    rw [List.map_cons, List.map_cons, List.sum_cons, List.sum_cons, List.length_cons, ← ih, Nat.add_mul]
    omega
/-- shape, and the fields behind it -/
theorem head_text {zs : List Str} (h : zs ≠ []) : Txt.join " " ("shape" :: zs) = ("shape " : Str) ++ Txt.join " " zs := by
  refine TL.ext_tl ?_
  rw [TL.tl_append, TL.join_eq, TL.join_eq, TL.tl_join, TL.tl_join, List.map_cons, joinL_cons _ _ _ (by simpa using h), ← List.append_assoc]
  congr 1
/-! ### words that differ -/
def odds (z : Str) : Nat := (z.cps.toList.filter fun c => decide (c ≠ 113)).length
theorem talks_odds : ∀ z ∈ talks, 2 ≤ odds z := by decide +kernel
theorem talks_nodup : talks.Nodup := by decide +kernel
theorem plain_odds (p c r : Nat) : odds (reps 113 p ++ signAt c ++ reps 113 r) ≤ 1 := by
  unfold odds
  have z : ∀ n, (List.replicate n 113).filter (fun c => decide (c ≠ 113)) = [] := fun n => List.filter_eq_nil_iff.mpr fun a h => by
    rw [(List.mem_replicate.mp h).2]; decide
  rw [app_list, app_list, reps_list, reps_list, List.filter_append, List.filter_append, z, z, List.nil_append, List.append_nil]
  show ([c].filter _).length ≤ 1
  exact List.length_filter_le _ _
theorem word_inj {i : Inf} (ok : i.Ok) {a b : Int} (a0 : 0 ≤ a) (a26 : a < 26) (b0 : 0 ≤ b) (b26 : b < 26) (h : wordOf i a = wordOf i b) : a = b := by
  have tk : ∀ k : Int, 0 ≤ k → k < 19 → ∃ lt : k.toNat < talks.length, talks.getD k.toNat Str.empty = talks[k.toNat] := fun k k0 k1 => by
    have lt : k.toNat < talks.length := by show k.toNat < 19; omega
    exact ⟨lt, by rw [List.getD_eq_getElem?_getD, List.getElem?_eq_getElem lt]; rfl⟩
  unfold wordOf at h
  split at h <;> split at h
  · rename_i ca cb
    obtain ⟨la, ea⟩ := tk a a0 ca.2
    obtain ⟨lb, eb⟩ := tk b b0 cb.2
    rw [ea, eb] at h
    have := (List.getElem_inj talks_nodup).mp h
    omega
  · rename_i ca cb
    obtain ⟨la, ea⟩ := tk a a0 ca.2
    have := talks_odds _ (List.getElem_mem la)
    rw [← ea, h] at this
    exact absurd (Nat.le_trans this (plain_odds _ _ _)) (by decide)
  · rename_i ca cb
    obtain ⟨lb, eb⟩ := tk b b0 cb.2
    have := talks_odds _ (List.getElem_mem lb)
    rw [← eb, ← h] at this
    exact absurd (Nat.le_trans this (plain_odds _ _ _)) (by decide)
  · have e := congrArg (fun z : Str => z.cps.toList[i.place.toNat]?) h
    rw [app_list, app_list, app_list, app_list, reps_list, reps_list] at e
    have g : ∀ c : Nat, (List.replicate i.place.toNat 113 ++ (signAt c).cps.toList ++ List.replicate (i.size - i.place - 1).toNat 113)[i.place.toNat]? = some c := fun c => by
      rw [List.append_assoc, List.getElem?_append_right (by rw [List.length_replicate]; exact Nat.le_refl _), List.length_replicate, Nat.sub_self]
      rfl
    rw [g, g] at e
    have e2 := Option.some.inj e
    have t0 := ok.t0
    have t1 := ok.t1
    omega
end Sc
namespace Sc
open PySem PySem.Spec PyProof.Rows L2
theorem no_bool (x : Vl) : kitB (headT x) "bool" = some false := by
  cases x with
  | num _ => exact (by decide +kernel : kitB "int" "bool" = some false)
  | text _ => exact (by decide +kernel : kitB "str" "bool" = some false)
  | row _ => exact (by decide +kernel : kitB "list" "bool" = some false)
  | book _ => exact (by decide +kernel : kitB "dict" "bool" = some false)
  | shape _ => exact (by decide +kernel : kitB "tuple" "bool" = some false)
theorem joinL_len (S : List Nat) : ∀ ps : List (List Nat), (TL.joinL S ps).length ≤ (ps.map (·.length)).sum + ps.length * S.length
  | [] => Nat.zero_le _
  | [p] => by
    show p.length ≤ [p.length].sum + 1 * _
    simp
  | p :: q :: r => by
    have ih := joinL_len S (q :: r)
    rw [joinL_cons _ _ _ (by simp), List.length_append, List.length_append, List.map_cons, List.sum_cons, List.length_cons, Nat.add_mul]
    omega
theorem join_len (y : Str) (zs : List Str) : (Txt.join y zs).length ≤ (zs.map (·.length)).sum + zs.length * y.length := by
  have e : (Txt.join y zs).length = (TL.joinL (TL.tl y) (zs.map TL.tl)).length := by
    rw [len_list]
    exact congrArg List.length ((congrArg TL.tl (TL.join_eq y zs)).trans (TL.tl_join y zs))
  rw [e]
  refine Nat.le_trans (joinL_len _ _) ?_
  rw [List.map_map, List.length_map, len_list y]
  refine Nat.add_le_add_right (Nat.le_of_eq (congrArg List.sum (List.map_congr_left fun z _ => ?_))) _
  exact (len_list z).symm
end Sc
namespace Sc
open PySem PySem.Spec PyProof.Rows L2
/-! ### the texts of kinds -/
def mkS (l : List Nat) : Str := ⟨l.toArray⟩
theorem tl_mkS (l : List Nat) : TL.tl (mkS l) = l := rfl
theorem mkS_tl (z : Str) : mkS (TL.tl z) = z := TL.ext_tl rfl
def bar : List Nat := TL.tl " | "
def com : List Nat := TL.tl ", "
mutual
/-- the signs of a choice's text -/
def cC : Ch → List Nat
  | .num => TL.tl "number"
  | .txt => TL.tl "text"
  | .row k => TL.tl "row" ++ 40 :: (TL.joinL bar (cL k) ++ [41])
  | .book k => TL.tl "book" ++ 40 :: (TL.joinL bar (cL k) ++ [41])
  | .shape fs => 123 :: (TL.joinL com (cF fs) ++ [125])
  | .letter l => TL.tl l
  | .cut l hs => TL.tl l ++ 40 :: (TL.joinL com (hs.map TL.tl) ++ [41])
  | .any w => TL.tl "some" ++ 32 :: TL.tl w
  | .wth f => TL.tl "with" ++ 32 :: TL.tl f
def cL : List Ch → List (List Nat)
  | [] => []
  | c :: r => cC c :: cL r
def cF : List (Str × List Ch) → List (List Nat)
  | [] => []
  | (f, k) :: r => (TL.tl f ++ 58 :: 32 :: TL.joinL bar (cL k)) :: cF r
end
theorem cL_map : ∀ k : List Ch, cL k = k.map cC
  | [] => rfl
  | c :: r => by rw [cL, cL_map r]; rfl
theorem cF_map : ∀ fs : List (Str × List Ch), cF fs = fs.map fun p => TL.tl p.1 ++ 58 :: 32 :: TL.joinL bar (cL p.2)
  | [] => rfl
  | (f, k) :: r => by rw [cF, cF_map r]; rfl
def txC (c : Ch) : Str := mkS (cC c)
def txK (k : List Ch) : Str := mkS (TL.joinL bar (cL k))
def txF (p : Str × List Ch) : Str := mkS (TL.tl p.1 ++ 58 :: 32 :: TL.joinL bar (cL p.2))
theorem txK_join (k : List Ch) : Txt.join " | " (k.map txC) = txK k := by
  refine TL.ext_tl ?_
  rw [TL.join_eq, TL.tl_join, List.map_map]
  show TL.joinL bar (k.map cC) = TL.joinL bar (cL k)
  rw [cL_map]
mutual
/-- how deep -/
def dC : Ch → Nat
  | .row k => dL k + 1
  | .book k => dL k + 1
  | .shape fs => dF fs + 1
  | _ => 0
def dL : List Ch → Nat
  | [] => 0
  | c :: r => max (dC c) (dL r)
def dF : List (Str × List Ch) → Nat
  | [] => 0
  | (_, k) :: r => max (dL k) (dF r)
end
theorem dL_mem {c : Ch} : ∀ {k : List Ch}, c ∈ k → dC c ≤ dL k
  | d :: r, h => by
    rcases List.mem_cons.mp h with e | e
    · rw [e]; exact Nat.le_max_left _ _
    · exact Nat.le_trans (dL_mem e) (Nat.le_max_right _ _)
theorem dF_mem {p : Str × List Ch} : ∀ {fs : List (Str × List Ch)}, p ∈ fs → dL p.2 ≤ dF fs
  | (f, k) :: r, h => by
    rcases List.mem_cons.mp h with e | e
    · rw [e]; exact Nat.le_max_left _ _
    · exact Nat.le_trans (dF_mem e) (Nat.le_max_right _ _)
theorem joinL_mem (S : List Nat) {p : List Nat} : ∀ {ps : List (List Nat)}, p ∈ ps → p.length ≤ (TL.joinL S ps).length
  | [q], h => by rw [List.mem_singleton.mp h]; exact Nat.le_refl _
  | q :: r :: t, h => by
    rw [joinL_cons _ _ _ (by simp), List.length_append, List.length_append]
    rcases List.mem_cons.mp h with e | e
    · rw [e]; omega
    · have := joinL_mem S (ps := r :: t) e
      omega
theorem joinL_sum (S : List Nat) : ∀ (p : List Nat) (ps : List (List Nat)), (TL.joinL S (p :: ps)).length = p.length + ((ps.map (·.length)).sum + ps.length * S.length)
  | p, [] => by show p.length = _; simp
  | p, q :: r => by
    rw [joinL_cons _ _ _ (by simp), List.length_append, List.length_append, joinL_sum S q r, List.map_cons, List.sum_cons, List.length_cons, Nat.add_mul]
    omega
/-- what join asks of the parts' lengths -/
theorem join_room {y : Str} {zs : List Str} {n : Nat} (h : (TL.joinL (TL.tl y) (zs.map TL.tl)).length ≤ n) : (zs.map (·.length)).sum + zs.length * y.length ≤ n + y.length := by
  cases zs with
  | nil => simp
  | cons z zs =>
    rw [List.map_cons, joinL_sum] at h
    rw [List.map_cons, List.sum_cons, List.length_cons, Nat.add_mul, len_list y, len_list z]
    have e : ((zs.map TL.tl).map (·.length)).sum = (zs.map (·.length)).sum := by
      rw [List.map_map]
      exact congrArg List.sum (List.map_congr_left fun x _ => (len_list x).symm)
    rw [e, List.length_map] at h
    show z.cps.toList.length + _ + _ ≤ _
    have h' : z.cps.toList.length + ((zs.map (·.length)).sum + zs.length * y.cps.toList.length) ≤ n := h
    omega
theorem joinL_many (S : List Nat) (hS : 1 ≤ S.length) : ∀ ps : List (List Nat), ps.length ≤ (TL.joinL S ps).length + 1
  | [] => Nat.zero_le _
  | p :: ps => by
    rw [joinL_sum, List.length_cons]
    have : ps.length ≤ ps.length * S.length := Nat.le_mul_of_pos_right _ hS
    omega
/-! ### promises of what tells -/
def spTellK (K : PySem.W.Frag) (n : Nat) : Sp := fun vs H Q _ => ∃ (v : V) (k : List Ch), vs = [v] ∧ IsK K H v k ∧ dL k < n ∧ (txK k).length ≤ 1000000 ∧
  ∀ (H' : Hp), Same H H' → Q (.str (txK k)) H'
def spTellC (K : PySem.W.Frag) (n : Nat) : Sp := fun vs H Q _ => ∃ (v : V) (c : Ch), vs = [v] ∧ IsC K H v c ∧ dC c < n ∧ (txC c).length ≤ 1000000 ∧
  ∀ (H' : Hp), Same H H' → Q (.str (txC c)) H'
theorem tx_len (l : List Nat) : (mkS l).length = l.length := by rw [len_list]; rfl
/-- the word that leads a choice, what follows -/
def wdC : Ch → Str
  | .num => "number" | .txt => "text" | .row _ => "row" | .book _ => "book" | .shape _ => "shape" | .letter _ => "letter" | .cut _ _ => "cut" | .any _ => "some" | .wth _ => "with"
def restC : Ch → List PyData
  | .num => [] | .txt => []
  | .row k => [.tuple (pyL k)] | .book k => [.tuple (pyL k)]
  | .shape fs => [.tuple (pyF fs)]
  | .letter l => [.str l] | .cut l hs => [.str l, .tuple (hs.map .str)]
  | .any w => [.str w] | .wth f => [.str f]
theorem pyC_cons (c : Ch) : pyC c = .tuple (.str (wdC c) :: restC c) := by cases c <;> rfl
/-- a choice's tuple -/
theorem Dt.lead {K : PySem.W.Frag} {H : Hp} {v : V} {c : Ch} (h : Dt K H v (pyC c)) : ∃ a us, v = .ref a ∧ SqT K H a (.str (wdC c) :: us) ∧ Dts K H us (restC c) := by
  rw [pyC_cons c] at h
  obtain ⟨a, vs, rfl, ht, hd⟩ := h.open
  obtain ⟨u, us, rfl, h1, h2⟩ := hd.uncons
  rw [h1.strOf] at ht
  exact ⟨a, us, rfl, ht, h2⟩
theorem Dts.one {K : PySem.W.Frag} {H : Hp} {us : List V} {d : PyData} (h : Dts K H us [d]) : ∃ u, us = [u] ∧ Dt K H u d := by
  obtain ⟨u, us', rfl, h1, h2⟩ := h.uncons
  exact ⟨u, by rw [h2.unnil], h1⟩
/-- texts in a row -/
theorem Dts.strs {K : PySem.W.Frag} {H : Hp} : ∀ {zs : List Str} {vs : List V}, Dts K H vs (zs.map .str) → vs = zs.map V.str
  | [], vs, h => h.unnil
  | z :: zs, vs, h => by
    obtain ⟨u, us, rfl, h1, h2⟩ := Dts.uncons h
    rw [h1.strOf, Dts.strs h2]
    rfl
theorem strs_dts {K : PySem.W.Frag} {H : Hp} : ∀ zs : List Str, Dts K H (zs.map V.str) (zs.map .str)
  | [] => .nil
  | z :: zs => (strs_dts zs).cons (.str z)
theorem op_inT (K : PySem.W.Frag) {X : Cx} (h : X.K = K := by rfl) : OpR X (compareOp .In) (rIn K false) := h ▸ op_in_seq
end Sc
namespace Sc
open PySem PySem.Spec PyProof.Rows L2
theorem app_len (x y : Str) : (x ++ y).length = x.length + y.length := by
  rw [len_list, len_list, len_list, app_list, List.length_append]
theorem sizeOk {n : Nat} (h : n ≤ 2000000) : n ≤ sizeLine := by rw [sizeLine_eq]; omega
theorem txC_rb (k : List Ch) {c : Ch} (h : c = .row k ∨ c = .book k) : txC c = Str.empty ++ wdC c ++ ("(" : Str) ++ txK k ++ (")" : Str) := by
  refine TL.ext_tl ?_
  rcases h with rfl | rfl
  · show TL.tl "row" ++ 40 :: (TL.joinL bar (cL k) ++ [41]) = _
    simp only [TL.tl_append]
    show _ = TL.tl "row" ++ [40] ++ TL.joinL bar (cL k) ++ [41]
    simp only [List.append_assoc, List.cons_append, List.nil_append]
  · show TL.tl "book" ++ 40 :: (TL.joinL bar (cL k) ++ [41]) = _
    simp only [TL.tl_append]
    show _ = TL.tl "book" ++ [40] ++ TL.joinL bar (cL k) ++ [41]
    simp only [List.append_assoc, List.cons_append, List.nil_append]
theorem txF_eq (p : Str × List Ch) : txF p = Str.empty ++ p.1 ++ (": " : Str) ++ txK p.2 := by
  refine TL.ext_tl ?_
  simp only [TL.tl_append]
  show TL.tl p.1 ++ 58 :: 32 :: TL.joinL bar (cL p.2) = TL.tl p.1 ++ [58, 32] ++ TL.joinL bar (cL p.2)
  simp only [List.append_assoc, List.cons_append, List.nil_append]
theorem txC_shape (fs : List (Str × List Ch)) : txC (.shape fs) = ("{" : Str) ++ Txt.join ", " (fs.map txF) ++ ("}" : Str) := by
  refine TL.ext_tl ?_
  simp only [TL.tl_append]
  rw [TL.join_eq, TL.tl_join, List.map_map]
  show 123 :: (TL.joinL com (cF fs) ++ [125]) = [123] ++ TL.joinL com _ ++ [125]
  rw [cF_map]
  rfl
theorem txC_cut (l : Str) (hs : List Str) : txC (.cut l hs) = l ++ ("(" : Str) ++ Txt.join ", " hs ++ (")" : Str) := by
  refine TL.ext_tl ?_
  simp only [TL.tl_append]
  rw [TL.join_eq, TL.tl_join]
  show TL.tl l ++ 40 :: (TL.joinL com (hs.map TL.tl) ++ [41]) = TL.tl l ++ [40] ++ TL.joinL com (hs.map TL.tl) ++ [41]
  simp only [List.append_assoc, List.cons_append, List.nil_append]
theorem txC_any (w : Str) : txC (.any w) = Txt.join " " ["some", w] := by
  refine TL.ext_tl ?_
  rw [TL.join_eq, TL.tl_join]
  rfl
theorem txC_wth (w : Str) : txC (.wth w) = Txt.join " " ["with", w] := by
  refine TL.ext_tl ?_
  rw [TL.join_eq, TL.tl_join]
  rfl
theorem txC_num : txC .num = Txt.join " " ["number"] := by
  refine TL.ext_tl ?_
  rw [TL.join_eq, TL.tl_join]
  rfl
theorem txC_txt : txC .txt = Txt.join " " ["text"] := by
  refine TL.ext_tl ?_
  rw [TL.join_eq, TL.tl_join]
  rfl
end Sc
namespace Sc
open PySem PySem.Spec PyProof.Rows L2
/-- an f-string, its reading by a name -/
def tFs (ts : List TE) : TE := fun σ H Q => tJs ts Str.empty σ H fun out H1 => Q (.str out) H1
theorem pe_fs {X : Cx} {v1 v2 : Expr} {rest : List Expr} {ts : List TE} {pos : Pos} (h : PJ X (v1 :: v2 :: rest) ts) : PE X (.JoinedStr (v1 :: v2 :: rest) pos) (tFs ts) := pe_joined h
end Sc
namespace Sc
open PySem PySem.Spec PyProof.Rows L2
/-! ### a choice by its word -/
theorem wd_rb {c : Ch} (h : wdC c = "row" ∨ wdC c = "book") : ∃ k, c = .row k ∨ c = .book k := by
  cases c with
  | row k => exact ⟨k, .inl rfl⟩
  | book k => exact ⟨k, .inr rfl⟩
  | _ => exact absurd h (by simp only [wdC]; decide +kernel)
theorem wd_shape {c : Ch} (h : wdC c = "shape") : ∃ fs, c = .shape fs := by
  cases c with
  | shape fs => exact ⟨fs, rfl⟩
  | _ => exact absurd h (by simp only [wdC]; decide +kernel)
theorem wd_letter {c : Ch} (h : wdC c = "letter") : ∃ l, c = .letter l := by
  cases c with
  | letter l => exact ⟨l, rfl⟩
  | _ => exact absurd h (by simp only [wdC]; decide +kernel)
theorem wd_cut {c : Ch} (h : wdC c = "cut") : ∃ l hs, c = .cut l hs := by
  cases c with
  | cut l hs => exact ⟨l, hs, rfl⟩
  | _ => exact absurd h (by simp only [wdC]; decide +kernel)
theorem wd_due {c : Ch} (h : wdC c = "some" ∨ wdC c = "with") : ∃ z, c = .any z ∨ c = .wth z := by
  cases c with
  | any z => exact ⟨z, .inl rfl⟩
  | wth z => exact ⟨z, .inr rfl⟩
  | _ => exact absurd h (by simp only [wdC]; decide +kernel)
theorem wd_flat {c : Ch} (h1 : ¬ (wdC c = "row" ∨ wdC c = "book")) (h2 : wdC c ≠ "shape") (h3 : wdC c ≠ "letter") (h4 : wdC c ≠ "cut") (h5 : ¬ (wdC c = "some" ∨ wdC c = "with")) : c = .num ∨ c = .txt := by
  cases c with
  | num => exact .inl rfl
  | txt => exact .inr rfl
  | row k => exact absurd (.inl rfl) h1
  | book k => exact absurd (.inr rfl) h1
  | shape k => exact absurd rfl h2
  | letter k => exact absurd rfl h3
  | cut k _ => exact absurd rfl h4
  | any k => exact absurd (.inl rfl) h5
  | wth k => exact absurd (.inr rfl) h5
theorem txC_due {c : Ch} {z : Str} (h : c = .any z ∨ c = .wth z) : txC c = wdC c ++ (" " : Str) ++ z ∧ restC c = [.str z] := by
  rcases h with rfl | rfl
  · refine ⟨TL.ext_tl ?_, rfl⟩
    simp only [TL.tl_append]
    show TL.tl "some" ++ 32 :: TL.tl z = TL.tl "some" ++ [32] ++ TL.tl z
    simp only [List.append_assoc, List.cons_append, List.nil_append]
  · refine ⟨TL.ext_tl ?_, rfl⟩
    simp only [TL.tl_append]
    show TL.tl "with" ++ 32 :: TL.tl z = TL.tl "with" ++ [32] ++ TL.tl z
    simp only [List.append_assoc, List.cons_append, List.nil_append]
end Sc
namespace Sc
open PySem PySem.Spec PyProof.Rows L2
/-! ### letters -/
def Lett (z : Str) : Prop := 1 ≤ z.cps.toList.length ∧ z.cps.toList.length ≤ 8 ∧ ∀ c ∈ z.cps.toList, 65 ≤ c ∧ c ≤ 90
theorem upper_word {z : Str} (h : Word z) : Lett (Txt.upper z) := by
  obtain ⟨h1, h8, hc⟩ := h
  rw [upper_ascii fun c m => by have := hc c m; omega]
  have e : (⟨z.cps.map up1⟩ : Str).cps.toList = z.cps.toList.map up1 := Array.toList_map
  unfold Lett
  rw [e, List.length_map]
  refine ⟨h1, h8, fun c m => ?_⟩
  obtain ⟨d, hd, rfl⟩ := List.mem_map.mp m
  have := hc d hd
  unfold up1
  rw [if_pos this]
  omega
/-! ### dicts of texts -/
def zipK {β : Type} (xs : List (Str × β)) (vs : List V) : List (Key × V) := (xs.map fun q => Sum.inr q.1).zip vs
theorem zip_of {β : Type} {Pt : Str → Prop} {R : V → β → Prop} : ∀ kvs : List (Key × V), (∀ p ∈ kvs, ∃ t x, p.1 = Sum.inr t ∧ Pt t ∧ R p.2 x) → (kvs.map (·.1)).Nodup →
    ∃ (vs : List V) (xs : List (Str × β)), kvs = zipK xs vs ∧ vs.length = xs.length ∧ (xs.map (·.1)).Nodup ∧ (∀ t, t ∈ xs.map (·.1) → (Sum.inr t : Key) ∈ kvs.map (·.1)) ∧ ∀ (j : Nat) (v : V) (q : Str × β), vs[j]? = some v → xs[j]? = some q → Pt q.1 ∧ R v q.2
  | [], _, _ => ⟨[], [], rfl, rfl, List.nodup_nil, fun t h => by simp at h, fun j v q h => by simp at h⟩
  | (k, v) :: r, h, nd => by
    obtain ⟨t, x, rfl, ht, hx⟩ := h _ List.mem_cons_self
    have nd' : ((Sum.inr t : Key) :: r.map (·.1)).Nodup := nd
    obtain ⟨n1, n2⟩ := List.nodup_cons.mp nd'
    obtain ⟨vs, xs, e, hl, nd2, hm, ha⟩ := zip_of r (fun p hp => h p (List.mem_cons_of_mem _ hp)) n2
    refine ⟨v :: vs, (t, x) :: xs, by rw [e]; rfl, congrArg (· + 1) hl, List.nodup_cons.mpr ⟨fun z => n1 (hm t z), nd2⟩, fun u hu => ?_, fun j v' q h1 h2 => ?_⟩
    · rcases List.mem_cons.mp hu with z | z
      · rw [z]; exact List.mem_cons_self
      · exact List.mem_cons_of_mem _ (hm u z)
    · cases j with
      | zero => cases h1; cases h2; exact ⟨ht, hx⟩
      | succ j => exact ha j v' q h1 h2
theorem zipK_get {β : Type} : ∀ {xs : List (Str × β)} {vs : List V} {j : Nat} {q : Str × β} {v : V}, (xs.map (·.1)).Nodup → xs[j]? = some q → vs[j]? = some v → valV (zipK xs vs) (Sum.inr q.1) = some v
  | (t, x) :: xs, u :: us, 0, q, v, _, h1, h2 => by
    cases h1; cases h2
    exact valV_pos rfl
  | (t, x) :: xs, u :: us, j + 1, q, v, nd, h1, h2 => by
    obtain ⟨n1, n2⟩ := List.nodup_cons.mp (show (t :: xs.map (·.1)).Nodup from nd)
    refine (valV_neg fun e => n1 ?_).trans (zipK_get n2 h1 h2)
    have e2 : t = q.1 := Sum.inr.inj e
    rw [e2]
    exact List.mem_map_of_mem (List.mem_of_getElem? h1)
  | [], _, _, _, _, _, h1, _ => by simp at h1
  | _ :: _, [], _, _, _, _, _, h2 => by simp at h2
theorem zipK_keys {β : Type} : ∀ {xs : List (Str × β)} {vs : List V}, vs.length = xs.length → (zipK xs vs).map (fun kv => kV kv.1) = xs.map fun q => V.str q.1
  | [], [], _ => rfl
  | _ :: _, _ :: _, h => congrArg (_ :: ·) (zipK_keys (Nat.succ.inj h))
theorem zipK_len {β : Type} {xs : List (Str × β)} {vs : List V} (h : vs.length = xs.length) : (zipK xs vs).length = xs.length := by
  unfold zipK
  rw [List.length_zip, List.length_map, h, Nat.min_self]
/-! ### bounds -/
def IsB (K : PySem.W.Frag) (H : Hp) (b : Addr) (bs : List (Str × List Ch)) : Prop := ∃ vs : List V, H b = some (.dK (zipK bs vs)) ∧ vs.length = bs.length ∧ (bs.map (·.1)).Nodup ∧
  ∀ (j : Nat) (v : V) (q : Str × List Ch), vs[j]? = some v → bs[j]? = some q → IsK K H v q.2
theorem IsB.keep {K : PySem.W.Frag} {H H' : Hp} {b : Addr} {bs : List (Str × List Ch)} (h : IsB K H b bs) (k : Keep K H H') (e : ∀ o, H b = some o → H' b = some o) : IsB K H' b bs := by
  obtain ⟨vs, h1, h2, h3, h4⟩ := h
  exact ⟨vs, e _ h1, h2, h3, fun j v q a c => k.dt (h4 j v q a c)⟩
theorem IsB.same {K : PySem.W.Frag} {H H' : Hp} {b : Addr} {bs : List (Str × List Ch)} (h : IsB K H b bs) (e : Same H H') : IsB K H' b bs := h.keep (Same.keep e) fun o => e b o
theorem IsB.ext {K : PySem.W.Frag} {H H' : Hp} {s b : Addr} {i : Inf} {bs : List (Str × List Ch)} (h : IsB K H b bs) (S : IsS K H s i) (e : Ext s H H') (n : b ≠ s) : IsB K H' b bs := h.keep (S.keep e) fun o => e b o n
theorem IsB.at {K : PySem.W.Frag} {H : Hp} {b : Addr} {bs : List (Str × List Ch)} (h : IsB K H b bs) {j : Nat} {q : Str × List Ch} (e : bs[j]? = some q) : ∃ v, DGet H b (.str q.1) (some v) ∧ IsK K H v q.2 := by
  obtain ⟨vs, h1, h2, h3, h4⟩ := h
  have lt : j < vs.length := h2 ▸ (List.getElem?_eq_some_iff.mp e).1
  have g := zipK_get h3 e (List.getElem?_eq_getElem lt)
  exact ⟨vs[j], by rw [← g]; exact DGet.k (k := Sum.inr q.1) h1, h4 j _ q (List.getElem?_eq_getElem lt) e⟩
def okB (bs : List (Str × List Ch)) : Prop := ∀ q ∈ bs, Lett q.1 ∧ q.2 ≠ [] ∧ q.2.length ≤ 3 ∧ okL [] 1 q.2
def spBounds (K : PySem.W.Frag) : Sp := fun vs H Q _ => ∃ (s : Addr) (i : Inf) (m : Nat), vs = [.ref s, .int m] ∧ IsS K H s i ∧ m ≤ 10 ∧
  ∀ (b : Addr) (H' : Hp) (bs : List (Str × List Ch)), Ext s H H' → IsS K H' s i → H b = none → IsB K H' b bs → okB bs → bs.length ≤ m → Q (.ref b) H'
/-! ### heads of choices -/
def hdC : Ch → Str
  | .num => "number" | .txt => "text" | .row _ => "row" | .book _ => "book"
  | .shape fs => Txt.join " " ("shape" :: fs.map (·.1))
  | _ => Str.empty
/-- a choice with a head of its own -/
def hdOk : Ch → Prop
  | .num => True | .txt => True | .row _ => True | .book _ => True
  | .shape fs => Fld (fs.map (·.1))
  | _ => False
theorem hdOk_of {n : Nat} {c : Ch} (h : okC [] n c) : hdOk c := by
  cases c with
  | shape fs => exact (show 0 < n ∧ fs.length ≤ 2 ∧ Fld (fs.map (·.1)) ∧ okF [] (n - 1) fs from h).2.2.1
  | letter l => exact absurd (show l ∈ [] from h) (by simp)
  | cut l hs => exact (show False from h).elim
  | any l => exact (show False from h).elim
  | wth l => exact (show False from h).elim
  | _ => exact trivial
/-- the heads of a kind, ascending -/
def Hs (k : List Ch) (ys : List Str) : Prop := sortedS ys = true ∧ ys.Nodup ∧ ys.length ≤ k.length ∧ ∀ x, x ∈ ys ↔ x ∈ k.map hdC
def spHead (K : PySem.W.Frag) : Sp := fun vs H Q _ => ∃ (v : V) (c : Ch), vs = [v] ∧ IsC K H v c ∧ hdOk c ∧ ∀ (H' : Hp), Same H H' → Q (.str (hdC c)) H'
def headsR (bs : List (Str × List Ch)) (c : Ch) (ys : List Str) : Prop := (∃ l k, c = .letter l ∧ (l, k) ∈ bs ∧ Hs k ys) ∨ ∃ l, c = .cut l ys
def spHeads (K : PySem.W.Frag) : Sp := fun vs H Q _ => ∃ (v : V) (b : Addr) (c : Ch) (bs : List (Str × List Ch)), vs = [v, .ref b] ∧ IsC K H v c ∧ IsB K H b bs ∧ okB bs ∧ ((∃ l k, c = .letter l ∧ (l, k) ∈ bs) ∨ ∃ l hs, c = .cut l hs) ∧
  ∀ (v : V) (H' : Hp) (ys : List Str), Same H H' → Dt K H' v (.tuple (ys.map .str)) → headsR bs c ys → Q v H'
/-- a letter, or a cut of it -/
def okCut (bs : List (Str × List Ch)) (c : Ch) : Prop := ∃ l k, (l, k) ∈ bs ∧ (c = .letter l ∨ ∃ ys a m, c = .cut l ((ys.drop a).take m) ∧ Hs k ys ∧ 0 < m ∧ a + m ≤ ys.length ∧ m < ys.length)
def spCut (K : PySem.W.Frag) : Sp := fun vs H Q _ => ∃ (s b : Addr) (i : Inf) (bs : List (Str × List Ch)), vs = [.ref s, .ref b] ∧ IsS K H s i ∧ b ≠ s ∧ IsB K H b bs ∧ okB bs ∧ bs ≠ [] ∧ bs.length ≤ 10 ∧
  ∀ (v : V) (H' : Hp) (c : Ch), Ext s H H' → IsS K H' s i → IsC K H' v c → okCut bs c → Q v H'
/-- a kind with letters and, at its end, a cut -/
def okA (bs : List (Str × List Ch)) (d : Nat) (k : List Ch) : Prop := ∃ k0 cs, k = k0 ++ cs ∧ okL (bs.map (·.1)) d k0 ∧ k0 ≠ [] ∧ k0.length ≤ 3 ∧ (cs = [] ∨ ∃ c, cs = [c] ∧ okCut bs c)
def spAnyKind (K : PySem.W.Frag) (n : Nat) : Sp := fun vs H Q _ => ∃ (s b : Addr) (i : Inf) (d : Nat) (bs : List (Str × List Ch)), vs = [.ref s, .int d, .ref b] ∧ IsS K H s i ∧ d < n ∧ b ≠ s ∧ IsB K H b bs ∧ okB bs ∧ bs.length ≤ 10 ∧
  ∀ (v : V) (H' : Hp) (k : List Ch), Ext s H H' → IsS K H' s i → IsK K H' v k → okA bs d k → Q v H'
theorem Hs.few {k : List Ch} {ys : List Str} (h : Hs k ys) : ys.length ≤ k.length := h.2.2.1
end Sc
namespace Sc
open PySem PySem.Spec PyProof.Rows L2
/-! ### how long, how deep what is drawn may be -/
def wid : Nat → Nat
  | 0 => 8
  | n + 1 => 6 * wid n + 60
theorem joinL_max {S : List Nat} {B : Nat} : ∀ {ps : List (List Nat)}, (∀ p ∈ ps, p.length ≤ B) → (TL.joinL S ps).length ≤ ps.length * (B + S.length)
  | [], _ => Nat.zero_le _
  | [p], h => by
    have := h p List.mem_cons_self
    show p.length ≤ 1 * _
    omega
  | p :: q :: r, h => by
    have ih := joinL_max (S := S) (B := B) (ps := q :: r) fun x hx => h x (List.mem_cons_of_mem _ hx)
    have := h p List.mem_cons_self
    rw [joinL_cons _ _ _ (by simp), List.length_append, List.length_append, List.length_cons, Nat.add_mul]
    omega
theorem kind_len {B m : Nat} {k : List Ch} (h : ∀ p ∈ cL k, p.length ≤ B) (hk : k.length ≤ m) : (TL.joinL bar (cL k)).length ≤ m * (B + 3) := by
  refine Nat.le_trans (joinL_max h) ?_
  rw [cL_map, List.length_map]
  exact Nat.mul_le_mul_right _ hk
mutual
theorem lenC {ls : List Str} (hl : ∀ l ∈ ls, l.length ≤ 8) : ∀ {n : Nat} {c : Ch}, okC ls n c → (cC c).length ≤ wid n
  | 0, .num, _ => by decide
  | n + 1, .num, _ => Nat.le_trans (by decide : (cC .num).length ≤ 60) (Nat.le_add_left _ _)
  | 0, .txt, _ => by decide
  | n + 1, .txt, _ => Nat.le_trans (by decide : (cC .txt).length ≤ 60) (Nat.le_add_left _ _)
  | 0, .row k, h => absurd h.1 (Nat.lt_irrefl _)
  | n + 1, .row k, h => by
    have := kind_len (lenL hl (show okL ls n k from h.2.2.2)) h.2.2.1
    show (TL.tl "row" ++ 40 :: (TL.joinL bar (cL k) ++ [41])).length ≤ 6 * wid n + 60
    rw [List.length_append, List.length_cons, List.length_append]
    show 3 + (_ + 1 + 1) ≤ _
    omega
  | 0, .book k, h => absurd h.1 (Nat.lt_irrefl _)
  | n + 1, .book k, h => by
    have := kind_len (lenL hl (show okL ls n k from h.2.2.2)) h.2.2.1
    show (TL.tl "book" ++ 40 :: (TL.joinL bar (cL k) ++ [41])).length ≤ 6 * wid n + 60
    rw [List.length_append, List.length_cons, List.length_append]
    show 4 + (_ + 1 + 1) ≤ _
    omega
  | 0, .shape fs, h => absurd h.1 (Nat.lt_irrefl _)
  | n + 1, .shape fs, h => by
    have f := lenF hl (show okF ls n fs from h.2.2.2)
    have g := joinL_max (S := com) f
    rw [cF_map, List.length_map] at g
    have g2 : fs.length * (3 * wid n + 19 + com.length) ≤ 2 * (3 * wid n + 19 + 2) := Nat.mul_le_mul_right _ h.2.1
    rw [← cF_map] at g
    show (123 :: (TL.joinL com (cF fs) ++ [125])).length ≤ 6 * wid n + 60
    rw [List.length_cons, List.length_append]
    show _ + 1 + 1 ≤ _
    have : (TL.joinL com (cF fs)).length ≤ 2 * (3 * wid n + 19 + 2) := Nat.le_trans g g2
    omega
  | n, .letter l, h => by
    have := hl l h
    rw [len_list] at this
    refine Nat.le_trans this ?_
    cases n with
    | zero => exact Nat.le_refl _
    | succ n => show 8 ≤ 6 * wid n + 60; omega
  | _, .cut _ _, h => h.elim
  | _, .any _, h => h.elim
  | _, .wth _, h => h.elim
theorem lenL {ls : List Str} (hl : ∀ l ∈ ls, l.length ≤ 8) : ∀ {n : Nat} {k : List Ch}, okL ls n k → ∀ p ∈ cL k, p.length ≤ wid n
  | _, [], _, p, hp => by cases hp
  | n, c :: r, h, p, hp => by
    rcases List.mem_cons.mp hp with e | e
    · rw [e]; exact lenC hl h.1
    · exact lenL hl h.2 p e
theorem lenF {ls : List Str} (hl : ∀ l ∈ ls, l.length ≤ 8) : ∀ {n : Nat} {fs : List (Str × List Ch)}, okF ls n fs → ∀ p ∈ cF fs, p.length ≤ 3 * wid n + 19
  | _, [], _, p, hp => by cases hp
  | n, (f, k) :: r, h, p, hp => by
    rcases List.mem_cons.mp hp with e | e
    · have := kind_len (lenL hl h.2.2.2.1) h.2.2.1
      have w := h.1.2.1
      rw [e, List.length_append, List.length_cons, List.length_cons]
      show f.cps.toList.length + _ ≤ _
      omega
    · exact lenF hl h.2.2.2.2 p e
end
mutual
theorem deepC {ls : List Str} : ∀ {n : Nat} {c : Ch}, okC ls n c → dC c ≤ n
  | _, .num, _ => Nat.zero_le _
  | _, .txt, _ => Nat.zero_le _
  | 0, .row k, h => absurd h.1 (Nat.lt_irrefl _)
  | n + 1, .row k, h => Nat.succ_le_succ (deepL (show okL ls n k from h.2.2.2))
  | 0, .book k, h => absurd h.1 (Nat.lt_irrefl _)
  | n + 1, .book k, h => Nat.succ_le_succ (deepL (show okL ls n k from h.2.2.2))
  | 0, .shape fs, h => absurd h.1 (Nat.lt_irrefl _)
  | n + 1, .shape fs, h => Nat.succ_le_succ (deepF (show okF ls n fs from h.2.2.2))
  | _, .letter l, _ => Nat.zero_le _
  | _, .cut _ _, h => h.elim
  | _, .any _, h => h.elim
  | _, .wth _, h => h.elim
theorem deepL {ls : List Str} : ∀ {n : Nat} {k : List Ch}, okL ls n k → dL k ≤ n
  | _, [], _ => Nat.zero_le _
  | n, c :: r, h => Nat.max_le.mpr ⟨deepC h.1, deepL h.2⟩
theorem deepF {ls : List Str} : ∀ {n : Nat} {fs : List (Str × List Ch)}, okF ls n fs → dF fs ≤ n
  | _, [], _ => Nat.zero_le _
  | n, (_, k) :: r, h => Nat.max_le.mpr ⟨deepL h.2.2.2.1, deepF h.2.2.2.2⟩
end
end Sc
namespace Sc
open PySem PySem.Spec PyProof.Rows L2
theorem hd_len {n : Nat} {c : Ch} (h : okC [] n c) : (hdC c).length ≤ 300 := by
  cases c with
  | shape fs =>
    have fld : Fld (fs.map (·.1)) := hdOk_of h
    have := join_len " " ("shape" :: fs.map (·.1))
    have s := fld.sum
    have z := fld.2.1
    rw [List.map_cons, List.sum_cons, List.length_cons] at this
    show (Txt.join " " ("shape" :: fs.map (·.1))).length ≤ 300
    have e5 : ("shape" : Str).length = 5 := rfl
    have e1 : (" " : Str).length = 1 := rfl
    rw [e5, e1] at this
    omega
  | num => decide
  | txt => decide
  | row k => exact (by decide : ("row" : Str).length ≤ 300)
  | book k => exact (by decide : ("book" : Str).length ≤ 300)
  | letter l => exact Nat.zero_le _
  | cut l hs => exact Nat.zero_le _
  | any l => exact Nat.zero_le _
  | wth l => exact Nat.zero_le _
theorem cut_len {bs : List (Str × List Ch)} (ok : okB bs) {c : Ch} (h : okCut bs c) : (cC c).length ≤ 2000 ∧ dC c = 0 := by
  obtain ⟨l, k, hm, hc⟩ := h
  obtain ⟨lt, k0, k3, okk⟩ := ok _ hm
  have l8 : (TL.tl l).length ≤ 8 := lt.2.1
  rcases hc with rfl | ⟨ys, a, m, rfl, hs, m0, am, my⟩
  · exact ⟨Nat.le_trans l8 (by decide), rfl⟩
  · refine ⟨?_, rfl⟩
    have g : ∀ p ∈ ((ys.drop a).take m).map TL.tl, p.length ≤ 300 := fun p hp => by
      obtain ⟨y, hy, rfl⟩ := List.mem_map.mp hp
      have hy2 := (hs.2.2.2 y).mp (List.mem_of_mem_drop (List.mem_of_mem_take hy))
      obtain ⟨c, hc, rfl⟩ := List.mem_map.mp hy2
      have := hd_len (okL_mem okk hc)
      rw [len_list] at this
      exact this
    have j := joinL_max (S := com) g
    rw [List.length_map] at j
    have few := hs.2.2.1
    have k3' : k.length ≤ 3 := k3
    have tk : ((ys.drop a).take m).length ≤ 3 := by
      have := List.length_take_le' m (ys.drop a)
      rw [List.length_drop] at this
      omega
    have j2 : ((ys.drop a).take m).length * (300 + com.length) ≤ 3 * (300 + 2) := Nat.mul_le_mul_right _ tk
    show (TL.tl l ++ 40 :: (TL.joinL com (((ys.drop a).take m).map TL.tl) ++ [41])).length ≤ 2000
    rw [List.length_append, List.length_cons, List.length_append]
    show _ + (_ + 1 + 1) ≤ _
    omega
theorem names_len {bs : List (Str × List Ch)} (ok : okB bs) : ∀ l ∈ bs.map (·.1), l.length ≤ 8 := fun l hl => by
  obtain ⟨q, hq, rfl⟩ := List.mem_map.mp hl
  have := (ok q hq).1.2.1
  rw [len_list]
  exact this
theorem cL_app (a b : List Ch) : cL (a ++ b) = cL a ++ cL b := by rw [cL_map, cL_map, cL_map, List.map_append]
theorem dL_app : ∀ a b : List Ch, dL (a ++ b) = max (dL a) (dL b)
  | [], b => by show dL b = max 0 _; omega
  | c :: r, b => by
    have := dL_app r b
    show max (dC c) (dL (r ++ b)) = max (max (dC c) (dL r)) (dL b)
    omega
/-- such a kind's text, with something small behind -/
theorem any_len {bs : List (Str × List Ch)} (ok : okB bs) {d : Nat} {k : List Ch} (h : okA bs d k) : (∀ p ∈ cL k, p.length ≤ wid d + 2000) ∧ k.length ≤ 4 ∧ dL k ≤ d ∧ k ≠ [] := by
  obtain ⟨k0, cs, rfl, okk, n0, n3, hc⟩ := h
  have g := lenL (names_len ok) okk
  rcases hc with rfl | ⟨c, rfl, hc⟩
  · rw [List.append_nil]
    exact ⟨fun p hp => Nat.le_trans (g p hp) (Nat.le_add_right _ _), by omega, deepL okk, n0⟩
  · obtain ⟨h1, h2⟩ := cut_len ok hc
    refine ⟨fun p hp => ?_, by rw [List.length_append]; show _ + 1 ≤ _; omega, ?_, by simp⟩
    · rw [cL_app] at hp
      rcases List.mem_append.mp hp with e | e
      · exact Nat.le_trans (g p e) (Nat.le_add_right _ _)
      · rw [List.mem_singleton.mp e]
        exact Nat.le_trans h1 (Nat.le_add_left _ _)
    · rw [dL_app]
      have := deepL okk
      show max _ (max (dC c) 0) ≤ _
      omega
def spDue (K : PySem.W.Frag) : Sp := fun vs H Q _ => ∃ (s : Addr) (i : Inf), vs = [.ref s] ∧ IsS K H s i ∧
  ∀ (v : V) (H' : Hp) (c : Ch), Ext s H H' → IsS K H' s i → IsC K H' v c → (c = .any "row" ∨ c = .any "book" ∨ ∃ z, c = .wth z ∧ Word z) → Q v H'
end Sc
namespace Sc
open PySem PySem.Spec PyProof.Rows L2
/-! ### defs that may raise -/
structure CalX (P : Program) (w : World) (K : PySem.W.Frag) (mg : Str → Option Value) (base : Heap) (k : Nat) (x : Str) (ps : List Str) (sp : Sp) : Prop where
  ex : ∃ f fd, FnOk P w K mg base (L2.CX P w) k f fd ps sp ∧ mg x = some (.ref f) ∧ PySem.W.keepIn K (.ref f) = true ∧ Binds K fd ps []
theorem CalX.mono {P : Program} {w : World} {K : PySem.W.Frag} {mg : Str → Option Value} {base : Heap} {j k : Nat} {x : Str} {ps : List Str} {sp : Sp} (C : CalX P w K mg base j x ps sp) (h : j ≤ k) : CalX P w K mg base k x ps sp := by
  obtain ⟨f, fd, a, b⟩ := C.ex
  exact ⟨f, fd, a.mono h, b⟩
theorem Def.neverX {P : Program} {w : World} {K : PySem.W.Frag} {mg : Str → Option Value} {base : Heap} {x : Str} {st : Stmt} {ps : List Str} {sp : Sp} (D : Def K mg x st ps) (no : ∀ vs H Q E, ¬ sp vs H Q E) : CalX P w K mg base 0 x ps sp := by
  obtain ⟨f, fd, F, m, b⟩ := D.ex
  exact ⟨f, fd, ⟨fun vs H Q E h => absurd h (no vs H Q E), fun A outer s H args us vs Q E _ _ _ _ h => absurd h (no vs H Q E)⟩, m, F.kp, b⟩
theorem Def.okX {P : Program} {w : World} {K : PySem.W.Frag} {mg : Str → Option Value} {base : Heap} {x : Str} {st : Stmt} {N ps : List Str} {k : Nat} {sp : Sp} (D : Def K mg x st ps) (S : FnScope N ps (defScope st)) (len : ∀ vs H Q E, sp vs H Q E → vs.length = ps.length)
    (body : ∀ (f : Addr) (cdv : Value) (A : Around) (outer : List Env) (s : Shared) (H : Hp) (vs : List V) (Q : VK) (E : XK), Room k (A.deeper (envOfC x (defScope st) s.heap.objs.size f cdv)) → sp vs H Q E →
      ∃ t, PSs (cxOf (L2.CX P w) P w K mg base N x (defScope st) f cdv A outer s H E) (defBody st) t ∧ t { nx := fun _ H' => Q .non H', rt := Q } (start N vs) H) : CalX P w K mg base (k + 1) x ps sp := by
  obtain ⟨f, fd, F, m, b⟩ := D.ex
  exact ⟨f, fd, F.okX S len fun cdv A outer s H vs Q E hr h => body f cdv A outer s H vs Q E hr h, m, F.kp, b⟩
section
variable {X : Cx} {k : Nat} {x : Str} {ps : List Str} {sp : Sp} {e : Expr} {es : List Expr} {t : TA} {p pos : Pos} {E : XK}
/-- a call of a def that may raise: what it raises leaves -/
theorem pe_calX (C : CalX X.prog X.w X.K X.mg X.base k x ps sp) (hr : Room k X.A) (hx : Passes (L2.CX X.prog X.w) X E) (ha : PA X (e :: es) t) (hg : Gl X x := by rfl) (hdb : (x == ("__debug__" : Str)) = false := by decide)
    (he : starEach (e :: es) X.env = (false, eval e X.env) :: starEach es X.env := by rfl) (hpl : (backTo pos (starEach es X.env)).any (·.1) = false := by rfl) :
    PE X (.Call (.Name x p) (e :: es) [] pos) (tCall sp [] E t) := by
  obtain ⟨f, fd, F, m, kp, b⟩ := C.ex
  exact pe_call F hr hg m kp b .nil hx ha hdb he hpl
end
/-! ### data, tables -/
/-- lists and tuples are kept -/
def KeepL (K : PySem.W.Frag) (H H' : Hp) : Prop := (∀ a xs, SqL K H a xs → SqL K H' a xs) ∧ Keep K H H'
mutual
theorem KeepL.dp {K : PySem.W.Frag} {H H' : Hp} (e : KeepL K H H') : ∀ {v : V} {d : PyData}, Dp K H v d → Dp K H' v d
  | _, _, .non => .non
  | _, _, .bl b => .bl b
  | _, _, .int i => .int i
  | _, _, .str x => .str x
  | _, _, .lst h a => .lst (e.1 _ _ h) (KeepL.dps e a)
  | _, _, .tup h a => .tup (e.2 _ _ h) (KeepL.dps e a)
theorem KeepL.dps {K : PySem.W.Frag} {H H' : Hp} (e : KeepL K H H') : ∀ {vs : List V} {ds : List PyData}, DpAll K H vs ds → DpAll K H' vs ds
  | _, _, .nil => .nil
  | _, _, .cons h t => .cons (KeepL.dp e h) (KeepL.dps e t)
end
theorem DpAll.len {K : PySem.W.Frag} {H : Hp} : ∀ {vs : List V} {ds : List PyData}, DpAll K H vs ds → vs.length = ds.length
  | _, _, .nil => rfl
  | _, _, .cons _ t => congrArg (· + 1) (DpAll.len t)
theorem DpAll.get {K : PySem.W.Frag} {H : Hp} : ∀ {vs : List V} {ds : List PyData} {i : Nat} {v : V}, DpAll K H vs ds → vs[i]? = some v → ∃ d, ds[i]? = some d ∧ Dp K H v d
  | _, _, 0, _, .cons h _, e => ⟨_, rfl, by simp at e; subst e; exact h⟩
  | _, _, i + 1, v, .cons _ t, e => by
    obtain ⟨d, h1, h2⟩ := DpAll.get (i := i) (v := v) t (by simpa using e)
    exact ⟨d, by simpa using h1, h2⟩
/-- all but the tables is kept, the tables at T are tables -/
def Tb (T : List Addr) (H : Hp) : Prop := ∀ P ∈ T, GxR.TabG H P
structure Fr (T : List Addr) (H H' : Hp) : Prop where
  old : ∀ b o, H b = some o → b ∉ T → H' b = some o
  tab : Tb T H'
theorem Fr.refl {T : List Addr} {H : Hp} (t : Tb T H) : Fr T H H := ⟨fun _ _ h _ => h, t⟩
theorem Fr.trans {T : List Addr} {H H1 H2 : Hp} (a : Fr T H H1) (b : Fr T H1 H2) : Fr T H H2 := ⟨fun c o h n => b.old c o (a.old c o h n) n, b.tab⟩
theorem Fr.same {T : List Addr} {H H' : Hp} (t : Tb T H) (e : Same H H') : Fr T H H' := ⟨fun b o h _ => e b o h, fun P hP => let ⟨ps, h, g⟩ := t P hP; ⟨ps, e _ _ h, g⟩⟩
theorem Fr.tabbed {T : List Addr} {P : Addr} {H H' : Hp} (t : Tb T H) (h : GxR.Tabbed P H H') (hP : P ∈ T) : Fr T H H' := by
  refine ⟨fun b o e n => ?_, fun P' hP' => ?_⟩
  · rw [h.2 b fun z => n (z ▸ hP)]
    exact e
  · by_cases z : P' = P
    · rw [z]; exact h.1
    · obtain ⟨ps, e, g⟩ := t P' hP'
      exact ⟨ps, by rw [h.2 P' z]; exact e, g⟩
theorem Fr.free {T : List Addr} {H H' : Hp} {l : Addr} (t : Tb T H) (e : Fr T H H') (h : H' l = none) : H l = none := by
  by_cases hl : l ∈ T
  · obtain ⟨ps, g, _⟩ := e.tab l hl
    rw [g] at h
    cases h
  · cases q : H l with
    | none => rfl
    | some o => rw [e.old l o q hl] at h; cases h
theorem Fr.keep {K : PySem.W.Frag} {T : List Addr} {H H' : Hp} (t : Tb T H) (e : Fr T H H') : KeepL K H H' := by
  have ne : ∀ a o, H a = some o → (∀ ps, o ≠ .tbl ps) → a ∉ T := fun a o h n z => by
    obtain ⟨ps, g, _⟩ := t a z
    rw [h] at g
    exact n ps (Option.some.inj g)
  refine ⟨fun a xs h => ?_, fun a xs h => ?_⟩
  · rcases h with (h | ⟨o, h⟩) | h
    · exact .inl (.inl (e.old _ _ h (ne _ _ h fun ps z => by cases z)))
    · exact .inl (.inr ⟨o, e.old _ _ h (ne _ _ h fun ps z => by cases z)⟩)
    · exact .inr h
  · rcases h with (h | ⟨o, h⟩) | h
    · exact .inl (.inl (e.old _ _ h (ne _ _ h fun ps z => by cases z)))
    · exact .inl (.inr ⟨o, e.old _ _ h (ne _ _ h fun ps z => by cases z)⟩)
    · exact .inr h
/-- the type of data -/
def tyD : PyData → String
  | .none => "NoneType" | .bool _ => "bool" | .int _ => "int" | .str _ => "str" | .list _ => "list" | .tuple _ => "tuple" | .dict _ => "dict"
theorem Dp.ty {K : PySem.W.Frag} {H : Hp} {v : V} {d : PyData} (h : Dp K H v d) : TyX K H v (.type (tyD d)) := by
  cases h with
  | non => exact .base .non
  | bl b => exact .base (.bl b)
  | int i => exact .base (.int i)
  | str x => exact .base (.str x)
  | lst h _ =>
    rcases h with (h | ⟨o, h⟩) | ⟨o, its, n, h1, h2, _⟩
    · exact .base (.lst h)
    · exact .base (.frz h)
    · exact .kList h1 h2
  | tup h _ =>
    rcases h with (h | ⟨o, h⟩) | ⟨o, its, n, h1, h2, _⟩
    · exact .base (.tup h)
    · exact .fTuple h
    · exact .kTuple h1 h2
def isTupB : PyData → Bool
  | .tuple _ => true
  | _ => false
def isStrB : PyData → Bool
  | .str _ => true
  | _ => false
/-- is it of the type T: no dict among the data -/
theorem isTup {K : PySem.W.Frag} {H : Hp} {v : V} {d : PyData} (h : Dp K H v d) : kitB (tyD d) "tuple" = some (isTupB d) := by
  cases h with
  | non => exact (by decide +kernel : kitB "NoneType" "tuple" = some false)
  | bl b => exact (by decide +kernel : kitB "bool" "tuple" = some false)
  | int i => exact (by decide +kernel : kitB "int" "tuple" = some false)
  | str x => exact (by decide +kernel : kitB "str" "tuple" = some false)
  | lst _ _ => exact (by decide +kernel : kitB "list" "tuple" = some false)
  | tup _ _ => exact (by decide +kernel : kitB "tuple" "tuple" = some true)
theorem isStr {K : PySem.W.Frag} {H : Hp} {v : V} {d : PyData} (h : Dp K H v d) : kitB (tyD d) "str" = some (isStrB d) := by
  cases h with
  | non => exact (by decide +kernel : kitB "NoneType" "str" = some false)
  | bl b => exact (by decide +kernel : kitB "bool" "str" = some false)
  | int i => exact (by decide +kernel : kitB "int" "str" = some false)
  | str x => exact (by decide +kernel : kitB "str" "str" = some true)
  | lst _ _ => exact (by decide +kernel : kitB "list" "str" = some false)
  | tup _ _ => exact (by decide +kernel : kitB "tuple" "str" = some false)
end Sc
namespace Sc
open PySem PySem.Spec PyProof.Rows L2
mutual
/-- no long texts, no long rows -/
def sm : PyData → Bool
  | .str z => decide (z.length ≤ 1000)
  | .list xs => decide (xs.length ≤ 60) && smAll xs
  | .tuple xs => decide (xs.length ≤ 60) && smAll xs
  | .dict _ => false
  | _ => true
def smAll : List PyData → Bool
  | [] => true
  | x :: xs => sm x && smAll xs
end
def okD (d : PyData) : Prop := SeqAt.shaped d = true ∧ sm d = true
theorem smAll_mem {x : PyData} : ∀ {xs : List PyData}, smAll xs = true → x ∈ xs → sm x = true
  | y :: ys, h, m => by
    have h' : (sm y && smAll ys) = true := h
    rw [Bool.and_eq_true] at h'
    rcases List.mem_cons.mp m with e | e
    · rw [e]; exact h'.1
    · exact smAll_mem h'.2 e
theorem layAll_mem {x : PyData} : ∀ {xs : List PyData}, PyData.canLayAll0 xs = true → x ∈ xs → x.canLay0 = true
  | y :: ys, h, m => by
    have h' : (PyData.canLay0 y && PyData.canLayAll0 ys) = true := h
    rw [Bool.and_eq_true] at h'
    rcases List.mem_cons.mp m with e | e
    · rw [e]; exact h'.1
    · exact layAll_mem h'.2 e
theorem depthAll_mem {x : PyData} : ∀ {xs : List PyData}, x ∈ xs → x.depth ≤ PyData.depthAll xs
  | y :: ys, m => by
    have e0 : PyData.depthAll (y :: ys) = max y.depth (PyData.depthAll ys) := by simp [PyData.depthAll]
    rw [e0]
    rcases List.mem_cons.mp m with e | e
    · rw [e]; exact Nat.le_max_left _ _
    · exact Nat.le_trans (depthAll_mem e) (Nat.le_max_right _ _)
theorem okD.sub {ds : List PyData} (h : okD (.tuple ds)) : ds.length ≤ 60 ∧ ∀ x ∈ ds, okD x := by
  obtain ⟨h1, h2⟩ := h
  have h2' : (decide (ds.length ≤ 60) && smAll ds) = true := h2
  rw [Bool.and_eq_true, decide_eq_true_eq] at h2'
  refine ⟨h2'.1, fun x hx => ⟨?_, smAll_mem h2'.2 hx⟩⟩
  have l := SeqAt.canLay_of_shaped h1
  have d := SeqAt.depth_of_shaped h1
  have e0 : (PyData.tuple ds).depth = PyData.depthAll ds + 1 := by simp [PyData.depth]
  have := depthAll_mem hx
  exact Bool.and_eq_true_iff.mpr ⟨layAll_mem l hx, decide_eq_true (by omega)⟩
/-! ### what is a word, a letter -/
instance (z : Str) : Decidable (Lett z) := by unfold Lett; infer_instance
def isWordD : PyData → Bool
  | .str z => decide (Word z)
  | _ => false
def isLettD : PyData → Bool
  | .str z => decide (Lett z)
  | _ => false
def lenOkD : PyData → Bool
  | .str z => decide (1 ≤ z.length) && decide (z.length ≤ 8)
  | _ => false
/-- the promise of a test of data -/
def spTest (K : PySem.W.Frag) (T : List Addr) (p : PyData → Bool) : Sp := fun vs H Q _ => ∃ (v : V) (d : PyData), vs = [v] ∧ Dp K H v d ∧ okD d ∧ Tb T H ∧ ∀ (H' : Hp), Fr T H H' → Q (.bl (p d)) H'
/-- 'a' <= sign <= 'z' -/
theorem elt_between {prog : Program} {w : World} {scope : Scope} {x : Str} {a b : Nat} {j1 j2 : Nat} {p1 p2 p3 p4 : Pos} (hk : scope.kind = .function) (hl : scope.names.lookup x = some .local) (hd : (x == ("__debug__" : Str)) = false := by decide) :
    GxR.EltP prog w scope x (.Compare (.Constant (.str ⟨#[a]⟩) j1 p1) [.LtE, .LtE] [.Name x p2, .Constant (.str ⟨#[b]⟩) j2 p3] p4) (fun c => decide (a ≤ c) && decide (c ≤ b)) := by
  intro cenv A' E' c t s₂ m₂ hs hn hm
  refine Compare_chain (Calls.Constant_str (chain_link ?_)) (by with_unfolding_all rfl)
  refine wpAny_Name (wpAny_loadName_local (by rw [hs]; exact hk) (show cenv.scope.names.lookup x = some .local by rw [hs]; exact hl) hn hm ?_) hd
  refine PySem.P.le_str (wpAny_truthy_bool ?_)
  have l1 : (!decide ((⟨#[c]⟩ : Str).cps.toList < (⟨#[a]⟩ : Str).cps.toList)) = decide (a ≤ c) := by
    rw [← decide_not]
    refine decide_eq_decide.mpr ?_
    show ¬ [c] < [a] ↔ a ≤ c
    rw [List.cons_lt_cons_iff]
    simp
  have l2 : (!decide ((⟨#[b]⟩ : Str).cps.toList < (⟨#[c]⟩ : Str).cps.toList)) = decide (c ≤ b) := by
    rw [← decide_not]
    refine decide_eq_decide.mpr ?_
    show ¬ [b] < [c] ↔ c ≤ b
    rw [List.cons_lt_cons_iff]
    simp
  rw [l1]
  cases h : decide (a ≤ c) with
  | false =>
    rw [if_neg Bool.false_ne_true]
    refine ⟨?_, GxR.keeps_tok _ _⟩
    dsimp only
    rw [h]
    rfl
  | true =>
    rw [if_pos rfl]
    refine chain_last (Calls.Constant_str (PySem.P.le_str ?_))
    refine ⟨?_, GxR.keeps_tok _ _⟩
    dsimp only
    rw [l2, h, Bool.true_and]
end Sc
namespace Sc
open PySem PySem.Spec PyProof.Rows L2
/-! ### ascending texts -/
abbrev ltT (a b : Str) : Prop := a.cps.toList < b.cps.toList
def ascB (zs : List Str) : Bool := sortedS zs && decide zs.Nodup
theorem str_ext {a b : Str} (h : a.cps.toList = b.cps.toList) : a = b := by
  cases a; cases b
  exact congrArg _ (Array.toList_inj.mp h)
theorem rising_iff : ∀ (p : Str) (l : List Str), risingS p l = true ↔ (p :: l).Pairwise (fun a b => ¬ ltT b a)
  | p, [] => by simp [risingS]
  | p, x :: r => by
    unfold risingS
    rw [Bool.and_eq_true, rising_iff x r, Bool.not_eq_true', PyProof.Rows.ltCps_eq, decide_eq_false_iff_not]
    constructor
    · rintro ⟨h1, h2⟩
      refine List.pairwise_cons.mpr ⟨fun y hy => ?_, h2⟩
      rcases List.mem_cons.mp hy with e | e
      · rw [e]; exact h1
      · exact List.le_trans (α := Nat) h1 ((List.pairwise_cons.mp h2).1 y e)
    · intro h
      have h' := List.pairwise_cons.mp h
      exact ⟨h'.1 x List.mem_cons_self, h'.2⟩
theorem sorted_iff (l : List Str) : sortedS l = true ↔ l.Pairwise (fun a b => ¬ ltT b a) := by
  cases l with
  | nil => simp [sortedS]
  | cons p r => exact rising_iff p r
theorem asc_iff (l : List Str) : ascB l = true ↔ l.Pairwise ltT := by
  unfold ascB
  rw [Bool.and_eq_true, sorted_iff, decide_eq_true_eq]
  constructor
  · rintro ⟨h1, h2⟩
    refine List.Pairwise.imp₂ (fun a b h g => ?_) h1 h2
    exact Classical.byContradiction fun z => g (str_ext (List.le_antisymm (α := Nat) h z))
  · intro h
    exact ⟨h.imp fun g => List.lt_asymm g, h.imp fun {a b} g e => by rw [e] at g; exact List.lt_irrefl _ g⟩
theorem asc_uniq : ∀ (xs ys : List Str), xs.Pairwise ltT → ys.Pairwise ltT → (∀ x, x ∈ xs ↔ x ∈ ys) → xs = ys
  | [], [], _, _, _ => rfl
  | [], y :: _, _, _, h => absurd ((h y).mpr List.mem_cons_self) (by simp)
  | x :: _, [], _, _, h => absurd ((h x).mp List.mem_cons_self) (by simp)
  | x :: xs, y :: ys, hx, hy, h => by
    have hx' := List.pairwise_cons.mp hx
    have hy' := List.pairwise_cons.mp hy
    have e : x = y := by
      rcases List.mem_cons.mp ((h x).mp List.mem_cons_self) with e | e
      · exact e
      rcases List.mem_cons.mp ((h y).mpr List.mem_cons_self) with e2 | e2
      · exact e2.symm
      exact absurd (hy'.1 x e) (List.lt_asymm (hx'.1 y e2))
    subst e
    have irr : ∀ z, ltT x z → z ≠ x := fun z g e => by rw [e] at g; exact List.lt_irrefl _ g
    rw [asc_uniq xs ys hx'.2 hy'.2 fun z => ⟨fun m => ?_, fun m => ?_⟩]
    · rcases List.mem_cons.mp ((h z).mp (List.mem_cons_of_mem _ m)) with e | e
      · exact absurd e (irr z (hx'.1 z m))
      · exact e
    · rcases List.mem_cons.mp ((h z).mpr (List.mem_cons_of_mem _ m)) with e | e
      · exact absurd e (irr z (hy'.1 z m))
      · exact e
/-- a list against the sorted set of its members -/
theorem asc_eq {zs ys : List Str} (so : sortedS ys = true) (nd : ys.Nodup) (mem : ∀ x, x ∈ ys ↔ x ∈ zs) : decide (zs = ys) = ascB zs := by
  have hy : ascB ys = true := by unfold ascB; rw [so, decide_eq_true nd]; rfl
  rw [Bool.eq_iff_iff, decide_eq_true_eq]
  constructor
  · intro e; rw [e]; exact hy
  · intro h
    exact asc_uniq zs ys ((asc_iff _).mp h) ((asc_iff _).mp hy) fun x => (mem x).symm
theorem eqv_strs : ∀ (xs ys : List Str), PyData.eqvAll (xs.map .str) (ys.map .str) = decide (xs = ys)
  | [], [] => rfl
  | [], _ :: _ => rfl
  | _ :: _, [] => rfl
  | x :: xs, y :: ys => by
    have e : PyData.eqvAll ((x :: xs).map .str) ((y :: ys).map .str) = ((x == y) && PyData.eqvAll (xs.map .str) (ys.map .str)) := by
      simp [PyData.eqvAll, PyData.eqv]
    rw [e, eqv_strs xs ys, Bool.eq_iff_iff, Bool.and_eq_true, decide_eq_true_eq, beq_iff_eq, decide_eq_true_eq, List.cons.injEq]
theorem dp_strs {K : PySem.W.Frag} {H : Hp} : ∀ zs : List Str, DpAll K H (zs.map V.str) (zs.map .str)
  | [] => .nil
  | z :: zs => .cons (.str z) (dp_strs zs)
theorem lay_strs : ∀ {zs : List Str}, (∀ z ∈ zs, PyData.canLay0 (.str z) = true) → PyData.canLayAll0 (zs.map .str) = true
  | [], _ => rfl
  | z :: zs, h => by
    show (PyData.canLay0 (.str z) && PyData.canLayAll0 (zs.map .str)) = true
    rw [lay_strs fun x m => h x (List.mem_cons_of_mem _ m), Bool.and_true]
    exact h z List.mem_cons_self
theorem dep_strs : ∀ zs : List Str, PyData.depthAll (zs.map .str) ≤ 1
  | [] => by simp [PyData.depthAll]
  | z :: zs => by
    have := dep_strs zs
    simp only [List.map_cons, PyData.depthAll, PyData.depth]
    omega
theorem shaped_strs {zs : List Str} (h : ∀ z ∈ zs, PyData.canLay0 (.str z) = true) : SeqAt.shaped (.list (zs.map .str)) = true := by
  have d := dep_strs zs
  have e0 : (PyData.list (zs.map .str)).depth = PyData.depthAll (zs.map .str) + 1 := by simp [PyData.depth]
  exact Bool.and_eq_true_iff.mpr ⟨lay_strs h, decide_eq_true (by omega)⟩
end Sc
namespace Sc
open PySem PySem.Spec PyProof.Rows L2
/-! ### what is refused -/
/-- an own class of errors under ValueError -/
structure Ec (K : PySem.W.Frag) (mg : Str → Option Value) (x : Str) (C : Addr) : Prop where
  g : mg x = some (.ref C)
  q : PySem.W.excIn K C [.type "ValueError", .type "Exception", .type "BaseException", .type "object"] "ValueError.__new__" = true
  k : PySem.W.keepIn K (.ref C) = true
  b : PySem.W.subIn K (.ref C) (.type "BaseException") = some true
  t : PySem.W.typeIn K (.ref C) = some (.type "type")
def pairD : PyData → Bool
  | .tuple [.str _, _] => true
  | _ => false
def nameD : PyData → Str
  | .tuple (.str z :: _) => z
  | _ => Str.empty
def fldD : PyData → Bool
  | .tuple ds => !ds.isEmpty && ds.all pairD && ascB (ds.map nameD)
  | _ => false
theorem two_open {K : PySem.W.Frag} {H : Hp} {vs : List V} {ds : List PyData} (h : DpAll K H vs ds) (two : vs.length = 2) : ∃ x1 x2 d1 d2, vs = [x1, x2] ∧ ds = [d1, d2] ∧ Dp K H x1 d1 ∧ Dp K H x2 d2 := by
  cases h with
  | nil => cases two
  | cons h1 t => cases t with
    | nil => cases two
    | cons h2 t => cases t with
      | nil => exact ⟨_, _, _, _, rfl, rfl, h1, h2⟩
      | cons _ _ => exact absurd two (by simp)
theorem pair_len : ∀ {ds : List PyData}, ds.length ≠ 2 → pairD (.tuple ds) = false
  | [], _ => rfl
  | [u], _ => by cases u <;> rfl
  | [_, _], e => absurd rfl e
  | u :: _ :: _ :: _, _ => by cases u <;> rfl
theorem pair_two (d1 d2 : PyData) : pairD (.tuple [d1, d2]) = isStrB d1 := by cases d1 <;> rfl
def letD (ls : List Str) : PyData → Bool
  | .str z => isLettD (.str z) && decide (z ∈ ls)
  | _ => false
/-- choices, fields, by what is good within -/
def gPr (g : PyData → Bool) : PyData → Bool
  | .tuple [n, k] => isWordD n && g k
  | _ => false
def gFl (g : PyData → Bool) : PyData → Bool
  | .tuple ds => fldD (.tuple ds) && ds.all (gPr g)
  | _ => false
def gCh (ls : List Str) (g : PyData → Bool) : PyData → Bool
  | .tuple [.str w] => w == "number" || w == "text"
  | .tuple [.str w, t] => if w = "row" ∨ w = "book" then g t else if w = "shape" then gFl g t else if w = "letter" then letD ls t else false
  | _ => false
/-- a kind with room n - 1 -/
def gK (ls : List Str) : Nat → PyData → Bool
  | 0, _ => false
  | n + 1, d => match d with
    | .tuple ds => !ds.isEmpty && ds.all (gCh ls (gK ls n))
    | _ => false
/-- the promise of a def that refuses: rest behind the letters -/
def spNeed (K : PySem.W.Frag) (T : List Addr) (CB : Addr) (rest : List V) (p : List Str → PyData → Bool) : Sp := fun vs H Q E => ∃ (ls : List Str) (v : V) (d : PyData) (la : Addr), vs = v :: .ref la :: rest ∧ Dp K H v d ∧ okD d ∧ Tb T H ∧ SqT K H la (ls.map V.str) ∧
  (p ls d = true → ∀ (H' : Hp), Fr T H H' → Q .non H') ∧ (p ls d = false → ∀ (H' : Hp), Fr T H H' → E (.ref CB) none H')
theorem in_strs (z : Str) (ls : List Str) : inV (.str z) (ls.map V.str) = decide (z ∈ ls) := by
  unfold inV
  rw [Bool.eq_iff_iff, List.any_map, List.any_eq_true, decide_eq_true_eq]
  constructor
  · rintro ⟨y, hy, e⟩
    have e' : (y == z) = true := e
    rw [beq_iff_eq] at e'
    rw [← e']; exact hy
  · intro h
    exact ⟨z, h, by show (z == z) = true; rw [beq_iff_eq]⟩
theorem flat_strs : ∀ ls : List Str, (ls.map V.str).all flatV = true
  | [] => rfl
  | _ :: ls => by rw [List.map_cons, List.all_cons, flat_strs ls]; rfl
end Sc
namespace Sc
open PySem PySem.Spec PyProof.Rows L2
/-! ### literals -/
theorem Same.keepL {K : PySem.W.Frag} {H H' : Hp} (e : Same H H') : KeepL K H H' := ⟨fun _ _ h => Same.seq e h, fun _ _ h => Same.tup e h⟩
/-- a written value: the slot i holds g -/
def tLit (K : PySem.W.Frag) (i : Nat) (g d : PyData) : TE := fun σ H Q => (∃ v, σ[i]? = some (some v) ∧ Dp K H v g) ∧ ∀ v H', Same H H' → Dp K H' v d → Q v H'
def tLits (K : PySem.W.Frag) (i : Nat) (g : PyData) (ds : List PyData) : TA := fun σ H Q => (∃ v, σ[i]? = some (some v) ∧ Dp K H v g) ∧ ∀ vs H', Same H H' → DpAll K H' vs ds → Q vs H'
def tLitL (K : PySem.W.Frag) (i : Nat) (g : PyData) (ds : List PyData) : TE := fun σ H Q => (∃ v, σ[i]? = some (some v) ∧ Dp K H v g) ∧ ∀ l vs H', Same H H' → H' l = some (.lst vs) → DpAll K H' vs ds → Q (.ref l) H'
section
variable {X : Cx} {K : PySem.W.Frag} {i : Nat} {g d : PyData} {ds : List PyData} {e : Expr} {es : List Expr}
theorem pe_imp {t t' : TE} (h : PE X e t) (k : ∀ σ H Q, t' σ H Q → t σ H Q) : PE X e t' := ⟨fun pins s σ H Q I q => h.run pins s σ H Q I (k σ H Q q)⟩
theorem pa_imp {t t' : TA} (h : PA X es t) (k : ∀ σ H Q, t' σ H Q → t σ H Q) : PA X es t' := ⟨fun pos pins s σ H Q I q => h.run pos pins s σ H Q I (k σ H Q q)⟩
theorem lit_str {x : Str} {j : Nat} {pos : Pos} : PE X (.Constant (.str x) j pos) (tLit K i g (.str x)) := pe_imp pe_str fun _ _ _ q => q.2 _ _ (Same.refl _) (.str _)
theorem lit_int {x : Int} {j : Nat} {pos : Pos} : PE X (.Constant (.int x) j pos) (tLit K i g (.int x)) := pe_imp pe_int fun _ _ _ q => q.2 _ _ (Same.refl _) (.int _)
theorem lit_non {j : Nat} {pos : Pos} : PE X (.Constant .none j pos) (tLit K i g .none) := pe_imp pe_non fun _ _ _ q => q.2 _ _ (Same.refl _) .non
theorem lit_var (h : PE X e (tVar i)) : PE X e (tLit K i g g) := pe_imp h fun _ _ _ ⟨⟨v, a, b⟩, q⟩ => ⟨v, a, q _ _ (Same.refl _) b⟩
theorem lits_nil : PA X [] (tLits K i g []) := pa_imp pa_nil fun _ _ _ q => q.2 _ _ (Same.refl _) .nil
theorem lits_cons (h : PE X e (tLit K i g d)) (r : PA X es (tLits K i g ds)) (hs : starEach (e :: es) X.env = (false, eval e X.env) :: starEach es X.env := by rfl) : PA X (e :: es) (tLits K i g (d :: ds)) :=
  pa_imp (pa_cons h r hs) fun _ _ _ ⟨⟨v0, a, b⟩, q⟩ => ⟨⟨v0, a, b⟩, fun v H1 e1 d1 => ⟨⟨v0, a, KeepL.dp (Same.keepL e1) b⟩, fun vs H2 e2 d2 => q _ _ (Same.trans e1 e2) (.cons (KeepL.dp (Same.keepL e2) d1) d2)⟩⟩
theorem lit_tup {x1 : Nat} {pos : Pos} (h : PA X es (tLits K i g ds)) (hl : ds.length ≤ 1000) : PE X (.Tuple es x1 pos) (tLit K i g (.tuple ds)) :=
  pe_imp (pe_tup h) fun _ _ _ ⟨a, q⟩ => ⟨a, fun vs H1 e1 d1 => ⟨sizeOk (by rw [DpAll.len d1]; exact Nat.le_trans hl (by decide)), fun p hp => q _ _ (Same.trans e1 (same_new hp _)) (.tup (SqT.of upd_same) (KeepL.dps (Same.keepL (same_new hp _)) d1))⟩⟩
theorem lit_lst {pos : Pos} (h : PA X es (tLits K i g ds)) (hl : ds.length ≤ 1000) : PE X (.List es pos) (tLitL K i g ds) :=
  pe_imp (pe_lst h) fun _ _ _ ⟨a, q⟩ => ⟨a, fun vs H1 e1 d1 => ⟨sizeOk (by rw [DpAll.len d1]; exact Nat.le_trans hl (by decide)), fun p hp => q _ _ _ (Same.trans e1 (same_new hp _)) upd_same (KeepL.dps (Same.keepL (same_new hp _)) d1)⟩⟩
theorem lit_list {pos : Pos} (h : PA X es (tLits K i g ds)) (hl : ds.length ≤ 1000) : PE X (.List es pos) (tLit K i g (.list ds)) :=
  pe_imp (lit_lst h hl) fun _ _ _ ⟨a, q⟩ => ⟨a, fun _ _ _ e1 h1 d1 => q _ _ e1 (.lst (SqL.of h1) d1)⟩
end
theorem DpAll.app {K : PySem.W.Frag} {H : Hp} : ∀ {vs : List V} {ds : List PyData} {us : List V} {es : List PyData}, DpAll K H vs ds → DpAll K H us es → DpAll K H (vs ++ us) (ds ++ es)
  | _, _, _, _, .nil, h => h
  | _, _, _, _, .cons a b, h => .cons a (DpAll.app b h)
end Sc
namespace Sc
open PySem PySem.Spec PyProof.Rows L2
/-! ### good kinds, bad ones -/
theorem okL_mem' {ls : List Str} {d : Nat} {c : Ch} : ∀ {k : List Ch}, okL ls d k → c ∈ k → okC ls d c
  | _ :: _, h, m => by
    rcases List.mem_cons.mp m with e | e
    · rw [e]; exact h.1
    · exact okL_mem' h.2 e
theorem okF_mem' {ls : List Str} {d : Nat} {p : Str × List Ch} : ∀ {fs : List (Str × List Ch)}, okF ls d fs → p ∈ fs → Word p.1 ∧ p.2 ≠ [] ∧ p.2.length ≤ 3 ∧ okL ls d p.2
  | (f, k) :: r, h, m => by
    rcases List.mem_cons.mp m with e | e
    · rw [e]; exact ⟨h.1, h.2.1, h.2.2.1, h.2.2.2.1⟩
    · exact okF_mem' h.2.2.2.2 e
theorem gCh_two' {ls : List Str} {g : PyData → Bool} (w : Str) (t : PyData) : gCh ls g (.tuple [.str w, t]) = if w = "row" ∨ w = "book" then g t else if w = "shape" then gFl g t else if w = "letter" then letD ls t else false := rfl
theorem good_kind {ls : List Str} (hl : ∀ l ∈ ls, Lett l) : ∀ (d n : Nat), d < n → ∀ k : List Ch, k ≠ [] → okL ls d k → gK ls n (.tuple (pyL k)) = true := by
  intro d
  induction d with
  | zero => 
    intro n hn k k0 ok
    obtain ⟨m, rfl⟩ : ∃ m, n = m + 1 := ⟨n - 1, by omega⟩
    show (!(pyL k).isEmpty && (pyL k).all (gCh ls (gK ls m))) = true
    rw [pyL_map, Bool.and_eq_true]
    refine ⟨by cases k with | nil => exact absurd rfl k0 | cons _ _ => rfl, ?_⟩
    rw [List.all_map, List.all_eq_true]
    intro c hc
    have h := okL_mem' ok hc
    show gCh ls (gK ls m) (pyC c) = true
    cases c with
    | num => rw [pyC]; rfl
    | txt => rw [pyC]; rfl
    | row k => exact absurd h.1 (Nat.lt_irrefl _)
    | book k => exact absurd h.1 (Nat.lt_irrefl _)
    | shape fs => exact absurd h.1 (Nat.lt_irrefl _)
    | letter l =>
      have h' : l ∈ ls := by unfold okC at h; exact h
      rw [pyC, gCh_two', if_neg (by decide +kernel), if_neg (by decide +kernel), if_pos rfl]
      show (isLettD (.str l) && decide (l ∈ ls)) = true
      rw [decide_eq_true h', Bool.and_true]
      exact decide_eq_true (hl l h')
    | cut _ _ => unfold okC at h; exact h.elim
    | any _ => unfold okC at h; exact h.elim
    | wth _ => unfold okC at h; exact h.elim
  | succ d ih =>
    intro n hn k k0 ok
    obtain ⟨m, rfl⟩ : ∃ m, n = m + 1 := ⟨n - 1, by omega⟩
    show (!(pyL k).isEmpty && (pyL k).all (gCh ls (gK ls m))) = true
    rw [pyL_map, Bool.and_eq_true]
    refine ⟨by cases k with | nil => exact absurd rfl k0 | cons _ _ => rfl, ?_⟩
    rw [List.all_map, List.all_eq_true]
    intro c hc
    have h := okL_mem' ok hc
    show gCh ls (gK ls m) (pyC c) = true
    cases c with
    | num => rw [pyC]; rfl
    | txt => rw [pyC]; rfl
    | row k =>
      rw [pyC, gCh_two', if_pos (.inl rfl)]
      exact ih m (by omega) k h.2.1 h.2.2.2
    | book k =>
      rw [pyC, gCh_two', if_pos (.inr rfl)]
      exact ih m (by omega) k h.2.1 h.2.2.2
    | shape fs =>
      obtain ⟨_, _, fl, okf⟩ := h
      rw [pyC, gCh_two', if_neg (by decide +kernel), if_pos rfl]
      show (fldD (.tuple (pyF fs)) && (pyF fs).all (gPr (gK ls m))) = true
      rw [Bool.and_eq_true]
      obtain ⟨f0, f26, fnd, fso, fw⟩ := fl
      constructor
      · show (!(pyF fs).isEmpty && (pyF fs).all pairD && ascB ((pyF fs).map nameD)) = true
        rw [pyF_map, Bool.and_eq_true, Bool.and_eq_true]
        refine ⟨⟨by cases fs with | nil => exact absurd rfl f0 | cons _ _ => rfl, ?_⟩, ?_⟩
        · rw [List.all_map, List.all_eq_true]
          intro p _
          rfl
        · rw [List.map_map]
          show ascB (fs.map (·.1)) = true
          unfold ascB
          rw [fso, decide_eq_true fnd]
          rfl
      · rw [pyF_map, List.all_map, List.all_eq_true]
        intro p hp
        obtain ⟨w1, k1, _, o1⟩ := okF_mem' okf hp
        show (isWordD (.str p.1) && gK ls m (.tuple (pyL p.2))) = true
        rw [ih m (by omega) p.2 k1 o1, Bool.and_true]
        exact decide_eq_true w1
    | letter l =>
      have h' : l ∈ ls := by unfold okC at h; exact h
      rw [pyC, gCh_two', if_neg (by decide +kernel), if_neg (by decide +kernel), if_pos rfl]
      show (isLettD (.str l) && decide (l ∈ ls)) = true
      rw [decide_eq_true h', Bool.and_true]
      exact decide_eq_true (hl l h')
    | cut _ _ => unfold okC at h; exact h.elim
    | any _ => unfold okC at h; exact h.elim
    | wth _ => unfold okC at h; exact h.elim
/-- not too deep, not too long -/
def OkN (n : Nat) (d : PyData) : Prop := d.canLay0 = true ∧ sm d = true ∧ d.depth ≤ n
theorem OkN.ok {n : Nat} {d : PyData} (h : OkN n d) (hn : n ≤ 64) : okD d := ⟨Bool.and_eq_true_iff.mpr ⟨h.1, decide_eq_true (Nat.le_trans h.2.2 hn)⟩, h.2.1⟩
theorem OkN.mono {m n : Nat} {d : PyData} (h : OkN m d) (hn : m ≤ n) : OkN n d := ⟨h.1, h.2.1, Nat.le_trans h.2.2 hn⟩
theorem okN_tup {n : Nat} {ds : List PyData} (hl : ds.length ≤ 60) (h : ∀ d ∈ ds, OkN n d) : OkN (n + 1) (.tuple ds) := by
  have a : ∀ ds : List PyData, (∀ d ∈ ds, OkN n d) → PyData.canLayAll0 ds = true ∧ smAll ds = true ∧ PyData.depthAll ds ≤ n := fun ds => by
    induction ds with
    | nil => exact fun _ => ⟨rfl, rfl, by simp [PyData.depthAll]⟩
    | cons x xs ih =>
      intro h
      obtain ⟨h1, h2, h3⟩ := ih fun d m => h d (List.mem_cons_of_mem _ m)
      obtain ⟨g1, g2, g3⟩ := h x List.mem_cons_self
      refine ⟨?_, ?_, ?_⟩
      · show (x.canLay0 && PyData.canLayAll0 xs) = true
        rw [g1, h1]; rfl
      · show (sm x && smAll xs) = true
        rw [g2, h2]; rfl
      · have e0 : PyData.depthAll (x :: xs) = max x.depth (PyData.depthAll xs) := by simp [PyData.depthAll]
        rw [e0]
        omega
  obtain ⟨h1, h2, h3⟩ := a ds h
  refine ⟨h1, ?_, ?_⟩
  · show (decide (ds.length ≤ 60) && smAll ds) = true
    rw [h2, decide_eq_true hl]; rfl
  · have e0 : (PyData.tuple ds).depth = PyData.depthAll ds + 1 := by simp [PyData.depth]
    omega
end Sc
namespace Sc
open PySem PySem.Spec PyProof.Rows L2
theorem okN_str {z : Str} (h8 : z.cps.toList.length ≤ 8) (h : ∀ c ∈ z.cps.toList, c ≤ 122) : OkN 0 (.str z) := by
  refine ⟨?_, ?_, by simp [PyData.depth]⟩
  · show z.cps.all (· < 0x110000) = true
    rw [← Array.all_toList, List.all_eq_true]
    intro c hc
    have := h c hc
    exact decide_eq_true (by omega)
  · show decide (z.length ≤ 1000) = true
    rw [len_list]
    exact decide_eq_true (by omega)
theorem okN_word {z : Str} (h : Word z) : OkN 0 (.str z) := okN_str h.2.1 fun c hc => (h.2.2 c hc).2
theorem okN_lett {z : Str} (h : Lett z) : OkN 0 (.str z) := okN_str h.2.1 fun c hc => by have := h.2.2 c hc; omega
theorem okN_w {z : Str} {n : Nat} (h : (PyData.canLay0 (.str z) && sm (.str z)) = true) : OkN n (.str z) := by
  rw [Bool.and_eq_true] at h
  exact ⟨h.1, h.2, by simp [PyData.depth]⟩
theorem okN_one {z : Str} {n : Nat} (h : (PyData.canLay0 (.str z) && sm (.str z)) = true) : OkN (n + 1) (.tuple [.str z]) := okN_tup (by show 1 ≤ 60; decide) fun x m => by rw [List.mem_singleton.mp m]; exact okN_w h
theorem okN_num (n : Nat) : OkN (n + 1) (pyC .num) := by rw [pyC]; exact okN_one (by decide +kernel)
theorem okN_txt (n : Nat) : OkN (n + 1) (pyC .txt) := by rw [pyC]; exact okN_one (by decide +kernel)
theorem okN_two {n : Nat} {w : Str} {d : PyData} (hw : OkN n (.str w)) (h : OkN n d) : OkN (n + 1) (.tuple [.str w, d]) := okN_tup (by show 2 ≤ 60; decide) fun x m => by
  rcases List.mem_cons.mp m with e | e
  · rw [e]; exact hw
  · rw [List.mem_singleton.mp e]; exact h
theorem okN_kind {ls : List Str} (hl : ∀ l ∈ ls, Lett l) : ∀ (d : Nat) (k : List Ch), k.length ≤ 60 → okL ls d k → OkN (4 * d + 2) (.tuple (pyL k)) := by
  intro d
  induction d with
  | zero =>
    intro k kl ok
    refine okN_tup (by rw [pyL_map, List.length_map]; exact kl) fun x hx => ?_
    rw [pyL_map] at hx
    obtain ⟨c, hc, rfl⟩ := List.mem_map.mp hx
    have h := okL_mem' ok hc
    cases c with
    | num => exact okN_num 0
    | txt => exact okN_txt 0
    | row k => exact absurd h.1 (Nat.lt_irrefl _)
    | book k => exact absurd h.1 (Nat.lt_irrefl _)
    | shape fs => exact absurd h.1 (Nat.lt_irrefl _)
    | letter l =>
      have h' : l ∈ ls := by unfold okC at h; exact h
      rw [pyC]
      exact okN_two (okN_w (by decide +kernel)) (okN_lett (hl l h'))
    | cut _ _ => unfold okC at h; exact h.elim
    | any _ => unfold okC at h; exact h.elim
    | wth _ => unfold okC at h; exact h.elim
  | succ d ih =>
    intro k kl ok
    refine okN_tup (by rw [pyL_map, List.length_map]; exact kl) fun x hx => ?_
    rw [pyL_map] at hx
    obtain ⟨c, hc, rfl⟩ := List.mem_map.mp hx
    have h := okL_mem' ok hc
    cases c with
    | num => exact okN_num _
    | txt => exact okN_txt _
    | row k =>
      rw [pyC]
      exact okN_two (n := 4 * d + 4) (okN_w (by decide +kernel)) ((ih k (by have := h.2.2.1; omega) h.2.2.2).mono (by omega))
    | book k =>
      rw [pyC]
      exact okN_two (n := 4 * d + 4) (okN_w (by decide +kernel)) ((ih k (by have := h.2.2.1; omega) h.2.2.2).mono (by omega))
    | shape fs =>
      obtain ⟨_, f2, fl, okf⟩ := h
      rw [pyC]
      refine okN_two (n := 4 * d + 4) (okN_w (by decide +kernel)) (okN_tup (n := 4 * d + 3) (by rw [pyF_map, List.length_map]; omega) fun x hx => ?_)
      rw [pyF_map] at hx
      obtain ⟨p, hp, rfl⟩ := List.mem_map.mp hx
      obtain ⟨w1, k1, k3, o1⟩ := okF_mem' okf hp
      exact okN_two (n := 4 * d + 2) ((okN_word w1).mono (by omega)) (ih p.2 (by omega) o1)
    | letter l =>
      have h' : l ∈ ls := by unfold okC at h; exact h
      rw [pyC]
      exact okN_two (n := 4 * (d + 1)) (okN_w (by decide +kernel)) ((okN_lett (hl l h')).mono (by omega))
    | cut _ _ => unfold okC at h; exact h.elim
    | any _ => unfold okC at h; exact h.elim
    | wth _ => unfold okC at h; exact h.elim
/-- refused with any room to eight -/
def Bad (ls : List Str) (d : PyData) : Prop := ∀ n, n ≤ 9 → gK ls n d = false
theorem bad_in {ls : List Str} {c : PyData} {cs : List PyData} (m : c ∈ cs) (h : ∀ n, n ≤ 9 → gCh ls (gK ls n) c = false) : Bad ls (.tuple cs) := fun n hn => by
  cases n with
  | zero => rfl
  | succ n =>
    show (!cs.isEmpty && cs.all (gCh ls (gK ls n))) = false
    have e : cs.all (gCh ls (gK ls n)) = false := Bool.eq_false_iff.mpr fun z => by
      have := List.all_eq_true.mp z c m
      rw [h n (by omega)] at this
      cases this
    rw [e, Bool.and_false]
theorem ch_row {ls : List Str} {d : PyData} (h : Bad ls d) : ∀ n, n ≤ 9 → gCh ls (gK ls n) (.tuple [.str "row", d]) = false := fun n hn => by rw [gCh_two', if_pos (.inl rfl)]; exact h n hn
theorem ch_book {ls : List Str} {d : PyData} (h : Bad ls d) : ∀ n, n ≤ 9 → gCh ls (gK ls n) (.tuple [.str "book", d]) = false := fun n hn => by rw [gCh_two', if_pos (.inr rfl)]; exact h n hn
theorem ch_shape {ls : List Str} {d : PyData} (z : Str) (h : Bad ls d) : ∀ n, n ≤ 9 → gCh ls (gK ls n) (.tuple [.str "shape", .tuple [.tuple [.str z, d]]]) = false := fun n hn => by
  rw [gCh_two', if_neg (by decide +kernel), if_pos rfl]
  have e : gPr (gK ls n) (.tuple [.str z, d]) = false := by show (isWordD (.str z) && gK ls n d) = false; rw [h n hn, Bool.and_false]
  show (fldD (.tuple [.tuple [.str z, d]]) && [PyData.tuple [.str z, d]].all (gPr (gK ls n))) = false
  rw [List.all_cons, e, Bool.false_and, Bool.and_false]
theorem bad_deep (ls : List Str) (f : Nat → PyData) (f1 : ∀ n, f (n + 1) = .tuple [.tuple [.str "row", f n]]) : ∀ m n, n ≤ m → gK ls n (f m) = false := by
  intro m
  induction m with
  | zero =>
    intro n hn
    obtain rfl : n = 0 := by omega
    rfl
  | succ m ih =>
    intro n hn
    cases n with
    | zero => rfl
    | succ n =>
      rw [f1]
      show (!([PyData.tuple [.str "row", f m]]).isEmpty && [PyData.tuple [.str "row", f m]].all (gCh ls (gK ls n))) = false
      rw [List.all_cons, gCh_two', if_pos (.inl rfl), ih n (by omega), Bool.false_and, Bool.and_false]
/-! ### no drawn letter is ZZ -/
theorem word_zz {i : Inf} (h : i.Ok) {k : Int} (k0 : 0 ≤ k) : (wordOf i k).cps.toList ≠ [122, 122] := by
  unfold wordOf
  split
  · rename_i c
    have lt : k.toNat < talks.length := by show k.toNat < 19; omega
    rw [List.getD_eq_getElem?_getD, List.getElem?_eq_getElem lt]
    have : ∀ z ∈ talks, z.cps.toList ≠ [122, 122] := by decide +kernel
    exact this _ (List.getElem_mem lt)
  · obtain ⟨s1, s8, p0, p1, t0, t1, _, _⟩ := h
    rw [app_list, app_list, reps_list, reps_list]
    intro e
    have l := congrArg List.length e
    rw [List.length_append, List.length_append, List.length_replicate, List.length_replicate] at l
    have l' : i.place.toNat + 1 + (i.size - i.place - 1).toNat = 2 := l
    have m : 113 ∈ ([122, 122] : List Nat) := by
      rw [← e]
      by_cases z : i.place.toNat = 0
      · exact List.mem_append.mpr (.inr (List.mem_replicate.mpr ⟨by omega, rfl⟩))
      · exact List.mem_append.mpr (.inl (List.mem_append.mpr (.inl (List.mem_replicate.mpr ⟨z, rfl⟩))))
    exact absurd m (by decide)
theorem upper_zz {i : Inf} (h : i.Ok) {k : Int} (k0 : 0 ≤ k) : Txt.upper (wordOf i k) ≠ "ZZ" := fun e => by
  have w := word_of h k0
  have n := word_zz h k0
  generalize wordOf i k = z at e w n
  rw [upper_ascii fun c m => by have := w.2.2 c m; omega] at e
  have e' : z.cps.toList.map up1 = [90, 90] := by
    have a : (⟨z.cps.map up1⟩ : Str).cps.toList = z.cps.toList.map up1 := Array.toList_map
    rw [← a, e]
    rfl
  have w2 := w.2.2
  have h2 : z.cps.toList.length = 2 := by have := congrArg List.length e'; rw [List.length_map] at this; exact this
  obtain ⟨a, b, hl⟩ : ∃ a b, z.cps.toList = [a, b] := by
    generalize z.cps.toList = l at h2
    match l, h2 with
    | [a, b], _ => exact ⟨a, b, rfl⟩
  rw [hl] at e' w2 n
  have ha := w2 a List.mem_cons_self
  have hb := w2 b (List.mem_cons_of_mem _ List.mem_cons_self)
  have e1 : up1 a = 90 := by injection e'
  have e2 : up1 b = 90 := by injection e' with _ q; injection q
  unfold up1 at e1 e2
  rw [if_pos ha] at e1
  rw [if_pos hb] at e2
  refine n ?_
  rw [show a = 122 by omega, show b = 122 by omega]
end Sc
namespace Sc
open PySem PySem.Spec PyProof.Rows L2
/-! ### a law's state beside tables -/
theorem Tb.ext {K : PySem.W.Frag} {T : List Addr} {H H' : Hp} {s : Addr} {i : Inf} (t : Tb T H) (S : IsS K H s i) (x : Ext s H H') : Tb T H' := fun P hP => by
  obtain ⟨ps, e, g⟩ := t P hP
  obtain ⟨kvs, hk⟩ := S.dk
  exact ⟨ps, x _ _ (fun z => by rw [z, hk] at e; cases e) e, g⟩
theorem IsS.keepL {K : PySem.W.Frag} {H H' : Hp} {s : Addr} {i : Inf} (h : IsS K H s i) (e : Ext s H H') : KeepL K H H' := ⟨fun _ _ q => h.seq e q, h.keep e⟩
theorem IsS.fr {K : PySem.W.Frag} {T : List Addr} {H H' : Hp} {s : Addr} {i : Inf} (h : IsS K H s i) (t : Tb T H) (f : Fr T H H') : IsS K H' s i := by
  have kp := Fr.keep (K := K) t f
  obtain ⟨ns, m, a, b, c⟩ := h
  refine ⟨ns, m, f.old _ _ a fun z => ?_, kp.1 _ _ b, c⟩
  obtain ⟨ps, e, _⟩ := t s z
  rw [a] at e
  cases e
/-- what stays through the law -/
structure Bd (K : PySem.W.Frag) (T : List Addr) (s : Addr) (i : Inf) (l : Addr) (ls : List Str) (gv : V) (gd : PyData) (H : Hp) : Prop where
  S : IsS K H s i
  tb : Tb T H
  hl : SqL K H l (ls.map V.str)
  dg : Dp K H gv gd
section
variable {K : PySem.W.Frag} {T : List Addr} {s : Addr} {i : Inf} {l : Addr} {ls : List Str} {gv : V} {gd : PyData} {H H' : Hp}
theorem Bd.ext (b : Bd K T s i l ls gv gd H) (x : Ext s H H') (S' : IsS K H' s i) : Bd K T s i l ls gv gd H' := ⟨S', b.tb.ext b.S x, b.S.seq x b.hl, KeepL.dp (b.S.keepL x) b.dg⟩
theorem Bd.same (b : Bd K T s i l ls gv gd H) (e : Same H H') : Bd K T s i l ls gv gd H' := ⟨b.S.same e, (Fr.same b.tb e).tab, Same.seq e b.hl, KeepL.dp (Same.keepL e) b.dg⟩
theorem Bd.fr (b : Bd K T s i l ls gv gd H) (f : Fr T H H') : Bd K T s i l ls gv gd H' := ⟨b.S.fr b.tb f, f.tab, (Fr.keep b.tb f).1 _ _ b.hl, KeepL.dp (Fr.keep b.tb f) b.dg⟩
theorem Bd.keepF (b : Bd K T s i l ls gv gd H) (f : Fr T H H') : KeepL K H H' := Fr.keep b.tb f
end
theorem KeepL.trans {K : PySem.W.Frag} {H H1 H2 : Hp} (a : KeepL K H H1) (b : KeepL K H1 H2) : KeepL K H H2 := ⟨fun _ _ h => b.1 _ _ (a.1 _ _ h), fun _ _ h => b.2 _ _ (a.2 _ _ h)⟩
end Sc
namespace Sc
open PySem PyProof.Rows L2
/-- a def whose code object is known -/
structure DefT (K : PySem.W.Frag) (mg : Str → Option Value) (x : Str) (st : Stmt) (ps : List Str) (c : Addr) : Prop where
  ex : ∃ (f : Addr) (fd : FuncData) (oc : Value) (od : Option Addr) (kV doc pm : Value) (an : Option Addr) (ct : Value) (osl : Array (Option Value)),
    fd = PySem.W.fnOf x x (defArgs st) (defBody st) (defScope st) .none kV doc pm an (.ref c) ct ∧ K.lookup f = some ⟨oc, od, .func fd, osl⟩ ∧ PySem.W.codeIn K (.ref c) x = true ∧ PySem.W.keepIn K (.ref f) = true ∧ mg x = some (.ref f) ∧ Binds K fd ps []
theorem DefT.of {K : PySem.W.Frag} {h : Heap} {mg : Str → Option Value} (X : K.In h) (G : h.Ns mainGlobals mg) {x : Str} {st : Stmt} {ps : List Str} {f c : Addr} {oc : Value} {od an : Option Addr} {osl : Array (Option Value)} {kV doc pm ct : Value}
    (a : PySem.W.nsIn K mainGlobals x = some (some (.ref f))) (l : K.lookup f = some ⟨oc, od, .func (PySem.W.fnOf x x (defArgs st) (defBody st) (defScope st) .none kV doc pm an (.ref c) ct), osl⟩) (cc : PySem.W.codeIn K (.ref c) x = true) (k : PySem.W.keepIn K (.ref f) = true)
    (b : ∀ (kV doc pm : Value) (an : Option Addr) (cdv ct : Value) (us : List Value), us.length = ps.length → bindArgs (PySem.W.fnOf x x (defArgs st) (defBody st) (defScope st) .none kV doc pm an cdv ct) ⟨us, []⟩ = pure (ps.zip us)) : DefT K mg x st ps c :=
  ⟨⟨f, _, oc, od, kV, doc, pm, an, ct, osl, rfl, l, cc, k, PySem.W.mg_of X G a, (fun_mk (st := st) l cc k).binds b⟩⟩
theorem DefT.ok {P : Program} {w : World} {K : PySem.W.Frag} {mg : Str → Option Value} {base : Heap} {x : Str} {st : Stmt} {N ps : List Str} {c : Addr} {k : Nat} {sp : Sp} (D : DefT K mg x st ps c) (S : FnScope N ps (defScope st)) (len : ∀ vs H Q E, sp vs H Q E → vs.length = ps.length)
    (body : ∀ (f : Addr) (A : Around) (outer : List Env) (s : Shared) (H : Hp) (vs : List V) (Q : VK) (E : XK), Room k (A.deeper (envOfC x (defScope st) s.heap.objs.size f (.ref c))) → sp vs H Q E →
      ∃ t, PSs (cxOf CX0 P w K mg base N x (defScope st) f (.ref c) A outer s H E).nox (defBody st) t ∧ t { nx := fun _ H' => Q .non H', rt := Q } (start N vs) H) : Cal P w K mg base (k + 1) x ps sp := by
  obtain ⟨f, fd, oc, od, kV, doc, pm, an, ct, osl, rfl, lk, hcd, kp, m, b⟩ := D.ex
  exact ⟨f, _, fn_of lk hcd S len fun A outer s H vs Q E hr hsp => by
    obtain ⟨t, h, q⟩ := body f A outer s H vs Q E hr hsp
    exact ⟨t, h.nox, q⟩, m, kp, b⟩
theorem gen_by {env : Env} {scope : Scope} {x : Str} (h : ((scope.kind == .function) && !scope.isCoroutine && scope.names.all (fun y => y.2 != .cell && y.2 != .free) && (scope.names.lookup (".0" : Str) == some NameKind.local) && (scope.names.lookup x == some NameKind.local)) = true) : GxR.GenS env scope x := by
  simp only [Bool.and_eq_true, List.all_eq_true, bne_iff_ne, beq_iff_eq, Bool.not_eq_true'] at h
  obtain ⟨⟨⟨⟨h1, h2⟩, h3⟩, h4⟩, h5⟩ := h
  exact ⟨h1, h2, fun y m => (h3 y m).1, h4, h5, fun y m e => absurd e (h3 y m).2⟩
end Sc
namespace Sc
open PySem PySem.Spec PyProof.Rows L2
/-- a def that the top has under another name too -/
structure DefA (K : PySem.W.Frag) (mg : Str → Option Value) (x y : Str) (st : Stmt) (ps : List Str) : Prop where
  ex : ∃ f fd, Fun K y y st f fd ∧ mg x = some (.ref f) ∧ Binds K fd ps []
theorem DefA.okX {P : Program} {w : World} {K : PySem.W.Frag} {mg : Str → Option Value} {base : Heap} {x y : Str} {st : Stmt} {N ps : List Str} {k : Nat} {sp : Sp} (D : DefA K mg x y st ps) (S : FnScope N ps (defScope st)) (len : ∀ vs H Q E, sp vs H Q E → vs.length = ps.length)
    (body : ∀ (f : Addr) (cdv : Value) (A : Around) (outer : List Env) (s : Shared) (H : Hp) (vs : List V) (Q : VK) (E : XK), Room k (A.deeper (envOfC y (defScope st) s.heap.objs.size f cdv)) → sp vs H Q E →
      ∃ t, PSs (cxOf (L2.CX P w) P w K mg base N y (defScope st) f cdv A outer s H E) (defBody st) t ∧ t { nx := fun _ H' => Q .non H', rt := Q } (start N vs) H) : CalX P w K mg base (k + 1) x ps sp := by
  obtain ⟨f, fd, F, m, b⟩ := D.ex
  exact ⟨f, fd, F.okX S len fun cdv A outer s H vs Q E hr h => body f cdv A outer s H vs Q E hr h, m, F.kp, b⟩
/-- a def that may raise, by its address -/
structure HeldX (P : Program) (w : World) (K : PySem.W.Frag) (mg : Str → Option Value) (base : Heap) (k : Nat) (f : Addr) (sp : Sp) : Prop where
  ex : ∃ (fd : FuncData) (ps : List Str), FnOk P w K mg base (L2.CX P w) k f fd ps sp ∧ PySem.W.keepIn K (.ref f) = true ∧ Binds K fd ps []
theorem HeldX.mono {P : Program} {w : World} {K : PySem.W.Frag} {mg : Str → Option Value} {base : Heap} {j k : Nat} {f : Addr} {sp : Sp} (h : HeldX P w K mg base j f sp) (le : j ≤ k) : HeldX P w K mg base k f sp := by
  obtain ⟨fd, ps, a, b⟩ := h.ex
  exact ⟨fd, ps, a.mono le, b⟩
theorem CalX.held {P : Program} {w : World} {K : PySem.W.Frag} {mg : Str → Option Value} {base : Heap} {k : Nat} {x : Str} {ps : List Str} {sp : Sp} {f : Addr} (C : CalX P w K mg base k x ps sp) (e : mg x = some (.ref f)) : HeldX P w K mg base k f sp := by
  obtain ⟨f', fd, F, m, kp, b⟩ := C.ex
  rw [m] at e
  cases e
  exact ⟨fd, ps, F, kp, b⟩
section
variable {X : Cx} {k i : Nat} {x : Str} {e : Expr} {es : List Expr} {t : TA} {p pos : Pos} {E : XK}
def tCallAX (i : Nat) (S : Addr → Sp → Prop) (E : XK) (t : TA) : TE := fun σ H Q => ∃ f sp, σ[i]? = some (some (.ref f)) ∧ S f sp ∧ t σ H fun vs H1 => sp vs H1 Q E
/-- a call of a local name that holds one of several defs that may raise -/
theorem pe_callAX {S : Addr → Sp → Prop} (A : ∀ f sp, S f sp → HeldX X.prog X.w X.K X.mg X.base k f sp) (hr : Room k X.A) (hN : X.N[i]? = some x) (hv : Vis X.env.scope x) (hx : Passes (L2.CX X.prog X.w) X E) (ha : PA X (e :: es) t)
    (hdb : (x == ("__debug__" : Str)) = false := by decide) (hcd : (x == ("__classdict__" : Str)) = false := by decide)
    (he : starEach (e :: es) X.env = (false, eval e X.env) :: starEach es X.env := by rfl) (hpl : (backTo pos (starEach es X.env)).any (·.1) = false := by rfl) : PE X (.Call (.Name x p) (e :: es) [] pos) (tCallAX i S E t) := by
  refine ⟨fun pins s σ H Q I h => ?_⟩
  obtain ⟨f, sp, hs, hS, ht⟩ := h
  obtain ⟨fd, ps, F, hk, hb⟩ := (A f sp hS).ex
  refine (pe_callL (i := i) (f := f) (sp := sp) (dvs := []) (E := E) F hr hN hv hk hb .nil hx ha hdb hcd he hpl).run pins s σ H Q I ⟨hs, ?_⟩
  have e0 : (fun (vs : List V) (H1 : Hp) => sp (vs ++ []) H1 Q E) = fun vs H1 => sp vs H1 Q E := by
    funext vs H1
    rw [List.append_nil]
  show t σ H (fun vs H1 => sp (vs ++ []) H1 Q E)
  rw [e0]
  exact ht
end
end Sc
set_option linter.all false
namespace ScZ
open PySem PySem.Spec
open PySem.Sem (wp)
theorem zip_no_len : typeLookup (.type "zip") "__len__" = pure none := by rw [typeLookup_type, builtinLookup_eq_fast]; kernel_rfl
theorem zip_no_hint : typeLookup (.type "zip") "__length_hint__" = pure none := by rw [typeLookup_type, builtinLookup_eq_fast]; kernel_rfl
section
variable {prog : Program} {w : World} {A : Around} {E : Value → Shared → Prop} {s : Shared}
theorem held_item {z TI TO T i1 i2 l1 l2 : Addr} {f : Bool} {oT : Obj} {k1 k2 : Nat} {xs ys : Array Value} {x y : Value} {Q : Value → Shared → Prop} (D : ZipApart z TI TO i1 i2 l1 l2)
    (hz : IsZipHeld s.heap z TI TO T f) (hT : s.heap.get? T = some oT) (hTI : IsPair s.heap TI (.ref i1) (.ref i2))
    (h1 : s.heap.IsTupleIter i1 l1 k1) (h2 : s.heap.IsTupleIter i2 l2 k2) (hl1 : s.heap.IsTuple l1 xs) (hl2 : s.heap.IsTuple l2 ys) (hx : xs[k1]? = some x) (hy : ys[k2]? = some y)
    (hQ : ∀ h', IsZipHeld h' z TI TO T true → h'.IsTupleIter i1 l1 (k1 + 1) → h'.IsTupleIter i2 l2 (k2 + 1) → IsPair h' s.heap.objs.size x y → h'.objs.size = s.heap.objs.size + 1 →
      (∀ c o, c ≠ z → c ≠ i1 → c ≠ i2 → s.heap.get? c = some o → h'.get? c = some o) → Q (.ref s.heap.objs.size) { s with heap := h' }) :
    wpAny (model prog w) A (Builtin.«zip.__next__» ⟨[.ref z], []⟩) (fun fin s' => ∃ v, fin = .done (.ret v) ∧ Q v s') E s := by
  show wpAny _ _ (field (.ref z) 2 >>= _) _ _ _
  refine wpAny_bind (wpAny_field hz rfl (x := .bool false) rfl ?_)
  show wpAny _ _ (field (.ref z) 3 >>= _) _ _ _
  refine wpAny_bind (wpAny_field hz rfl (x := .ref TI) rfl ?_)
  refine wpAny_bind (wpAny_seqItems hTI rfl ?_)
  show wpAny _ _ (Builtin.SmallTypes.ownedTupleIsFree (.ref z) >>= _) _ _ _
  refine wpAny_bind (wpAny_tupleHeld_zip hz hT fun h₁ hz₁ hs₁ => ?_)
  simp only [Bool.false_eq_true, if_false]
  refine wpAny_bind ?_
  rw [← Array.forIn_toList]
  simp only [List.forIn_cons, List.forIn_nil]
  refine wpAny_bind (wpAny_bind (wpAny_holding ?_))
  show wpAny _ _ (Builtin.SmallTypes.nextOf (.ref i1) >>= _) _ _ _
  refine wpAny_bind (RZ.nextOf_tuple_item (s := { s with heap := h₁ }) (h1.extBut hs₁.extBut D.i1z) (hl1.extBut hs₁.extBut D.l1z) hx fun h₂ h1₂ hs₂ => wpAny_pure ?_)
  refine wpAny_pure ?_
  refine wpAny_bind (wpAny_bind (wpAny_holding ?_))
  show wpAny _ _ (Builtin.SmallTypes.nextOf (.ref i2) >>= _) _ _ _
  refine wpAny_bind (RZ.nextOf_tuple_item (s := { s with heap := h₂ }) ((h2.extBut hs₁.extBut D.i2z).extBut hs₂.extBut D.i12.symm) ((hl2.extBut hs₁.extBut D.l2z).extBut hs₂.extBut D.l2i1) hy fun h₃ h2₃ hs₃ => wpAny_pure ?_)
  refine wpAny_pure (wpAny_pure ?_)
  show wpAny _ _ (newTuple [x, y] >>= _) _ _ _
  refine wpAny_bind (wpAny_newTuple ?_)
  have hsz : h₃.objs.size = s.heap.objs.size := by rw [hs₃.1, hs₂.1, hs₁.1]
  have hz₃ : IsZipHeld h₃ z TI TO T true := hs₃.extBut _ _ D.i2z.symm (hs₂.extBut _ _ D.i1z.symm hz₁)
  have hk : ∀ c o, c ≠ z → c ≠ i1 → c ≠ i2 → s.heap.get? c = some o → h₃.get? c = some o := fun c o c1 c2 c3 e => hs₃.extBut _ _ c3 (hs₂.extBut _ _ c2 (hs₁.extBut _ _ c1 e))
  have h1₃ : h₃.IsTupleIter i1 l1 (k1 + 1) := h1₂.extBut hs₃.extBut D.i12
  refine wpAny_pure ⟨_, rfl, ?_⟩
  show Q (.ref h₃.objs.size) _
  have hp : IsPair (h₃.push { cls := .type "tuple", data := .seq #[x, y] }) h₃.objs.size x y := Heap.get?_push_size _ rfl
  have hz4 : (h₃.push { cls := .type "tuple", data := .seq #[x, y] }).objs.size = h₃.objs.size + 1 := Heap.size_push ..
  rw [hsz] at hp hz4 ⊢
  exact hQ _ (Heap.get?_push_of_some _ hz₃) (h1₃.at fun o e => Heap.get?_push_of_some _ e) (h2₃.at fun o e => Heap.get?_push_of_some _ e) hp hz4 fun c o c1 c2 c3 e => Heap.get?_push_of_some _ (hk c o c1 c2 c3 e)
theorem held_end {z TI TO T i1 i2 l1 l2 : Addr} {f : Bool} {oT : Obj} {k1 k2 : Nat} {xs ys : Array Value} {Q : PySem.Fin → Shared → Prop} (hh : A.handled = none) (D : ZipApart z TI TO i1 i2 l1 l2)
    (hz : IsZipHeld s.heap z TI TO T f) (hT : s.heap.get? T = some oT) (hTI : IsPair s.heap TI (.ref i1) (.ref i2))
    (h1 : s.heap.IsTupleIter i1 l1 k1) (hl1 : s.heap.IsTuple l1 xs) (hend : xs[k1]? = none)
    (hE : ∀ h' e, (∀ c o, c ≠ z → c ≠ i1 → s.heap.get? c = some o → h'.get? c = some o) → (∃ o, h'.get? e = some o ∧ o.cls = .type "StopIteration") → E (.ref e) { s with heap := h' }) :
    wpAny (model prog w) A (Builtin.«zip.__next__» ⟨[.ref z], []⟩) Q E s := by
  show wpAny _ _ (field (.ref z) 2 >>= _) _ _ _
  refine wpAny_bind (wpAny_field hz rfl (x := .bool false) rfl ?_)
  show wpAny _ _ (field (.ref z) 3 >>= _) _ _ _
  refine wpAny_bind (wpAny_field hz rfl (x := .ref TI) rfl ?_)
  refine wpAny_bind (wpAny_seqItems hTI rfl ?_)
  show wpAny _ _ (Builtin.SmallTypes.ownedTupleIsFree (.ref z) >>= _) _ _ _
  refine wpAny_bind (wpAny_tupleHeld_zip hz hT fun h₁ hz₁ hs₁ => ?_)
  simp only [Bool.false_eq_true, if_false]
  refine wpAny_bind ?_
  rw [← Array.forIn_toList]
  simp only [List.forIn_cons, List.forIn_nil]
  refine wpAny_bind (wpAny_bind (wpAny_holding ?_))
  show wpAny _ _ (Builtin.SmallTypes.nextOf (.ref i1) >>= _) _ _ _
  refine wpAny_bind (RZ.nextOf_tuple_end (s := { s with heap := h₁ }) hh (h1.extBut hs₁.extBut D.i1z) (hl1.extBut hs₁.extBut D.l1z) hend fun h₂ e hs₂ he => ?_)
  exact hE h₂ e (fun c o c1 c2 x => hs₂ _ _ c2 (hs₁.extBut _ _ c1 x)) he
theorem next_item {z TI TO T i1 i2 l1 l2 : Addr} {f : Bool} {oT : Obj} {k1 k2 : Nat} {xs ys : Array Value} {x y : Value} {Q : Option Value → Shared → Prop} (D : ZipApart z TI TO i1 i2 l1 l2)
    (hz : IsZipHeld s.heap z TI TO T f) (hT : s.heap.get? T = some oT) (hTI : IsPair s.heap TI (.ref i1) (.ref i2))
    (h1 : s.heap.IsTupleIter i1 l1 k1) (h2 : s.heap.IsTupleIter i2 l2 k2) (hl1 : s.heap.IsTuple l1 xs) (hl2 : s.heap.IsTuple l2 ys) (hx : xs[k1]? = some x) (hy : ys[k2]? = some y)
    (hQ : ∀ h', IsZipHeld h' z TI TO T true → h'.IsTupleIter i1 l1 (k1 + 1) → h'.IsTupleIter i2 l2 (k2 + 1) → IsPair h' s.heap.objs.size x y → h'.objs.size = s.heap.objs.size + 1 →
      (∀ c o, c ≠ z → c ≠ i1 → c ≠ i2 → s.heap.get? c = some o → h'.get? c = some o) → Q (some (.ref s.heap.objs.size)) { s with heap := h' }) :
    wpAny (model prog w) A (pyNext (.ref z)) Q E s := by
  have hTy : s.TypeIs (.ref z) "zip" := ⟨_, hz, rfl⟩
  unfold pyNext
  exact wpAny_bind (wpAny_attempt (wpAny_callSpecial?_slot (name := Str.ofString "__next__") hTy F.slot_zip_next
    (wpAny_call_entry F.slot_zip_next hTy F.entry_zip_next
      (held_item D hz hT hTI h1 h2 hl1 hl2 hx hy fun h' a1 a3 a4 a5 a6 a7 => wpAny_pure (hQ h' a1 a3 a4 a5 a6 a7)) (F.args_zip_next_1 _))))
theorem next_end {z TI TO T i1 i2 l1 l2 : Addr} {f : Bool} {oT : Obj} {k1 : Nat} {xs : Array Value} {Q : Option Value → Shared → Prop} (hh : A.handled = none) (D : ZipApart z TI TO i1 i2 l1 l2)
    (hz : IsZipHeld s.heap z TI TO T f) (hT : s.heap.get? T = some oT) (hTI : IsPair s.heap TI (.ref i1) (.ref i2))
    (h1 : s.heap.IsTupleIter i1 l1 k1) (hl1 : s.heap.IsTuple l1 xs) (hend : xs[k1]? = none)
    (hQ : ∀ h', (∀ c o, c ≠ z → c ≠ i1 → s.heap.get? c = some o → h'.get? c = some o) → Q none { s with heap := h' }) : wpAny (model prog w) A (pyNext (.ref z)) Q E s := by
  have hTy : s.TypeIs (.ref z) "zip" := ⟨_, hz, rfl⟩
  unfold pyNext
  refine wpAny_bind (wpAny_attempt (wpAny_callSpecial?_slot (name := Str.ofString "__next__") hTy F.slot_zip_next
    (wpAny_call_entry F.slot_zip_next hTy F.entry_zip_next (held_end (k2 := 0) (ys := #[]) hh D hz hT hTI h1 hl1 hend fun h' e hk he => ?_) (F.args_zip_next_1 _))))
  obtain ⟨o, ho, hc⟩ := he
  refine wpAny_bind (wpAny_isInstance (T := "StopIteration") (b := true) ⟨o, ho, hc⟩ isSubtype_stop ?_)
  exact wpAny_pure (hQ _ hk)
/-- where the zip stands -/
structure ZSt (h : Heap) (z TI TO i1 i2 a b S : Addr) (j : Nat) : Prop where
  ti : IsPair h TI (.ref i1) (.ref i2)
  t1 : h.IsTupleIter i1 a j
  t2 : h.IsTupleIter i2 b j
  st : (IsZip h z TI TO .none ∧ ∃ x y, IsPair h TO x y) ∨ ∃ (T : Addr) (f : Bool) (oT : Obj), IsZipHeld h z TI TO T f ∧ h.get? T = some oT ∧ T ≠ z ∧ T ≠ TO ∧ T ≠ i1 ∧ T ≠ i2 ∧ T ≠ S
theorem ZSt.keep {h h' : Heap} {z TI TO i1 i2 a b S : Addr} {j : Nat} (x : ZSt h z TI TO i1 i2 a b S j) (k : ∀ c o, c ≠ S → h.get? c = some o → h'.get? c = some o) (n1 : TI ≠ S) (n2 : i1 ≠ S) (n3 : i2 ≠ S) (n4 : z ≠ S) (n5 : TO ≠ S) : ZSt h' z TI TO i1 i2 a b S j := by
  refine ⟨k _ _ n1 x.ti, x.t1.at fun o e => k _ o n2 e, x.t2.at fun o e => k _ o n3 e, ?_⟩
  rcases x.st with ⟨p, x', y', q⟩ | ⟨T, f, oT, p, q, r⟩
  · exact .inl ⟨k _ _ n4 p, x', y', k _ _ n5 q⟩
  · exact .inr ⟨T, f, oT, k _ _ n4 p, k _ _ r.2.2.2.2 q, r⟩
theorem zs_item {z TI TO i1 i2 a b S : Addr} {j : Nat} {xs ys : Array Value} {x y : Value} {Q : Option Value → Shared → Prop} (D : ZipApart z TI TO i1 i2 a b) (st : ZSt s.heap z TI TO i1 i2 a b S j) (hS : S < s.heap.objs.size)
    (hl1 : s.heap.IsTuple a xs) (hl2 : s.heap.IsTuple b ys) (hx : xs[j]? = some x) (hy : ys[j]? = some y)
    (hQ : ∀ h', ZSt h' z TI TO i1 i2 a b S (j + 1) → IsPair h' s.heap.objs.size x y → h'.objs.size = s.heap.objs.size + 1 → (∀ c o, c ≠ z → c ≠ TO → c ≠ i1 → c ≠ i2 → s.heap.get? c = some o → h'.get? c = some o) → Q (some (.ref s.heap.objs.size)) { s with heap := h' }) :
    wpAny (model prog w) A (pyNext (.ref z)) Q E s := by
  obtain ⟨hTI, h1, h2, st⟩ := st
  have zl : ∀ {c : Addr} {o : Obj}, s.heap.get? c = some o → s.heap.objs.size ≠ c := fun e => Nat.ne_of_gt (Heap.lt_size e)
  have l1 : s.heap.objs.size ≠ i1 := let ⟨_, e, _⟩ := h1; zl e
  have l2 : s.heap.objs.size ≠ i2 := let ⟨_, e, _⟩ := h2; zl e
  rcases st with ⟨hz, x0, y0, hTO⟩ | ⟨T, f, oT, hz, hT, n1, n2, n3, n4, n5⟩
  · refine RZ.pyNext_zipT_item D hz hTI hTO h1 h2 hl1 hl2 hx hy fun h' z' TO' h1' h2' hT hsz hk => ?_
    exact hQ h' ⟨hk _ _ D.TIz D.TITO D.TIi1 D.TIi2 hTI, h1', h2', .inr ⟨_, false, _, z', hT, zl hz, zl hTO, l1, l2, Nat.ne_of_gt hS⟩⟩ hT hsz hk
  · refine next_item D hz hT hTI h1 h2 hl1 hl2 hx hy fun h' z' h1' h2' hp hsz hk => ?_
    exact hQ h' ⟨hk _ _ D.TIz D.TIi1 D.TIi2 hTI, h1', h2', .inr ⟨T, true, oT, z', hk _ _ n1 n3 n4 hT, n1, n2, n3, n4, n5⟩⟩ hp hsz fun c o c1 c2 c3 c4 e => hk c o c1 c3 c4 e
theorem zs_done {z TI TO i1 i2 a b S : Addr} {j : Nat} {xs ys : Array Value} {Q : Option Value → Shared → Prop} (hh : A.handled = none) (D : ZipApart z TI TO i1 i2 a b) (st : ZSt s.heap z TI TO i1 i2 a b S j)
    (hl1 : s.heap.IsTuple a xs) (hl2 : s.heap.IsTuple b ys) (hx : xs[j]? = none)
    (hQ : ∀ h', (∀ c o, c ≠ z → c ≠ TO → c ≠ i1 → c ≠ i2 → s.heap.get? c = some o → h'.get? c = some o) → Q none { s with heap := h' }) : wpAny (model prog w) A (pyNext (.ref z)) Q E s := by
  obtain ⟨hTI, h1, h2, st⟩ := st
  rcases st with ⟨hz, x0, y0, hTO⟩ | ⟨T, f, oT, hz, hT, n1, n2, n3, n4, n5⟩
  · exact RZ.pyNext_zipT_end hh D hz hTI hTO h1 h2 hl1 hl2 (.inl hx) hQ
  · exact next_end hh D hz hT hTI h1 hl1 hx fun h' hk => hQ h' fun c o c1 c2 c3 c4 e => hk c o c1 c3 e
structure ZG (xs ys : Array Value) (lo : Addr) (h : Heap) (as : List Addr) : Prop where
  rise : as.Pairwise (· < ·)
  above : ∀ a ∈ as, lo < a
  pairs : ∀ (j : Nat) (a : Addr), as[j]? = some a → ∃ x y, xs[j]? = some x ∧ ys[j]? = some y ∧ IsPair h a x y
theorem ZG.there {xs ys : Array Value} {lo : Addr} {h : Heap} {as : List Addr} (g : ZG xs ys lo h as) {a : Addr} (ha : a ∈ as) : a < h.objs.size := by
  obtain ⟨j, hj⟩ := List.mem_iff_getElem?.mp ha
  obtain ⟨_, _, _, _, e⟩ := g.pairs j a hj
  exact Heap.lt_size e
end
section
variable {prog : Program} {w : World} {A : Around} {s : Shared} {R : Result → Shared → Prop} {xs ys : Array Value}
theorem zl_loop {S z TI TO i1 i2 a b : Addr} (hh : A.handled = none) (D : ZipApart z TI TO i1 i2 a b) (nz : z < S) (nTI : TI < S) (nTO : TO < S) (n1 : i1 < S) (n2 : i2 < S) (na : a < S) (nb : b < S) (hn : xs.size ≤ sizeLine) (hxy : xs.size = ys.size) (res : Value) {h₁ : Heap}
    (hR : ∀ h' tk acc c as, (∀ b o, b ≠ S → b ≠ z → b ≠ TO → b ≠ i1 → b ≠ i2 → h₁.get? b = some o → h'.get? b = some o) → h'.get? S = some { cls := .type "list", dict := none, data := .seq acc c, slots := #[] } → as.length = xs.size → ZG xs ys S h' as →
      acc.toList = as.map Value.ref → R (.ok (.ret res)) { s with heap := h', toks := tk }) :
    ∀ (k i : Nat) (h : Heap) (tk c : Nat) (acc : Array Value) (as : List Addr), xs.size - i = k → i ≤ xs.size → ZSt h z TI TO i1 i2 a b S i → h.IsTuple a xs → h.IsTuple b ys → (∀ b o, b ≠ S → b ≠ z → b ≠ TO → b ≠ i1 → b ≠ i2 → h₁.get? b = some o → h.get? b = some o) →
      h.get? S = some { cls := .type "list", dict := none, data := .seq acc c, slots := #[] } → acc.toList = as.map Value.ref → as.length = i → ZG xs ys S h as →
      codeAny (model prog w) A (.builtin "list.extend.loop" ⟨[.ref S, .ref z, res], []⟩) R { s with heap := h, toks := tk } := by
  intro k
  induction k with
  | zero =>
    intro i h tk c acc as hk hi hst ha hb hkeep hS hacc hal hG
    have hin : i = xs.size := by omega
    refine codeAny_builtin PySem.F.entry_extend_loop ?_
    rw [Around.under_plainId PySem.F.plain_extend_loop _]
    show wpAny _ A.in1 (pyNext (.ref z) >>= _) _ _ _
    refine wpAny_bind (zs_done (s := { s with heap := h, toks := tk }) (A := A.in1) hh D hst ha hb (by rw [hin]; simp) fun h' he => ?_)
    refine wpAny_pure (hR h' tk acc c as (fun b o c0 c1 c2 c3 c4 e => he b o c1 c2 c3 c4 (hkeep b o c0 c1 c2 c3 c4 e)) (he S _ (Nat.ne_of_gt nz) (Nat.ne_of_gt nTO) (Nat.ne_of_gt n1) (Nat.ne_of_gt n2) hS) (by omega) ⟨hG.rise, hG.above, fun j t hj => ?_⟩ hacc)
    obtain ⟨x, y, e1, e2, e3⟩ := hG.pairs j t hj
    have ht := hG.above t (List.mem_of_getElem? hj)
    exact ⟨x, y, e1, e2, he t _ (Nat.ne_of_gt (Nat.lt_trans nz ht)) (Nat.ne_of_gt (Nat.lt_trans nTO ht)) (Nat.ne_of_gt (Nat.lt_trans n1 ht)) (Nat.ne_of_gt (Nat.lt_trans n2 ht)) e3⟩
  | succ k ih =>
    intro i h tk c acc as hk hi hst ha hb hkeep hS hacc hal hG
    have hlt : i < xs.size := by omega
    have hlt2 : i < ys.size := by omega
    have hx : xs[i]? = some xs[i] := Array.getElem?_eq_getElem hlt
    have hy : ys[i]? = some ys[i] := Array.getElem?_eq_getElem hlt2
    generalize xs[i] = x at hx
    generalize ys[i] = y at hy
    have hsz : acc.size = i := by rw [← Array.length_toList, hacc, List.length_map, hal]
    have hSl : S < h.objs.size := Heap.lt_size hS
    refine codeAny_builtin PySem.F.entry_extend_loop ?_
    rw [Around.under_plainId PySem.F.plain_extend_loop _]
    show wpAny _ A.in1 (pyNext (.ref z) >>= _) _ _ _
    refine wpAny_bind (zs_item (s := { s with heap := h, toks := tk }) (S := S) D hst hSl ha hb hx hy fun h' hst' ht hz hkp => ?_)
    dsimp only at ht hz hkp ⊢
    have hS' := hkp S _ (Nat.ne_of_gt nz) (Nat.ne_of_gt nTO) (Nat.ne_of_gt n1) (Nat.ne_of_gt n2) hS
    have up : ∀ b o, b ≠ S → h'.get? b = some o → (h'.update S (Obj.mapSeq (·.push (Value.ref h.objs.size)))).get? b = some o := fun b o hb e => (Heap.get?_update_other _ _ (Ne.symm hb)).trans e
    show wpAny _ A.in1 (updateSeq S (·.push (Value.ref h.objs.size)) >>= _) _ _ _
    refine wpAny_bind ?_
    refine wpAny_updateSeq hS' rfl (wpAny_pure ⟨plainId_quiet PySem.F.plain_extend_loop _, ih (i + 1) _ tk _ (acc.push (Value.ref h.objs.size)) (as ++ [h.objs.size]) (by omega) hlt (hst'.keep up (Nat.ne_of_lt nTI) (Nat.ne_of_lt n1) (Nat.ne_of_lt n2) (Nat.ne_of_lt nz) (Nat.ne_of_lt nTO))
      (ha.at fun o e => up _ o (Nat.ne_of_lt na) (hkp _ o D.l1z D.l1TO D.l1i1 D.l1i2 e)) (hb.at fun o e => up _ o (Nat.ne_of_lt nb) (hkp _ o D.l2z D.l2TO D.l2i1 D.l2i2 e))
      (fun b o c0 c1 c2 c3 c4 e => up b o c0 (hkp b o c1 c2 c3 c4 (hkeep b o c0 c1 c2 c3 c4 e))) (Heap.get?_update_self _ hS' rfl) (by rw [Array.toList_push, hacc, List.map_append]; rfl) (by rw [List.length_append, hal]; rfl) ⟨?_, ?_, ?_⟩⟩) (by rw [hsz]; omega) (by show (acc.push (Value.ref h.objs.size)).size ≤ sizeLine + 1; rw [Array.size_push, hsz]; omega)
    · refine List.pairwise_append.mpr ⟨hG.rise, List.pairwise_singleton _ _, fun a ha b hb => ?_⟩
      rw [List.mem_singleton.mp hb]
      exact hG.there ha
    · intro t ht'
      rcases List.mem_append.mp ht' with q | q
      · exact hG.above t q
      · rw [List.mem_singleton.mp q]; exact hSl
    · intro j t hj
      rcases Nat.lt_trichotomy j as.length with q | q | q
      · rw [List.getElem?_append_left q] at hj
        obtain ⟨x', y', e1, e2, e3⟩ := hG.pairs j t hj
        have ht' := hG.above t (List.mem_of_getElem? hj)
        exact ⟨x', y', e1, e2, up t _ (Nat.ne_of_gt ht') (hkp t _ (Nat.ne_of_gt (Nat.lt_trans nz ht')) (Nat.ne_of_gt (Nat.lt_trans nTO ht')) (Nat.ne_of_gt (Nat.lt_trans n1 ht')) (Nat.ne_of_gt (Nat.lt_trans n2 ht')) e3)⟩
      · subst q
        have hb' : h.objs.size = t := by simpa using hj
        subst hb'
        exact ⟨x, y, by rw [hal]; exact hx, by rw [hal]; exact hy, up _ _ (Nat.ne_of_gt hSl) ht⟩
      · have hnone : (as ++ [h.objs.size])[j]? = none := List.getElem?_eq_none (by rw [List.length_append, List.length_singleton]; omega)
        rw [hnone] at hj; cases hj
end
section
variable {prog : Program} {w : World} {A : Around} {E : Value → Shared → Prop} {s : Shared} {xs ys : Array Value} {z TI TO i1 i2 a b : Addr}
/-- a fresh zip -/
structure ZNew (h : Heap) (z TI TO i1 i2 a b : Addr) (xs ys : Array Value) : Prop where
  z : IsZip h z TI TO .none
  ti : IsPair h TI (.ref i1) (.ref i2)
  to : ∃ x y, IsPair h TO x y
  t1 : h.IsTupleIter i1 a 0
  t2 : h.IsTupleIter i2 b 0
  ha : h.IsTuple a xs
  hb : h.IsTuple b ys
theorem ZNew.keep {h h' : Heap} (x : ZNew h z TI TO i1 i2 a b xs ys) (k : ∀ c o, h.get? c = some o → h'.get? c = some o) : ZNew h' z TI TO i1 i2 a b xs ys :=
  ⟨k _ _ x.z, k _ _ x.ti, let ⟨p, q, e⟩ := x.to; ⟨p, q, k _ _ e⟩, x.t1.at fun o e => k _ o e, x.t2.at fun o e => k _ o e, x.ha.at fun o e => k _ o e, x.hb.at fun o e => k _ o e⟩
theorem ZNew.keepS {h h' : Heap} {S : Addr} (x : ZNew h z TI TO i1 i2 a b xs ys) (n : z < S ∧ TI < S ∧ TO < S ∧ i1 < S ∧ i2 < S ∧ a < S ∧ b < S) (k : ∀ c o, c ≠ S → h.get? c = some o → h'.get? c = some o) : ZNew h' z TI TO i1 i2 a b xs ys := by
  obtain ⟨m1, m2, m3, m4, m5, m6, m7⟩ := n
  exact ⟨k _ _ (Nat.ne_of_lt m1) x.z, k _ _ (Nat.ne_of_lt m2) x.ti, let ⟨p, q, e⟩ := x.to; ⟨p, q, k _ _ (Nat.ne_of_lt m3) e⟩, x.t1.at fun o e => k _ o (Nat.ne_of_lt m4) e, x.t2.at fun o e => k _ o (Nat.ne_of_lt m5) e, x.ha.at fun o e => k _ o (Nat.ne_of_lt m6) e, x.hb.at fun o e => k _ o (Nat.ne_of_lt m7) e⟩
theorem ZNew.lt {h : Heap} (x : ZNew h z TI TO i1 i2 a b xs ys) : z < h.objs.size ∧ TI < h.objs.size ∧ TO < h.objs.size ∧ i1 < h.objs.size ∧ i2 < h.objs.size ∧ a < h.objs.size ∧ b < h.objs.size :=
  ⟨Heap.lt_size x.z, Heap.lt_size x.ti, let ⟨_, _, e⟩ := x.to; Heap.lt_size e, let ⟨_, e, _⟩ := x.t1; Heap.lt_size e, let ⟨_, e, _⟩ := x.t2; Heap.lt_size e, let ⟨_, e, _⟩ := x.ha; Heap.lt_size e, let ⟨_, e, _⟩ := x.hb; Heap.lt_size e⟩
theorem zl_extend {R : Result → Shared → Prop} (hh : A.handled = none) (D : ZipApart z TI TO i1 i2 a b) (N : ZNew s.heap z TI TO i1 i2 a b xs ys) (S : Addr) (lt : z < S ∧ TI < S ∧ TO < S ∧ i1 < S ∧ i2 < S ∧ a < S ∧ b < S) (res : Value) (c₀ : Nat) (hS : s.heap.get? S = some { cls := .type "list", data := .seq #[] c₀ }) (hn : xs.size ≤ sizeLine) (hxy : xs.size = ys.size)
    (hR : ∀ h' tk acc c as, (∀ b o, b ≠ S → b ≠ z → b ≠ TO → b ≠ i1 → b ≠ i2 → s.heap.get? b = some o → h'.get? b = some o) → h'.get? S = some { cls := .type "list", dict := none, data := .seq acc c, slots := #[] } → as.length = xs.size → ZG xs ys S h' as →
      acc.toList = as.map Value.ref → R (.ok (.ret res)) { s with heap := h', toks := tk }) :
    wpAny (model prog w) A.in1 (Builtin.List.listExtendWith (.ref S) (.ref z) res)
      (fun fin s' => match fin with | .done f => R (.ok f) s' | .again c' => c'.quiet = true ∧ codeAny (model prog w) A c' R s') (fun e s' => R (.error e) s') s := by
  have hT : s.TypeIs (.ref z) "zip" := ⟨_, N.z, rfl⟩
  have nSz : S ≠ z := Nat.ne_of_gt lt.1
  unfold Builtin.List.listExtendWith
  refine wpAny_bind (wpAny_typeOf hT ?_)
  have h1 : Builtin.List.listSameRef (.ref S) (.ref z) = false := by simp [Builtin.List.listSameRef, nSz]
  have h2 : (Value.type "zip" == Value.type "list") = false := by decide
  have h3 : (Value.type "zip" == Value.type "tuple") = false := by decide
  simp only [h1, h2, h3, Bool.or_false, Bool.false_eq_true, if_false]
  refine wpAny_bind (wpAny_pyIter_zip N.z ?_)
  refine wpAny_bind (wpAny_holding ?_)
  unfold Builtin.List.listLengthHint
  refine wpAny_bind (wpAny_specialOf hT zip_no_len ?_)
  show wpAny _ A.in1 (specialOf (Value.ref z) (Str.ofString "__length_hint__") >>= _) _ _ _
  refine wpAny_bind (wpAny_specialOf hT zip_no_hint ?_)
  refine wpAny_pure ?_
  show wpAny _ A.in1 (rule "list.extend.makes-room" >>= fun _ => Builtin.List.listTouch (.ref S) >>= fun _ =>
    again (.builtin "list.extend.loop" ⟨[.ref S, .ref z, res], []⟩)) _ _ _
  refine wpAny_bind (wpAny_rule ?_)
  refine wpAny_bind ?_
  show wpAny _ A.in1 (updateSeq S (·.push .none) >>= fun _ => updateSeq S (·.pop)) _ _ _
  refine wpAny_bind (wpAny_updateSeq hS rfl ?_)
  have hS₂ := Heap.get?_update_self (Obj.mapSeq (·.push Value.none)) hS rfl
  refine wpAny_updateSeq (hz := by seq_fits) hS₂ rfl ?_
  have hS₃ := Heap.get?_update_self (Obj.mapSeq (·.pop)) hS₂ rfl
  have oth : ∀ b o, b ≠ S → s.heap.get? b = some o → ((s.heap.update S (Obj.mapSeq (·.push Value.none))).update S (Obj.mapSeq (·.pop))).get? b = some o :=
    fun b o hb e => (Heap.get?_update_other _ _ (Ne.symm hb)).trans ((Heap.get?_update_other _ _ (Ne.symm hb)).trans e)
  have N3 := N.keepS lt oth
  refine wpAny_pure ⟨plainId_quiet F.plain_extend_loop _, zl_loop (s := s) (h₁ := s.heap) hh D lt.1 lt.2.1 lt.2.2.1 lt.2.2.2.1 lt.2.2.2.2.1 lt.2.2.2.2.2.1 lt.2.2.2.2.2.2 hn hxy res hR xs.size 0 _ s.toks _ #[] [] (Nat.sub_zero _) (Nat.zero_le _)
    ⟨N3.ti, N3.t1, N3.t2, .inl ⟨N3.z, N3.to⟩⟩ N3.ha N3.hb (fun b o c0 _ _ _ _ e => oth b o c0 e) hS₃ rfl rfl ⟨List.Pairwise.nil, (fun _ ha => nomatch ha), (fun j a hj => by simp at hj)⟩⟩
theorem zl_init {R : Result → Shared → Prop} (hh : A.handled = none) (D : ZipApart z TI TO i1 i2 a b) (N : ZNew s.heap z TI TO i1 i2 a b xs ys) (S : Addr) (lt : z < S ∧ TI < S ∧ TO < S ∧ i1 < S ∧ i2 < S ∧ a < S ∧ b < S) (hS : s.heap.get? S = some { cls := .type "list", data := .seq #[] }) (hn : xs.size ≤ sizeLine) (hxy : xs.size = ys.size)
    (hR : ∀ h' tk acc c as, (∀ b o, b ≠ S → b ≠ z → b ≠ TO → b ≠ i1 → b ≠ i2 → s.heap.get? b = some o → h'.get? b = some o) → h'.get? S = some { cls := .type "list", dict := none, data := .seq acc c, slots := #[] } → as.length = xs.size → ZG xs ys S h' as →
      acc.toList = as.map Value.ref → R (.ok (.ret .none)) { s with heap := h', toks := tk }) :
    wpAny (model prog w) A.in1 (Builtin.«list.__init__» ⟨[.ref S, .ref z], []⟩)
      (fun fin s' => match fin with | .done f => R (.ok f) s' | .again c' => c'.quiet = true ∧ codeAny (model prog w) A c' R s') (fun e s' => R (.error e) s') s := by
  show wpAny _ _ (do let old ← Builtin.List.listItems (.ref S); Builtin.List.listUpdate (.ref S) (fun _ => #[]); letGo old.toList.reverse; Builtin.List.listExtendWith (.ref S) (.ref z) .none) _ _ s
  refine wpAny_bind ?_
  unfold Builtin.List.listItems
  refine wpAny_bind (wpAny_seqItems hS rfl (wpAny_pure ?_))
  show wpAny _ _ (updateSeq S (fun _ => #[]) >>= fun _ => letGo (#[] : Array Value).toList.reverse >>= fun _ => Builtin.List.listExtendWith (.ref S) (.ref z) .none) _ _ s
  refine wpAny_bind (wpAny_updateSeq hS rfl ?_)
  have hS₂ := Heap.get?_update_self (Obj.mapSeq (fun _ => (#[] : Array Value))) hS rfl
  have oth : ∀ b o, b ≠ S → s.heap.get? b = some o → (s.heap.update S (Obj.mapSeq (fun _ => (#[] : Array Value)))).get? b = some o :=
    fun b o hb e => (Heap.get?_update_other _ _ (Ne.symm hb)).trans e
  refine wpAny_bind (wpAny_letGo ?_)
  refine zl_extend (s := { s with heap := s.heap.update S (Obj.mapSeq (fun _ => (#[] : Array Value))) }) hh D (N.keepS lt oth) S lt .none _ hS₂ hn hxy (fun h' tk acc c as hk hS' hl hG hacc => ?_)
  exact hR h' tk acc c as (fun b o c0 c1 c2 c3 c4 e => hk b o c0 c1 c2 c3 c4 (oth b o c0 e)) hS' hl hG hacc
theorem zl_call {Q : Value → Shared → Prop} (hh : A.handled = none) (D : ZipApart z TI TO i1 i2 a b) (N : ZNew s.heap z TI TO i1 i2 a b xs ys) (hn : xs.size ≤ sizeLine) (hxy : xs.size = ys.size)
    (hQ : ∀ h' tk acc c as, (∀ b o, b ≠ z → b ≠ TO → b ≠ i1 → b ≠ i2 → s.heap.get? b = some o → h'.get? b = some o) → h'.get? s.heap.objs.size = some { cls := .type "list", dict := none, data := .seq acc c, slots := #[] } → as.length = xs.size → ZG xs ys s.heap.objs.size h' as →
      acc.toList = as.map Value.ref → Q (.ref s.heap.objs.size) { s with heap := h', toks := tk }) :
    wpAny (model prog w) A (call (.type "list") [.ref z]) Q E s := by
  refine callType_codes (Q₁ := fun obj s₁ => obj = .ref s.heap.objs.size ∧ s₁ = { s with heap := s.heap.push { cls := .type "list", data := .seq #[] } }) F.called_list (F.typeCall_list_1 _) F.entry_list_init
    (code_list_new _ ⟨rfl, rfl⟩) fun obj s₁ h₁ => ?_
  obtain ⟨rfl, rfl⟩ := h₁
  have hS : (s.heap.push { cls := .type "list", data := .seq #[] }).get? s.heap.objs.size = some { cls := .type "list", data := .seq #[] } := Heap.get?_push_size _ rfl
  refine ⟨⟨_, hS, rfl⟩, F.args_list_init_2 _ _, zl_init (A := A.in1) (s := { s with heap := s.heap.push { cls := .type "list", data := .seq #[] } }) hh D (N.keep fun c o e => Heap.get?_push_of_some _ e) _ N.lt hS hn hxy (fun h' tk acc c as hk hS' hl hG hacc => ?_)⟩
  exact ⟨rfl, hQ h' tk acc c as (fun b o c1 c2 c3 c4 e => hk b o (Nat.ne_of_lt (Heap.lt_size e)) c1 c2 c3 c4 (Heap.get?_push_of_some _ e)) hS' hl hG hacc⟩
end
end ScZ
set_option linter.all false
namespace ScZ
open PySem PySem.Spec PyProof.Rows L2
def putZ : Hp → List Addr → List (V × V) → Hp
  | H, a :: as, p :: kvs => putZ (upd H a (.tup [p.1, p.2])) as kvs
  | H, _, _ => H
theorem putZ_off {b : Addr} : ∀ (as : List Addr) (kvs : List (V × V)) (H : Hp), b ∉ as → putZ H as kvs b = H b
  | [], _, _, _ => rfl
  | _ :: _, [], _, _ => rfl
  | a :: as, p :: kvs, H, h => by
    show putZ (upd H a (.tup [p.1, p.2])) as kvs b = H b
    rw [putZ_off as kvs _ (fun z => h (List.mem_cons_of_mem _ z)), upd_ne (fun z => h (by rw [z]; exact List.mem_cons_self))]
theorem putZ_at : ∀ (as : List Addr) (kvs : List (V × V)) (H : Hp), as.length = kvs.length → as.Nodup → ∀ (j : Nat) (t : Addr) (p : V × V), as[j]? = some t → kvs[j]? = some p → putZ H as kvs t = some (.tup [p.1, p.2])
  | [], [], _, _, _, _, _, _, h, _ => by cases h
  | [], _ :: _, _, h, _, _, _, _, _, _ => by cases h
  | _ :: _, [], _, h, _, _, _, _, _, _ => by cases h
  | a :: as, q :: kvs, H, h, hn, j, t, p, h1, h2 => by
    have hn' := List.nodup_cons.mp hn
    cases j with
    | zero =>
      obtain rfl := Option.some.inj h1
      obtain rfl := Option.some.inj h2
      show putZ (upd H a (.tup [q.1, q.2])) as kvs a = some (.tup [q.1, q.2])
      rw [putZ_off as kvs _ hn'.1, upd_same]
    | succ j => exact putZ_at as kvs _ (Nat.succ.inj h) hn'.2 j t p h1 h2
section
variable {X : Cx} {e e2 : Expr} {ta : TA} {p p2 pos pos2 : Pos}
theorem zip_laid {pins : List (Addr × Obj)} {σ : L2.St} {H : Hp} {s : Shared} {h' : Heap} {tk : Nat} {xs ys : List V} {us ws : List Value} {acc : Array Value} {c : Nat} {as : List Addr} {S : Addr} (I : Inv X pins σ H s) (hz : xs.length ≤ sizeLine) (r1 : Vals xs us) (r2 : Vals ys ws) (hxy : xs.length = ys.length)
    (hk : ∀ b o, s.heap.get? b = some o → h'.get? b = some o) (hSl : s.heap.objs.size ≤ S) (hS : h'.get? S = some { cls := .type "list", dict := none, data := .seq acc c, slots := #[] }) (hl : as.length = us.toArray.size) (hG : ZG us.toArray ws.toArray S h' as) (hacc : acc.toList = as.map Value.ref) :
    ∃ H' : Hp, (∀ b o, H b = some o → H' b = some o) ∧ H S = none ∧ (∀ t ∈ as, H t = none) ∧ S ∉ as ∧ H' S = some (.lst (as.map V.ref)) ∧ (∀ (j : Nat) (t : Addr), as[j]? = some t → ∃ x y, xs[j]? = some x ∧ ys[j]? = some y ∧ H' t = some (.tup [x, y])) ∧ Inv X pins σ H' { s with heap := h', toks := tk } := by
  have lu := r1.length
  have lw := r2.length
  have la : as.length = xs.length := by rw [hl, lu]; simp
  have lz : (xs.zip ys).length = xs.length := by rw [List.length_zip]; omega
  have hSn : S ∉ as := fun z => Nat.lt_irrefl _ (hG.above _ z)
  have nd : as.Nodup := List.Pairwise.imp (fun {a b} (h : a < b) => Nat.ne_of_lt h) hG.rise
  have new : ∀ t ∈ as, H t = none := fun t ht => I.hok.fresh (Nat.le_of_lt (Nat.lt_of_le_of_lt hSl (hG.above t ht)))
  have newS : H S = none := I.hok.fresh hSl
  have atP := putZ_at as (xs.zip ys) (upd H S (.lst (as.map V.ref))) (by omega) nd
  have off : ∀ b, b ∉ as → b ≠ S → putZ (upd H S (.lst (as.map V.ref))) as (xs.zip ys) b = H b := fun b h1 h2 => by rw [putZ_off as _ _ h1, upd_ne h2]
  have low : ∀ b o, s.heap.get? b = some o → b ∉ as ∧ b ≠ S := fun b o e => ⟨fun z => absurd (Heap.lt_size e) (Nat.not_lt.mpr (Nat.le_of_lt (Nat.lt_of_le_of_lt hSl (hG.above b z)))), Nat.ne_of_lt (Nat.lt_of_lt_of_le (Heap.lt_size e) hSl)⟩
  have kp : ∀ b u, H b = some u → (putZ (upd H S (.lst (as.map V.ref))) as (xs.zip ys)) b = some u := fun b u e => by
    rw [off b (fun z => by rw [new b z] at e; cases e) (fun z => by rw [z, newS] at e; cases e)]
    exact e
  have eS : putZ (upd H S (.lst (as.map V.ref))) as (xs.zip ys) S = some (.lst (as.map V.ref)) := by rw [putZ_off as _ _ hSn, upd_same]
  have pr : ∀ (j : Nat) (t : Addr), as[j]? = some t → ∃ x y, xs[j]? = some x ∧ ys[j]? = some y ∧ putZ (upd H S (.lst (as.map V.ref))) as (xs.zip ys) t = some (.tup [x, y]) := fun j t hj => by
    have jl := (List.getElem?_eq_some_iff.mp hj).1
    have hx : xs[j]? = some (xs[j]'(by omega)) := List.getElem?_eq_getElem _
    have hy : ys[j]? = some (ys[j]'(by omega)) := List.getElem?_eq_getElem _
    exact ⟨_, _, hx, hy, atP j t (_, _) hj (List.getElem?_zip_eq_some.mpr ⟨hx, hy⟩)⟩
  refine ⟨putZ (upd H S (.lst (as.map V.ref))) as (xs.zip ys), kp, newS, new, hSn, eS, pr, ?_⟩
  refine I.call' (ch := []) rfl ⟨fun b o q _ _ _ => hk b o q, fun b o q _ _ _ => ⟨o.slots, hk b o q⟩, fun b o q n _ => ?_, fun b o q _ => ⟨o, hk b o q⟩, fun b xs q => kp b _ q, fun b o u q => kp b _ q, fun b ps q => ⟨#[], by rw [kp b _ q]; simp⟩⟩ (fun b u q => ?_) I.bare fun b z => by simp at z
  · obtain ⟨z1, z2⟩ := low b o q
    rw [off b z1 z2]
    exact n
  · by_cases hb : b ∈ as
    · obtain ⟨j, hj⟩ := List.mem_iff_getElem?.mp hb
      obtain ⟨x, y, e1, e2, e3⟩ := pr j b hj
      rw [e3] at q
      cases q
      obtain ⟨u, w, f1, f2, f3⟩ := hG.pairs j b hj
      obtain ⟨u', g1, g2⟩ := r1.get e1
      obtain ⟨w', g3, g4⟩ := r2.get e2
      have f1' : us[j]? = some u := by simpa using f1
      have f2' : ws[j]? = some w := by simpa using f2
      rw [g1] at f1'
      rw [g3] at f2'
      cases f1'
      cases f2'
      exact ⟨by show 2 ≤ sizeLine; decide, [u, w], .cons g2 (.cons g4 .nil), ⟨_, f3, rfl, _, rfl⟩⟩
    · by_cases hb2 : b = S
      · rw [hb2] at q ⊢
        rw [eS] at q
        cases q
        refine ⟨by rw [List.length_map]; omega, acc.toList, c, by rw [hacc]; exact LiI.vals_refs as, ?_⟩
        rw [Array.toArray_toList]
        exact hS
      · rw [off b hb hb2] at q
        exact (I.hok b u q).stay (fun d v _ y => hk d v y) (fun d y => kp d _ y) fun d xs y => kp d _ y
def tListZip (K : PySem.W.Frag) (ta : TA) : TE := fun σ H Q => ta σ H fun vs H1 => ∃ (a b : Addr) (xs ys : List V), vs = [.ref a, .ref b] ∧ SqT K H1 a xs ∧ SqT K H1 b ys ∧ xs.length = ys.length ∧
  ∀ (H' : Hp) (l : Addr) (ts : List Addr), (∀ b o, H1 b = some o → H' b = some o) → H1 l = none → (∀ t ∈ ts, H1 t = none) → l ∉ ts → H' l = some (.lst (ts.map V.ref)) → ts.length = xs.length →
    (∀ (j : Nat) (t : Addr), ts[j]? = some t → ∃ x y, xs[j]? = some x ∧ ys[j]? = some y ∧ H' t = some (.tup [x, y])) → Q (.ref l) H'
/-- list(zip(e, e2)), two tuples -/
theorem pe_listZip (hc : X.calm = true) (hg : Gl X "list") (hm : X.mg "list" = none) (hg2 : Gl X "zip") (hm2 : X.mg "zip" = none) (ha : PA X [e, e2] ta)
    (hs : starEach [.Call (.Name "zip" p2) [e, e2] [] pos2] X.env = (false, eval (.Call (.Name "zip" p2) [e, e2] [] pos2) X.env) :: starEach [] X.env := by rfl)
    (hs2 : starEach [e, e2] X.env = (false, eval e X.env) :: starEach [e2] X.env := by rfl) (hpl : (backTo pos2 (starEach [e2] X.env)).any (·.1) = false := by rfl) :
    PE X (.Call (.Name "list" p) [.Call (.Name "zip" p2) [e, e2] [] pos2] [] pos) (tListZip X.K ta) := by
  refine ⟨fun pins s σ H Q I hq => ?_⟩
  refine wpAny_Call_Name_kw (ld_blt I hg hm (show bootBuiltins "list" = some (.type "list") by decide +kernel) ?_)
  refine PyProof.Rows.callWith_type1 ?_ hs rfl
  rw [hs]
  show wpAny _ _ (spliced ((false, eval (.Call (.Name "zip" p2) [e, e2] [] pos2) X.env) :: backTo pos (starEach [] X.env))) _ _ s
  refine Calls.spliced_cons ?_
  refine Call_ (ld_blt I hg2 hm2 PyProof.Rows.boot_zip (PyProof.Rows.callWith_type1 (thn (ha.run pos2 pins s σ H _ I hq) fun us s1 ⟨vs, H1, I1, r1, q1⟩ => ?_) hs2 hpl))
  obtain ⟨a, b, xs, ys, ex, hqx, hqy, hxy, q⟩ := q1
  subst ex
  cases r1 with
  | cons r rr =>
    cases rr with
    | cons r' rr =>
      cases rr
      cases r
      cases r'
      obtain ⟨its, rv, p1, z1⟩ := I1.tuple hqx
      obtain ⟨its2, rv2, p2, z2⟩ := I1.tuple hqy
      have l1 := rv.length
      have l2 := rv2.length
      obtain ⟨o1, ho1, _⟩ := _root_.id p1
      obtain ⟨o2, ho2, _⟩ := _root_.id p2
      refine RZ.call_zipT (show s1.heap.IsTuple a its.toArray from p1) (show s1.heap.IsTuple b its2.toArray from p2) fun h' hz hTI hTO h1 h2 hsz hk => ?_
      refine Calls.spliced_nil ?_
      have D := PySem.W.ktu_apart s1.heap.objs.size a b (Heap.lt_size ho1) (Heap.lt_size ho2)
      refine zl_call (s := { s1 with heap := h' }) (xs := its.toArray) (ys := its2.toArray) (I1.ok.hd hc) D ⟨hz, hTI, ⟨_, _, hTO⟩, h1, h2, Heap.IsTuple.at p1 fun o e => hk _ o e, Heap.IsTuple.at p2 fun o e => hk _ o e⟩ (by simp only [List.size_toArray]; omega) (by simp only [List.size_toArray]; omega) fun h'' tk acc c as hk2 hS hl hG hacc => ?_
      have ge : ∀ b o, s1.heap.get? b = some o → b < s1.heap.objs.size := fun b o e => Heap.lt_size e
      have hk3 : ∀ b o, s1.heap.get? b = some o → h''.get? b = some o := fun b o e => by
        have lt : (b : Nat) < s1.heap.objs.size := ge b o e
        exact hk2 b o (Nat.ne_of_lt (Nat.lt_of_lt_of_le lt (Nat.le_add_right _ 4))) (Nat.ne_of_lt (Nat.lt_of_lt_of_le lt (Nat.le_add_right _ 3))) (Nat.ne_of_lt lt) (Nat.ne_of_lt (Nat.lt_of_lt_of_le lt (Nat.le_add_right _ 1))) (hk b o e)
      have hsz' : s1.heap.objs.size ≤ h'.objs.size := by omega
      obtain ⟨H', k1, k2, k3, k4, k5, k6, J⟩ := zip_laid (tk := tk) I1 (by omega) rv rv2 hxy hk3 hsz' hS hl hG hacc
      exact ⟨.ref _, H', J, rfl, q H' _ as k1 k2 k3 k4 k5 (by rw [hl]; simp; omega) k6⟩
end
end ScZ
namespace Sc
open PySem PySem.Spec PyProof.Rows L2
section
variable {P : Program} {w : World} {A : Around} {E : Value → Shared → Prop} {s : Shared}
/-- set(t), t a tuple of texts -/
theorem call_set_txsT {l : Addr} {items : Array Value} (zs : List Str) {Q : Value → Shared → Prop} (calm : A.handled = none) (hl : s.heap.IsTuple l items) (hit : StrsAre items.toList zs) (room : zs.length + 1 < scanBound)
    (fin : ∀ (h' : Heap) (tk m : Nat), TxSet w h' s.heap.objs.size (fun y => decide (y ∈ zs)) m → m ≤ zs.length → (∀ b ob, s.heap.get? b = some ob → h'.get? b = some ob) → Q (.ref s.heap.objs.size) { s with heap := h', toks := tk }) :
    wpAny (model P w) A (call (.type "set") [.ref l]) Q E s := by
  have isz : items.size = zs.length := by
    have z := hit.length
    rw [Array.length_toList] at z
    exact z
  obtain ⟨c, tl, hmro⟩ := F.called_set.mro
  have hmade := F.called_set.made
  have hsub := F.called_set.sub
  refine wpAny_call (codeAny_of_tree ?_)
  show wpAny _ _ (callAny (.type "set") _) _ _ _
  refine wpAny_pure ⟨Code.quiet_builtin _ (by decide +kernel), codeAny_builtin F.entry_type_call ?_⟩
  rw [Around.under_plain (weight_type_call_type "set" [.ref l] []) rfl]
  have no_t := F.called_set.notType
  have can := F.called_set.canCreate
  have chk := PySem.F.typeCall_set_1 (.ref l)
  repeat (any_goals (first | assumption | wp_step))
  refine codeAny_mono (code_set_led1 (.ref l) (E := E) (Q₁ := fun obj s1 => obj = .ref s.heap.objs.size ∧ s1 = { s with heap := s.heap.push (bareSet w) }) ⟨rfl, rfl⟩) fun r s1 hr => ?_
  cases r with
  | error e => exact hr
  | ok fl =>
  cases fl with
  | next => exact hr.elim
  | brk => exact hr.elim
  | cont => exact hr.elim
  | ret obj =>
  obtain ⟨rfl, rfl⟩ := hr
  have atS : (s.heap.push (bareSet w)).get? s.heap.objs.size = some (bareSet w) := Heap.get?_push_size _ rfl
  have tyS : Shared.TypeIs { s with heap := s.heap.push (bareSet w) } (.ref s.heap.objs.size) "set" := ⟨_, atS, rfl⟩
  have ini := F.called_set.init.lookup
  have inb := F.called_set.init.bind (.ref s.heap.objs.size)
  repeat (any_goals (first | assumption | wp_step))
  refine codeAny_mono (codeAny_call_builtin (R := wants (fun r s2 => r = .none ∧ ∃ h' tk m, s2 = { s with heap := h', toks := tk } ∧ TxSet w h' s.heap.objs.size (fun y => decide (y ∈ zs)) m ∧ m ≤ zs.length ∧
      (∀ b ob, s.heap.get? b = some ob → h'.get? b = some ob)) E) F.called_set.init.plain F.entry_set_init (check_set_init_1 tyS ?_)) fun r2 s2 hr2 => ?_
  · obtain ⟨ob, hob, hc, nl, hd⟩ := hl
    obtain ⟨k1, k2, k3, k4⟩ := ob
    simp only at hc hd
    subst hc hd
    have ob1 : (s.heap.push (bareSet w)).get? l = some { cls := .type "tuple", dict := k2, data := .seq items nl, slots := k4 } := Heap.get?_push_of_some _ hob
    have not1 := F.sub_tuple_set
    have not2 := F.sub_tuple_frozenset
    have not3 : (Value.type "tuple" == Value.type "dict") = false := by decide
    have l1 : (s.heap.push (bareSet w)).IsTuple l items := ⟨_, ob1, rfl, nl, rfl⟩
    unfold Builtin.«set.__init__» noKeywords Builtin.Frozenset.updateFrom
    generalize hIt : pyIter = It
    wp_walk
    subst hIt
    refine wpAny_pyIter_tuple l1 (wpAny_bind (wpAny_runValue ?_))
    have low : l < s.heap.objs.size := Heap.lt_size hob
    have calm3 : A.in1.in1.in1.handled = none := by simp [calm]
    have one : (s.heap.push (bareSet w)).objs.size = s.heap.objs.size + 1 := Heap.size_push ..
    have n1 : l ≠ (s.heap.push (bareSet w)).objs.size := Nat.ne_of_lt (by rw [one]; exact Nat.lt_succ_of_lt low)
    have n2 : s.heap.objs.size ∉ [(s.heap.push (bareSet w)).objs.size, l] := by
      rw [List.mem_cons, List.mem_singleton, one]
      exact fun z => z.elim (Nat.ne_of_lt (Nat.lt_succ_self _)) (Nat.ne_of_gt low)
    refine tx_update ((Walks.tuple calm3 _ l n1 items).toS) s.heap.objs.size n2 zs isz room (fun i v hv => tx_item hit i v (by rw [Array.getElem?_toList]; exact hv)) (items.size - 0) 0 _ (by omega) (Nat.zero_le _)
      ⟨⟨_, Heap.get?_push_size _ rfl, rfl, rfl⟩, (l1.push _)⟩ ⟨0, Nat.le_refl 0, tx_bare (Heap.get?_push_of_some _ atS)⟩ ?_
    intro s3 m mv hm R3
    obtain ⟨h3, g3, d3, t3, o3⟩ := s3
    have z1 : g3 = s.gens := mv.gens
    have z2 : d3 = s.drawn := mv.drawn
    have z3 : o3 = s.os := mv.os
    subst z1 z2 z3
    show wpAny _ _ _ _ _ _
    refine wpAny_pure ?_
    show wpAny _ _ (ret Value.none) _ _ _
    refine wpAny_pure ⟨rfl, h3, t3, m, rfl, R3, isz ▸ hm, fun b ob e => ?_⟩
    have lb : b < s.heap.objs.size := Heap.lt_size e
    refine mv.heap b ob ?_ (Heap.get?_push_of_some _ (Heap.get?_push_of_some _ e))
    rw [List.mem_cons, List.mem_singleton, one]
    exact fun z => z.elim (Nat.ne_of_lt lb) (Nat.ne_of_lt (Nat.lt_succ_of_lt lb))
  · cases r2 with
    | error e => exact hr2
    | ok fl2 =>
    cases fl2 with
    | next => exact hr2.elim
    | brk => exact hr2.elim
    | cont => exact hr2.elim
    | ret r =>
    obtain ⟨rfl, h', tk, m, rfl, R2, hm, kp⟩ := hr2
    repeat (any_goals (first | assumption | wp_step))
    exact fin _ _ _ R2 hm kp

end
section
variable {X : Cx}
def rTxSetT (K : PySem.W.Frag) (w : World) : List V → Hp → VK → Prop := fun xs H Q => ∃ (l : Addr) (zs : List Str), xs = [V.ref l] ∧ (SqL K H l (zs.map V.str) ∨ SqT K H l (zs.map V.str)) ∧ zs.length < 1000 ∧
  ∀ a m, H a = none → m ≤ zs.length → Q (.ref a) (upd H a (TxO w a (fun y => decide (y ∈ zs)) m))
theorem cr_txSetT (hc : X.calm = true) : CallR X (.type "set") (rTxSetT X.K X.w) := by
  intro pins s σ H xs us Q I r h
  obtain ⟨l, zs, e, hl | hl, few, q⟩ := h
  · exact cr_txSet hc pins s σ H xs us Q I r ⟨l, zs, e, hl, few, q⟩
  subst e
  rw [Vals.ref1 r]
  obtain ⟨its, rv, pl, hz⟩ := I.tuple hl
  have free : H s.heap.objs.size = none := I.hok.fresh (Nat.le_refl _)
  refine call_set_txsT (P := X.prog) (w := X.w) zs (I.ok.hd hc) pl rv.strs (by unfold scanBound; omega) fun h' tk m R hm kp => ?_
  have R' : ∀ H2 : Hp, ObjOk X.prog X.w H2 h' s.heap.objs.size (TxO X.w s.heap.objs.size (fun y => decide (y ∈ zs)) m) := fun H2 => by
    have ⟨ob, _, _, _, hob, _⟩ := R
    exact ⟨R, ⟨ob, hob⟩, fun h1 h2 p k => p.keep k⟩
  exact ⟨.ref s.heap.objs.size, _, I.laid (t' := tk) kp (Nat.le_refl _) (R' _), rfl, q _ m free hm⟩
/-- len(d), d a set of texts: as many as there are -/
def rTxLen (w : World) : List V → Hp → VK → Prop := fun xs H Q => ∃ (d : Addr) (S : Str → Bool) (n : Nat), xs = [V.ref d] ∧ H d = some (TxO w d S n) ∧
  ∀ ys : List Str, ys.Nodup → (∀ x, x ∈ ys ↔ S x = true) → ys.length = n → Q (.int (n : Nat)) H
theorem cr_txLen : CallR X (.builtin "len") (rTxLen X.w) := by
  intro pins s σ H xs us Q I r h
  obtain ⟨d, S, n, rfl, hd, q⟩ := h
  obtain ⟨ob, cs, ver, tb, hob, ex, dt, gd, nd, mm, sb, ft, sz, ri, ld⟩ : TxSet X.w s.heap d S n := (I.hok d _ hd).1
  rw [Vals.ref1 r]
  have lt : (cs.size : Int) < 2 ^ 63 := by
    have : scanBound ≤ 2 ^ 40 := by decide
    omega
  refine call_len_set hob ex dt ft lt ⟨.int (n : Nat), H, I.tok _, ⟨_, by rw [sz]⟩, q (cs.toList.map txOf) nd (fun x => (mm x).symm) (by rw [List.length_map, Array.length_toList]; exact sz)⟩
end
end Sc
namespace Sc
theorem nodup_sub {α : Type} [DecidableEq α] : ∀ {a b : List α}, a.Nodup → (∀ x ∈ a, x ∈ b) → a.length ≤ b.length
  | [], _, _, _ => Nat.zero_le _
  | x :: a, b, ha, hab => by
    obtain ⟨h1, h2⟩ := List.nodup_cons.mp ha
    have hx := hab x List.mem_cons_self
    have ih := nodup_sub (b := b.erase x) h2 fun y hy => (List.mem_erase_of_ne fun (z : y = x) => h1 (z ▸ hy)).mpr (hab y (List.mem_cons_of_mem _ hy))
    rw [List.length_erase_of_mem hx] at ih
    have : 0 < b.length := List.length_pos_of_mem hx
    rw [List.length_cons]
    omega
theorem dup_one {α : Type} [DecidableEq α] : ∀ {zs : List α}, ¬ zs.Nodup → ∃ x ∈ zs, ∀ y ∈ zs, y ∈ zs.erase x
  | [], h => absurd List.nodup_nil h
  | z :: r, h => by
    by_cases hz : z ∈ r
    · refine ⟨z, List.mem_cons_self, fun y hy => ?_⟩
      rw [List.erase_cons_head]
      rcases List.mem_cons.mp hy with e | e
      · rw [e]; exact hz
      · exact e
    · obtain ⟨x, hx, hr⟩ := dup_one (zs := r) fun n => h (List.nodup_cons.mpr ⟨hz, n⟩)
      have ne : z ≠ x := fun e => hz (e ▸ hx)
      refine ⟨x, List.mem_cons_of_mem _ hx, fun y hy => ?_⟩
      rw [List.erase_cons_tail (by simpa using ne)]
      rcases List.mem_cons.mp hy with e | e
      · rw [e]; exact List.mem_cons_self
      · exact List.mem_cons_of_mem _ (hr y e)
theorem nodup_len {α : Type} [DecidableEq α] {zs ys : List α} {n : Nat} (nd : ys.Nodup) (mem : ∀ x, x ∈ ys ↔ x ∈ zs) (ln : ys.length = n) : (n < zs.length ↔ ¬ zs.Nodup) ∧ n ≤ zs.length := by
  have le : n ≤ zs.length := by rw [← ln]; exact nodup_sub nd fun x hx => (mem x).mp hx
  refine ⟨⟨fun lt hz => ?_, fun hz => ?_⟩, le⟩
  · have := nodup_sub hz fun x hx => (mem x).mpr hx
    omega
  · obtain ⟨x, hx, hr⟩ := dup_one hz
    have := nodup_sub nd fun y hy => hr y ((mem y).mp hy)
    rw [List.length_erase_of_mem hx] at this
    have : 0 < zs.length := List.length_pos_of_mem hx
    omega
end Sc
namespace Sc
open PySem PySem.Spec PyProof.Rows L2
/-! ### programs: what is one, purely -/
inductive Wr where
  | bk | bp | nn | tt
deriving DecidableEq
/-- what is known where a part stands -/
structure Env0 where
  ls : List Str
  fs : List (Str × Nat × Nat)
  ns : List Str
def formTab : List (Str × List Str) :=
  [("num", ["whole"]), ("text", ["text"]), ("name", ["known"]), ("row", ["parts"]), ("norow", ["kind"]), ("nobook", ["kind"]), ("shape", ["fields"]), ("get", ["part", "field"]),
   ("plus", ["part", "part"]), ("minus", ["part", "part"]), ("join", ["part", "part"]), ("size", ["part"]), ("push", ["part", "part"]), ("at", ["part", "part", "part"]), ("put", ["part", "part", "part"]),
   ("look", ["part", "part", "part"]), ("let", ["given", "part", "last"]), ("each", ["given", "part", "last"]), ("fold", ["given", "part", "given", "kind", "part", "last"]), ("if", ["part", "part", "part", "part"]),
   ("is", ["known", "head", "part", "part"]), ("has", ["known", "field", "part", "part"]), ("call", ["function", "kinds", "handed"])]
/-- the first that is wrong -/
def firstBad : List (Option Wr) → Option Wr
  | [] => none
  | some b :: _ => some b
  | none :: r => firstBad r
def whenB (c : Bool) (b : Wr) : Option Wr := if c then none else some b
def gWhole : PyData → Option Wr
  | .int n => whenB (decide (n.natAbs < 10 ^ 30)) .bp
  | _ => some .bp
def gText : PyData → Option Wr
  | .str z => whenB ((z.cps.toList.all fun c => decide (32 ≤ c) && decide (c ≤ 126)) && !(z.cps.toList.any fun c => c == 37)) .bp
  | _ => some .bp
def gWord (d : PyData) : Option Wr := whenB (isWordD d) .bp
def gKnown (E : Env0) : PyData → Option Wr
  | .str z => if isWordD (.str z) then whenB (decide (z ∈ E.ns)) .nn else some .bp
  | _ => some .bp
def gHead : PyData → Option Wr
  | .str z => whenB (decide (z ∈ (["number", "text", "row", "book", "shape"] : List Str))) .bp
  | _ => some .bp
def gKind (ls : List Str) (d : PyData) : Option Wr := whenB (gK ls 9 d) .bk
def gFun (E : Env0) : PyData → Option Wr
  | .str z => if isWordD (.str z) then whenB (decide (z ∈ E.fs.map (·.1))) .nn else some .bp
  | _ => some .bp
def gKinds (ls : List Str) : PyData → Option Wr
  | .tuple ds => firstBad (ds.map (gKind ls))
  | _ => some .bp
def gHanded (rec : PyData → Option Wr) : PyData → Option Wr
  | .tuple ds => firstBad (ds.map rec)
  | _ => some .bp
def gParts (rec : PyData → Option Wr) (d : PyData) : Option Wr := match gHanded rec d with
  | some b => some b
  | none => match d with
    | .tuple [] => some .bp
    | _ => none
def gField (rec : PyData → Option Wr) : PyData → Option Wr
  | .tuple [f, p] => match gWord f with
    | some b => some b
    | none => rec p
  | _ => some .bp
def gFields (rec : PyData → Option Wr) : PyData → Option Wr
  | .tuple ds => if fldD (.tuple ds) then firstBad (ds.map (gField rec)) else some .bp
  | _ => some .bp
/-- what stands in one place of a part -/
def gSlot (rec : Env0 → PyData → Option Wr) (E : Env0) (s : Str) (d : PyData) : Option Wr :=
  if s = ("whole" : Str) then gWhole d else if s = ("text" : Str) then gText d else if s = ("known" : Str) then gKnown E d else if s = ("given" : Str) then gWord d else if s = ("field" : Str) then gWord d else if s = ("head" : Str) then gHead d
  else if s = ("kind" : Str) then gKind E.ls d else if s = ("part" : Str) then rec E d else if s = ("last" : Str) then rec E d else if s = ("parts" : Str) then gParts (rec E) d else if s = ("fields" : Str) then gFields (rec E) d
  else if s = ("function" : Str) then gFun E d else if s = ("kinds" : Str) then gKinds E.ls d else gHanded (rec E) d
def givens (fm : List Str) (ts : List PyData) : List PyData := ((fm.zip ts).filter fun p => p.1 == ("given" : Str)).map (·.2)
def strsD : List PyData → List Str
  | [] => []
  | .str z :: r => z :: strsD r
  | _ :: r => strsD r
def formOf : PyData → Option (Str × List Str × List PyData)
  | .tuple (.str w :: ts) => match formTab.lookup w with
    | some fm => if ts.length = fm.length then some (w, fm, ts) else none
    | none => none
  | _ => none
def callOk (E : Env0) (ts : List PyData) : Bool := match ts with
  | [.str f, .tuple ks, .tuple ps] => (match E.fs.lookup f with
    | some (nl, np) => decide (ks.length = nl) && decide (ps.length = np)
    | none => false)
  | _ => false
def gPart : Nat → Env0 → PyData → Option Wr
  | 0, _, _ => some .bp
  | n + 1, E, d => match formOf d with
    | none => some .bp
    | some (w, fm, ts) =>
      let L : Env0 := { E with ns := E.ns ++ strsD (givens fm ts) }
      match firstBad ((fm.zip ts).map fun p => gSlot (gPart n) (if p.1 = ("last" : Str) then L else E) p.1 p.2) with
      | some b => some b
      | none => if (strsD (givens fm ts)).Nodup then (if w = ("call" : Str) then whenB (callOk E ts) .bp else none) else some .tt
/-! ### where a part stands -/
def placeF (la fa na : Addr) (r : Int) : List (Str × V) := [("letters", V.ref la), ("functions", V.ref fa), ("names", V.ref na), ("room", V.int r)]
/-- the functions told earlier: by their names, how many letters and params -/
def FnsAt (K : PySem.W.Frag) (H : Hp) (fa : Addr) (fs : List (Str × Nat × Nat)) : Prop := ∃ kvs : List (Key × V), H fa = some (.dK kvs) ∧ kvs.map (·.1) = fs.map (fun q => (Sum.inr q.1 : Key)) ∧ (fs.map (·.1)).Nodup ∧
  ∀ (j : Nat) (k : Key) (v : V) (z : Str) (nl np : Nat), kvs[j]? = some (k, v) → fs[j]? = some (z, nl, np) → ∃ (d0 : PyData) (ls ps : List PyData) (d3 d4 : PyData), Dp K H v (.tuple [d0, .tuple ls, .tuple ps, d3, d4]) ∧ ls.length = nl ∧ ps.length = np
structure PlaceAt (K : PySem.W.Frag) (C : Addr) (H : Hp) (p : Addr) (E : Env0) (r : Int) : Prop where
  at_ : ∃ dx la fa na, H p = some (.ins C dx (placeF la fa na r)) ∧ SqT K H la (E.ls.map V.str) ∧ FnsAt K H fa E.fs ∧ SqT K H na (E.ns.map V.str)
theorem FnsAt.keep {K : PySem.W.Frag} {T : List Addr} {H H' : Hp} {fa : Addr} {fs : List (Str × Nat × Nat)} (h : FnsAt K H fa fs) (t : Tb T H) (f : Fr T H H') : FnsAt K H' fa fs := by
  obtain ⟨kvs, h1, h2, nd, h3⟩ := h
  refine ⟨kvs, f.old _ _ h1 fun z => ?_, h2, nd, fun j k v z nl np e1 e2 => ?_⟩
  · obtain ⟨ps, g, _⟩ := t fa z
    rw [h1] at g
    cases g
  · obtain ⟨d0, ls, ps, d3, d4, hd, r⟩ := h3 j k v z nl np e1 e2
    exact ⟨d0, ls, ps, d3, d4, (Fr.keep t f).dp hd, r⟩
theorem PlaceAt.keep {K : PySem.W.Frag} {T : List Addr} {C : Addr} {H H' : Hp} {p : Addr} {E : Env0} {r : Int} (h : PlaceAt K C H p E r) (t : Tb T H) (f : Fr T H H') : PlaceAt K C H' p E r := by
  obtain ⟨dx, la, fa, na, h1, h2, h3, h4⟩ := h.at_
  refine ⟨dx, la, fa, na, f.old _ _ h1 fun z => ?_, (Fr.keep t f).2 _ _ h2, h3.keep t f, (Fr.keep t f).2 _ _ h4⟩
  obtain ⟨ps, g, _⟩ := t p z
  rw [h1] at g
  cases g
/-- the promise of a def that refuses what stands in a place -/
def spAt (K : PySem.W.Frag) (T : List Addr) (C : Addr) (cls : Wr → Addr) (r : Int) (g : Env0 → PyData → Option Wr) : Sp := fun vs H Q Ex => ∃ (v : V) (d : PyData) (p : Addr) (E : Env0), vs = [v, .ref p] ∧ Dp K H v d ∧ okD d ∧ Tb T H ∧ PlaceAt K C H p E r ∧
  (g E d = none → ∀ H', Fr T H H' → Q .non H') ∧ (∀ b, g E d = some b → ∀ H', Fr T H H' → Ex (.ref (cls b)) none H')
/-- the classes -/
structure Ers (K : PySem.W.Frag) (mg : Str → Option Value) (cls : Wr → Addr) : Prop where
  bk : Ec K mg "BadKind" (cls .bk)
  bp : Ec K mg "BadProgram" (cls .bp)
  nn : Ec K mg "NoName" (cls .nn)
  tt : Ec K mg "TwiceTold" (cls .tt)
/-- the class Place -/
structure PlC (P : Program) (w : World) (K : PySem.W.Frag) (mg : Str → Option Value) (base : Heap) (C : Addr) : Prop where
  cl : Cls K C
  n1 : NoAttr K C "letters"
  n2 : NoAttr K C "functions"
  n3 : NoAttr K C "names"
  n4 : NoAttr K C "room"
  g : mg "Place" = some (.ref C)
  ini : ∃ f fd, FnOk P w K mg base CX0 1 f fd ["self", "letters", "functions", "names", "room"] (fun vs H Q _ => ∃ (p dx la fa na : Addr) (r : Int), vs = [.ref p, .ref la, .ref fa, .ref na, .int r] ∧ H p = some (.ins C dx []) ∧
      ∀ (H' : Hp), H' p = some (.ins C dx (placeF la fa na r)) → (∀ c o, H c = some o → c ≠ p → H' c = some o) → Q .non H') ∧ Mk K C f ∧ Binds K fd ["self", "letters", "functions", "names", "room"] []
end Sc
namespace Sc
open PySem PySem.Spec PyProof.Rows L2
/-! ### a generator over a text's signs whose element may read the module's names -/
/-- the module's names and the builtins, as the base has them -/
structure Grd (mg : Str → Option Value) (h : Heap) : Prop where
  own : h.Ns mainGlobals mg
  blt : ∃ mb, h.Ns builtinsNs mb ∧ ∀ x : Str, x ≠ "__name__" → mb x = bootBuiltins x
theorem Grd.but {mg : Str → Option Value} {h h' : Heap} {a : Addr} (G : Grd mg h) (k : ∀ b o, b ≠ a → h.get? b = some o → h'.get? b = some o) (n1 : mainGlobals ≠ a) (n2 : builtinsNs ≠ a) : Grd mg h' :=
  ⟨G.own.extBut (b := a) (fun b o hb e => k b o hb e) n1, let ⟨mb, u, q⟩ := G.blt; ⟨mb, u.extBut (b := a) (fun b o hb e => k b o hb e) n2, q⟩⟩
theorem ns_off {h : Heap} {a b : Addr} {m : Str → Option Value} {ps : Array Value} (n : h.Ns a m) (e : h.get? b = some { cls := .none, data := .fields ps }) : a ≠ b := by
  rintro rfl
  obtain ⟨u, es, ep, hu, hd, _⟩ := n
  rw [e] at hu
  cases hu
  cases hd
/-- the element: a test of the sign c, which may ask the module's names -/
def EltM (prog : Program) (w : World) (mg : Str → Option Value) (scope : Scope) (x : Str) (elt : Expr) (pb : Nat → Bool) : Prop :=
  ∀ (ce : Env) (Ar : Around) (Er : Value → Shared → Prop) (c : Nat) (t : Tok) (z : Shared) (m : Str → Option Value), (ce.scope = scope ∧ ce.globals = mainGlobals ∧ ce.builtins = builtinsNs) → Grd mg z.heap → (z.heap.Ns ce.locals m ∧ m x = some (.str ⟨#[c]⟩ t)) →
    wpAny (model prog w) Ar (eval elt ce) (fun y z' => y = .bool (pb c) ∧ Keeps z z') Er z
/-- ord(x) == G -/
theorem elt_ord {prog : Program} {w : World} {mg : Str → Option Value} {scope : Scope} {x g : Str} {n : Int} {tn : Tok} {p0 p1 p2 p3 p4 : Pos} (hk : scope.kind = .function) (hl : scope.names.lookup x = some .local) (ho : scope.names.lookup ("ord" : Str) = some .globalImplicit) (hg : scope.names.lookup g = some .globalImplicit)
    (mo : mg "ord" = none) (mn : mg g = some (.int n tn)) (hd : (x == ("__debug__" : Str)) = false := by decide) (hd2 : (g == ("__debug__" : Str)) = false := by decide) :
    EltM prog w mg scope x (.Compare (.Call (.Name "ord" p0) [.Name x p1] [] p2) [.Eq] [.Name g p3] p4) (fun c => ((c : Nat) : Int) == n) := by
  intro ce Ar Er c t z m ⟨hs, hgl, hbl⟩ G ⟨hn, hm⟩
  obtain ⟨mb, hb1, hb2⟩ := G.blt
  have kd : ce.scope.kind = .function := by rw [hs]; exact hk
  have he : starEach [.Name x p1] ce = (false, eval (.Name x p1) ce) :: starEach [] ce := rfl
  refine wpAny_Compare1 (wpAny_Call_Name_kw (Calls.Name_function_global kd (show ce.scope.names.lookup ("ord" : Str) = _ by rw [hs]; exact ho) (Calls.loadGlobal_builtin (by rw [hgl]; exact G.own) mo (by rw [hbl]; exact hb1) ((hb2 "ord" (by decide)).trans boot_ord) ?_)))
  refine PyProof.Rows.callWith_builtin1 ?_ he (by rfl)
  rw [he]
  show wpAny _ _ (spliced ((false, eval (.Name x p1) ce) :: backTo p2 (starEach [] ce))) _ _ z
  refine Calls.spliced_cons (wpAny_Name (wpAny_loadName_local kd (show ce.scope.names.lookup x = some .local by rw [hs]; exact hl) hn hm ?_) hd)
  refine Calls.spliced_nil (PySem.P.ord_of_char ?_)
  refine Calls.Name_function_global kd (show ce.scope.names.lookup g = _ by rw [hs]; exact hg) (Calls.loadGlobal_global (by rw [hgl]; exact G.own) mn ?_) hd2
  exact PySem.P.eq_int ⟨rfl, GxR.keeps_tok _ _⟩
section
variable {X : Cx} {pins : List (Addr × Obj)} {σ : L2.St} {H : Hp} {s : Shared}
theorem gen_code {M : Model} {A : Around} {E : Value → Shared → Prop} {env : Env} {c P : Addr} {ps : Array Value} {gpos : Pos} {q : Str} {scope : Scope} {Qc : Value → Shared → Prop} (hc : env.code = .ref c) (cd : s.heap.IsCode c P ps) (tb : s.heap.TableAt c P ps) (gP : s.heap.get? P = some { cls := .none, data := .fields ps }) (tri : TriplesOk ps.toList)
    (h : ∀ (cv : Value) (h3 : Heap) (tk : Nat) (more : Array Value), Heap.ExtBut P s.heap h3 → s.heap.objs.size ≤ h3.objs.size → h3.get? P = some { cls := .none, data := .fields (ps ++ more) } → TriplesOk (ps ++ more).toList → Qc cv { s with heap := h3, toks := tk }) :
    wpAny M A (genexprCode env gpos q scope) Qc E s := by
  cases hf : codeAmong gpos ps.toList with
  | some cv =>
    have e : ps ++ #[] = ps := by simp
    exact wpAny_genexprCode_hit hc cd hf (h cv s.heap s.toks #[] (Heap.ExtBut.refl _ _) (Nat.le_refl _) (by rw [e]; exact gP) (by rw [e]; exact tri))
  | none =>
    apply wpAny_genexprCodeX hc cd tb hf
    intro c' h3 tk hx hge hlt hco _ htab _
    obtain ⟨_, _, _, _, _, _, _, _, _, _, _, _, _, _, _, _, _, _, _, tr3, _⟩ := hco
    exact h _ h3 tk _ hx (Nat.le_trans hge (Nat.le_of_lt hlt)) htab.2 tr3
theorem gen_strM {c P : Addr} {elt iter : Expr} {x : Str} {px gpos : Pos} {scope : Scope} {pb : Nat → Bool} {te : TE} {k : Nat} {Q' : Value → Shared → Prop} {R : Str → Hp → Prop}
    (hr : Room k X.A) (TB : GxR.TabB X.base X.mg c P) (hcode : X.env.code = .ref c) (S : GxR.GenS X.env scope x) (hi : PE X iter te) (hel : EltM X.prog X.w X.mg scope x elt pb)
    (hs : ∀ v, genFold iter X.env v = pure v) (I : Inv X pins σ H s) (h : te σ H fun v H1 => ∃ a : Str, v = .str a ∧ GxR.TabG H1 P ∧ R a H1)
    (hQ : ∀ a H1 g s5, R a H1 → GxR.Ready X pins σ H1 P a pb g s5 → Q' (.ref g) s5) :
    wpAny (model X.prog X.w) X.A (eval (.GeneratorExp elt [⟨.Name x px, iter, [], 0⟩] scope gpos) X.env) Q' X.xe s := by
  apply wpAny_GeneratorExp_walksQ hr.hd S.co (closure_ok S.free) S.cell S.dot S.loc S.kind (Nat.lt_of_lt_of_le (Nat.lt_succ_self _) (by have := hr.dp; omega)) (hs := hs)
  apply thn (hi.run pins s σ H _ I h)
  rintro xv z ⟨v, H1, J, rv, a, rfl, ⟨ps, hP, tri⟩, hR⟩
  obtain ⟨u, rfl⟩ := (show ∃ u, xv = Value.str a u from rv)
  apply wpAny_pyIter_str
  intro it St W at0
  have gP : z.heap.get? P = some { cls := .none, data := .fields ps } := J.hok P _ hP
  have Plt := Heap.lt_size gP
  have base' : ∀ b o, X.base.get? b = some o → z.heap.get? b = some o := fun b o e => J.bk b o e
  have G0 : Grd X.mg z.heap := ⟨J.mod.glob.keeps base', let ⟨mb, q1, q2⟩ := J.mod.blt; ⟨mb, q1.keeps base', q2⟩⟩
  have nPb : builtinsNs ≠ P := let ⟨mb, q1, _⟩ := G0.blt; ns_off q1 gP
  have nPs : cStatics ≠ P := let ⟨mc, q1, _⟩ := J.nolimit; ns_off q1 gP
  have gltS : cStatics < z.heap.objs.size := let ⟨mc, q1, _⟩ := J.nolimit; q1.lt
  have gltG : mainGlobals < z.heap.objs.size := G0.own.lt
  have gltB : builtinsNs < z.heap.objs.size := let ⟨mb, q1, _⟩ := G0.blt; q1.lt
  have up : ∀ b o, z.heap.get? b = some o → (z.heap.push it).get? b = some o := fun b o e => Heap.get?_push_of_some _ e
  have codeP : PySem.W.CodeHd (z.heap.push it) c P := TB.code.keeps fun b o e => up b o (base' b o e)
  refine ⟨J.nolimit.push it, ?_⟩
  have gP' := up P _ gP
  refine gen_code hcode (codeP.code gP' tri) (codeP.tab gP') (show (z.heap.push it).get? P = _ from gP') tri fun cv h3 tk more hx hsz0 hP3 tr3 => ?_
  have hsz : z.heap.objs.size + 1 ≤ h3.objs.size := by
    have e := Heap.size_push z.heap it
    rw [← e]
    exact hsz0
  have k3 : ∀ b o, b ≠ P → z.heap.get? b = some o → h3.get? b = some o := fun b o hb e => hx b o hb (up b o e)
  have G3 : Grd X.mg h3 := G0.but k3 TB.gP nPb
  obtain ⟨bm, ob, e1, e2, e3, e4, e5, e6, e7, e8⟩ := TB.bm
  apply wpAny_builtinsFor (m := X.mg) (by rw [J.ok.glob]; exact G3.own) e1 e2 (k3 _ _ e4 (base' _ _ e5)) e6 e7 e8
  have inFp : ∀ b ∈ [z.heap.objs.size], b < h3.objs.size := fun b hb => by rw [List.mem_singleton.mp hb]; exact hsz
  refine ⟨z.heap.objs.size, [z.heap.objs.size], [z.heap.objs.size], a.cps.size, SignAt a, St, (fun _ => true), (fun i y => ∃ cc, a.cps[i]? = some cc ∧ y = .bool (pb cc)), rfl, W, ?_, inFp, (J.nolimit.push it).extBut hx nPs, ?_, ?_, ?_⟩
  · exact (W X.A hr.hd).frame _ _ _ at0 fun b hb o e => hx b o (fun q => absurd Plt (by rw [← q, List.mem_singleton.mp hb]; exact Nat.lt_irrefl _)) e
  · exact fun q => absurd gltS (by rw [List.mem_singleton.mp q]; exact Nat.lt_irrefl _)
  · intro href hh
    constructor
    · intro _ _ _ _ _ _ _ _ _ _ _
      simp only [List.forIn_nil]
      exact wpAny_pure ⟨rfl, GxR.keeps_refl _⟩
    · intro Ar Er i v z2 m2 _ hPv _ hn hm hk
      obtain ⟨cc, u, hcc, rfl⟩ := hPv
      have G2 : Grd X.mg z2.heap := G3.but (a := z.heap.objs.size) (fun b o hb e => hk b (List.mem_range.mpr (Heap.lt_size e)) (fun q => hb (List.mem_singleton.mp q)) o (hh b o e)) (Nat.ne_of_lt gltG) (Nat.ne_of_lt gltB)
      exact wpAny_mono (hel _ Ar Er cc u z2 m2 ⟨rfl, J.ok.glob, rfl⟩ G2 ⟨hn, hm⟩) (fun y z3 q => ⟨⟨cc, hcc, q.1⟩, q.2⟩) fun _ _ e => e
  · intro g h5 tk5 gs hgb hag hsz5 hk5 W5 hat
    simp only [GxR.passing_true, List.length_range] at W5
    refine hQ a H1 g _ hR ⟨_, _, _, _, _, W5.in4_1, hat, ?_, ?_⟩
    · rintro j y sj Qj Ej ⟨i, hij, cc, hcc, rfl⟩ hQj
      obtain ⟨hj, ej⟩ := List.getElem?_eq_some_iff.mp hij
      rw [List.getElem_range] at ej
      subst ej
      have tr0 : GxR.trF pb a.cps.toList j = pb cc := GxR.trF_some (by rw [Array.getElem?_toList]; exact hcc)
      exact wpAny_truthy_bool (by rw [← tr0]; exact hQj)
    · intro z' mv
      have off : ∀ b o, z.heap.get? b = some o → b ∉ h3.objs.size :: [z.heap.objs.size] := fun b o e q => by
        have lt := Heap.lt_size e
        rcases List.mem_cons.mp q with q | q
        · rw [q] at lt
          exact absurd (Nat.lt_of_lt_of_le lt (Nat.le_of_succ_le hsz)) (Nat.lt_irrefl _)
        · rw [List.mem_singleton.mp q] at lt
          exact Nat.lt_irrefl _ lt
      have J2 := GxR.inv_tab (more := more) (h' := z'.heap) (g' := z'.gens) (d' := z'.drawn) (t' := z'.toks) J hP (fun b o hb e => mv.heap b o (off b o e) (hk5 b o (k3 b o hb e))) (mv.heap P _ (off P _ gP) (hk5 P _ hP3)) (AllBare.movedS (J.bare.push hgb) mv)
      rw [GxR.sh_eta z z' mv.os] at J2
      exact ⟨_, ⟨⟨_, upd_same, tr3⟩, fun b hb => upd_ne hb⟩, J2⟩
/-- any(ord(x) == G for x in e) and its like -/
theorem pe_anyM {c P : Addr} {elt iter : Expr} {x : Str} {px p pos gpos : Pos} {scope : Scope} {pb : Nat → Bool} {te : TE} {k : Nat}
    (hr : Room k X.A) (hg : Gl X "any") (hm : X.mg "any" = none) (TB : GxR.TabB X.base X.mg c P) (hcode : X.env.code = .ref c) (S : GxR.GenS X.env scope x) (hi : PE X iter te) (hel : EltM X.prog X.w X.mg scope x elt pb)
    (hs : ∀ v, genFold iter X.env v = pure v)
    (he : starEach [.GeneratorExp elt [⟨.Name x px, iter, [], 0⟩] scope gpos] X.env = (false, eval (.GeneratorExp elt [⟨.Name x px, iter, [], 0⟩] scope gpos) X.env) :: starEach [] X.env := by rfl) :
    PE X (.Call (.Name "any" p) [.GeneratorExp elt [⟨.Name x px, iter, [], 0⟩] scope gpos] [] pos) (GxR.tAnyS P pb te) := by
  constructor
  intro pins s σ H Q I h
  refine wpAny_Call_Name_kw (ld_blt I hg hm boot_any (PyProof.Rows.callWith_builtin1 ?_ he (by rfl)))
  rw [he]
  show wpAny _ _ (spliced ((false, eval (.GeneratorExp elt [⟨.Name x px, iter, [], 0⟩] scope gpos) X.env) :: backTo pos (starEach [] X.env))) _ _ s
  apply Calls.spliced_cons
  refine gen_strM (R := fun a H1 => ∀ H2, GxR.Tabbed P H1 H2 → Q (.bl (a.cps.toList.any pb)) H2) hr TB hcode S hi hel hs I h ?_
  rintro a H1 g s5 hR ⟨fp, wr, G, F, St, W, hst, htr, hI⟩
  refine Calls.spliced_nil (call_any_walkS (W.self 0 _ _ _ hst ⟨g, fp, wr, G, _, F, St, _, rfl, W, hst, htr, ?_⟩))
  intro s' hmv
  obtain ⟨H2, hT, J⟩ := hI s' hmv
  refine ⟨.bl _, H2, J, rfl, ?_⟩
  rw [GxR.any_signs a pb]
  exact hR H2 hT
end
end Sc
namespace Sc
open PySem PyProof.Rows L2
def top (i : Nat) : Stmt := PySem.Challenge.pw_soothcheck_k51_parts_as_deep_as_may_be.main.body.getD i (.Pass ⟨0, 0, 0, 0⟩)
abbrev sNeedKind : Stmt := top 9
abbrev sPNeedKindWithin : Stmt := top 10
abbrev sPNeedChoice : Stmt := top 11
abbrev sPNeedFields : Stmt := top 12
abbrev sPNeedLetter : Stmt := top 14
abbrev sIsWord : Stmt := top 15
abbrev sHasWordSigns : Stmt := top 16
abbrev sIsLetter : Stmt := top 17
abbrev sPHasWordLength : Stmt := top 18
abbrev sAreFields : Stmt := top 19
abbrev sNeedProgram : Stmt := top 26
abbrev sPNeedFunction : Stmt := top 27
abbrev sPNeedPairs : Stmt := top 28
abbrev sPNeedPart : Stmt := top 29
abbrev sPFormOf : Stmt := top 30
abbrev sPNeedAllHanded : Stmt := top 31
abbrev sPNeedWithin : Stmt := top 32
abbrev sPNeedWhole : Stmt := top 33
abbrev sPNeedText : Stmt := top 34
abbrev sPNeedKnown : Stmt := top 35
abbrev sPNeedWord : Stmt := top 36
abbrev sPNeedHead : Stmt := top 37
abbrev sPNeedKindHere : Stmt := top 38
abbrev sPNeedParts : Stmt := top 39
abbrev sPNeedHanded : Stmt := top 40
abbrev sPNeedFields2 : Stmt := top 41
abbrev sPNeedToldEarlier : Stmt := top 43
abbrev sPNeedKinds : Stmt := top 44
abbrev sBegin : Stmt := top 47
abbrev sTaken : Stmt := top 48
abbrev sAWord : Stmt := top 49
abbrev sAText : Stmt := top 50
abbrev sRefusal : Stmt := top 51
abbrev sDeeper : Stmt := top 52
abbrev sLaw : Stmt := top 53
abbrev sPlaceInit : Stmt := inClass (top 25) 0
structure Tx (K : PySem.W.Frag) (mg : Str → Option Value) : Prop where
  need_kind : Def K mg "need_kind" sNeedKind ["kind", "letters"]
  p_need_kind_within : Def K mg "_need_kind_within" sPNeedKindWithin ["kind", "letters", "room"]
  p_need_choice : Def K mg "_need_choice" sPNeedChoice ["choice", "letters", "room"]
  p_need_fields : DefA K mg "need_fields_kinds" "_need_fields" sPNeedFields ["fields", "letters", "room"]
  p_need_letter : Def K mg "_need_letter" sPNeedLetter ["letter", "letters"]
  is_word : Def K mg "is_word" sIsWord ["thing"]
  has_word_signs : Def K mg "has_word_signs" sHasWordSigns ["text"]
  is_letter : Def K mg "is_letter" sIsLetter ["thing"]
  p_has_word_length : Def K mg "_has_word_length" sPHasWordLength ["thing"]
  are_fields : Def K mg "are_fields" sAreFields ["thing"]
  need_program : Def K mg "need_program" sNeedProgram ["program"]
  p_need_function : Def K mg "_need_function" sPNeedFunction ["function", "earlier"]
  p_need_pairs : Def K mg "_need_pairs" sPNeedPairs ["pairs", "may_lead"]
  p_need_part : Def K mg "_need_part" sPNeedPart ["part", "place"]
  p_form_of : Def K mg "_form_of" sPFormOf ["part"]
  p_need_all_handed : Def K mg "_need_all_handed" sPNeedAllHanded ["part", "function"]
  p_need_within : Def K mg "_need_within" sPNeedWithin ["told", "place"]
  p_need_whole : Def K mg "_need_whole" sPNeedWhole ["told", "place"]
  p_need_text : Def K mg "_need_text" sPNeedText ["told", "place"]
  p_need_known : Def K mg "_need_known" sPNeedKnown ["told", "place"]
  p_need_word : Def K mg "_need_word" sPNeedWord ["told", "place"]
  p_need_head : Def K mg "_need_head" sPNeedHead ["told", "place"]
  p_need_kind_here : Def K mg "_need_kind_here" sPNeedKindHere ["told", "place"]
  p_need_parts : Def K mg "_need_parts" sPNeedParts ["told", "place"]
  p_need_handed : Def K mg "_need_handed" sPNeedHanded ["told", "place"]
  p_need_fields2 : Def K mg "_need_fields" sPNeedFields2 ["told", "place"]
  p_need_told_earlier : Def K mg "_need_told_earlier" sPNeedToldEarlier ["told", "place"]
  p_need_kinds : Def K mg "_need_kinds" sPNeedKinds ["told", "place"]
  begin : Def K mg "_law_begin" sBegin ["_law_script"]
  taken : Def K mg "_law_taken" sTaken ["_law_s", "_law_most"]
  a_word : Def K mg "_law_a_word" sAWord ["_law_s", "_law_k"]
  a_text : Def K mg "_law_a_text" sAText ["_law_s"]
  refusal : Def K mg "_law_refusal" sRefusal ["_law_program"]
  deeper : Def K mg "_law_deeper" sDeeper ["_law_s", "_law_part", "_law_earlier", "_law_name"]
  m_ValueError : mg "ValueError" = none
  m_abs : mg "abs" = none
  m_all : mg "all" = none
  m_any : mg "any" = none
  m_bool : mg "bool" = none
  m_dict : mg "dict" = none
  m_int : mg "int" = none
  m_isinstance : mg "isinstance" = none
  m_len : mg "len" = none
  m_list : mg "list" = none
  m_ord : mg "ord" = none
  m_range : mg "range" = none
  m_set : mg "set" = none
  m_sorted : mg "sorted" = none
  m_str : mg "str" = none
  m_sum : mg "sum" = none
  m_tuple : mg "tuple" = none
  m_zip : mg "zip" = none
end Sc
namespace Sc
open PySem PyProof.Rows L2
section
variable {P : Program} {w : World} {K : PySem.W.Frag} {mg : Str → Option Value} {base : Heap} {T0 : List Addr}
theorem scHasLen : FnScope ["thing"] ["thing"] (defScope sPHasWordLength) := ⟨rfl, rfl, rfl, by decide +kernel, rfl, by decide +kernel, by decide +kernel⟩
theorem c_has_len (T : Tx K mg) (hl8 : ∃ t, mg "LONGEST_WORD" = some (.int 8 t)) : Cal P w K mg base 1 "_has_word_length" ["thing"] (spTest K T0 lenOkD) := by
  refine T.p_has_word_length.ok scHasLen (fun vs H Q E h => ?_) (fun f cdv A outer s H vs Q E hr h => ?_)
  · obtain ⟨v, d, rfl, _⟩ := h
    rfl
  obtain ⟨v, d, rfl, hd, ok, tb, q⟩ := h
  obtain ⟨t8, m8⟩ := hl8
  refine ⟨_, pss_one (ps_ret (pe_and (pe_callB call_isi (by rfl) T.m_isinstance boot_isinstance (pa_cons (pv 0) (pa_cons (pe_bltn (v := .ty "str") (by rfl) T.m_str boot_str rfl) pa_nil)))
    (pe_one (pe_chain op_le op_le pe_int (pe_callB call_len_str (by rfl) T.m_len PySem.boot_len (pa_cons (pv 0) pa_nil)) (pe_glob (v := .int 8) (by rfl) m8 ⟨_, rfl⟩))))), ?_⟩
  refine ⟨_, rfl, v, _, _, _, _, rfl, .ty _, Dp.ty hd, kit_ty (isStr hd), _, rfl, ?_⟩
  have fin := q H (Fr.refl tb)
  cases hd with
  | str z =>
    refine iteT ⟨_, rfl, z, rfl, ?_, _, _, rfl, rfl, _, rfl, ?_⟩
    · have h2 : decide (z.length ≤ 1000) = true := ok.2
      exact sizeOk (by have := of_decide_eq_true h2; omega)
    · have e1 : decide ((1 : Int) ≤ (z.length : Int)) = decide (1 ≤ z.length) := decide_eq_decide.mpr (by omega)
      have e2 : decide ((z.length : Int) ≤ 8) = decide (z.length ≤ 8) := decide_eq_decide.mpr (by omega)
      have fin' : Q (.bl (decide (1 ≤ z.length) && decide (z.length ≤ 8))) H := fin
      rw [e1]
      cases h1 : decide (1 ≤ z.length) with
      | false =>
        rw [h1, Bool.false_and] at fin'
        exact iteF fin'
      | true =>
        rw [h1, Bool.true_and, ← e2] at fin'
        exact iteT ⟨_, _, rfl, rfl, fin'⟩
  | non => exact iteF fin
  | bl b => exact iteF fin
  | int b => exact iteF fin
  | lst _ _ => exact iteF fin
  | tup _ _ => exact iteF fin
end
end Sc
namespace Sc
open PySem PyProof.Rows L2
section
variable {P : Program} {w : World} {K : PySem.W.Frag} {mg : Str → Option Value} {base : Heap} {T0 : List Addr}
theorem word_iff (z : Str) : decide (Word z) = ((decide (1 ≤ z.length) && decide (z.length ≤ 8)) && z.cps.toList.all fun c => decide (97 ≤ c) && decide (c ≤ 122)) := by
  rw [Bool.eq_iff_iff]
  simp only [Bool.and_eq_true, decide_eq_true_eq, List.all_eq_true]
  exact ⟨fun h => ⟨⟨h.1, h.2.1⟩, h.2.2⟩, fun h => ⟨h.1.1, h.1.2, h.2⟩⟩
theorem lett_iff (z : Str) : decide (Lett z) = ((decide (1 ≤ z.length) && decide (z.length ≤ 8)) && z.cps.toList.all fun c => decide (65 ≤ c) && decide (c ≤ 90)) := by
  rw [Bool.eq_iff_iff]
  simp only [Bool.and_eq_true, decide_eq_true_eq, List.all_eq_true]
  exact ⟨fun h => ⟨⟨h.1, h.2.1⟩, h.2.2⟩, fun h => ⟨h.1.1, h.1.2, h.2⟩⟩
theorem scIsWord : FnScope ["thing"] ["thing"] (defScope sIsWord) := ⟨rfl, rfl, rfl, by decide +kernel, rfl, by decide +kernel, by decide +kernel⟩
theorem scIsLetter : FnScope ["thing"] ["thing"] (defScope sIsLetter) := ⟨rfl, rfl, rfl, by decide +kernel, rfl, by decide +kernel, by decide +kernel⟩
def spSigns (T : List Addr) : Sp := fun vs H Q _ => ∃ z : Str, vs = [.str z] ∧ Tb T H ∧ ∀ (H' : Hp), Fr T H H' → Q (.bl (z.cps.toList.all fun c => decide (97 ≤ c) && decide (c ≤ 122))) H'
theorem scWordSigns : FnScope ["text"] ["text"] (defScope sHasWordSigns) := ⟨rfl, rfl, rfl, by decide +kernel, rfl, by decide +kernel, by decide +kernel⟩
theorem c_word_signs {c Pa : Addr} (T : Tx K mg) (D : DefT K mg "has_word_signs" sHasWordSigns ["text"] c) (TB : GxR.TabB base mg c Pa) (hP : Pa ∈ T0) : Cal P w K mg base 1 "has_word_signs" ["text"] (spSigns T0) := by
  refine D.ok scWordSigns (fun vs H Q E h => ?_) (fun f A outer s H vs Q E hr h => ?_)
  · obtain ⟨z, rfl, _⟩ := h
    rfl
  obtain ⟨z, rfl, tb, q⟩ := h
  refine ⟨_, pss_one (ps_ret (GxR.pe_allS hr (by rfl) T.m_all (by decide +kernel) TB (by rfl) (gen_by (by decide +kernel)) (pv 0) (elt_between (a := 97) (b := 122) (by rfl) (by rfl)) (fun _ => rfl))), ?_⟩
  obtain ⟨ps, g, tr⟩ := tb Pa hP
  exact ⟨_, rfl, z, rfl, ⟨ps, g, tr⟩, fun H2 t2 => q H2 (Fr.tabbed tb t2 hP)⟩
theorem c_is_word (T : Tx K mg) (CS : Cal P w K mg base 1 "has_word_signs" ["text"] (spSigns T0)) (hl8 : ∃ t, mg "LONGEST_WORD" = some (.int 8 t)) : Cal P w K mg base 2 "is_word" ["thing"] (spTest K T0 isWordD) := by
  have CL : Cal P w K mg base 1 "_has_word_length" ["thing"] (spTest K T0 lenOkD) := c_has_len T hl8
  refine T.is_word.ok scIsWord (fun vs H Q E h => ?_) (fun f cdv A outer s H vs Q E hr h => ?_)
  · obtain ⟨v, d, rfl, _⟩ := h
    rfl
  obtain ⟨v, d, rfl, hd, ok, tb, q⟩ := h
  refine ⟨_, pss_one (ps_ret (pe_and (pe_cal CL hr (pa_cons (pv 0) pa_nil)) (pe_one (pe_cal CS hr (pa_cons (pv 0) pa_nil))))), ?_⟩
  refine ⟨_, rfl, v, d, rfl, hd, ok, tb, fun H1 f1 => ⟨_, rfl, ?_⟩⟩
  cases h1 : lenOkD d with
  | false =>
    have e : isWordD d = false := by
      cases d with
      | str z =>
        show decide (Word z) = false
        rw [word_iff, show (decide (1 ≤ z.length) && decide (z.length ≤ 8)) = false from h1, Bool.false_and]
      | _ => rfl
    have fin := q H1 f1
    rw [e] at fin
    exact iteF fin
  | true =>
    cases hd with
    | str z =>
      refine iteT ⟨_, rfl, z, rfl, f1.tab, fun H2 f2 => ?_⟩
      have fin := q H2 (f1.trans f2)
      have e : isWordD (.str z) = z.cps.toList.all fun c => decide (97 ≤ c) && decide (c ≤ 122) := by
        show decide (Word z) = _
        rw [word_iff, show (decide (1 ≤ z.length) && decide (z.length ≤ 8)) = true from h1, Bool.true_and]
      rw [e] at fin
      exact fin
    | non => cases h1
    | bl _ => cases h1
    | int _ => cases h1
    | lst _ _ => cases h1
    | tup _ _ => cases h1
theorem c_is_letter {c Pa : Addr} (T : Tx K mg) (D : DefT K mg "is_letter" sIsLetter ["thing"] c) (TB : GxR.TabB base mg c Pa) (hP : Pa ∈ T0) (hl8 : ∃ t, mg "LONGEST_WORD" = some (.int 8 t)) : Cal P w K mg base 2 "is_letter" ["thing"] (spTest K T0 isLettD) := by
  have CL : Cal P w K mg base 1 "_has_word_length" ["thing"] (spTest K T0 lenOkD) := c_has_len T hl8
  refine D.ok scIsLetter (fun vs H Q E h => ?_) (fun f A outer s H vs Q E hr h => ?_)
  · obtain ⟨v, d, rfl, _⟩ := h
    rfl
  obtain ⟨v, d, rfl, hd, ok, tb, q⟩ := h
  refine ⟨_, pss_one (ps_ret (pe_and (pe_cal CL hr (pa_cons (pv 0) pa_nil)) (pe_one (GxR.pe_allS hr (by rfl) T.m_all (by decide +kernel) TB (by rfl) (gen_by (by decide +kernel)) (pv 0) (elt_between (a := 65) (b := 90) (by rfl) (by rfl)) (fun _ => rfl))))), ?_⟩
  refine ⟨_, rfl, v, d, rfl, hd, ok, tb, fun H1 f1 => ⟨_, rfl, ?_⟩⟩
  cases h1 : lenOkD d with
  | false =>
    have e : isLettD d = false := by
      cases d with
      | str z =>
        show decide (Lett z) = false
        rw [lett_iff, show (decide (1 ≤ z.length) && decide (z.length ≤ 8)) = false from h1, Bool.false_and]
      | _ => rfl
    have fin := q H1 f1
    rw [e] at fin
    exact iteF fin
  | true =>
    cases hd with
    | str z =>
      obtain ⟨ps, g, tr⟩ := f1.tab Pa hP
      refine iteT ⟨_, rfl, z, rfl, ⟨ps, g, tr⟩, fun H2 t2 => ?_⟩
      have fin := q H2 (f1.trans (Fr.tabbed f1.tab t2 hP))
      have e : isLettD (.str z) = z.cps.toList.all fun c => decide (65 ≤ c) && decide (c ≤ 90) := by
        show decide (Lett z) = _
        rw [lett_iff, show (decide (1 ≤ z.length) && decide (z.length ≤ 8)) = true from h1, Bool.true_and]
      rw [e] at fin
      exact fin
    | non => cases h1
    | bl _ => cases h1
    | int _ => cases h1
    | lst _ _ => cases h1
    | tup _ _ => cases h1
end
end Sc
namespace Sc
open PySem PyProof.Rows L2
section
variable {P : Program} {w : World} {K : PySem.W.Frag} {mg : Str → Option Value} {base : Heap} {T0 : List Addr}
theorem scAreFields : FnScope ["thing", "pair", "fields"] ["thing"] (defScope sAreFields) := ⟨rfl, rfl, rfl, by decide +kernel, rfl, by decide +kernel, by decide +kernel⟩
theorem c_are_fields (T : Tx K mg) : Cal P w K mg base 1 "are_fields" ["thing"] (spTest K T0 fldD) := by
  refine T.are_fields.ok scAreFields (fun vs H Q E h => ?_) (fun f cdv A outer s H vs Q E hr h => ?_)
  · obtain ⟨v, d, rfl, _⟩ := h
    rfl
  obtain ⟨v, d, rfl, hd, ok, tb, q⟩ := h
  have hu := hr.units
  refine ⟨_, pss_cons (ps_if (PW.pt (pw_or (pt_not (pt_val (pe_callB call_isi (by rfl) T.m_isinstance boot_isinstance (pa_cons (pv 0) (pa_cons (pe_bltn (v := .ty "tuple") (by rfl) T.m_tuple boot_tuple rfl) pa_nil)))))
        (pw_or1 (pt_cmpR op_eq (pe_callB call_len_seq (by rfl) T.m_len PySem.boot_len (pa_cons (pv 0) pa_nil)) pe_int (nomark _))))) (pss_one (ps_ret pe_bl)) pss_nil)
    (pss_cons (ps_for PassesOwn.never rfl (pi_tup (pv 0)) (pg_name (i := 1) scAreFields.nd rfl (Or.inl rfl))
      (pss_one (ps_if (PW.pt (pw_or (pt_not (pt_val (pe_callB call_isi (by rfl) T.m_isinstance boot_isinstance (pa_cons (pv 1) (pa_cons (pe_bltn (v := .ty "tuple") (by rfl) T.m_tuple boot_tuple rfl) pa_nil)))))
        (pw_or (pt_cmpR op_ne (pe_callB call_len_seq (by rfl) T.m_len PySem.boot_len (pa_cons (pv 1) pa_nil)) pe_int (nomark _))
        (pw_or1 (pt_not (pt_val (pe_callB call_isi (by rfl) T.m_isinstance boot_isinstance (pa_cons (pe_ix ix_tup (pv 1) pe_int (fun _ _ => rfl)) (pa_cons (pe_bltn (v := .ty "str") (by rfl) T.m_str boot_str rfl) pa_nil)))))))))
        (pss_one (ps_ret pe_bl)) pss_nil)))
    (pss_cons (ps_setLc (i := 2) (own := [("pair", 1)]) (g := gName 1) (tt := tYes) rfl scAreFields.nd rfl rfl (sw_true rfl rfl rfl (by decide +kernel)) (pi_tup (pv 0)) (blkOk_by (N := ["thing", "pair", "fields"]) (sc := defScope sAreFields) (by decide +kernel))
        (fun _ _ _ _ _ => pg_name (i := 1) scAreFields.nd rfl (Or.inl rfl)) (fun _ _ _ _ _ => pts_nil) (fun _ _ _ _ _ => pe_ix (ix_tupK K) (pv 1) pe_int (fun _ _ => rfl)))
    (pss_one (ps_ret (pe_cmpR (op_eqD hu) (pv 2) (pe_callB (cr_txSorted rfl) (by rfl) T.m_sorted (by decide +kernel) (pa_cons (pe_callTy (cr_txSet rfl) (by rfl) T.m_set (by decide +kernel) (pa_cons (pv 2) pa_nil)) pa_nil)) (nomark _)))))), ?_⟩
  dsimp only [gName]
  have neg : fldD d = false → Q (.bl false) H := fun e => by
    have fin := q H (Fr.refl tb)
    rw [e] at fin
    exact fin
  show tOr _ _ _ _ _
  have ty := Dp.ty hd
  have it := isTup hd
  have dp := hd
  cases hd with
  | tup ht hds =>
    rename_i a vs ds
    obtain ⟨len, okx⟩ := ok.sub
    have lv := DpAll.len hds
    refine or_pure false (decide (vs.length = 0)) (fun R h => ⟨_, rfl, _, _, _, _, _, rfl, .ty _, ty, kit_ty it, _, rfl, h⟩) (fun _ R h => ⟨_, rfl, a, vs, rfl, .inr ht, rfl, _, rfl, ?_⟩) (fun h => ?_) (fun _ h => ?_)
    · rw [eqV_int, decide_eq_decide.mpr (show ((vs.length : Nat) : Int) = 0 ↔ vs.length = 0 by omega)]
      exact h
    · have z : vs.length = 0 := of_decide_eq_true (h.elim (fun z => by cases z) id)
      have z2 : ds = [] := List.length_eq_zero_iff.mp (lv.symm.trans z)
      exact neg (by rw [z2]; rfl)
    have n0 : vs.length ≠ 0 := of_decide_eq_false h
    have d0 : ds ≠ [] := fun z => n0 (by rw [lv, z]; rfl)
    refine ⟨_, rfl, a, rfl, ⟨_, ht⟩, ?_⟩
    refine for_tup (K := K) (a := a) (xs := vs) (fun j σ2 H2 => H2 = H ∧ (∃ o, σ2 = [some (.ref a), o, none]) ∧ (ds.take j).all pairD = true) ⟨rfl, ⟨_, rfl⟩, rfl⟩ (fun j σ2 H2 _ h => by rw [h.1]; exact ht) ?_ ?_
    · rintro j x σ2 H2 hx ⟨rfl, ⟨o, rfl⟩, hp⟩
      obtain ⟨d, hd1, hd2⟩ := DpAll.get hds hx
      have md := List.mem_of_getElem? hd1
      have negd : pairD d = false → Q (.bl false) H2 := fun e => neg (by
        have z : ds.all pairD = false := Bool.eq_false_iff.mpr fun z => by
          have := List.all_eq_true.mp z d md
          rw [e] at this
          cases this
        show (!ds.isEmpty && ds.all pairD && _) = false
        rw [z, Bool.and_false, Bool.false_and])
      dsimp only [gName]
      show tOr _ _ _ _ _
      have ty := Dp.ty hd2
      have it := isTup hd2
      have next : pairD d = true → H2 = H2 ∧ (∃ o, (([some (.ref a), o, none] : L2.St).set 1 (some x)) = [some (.ref a), o, none]) ∧ (ds.take (j + 1)).all pairD = true := fun e =>
        ⟨rfl, ⟨_, rfl⟩, by rw [List.take_add_one, hd1, List.all_append, hp]; simp [e]⟩
      cases hd2 with
      | tup ht2 hds2 =>
        rename_i a2 vs2 ds2
        have lv2 := DpAll.len hds2
        refine or_pure false (!pairD (.tuple ds2)) (fun R h => ⟨_, rfl, _, _, _, _, _, rfl, .ty _, ty, kit_ty it, _, rfl, h⟩) (fun _ R hR => ?_) (fun h => ?_) (fun _ h => ?_)
        · show tOr _ _ _ _ _
          refine or_pure (decide (¬ vs2.length = 2)) (!pairD (.tuple ds2)) (fun R h => ⟨_, rfl, a2, vs2, rfl, .inr ht2, rfl, _, rfl, ?_⟩) (fun e R h => ?_) (fun h => ?_) (fun _ h => ?_)
          · rw [eqV_int, decide_eq_decide.mpr (show ((vs2.length : Nat) : Int) = 2 ↔ vs2.length = 2 by omega), ← decide_not]
            exact h
          · have two : vs2.length = 2 := Classical.byContradiction fun z => by rw [decide_eq_true z] at e; cases e
            obtain ⟨x1, x2, d1, d2, rfl, rfl, h1, h2⟩ := two_open hds2 two
            rw [pair_two] at h
            exact ⟨_, rfl, a2, _, _, _, rfl, rfl, ht2, rfl, _, _, _, _, _, rfl, .ty _, Dp.ty h1, kit_ty (isStr h1), _, rfl, h⟩
          · have e5 : pairD (.tuple ds2) = false := h.elim (fun z => pair_len (by rw [← lv2]; exact of_decide_eq_true z)) (fun z => by simpa using z)
            rw [e5] at hR
            exact hR
          · rw [h] at hR
            exact hR
        · exact negd (by simpa using h.elim (fun z => by cases z) id)
        · exact next (by simpa using h)
      | str _ => exact or_pure true true (fun R h => ⟨_, rfl, _, _, _, _, _, rfl, .ty _, ty, kit_ty it, _, rfl, h⟩) (fun h => by cases h) (fun _ => negd rfl) (fun h => by cases h)
      | non => exact or_pure true true (fun R h => ⟨_, rfl, _, _, _, _, _, rfl, .ty _, ty, kit_ty it, _, rfl, h⟩) (fun h => by cases h) (fun _ => negd rfl) (fun h => by cases h)
      | bl b => exact or_pure true true (fun R h => ⟨_, rfl, _, _, _, _, _, rfl, .ty _, ty, kit_ty it, _, rfl, h⟩) (fun h => by cases h) (fun _ => negd rfl) (fun h => by cases h)
      | int b => exact or_pure true true (fun R h => ⟨_, rfl, _, _, _, _, _, rfl, .ty _, ty, kit_ty it, _, rfl, h⟩) (fun h => by cases h) (fun _ => negd rfl) (fun h => by cases h)
      | lst _ _ => exact or_pure true true (fun R h => ⟨_, rfl, _, _, _, _, _, rfl, .ty _, ty, kit_ty it, _, rfl, h⟩) (fun h => by cases h) (fun _ => negd rfl) (fun h => by cases h)
    · rintro σ2 H2 ⟨rfl, ⟨o, rfl⟩, hp⟩
      rw [lv, List.take_length] at hp
      have fields : ∀ {j : Nat} {x : V}, vs[j]? = some x → ∃ (a2 : Addr) (x1 x2 : V) (d2 : PyData) (z : Str), x = .ref a2 ∧ SqT K H2 a2 [x1, x2] ∧ x1 = .str z ∧ ds[j]? = some (.tuple [.str z, d2]) ∧ (ds.map nameD)[j]? = some z := fun {j x} hx => by
        obtain ⟨d, hd1, hd2⟩ := DpAll.get hds hx
        have pd := List.all_eq_true.mp hp d (List.mem_of_getElem? hd1)
        cases hd2 with
        | tup ht2 hds2 =>
          rename_i a2 vs2 ds2
          have two : vs2.length = 2 := Classical.byContradiction fun z => by rw [pair_len (by rw [← DpAll.len hds2]; exact z)] at pd; cases pd
          obtain ⟨x1, x2, d1, d2, rfl, rfl, h1, h2⟩ := two_open hds2 two
          cases h1 with
          | str z => exact ⟨a2, _, _, d2, z, rfl, ht2, rfl, hd1, by rw [List.getElem?_map, hd1]; rfl⟩
          | non => cases pd
          | bl _ => cases pd
          | int _ => cases pd
          | lst _ _ => cases pd
          | tup _ _ => cases pd
        | str _ => cases pd
        | non => cases pd
        | bl _ => cases pd
        | int _ => cases pd
        | lst _ _ => cases pd
      refine ⟨_, rfl, a, rfl, ⟨_, ht⟩, fun D hD => ?_⟩
      refine lc_tup (K := K) (a := a) (xs := vs) (fun j H3 => Same H2 H3 ∧ H3 D = some (.lst (((ds.map nameD).take j).map V.str))) ⟨same_new hD _, upd_same⟩ (fun j H3 _ h => (Same.keep h.1) _ _ ht) ?_ ?_
      · rintro j x H3 hx ⟨e3, h3⟩
        obtain ⟨a2, x1, x2, d2, z, rfl, ht2, rfl, hd1, hz⟩ := fields hx
        refine ⟨rfl, _, rfl, a2, _, _, _, rfl, rfl, (Same.keep e3) _ _ ht2, rfl, _, h3, ?_, fun b o hb => ?_, ?_⟩
        · rw [List.length_map]
          exact small1000 (Nat.le_trans (List.length_take_le' _ _) (by rw [List.length_map]; omega))
        · rw [upd_ne (ne_of_none hb hD)]
          exact e3 b o hb
        · rw [upd_same, List.take_add_one, hz, List.map_append]
          rfl
      rintro H3 ⟨e3, h3⟩
      rw [lv, List.take_of_length_le (by rw [List.length_map]; exact Nat.le_refl _)] at h3
      have zl : (ds.map nameD).length ≤ 60 := by rw [List.length_map]; exact len
      have zk : ∀ z ∈ ds.map nameD, PyData.canLay0 (.str z) = true := fun z hz => by
        obtain ⟨d, md, rfl⟩ := List.mem_map.mp hz
        have pd := List.all_eq_true.mp hp d md
        have l := SeqAt.canLay_of_shaped (okx d md).1
        match d, pd, l with
        | .tuple [.str y, e], _, l =>
          have l' : (PyData.canLay0 (.str y) && PyData.canLayAll0 [e]) = true := l
          exact (Bool.and_eq_true_iff.mp l').1
      have res : fldD (.tuple ds) = ascB (ds.map nameD) := by
        show (!ds.isEmpty && ds.all pairD && ascB (ds.map nameD)) = _
        rw [hp, show ds.isEmpty = false from by cases ds with | nil => exact absurd rfl d0 | cons _ _ => rfl]
        rfl
      generalize ds.map nameD = zs at h3 zl zk res
      refine ⟨_, rfl, _, rfl, D, zs, rfl, SqL.of h3, by omega, fun t m ht0 hm => ⟨t, _, m, rfl, upd_same, by omega, fun ys p so nd mem ln hp0 => ?_⟩⟩
      have mem' : ∀ x, x ∈ ys ↔ x ∈ zs := fun x => (mem x).trans decide_eq_true_iff
      generalize TxO _ t (fun y => decide (y ∈ zs)) m = o3 at hp0 ⊢
      have e5 := (same_new ht0 o3).trans (same_new hp0 (.lst (ys.map V.str)))
      refine ⟨.list (zs.map .str), .list (ys.map .str), .lst (SqL.of (e5 _ _ h3)) (dp_strs zs), .lst (SqL.of upd_same) (dp_strs ys), shaped_strs zk, shaped_strs fun z hz => zk z ((mem' z).mp hz), ?_⟩
      have fin := q _ ((Fr.same tb e3).trans (Fr.same (Fr.same tb e3).tab e5))
      rw [res, ← asc_eq so nd mem', ← eqv_strs] at fin
      exact fin
  | str _ => exact or_pure true true (fun R h => ⟨_, rfl, _, _, _, _, _, rfl, .ty _, ty, kit_ty it, _, rfl, h⟩) (fun h => by cases h) (fun _ => neg rfl) (fun h => by cases h)
  | non => exact or_pure true true (fun R h => ⟨_, rfl, _, _, _, _, _, rfl, .ty _, ty, kit_ty it, _, rfl, h⟩) (fun h => by cases h) (fun _ => neg rfl) (fun h => by cases h)
  | bl b => exact or_pure true true (fun R h => ⟨_, rfl, _, _, _, _, _, rfl, .ty _, ty, kit_ty it, _, rfl, h⟩) (fun h => by cases h) (fun _ => neg rfl) (fun h => by cases h)
  | int b => exact or_pure true true (fun R h => ⟨_, rfl, _, _, _, _, _, rfl, .ty _, ty, kit_ty it, _, rfl, h⟩) (fun h => by cases h) (fun _ => neg rfl) (fun h => by cases h)
  | lst _ _ => exact or_pure true true (fun R h => ⟨_, rfl, _, _, _, _, _, rfl, .ty _, ty, kit_ty it, _, rfl, h⟩) (fun h => by cases h) (fun _ => neg rfl) (fun h => by cases h)
end
end Sc
namespace Sc
open PySem PyProof.Rows L2
theorem len_app (x y : Str) : (x ++ y).length = x.length + y.length := by rw [len_list, len_list x, len_list y, app_list, List.length_append]
section
variable {P : Program} {w : World} {K : PySem.W.Frag} {mg : Str → Option Value} {base : Heap} {T0 : List Addr} {CB : Addr}
theorem scNeedLetter : FnScope ["letter", "letters"] ["letter", "letters"] (defScope sPNeedLetter) := ⟨rfl, rfl, rfl, by decide +kernel, rfl, by decide +kernel, by decide +kernel⟩
theorem c_need_letter (T : Tx K mg) (B : Ec K mg "BadKind" CB) (CL : Cal P w K mg base 2 "is_letter" ["thing"] (spTest K T0 isLettD)) (hl8 : ∃ t, mg "LONGEST_WORD" = some (.int 8 t)) : CalX P w K mg base 3 "_need_letter" ["letter", "letters"] (spNeed K T0 CB [] letD) := by
  refine T.p_need_letter.okX scNeedLetter (fun vs H Q E h => ?_) (fun f cdv A outer s H vs Q E hr h => ?_)
  · obtain ⟨ls, v, d, la, rfl, _⟩ := h
    rfl
  obtain ⟨ls, v, d, la, rfl, hd, ok, tb, hla, q1, q2⟩ := h
  obtain ⟨t8, m8⟩ := hl8
  refine ⟨_, pss_cons (ps_if (pt_not (pt_val (pe_cal CL hr (pa_cons (pv 0) pa_nil))))
      (pss_one (ps_raise rfl (takes_of rfl rfl rfl rfl) (SkE.pmk_own1 PySem.F.excBase_ValueError B.q B.g B.k (raises_own B.b B.t) (by exact rfl) (pe_fs (.cons pe_str (.cons (pe_fmt (pe_glob (v := .int 8) (by rfl) m8 ⟨_, rfl⟩)) (.cons pe_str .nil))))))) pss_nil)
    (pss_one (ps_if (pt_cmpR op_notIn_seq (pv 0) (pv 1) (by rfl))
      (pss_one (ps_raise rfl (takes_of rfl rfl rfl rfl) (SkE.pmk_own1 PySem.F.excBase_ValueError B.q B.g B.k (raises_own B.b B.t) (by exact rfl) (pe_fs (.cons pe_str (.cons (pe_fmt (pv 0)) (.cons pe_str .nil))))))) pss_nil)), ?_⟩
  refine ⟨_, rfl, v, d, rfl, hd, ok, tb, fun H1 f1 => ⟨_, rfl, ?_⟩⟩
  cases h1 : isLettD d with
  | false =>
    refine ⟨_, rfl, by decide +kernel, .inr ⟨8, rfl, by decide, _, rfl, by decide +kernel, _, rfl, by decide +kernel, ?_⟩⟩
    exact q2 (by cases d with | str z => show (isLettD (.str z) && _) = false; rw [h1]; rfl | _ => rfl) H1 f1
  | true =>
    cases hd with
    | str z =>
      have hla1 := (Fr.keep tb f1).2 _ _ hla
      refine ⟨_, rfl, _, rfl, la, _, rfl, .inr hla1, rfl, flat_strs ls, ?_⟩
      rw [in_strs]
      have z8 : z.length ≤ 8 := (of_decide_eq_true (show decide (Lett z) = true from h1)).2.1
      have e : letD ls (.str z) = decide (z ∈ ls) := by show (isLettD (.str z) && decide (z ∈ ls)) = _; rw [h1, Bool.true_and]
      cases h2 : decide (z ∈ ls) with
      | true =>
        exact ⟨_, rfl, q1 (by rw [e, h2]) H1 f1⟩
      | false =>
        refine ⟨_, rfl, _, rfl, by decide +kernel, _, rfl, .inl ⟨z, rfl, sizeOk (by omega), _, rfl, ?_, _, rfl, ?_, ?_⟩⟩
        · rw [len_app]
          have : (Str.empty ++ "the letter " : Str).length ≤ 100 := by decide +kernel
          exact sizeOk (by omega)
        · rw [len_app, len_app]
          have : (Str.empty ++ "the letter " : Str).length ≤ 100 := by decide +kernel
          have : (" is not among the told ones" : Str).length ≤ 100 := by decide +kernel
          exact sizeOk (by omega)
        · exact q2 (by rw [e, h2]) H1 f1
    | non => cases h1
    | bl _ => cases h1
    | int _ => cases h1
    | lst _ _ => cases h1
    | tup _ _ => cases h1
end
end Sc
namespace Sc
open PySem PyProof.Rows L2
section
variable {P : Program} {w : World} {K : PySem.W.Frag} {mg : Str → Option Value} {base : Heap} {T0 : List Addr} {CB : Addr}
theorem scNeedFields : FnScope ["fields", "letters", "room", "field", "kind"] ["fields", "letters", "room"] (defScope sPNeedFields) := ⟨rfl, rfl, rfl, by decide +kernel, rfl, by decide +kernel, by decide +kernel⟩
theorem c_need_fields {lv : Nat} {r : Int} {g : List Str → PyData → Bool} (T : Tx K mg) (B : Ec K mg "BadKind" CB) (lv2 : 2 ≤ lv) (CW : Cal P w K mg base 2 "is_word" ["thing"] (spTest K T0 isWordD)) (CF : Cal P w K mg base 1 "are_fields" ["thing"] (spTest K T0 fldD))
    (CK : CalX P w K mg base lv "_need_kind_within" ["kind", "letters", "room"] (spNeed K T0 CB [.int r] g)) (hl8 : ∃ t, mg "LONGEST_WORD" = some (.int 8 t)) :
    CalX P w K mg base (lv + 1) "need_fields_kinds" ["fields", "letters", "room"] (spNeed K T0 CB [.int r] (fun ls => gFl (g ls))) := by
  refine T.p_need_fields.okX scNeedFields (fun vs H Q E h => ?_) (fun f cdv A outer s H vs Q E hr h => ?_)
  · obtain ⟨ls, v, d, la, rfl, _⟩ := h
    rfl
  obtain ⟨ls, v, d, la, rfl, hd, ok, tb, hla, q1, q2⟩ := h
  dsimp only at q1 q2
  obtain ⟨t8, m8⟩ := hl8
  have r1 : Room 1 _ := hr.mono (by omega)
  have r2 : Room 2 _ := hr.mono lv2
  refine ⟨_, pss_cons (ps_if (pt_not (pt_val (pe_cal CF r1 (pa_cons (pv 0) pa_nil))))
      (pss_one (ps_raise rfl (takes_of rfl rfl rfl rfl) (pmk_own PySem.F.excBase_ValueError B.q B.g B.k (raises_own B.b B.t) (by exact rfl)))) pss_nil)
    (pss_one (ps_for (passes_of rfl) rfl (pi_tup (pv 0)) (pg_tup (by rfl) (pgs_cons (pg_name (i := 3) scNeedFields.nd rfl (Or.inl rfl)) (pgs_cons (pg_name (i := 4) scNeedFields.nd rfl (Or.inl rfl)) pgs_nil)))
      (pss_cons (ps_if (pt_not (pt_val (pe_cal CW r2 (pa_cons (pv 3) pa_nil))))
        (pss_one (ps_raise rfl (takes_of rfl rfl rfl rfl) (SkE.pmk_own1 PySem.F.excBase_ValueError B.q B.g B.k (raises_own B.b B.t) (by exact rfl) (pe_fs (.cons pe_str (.cons (pe_fmt (pe_glob (v := .int 8) (by rfl) m8 ⟨_, rfl⟩)) (.cons pe_str .nil))))))) pss_nil)
      (pss_one (ps_expr (pe_calX CK hr (passes_call (takes_of rfl rfl rfl rfl) (fun _ _ _ _ h => h)) (pa_cons (pv 4) (pa_cons (pv 1) (pa_cons (pv 2) pa_nil))))))))), ?_⟩
  refine ⟨_, rfl, v, d, rfl, hd, ok, tb, fun H1 f1 => ⟨_, rfl, ?_⟩⟩
  cases h1 : fldD d with
  | false => exact q2 (by cases d with | tuple ds => show (fldD (.tuple ds) && _) = false; rw [h1]; rfl | _ => rfl) H1 f1
  | true =>
    cases hd with
    | tup ht hds =>
      rename_i a vs ds
      obtain ⟨len, okx⟩ := ok.sub
      have lv0 := DpAll.len hds
      have hp : ds.all pairD = true := by
        have h' : (!ds.isEmpty && ds.all pairD && ascB (ds.map nameD)) = true := h1
        rw [Bool.and_eq_true, Bool.and_eq_true] at h'
        exact h'.1.2
      have eg : gFl (g ls) (.tuple ds) = ds.all (gPr (g ls)) := by show (fldD (.tuple ds) && ds.all (gPr (g ls))) = _; rw [h1, Bool.true_and]
      refine ⟨_, rfl, a, rfl, ⟨_, (Fr.keep tb f1).2 _ _ ht⟩, ?_⟩
      refine for_tup (K := K) (a := a) (xs := vs) (fun j σ2 H2 => Fr T0 H H2 ∧ (∃ o1 o2, σ2 = [some (.ref a), some (.ref la), some (.int r), o1, o2]) ∧ (ds.take j).all (gPr (g ls)) = true) ⟨f1, ⟨_, _, rfl⟩, rfl⟩ (fun j σ2 H2 _ h => (Fr.keep tb h.1).2 _ _ ht) ?_ ?_
      · rintro j x σ2 H2 hx ⟨f2, ⟨o1, o2, rfl⟩, hq⟩
        obtain ⟨d, hd1, hd2⟩ := DpAll.get hds hx
        have md := List.mem_of_getElem? hd1
        have pd := List.all_eq_true.mp hp d md
        have okd := okx d md
        have bad : gPr (g ls) d = false → ∀ H' : Hp, Fr T0 H H' → E (.ref CB) none H' := fun e => q2 (by
          rw [eg]
          refine Bool.eq_false_iff.mpr fun z => ?_
          have := List.all_eq_true.mp z d md
          rw [e] at this
          cases this)
        have good : gPr (g ls) d = true → (ds.take (j + 1)).all (gPr (g ls)) = true := fun e => by rw [List.take_add_one, hd1, List.all_append, hq]; simp [e]
        cases hd2 with
        | tup ht2 hds2 =>
          rename_i a2 vs2 ds2
          have two : vs2.length = 2 := Classical.byContradiction fun z => by rw [pair_len (by rw [← DpAll.len hds2]; exact z)] at pd; cases pd
          obtain ⟨x1, x2, d1, d2, rfl, rfl, h3, h4⟩ := two_open hds2 two
          have ok1 := okd.sub.2 d1 List.mem_cons_self
          have ok2 := okd.sub.2 d2 (List.mem_cons_of_mem _ List.mem_cons_self)
          refine ⟨a2, _, rfl, (Fr.keep tb f2).2 _ _ ht2, rfl, ?_⟩
          refine ⟨_, _, rfl, _, _, rfl, rfl, ?_⟩
          refine ⟨_, rfl, x1, d1, rfl, KeepL.dp (Fr.keep tb f2) h3, ok1, f2.tab, fun H3 f3 => ⟨_, rfl, ?_⟩⟩
          have f03 := f2.trans f3
          cases h5 : isWordD d1 with
          | false =>
            refine ⟨_, rfl, by decide +kernel, .inr ⟨8, rfl, by decide, _, rfl, by decide +kernel, _, rfl, by decide +kernel, ?_⟩⟩
            exact bad (by show (isWordD d1 && g ls d2) = false; rw [h5]; rfl) H3 f03
          | true =>
            refine ⟨_, rfl, _, rfl, _, rfl, ls, x2, d2, la, rfl, KeepL.dp (Fr.keep tb f03) h4, ok2, f03.tab, (Fr.keep tb f03).2 _ _ hla, fun e H4 f4 => ?_, fun e H4 f4 => ?_⟩
            · exact ⟨f03.trans f4, ⟨_, _, rfl⟩, good (by show (isWordD d1 && g ls d2) = true; rw [h5, e]; rfl)⟩
            · exact bad (by show (isWordD d1 && g ls d2) = false; rw [e, Bool.and_false]) H4 (f03.trans f4)
        | str _ => cases pd
        | non => cases pd
        | bl _ => cases pd
        | int _ => cases pd
        | lst _ _ => cases pd
      · rintro σ2 H2 ⟨f2, ⟨o1, o2, rfl⟩, hq⟩
        rw [lv0, List.take_length] at hq
        exact q1 (by rw [eg, hq]) H2 f2
    | str _ => cases h1
    | non => cases h1
    | bl _ => cases h1
    | int _ => cases h1
    | lst _ _ => cases h1
end
end Sc
namespace Sc
open PySem PyProof.Rows L2
theorem eqv_one (d : PyData) (w : Str) : PyData.eqv d (.tuple [.str w]) = true ↔ d = .tuple [.str w] := by
  constructor
  · intro h
    match d, h with
    | .tuple [.str z], h =>
      have h' : ((z == w) && true) = true := by simpa [PyData.eqv, PyData.eqvAll] using h
      rw [Bool.and_true, beq_iff_eq] at h'
      rw [h']
    | .tuple [], h => simp [PyData.eqv, PyData.eqvAll] at h
    | .tuple (_ :: _ :: _), h => simp [PyData.eqv, PyData.eqvAll] at h
    | .tuple [.none], h => simp [PyData.eqv, PyData.eqvAll] at h
    | .tuple [.bool _], h => simp [PyData.eqv, PyData.eqvAll] at h
    | .tuple [.int _], h => simp [PyData.eqv, PyData.eqvAll] at h
    | .tuple [.list _], h => simp [PyData.eqv, PyData.eqvAll] at h
    | .tuple [.tuple _], h => simp [PyData.eqv, PyData.eqvAll] at h
    | .tuple [.dict _], h => simp [PyData.eqv, PyData.eqvAll] at h
    | .none, h => simp [PyData.eqv] at h
    | .bool _, h => simp [PyData.eqv] at h
    | .int _, h => simp [PyData.eqv] at h
    | .str _, h => simp [PyData.eqv] at h
    | .list _, h => simp [PyData.eqv] at h
    | .dict _, h => simp [PyData.eqv] at h
  · rintro rfl
    simp [PyData.eqv, PyData.eqvAll]
theorem eqv_word (d : PyData) (w : Str) : PyData.eqv d (.str w) = true ↔ d = .str w := by
  cases d <;> simp [PyData.eqv]
theorem gCh_len {ls : List Str} {g : PyData → Bool} : ∀ {ds : List PyData}, ds.length ≠ 2 → PyData.tuple ds ≠ .tuple [.str "number"] → PyData.tuple ds ≠ .tuple [.str "text"] → gCh ls g (.tuple ds) = false
  | [], _, _, _ => rfl
  | [.str w], _, n1, n2 => by
    show (w == "number" || w == "text") = false
    rw [Bool.or_eq_false_iff, beq_eq_false_iff_ne, beq_eq_false_iff_ne]
    exact ⟨fun z => n1 (by rw [z]), fun z => n2 (by rw [z])⟩
  | [.none], _, _, _ => rfl
  | [.bool _], _, _, _ => rfl
  | [.int _], _, _, _ => rfl
  | [.list _], _, _, _ => rfl
  | [.tuple _], _, _, _ => rfl
  | [.dict _], _, _, _ => rfl
  | [_, _], e, _, _ => absurd rfl e
  | u :: _ :: _ :: _, _, _, _ => by cases u <;> rfl
theorem gCh_two {ls : List Str} {g : PyData → Bool} (w : Str) (t : PyData) : gCh ls g (.tuple [.str w, t]) = if w = "row" ∨ w = "book" then g t else if w = "shape" then gFl g t else if w = "letter" then letD ls t else false := rfl
theorem gCh_ns {ls : List Str} {g : PyData → Bool} {d1 d2 : PyData} (h : isStrB d1 = false) : gCh ls g (.tuple [d1, d2]) = false := by
  cases d1 with
  | str _ => cases h
  | _ => rfl
section
variable {P : Program} {w : World} {K : PySem.W.Frag} {mg : Str → Option Value} {base : Heap} {T0 : List Addr} {CB : Addr}
theorem scNeedChoice : FnScope ["choice", "letters", "room", "word", "told"] ["choice", "letters", "room"] (defScope sPNeedChoice) := ⟨rfl, rfl, rfl, by decide +kernel, rfl, by decide +kernel, by decide +kernel⟩
theorem c_need_choice {lv : Nat} {r : Int} {g : List Str → PyData → Bool} (T : Tx K mg) (B : Ec K mg "BadKind" CB) (lv2 : 3 ≤ lv)
    (CK : CalX P w K mg base lv "_need_kind_within" ["kind", "letters", "room"] (spNeed K T0 CB [.int (r - 1)] g)) (CF : CalX P w K mg base lv "need_fields_kinds" ["fields", "letters", "room"] (spNeed K T0 CB [.int (r - 1)] (fun ls => gFl (g ls))))
    (CL : CalX P w K mg base 3 "_need_letter" ["letter", "letters"] (spNeed K T0 CB [] letD)) :
    CalX P w K mg base (lv + 1) "_need_choice" ["choice", "letters", "room"] (spNeed K T0 CB [.int r] (fun ls => gCh ls (g ls))) := by
  refine T.p_need_choice.okX scNeedChoice (fun vs H Q E h => ?_) (fun f cdv A outer s H vs Q E hr h => ?_)
  · obtain ⟨ls, v, d, la, rfl, _⟩ := h
    rfl
  obtain ⟨ls, v, d, la, rfl, hd, ok, tb, hla, q1, q2⟩ := h
  dsimp only at q1 q2
  have r3 : Room 3 _ := hr.mono lv2
  have hu := hr.units
  refine ⟨_, pss_cons (ps_if (PW.pt (pw_or (pt_cmpR (op_eqD hu) (pv 0) (pe_tup (pa_cons pe_str pa_nil)) (nomark _)) (pw_or1 (pt_cmpR (op_eqD hu) (pv 0) (pe_tup (pa_cons pe_str pa_nil)) (nomark _)))))
      (pss_one ps_retN) pss_nil)
    (pss_cons (ps_if (PW.pt (pw_or (pt_not (pt_val (pe_callB call_isi (by rfl) T.m_isinstance boot_isinstance (pa_cons (pv 0) (pa_cons (pe_bltn (v := .ty "tuple") (by rfl) T.m_tuple boot_tuple rfl) pa_nil)))))
        (pw_or1 (pt_cmpR op_ne (pe_callB call_len_seq (by rfl) T.m_len PySem.boot_len (pa_cons (pv 0) pa_nil)) pe_int (nomark _)))))
      (pss_one (ps_raise rfl (takes_of rfl rfl rfl rfl) (pmk_own PySem.F.excBase_ValueError B.q B.g B.k (raises_own B.b B.t) (by exact rfl)))) pss_nil)
    (pss_cons (ps_asg (pv 0) (pg_tup (by rfl) (pgs_cons (pg_name (i := 3) scNeedChoice.nd rfl (Or.inl rfl)) (pgs_cons (pg_name (i := 4) scNeedChoice.nd rfl (Or.inl rfl)) pgs_nil))))
    (pss_one (ps_if (PW.pt (pw_or (pt_cmpR (op_eqD hu) (pv 3) pe_str (nomark _)) (pw_or1 (pt_cmpR (op_eqD hu) (pv 3) pe_str (nomark _)))))
      (pss_one (ps_expr (pe_calX CK hr (passes_call (takes_of rfl rfl rfl rfl) (fun _ _ _ _ h => h)) (pa_cons (pv 4) (pa_cons (pv 1) (pa_cons (pe_op op_sub (pv 2) pe_int) pa_nil))))))
      (pss_one (ps_if (pt_cmpR (op_eqD hu) (pv 3) pe_str (nomark _))
        (pss_one (ps_expr (pe_calX CF hr (passes_call (takes_of rfl rfl rfl rfl) (fun _ _ _ _ h => h)) (pa_cons (pv 4) (pa_cons (pv 1) (pa_cons (pe_op op_sub (pv 2) pe_int) pa_nil))))))
        (pss_one (ps_if (pt_cmpR (op_eqD hu) (pv 3) pe_str (nomark _))
          (pss_one (ps_expr (pe_calX CL r3 (passes_call (takes_of rfl rfl rfl rfl) (fun _ _ _ _ h => h)) (pa_cons (pv 4) (pa_cons (pv 1) pa_nil)))))
          (pss_one (ps_raise rfl (takes_of rfl rfl rfl rfl) (pmk_own PySem.F.excBase_ValueError B.q B.g B.k (raises_own B.b B.t) (by exact rfl)))))))))))), ?_⟩
  refine seq_with (fun R => ∀ H2, Fr T0 H H2 → d ≠ .tuple [.str "number"] → d ≠ .tuple [.str "text"] → R [some v, some (.ref la), some (.int r), none, none] H2) ?_ ?_
  · intro H2 f2 n1 n2
    have ty := Dp.ty (KeepL.dp (Fr.keep tb f2) hd)
    have it := isTup hd
    show tOr _ _ _ _ _
    cases hd with
    | tup ht hds =>
      rename_i a vs ds
      obtain ⟨len, okx⟩ := ok.sub
      have lv0 := DpAll.len hds
      refine or_pure false (decide (¬ vs.length = 2)) (fun R h => ⟨_, rfl, _, _, _, _, _, rfl, .ty _, ty, kit_ty it, _, rfl, h⟩) (fun _ R h => ⟨_, rfl, a, vs, rfl, .inr ((Fr.keep tb f2).2 _ _ ht), rfl, _, rfl, ?_⟩) (fun h => ?_) (fun _ h => ?_)
      · rw [eqV_int, decide_eq_decide.mpr (show ((vs.length : Nat) : Int) = 2 ↔ vs.length = 2 by omega), ← decide_not]
        exact h
      · have n : ds.length ≠ 2 := by rw [← lv0]; exact of_decide_eq_true (h.elim (fun z => by cases z) id)
        exact q2 (gCh_len n n1 n2) H2 f2
      have two : vs.length = 2 := Classical.byContradiction fun z => by rw [decide_eq_true z] at h; cases h
      obtain ⟨x1, x2, d1, d2, rfl, rfl, h1, h2⟩ := two_open hds two
      have ok1 := ok.sub.2 d1 List.mem_cons_self
      have ok2 := ok.sub.2 d2 (List.mem_cons_of_mem _ List.mem_cons_self)
      have g1 := KeepL.dp (Fr.keep tb f2) h1
      have g2 := KeepL.dp (Fr.keep tb f2) h2
      have hla2 := (Fr.keep tb f2).2 _ _ hla
      refine ⟨_, rfl, a, _, rfl, (Fr.keep tb f2).2 _ _ ht, rfl, _, _, rfl, _, _, rfl, rfl, ?_⟩
      dsimp only
      show tOr _ _ _ _ _
      refine or_pure (PyData.eqv d1 (.str "row")) (PyData.eqv d1 (.str "book")) (fun R h => ⟨_, rfl, d1, .str "row", g1, .str _, ok1.1, by decide +kernel, _, rfl, h⟩) (fun _ R h => ⟨_, rfl, d1, .str "book", g1, .str _, ok1.1, by decide +kernel, _, rfl, h⟩) (fun h => ?_) (fun e1 e2 => ?_)
      · have eg : gCh ls (g ls) (.tuple [d1, d2]) = g ls d2 := by
          rcases h with h | h
          · rw [(eqv_word _ _).mp h, gCh_two, if_pos (Or.inl rfl)]
          · rw [(eqv_word _ _).mp h, gCh_two, if_pos (Or.inr rfl)]
        rw [eg] at q1 q2
        refine ⟨_, rfl, _, rfl, _, rfl, _, _, rfl, rfl, ls, x2, d2, la, rfl, g2, ok2, f2.tab, hla2, fun e H3 f3 => q1 e H3 (f2.trans f3), fun e H3 f3 => q2 e H3 (f2.trans f3)⟩
      have n1 : ∀ w : Str, d1 = .str w → ¬ (w = "row" ∨ w = "book") := fun w e z => by
        rcases z with z | z
        · rw [(eqv_word d1 "row").mpr (by rw [e, z])] at e1; cases e1
        · rw [(eqv_word d1 "book").mpr (by rw [e, z])] at e2; cases e2
      refine ⟨_, rfl, d1, .str "shape", g1, .str _, ok1.1, by decide +kernel, _, rfl, ite2 (fun e => ?_) (fun e3 => ?_)⟩
      · have e' := (eqv_word _ _).mp e
        have eg : gCh ls (g ls) (.tuple [d1, d2]) = gFl (g ls) d2 := by rw [e', gCh_two, if_neg (n1 _ e'), if_pos rfl]
        rw [eg] at q1 q2
        exact ⟨_, rfl, _, rfl, _, rfl, _, _, rfl, rfl, ls, x2, d2, la, rfl, g2, ok2, f2.tab, hla2, fun e H3 f3 => q1 e H3 (f2.trans f3), fun e H3 f3 => q2 e H3 (f2.trans f3)⟩
      refine ⟨_, rfl, d1, .str "letter", g1, .str _, ok1.1, by decide +kernel, _, rfl, ite2 (fun e => ?_) (fun e4 => ?_)⟩
      · have e' := (eqv_word _ _).mp e
        have eg : gCh ls (g ls) (.tuple [d1, d2]) = letD ls d2 := by rw [e', gCh_two, if_neg (n1 _ e'), if_neg (by decide +kernel), if_pos rfl]
        rw [eg] at q1 q2
        exact ⟨_, rfl, _, rfl, ls, x2, d2, la, rfl, g2, ok2, f2.tab, hla2, fun e H3 f3 => q1 e H3 (f2.trans f3), fun e H3 f3 => q2 e H3 (f2.trans f3)⟩
      refine q2 ?_ H2 f2
      cases hs : isStrB d1 with
      | false => exact gCh_ns hs
      | true =>
        match d1, hs, n1, e3, e4 with
        | .str w, _, n1, e3, e4 =>
          rw [gCh_two, if_neg (n1 w rfl), if_neg fun z => e3 ((eqv_word _ _).mpr (by rw [z])), if_neg fun z => e4 ((eqv_word _ _).mpr (by rw [z]))]
    | str _ => exact or_pure true true (fun R h => ⟨_, rfl, _, _, _, _, _, rfl, .ty _, ty, kit_ty it, _, rfl, h⟩) (fun h => by cases h) (fun _ => q2 rfl H2 f2) (fun h => by cases h)
    | non => exact or_pure true true (fun R h => ⟨_, rfl, _, _, _, _, _, rfl, .ty _, ty, kit_ty it, _, rfl, h⟩) (fun h => by cases h) (fun _ => q2 rfl H2 f2) (fun h => by cases h)
    | bl b => exact or_pure true true (fun R h => ⟨_, rfl, _, _, _, _, _, rfl, .ty _, ty, kit_ty it, _, rfl, h⟩) (fun h => by cases h) (fun _ => q2 rfl H2 f2) (fun h => by cases h)
    | int b => exact or_pure true true (fun R h => ⟨_, rfl, _, _, _, _, _, rfl, .ty _, ty, kit_ty it, _, rfl, h⟩) (fun h => by cases h) (fun _ => q2 rfl H2 f2) (fun h => by cases h)
    | lst _ _ => exact or_pure true true (fun R h => ⟨_, rfl, _, _, _, _, _, rfl, .ty _, ty, kit_ty it, _, rfl, h⟩) (fun h => by cases h) (fun _ => q2 rfl H2 f2) (fun h => by cases h)
  · intro rest
    refine ⟨_, rfl, (by show 1 ≤ sizeLine; decide), fun p1 hp1 => ⟨d, .tuple [.str "number"], ?_, .tup (SqT.of upd_same) (.cons (.str _) .nil), ok.1, by decide +kernel, _, rfl, ite2 (fun e => ?_) (fun e => ?_)⟩⟩
    · exact KeepL.dp (Fr.keep tb (Fr.same tb (same_new hp1 _))) hd
    · have f1 := Fr.same tb (same_new hp1 (.tup [.str "number"]))
      exact q1 (by rw [(eqv_one _ _).mp e]; rfl) _ f1
    have f1 := Fr.same tb (same_new hp1 (.tup [.str "number"]))
    refine ⟨_, rfl, (by show 1 ≤ sizeLine; decide), fun p2 hp2 => ⟨d, .tuple [.str "text"], ?_, .tup (SqT.of upd_same) (.cons (.str _) .nil), ok.1, by decide +kernel, _, rfl, ite2 (fun e2 => ?_) (fun e2 => ?_)⟩⟩
    · exact KeepL.dp (Fr.keep tb (f1.trans (Fr.same f1.tab (same_new hp2 _)))) hd
    · exact q1 (by rw [(eqv_one _ _).mp e2]; rfl) _ (f1.trans (Fr.same f1.tab (same_new hp2 _)))
    · exact rest _ (f1.trans (Fr.same f1.tab (same_new hp2 _))) (fun z => e ((eqv_one _ _).mpr z)) (fun z => e2 ((eqv_one _ _).mpr z))
end
end Sc
namespace Sc
open PySem PyProof.Rows L2
section
variable {P : Program} {w : World} {K : PySem.W.Frag} {mg : Str → Option Value} {base : Heap} {T0 : List Addr} {CB : Addr}
theorem scNeedWithin : FnScope ["kind", "letters", "room", "choice"] ["kind", "letters", "room"] (defScope sPNeedKindWithin) := ⟨rfl, rfl, rfl, by decide +kernel, rfl, by decide +kernel, by decide +kernel⟩
theorem c_need_within {lv n : Nat} (T : Tx K mg) (B : Ec K mg "BadKind" CB) (h8 : ∃ t, mg "DEEPEST_KIND" = some (.int 8 t))
    (CC : 0 < n → CalX P w K mg base lv "_need_choice" ["choice", "letters", "room"] (spNeed K T0 CB [.int ((n : Int) - 1)] (fun ls => gCh ls (gK ls (n - 1)))))
    (CN : CalX P w K mg base lv "_need_choice" ["choice", "letters", "room"] (fun _ _ _ _ => False)) :
    CalX P w K mg base (lv + 1) "_need_kind_within" ["kind", "letters", "room"] (spNeed K T0 CB [.int ((n : Int) - 1)] (fun ls => gK ls n)) := by
  refine T.p_need_kind_within.okX scNeedWithin (fun vs H Q E h => ?_) (fun f cdv A outer s H vs Q E hr h => ?_)
  · obtain ⟨ls, v, d, la, rfl, _⟩ := h
    rfl
  obtain ⟨ls, v, d, la, rfl, hd, ok, tb, hla, q1, q2⟩ := h
  dsimp only at q1 q2
  obtain ⟨t8, m8⟩ := h8
  have CC' : ∃ sp, CalX P w K mg base lv "_need_choice" ["choice", "letters", "room"] sp ∧ (0 < n → sp = spNeed K T0 CB [.int ((n : Int) - 1)] (fun ls => gCh ls (gK ls (n - 1)))) := by
    by_cases h : 0 < n
    · exact ⟨_, CC h, fun _ => rfl⟩
    · exact ⟨_, CN, fun z => absurd z h⟩
  obtain ⟨sp, CS, es⟩ := CC'
  refine ⟨_, pss_cons (ps_if (pt_cmpR op_lt (pv 2) pe_int (nomark _))
      (pss_one (ps_raise rfl (takes_of rfl rfl rfl rfl) (SkE.pmk_own1 PySem.F.excBase_ValueError B.q B.g B.k (raises_own B.b B.t) (by exact rfl) (pe_fs (.cons pe_str (.cons (pe_fmt (pe_glob (v := .int 8) (by rfl) m8 ⟨_, rfl⟩)) (.cons pe_str .nil))))))) pss_nil)
    (pss_cons (ps_if (PW.pt (pw_or (pt_not (pt_val (pe_callB call_isi (by rfl) T.m_isinstance boot_isinstance (pa_cons (pv 0) (pa_cons (pe_bltn (v := .ty "tuple") (by rfl) T.m_tuple boot_tuple rfl) pa_nil)))))
        (pw_or1 (pt_cmpR op_eq (pe_callB call_len_seq (by rfl) T.m_len PySem.boot_len (pa_cons (pv 0) pa_nil)) pe_int (nomark _)))))
      (pss_one (ps_raise rfl (takes_of rfl rfl rfl rfl) (pmk_own PySem.F.excBase_ValueError B.q B.g B.k (raises_own B.b B.t) (by exact rfl)))) pss_nil)
    (pss_one (ps_for (passes_of rfl) rfl (pi_tup (pv 0)) (pg_name (i := 3) scNeedWithin.nd rfl (Or.inl rfl))
      (pss_one (ps_expr (pe_calX CS hr (passes_call (takes_of rfl rfl rfl rfl) (fun _ _ _ _ h => h)) (pa_cons (pv 3) (pa_cons (pv 1) (pa_cons (pv 2) pa_nil))))))))), ?_⟩
  refine ⟨_, rfl, _, _, rfl, rfl, _, rfl, ite2 (fun e => ?_) (fun e => ?_)⟩
  · have n0 : n = 0 := by have := of_decide_eq_true e; omega
    refine ⟨_, rfl, by decide +kernel, .inr ⟨8, rfl, by decide, _, rfl, by decide +kernel, _, rfl, by decide +kernel, ?_⟩⟩
    exact q2 (by rw [n0]; rfl) H (Fr.refl tb)
  have n1 : 0 < n := by
    have := of_decide_eq_false (Bool.eq_false_iff.mpr e)
    omega
  obtain ⟨m, rfl⟩ : ∃ m, n = m + 1 := ⟨n - 1, by omega⟩
  have es := es n1
  subst es
  dsimp only [tNext]
  show tOr _ _ _ _ _
  have ty := Dp.ty hd
  have it := isTup hd
  have dp := hd
  cases hd with
  | tup ht hds =>
    rename_i a vs ds
    obtain ⟨len, okx⟩ := ok.sub
    have lv0 := DpAll.len hds
    have bad0 : gK ls (m + 1) (.tuple ds) = (!ds.isEmpty && ds.all (gCh ls (gK ls m))) := rfl
    refine or_pure false (decide (vs.length = 0)) (fun R h => ⟨_, rfl, _, _, _, _, _, rfl, .ty _, ty, kit_ty it, _, rfl, h⟩) (fun _ R h => ⟨_, rfl, a, vs, rfl, .inr ht, rfl, _, rfl, ?_⟩) (fun h => ?_) (fun _ h => ?_)
    · rw [eqV_int, decide_eq_decide.mpr (show ((vs.length : Nat) : Int) = 0 ↔ vs.length = 0 by omega)]
      exact h
    · have z : vs.length = 0 := of_decide_eq_true (h.elim (fun z => by cases z) id)
      have z2 : ds = [] := List.length_eq_zero_iff.mp (lv0.symm.trans z)
      exact q2 (by rw [z2]; rfl) H (Fr.refl tb)
    have d0 : ds.isEmpty = false := by
      cases ds with
      | nil => exact absurd lv0 (of_decide_eq_false h)
      | cons _ _ => rfl
    rw [bad0, d0] at q1 q2
    refine ⟨_, rfl, a, rfl, ⟨_, ht⟩, ?_⟩
    refine for_tup (K := K) (a := a) (xs := vs) (fun j σ2 H2 => Fr T0 H H2 ∧ (∃ o, σ2 = [some (.ref a), some (.ref la), some (.int (((m + 1 : Nat) : Int) - 1)), o]) ∧ (ds.take j).all (gCh ls (gK ls m)) = true) ⟨Fr.refl tb, ⟨_, rfl⟩, rfl⟩ (fun j σ2 H2 _ h => (Fr.keep tb h.1).2 _ _ ht) ?_ ?_
    · rintro j x σ2 H2 hx ⟨f2, ⟨o, rfl⟩, hq⟩
      obtain ⟨d, hd1, hd2⟩ := DpAll.get hds hx
      have md := List.mem_of_getElem? hd1
      refine ⟨_, rfl, _, rfl, _, rfl, ls, x, d, la, rfl, KeepL.dp (Fr.keep tb f2) hd2, okx d md, f2.tab, (Fr.keep tb f2).2 _ _ hla, fun e H3 f3 => ?_, fun e H3 f3 => ?_⟩
      · exact ⟨f2.trans f3, ⟨_, rfl⟩, by rw [List.take_add_one, hd1, List.all_append, hq]; simpa using e⟩
      · refine q2 ?_ H3 (f2.trans f3)
        refine Bool.eq_false_iff.mpr fun z => ?_
        have := List.all_eq_true.mp z d md
        rw [show gCh ls (gK ls m) d = false from e] at this
        cases this
    · rintro σ2 H2 ⟨f2, ⟨o, rfl⟩, hq⟩
      rw [lv0, List.take_length] at hq
      exact q1 hq H2 f2
  | str _ => exact or_pure true true (fun R h => ⟨_, rfl, _, _, _, _, _, rfl, .ty _, ty, kit_ty it, _, rfl, h⟩) (fun h => by cases h) (fun _ => q2 rfl H (Fr.refl tb)) (fun h => by cases h)
  | non => exact or_pure true true (fun R h => ⟨_, rfl, _, _, _, _, _, rfl, .ty _, ty, kit_ty it, _, rfl, h⟩) (fun h => by cases h) (fun _ => q2 rfl H (Fr.refl tb)) (fun h => by cases h)
  | bl b => exact or_pure true true (fun R h => ⟨_, rfl, _, _, _, _, _, rfl, .ty _, ty, kit_ty it, _, rfl, h⟩) (fun h => by cases h) (fun _ => q2 rfl H (Fr.refl tb)) (fun h => by cases h)
  | int b => exact or_pure true true (fun R h => ⟨_, rfl, _, _, _, _, _, rfl, .ty _, ty, kit_ty it, _, rfl, h⟩) (fun h => by cases h) (fun _ => q2 rfl H (Fr.refl tb)) (fun h => by cases h)
  | lst _ _ => exact or_pure true true (fun R h => ⟨_, rfl, _, _, _, _, _, rfl, .ty _, ty, kit_ty it, _, rfl, h⟩) (fun h => by cases h) (fun _ => q2 rfl H (Fr.refl tb)) (fun h => by cases h)
end
end Sc
namespace Sc
open PySem PyProof.Rows L2
/-- what the errors' classes are -/
structure Er (K : PySem.W.Frag) (mg : Str → Option Value) (CS CB CP : Addr) : Prop where
  b : Ec K mg "BadKind" CB
  gS : mg "SoothError" = some (.ref CS)
  gP : mg "BadProgram" = some (.ref CP)
  xm : PySem.W.exmOne K (.ref CB) (.ref CS) = some true
  ec : ExcC K CB
  kP : PySem.W.kitOne K (.ref CB) (.ref CP) = some false
  kV : PySem.W.kitOne K (.ref CB) (.type "ValueError") = some true
  kB : PySem.W.kitOne K (.ref CB) (.ref CB) = some true
section
variable {P : Program} {w : World} {K : PySem.W.Frag} {mg : Str → Option Value} {base : Heap} {T0 : List Addr} {CB : Addr}
theorem c_withins (T : Tx K mg) (B : Ec K mg "BadKind" CB) (hl8 : ∃ t, mg "LONGEST_WORD" = some (.int 8 t)) (h8 : ∃ t, mg "DEEPEST_KIND" = some (.int 8 t))
    (CW : Cal P w K mg base 2 "is_word" ["thing"] (spTest K T0 isWordD)) (CF : Cal P w K mg base 1 "are_fields" ["thing"] (spTest K T0 fldD)) (CL : CalX P w K mg base 3 "_need_letter" ["letter", "letters"] (spNeed K T0 CB [] letD)) :
    ∀ n : Nat, CalX P w K mg base (3 * n + 3) "_need_kind_within" ["kind", "letters", "room"] (spNeed K T0 CB [.int ((n : Int) - 1)] (fun ls => gK ls n))
  | 0 => (c_need_within (lv := 2) (n := 0) T B h8 (fun z => absurd z (Nat.lt_irrefl _)) ((T.p_need_choice.neverX fun _ _ _ _ z => z).mono (by omega)))
  | n + 1 => by
    have ih := c_withins T B hl8 h8 CW CF CL n
    have cf := c_need_fields T B (by omega) CW CF ih hl8
    have cc := c_need_choice (r := (n : Int)) (g := fun ls => gK ls n) (lv := 3 * n + 4) T B (by omega) (ih.mono (by omega)) cf CL
    refine c_need_within (lv := 3 * n + 5) (n := n + 1) T B h8 (fun _ => ?_) ((T.p_need_choice.neverX fun _ _ _ _ z => z).mono (by omega))
    rw [show (((n + 1 : Nat) : Int) - 1) = (n : Int) by omega]
    exact cc
theorem scNeedKind : FnScope ["kind", "letters"] ["kind", "letters"] (defScope sNeedKind) := ⟨rfl, rfl, rfl, by decide +kernel, rfl, by decide +kernel, by decide +kernel⟩
theorem c_need_kind (T : Tx K mg) (h8 : ∃ t, mg "DEEPEST_KIND" = some (.int 8 t)) (CK : CalX P w K mg base 30 "_need_kind_within" ["kind", "letters", "room"] (spNeed K T0 CB [.int (((9 : Nat) : Int) - 1)] (fun ls => gK ls 9))) :
    CalX P w K mg base 31 "need_kind" ["kind", "letters"] (spNeed K T0 CB [] (fun ls => gK ls 9)) := by
  refine T.need_kind.okX scNeedKind (fun vs H Q E h => ?_) (fun f cdv A outer s H vs Q E hr h => ?_)
  · obtain ⟨ls, v, d, la, rfl, _⟩ := h
    rfl
  obtain ⟨ls, v, d, la, rfl, hd, ok, tb, hla, q1, q2⟩ := h
  dsimp only at q1 q2
  obtain ⟨t8, m8⟩ := h8
  refine ⟨_, pss_one (ps_expr (pe_calX CK hr (passes_call (takes_of rfl rfl rfl rfl) (fun _ _ _ _ h => h)) (pa_cons (pv 0) (pa_cons (pv 1) (pa_cons (pe_glob (v := .int 8) (by rfl) m8 ⟨_, rfl⟩) pa_nil))))), ?_⟩
  exact ⟨_, rfl, _, rfl, ls, v, d, la, rfl, hd, ok, tb, hla, q1, q2⟩
end
end Sc
namespace Sc
open PySem PyProof.Rows L2
abbrev sPlInit : Stmt := sPlaceInit
theorem noM {K : PySem.W.Frag} {H : Hp} {v : V} {d : PyData} (h : Dp K H v d) : kitB (tyD d) "bool" = some (match d with | .bool _ => true | _ => false) := by
  cases h with
  | non => exact (by decide +kernel : kitB "NoneType" "bool" = some false)
  | bl b => exact (by decide +kernel : kitB "bool" "bool" = some true)
  | int i => exact (by decide +kernel : kitB "int" "bool" = some false)
  | str x => exact (by decide +kernel : kitB "str" "bool" = some false)
  | lst _ _ => exact (by decide +kernel : kitB "list" "bool" = some false)
  | tup _ _ => exact (by decide +kernel : kitB "tuple" "bool" = some false)
theorem isIntD {K : PySem.W.Frag} {H : Hp} {v : V} {d : PyData} (h : Dp K H v d) : kitB (tyD d) "int" = some (match d with | .bool _ => true | .int _ => true | _ => false) := by
  cases h with
  | non => exact (by decide +kernel : kitB "NoneType" "int" = some false)
  | bl b => exact (by decide +kernel : kitB "bool" "int" = some true)
  | int i => exact (by decide +kernel : kitB "int" "int" = some true)
  | str x => exact (by decide +kernel : kitB "str" "int" = some false)
  | lst _ _ => exact (by decide +kernel : kitB "list" "int" = some false)
  | tup _ _ => exact (by decide +kernel : kitB "tuple" "int" = some false)
theorem plF (la fa na : Addr) (r : Int) : putF "room" (.int r) (putF "names" (.ref na) (putF "functions" (.ref fa) (putF "letters" (.ref la) []))) = placeF la fa na r := by
  have d1 : ¬ (("letters" : Str) = "functions") := by decide +kernel
  have d2 : ¬ (("letters" : Str) = "names") := by decide +kernel
  have d3 : ¬ (("letters" : Str) = "room") := by decide +kernel
  have d4 : ¬ (("functions" : Str) = "names") := by decide +kernel
  have d5 : ¬ (("functions" : Str) = "room") := by decide +kernel
  have d6 : ¬ (("names" : Str) = "room") := by decide +kernel
  simp only [putF, if_neg d1, if_neg d2, if_neg d3, if_neg d4, if_neg d5, if_neg d6]
  rfl
section
variable {P : Program} {w : World} {K : PySem.W.Frag} {mg : Str → Option Value} {base : Heap} {T0 : List Addr} {C : Addr} {cls : Wr → Addr} {r : Int}
theorem pl_letters (la fa na : Addr) : (placeF la fa na r).lookup ("letters" : Str) = some (.ref la) := rfl
theorem pl_functions (la fa na : Addr) : (placeF la fa na r).lookup ("functions" : Str) = some (.ref fa) := rfl
theorem pl_names (la fa na : Addr) : (placeF la fa na r).lookup ("names" : Str) = some (.ref na) := rfl
theorem pl_room (la fa na : Addr) : (placeF la fa na r).lookup ("room" : Str) = some (.int r) := rfl
theorem scPI : FnScope ["self", "letters", "functions", "names", "room"] ["self", "letters", "functions", "names", "room"] (defScope sPlInit) := ⟨rfl, rfl, rfl, by decide +kernel, rfl, by decide +kernel, by decide +kernel⟩
theorem ok_plinit {f : Addr} {fd : FuncData} (F : Fun K "__init__" "Place.__init__" sPlInit f fd) (cl : Cls K C) (n1 : NoAttr K C "letters") (n2 : NoAttr K C "functions") (n3 : NoAttr K C "names") (n4 : NoAttr K C "room") :
    FnOk P w K mg base CX0 1 f fd ["self", "letters", "functions", "names", "room"] (fun vs H Q _ => ∃ (p dx la fa na : Addr) (r : Int), vs = [.ref p, .ref la, .ref fa, .ref na, .int r] ∧ H p = some (.ins C dx []) ∧
      ∀ (H' : Hp), H' p = some (.ins C dx (placeF la fa na r)) → (∀ c o, H c = some o → c ≠ p → H' c = some o) → Q .non H') := by
  refine F.ok scPI (fun vs H Q E h => ?_) (fun cdv A outer s H vs Q E hr h => ?_)
  · obtain ⟨p, dx, la, fa, na, r, rfl, _⟩ := h
    rfl
  obtain ⟨p, dx, la, fa, na, r, rfl, hp, k⟩ := h
  refine ⟨_, pss_cons (ps_fld (pv 0) (pv 1) rfl) (pss_cons (ps_fld (pv 0) (pv 2) rfl) (pss_cons (ps_fld (pv 0) (pv 3) rfl) (pss_one (ps_fld (pv 0) (pv 4) rfl)))), ?_⟩
  have len : ∀ {x : Str} {v : V} {fs : List (Str × V)}, (putF x v fs).length ≤ fs.length + 1 := fun {x v fs} => by
    induction fs with
    | nil => exact Nat.le_refl _
    | cons q fs ih =>
      obtain ⟨a, b⟩ := q
      show (if a = x then _ else _ : List (Str × V)).length ≤ _
      split
      · exact Nat.le_succ _
      · exact Nat.succ_le_succ ih
  refine ⟨_, rfl, _, rfl, p, C, dx, [], rfl, hp, cl, n1, (by show 0 < 1000; decide), _, rfl, _, rfl, p, C, dx, _, rfl, upd_same, cl, n2, ?_, _, rfl, _, rfl, p, C, dx, _, rfl, upd_same, cl, n3, ?_, _, rfl, _, rfl, p, C, dx, _, rfl, upd_same, cl, n4, ?_, ?_⟩
  · have := len (x := "letters") (v := .ref la) (fs := []); exact Nat.lt_of_le_of_lt this (by decide)
  · have a1 := len (x := "letters") (v := .ref la) (fs := [])
    have a2 := len (x := "functions") (v := .ref fa) (fs := putF "letters" (.ref la) [])
    simp at a1
    omega
  · have a1 := len (x := "letters") (v := .ref la) (fs := [])
    have a2 := len (x := "functions") (v := .ref fa) (fs := putF "letters" (.ref la) [])
    have a3 := len (x := "names") (v := .ref na) (fs := putF "functions" (.ref fa) (putF "letters" (.ref la) []))
    simp at a1
    omega
  refine k _ (by rw [upd_same, plF]) fun c o e hc => ?_
  rw [upd_ne hc, upd_ne hc, upd_ne hc, upd_ne hc]
  exact e
/-- raising with a plain text -/
theorem scNeedWord : FnScope ["told", "place"] ["told", "place"] (defScope sPNeedWord) := ⟨rfl, rfl, rfl, by decide +kernel, rfl, by decide +kernel, by decide +kernel⟩
theorem c_need_word (T : Tx K mg) (R : Ers K mg cls) (CW : Cal P w K mg base 2 "is_word" ["thing"] (spTest K T0 isWordD)) : CalX P w K mg base 3 "_need_word" ["told", "place"] (spAt K T0 C cls r fun _ => gWord) := by
  refine T.p_need_word.okX scNeedWord (fun vs H Q E h => ?_) (fun f cdv A outer s H vs Q Ex hr h => ?_)
  · obtain ⟨v, d, p, E, rfl, _⟩ := h
    rfl
  obtain ⟨v, d, p, E, rfl, hd, ok, tb, hp, q1, q2⟩ := h
  refine ⟨_, pss_one (ps_if (pt_not (pt_val (pe_cal CW hr (pa_cons (pv 0) pa_nil))))
      (pss_one (ps_raise rfl (takes_of rfl rfl rfl rfl) (pmk_own PySem.F.excBase_ValueError R.bp.q R.bp.g R.bp.k (raises_own R.bp.b R.bp.t) (by exact rfl)))) pss_nil), ?_⟩
  refine ⟨_, rfl, v, d, rfl, hd, ok, tb, fun H1 f1 => ⟨_, rfl, ?_⟩⟩
  cases h1 : isWordD d with
  | false => exact q2 .bp (by show whenB (isWordD d) .bp = some .bp; rw [h1]; rfl) H1 f1
  | true => exact q1 (by show whenB (isWordD d) .bp = none; rw [h1]; rfl) H1 f1
theorem gWord_none {d : PyData} (h : gWord d = none) : ∃ z, d = .str z ∧ isWordD (.str z) = true := by
  cases d with
  | str z =>
    refine ⟨z, rfl, ?_⟩
    cases h1 : isWordD (.str z) with
    | true => rfl
    | false => rw [show gWord (.str z) = some .bp by show whenB (isWordD (.str z)) .bp = _; rw [h1]; rfl] at h; cases h
  | _ => cases h
theorem gWord_some {d : PyData} {b : Wr} (h : gWord d = some b) : b = .bp ∧ isWordD d = false := by
  have h' : whenB (isWordD d) .bp = some b := h
  cases h1 : isWordD d with
  | true => rw [h1] at h'; cases h'
  | false => rw [h1] at h'; exact ⟨(Option.some.inj h').symm, rfl⟩
theorem scNeedKnown : FnScope ["told", "place"] ["told", "place"] (defScope sPNeedKnown) := ⟨rfl, rfl, rfl, by decide +kernel, rfl, by decide +kernel, by decide +kernel⟩
theorem c_need_known (T : Tx K mg) (R : Ers K mg cls) (L : PlC P w K mg base C) (CW : CalX P w K mg base 3 "_need_word" ["told", "place"] (spAt K T0 C cls r fun _ => gWord)) : CalX P w K mg base 4 "_need_known" ["told", "place"] (spAt K T0 C cls r gKnown) := by
  refine T.p_need_known.okX scNeedKnown (fun vs H Q E h => ?_) (fun f cdv A outer s H vs Q Ex hr h => ?_)
  · obtain ⟨v, d, p, E, rfl, _⟩ := h
    rfl
  obtain ⟨v, d, p, E, rfl, hd, ok, tb, hp, q1, q2⟩ := h
  refine ⟨_, pss_cons (ps_expr (pe_calX CW hr (passes_call (takes_of rfl rfl rfl rfl) (fun _ _ _ _ h => h)) (pa_cons (pv 0) (pa_cons (pv 1) pa_nil))))
    (pss_one (ps_if (pt_cmpR op_notIn_seq (pv 0) (pe_fld (pv 1) rfl) (by rfl))
      (pss_one (ps_raise rfl (takes_of rfl rfl rfl rfl) (SkE.pmk_own1 PySem.F.excBase_ValueError R.nn.q R.nn.g R.nn.k (raises_own R.nn.b R.nn.t) (by exact rfl) (pe_fs (.cons pe_str (.cons (pe_fmt (pv 0)) (.cons pe_str .nil))))))) pss_nil)), ?_⟩
  refine ⟨_, rfl, _, rfl, v, d, p, E, rfl, hd, ok, tb, hp, fun e H1 f1 => ?_, fun b e H1 f1 => ?_⟩
  · obtain ⟨z, rfl, hz⟩ := gWord_none e
    cases hd
    have hp1 := hp.keep tb f1
    obtain ⟨dx, la, fa, na, h1, h2, h3, h4⟩ := hp1.at_
    have eg : gKnown E (.str z) = whenB (decide (z ∈ E.ns)) .nn := by show (if isWordD (.str z) = true then _ else _) = _; rw [if_pos hz]
    refine ⟨_, rfl, _, rfl, p, C, dx, _, _, rfl, h1, L.cl, L.n3, pl_names la fa na, na, _, rfl, .inr h4, rfl, flat_strs _, ?_⟩
    rw [in_strs]
    have z8 : z.length ≤ 8 := (of_decide_eq_true (show decide (Word z) = true from hz)).2.1
    cases hm : decide (z ∈ E.ns) with
    | true => exact ⟨_, rfl, q1 (by rw [eg, hm]; rfl) H1 f1⟩
    | false =>
      refine ⟨_, rfl, _, rfl, by decide +kernel, _, rfl, .inl ⟨z, rfl, sizeOk (by omega), _, rfl, ?_, _, rfl, ?_, ?_⟩⟩
      · rw [len_app]
        have : (Str.empty ++ "the name " : Str).length ≤ 100 := by decide +kernel
        exact sizeOk (by omega)
      · rw [len_app, len_app]
        have : (Str.empty ++ "the name " : Str).length ≤ 100 := by decide +kernel
        have : (" is not known where it stands" : Str).length ≤ 100 := by decide +kernel
        exact sizeOk (by omega)
      · exact q2 .nn (by rw [eg, hm]; rfl) H1 f1
  · obtain ⟨rfl, hw⟩ := gWord_some e
    refine q2 .bp ?_ H1 f1
    cases d with
    | str z => show (if isWordD (.str z) = true then _ else _) = _; rw [if_neg (by rw [hw]; decide)]
    | _ => rfl
end
end Sc
namespace Sc
open PySem PyProof.Rows L2
section
variable {X : Cx}
def rNotInTD (K : PySem.W.Frag) : R2 := fun x y H Q => ∃ d ds, Dp K H x d ∧ Dp K H y (.tuple ds) ∧ SeqAt.shaped d = true ∧ SeqAt.shaped (.tuple ds) = true ∧ Q (.bl (!ds.any fun z => PyData.eqv z d)) H
theorem op_notInTD (hu : X.A.units + 65 < cLine) : OpR X (compareOp .NotIn) (rNotInTD X.K) := by
  intro pins s σ H x y v u Q I rx ry h
  obtain ⟨d, ds, hd, he, sd, se, q⟩ := h
  obtain ⟨as, r1⟩ := Dp.reads I d x v hd rx
  obtain ⟨bs, r2⟩ := Dp.reads I (.tuple ds) y u he ry
  exact SeqAt.notIn_tuple_reads r2 r1 (SeqAt.canLay_of_shaped se) (SeqAt.canLay_of_shaped sd) (room_in_shaped sd hu) ⟨.bl _, H, I, rfl, q⟩
end
def strIn (ls : List Str) : PyData → Bool
  | .str z => decide (z ∈ ls)
  | _ => false
theorem any_strD (d : PyData) : ∀ ls : List Str, ((ls.map PyData.str).any fun z => PyData.eqv z d) = strIn ls d
  | [] => by cases d <;> rfl
  | l :: ls => by
    rw [List.map_cons, List.any_cons, any_strD d ls]
    cases d with
    | str z =>
      have e : PyData.eqv (.str l) (.str z) = decide (l = z) := by
        rw [Bool.eq_iff_iff, decide_eq_true_eq]
        exact ⟨fun h => PyData.str.inj ((eqv_word _ _).mp h), fun h => (eqv_word _ _).mpr (by rw [h])⟩
      show (PyData.eqv (.str l) (.str z) || decide (z ∈ ls)) = decide (z ∈ l :: ls)
      rw [e, Bool.eq_iff_iff, Bool.or_eq_true, decide_eq_true_eq, decide_eq_true_eq, decide_eq_true_eq, List.mem_cons]
      exact ⟨fun h => h.imp Eq.symm id, fun h => h.imp Eq.symm id⟩
    | _ => simp [PyData.eqv, strIn]
section
variable {P : Program} {w : World} {K : PySem.W.Frag} {mg : Str → Option Value} {base : Heap} {T0 : List Addr} {C : Addr} {cls : Wr → Addr} {r : Int}
theorem scNeedHead : FnScope ["told", "place"] ["told", "place"] (defScope sPNeedHead) := ⟨rfl, rfl, rfl, by decide +kernel, rfl, by decide +kernel, by decide +kernel⟩
theorem c_need_head (T : Tx K mg) (R : Ers K mg cls) : CalX P w K mg base 1 "_need_head" ["told", "place"] (spAt K T0 C cls r fun _ => gHead) := by
  refine T.p_need_head.okX scNeedHead (fun vs H Q E h => ?_) (fun f cdv A outer s H vs Q Ex hr h => ?_)
  · obtain ⟨v, d, p, E, rfl, _⟩ := h
    rfl
  obtain ⟨v, d, p, E, rfl, hd, ok, tb, hp, q1, q2⟩ := h
  have hu65 : (A.deeper (envOfC "_need_head" (defScope sPNeedHead) s.heap.objs.size f cdv)).units + 65 < cLine := by have := hr.un; omega
  refine ⟨_, pss_one (ps_if (pt_cmpR (op_notInTD hu65) (pv 0) (pe_tup (pa_cons pe_str (pa_cons pe_str (pa_cons pe_str (pa_cons pe_str (pa_cons pe_str pa_nil)))))) (by rfl))
      (pss_one (ps_raise rfl (takes_of rfl rfl rfl rfl) (pmk_own PySem.F.excBase_ValueError R.bp.q R.bp.g R.bp.k (raises_own R.bp.b R.bp.t) (by exact rfl)))) pss_nil), ?_⟩
  refine ⟨_, rfl, (by show 5 ≤ sizeLine; decide), fun t ht => ?_⟩
  have e1 := same_new ht (.tup [.str "number", .str "text", .str "row", .str "book", .str "shape"])
  have f1 : Fr T0 H (upd H t (.tup [.str "number", .str "text", .str "row", .str "book", .str "shape"])) := Fr.same tb e1
  refine ⟨d, (["number", "text", "row", "book", "shape"] : List Str).map .str, (Same.keepL e1).dp hd, .tup (SqT.of upd_same) (.cons (.str _) (.cons (.str _) (.cons (.str _) (.cons (.str _) (.cons (.str _) .nil))))), ok.1, by decide +kernel, _, rfl, ?_⟩
  rw [any_strD]
  have eg : gHead d = whenB (strIn ["number", "text", "row", "book", "shape"] d) .bp := by cases d <;> rfl
  cases hm : strIn ["number", "text", "row", "book", "shape"] d with
  | true => exact q1 (by show gHead d = none; rw [eg, hm]; rfl) _ f1
  | false => exact q2 .bp (by show gHead d = some .bp; rw [eg, hm]; rfl) _ f1
theorem scNeedKindHere : FnScope ["told", "place"] ["told", "place"] (defScope sPNeedKindHere) := ⟨rfl, rfl, rfl, by decide +kernel, rfl, by decide +kernel, by decide +kernel⟩
theorem c_need_kind_here (T : Tx K mg) (L : PlC P w K mg base C) (CN : CalX P w K mg base 31 "need_kind" ["kind", "letters"] (spNeed K T0 (cls .bk) [] (fun ls => gK ls 9))) : CalX P w K mg base 32 "_need_kind_here" ["told", "place"] (spAt K T0 C cls r fun E => gKind E.ls) := by
  refine T.p_need_kind_here.okX scNeedKindHere (fun vs H Q E h => ?_) (fun f cdv A outer s H vs Q Ex hr h => ?_)
  · obtain ⟨v, d, p, E, rfl, _⟩ := h
    rfl
  obtain ⟨v, d, p, E, rfl, hd, ok, tb, hp, q1, q2⟩ := h
  dsimp only at q1 q2
  refine ⟨_, pss_one (ps_expr (pe_calX CN hr (passes_call (takes_of rfl rfl rfl rfl) (fun _ _ _ _ h => h)) (pa_cons (pv 0) (pa_cons (pe_fld (pv 1) rfl) pa_nil)))), ?_⟩
  obtain ⟨dx, la, fa, na, h1, h2, h3, h4⟩ := hp.at_
  refine ⟨_, rfl, _, rfl, p, C, dx, _, _, rfl, h1, L.cl, L.n1, pl_letters la fa na, E.ls, v, d, la, rfl, hd, ok, tb, h2, fun e H1 f1 => ?_, fun e H1 f1 => ?_⟩
  · exact q1 (by show whenB (gK E.ls 9 d) .bk = none; rw [show gK E.ls 9 d = true from e]; rfl) H1 f1
  · exact q2 .bk (by show whenB (gK E.ls 9 d) .bk = some .bk; rw [show gK E.ls 9 d = false from e]; rfl) H1 f1
theorem fb_none {l : List (Option Wr)} : firstBad l = none ↔ ∀ x ∈ l, x = none := by
  induction l with
  | nil => exact ⟨fun _ x h => (by cases h), fun _ => rfl⟩
  | cons a l ih =>
    cases a with
    | none => exact ⟨fun h x m => (List.mem_cons.mp m).elim id fun m => ih.mp h x m, fun h => ih.mpr fun x m => h x (List.mem_cons_of_mem _ m)⟩
    | some b => exact ⟨fun h => (by cases h), fun h => (by cases h _ List.mem_cons_self)⟩
theorem fb_at {l : List (Option Wr)} {j : Nat} {b : Wr} (h1 : ∀ i x, i < j → l[i]? = some x → x = none) (h2 : l[j]? = some (some b)) : firstBad l = some b := by
  induction l generalizing j with
  | nil => cases h2
  | cons a l ih =>
    cases j with
    | zero =>
      obtain rfl := Option.some.inj h2
      rfl
    | succ j =>
      obtain rfl := h1 0 a (Nat.succ_pos _) rfl
      exact ih (fun i x hi hx => h1 (i + 1) x (Nat.succ_lt_succ hi) hx) h2
/-- a loop over a tuple that asks each thing in turn -/
theorem loop_bad {g : PyData → Option Wr} {ds : List PyData} {j : Nat} (h : ∀ i d, i < j → ds[i]? = some d → g d = none) {d : PyData} (hd : ds[j]? = some d) :
    (g d = none → ∀ i d, i < j + 1 → ds[i]? = some d → g d = none) ∧ (∀ b, g d = some b → firstBad (ds.map g) = some b) := by
  refine ⟨fun e i x hi hx => ?_, fun b e => fb_at (j := j) (fun i x hi hx => ?_) (by rw [List.getElem?_map, hd]; exact congrArg some e)⟩
  · rcases Nat.lt_succ_iff_lt_or_eq.mp hi with z | z
    · exact h i x z hx
    · subst z
      rw [hd] at hx
      cases hx
      exact e
  · rw [List.getElem?_map] at hx
    obtain ⟨y, hy, rfl⟩ := Option.map_eq_some_iff.mp hx
    exact h i y hi hy
theorem loop_good {g : PyData → Option Wr} {ds : List PyData} (h : ∀ i d, i < ds.length → ds[i]? = some d → g d = none) : firstBad (ds.map g) = none := fb_none.mpr fun x m => by
  obtain ⟨d, hd, rfl⟩ := List.mem_map.mp m
  obtain ⟨i, hi⟩ := List.getElem?_of_mem hd
  exact h i d (List.getElem?_eq_some_iff.mp hi).1 hi
theorem scNeedKinds : FnScope ["told", "place", "kind"] ["told", "place"] (defScope sPNeedKinds) := ⟨rfl, rfl, rfl, by decide +kernel, rfl, by decide +kernel, by decide +kernel⟩
theorem c_need_kinds (T : Tx K mg) (R : Ers K mg cls) (L : PlC P w K mg base C) (CN : CalX P w K mg base 31 "need_kind" ["kind", "letters"] (spNeed K T0 (cls .bk) [] (fun ls => gK ls 9))) : CalX P w K mg base 32 "_need_kinds" ["told", "place"] (spAt K T0 C cls r fun E => gKinds E.ls) := by
  refine T.p_need_kinds.okX scNeedKinds (fun vs H Q E h => ?_) (fun f cdv A outer s H vs Q Ex hr h => ?_)
  · obtain ⟨v, d, p, E, rfl, _⟩ := h
    rfl
  obtain ⟨v, d, p, E, rfl, hd, ok, tb, hp, q1, q2⟩ := h
  dsimp only at q1 q2
  refine ⟨_, pss_cons (ps_if (pt_not (pt_val (pe_callB call_isi (by rfl) T.m_isinstance boot_isinstance (pa_cons (pv 0) (pa_cons (pe_bltn (v := .ty "tuple") (by rfl) T.m_tuple boot_tuple rfl) pa_nil)))))
      (pss_one (ps_raise rfl (takes_of rfl rfl rfl rfl) (pmk_own PySem.F.excBase_ValueError R.bp.q R.bp.g R.bp.k (raises_own R.bp.b R.bp.t) (by exact rfl)))) pss_nil)
    (pss_one (ps_for (passes_of rfl) rfl (pi_tup (pv 0)) (pg_name (i := 2) scNeedKinds.nd rfl (Or.inl rfl))
      (pss_one (ps_expr (pe_calX CN hr (passes_call (takes_of rfl rfl rfl rfl) (fun _ _ _ _ h => h)) (pa_cons (pv 2) (pa_cons (pe_fld (pv 1) rfl) pa_nil))))))), ?_⟩
  refine ⟨_, rfl, _, _, _, _, _, rfl, .ty _, Dp.ty hd, kit_ty (isTup hd), _, rfl, ?_⟩
  cases hd with
  | tup ht hds =>
    rename_i a vs ds
    have okx := ok.sub.2
    have lv := DpAll.len hds
    refine ⟨_, rfl, a, rfl, ⟨_, ht⟩, ?_⟩
    refine for_tup (K := K) (a := a) (xs := vs) (fun j σ2 H2 => Fr T0 H H2 ∧ (∃ o, σ2 = [some (.ref a), some (.ref p), o]) ∧ ∀ i d, i < j → ds[i]? = some d → gKind E.ls d = none) ⟨Fr.refl tb, ⟨_, rfl⟩, fun i d h => absurd h (Nat.not_lt_zero _)⟩ (fun j σ2 H2 _ h => (Fr.keep tb h.1).2 _ _ ht) ?_ ?_
    · rintro j x σ2 H2 hx ⟨f2, ⟨o, rfl⟩, al⟩
      obtain ⟨d, hd1, hd2⟩ := DpAll.get hds hx
      obtain ⟨n1, n2⟩ := loop_bad (g := gKind E.ls) al hd1
      obtain ⟨dx, la, fa, na, h1, h2, h3, h4⟩ := (hp.keep tb f2).at_
      dsimp only [gName]
      refine ⟨_, rfl, _, rfl, p, C, dx, _, _, rfl, h1, L.cl, L.n1, pl_letters la fa na, E.ls, x, d, la, rfl, (Fr.keep tb f2).dp hd2, okx d (List.mem_of_getElem? hd1), f2.tab, h2, fun e H3 f3 => ?_, fun e H3 f3 => ?_⟩
      · exact ⟨f2.trans f3, ⟨_, rfl⟩, n1 (by show whenB (gK E.ls 9 d) .bk = none; rw [show gK E.ls 9 d = true from e]; rfl)⟩
      · exact q2 .bk (n2 .bk (by show whenB (gK E.ls 9 d) .bk = some .bk; rw [show gK E.ls 9 d = false from e]; rfl)) H3 (f2.trans f3)
    · rintro σ2 H2 ⟨f2, ⟨o, rfl⟩, al⟩
      exact q1 (loop_good (g := gKind E.ls) (by rw [← lv]; exact al)) H2 f2
  | str _ => exact q2 .bp rfl H (Fr.refl tb)
  | non => exact q2 .bp rfl H (Fr.refl tb)
  | bl b => exact q2 .bp rfl H (Fr.refl tb)
  | int b => exact q2 .bp rfl H (Fr.refl tb)
  | lst _ _ => exact q2 .bp rfl H (Fr.refl tb)
theorem scNeedWhole : FnScope ["told", "place"] ["told", "place"] (defScope sPNeedWhole) := ⟨rfl, rfl, rfl, by decide +kernel, rfl, by decide +kernel, by decide +kernel⟩
theorem c_need_whole (T : Tx K mg) (R : Ers K mg cls) : CalX P w K mg base 1 "_need_whole" ["told", "place"] (spAt K T0 C cls r fun _ => gWhole) := by
  refine T.p_need_whole.okX scNeedWhole (fun vs H Q E h => ?_) (fun f cdv A outer s H vs Q Ex hr h => ?_)
  · obtain ⟨v, d, p, E, rfl, _⟩ := h
    rfl
  obtain ⟨v, d, p, E, rfl, hd, ok, tb, hp, q1, q2⟩ := h
  dsimp only at q1 q2
  refine ⟨_, pss_one (ps_if (PW.pt (pw_or (pt_val (pe_callB call_isi (by rfl) T.m_isinstance boot_isinstance (pa_cons (pv 0) (pa_cons (pe_bltn (v := .ty "bool") (by rfl) T.m_bool boot_bool rfl) pa_nil))))
      (pw_or (pt_not (pt_val (pe_callB call_isi (by rfl) T.m_isinstance boot_isinstance (pa_cons (pv 0) (pa_cons (pe_bltn (v := .ty "int") (by rfl) T.m_int boot_int rfl) pa_nil)))))
      (pw_or1 (pt_cmpR op_ge (pe_callB call_abs (by rfl) T.m_abs (by decide +kernel) (pa_cons (pv 0) pa_nil)) (pe_op op_pow pe_int pe_int) (nomark _))))))
      (pss_one (ps_raise rfl (takes_of rfl rfl rfl rfl) (pmk_own PySem.F.excBase_ValueError R.bp.q R.bp.g R.bp.k (raises_own R.bp.b R.bp.t) (by exact rfl)))) pss_nil), ?_⟩
  have neg : gWhole d = some .bp → Ex (.ref (cls .bp)) none H := fun e => q2 .bp e H (Fr.refl tb)
  have ty := Dp.ty hd
  have i1 := noM hd
  have i2 := isIntD hd
  show tOr _ _ _ _ _
  cases hd with
  | int n =>
    refine or_pure false (decide ((10 : Int) ^ 30 ≤ (if n < 0 then -n else n))) (fun R1 h => ⟨_, rfl, _, _, _, _, _, rfl, .ty _, ty, kit_ty i1, _, rfl, h⟩) (fun _ R1 h => ?_) (fun h => ?_) (fun _ h => ?_)
    · show tOr _ _ _ _ _
      refine or_pure false (decide ((10 : Int) ^ 30 ≤ (if n < 0 then -n else n))) (fun R2 h => ⟨_, rfl, _, _, _, _, _, rfl, .ty _, ty, kit_ty i2, _, rfl, h⟩) (fun _ R2 h => ⟨_, rfl, n, rfl, _, _, rfl, rfl, ⟨by decide, by decide, by decide⟩, _, _, rfl, rfl, _, rfl, h⟩) (fun e => ?_) (fun _ e => ?_)
      · rw [e.elim (fun z => by cases z) id] at h
        exact h
      · rw [e] at h
        exact h
    · have e := of_decide_eq_true (h.elim (fun z => by cases z) id)
      refine neg ?_
      show whenB (decide (n.natAbs < 10 ^ 30)) .bp = some .bp
      rw [decide_eq_false (by split at e <;> omega)]
      rfl
    · have e := of_decide_eq_false h
      refine q1 ?_ H (Fr.refl tb)
      show whenB (decide (n.natAbs < 10 ^ 30)) .bp = none
      rw [decide_eq_true (by split at e <;> omega)]
      rfl
  | bl b => exact or_pure true true (fun R1 h => ⟨_, rfl, _, _, _, _, _, rfl, .ty _, ty, kit_ty i1, _, rfl, h⟩) (fun h => by cases h) (fun _ => neg rfl) (fun h => by cases h)
  | str _ => exact or_pure false true (fun R1 h => ⟨_, rfl, _, _, _, _, _, rfl, .ty _, ty, kit_ty i1, _, rfl, h⟩) (fun _ R1 h => by
      show tOr _ _ _ _ _
      exact or_pure true true (fun R2 h => ⟨_, rfl, _, _, _, _, _, rfl, .ty _, ty, kit_ty i2, _, rfl, h⟩) (fun h => by cases h) (fun _ => h) (fun h => by cases h)) (fun _ => neg rfl) (fun _ h => by cases h)
  | non => exact or_pure false true (fun R1 h => ⟨_, rfl, _, _, _, _, _, rfl, .ty _, ty, kit_ty i1, _, rfl, h⟩) (fun _ R1 h => by
      show tOr _ _ _ _ _
      exact or_pure true true (fun R2 h => ⟨_, rfl, _, _, _, _, _, rfl, .ty _, ty, kit_ty i2, _, rfl, h⟩) (fun h => by cases h) (fun _ => h) (fun h => by cases h)) (fun _ => neg rfl) (fun _ h => by cases h)
  | lst _ _ => exact or_pure false true (fun R1 h => ⟨_, rfl, _, _, _, _, _, rfl, .ty _, ty, kit_ty i1, _, rfl, h⟩) (fun _ R1 h => by
      show tOr _ _ _ _ _
      exact or_pure true true (fun R2 h => ⟨_, rfl, _, _, _, _, _, rfl, .ty _, ty, kit_ty i2, _, rfl, h⟩) (fun h => by cases h) (fun _ => h) (fun h => by cases h)) (fun _ => neg rfl) (fun _ h => by cases h)
  | tup _ _ => exact or_pure false true (fun R1 h => ⟨_, rfl, _, _, _, _, _, rfl, .ty _, ty, kit_ty i1, _, rfl, h⟩) (fun _ R1 h => by
      show tOr _ _ _ _ _
      exact or_pure true true (fun R2 h => ⟨_, rfl, _, _, _, _, _, rfl, .ty _, ty, kit_ty i2, _, rfl, h⟩) (fun h => by cases h) (fun _ => h) (fun h => by cases h)) (fun _ => neg rfl) (fun _ h => by cases h)
end
end Sc
namespace Sc
open PySem PyProof.Rows L2
def slotIn (rec tOk : PyData → Prop) (s : Str) (d : PyData) : Prop :=
  (s = ("text" : Str) → tOk d) ∧ ((s = ("part" : Str) ∨ s = ("last" : Str)) → rec d) ∧
    ∀ ds, d = .tuple ds → ((s = ("parts" : Str) ∨ s = ("handed" : Str)) → ∀ x ∈ ds, rec x) ∧ (s = ("fields" : Str) → ∀ f p, PyData.tuple [f, p] ∈ ds → rec p)
/-- all texts in parts are such -/
def txs (tOk : PyData → Prop) : Nat → PyData → Prop
  | 0, _ => True
  | n + 1, d => ∀ w fm ts, formOf d = some (w, fm, ts) → ∀ (j : Nat) (s : Str) (t : PyData), fm[j]? = some s → ts[j]? = some t → slotIn (txs tOk n) tOk s t
def spAtG (K : PySem.W.Frag) (T : List Addr) (C : Addr) (cls : Wr → Addr) (r : Int) (G : Env0 → PyData → Prop) (g : Env0 → PyData → Option Wr) : Sp := fun vs H Q Ex => ∃ (v : V) (d : PyData) (p : Addr) (E : Env0), vs = [v, .ref p] ∧ Dp K H v d ∧ okD d ∧ Tb T H ∧ PlaceAt K C H p E r ∧ G E d ∧
  (g E d = none → ∀ H', Fr T H H' → Q .non H') ∧ (∀ b, g E d = some b → ∀ H', Fr T H H' → Ex (.ref (cls b)) none H')
section
variable {P : Program} {w : World} {K : PySem.W.Frag} {mg : Str → Option Value} {base : Heap} {T0 : List Addr} {C : Addr} {cls : Wr → Addr} {r : Int}
theorem fn_at {K : PySem.W.Frag} {H : Hp} {kvs : List (Key × V)} {fs : List (Str × Nat × Nat)} (z : Str) (h : kvs.map (·.1) = fs.map (fun q => (Sum.inr q.1 : Key))) : (valV kvs (Sum.inr z)).isSome = decide (z ∈ fs.map (·.1)) := by
  unfold valV
  induction kvs generalizing fs with
  | nil =>
    cases fs with
    | nil => rfl
    | cons _ _ => cases h
  | cons a kvs ih =>
    cases fs with
    | nil => cases h
    | cons b fs =>
      rw [List.map_cons, List.map_cons] at h
      injection h with h1 h2
      have i := ih h2
      rw [List.find?_cons, List.map_cons]
      by_cases e : b.1 = z
      · rw [show decide (a.1 = Sum.inr z) = true from decide_eq_true (by rw [h1, e])]
        rw [decide_eq_true (show z ∈ b.1 :: fs.map (·.1) by rw [e]; exact List.mem_cons_self)]
        rfl
      · have ne : ¬ a.1 = (Sum.inr z : Key) := fun q => e (by rw [h1] at q; exact Sum.inr.inj q)
        rw [show decide (a.1 = Sum.inr z) = false from decide_eq_false ne]
        have mm : decide (z ∈ b.1 :: fs.map (·.1)) = decide (z ∈ fs.map (·.1)) := decide_eq_decide.mpr ⟨fun m => (List.mem_cons.mp m).elim (fun q => absurd q.symm e) id, List.mem_cons_of_mem _⟩
        rw [mm]
        exact i
theorem scNeedTold : FnScope ["told", "place"] ["told", "place"] (defScope sPNeedToldEarlier) := ⟨rfl, rfl, rfl, by decide +kernel, rfl, by decide +kernel, by decide +kernel⟩
theorem c_need_told (T : Tx K mg) (R : Ers K mg cls) (L : PlC P w K mg base C) (CW : CalX P w K mg base 3 "_need_word" ["told", "place"] (spAt K T0 C cls r fun _ => gWord)) : CalX P w K mg base 4 "_need_told_earlier" ["told", "place"] (spAt K T0 C cls r gFun) := by
  refine T.p_need_told_earlier.okX scNeedTold (fun vs H Q E h => ?_) (fun f cdv A outer s H vs Q Ex hr h => ?_)
  · obtain ⟨v, d, p, E, rfl, _⟩ := h
    rfl
  obtain ⟨v, d, p, E, rfl, hd, ok, tb, hp, q1, q2⟩ := h
  have hu1 : (A.deeper (envOfC "_need_told_earlier" (defScope sPNeedToldEarlier) s.heap.objs.size f cdv)).units + 1 < cLine := by have := hr.un; omega
  refine ⟨_, pss_cons (ps_expr (pe_calX CW hr (passes_call (takes_of rfl rfl rfl rfl) (fun _ _ _ _ h => h)) (pa_cons (pv 0) (pa_cons (pv 1) pa_nil))))
    (pss_one (ps_if (pt_cmp (pc_dnotin hu1 (pv 0) (pe_fld (pv 1) rfl)) (by rfl))
      (pss_one (ps_raise rfl (takes_of rfl rfl rfl rfl) (SkE.pmk_own1 PySem.F.excBase_ValueError R.nn.q R.nn.g R.nn.k (raises_own R.nn.b R.nn.t) (by exact rfl) (pe_fs (.cons pe_str (.cons (pe_fmt (pv 0)) (.cons pe_str .nil))))))) pss_nil)), ?_⟩
  refine ⟨_, rfl, _, rfl, v, d, p, E, rfl, hd, ok, tb, hp, fun e H1 f1 => ?_, fun b e H1 f1 => ?_⟩
  · obtain ⟨z, rfl, hz⟩ := gWord_none e
    cases hd
    have hp1 := hp.keep tb f1
    obtain ⟨dx, la, fa, na, h1, h2, ⟨kvs, k1, k2, nd, k3⟩, h4⟩ := hp1.at_
    have eg : gFun E (.str z) = whenB (decide (z ∈ E.fs.map (·.1))) .nn := by show (if isWordD (.str z) = true then _ else _) = _; rw [if_pos hz]
    refine ⟨_, rfl, _, rfl, p, C, dx, _, _, rfl, h1, L.cl, L.n2, pl_functions la fa na, fa, _, rfl, DGet.k (k := Sum.inr z) k1, _, rfl, ?_⟩
    rw [fn_at (K := K) (H := H1) z k2]
    have z8 : z.length ≤ 8 := (of_decide_eq_true (show decide (Word z) = true from hz)).2.1
    cases hm : decide (z ∈ E.fs.map (·.1)) with
    | true => exact q1 (by rw [eg, hm]; rfl) H1 f1
    | false =>
      refine ⟨_, rfl, by decide +kernel, _, rfl, .inl ⟨z, rfl, sizeOk (by omega), _, rfl, ?_, _, rfl, ?_, ?_⟩⟩
      · rw [len_app]
        have : (Str.empty ++ "no function " : Str).length ≤ 100 := by decide +kernel
        exact sizeOk (by omega)
      · rw [len_app, len_app]
        have : (Str.empty ++ "no function " : Str).length ≤ 100 := by decide +kernel
        have : (" is told earlier" : Str).length ≤ 100 := by decide +kernel
        exact sizeOk (by omega)
      · exact q2 .nn (by rw [eg, hm]; rfl) H1 f1
  · obtain ⟨rfl, hw⟩ := gWord_some e
    refine q2 .bp ?_ H1 f1
    cases d with
    | str z => show (if isWordD (.str z) = true then _ else _) = _; rw [if_neg (by rw [hw]; decide)]
    | _ => rfl
theorem scNeedIn : FnScope ["told", "place"] ["told", "place"] (defScope sPNeedWithin) := ⟨rfl, rfl, rfl, by decide +kernel, rfl, by decide +kernel, by decide +kernel⟩
theorem c_need_in {n lv : Nat} {G : Env0 → PyData → Prop} {g : Env0 → PyData → Option Wr} (T : Tx K mg) (L : PlC P w K mg base C) (lv2 : 2 ≤ lv) (CP : CalX P w K mg base lv "_need_part" ["part", "place"] (spAtG K T0 C cls (n : Nat) G g)) : CalX P w K mg base (lv + 1) "_need_within" ["told", "place"] (spAtG K T0 C cls ((n + 1 : Nat) : Int) G g) := by
  obtain ⟨fI, fdI, GI, MI, BI⟩ := L.ini
  refine T.p_need_within.okX scNeedIn (fun vs H Q E h => ?_) (fun f cdv A outer s H vs Q Ex hr h => ?_)
  · obtain ⟨v, d, p, E, rfl, _⟩ := h
    rfl
  obtain ⟨v, d, p, E, rfl, hd, ok, tb, hp, hG, q1, q2⟩ := h
  have r2 : Room 2 _ := hr.mono lv2
  refine ⟨_, pss_one (ps_expr (pe_calX CP hr (passes_call (takes_of rfl rfl rfl rfl) (fun _ _ _ _ h => h)) (pa_cons (pv 0) (pa_cons (pe_make MI GI r2 (by rfl) L.g BI .nil pass0 (pa_cons (pe_fld (pv 1) rfl) (pa_cons (pe_fld (pv 1) rfl) (pa_cons (pe_fld (pv 1) rfl) (pa_cons (pe_op op_sub (pe_fld (pv 1) rfl) pe_int) pa_nil))))) pa_nil)))), ?_⟩
  obtain ⟨dx, la, fa, na, h1, h2, h3, h4⟩ := hp.at_
  refine ⟨_, rfl, _, rfl, p, C, dx, _, _, rfl, h1, L.cl, L.n1, pl_letters la fa na, _, rfl, p, C, dx, _, _, rfl, h1, L.cl, L.n2, pl_functions la fa na, _, rfl, p, C, dx, _, _, rfl, h1, L.cl, L.n3, pl_names la fa na, _, rfl, p, C, dx, _, _, rfl, h1, L.cl, L.n4, pl_room la fa na, _, _, rfl, rfl, fun x dx' nx ndx nex => ?_⟩
  have s0 : Same H (upd (upd H dx' (.own x)) x (.ins C dx' [])) := fun b o e => by
    rw [upd_ne (ne_of_none e nx), upd_ne (ne_of_none e ndx)]
    exact e
  refine ⟨x, dx', la, fa, na, _, rfl, upd_same, fun H1 hx kp => ⟨rfl, ?_⟩⟩
  have s1 : Same H H1 := fun c o e => kp c o (s0 c o e) (ne_of_none e nx)
  have f1 : Fr T0 H H1 := Fr.same tb s1
  have kl := Fr.keep (K := K) tb f1
  have en : ((n + 1 : Nat) : Int) - 1 = (n : Int) := by omega
  rw [en] at hx
  exact ⟨v, d, x, E, rfl, kl.dp hd, ok, f1.tab, ⟨⟨dx', la, fa, na, hx, kl.2 _ _ h2, h3.keep tb f1, kl.2 _ _ h4⟩⟩, hG, fun e H2 f2 => q1 e H2 (f1.trans f2), fun b e H2 f2 => q2 b e H2 (f1.trans f2)⟩
theorem scNeedHanded : FnScope ["told", "place", "part"] ["told", "place"] (defScope sPNeedHanded) := ⟨rfl, rfl, rfl, by decide +kernel, rfl, by decide +kernel, by decide +kernel⟩
theorem c_need_handed {lv : Nat} {G : Env0 → PyData → Prop} {g : Env0 → PyData → Option Wr} (T : Tx K mg) (R : Ers K mg cls) (CW : CalX P w K mg base lv "_need_within" ["told", "place"] (spAtG K T0 C cls r G g)) :
    CalX P w K mg base (lv + 1) "_need_handed" ["told", "place"] (spAtG K T0 C cls r (fun E d => ∀ ds, d = .tuple ds → ∀ x ∈ ds, G E x) fun E => gHanded (g E)) := by
  refine T.p_need_handed.okX scNeedHanded (fun vs H Q E h => ?_) (fun f cdv A outer s H vs Q Ex hr h => ?_)
  · obtain ⟨v, d, p, E, rfl, _⟩ := h
    rfl
  obtain ⟨v, d, p, E, rfl, hd, ok, tb, hp, hG, q1, q2⟩ := h
  dsimp only at q1 q2
  refine ⟨_, pss_cons (ps_if (pt_not (pt_val (pe_callB call_isi (by rfl) T.m_isinstance boot_isinstance (pa_cons (pv 0) (pa_cons (pe_bltn (v := .ty "tuple") (by rfl) T.m_tuple boot_tuple rfl) pa_nil)))))
      (pss_one (ps_raise rfl (takes_of rfl rfl rfl rfl) (pmk_own PySem.F.excBase_ValueError R.bp.q R.bp.g R.bp.k (raises_own R.bp.b R.bp.t) (by exact rfl)))) pss_nil)
    (pss_one (ps_for (passes_of rfl) rfl (pi_tup (pv 0)) (pg_name (i := 2) scNeedHanded.nd rfl (Or.inl rfl))
      (pss_one (ps_expr (pe_calX CW hr (passes_call (takes_of rfl rfl rfl rfl) (fun _ _ _ _ h => h)) (pa_cons (pv 2) (pa_cons (pv 1) pa_nil))))))), ?_⟩
  refine ⟨_, rfl, _, _, _, _, _, rfl, .ty _, Dp.ty hd, kit_ty (isTup hd), _, rfl, ?_⟩
  cases hd with
  | tup ht hds =>
    rename_i a vs ds
    have okx := ok.sub.2
    have lv := DpAll.len hds
    refine ⟨_, rfl, a, rfl, ⟨_, ht⟩, ?_⟩
    refine for_tup (K := K) (a := a) (xs := vs) (fun j σ2 H2 => Fr T0 H H2 ∧ (∃ o, σ2 = [some (.ref a), some (.ref p), o]) ∧ ∀ i d, i < j → ds[i]? = some d → g E d = none) ⟨Fr.refl tb, ⟨_, rfl⟩, fun i d h => absurd h (Nat.not_lt_zero _)⟩ (fun j σ2 H2 _ h => (Fr.keep tb h.1).2 _ _ ht) ?_ ?_
    · rintro j x σ2 H2 hx ⟨f2, ⟨o, rfl⟩, al⟩
      obtain ⟨d, hd1, hd2⟩ := DpAll.get hds hx
      have md := List.mem_of_getElem? hd1
      obtain ⟨n1, n2⟩ := loop_bad (g := g E) al hd1
      dsimp only [gName]
      refine ⟨_, rfl, _, rfl, x, d, p, E, rfl, (Fr.keep tb f2).dp hd2, okx d md, f2.tab, hp.keep tb f2, hG ds rfl d md, fun e H3 f3 => ⟨f2.trans f3, ⟨_, rfl⟩, n1 e⟩, fun b e H3 f3 => q2 b (n2 b e) H3 (f2.trans f3)⟩
    · rintro σ2 H2 ⟨f2, ⟨o, rfl⟩, al⟩
      exact q1 (loop_good (g := g E) (by rw [← lv]; exact al)) H2 f2
  | str _ => exact q2 .bp rfl H (Fr.refl tb)
  | non => exact q2 .bp rfl H (Fr.refl tb)
  | bl b => exact q2 .bp rfl H (Fr.refl tb)
  | int b => exact q2 .bp rfl H (Fr.refl tb)
  | lst _ _ => exact q2 .bp rfl H (Fr.refl tb)
theorem scNeedParts : FnScope ["told", "place"] ["told", "place"] (defScope sPNeedParts) := ⟨rfl, rfl, rfl, by decide +kernel, rfl, by decide +kernel, by decide +kernel⟩
theorem gHanded_tuple {rec : PyData → Option Wr} {d : PyData} (h : gHanded rec d = none) : ∃ ds, d = .tuple ds := by
  cases d with
  | tuple ds => exact ⟨ds, rfl⟩
  | _ => cases h
theorem c_need_parts {lv : Nat} {G : Env0 → PyData → Prop} {g : Env0 → PyData → Option Wr} (T : Tx K mg) (R : Ers K mg cls) (CH : CalX P w K mg base lv "_need_handed" ["told", "place"] (spAtG K T0 C cls r G fun E => gHanded (g E))) :
    CalX P w K mg base (lv + 1) "_need_parts" ["told", "place"] (spAtG K T0 C cls r G fun E => gParts (g E)) := by
  refine T.p_need_parts.okX scNeedParts (fun vs H Q E h => ?_) (fun f cdv A outer s H vs Q Ex hr h => ?_)
  · obtain ⟨v, d, p, E, rfl, _⟩ := h
    rfl
  obtain ⟨v, d, p, E, rfl, hd, ok, tb, hp, hG, q1, q2⟩ := h
  dsimp only at q1 q2
  refine ⟨_, pss_cons (ps_expr (pe_calX CH hr (passes_call (takes_of rfl rfl rfl rfl) (fun _ _ _ _ h => h)) (pa_cons (pv 0) (pa_cons (pv 1) pa_nil))))
    (pss_one (ps_if (pt_cmpR op_eq (pe_callB call_len_seq (by rfl) T.m_len PySem.boot_len (pa_cons (pv 0) pa_nil)) pe_int (nomark _))
      (pss_one (ps_raise rfl (takes_of rfl rfl rfl rfl) (pmk_own PySem.F.excBase_ValueError R.bp.q R.bp.g R.bp.k (raises_own R.bp.b R.bp.t) (by exact rfl)))) pss_nil)), ?_⟩
  refine ⟨_, rfl, _, rfl, v, d, p, E, rfl, hd, ok, tb, hp, hG, fun e H1 f1 => ?_, fun b e H1 f1 => ?_⟩
  · obtain ⟨ds, rfl⟩ := gHanded_tuple e
    have e : gHanded (g E) (.tuple ds) = none := e
    have hd1 := (Fr.keep tb f1).dp hd
    cases hd1 with
    | tup ht hds =>
      rename_i a vs
      have lv := DpAll.len hds
      refine ⟨_, rfl, a, vs, rfl, .inr ht, rfl, _, rfl, ite2 (fun z => ?_) (fun z => ?_)⟩
      · have z' := V.int.inj (of_decide_eq_true z)
        have d0 : ds = [] := List.length_eq_zero_iff.mp (by omega)
        exact q2 .bp (by subst d0; unfold gParts; rw [e]) H1 f1
      · refine q1 ?_ H1 f1
        unfold gParts
        rw [e]
        cases ds with
        | nil => exact absurd (decide_eq_true (by rw [lv]; rfl)) z
        | cons _ _ => rfl
  · have e : gHanded (g E) d = some b := e
    exact q2 b (by unfold gParts; rw [e]) H1 f1
theorem scNeedFields2 : FnScope ["told", "place", "field", "part"] ["told", "place"] (defScope sPNeedFields2) := ⟨rfl, rfl, rfl, by decide +kernel, rfl, by decide +kernel, by decide +kernel⟩
theorem c_need_fields2 {lv : Nat} {G : Env0 → PyData → Prop} {g : Env0 → PyData → Option Wr} (T : Tx K mg) (R : Ers K mg cls) (lv3 : 3 ≤ lv) (CF : Cal P w K mg base 1 "are_fields" ["thing"] (spTest K T0 fldD)) (CN : CalX P w K mg base 3 "_need_word" ["told", "place"] (spAt K T0 C cls r fun _ => gWord))
    (CW : CalX P w K mg base lv "_need_within" ["told", "place"] (spAtG K T0 C cls r G g)) :
    CalX P w K mg base (lv + 1) "_need_fields" ["told", "place"] (spAtG K T0 C cls r (fun E d => ∀ ds, d = .tuple ds → ∀ f p, PyData.tuple [f, p] ∈ ds → G E p) fun E => gFields (g E)) := by
  refine T.p_need_fields2.okX scNeedFields2 (fun vs H Q E h => ?_) (fun f cdv A outer s H vs Q Ex hr h => ?_)
  · obtain ⟨v, d, p, E, rfl, _⟩ := h
    rfl
  obtain ⟨v, d, p, E, rfl, hd, ok, tb, hp, hG, q1, q2⟩ := h
  dsimp only at q1 q2
  have r1 : Room 1 _ := hr.mono (by omega)
  have r3 : Room 3 _ := hr.mono lv3
  refine ⟨_, pss_cons (ps_if (pt_not (pt_val (pe_cal CF r1 (pa_cons (pv 0) pa_nil))))
      (pss_one (ps_raise rfl (takes_of rfl rfl rfl rfl) (pmk_own PySem.F.excBase_ValueError R.bp.q R.bp.g R.bp.k (raises_own R.bp.b R.bp.t) (by exact rfl)))) pss_nil)
    (pss_one (ps_for (passes_of rfl) rfl (pi_tup (pv 0)) (pg_tup (by rfl) (pgs_cons (pg_name (i := 2) scNeedFields2.nd rfl (Or.inl rfl)) (pgs_cons (pg_name (i := 3) scNeedFields2.nd rfl (Or.inl rfl)) pgs_nil)))
      (pss_cons (ps_expr (pe_calX CN r3 (passes_call (takes_of rfl rfl rfl rfl) (fun _ _ _ _ h => h)) (pa_cons (pv 2) (pa_cons (pv 1) pa_nil))))
      (pss_one (ps_expr (pe_calX CW hr (passes_call (takes_of rfl rfl rfl rfl) (fun _ _ _ _ h => h)) (pa_cons (pv 3) (pa_cons (pv 1) pa_nil)))))))), ?_⟩
  refine ⟨_, rfl, v, d, rfl, hd, ok, tb, fun H1 f1 => ⟨_, rfl, ?_⟩⟩
  cases h1 : fldD d with
  | false => exact q2 .bp (by cases d with | tuple ds => show (if fldD (.tuple ds) = true then _ else _) = _; rw [h1]; rfl | _ => rfl) H1 f1
  | true =>
    cases hd with
    | tup ht hds =>
      rename_i a vs ds
      obtain ⟨len, okx⟩ := ok.sub
      have lv0 := DpAll.len hds
      have hpd : ds.all pairD = true := by
        have h' : (!ds.isEmpty && ds.all pairD && ascB (ds.map nameD)) = true := h1
        rw [Bool.and_eq_true, Bool.and_eq_true] at h'
        exact h'.1.2
      have eg : gFields (g E) (.tuple ds) = firstBad (ds.map (gField (g E))) := by show (if fldD (.tuple ds) = true then _ else _) = _; rw [if_pos h1]
      refine ⟨_, rfl, a, rfl, ⟨_, (Fr.keep tb f1).2 _ _ ht⟩, ?_⟩
      refine for_tup (K := K) (a := a) (xs := vs) (fun j σ2 H2 => Fr T0 H H2 ∧ (∃ o1 o2, σ2 = [some (.ref a), some (.ref p), o1, o2]) ∧ ∀ i d, i < j → ds[i]? = some d → gField (g E) d = none) ⟨f1, ⟨_, _, rfl⟩, fun i d h => absurd h (Nat.not_lt_zero _)⟩ (fun j σ2 H2 _ h => (Fr.keep tb h.1).2 _ _ ht) ?_ ?_
      · rintro j x σ2 H2 hx ⟨f2, ⟨o1, o2, rfl⟩, al⟩
        obtain ⟨d, hd1, hd2⟩ := DpAll.get hds hx
        have md := List.mem_of_getElem? hd1
        have pd := List.all_eq_true.mp hpd d md
        have okd := okx d md
        obtain ⟨n1, n2⟩ := loop_bad (g := gField (g E)) al hd1
        have hd2' := (Fr.keep tb f2).dp hd2
        cases hd2' with
        | tup ht2 hds2 =>
          rename_i a2 vs2 ds2
          have two : vs2.length = 2 := Classical.byContradiction fun z => by rw [pair_len (by rw [← DpAll.len hds2]; exact z)] at pd; cases pd
          obtain ⟨x1, x2, d1, d2, rfl, rfl, h3, h4⟩ := two_open hds2 two
          have ok1 := okd.sub.2 d1 List.mem_cons_self
          have ok2 := okd.sub.2 d2 (List.mem_cons_of_mem _ List.mem_cons_self)
          dsimp only [gName]
          refine ⟨a2, _, rfl, ht2, rfl, _, _, rfl, _, _, rfl, rfl, ?_⟩
          dsimp only [gName]
          refine ⟨_, rfl, _, rfl, x1, d1, p, E, rfl, h3, ok1, f2.tab, hp.keep tb f2, fun e H3 f3 => ?_, fun b e H3 f3 => ?_⟩
          · have f23 := f2.trans f3
            refine ⟨_, rfl, _, rfl, x2, d2, p, E, rfl, (Fr.keep f2.tab f3).dp h4, ok2, f3.tab, hp.keep tb f23, hG ds rfl d1 d2 md, fun e2 H4 f4 => ?_, fun b e2 H4 f4 => ?_⟩
            · exact ⟨f23.trans f4, ⟨_, _, rfl⟩, n1 (by show (match gWord d1 with | some b => some b | none => g E d2) = none; rw [show gWord d1 = none from e]; exact e2)⟩
            · exact q2 b (by rw [eg]; exact n2 b (by show (match gWord d1 with | some b => some b | none => g E d2) = some b; rw [show gWord d1 = none from e]; exact e2)) H4 (f23.trans f4)
          · exact q2 b (by rw [eg]; exact n2 b (by show (match gWord d1 with | some b => some b | none => g E d2) = some b; rw [show gWord d1 = some b from e])) H3 (f2.trans f3)
        | str _ => cases pd
        | non => cases pd
        | bl _ => cases pd
        | int _ => cases pd
        | lst _ _ => cases pd
      · rintro σ2 H2 ⟨f2, ⟨o1, o2, rfl⟩, al⟩
        exact q1 (by rw [eg]; exact loop_good (g := gField (g E)) (by rw [← lv0]; exact al)) H2 f2
    | str _ => cases h1
    | non => cases h1
    | bl _ => cases h1
    | int _ => cases h1
    | lst _ _ => cases h1
end
end Sc
namespace Sc
open PySem PyProof.Rows L2
def slotNames : List Str := ["whole", "text", "known", "given", "field", "head", "kind", "part", "last", "parts", "fields", "function", "kinds", "handed"]
theorem look_mem {z : Str} {fm : List Str} : ∀ {l : List (Str × List Str)}, l.lookup z = some fm → (z, fm) ∈ l
  | (a, b) :: l, h => by
    rw [List.lookup_cons] at h
    by_cases e : z = a
    · rw [show (z == a) = true by rw [e]; exact beq_self_eq_true a] at h
      have h' : b = fm := Option.some.inj h
      rw [e, h']
      exact List.mem_cons_self
    · rw [show (z == a) = false from beq_eq_false_iff_ne.mpr e] at h
      exact List.mem_cons_of_mem _ (look_mem h)
theorem form_slots {z : Str} {fm : List Str} (h : formTab.lookup z = some fm) : (∀ s ∈ fm, s ∈ slotNames) ∧ fm.length ≤ 6 ∧ z.length ≤ 8 := by
  have all : ∀ p ∈ formTab, (∀ s ∈ p.2, s ∈ slotNames) ∧ p.2.length ≤ 6 ∧ p.1.length ≤ 8 := by decide +kernel
  exact all _ (look_mem h)
/-- the table of forms, as the top has it -/
structure FT (K : PySem.W.Frag) (w : World) (mg : Str → Option Value) (FA : Addr) : Prop where
  g : mg "FORMS" = some (.ref FA)
  d : ∃ es n, KDict K w FA es n
  some_ : ∀ z fm, formTab.lookup z = some fm → ∃ t : Addr, PySem.W.nsIn K FA z = some (some (.ref t)) ∧ ∀ H : Hp, SqT K H t (fm.map V.str)
  none_ : ∀ z, formTab.lookup z = none → PySem.W.nsIn K FA z = some none
theorem FT.at_ {K : PySem.W.Frag} {w : World} {mg : Str → Option Value} {FA : Addr} (F : FT K w mg FA) {z : Str} {fm : List Str} (h : formTab.lookup z = some fm) : ∃ t : Addr, KDct K w FA z (.ref t) ∧ ∀ H : Hp, SqT K H t (fm.map V.str) := by
  obtain ⟨t, h1, h2⟩ := F.some_ z fm h
  obtain ⟨es, n, D⟩ := F.d
  exact ⟨t, ⟨es, n, .ref t, D.at_, D.lit, h1, rfl⟩, h2⟩
section
variable {P : Program} {w : World} {K : PySem.W.Frag} {mg : Str → Option Value} {base : Heap} {T0 : List Addr} {C FA : Addr} {cls : Wr → Addr}
def spForm (K : PySem.W.Frag) (T : List Addr) (cls : Wr → Addr) : Sp := fun vs H Q Ex => ∃ (v : V) (d : PyData), vs = [v] ∧ Dp K H v d ∧ okD d ∧ Tb T H ∧
  (∀ w fm ts, formOf d = some (w, fm, ts) → ∀ t, (∀ H' : Hp, SqT K H' t (fm.map V.str)) → Q (.ref t) H) ∧ (formOf d = none → ∀ H', Fr T H H' → Ex (.ref (cls .bp)) none H')
theorem scForm : FnScope ["part", "form"] ["part"] (defScope sPFormOf) := ⟨rfl, rfl, rfl, by decide +kernel, rfl, by decide +kernel, by decide +kernel⟩
theorem c_form_of (T : Tx K mg) (R : Ers K mg cls) (F : FT K w mg FA) : CalX P w K mg base 1 "_form_of" ["part"] (spForm K T0 cls) := by
  obtain ⟨es, nn, D⟩ := F.d
  refine T.p_form_of.okX scForm (fun vs H Q E h => ?_) (fun f cdv A outer s H vs Q Ex hr h => ?_)
  · obtain ⟨v, d, rfl, _⟩ := h
    rfl
  obtain ⟨v, d, rfl, hd, ok, tb, q1, q2⟩ := h
  refine ⟨_, pss_cons (ps_if (PW.pt (pw_or (pt_not (pt_val (pe_callB call_isi (by rfl) T.m_isinstance boot_isinstance (pa_cons (pv 0) (pa_cons (pe_bltn (v := .ty "tuple") (by rfl) T.m_tuple boot_tuple rfl) pa_nil)))))
        (pw_or1 (pt_cmpR op_eq (pe_callB call_len_seq (by rfl) T.m_len PySem.boot_len (pa_cons (pv 0) pa_nil)) pe_int (nomark _)))))
      (pss_one (ps_raise rfl (takes_of rfl rfl rfl rfl) (pmk_own PySem.F.excBase_ValueError R.bp.q R.bp.g R.bp.k (raises_own R.bp.b R.bp.t) (by exact rfl)))) pss_nil)
    (pss_cons (ps_if (PW.pt (pw_or (pt_not (pt_val (pe_callB call_isi (by rfl) T.m_isinstance boot_isinstance (pa_cons (pe_ix ix_tup (pv 0) pe_int (fun _ _ => rfl)) (pa_cons (pe_bltn (v := .ty "str") (by rfl) T.m_str boot_str rfl) pa_nil)))))
        (pw_or1 (pt_cmpR (op_notIn_kd D) (pe_ix ix_tup (pv 0) pe_int (fun _ _ => rfl)) (pe_glob (v := .ref FA) (by rfl) F.g rfl) (by rfl)))))
      (pss_one (ps_raise rfl (takes_of rfl rfl rfl rfl) (pmk_own PySem.F.excBase_ValueError R.bp.q R.bp.g R.bp.k (raises_own R.bp.b R.bp.t) (by exact rfl)))) pss_nil)
    (pss_cons (ps_set (i := 1) scForm.nd rfl (Or.inl rfl) (pe_ix ix_kdict (pe_glob (v := .ref FA) (by rfl) F.g rfl) (pe_ix ix_tup (pv 0) pe_int (fun _ _ => rfl)) (fun _ _ => rfl)))
    (pss_cons (ps_if (pt_cmpR op_ne (pe_callB call_len_seq (by rfl) T.m_len PySem.boot_len (pa_cons (pv 0) pa_nil)) (pe_op op_add (pe_callB call_len_seq (by rfl) T.m_len PySem.boot_len (pa_cons (pv 1) pa_nil)) pe_int) (nomark _))
      (pss_one (ps_raise rfl (takes_of rfl rfl rfl rfl) (SkE.pmk_own1 PySem.F.excBase_ValueError R.bp.q R.bp.g R.bp.k (raises_own R.bp.b R.bp.t) (by exact rfl)
        (pe_fs (.cons pe_str (.cons (pe_fmt (pe_ix ix_tup (pv 0) pe_int (fun _ _ => rfl))) (.cons pe_str (.cons (pe_fmt (pe_callB call_len_seq (by rfl) T.m_len PySem.boot_len (pa_cons (pv 1) pa_nil))) (.cons pe_str .nil))))))))) pss_nil)
    (pss_one (ps_ret (pv 1)))))), ?_⟩
  have neg : formOf d = none → Ex (.ref (cls .bp)) none H := fun e => q2 e H (Fr.refl tb)
  show tOr _ _ _ _ _
  have ty := Dp.ty hd
  have it := isTup hd
  cases hd with
  | tup ht hds =>
    rename_i a vs ds
    obtain ⟨len, okx⟩ := ok.sub
    have lv := DpAll.len hds
    refine or_pure false (decide (vs.length = 0)) (fun R h => ⟨_, rfl, _, _, _, _, _, rfl, .ty _, ty, kit_ty it, _, rfl, h⟩) (fun _ R h => ⟨_, rfl, a, vs, rfl, .inr ht, rfl, _, rfl, ?_⟩) (fun h => ?_) (fun _ h => ?_)
    · rw [eqV_int, decide_eq_decide.mpr (show ((vs.length : Nat) : Int) = 0 ↔ vs.length = 0 by omega)]
      exact h
    · have z : vs.length = 0 := of_decide_eq_true (h.elim (fun z => by cases z) id)
      have z2 : ds = [] := List.length_eq_zero_iff.mp (lv.symm.trans z)
      exact neg (by rw [z2]; rfl)
    have n0 : vs.length ≠ 0 := of_decide_eq_false h
    refine iteF ?_
    cases hds with
    | nil => exact absurd rfl n0
    | cons h0 hr0 =>
      rename_i x0 vr d0 dr
      dsimp only [tNext, gName]
      show tOr _ _ _ _ _
      have ty0 := Dp.ty h0
      have is0 := isStr h0
      have l2 := DpAll.len hr0
      cases h0 with
      | str z =>
        obtain ⟨r0, r1, r2⟩ : ∃ r : Option Value, PySem.W.nsIn K FA z = some r ∧ r.isSome = (formTab.lookup z).isSome := by
          cases e : formTab.lookup z with
          | none => exact ⟨_, F.none_ z e, rfl⟩
          | some fm =>
            obtain ⟨t, e1, _⟩ := F.some_ z fm e
            exact ⟨_, e1, rfl⟩
        refine or_pure false (formTab.lookup z).isNone (fun R h => ⟨_, rfl, a, _, _, _, rfl, rfl, ht, at_of (j := 0) rfl rfl, _, _, _, _, _, rfl, .ty _, ty0, kit_ty is0, _, rfl, h⟩) (fun _ R h => ⟨_, rfl, a, _, _, _, rfl, rfl, ht, at_of (j := 0) rfl rfl, z, r0, rfl, rfl, r1, _, rfl, ?_⟩) (fun h => ?_) (fun _ h => ?_)
        · rw [r2, Option.not_isSome]
          exact h
        · refine neg ?_
          have e := h.elim (fun z => by cases z) id
          show (match formTab.lookup z with | some fm => _ | none => none) = none
          rw [Option.isNone_iff_eq_none.mp e]
        · obtain ⟨fm, e⟩ : ∃ fm, formTab.lookup z = some fm := by
            cases e : formTab.lookup z with
            | none => rw [e] at h; cases h
            | some fm => exact ⟨fm, rfl⟩
          obtain ⟨t, kd, hq⟩ := F.at_ e
          obtain ⟨_, l6, z8⟩ := form_slots e
          dsimp only [gName]
          refine ⟨_, rfl, a, _, _, _, rfl, rfl, ht, at_of (j := 0) rfl rfl, FA, z, _, rfl, rfl, kd, ?_⟩
          dsimp only [gName]
          refine ⟨_, rfl, a, _, rfl, .inr ht, _, rfl, t, _, rfl, .inr (hq H), _, _, rfl, rfl, rfl, _, rfl, ?_⟩
          have ef : formOf (.tuple (.str z :: dr)) = if dr.length = fm.length then some (z, fm, dr) else none := by
            show (match formTab.lookup z with | some fm => _ | none => none) = _
            rw [e]
          refine ite2 (fun c => ?_) (fun c => ?_)
          · have ne : dr.length ≠ fm.length := fun q => by
              refine absurd c ?_
              rw [show (((V.str z :: vr).length : Nat) : Int) = (((fm.map V.str).length : Nat) : Int) + 1 by rw [List.length_cons, List.length_map, l2, q]; omega]
              simp
            have c1 : (Str.empty ++ "a part " : Str).length ≤ 100 := by decide +kernel
            have c2 : (" has not " : Str).length ≤ 100 := by decide +kernel
            have c3 : (" things behind its word" : Str).length ≤ 100 := by decide +kernel
            have lg : (((fm.map V.str).length : Nat) : Int).natAbs.log2 < 1920 := Nat.lt_trans (PySem.Flt.log2_lt_of (k := 40) (by decide) (Nat.lt_of_le_of_lt (show (((fm.map V.str).length : Nat) : Int).natAbs ≤ 6 by rw [List.length_map]; omega) (by decide))) (by decide)
            have lt := PyProof.Rows.int_text_len_1921 lg
            refine ⟨_, rfl, by decide +kernel, _, rfl, a, _, _, _, rfl, rfl, ht, at_of (j := 0) rfl rfl, .inl ⟨z, rfl, sizeOk (by omega), _, rfl, ?_, _, rfl, ?_, _, rfl, t, _, rfl, .inr (hq H), .inr ⟨_, rfl, lg, _, rfl, ?_, _, rfl, ?_, ?_⟩⟩⟩
            · rw [len_app]; exact sizeOk (by omega)
            · rw [len_app, len_app]; exact sizeOk (by omega)
            · rw [len_app, len_app, len_app]; exact sizeOk (by omega)
            · rw [len_app, len_app, len_app, len_app]; exact sizeOk (by omega)
            · exact neg (by rw [ef, if_neg ne])
          · have q : dr.length = fm.length := Classical.byContradiction fun q => c (by
              have : ¬ ((((V.str z :: vr).length : Nat) : Int) = (((fm.map V.str).length : Nat) : Int) + 1) := by rw [List.length_cons, List.length_map, l2]; omega
              simpa using this)
            exact ⟨_, rfl, q1 z fm dr (by rw [ef, if_pos q]) t hq⟩
      | non => exact or_pure true true (fun R h => ⟨_, rfl, a, _, _, _, rfl, rfl, ht, at_of (j := 0) rfl rfl, _, _, _, _, _, rfl, .ty _, ty0, kit_ty is0, _, rfl, h⟩) (fun h => by cases h) (fun _ => neg rfl) (fun h => by cases h)
      | bl b => exact or_pure true true (fun R h => ⟨_, rfl, a, _, _, _, rfl, rfl, ht, at_of (j := 0) rfl rfl, _, _, _, _, _, rfl, .ty _, ty0, kit_ty is0, _, rfl, h⟩) (fun h => by cases h) (fun _ => neg rfl) (fun h => by cases h)
      | int b => exact or_pure true true (fun R h => ⟨_, rfl, a, _, _, _, rfl, rfl, ht, at_of (j := 0) rfl rfl, _, _, _, _, _, rfl, .ty _, ty0, kit_ty is0, _, rfl, h⟩) (fun h => by cases h) (fun _ => neg rfl) (fun h => by cases h)
      | lst _ _ => exact or_pure true true (fun R h => ⟨_, rfl, a, _, _, _, rfl, rfl, ht, at_of (j := 0) rfl rfl, _, _, _, _, _, rfl, .ty _, ty0, kit_ty is0, _, rfl, h⟩) (fun h => by cases h) (fun _ => neg rfl) (fun h => by cases h)
      | tup _ _ => exact or_pure true true (fun R h => ⟨_, rfl, a, _, _, _, rfl, rfl, ht, at_of (j := 0) rfl rfl, _, _, _, _, _, rfl, .ty _, ty0, kit_ty is0, _, rfl, h⟩) (fun h => by cases h) (fun _ => neg rfl) (fun h => by cases h)
  | str _ => exact or_pure true true (fun R h => ⟨_, rfl, _, _, _, _, _, rfl, .ty _, ty, kit_ty it, _, rfl, h⟩) (fun h => by cases h) (fun _ => neg rfl) (fun h => by cases h)
  | non => exact or_pure true true (fun R h => ⟨_, rfl, _, _, _, _, _, rfl, .ty _, ty, kit_ty it, _, rfl, h⟩) (fun h => by cases h) (fun _ => neg rfl) (fun h => by cases h)
  | bl b => exact or_pure true true (fun R h => ⟨_, rfl, _, _, _, _, _, rfl, .ty _, ty, kit_ty it, _, rfl, h⟩) (fun h => by cases h) (fun _ => neg rfl) (fun h => by cases h)
  | int b => exact or_pure true true (fun R h => ⟨_, rfl, _, _, _, _, _, rfl, .ty _, ty, kit_ty it, _, rfl, h⟩) (fun h => by cases h) (fun _ => neg rfl) (fun h => by cases h)
  | lst _ _ => exact or_pure true true (fun R h => ⟨_, rfl, _, _, _, _, _, rfl, .ty _, ty, kit_ty it, _, rfl, h⟩) (fun h => by cases h) (fun _ => neg rfl) (fun h => by cases h)
end
end Sc
namespace Sc
open PySem PyProof.Rows L2
theorem Same.fr {T : List Addr} {H H' : Hp} (t : Tb T H) (e : Same H H') : Fr T H H' := Fr.same t e
section
variable {P : Program} {w : World} {K : PySem.W.Frag} {mg : Str → Option Value} {base : Heap} {T0 : List Addr} {C FA NA : Addr} {cls : Wr → Addr}
def spAll (K : PySem.W.Frag) (T : List Addr) (cls : Wr → Addr) : Sp := fun vs H Q Ex => ∃ (v fv : V) (e0 e1 : PyData) (ks ps : List PyData) (d0 d3 d4 : PyData) (ls qs : List PyData), vs = [v, fv] ∧ Dp K H v (.tuple [e0, e1, .tuple ks, .tuple ps]) ∧ Dp K H fv (.tuple [d0, .tuple ls, .tuple qs, d3, d4]) ∧ Tb T H ∧
  (ks.length = ls.length → ps.length = qs.length → Q .non H) ∧ (¬ (ks.length = ls.length ∧ ps.length = qs.length) → ∀ H', Fr T H H' → Ex (.ref (cls .bp)) none H')
theorem tup_get {K : PySem.W.Frag} {H : Hp} {v : V} {ds : List PyData} {j : Nat} {d : PyData} (h : Dp K H v (.tuple ds)) (e : ds[j]? = some d) : ∃ (a : Addr) (vs : List V) (x : V), v = .ref a ∧ SqT K H a vs ∧ vs[j]? = some x ∧ Dp K H x d := by
  cases h with
  | tup ht hds =>
    have l := DpAll.len hds
    have jl := (List.getElem?_eq_some_iff.mp e).1
    obtain ⟨d', h1, h2⟩ := DpAll.get hds (List.getElem?_eq_getElem (show j < _ by rw [l]; exact jl))
    rw [e] at h1
    cases h1
    exact ⟨_, _, _, rfl, ht, List.getElem?_eq_getElem _, h2⟩
theorem tup_len {K : PySem.W.Frag} {H : Hp} {v : V} {ds : List PyData} (h : Dp K H v (.tuple ds)) : ∃ (a : Addr) (vs : List V), v = .ref a ∧ SqT K H a vs ∧ vs.length = ds.length := by
  cases h with
  | tup ht hds => exact ⟨_, _, rfl, ht, DpAll.len hds⟩
theorem scAll : FnScope ["part", "function"] ["part", "function"] (defScope sPNeedAllHanded) := ⟨rfl, rfl, rfl, by decide +kernel, rfl, by decide +kernel, by decide +kernel⟩
theorem c_need_all (T : Tx K mg) (R : Ers K mg cls) : CalX P w K mg base 1 "_need_all_handed" ["part", "function"] (spAll K T0 cls) := by
  refine T.p_need_all_handed.okX scAll (fun vs H Q E h => ?_) (fun f cdv A outer s H vs Q Ex hr h => ?_)
  · obtain ⟨v, fv, _, _, _, _, _, _, _, _, _, rfl, _⟩ := h
    rfl
  obtain ⟨v, fv, e0, e1, ks, ps, d0, d3, d4, ls, qs, rfl, hv, hf, tb, q1, q2⟩ := h
  refine ⟨_, pss_one (ps_if (PW.pt (pw_or (pt_cmpR op_ne (pe_callB call_len_seq (by rfl) T.m_len PySem.boot_len (pa_cons (pe_ix ix_tup (pv 0) pe_int (fun _ _ => rfl)) pa_nil)) (pe_callB call_len_seq (by rfl) T.m_len PySem.boot_len (pa_cons (pe_ix ix_tup (pv 1) pe_int (fun _ _ => rfl)) pa_nil)) (nomark _))
        (pw_or1 (pt_cmpR op_ne (pe_callB call_len_seq (by rfl) T.m_len PySem.boot_len (pa_cons (pe_ix ix_tup (pv 0) pe_int (fun _ _ => rfl)) pa_nil)) (pe_callB call_len_seq (by rfl) T.m_len PySem.boot_len (pa_cons (pe_ix ix_tup (pv 1) pe_int (fun _ _ => rfl)) pa_nil)) (nomark _)))))
      (pss_one (ps_raise rfl (takes_of rfl rfl rfl rfl) (pmk_own PySem.F.excBase_ValueError R.bp.q R.bp.g R.bp.k (raises_own R.bp.b R.bp.t) (by exact rfl)))) pss_nil), ?_⟩
  obtain ⟨a, vs, x2, rfl, ha, hx2, hd2⟩ := tup_get (j := 2) hv rfl
  obtain ⟨a', vs', x3, ea, ha', hx3, hd3⟩ := tup_get (j := 3) hv rfl
  obtain ⟨b, ws, y1, rfl, hb, hy1, he1⟩ := tup_get (j := 1) hf rfl
  obtain ⟨b', ws', y2, eb, hb', hy2, he2⟩ := tup_get (j := 2) hf rfl
  obtain rfl := V.ref.inj ea
  obtain rfl := V.ref.inj eb
  obtain ⟨c2, u2, rfl, hc2, l2⟩ := tup_len hd2
  obtain ⟨c3, u3, rfl, hc3, l3⟩ := tup_len hd3
  obtain ⟨g1, w1, rfl, hg1, m1⟩ := tup_len he1
  obtain ⟨g2, w2, rfl, hg2, m2⟩ := tup_len he2
  show tOr _ _ _ _ _
  refine or_pure (decide (¬ ks.length = ls.length)) (decide (¬ ps.length = qs.length)) (fun R1 h => ⟨_, rfl, a, vs, 2, _, rfl, rfl, ha, at_of (j := 2) rfl hx2, c2, _, rfl, .inr hc2, _, rfl, b, ws, 1, _, rfl, rfl, hb, at_of (j := 1) rfl hy1, g1, _, rfl, .inr hg1, rfl, _, rfl, ?_⟩)
    (fun _ R1 h => ⟨_, rfl, a, vs', 3, _, rfl, rfl, ha', at_of (j := 3) rfl hx3, c3, _, rfl, .inr hc3, _, rfl, b, ws', 2, _, rfl, rfl, hb', at_of (j := 2) rfl hy2, g2, _, rfl, .inr hg2, rfl, _, rfl, ?_⟩) (fun h => ?_) (fun h1 h2 => ?_)
  · rw [eqV_int, l2, m1, ← decide_not] at *
    rw [decide_eq_decide.mpr (show ¬ ((ks.length : Nat) : Int) = ((ls.length : Nat) : Int) ↔ ¬ ks.length = ls.length by omega)]
    exact h
  · rw [eqV_int, l3, m2, ← decide_not] at *
    rw [decide_eq_decide.mpr (show ¬ ((ps.length : Nat) : Int) = ((qs.length : Nat) : Int) ↔ ¬ ps.length = qs.length by omega)]
    exact h
  · refine q2 (fun z => ?_) H (Fr.refl tb)
    rcases h with h | h
    · exact of_decide_eq_true h z.1
    · exact of_decide_eq_true h z.2
  · exact q1 (Classical.byContradiction fun z => by rw [decide_eq_true z] at h1; cases h1) (Classical.byContradiction fun z => by rw [decide_eq_true z] at h2; cases h2)
end
end Sc
namespace Sc
open PySem PyProof.Rows L2
theorem cut1 (x : V) (xs : List V) : cutV (x :: xs) (some 1) none = xs := by
  unfold cutV
  rw [show (some (1 : Int)) = some ((1 : Nat) : Int) from rfl, HT.sIx_nat, HT.sIx_none, List.length_cons, Nat.min_eq_left (by omega)]
  rw [List.drop_one, List.tail_cons, List.take_of_length_le (by omega)]
def givV {α : Type} (l : List (Str × α)) : List α := (l.filter fun p => p.1 == ("given" : Str)).map (·.2)
theorem givV_snoc {α : Type} (l : List (Str × α)) (s : Str) (y : α) : givV (l ++ [(s, y)]) = givV l ++ (if s = ("given" : Str) then [y] else []) := by
  unfold givV
  rw [List.filter_append, List.map_append]
  congr 1
  by_cases e : s = ("given" : Str)
  · rw [if_pos e, List.filter_cons_of_pos (by rw [e]; exact beq_self_eq_true _)]
    rfl
  · rw [if_neg e, List.filter_cons_of_neg (by simpa using e)]
    rfl
theorem giv_strs : ∀ {fm : List Str} {vs : List V} {ts : List PyData}, vs.length = fm.length → ts.length = fm.length → (∀ (i : Nat) (s : Str) (t : PyData) (y : V), fm[i]? = some s → ts[i]? = some t → vs[i]? = some y → s = ("given" : Str) → ∃ z, t = .str z ∧ y = .str z) →
    givV (fm.zip vs) = (strsD (givens fm ts)).map V.str ∧ (strsD (givens fm ts)).length ≤ fm.length
  | [], vs, ts, _, _, _ => by cases vs <;> cases ts <;> exact ⟨rfl, Nat.le_refl _⟩
  | s :: fm, [], _, h, _, _ => by cases h
  | s :: fm, _ :: _, [], _, h, _ => by cases h
  | s :: fm, y :: vs, t :: ts, h1, h2, h => by
    obtain ⟨ih, il⟩ := giv_strs (fm := fm) (vs := vs) (ts := ts) (Nat.succ.inj h1) (Nat.succ.inj h2) fun i s t y a b c => h (i + 1) s t y a b c
    by_cases e : s = ("given" : Str)
    · obtain ⟨z, rfl, rfl⟩ := h 0 s t y rfl rfl rfl e
      subst e
      have e1 : givV ((("given" : Str) :: fm).zip (V.str z :: vs)) = V.str z :: givV (fm.zip vs) := by
        unfold givV
        rw [List.zip_cons_cons, List.filter_cons_of_pos (by show (("given" : Str) == ("given" : Str)) = true; exact beq_self_eq_true _)]
        rfl
      have e2 : givens (("given" : Str) :: fm) (PyData.str z :: ts) = PyData.str z :: givens fm ts := by
        unfold givens
        rw [List.zip_cons_cons, List.filter_cons_of_pos (by show (("given" : Str) == ("given" : Str)) = true; exact beq_self_eq_true _)]
        rfl
      rw [e1, e2, ih]
      exact ⟨rfl, Nat.succ_le_succ il⟩
    · have e1 : givV ((s :: fm).zip (y :: vs)) = givV (fm.zip vs) := by
        unfold givV
        rw [List.zip_cons_cons, List.filter_cons_of_neg (by simpa using e)]
      have e2 : givens (s :: fm) (t :: ts) = givens fm ts := by
        unfold givens
        rw [List.zip_cons_cons, List.filter_cons_of_neg (by simpa using e)]
      rw [e1, e2]
      exact ⟨ih, Nat.le_succ_of_le il⟩
theorem last_last {z : Str} {fm : List Str} (h : formTab.lookup z = some fm) {i j : Nat} (h1 : fm[j]? = some ("last" : Str)) (h2 : fm[i]? = some ("given" : Str)) : i < j := by
  have all : ∀ p ∈ formTab, ∀ j < 6, ∀ i < 6, p.2[j]? = some ("last" : Str) → p.2[i]? = some ("given" : Str) → i < j := by decide +kernel
  have l := (form_slots h).2.1
  exact all _ (look_mem h) j (by have := (List.getElem?_eq_some_iff.mp h1).1; omega) i (by have := (List.getElem?_eq_some_iff.mp h2).1; omega) h1 h2
theorem form_inv {d : PyData} {w : Str} {fm : List Str} {ts : List PyData} (h : formOf d = some (w, fm, ts)) : d = .tuple (.str w :: ts) ∧ formTab.lookup w = some fm ∧ ts.length = fm.length := by
  cases d with
  | tuple ds =>
    cases ds with
    | nil => cases h
    | cons d0 dr =>
      cases d0 with
      | str z =>
        have h' : (match formTab.lookup z with | some fm => if dr.length = fm.length then some (z, fm, dr) else none | none => none) = some (w, fm, ts) := h
        cases e : formTab.lookup z with
        | none => rw [e] at h'; cases h'
        | some fm' =>
          rw [e] at h'
          by_cases q : dr.length = fm'.length
          · have h2 : (if dr.length = fm'.length then some (z, fm', dr) else none) = some (w, fm, ts) := h'
            rw [if_pos q] at h2
            have h3 := Option.some.inj h2
            injection h3 with a b
            injection b with b c
            subst a b c
            exact ⟨rfl, e, q⟩
          · have h2 : (if dr.length = fm'.length then some (z, fm', dr) else none) = some (w, fm, ts) := h'
            rw [if_neg q] at h2
            cases h2
      | _ => cases h
  | _ => cases h
theorem fn_get {K : PySem.W.Frag} {kvs : List (Key × V)} {fs : List (Str × Nat × Nat)} {z : Str} (h : kvs.map (·.1) = fs.map (fun q => (Sum.inr q.1 : Key))) (hz : z ∈ fs.map (·.1)) : ∃ (j : Nat) (v : V) (nl np : Nat), valV kvs (Sum.inr z) = some v ∧ kvs[j]? = some (Sum.inr z, v) ∧ fs[j]? = some (z, nl, np) ∧ fs.lookup z = some (nl, np) := by
  unfold valV
  induction kvs generalizing fs with
  | nil =>
    cases fs with
    | nil => cases hz
    | cons _ _ => cases h
  | cons a kvs ih =>
    cases fs with
    | nil => cases h
    | cons b fs =>
      obtain ⟨k, v⟩ := a
      obtain ⟨y, nl, np⟩ := b
      rw [List.map_cons, List.map_cons] at h
      injection h with h1 h2
      have h1 : k = Sum.inr y := h1
      subst h1
      rw [List.find?_cons, List.lookup_cons]
      by_cases e : y = z
      · subst e
        rw [show decide ((Sum.inr y : Key) = Sum.inr y) = true from decide_eq_true rfl, beq_self_eq_true]
        exact ⟨0, v, nl, np, rfl, rfl, rfl, rfl⟩
      · have hz' : z ∈ fs.map (·.1) := (List.mem_cons.mp hz).elim (fun q => absurd q.symm e) id
        obtain ⟨j, v', nl', np', a1, a2, a3, a4⟩ := ih h2 hz'
        rw [show decide ((Sum.inr y : Key) = Sum.inr z) = false from decide_eq_false fun q => e (Sum.inr.inj q), show (z == y) = false from beq_eq_false_iff_ne.mpr fun q => e q.symm]
        exact ⟨j + 1, v', nl', np', a1, a2, a3, a4⟩
end Sc
namespace Sc
open PySem PyProof.Rows L2
theorem slot_function {rec : Env0 → PyData → Option Wr} {E : Env0} {d : PyData} : gSlot rec E ("function" : Str) d = gFun E d := by
  unfold gSlot
  repeat rw [if_neg (by decide +kernel)]
  rw [if_pos rfl]
theorem slot_kinds {rec : Env0 → PyData → Option Wr} {E : Env0} {d : PyData} : gSlot rec E ("kinds" : Str) d = gKinds E.ls d := by
  unfold gSlot
  repeat rw [if_neg (by decide +kernel)]
  rw [if_pos rfl]
theorem slot_handed {rec : Env0 → PyData → Option Wr} {E : Env0} {d : PyData} : gSlot rec E ("handed" : Str) d = gHanded (rec E) d := by
  unfold gSlot
  repeat rw [if_neg (by decide +kernel)]
theorem gFun_none {E : Env0} {d : PyData} (h : gFun E d = none) : ∃ z, d = .str z ∧ z ∈ E.fs.map (·.1) := by
  cases d with
  | str z =>
    refine ⟨z, rfl, ?_⟩
    have h' : (if isWordD (.str z) = true then whenB (decide (z ∈ E.fs.map (·.1))) .nn else some .bp) = none := h
    split at h'
    · cases c : decide (z ∈ E.fs.map (·.1)) with
      | true => exact of_decide_eq_true c
      | false => rw [c] at h'; cases h'
    · cases h'
  | _ => cases h
theorem gKinds_tuple {ls : List Str} {d : PyData} (h : gKinds ls d = none) : ∃ ds, d = .tuple ds := by
  cases d with
  | tuple ds => exact ⟨ds, rfl⟩
  | _ => cases h
section
variable {P : Program} {w : World} {K : PySem.W.Frag} {mg : Str → Option Value} {base : Heap} {T0 : List Addr} {C FA NA : Addr} {cls : Wr → Addr}
theorem scPart : FnScope ["part", "place", "slots", "slot", "told", "given", "last", "need"] ["part", "place"] (defScope sPNeedPart) := ⟨rfl, rfl, rfl, by decide +kernel, rfl, by decide +kernel, by decide +kernel⟩
theorem c_need_part {n lv : Nat} (tOk : PyData → Prop) (T : Tx K mg) (R : Ers K mg cls) (L : PlC P w K mg base C) (NG : mg "NEEDS" = some (.ref NA)) (m12 : ∃ t, mg "DEEPEST_BODY" = some (.int 12 t)) (lv2 : 2 ≤ lv)
    (CF : CalX P w K mg base 1 "_form_of" ["part"] (spForm K T0 cls)) (CA : CalX P w K mg base 1 "_need_all_handed" ["part", "function"] (spAll K T0 cls))
    (NN : ∀ m, n = m + 1 → ∀ s ∈ slotNames, ∃ f, KDct K w NA s (.ref f) ∧ HeldX P w K mg base lv f (spAtG K T0 C cls (n : Int) (fun E d => slotIn (txs tOk m) tOk s d ∧ E.ns.length + 10 * m ≤ 2008) (fun E => gSlot (gPart m) E s))) :
    CalX P w K mg base (lv + 1) "_need_part" ["part", "place"] (spAtG K T0 C cls (n : Int) (fun E d => txs tOk n d ∧ E.ns.length + 10 * n ≤ 2012) (gPart n)) := by
  obtain ⟨t12, m12⟩ := m12
  obtain ⟨fI, fdI, GI, MI, BI⟩ := L.ini
  refine T.p_need_part.okX scPart (fun vs H Q E h => ?_) (fun f cdv A outer s H vs Q Ex hr h => ?_)
  · obtain ⟨v, d, p, E, rfl, _⟩ := h
    rfl
  obtain ⟨v, d, p, E, rfl, hd, ok, tb, hp, ⟨hG, few⟩, q1, q2⟩ := h
  have r1 : Room 1 _ := hr.mono (by omega)
  have r2 : Room 2 _ := hr.mono lv2
  have hu1 : (A.deeper (envOfC "_need_part" (defScope sPNeedPart) s.heap.objs.size f cdv)).units + 1 < cLine := by have := hr.un; omega
  refine ⟨_, pss_cons (ps_if (pt_cmpR op_lt (pe_fld (pv 1) rfl) pe_int (nomark _))
      (pss_one (ps_raise rfl (takes_of rfl rfl rfl rfl) (SkE.pmk_own1 PySem.F.excBase_ValueError R.bp.q R.bp.g R.bp.k (raises_own R.bp.b R.bp.t) (by exact rfl) (pe_fs (.cons pe_str (.cons (pe_fmt (pe_glob (v := .int 12) (by rfl) m12 ⟨_, rfl⟩)) (.cons pe_str .nil))))))) pss_nil)
    (pss_cons (ps_set (i := 2) scPart.nd rfl (Or.inl rfl) (ScZ.pe_listZip rfl (by rfl) T.m_list (by rfl) T.m_zip (pa_cons (pe_calX CF r1 (passes_call (takes_of rfl rfl rfl rfl) (fun _ _ _ _ h => h)) (pa_cons (pv 0) pa_nil)) (pa_cons (pe_slice sl_tup (pv 0) (po_some pe_int) po_none) pa_nil))))
    (pss_cons (ps_set (i := 5) scPart.nd rfl (Or.inl rfl) (pe_callTy call_tuple_of (by rfl) T.m_tuple (by decide +kernel) (pa_cons
        (pe_lc (own := [("slot", 3), ("told", 4)]) (g := gTup K 2 (gCons (gName 3) (gCons (gName 4) gNil))) rfl scPart.nd (pi_list (pv 2)) (blkOk_by (N := ["part", "place", "slots", "slot", "told", "given", "last", "need"]) (sc := defScope sPNeedPart) (by decide +kernel))
          (fun _ _ _ _ _ => pg_tup (by rfl) (pgs_cons (pg_name (i := 3) scPart.nd rfl (Or.inl rfl)) (pgs_cons (pg_name (i := 4) scPart.nd rfl (Or.inl rfl)) pgs_nil))) (fun _ _ _ _ _ => pts_one (pt_cmpR op_eq (pv 3) pe_str (nomark _))) (fun _ _ _ _ _ => pv 4)) pa_nil)))
    (pss_cons (ps_set (i := 6) scPart.nd rfl (Or.inl rfl) (pe_make MI GI r2 (by rfl) L.g BI .nil pass0 (pa_cons (pe_fld (pv 1) rfl) (pa_cons (pe_fld (pv 1) rfl) (pa_cons (pe_op op_catA (pe_fld (pv 1) rfl) (pv 5)) (pa_cons (pe_fld (pv 1) rfl) pa_nil))))))
    (pss_cons (ps_for (passes_of rfl) rfl (pi_list (pv 2)) (pg_tup (by rfl) (pgs_cons (pg_name (i := 3) scPart.nd rfl (Or.inl rfl)) (pgs_cons (pg_name (i := 4) scPart.nd rfl (Or.inl rfl)) pgs_nil)))
      (pss_cons (ps_set (i := 7) scPart.nd rfl (Or.inl rfl) (pe_ix ix_kdict (pe_glob (v := .ref NA) (by rfl) NG rfl) (pv 3) (fun _ _ => rfl)))
      (pss_one (ps_expr (pe_callAX (i := 7) (S := fun f sp => HeldX P w K mg base lv f sp) (fun f sp h => h) hr rfl (Or.inl rfl) (passes_call (takes_of rfl rfl rfl rfl) (fun _ _ _ _ h => h)) (pa_cons (pv 4) (pa_cons (pe_ifExp (pt_cmpR op_eq (pv 3) pe_str (nomark _)) (pv 6) (pv 1)) pa_nil)))))))
    (pss_cons (ps_if (pt_cmpR op_lt (pe_callB cr_txLen (by rfl) T.m_len PySem.boot_len (pa_cons (pe_callTy (cr_txSetT rfl) (by rfl) T.m_set (by decide +kernel) (pa_cons (pv 5) pa_nil)) pa_nil)) (pe_callB call_len_seq (by rfl) T.m_len PySem.boot_len (pa_cons (pv 5) pa_nil)) (nomark _))
      (pss_one (ps_raise rfl (takes_of rfl rfl rfl rfl) (pmk_own PySem.F.excBase_ValueError R.tt.q R.tt.g R.tt.k (raises_own R.tt.b R.tt.t) (by exact rfl)))) pss_nil)
    (pss_one (ps_if (pt_cmpR op_eq (pe_ix ix_tup (pv 0) pe_int (fun _ _ => rfl)) pe_str (nomark _))
      (pss_one (ps_expr (pe_calX CA r1 (passes_call (takes_of rfl rfl rfl rfl) (fun _ _ _ _ h => h)) (pa_cons (pv 0) (pa_cons (pe_dget hu1 (pe_fld (pv 1) rfl) (pe_ix ix_tup (pv 0) pe_int (fun _ _ => rfl)) (fun _ _ => rfl)) pa_nil))))) pss_nil))))))), ?_⟩
  obtain ⟨dx, la, fa, na, h1, h2, h3, h4⟩ := id hp.at_
  refine ⟨_, rfl, p, C, dx, _, _, rfl, h1, L.cl, L.n4, pl_room la fa na, _, _, rfl, rfl, _, rfl, ite2 (fun e => ?_) (fun e => ?_)⟩
  · have n0 : n = 0 := by have := of_decide_eq_true e; omega
    refine ⟨_, rfl, by decide +kernel, .inr ⟨12, rfl, by decide, _, rfl, by decide +kernel, _, rfl, by decide +kernel, ?_⟩⟩
    subst n0
    exact q2 .bp rfl H (Fr.refl tb)
  have n1 : 0 < n := by
    have := of_decide_eq_false (Bool.eq_false_iff.mpr e)
    omega
  obtain ⟨m, rfl⟩ : ∃ m, n = m + 1 := ⟨n - 1, by omega⟩
  have NN := NN m rfl
  refine ⟨_, rfl, v, d, rfl, hd, ok, tb, fun wd fm ts ef tf hq => ?_, fun e H' f' => q2 .bp (by show (match formOf d with | none => _ | some (w, fm, ts) => _) = _; rw [e]) H' f'⟩
  obtain ⟨rfl, et, el⟩ := form_inv ef
  obtain ⟨slots, l6, _⟩ := form_slots et
  have dp0 := hd
  cases hd with
  | tup ht hds =>
    rename_i a vs
    obtain ⟨len, okx⟩ := ok.sub
    cases hds with
    | cons h0 hr0 =>
      rename_i x0 vr
      obtain rfl : x0 = .str wd := by cases h0; rfl
      have lr := DpAll.len hr0
      have lvf : vr.length = fm.length := lr.trans el
      refine ⟨_, rfl, _, rfl, a, _, rfl, ht, ?_, fun s1 hs1 => ?_⟩
      · rw [show (some (1 : Int)) = some ((1 : Nat) : Int) from rfl, HT.sIx_nat, List.length_cons, Nat.min_eq_left (by omega)]
        exact fun z => absurd z.1 (by decide)
      rw [cut1]
      have e1 := same_new hs1 (.tup vr)
      refine ⟨tf, s1, fm.map V.str, vr, rfl, hq _, SqT.of upd_same, by rw [List.length_map, lvf], fun H2 l ts' ex nl nts nin hl lts pr => ?_⟩
      have e2 : Same H H2 := Same.trans e1 ex
      rw [List.length_map] at lts
      have pr' : ∀ (j : Nat) (x : V), (ts'.map V.ref)[j]? = some x → ∃ (t : Addr) (s : Str) (y : V) (td : PyData), x = .ref t ∧ H2 t = some (.tup [.str s, y]) ∧ fm[j]? = some s ∧ vr[j]? = some y ∧ ts[j]? = some td ∧ Dp K H y td ∧ s ∈ slotNames := fun j x hx => by
        rw [List.getElem?_map] at hx
        obtain ⟨t, ht', rfl⟩ := Option.map_eq_some_iff.mp hx
        obtain ⟨x', y, a1, a2, a3⟩ := pr j t ht'
        rw [List.getElem?_map] at a1
        obtain ⟨s, b1, rfl⟩ := Option.map_eq_some_iff.mp a1
        obtain ⟨td, c1, c2⟩ := DpAll.get hr0 a2
        exact ⟨t, s, y, td, rfl, a3, b1, a2, c1, c2, slots s (List.mem_of_getElem? b1)⟩
      have lz : (fm.zip vr).length = fm.length := by rw [List.length_zip, lvf, Nat.min_self]
      dsimp only [gName]
      refine ⟨_, rfl, l, rfl, ⟨_, SqL.of hl⟩, fun D hD => ?_⟩
      refine lc_list (K := K) (a := l) (xs := ts'.map V.ref) (fun j H3 => Same H2 H3 ∧ H3 D = some (.lst (givV ((fm.zip vr).take j)))) ⟨same_new hD _, upd_same⟩ (fun j H3 _ h => SqL.of (h.1 _ _ hl)) ?_ ?_
      · rintro j x H3 hx ⟨e3, h3'⟩
        obtain ⟨t, s, y, td, rfl, a1, a2, a3, _⟩ := pr' j x hx
        have hz : (fm.zip vr)[j]? = some (s, y) := List.getElem?_zip_eq_some.mpr ⟨a2, a3⟩
        have jl := (List.getElem?_eq_some_iff.mp a2).1
        have st : givV ((fm.zip vr).take (j + 1)) = givV ((fm.zip vr).take j) ++ (if s = ("given" : Str) then [y] else []) := by rw [List.take_add_one, hz]; exact givV_snoc _ s y
        refine ⟨t, _, rfl, SqT.of (e3 _ _ a1), rfl, _, _, rfl, _, _, rfl, rfl, rfl, _, rfl, rfl, _, rfl, ite2 (fun e => ?_) (fun e => ?_)⟩
        · have es : s = ("given" : Str) := V.str.inj (of_decide_eq_true e)
          rw [if_pos es] at st
          refine ⟨_, rfl, _, h3', small1000 ?_, fun b o hb => ?_, by rw [upd_same, st]⟩
          · unfold givV
            rw [List.length_map]
            have := List.length_filter_le (fun p : Str × V => p.1 == ("given" : Str)) ((fm.zip vr).take j)
            have := List.length_take_le' j (fm.zip vr)
            omega
          · rw [upd_ne (ne_of_none hb hD)]
            exact e3 b o hb
        · have es : ¬ s = ("given" : Str) := fun z => e (decide_eq_true (congrArg V.str z))
          rw [if_neg es, List.append_nil] at st
          exact ⟨e3, by rw [st]; exact h3'⟩
      rintro H3 ⟨e3, h3'⟩
      rw [List.take_of_length_le (by rw [List.length_map]; omega)] at h3'
      generalize hgv : givV (fm.zip vr) = gv at h3'
      have gl : gv.length ≤ 6 := by
        rw [← hgv]
        unfold givV
        rw [List.length_map]
        have := List.length_filter_le (fun p : Str × V => p.1 == ("given" : Str)) (fm.zip vr)
        omega
      refine ⟨D, gv, rfl, .inl ⟨SqL.of h3', fun g hg => ?_⟩⟩
      have e4 : Same H (upd H3 g (.tup gv)) := Same.trans e2 (Same.trans e3 (same_new hg _))
      have hg4 : SqT K (upd H3 g (.tup gv)) g gv := SqT.of upd_same
      have hl4 : SqL K (upd H3 g (.tup gv)) l (ts'.map V.ref) := SqL.of (same_new hg _ _ _ (e3 _ _ hl))
      have e24 : Same H2 (upd H3 g (.tup gv)) := Same.trans e3 (same_new hg _)
      generalize (upd H3 g (.tup gv)) = H4 at e4 hg4 hl4 e24 ⊢
      have f4 : Fr T0 H H4 := Fr.same tb e4
      obtain ⟨h1a, h2a, h3a, h4a⟩ : H4 p = some (.ins C dx (placeF la fa na ((m + 1 : Nat) : Int))) ∧ SqT K H4 la (E.ls.map V.str) ∧ FnsAt K H4 fa E.fs ∧ SqT K H4 na (E.ns.map V.str) := ⟨e4 _ _ h1, (Fr.keep tb f4).2 _ _ h2, h3.keep tb f4, (Fr.keep tb f4).2 _ _ h4⟩
      have key : ∀ Q' : V → Hp → Prop, (∀ c H5, Same H4 H5 → SqT K H5 c (E.ns.map V.str ++ gv) → Q' (.ref c) H5) → rCatA K (.ref na) (.ref g) H4 Q' := fun Q' k => by
        refine ⟨na, g, _, _, rfl, rfl, h4a, hg4, ?_, fun z => ?_, fun _ z => ?_, fun _ _ q hq' => ?_⟩
        · rw [List.length_map]; exact sizeOk (by omega)
        · exact k g H4 (fun _ _ e => e) (by rw [z]; exact hg4)
        · exact k na H4 (fun _ _ e => e) (by rw [z, List.append_nil]; exact h4a)
        · exact k q _ (same_new hq' _) (SqT.of upd_same)
      dsimp only [gName]
      refine ⟨_, rfl, p, C, dx, _, _, rfl, h1a, L.cl, L.n1, pl_letters la fa na, _, rfl, p, C, dx, _, _, rfl, h1a, L.cl, L.n2, pl_functions la fa na, _, rfl, p, C, dx, _, _, rfl, h1a, L.cl, L.n3, pl_names la fa na, _, rfl, key _ fun c H5 e5 hc => ?_⟩
      refine ⟨_, rfl, p, C, dx, _, _, rfl, e5 _ _ h1a, L.cl, L.n4, pl_room la fa na, fun x dx' nx ndx nex => ?_⟩
      have s0 : Same H5 (upd (upd H5 dx' (.own x)) x (.ins C dx' [])) := fun b o e => by
        rw [upd_ne (ne_of_none e nx), upd_ne (ne_of_none e ndx)]
        exact e
      refine ⟨x, dx', la, fa, c, _, rfl, upd_same, fun H6 hx kp => ⟨rfl, ?_⟩⟩
      have e56 : Same H5 H6 := fun b o e => kp b o (s0 b o e) (ne_of_none e nx)
      have e46 := Same.trans e5 e56
      have e6 : Same H H6 := Same.trans e4 e46
      have f6 : Fr T0 H H6 := Fr.same tb e6
      have hc6 : SqT K H6 c (E.ns.map V.str ++ gv) := (Same.keep e56) _ _ hc
      have hg6 : SqT K H6 g gv := (Same.keep e46) _ _ hg4
      have hl6 : H6 l = some (.lst (ts'.map V.ref)) := e46 _ _ (e24 _ _ hl)
      have pr6 : ∀ (j : Nat) (x : V), (ts'.map V.ref)[j]? = some x → ∃ (t : Addr) (s : Str) (y : V) (td : PyData), x = .ref t ∧ H6 t = some (.tup [.str s, y]) ∧ fm[j]? = some s ∧ vr[j]? = some y ∧ ts[j]? = some td ∧ Dp K H y td ∧ s ∈ slotNames := fun j x hx => by
        obtain ⟨t, s, y, td, a0, a1, a2⟩ := pr' j x hx
        exact ⟨t, s, y, td, a0, e46 _ _ (e24 _ _ a1), a2⟩
      obtain ⟨Le, hLe⟩ : ∃ Le : Env0, Le = { E with ns := E.ns ++ strsD (givens fm ts) } := ⟨_, rfl⟩
      have gdef : gPart (m + 1) E (.tuple (.str wd :: ts)) = (match firstBad ((fm.zip ts).map fun p => gSlot (gPart m) (if p.1 = ("last" : Str) then Le else E) p.1 p.2) with
          | some b => some b
          | none => if (strsD (givens fm ts)).Nodup then (if wd = ("call" : Str) then whenB (callOk E ts) .bp else none) else some .tt) := by
        subst hLe
        show (match formOf (.tuple (.str wd :: ts)) with | none => some Wr.bp | some (w, fm, ts) => _) = _
        rw [ef] <;> rfl
      have words : (∀ i s t, fm[i]? = some s → ts[i]? = some t → s = ("given" : Str) → gWord t = none) → gv = (strsD (givens fm ts)).map V.str ∧ (strsD (givens fm ts)).length ≤ fm.length := fun hw => by
        rw [← hgv]
        refine giv_strs lvf el fun i s t y a1 a2 a3 a4 => ?_
        obtain ⟨z, rfl, _⟩ := gWord_none (hw i s t a1 a2 a4)
        obtain ⟨td, b1, b2⟩ := DpAll.get hr0 a3
        rw [a2] at b1
        cases b1
        cases b2
        exact ⟨z, rfl, rfl⟩
      have zz : ∀ (j : Nat) (s : Str) (td : PyData), fm[j]? = some s → ts[j]? = some td → ((fm.zip ts).map fun p => gSlot (gPart m) (if p.1 = ("last" : Str) then Le else E) p.1 p.2)[j]? = some (gSlot (gPart m) (if s = ("last" : Str) then Le else E) s td) := fun j s td a b => by
        have hz : (fm.zip ts)[j]? = some (s, td) := List.getElem?_zip_eq_some.mpr ⟨a, b⟩
        rw [List.getElem?_map, hz]
        rfl
      have lzt : ((fm.zip ts).map fun p => gSlot (gPart m) (if p.1 = ("last" : Str) then Le else E) p.1 p.2).length = fm.length := by rw [List.length_map, List.length_zip, el, Nat.min_self]
      dsimp only [gName]
      refine ⟨_, rfl, l, rfl, ⟨_, SqL.of hl6⟩, ?_⟩
      refine for_list (K := K) (a := l) (xs := ts'.map V.ref) (fun j σ2 H7 => Fr T0 H6 H7 ∧ (∃ o3 o4 o7, σ2 = [some (.ref a), some (.ref p), some (.ref l), o3, o4, some (.ref g), some (.ref x), o7]) ∧
          ∀ i s td, i < j → fm[i]? = some s → ts[i]? = some td → gSlot (gPart m) (if s = ("last" : Str) then Le else E) s td = none) ⟨Fr.refl f6.tab, ⟨_, _, _, rfl⟩, fun i s td h => absurd h (Nat.not_lt_zero _)⟩ (fun j σ2 H7 _ h => (Fr.keep f6.tab h.1).1 _ _ (SqL.of hl6)) ?_ ?_
      · rintro j xx σ2 H7 hxx ⟨f7, ⟨o3, o4, o7, rfl⟩, al⟩
        obtain ⟨t, s, y, td, rfl, a1, a2, a3, a4, a5, a6⟩ := pr6 j xx hxx
        have f07 := f6.trans f7
        have jl := (List.getElem?_eq_some_iff.mp a2).1
        have mt := List.mem_of_getElem? a4
        have ht7 : SqT K H7 t [.str s, y] := (Fr.keep f6.tab f7).2 _ _ (SqT.of a1)
        have hy7 : Dp K H7 y td := (Fr.keep tb f07).dp a5
        have okt := okx td (List.mem_cons_of_mem _ mt)
        obtain ⟨f, kd, hX⟩ := NN s a6
        have grd : slotIn (txs tOk m) tOk s td := hG wd fm ts ef j s td a2 a4
        have nxt : gSlot (gPart m) (if s = ("last" : Str) then Le else E) s td = none → ∀ i s' td', i < j + 1 → fm[i]? = some s' → ts[i]? = some td' → gSlot (gPart m) (if s' = ("last" : Str) then Le else E) s' td' = none := fun e i s' td' hi b1 b2 => by
          rcases Nat.lt_succ_iff_lt_or_eq.mp hi with z | z
          · exact al i s' td' z b1 b2
          · subst z
            rw [a2] at b1
            rw [a4] at b2
            cases b1
            cases b2
            exact e
        have bad : ∀ b, gSlot (gPart m) (if s = ("last" : Str) then Le else E) s td = some b → ∀ H', Fr T0 H H' → Ex (.ref (cls b)) none H' := fun b e => q2 b (by
          rw [gdef, fb_at (j := j) (b := b) (fun i x' hi hx' => ?_) (by rw [zz j s td a2 a4, e])]
          have il : i < fm.length := by omega
          have c1 : fm[i]? = some fm[i] := List.getElem?_eq_getElem il
          have c2 : ts[i]? = some (ts[i]'(by omega)) := List.getElem?_eq_getElem _
          rw [zz i _ _ c1 c2] at hx'
          rw [← Option.some.inj hx']
          exact al i _ _ hi c1 c2)
        refine ⟨t, _, rfl, ht7, rfl, _, _, rfl, _, _, rfl, rfl, ?_⟩
        dsimp only [gName]
        refine ⟨_, rfl, NA, s, _, rfl, rfl, kd, ?_⟩
        dsimp only [gName]
        refine ⟨f, _, rfl, hX, _, rfl, _, rfl, rfl, _, rfl, ite2 (fun e => ?_) (fun e => ?_)⟩
        · have es : s = ("last" : Str) := V.str.inj (of_decide_eq_true e)
          rw [if_pos es] at nxt bad
          obtain ⟨gs, gsl⟩ := words fun i s' t' b1 b2 b3 => by
            subst b3
            have lt := last_last et (by rw [a2, es]) b1
            have z := al i _ t' lt b1 b2
            rw [if_neg (show ¬ (("given" : Str) = "last") by decide +kernel)] at z
            exact z
          have hpl : PlaceAt K C H7 x Le ((m + 1 : Nat) : Int) := by
            rw [hLe]
            refine PlaceAt.keep (T := T0) ⟨⟨dx', la, fa, c, hx, (Same.keep e46) _ _ h2a, h3a.keep f4.tab (Fr.same f4.tab e46), ?_⟩⟩ f6.tab f7
            show SqT K H6 c ((E.ns ++ strsD (givens fm ts)).map V.str)
            rw [List.map_append, ← gs]
            exact hc6
          refine ⟨_, rfl, y, td, x, Le, rfl, hy7, okt, f7.tab, hpl, ⟨grd, ?_⟩, fun e2 H8 f8 => ⟨f7.trans f8, ⟨_, _, _, rfl⟩, nxt e2⟩, fun b e2 H8 f8 => bad b e2 H8 (f07.trans f8)⟩
          rw [hLe]
          show (E.ns ++ strsD (givens fm ts)).length + 10 * m ≤ 2008
          rw [List.length_append]
          omega
        · have es : ¬ s = ("last" : Str) := fun z => e (decide_eq_true (congrArg V.str z))
          rw [if_neg es] at nxt bad
          exact ⟨_, rfl, y, td, p, E, rfl, hy7, okt, f7.tab, hp.keep tb f07, ⟨grd, by omega⟩, fun e2 H8 f8 => ⟨f7.trans f8, ⟨_, _, _, rfl⟩, nxt e2⟩, fun b e2 H8 f8 => bad b e2 H8 (f07.trans f8)⟩
      rintro σ2 H7 ⟨f7, ⟨o3, o4, o7, rfl⟩, al⟩
      rw [List.length_map] at al
      have f07 := f6.trans f7
      have all : firstBad ((fm.zip ts).map fun p => gSlot (gPart m) (if p.1 = ("last" : Str) then Le else E) p.1 p.2) = none := fb_none.mpr fun y hy => by
        obtain ⟨i, hi⟩ := List.getElem?_of_mem hy
        have il : i < fm.length := by have := (List.getElem?_eq_some_iff.mp hi).1; omega
        have c1 : fm[i]? = some fm[i] := List.getElem?_eq_getElem il
        have c2 : ts[i]? = some (ts[i]'(by omega)) := List.getElem?_eq_getElem _
        rw [zz i _ _ c1 c2] at hi
        rw [← Option.some.inj hi]
        exact al i _ _ (by omega) c1 c2
      rw [all] at gdef
      have gdef : gPart (m + 1) E (.tuple (.str wd :: ts)) = if (strsD (givens fm ts)).Nodup then (if wd = ("call" : Str) then whenB (callOk E ts) .bp else none) else some .tt := gdef
      obtain ⟨gs, gsl⟩ := words fun i s' t' b1 b2 b3 => by
        subst b3
        have il := (List.getElem?_eq_some_iff.mp b1).1
        have z := al i _ t' (by omega) b1 b2
        rw [if_neg (show ¬ (("given" : Str) = "last") by decide +kernel)] at z
        exact z
      have hg7 : SqT K H7 g ((strsD (givens fm ts)).map V.str) := by rw [← gs]; exact (Fr.keep f6.tab f7).2 _ _ hg6
      generalize strsD (givens fm ts) = zs at gs gsl hg7 gdef
      have ht7 : SqT K H7 a (.str wd :: vr) := (Fr.keep tb f07).2 _ _ ht
      refine ⟨_, rfl, g, zs, rfl, .inr hg7, by omega, fun u mm hu hm => ⟨u, _, mm, rfl, upd_same, fun ys nd mem ln => ?_⟩⟩
      have mem' : ∀ x, x ∈ ys ↔ x ∈ zs := fun x => (mem x).trans decide_eq_true_iff
      obtain ⟨nl1, nl2⟩ := nodup_len nd mem' ln
      have e8 := same_new hu (TxO w u (fun y => decide (y ∈ zs)) mm)
      have f08 : Fr T0 H _ := f07.trans (Fr.same f7.tab e8)
      refine ⟨_, rfl, g, _, rfl, .inr ((Same.keep e8) _ _ hg7), _, _, rfl, rfl, _, rfl, ite2 (fun c => ?_) (fun c => ?_)⟩
      · have lt := of_decide_eq_true c
        rw [List.length_map] at lt
        have nn := nl1.mp (by omega)
        exact q2 .tt (by rw [gdef, if_neg nn]) _ f08
      · have ge := of_decide_eq_false (Bool.eq_false_iff.mpr c)
        rw [List.length_map] at ge
        have nn : zs.Nodup := Classical.byContradiction fun z => absurd (nl1.mpr z) (by omega)
        rw [if_pos nn] at gdef
        have ht8 := (Same.keep e8) _ _ ht7
        refine ⟨_, rfl, a, _, _, _, rfl, rfl, ht8, at_of (j := 0) rfl rfl, rfl, _, rfl, ite2 (fun e => ?_) (fun e => ?_)⟩
        · have es : wd = ("call" : Str) := V.str.inj (of_decide_eq_true e)
          subst es
          rw [if_pos rfl] at gdef
          have efm : formTab.lookup ("call" : Str) = some (["function", "kinds", "handed"] : List Str) := by decide +kernel
          rw [efm] at et
          obtain rfl := Option.some.inj et
          have a0 := al 0 ("function" : Str)
          have a1 := al 1 ("kinds" : Str)
          have a2 := al 2 ("handed" : Str)
          obtain ⟨t0, t1, t2, rfl⟩ : ∃ t0 t1 t2, ts = [t0, t1, t2] := by
            match ts, el with
            | [t0, t1, t2], _ => exact ⟨t0, t1, t2, rfl⟩
          have l3 : ts'.length = 3 := lts
          have g0 := a0 t0 (by omega) rfl rfl
          have g1 := a1 t1 (by omega) rfl rfl
          have g2 := a2 t2 (by omega) rfl rfl
          rw [if_neg (show ¬ (("function" : Str) = "last") by decide +kernel), slot_function] at g0
          rw [if_neg (show ¬ (("kinds" : Str) = "last") by decide +kernel), slot_kinds] at g1
          rw [if_neg (show ¬ (("handed" : Str) = "last") by decide +kernel), slot_handed] at g2
          obtain ⟨z, rfl, hz⟩ := gFun_none g0
          obtain ⟨ks, rfl⟩ := gKinds_tuple g1
          obtain ⟨ps, rfl⟩ := gHanded_tuple g2
          have dp8 := (Fr.keep tb f08).dp dp0
          have hp8 := hp.keep tb f08
          obtain ⟨dx8, la8, fa8, na8, k1, k2, ⟨kvs, m1, m2, nd8, m3⟩, k4⟩ := hp8.at_
          obtain ⟨j, fv, nlq, npq, v1, v2, v3, v4⟩ := fn_get (K := K) m2 hz
          obtain ⟨d0, lq, qs, d3, d4, hf, ll, lp⟩ := m3 j _ _ _ _ _ v2 v3
          cases hr0 with
          | cons hy0 hr1 =>
            rename_i y0 vr1
            obtain rfl : y0 = .str z := by cases hy0; rfl
            have eok : callOk E [.str z, .tuple ks, .tuple ps] = (decide (ks.length = nlq) && decide (ps.length = npq)) := by
              show (match E.fs.lookup z with | some (nl9, np9) => _ | none => false) = _
              rw [v4]
            refine ⟨_, rfl, _, rfl, p, C, dx8, _, _, rfl, k1, L.cl, L.n2, pl_functions la8 fa8 na8, _, rfl, a, _, _, _, rfl, rfl, ht8, at_of (j := 1) rfl rfl, fa8, fv, rfl, ?_, .ref a, fv, .str ("call" : Str), .str z, ks, ps, d0, d3, d4, lq, qs, rfl, dp8, hf, f08.tab, fun c1 c2 => ?_, fun c H9 f9 => ?_⟩
            · rw [← v1]
              exact DGet.k (k := Sum.inr z) m1
            · exact q1 (by rw [gdef, eok, decide_eq_true (c1.trans ll), decide_eq_true (c2.trans lp)]; rfl) _ f08
            · refine q2 .bp ?_ H9 (f08.trans f9)
              rw [gdef, eok]
              have : (decide (ks.length = nlq) && decide (ps.length = npq)) = false := by
                refine Bool.eq_false_iff.mpr fun z => c ?_
                rw [Bool.and_eq_true, decide_eq_true_eq, decide_eq_true_eq] at z
                exact ⟨z.1.trans ll.symm, z.2.trans lp.symm⟩
              rw [this]
              rfl
        · have ne : ¬ wd = ("call" : Str) := fun z => e (decide_eq_true (congrArg V.str z))
          exact q1 (by rw [gdef, if_neg ne]) _ f08
end
end Sc
namespace Sc
open PySem PyProof.Rows L2
def pairOk (p : PyData → Bool) : PyData → Option Wr
  | .tuple [n, _] => whenB (p n) .bp
  | _ => some .bp
def leadD : PyData → PyData
  | .tuple (n :: _) => n
  | _ => .none
/-- pairs, led by what p lets lead, each once -/
def gPairs (p : PyData → Bool) : PyData → Option Wr
  | .tuple ds => match firstBad (ds.map (pairOk p)) with
    | some b => some b
    | none => if (strsD (ds.map leadD)).Nodup then none else some .tt
  | _ => some .bp
theorem pairOk_none {p : PyData → Bool} (hp : ∀ d, p d = true → ∃ z, d = .str z) {d : PyData} (h : pairOk p d = none) : ∃ z k, d = .tuple [.str z, k] ∧ p (.str z) = true := by
  match d, h with
  | .tuple [n, k], h =>
    have h' : whenB (p n) .bp = none := h
    cases hn : p n with
    | true =>
      obtain ⟨z, rfl⟩ := hp n hn
      exact ⟨z, k, rfl, hn⟩
    | false => rw [hn] at h'; cases h'
theorem lead_strs {p : PyData → Bool} (hp : ∀ d, p d = true → ∃ z, d = .str z) : ∀ {ds : List PyData}, (∀ d ∈ ds, pairOk p d = none) → strsD (ds.map leadD) = ds.map nameD
  | [], _ => rfl
  | d :: ds, h => by
    obtain ⟨z, k, rfl, _⟩ := pairOk_none hp (h d List.mem_cons_self)
    show z :: strsD (ds.map leadD) = z :: ds.map nameD
    rw [lead_strs hp fun d m => h d (List.mem_cons_of_mem _ m)]
section
variable {P : Program} {w : World} {K : PySem.W.Frag} {mg : Str → Option Value} {base : Heap} {T0 : List Addr} {cls : Wr → Addr}
/-- a test that is handed over by its address -/
structure Tst (P : Program) (w : World) (K : PySem.W.Frag) (mg : Str → Option Value) (base : Heap) (T0 : List Addr) (f : Addr) (p : PyData → Bool) : Prop where
  ex : ∃ (fd : FuncData) (ps : List Str), FnOk P w K mg base CX0 2 f fd ps (spTest K T0 p) ∧ PySem.W.keepIn K (.ref f) = true ∧ Binds K fd ps []
theorem gPairs_eq (p : PyData → Bool) (ds : List PyData) : gPairs p (.tuple ds) = (match firstBad (ds.map (pairOk p)) with
    | some b => some b
    | none => if (strsD (ds.map leadD)).Nodup then none else some .tt) := rfl
def spPairs (P : Program) (w : World) (K : PySem.W.Frag) (mg : Str → Option Value) (base : Heap) (T : List Addr) (cls : Wr → Addr) : Sp := fun vs H Q Ex => ∃ (v : V) (d : PyData) (f : Addr) (p : PyData → Bool), vs = [v, .ref f] ∧ Dp K H v d ∧ okD d ∧ Tb T H ∧ Tst P w K mg base T f p ∧ (∀ d, p d = true → ∃ z, d = .str z) ∧
  (gPairs p d = none → ∀ H', Fr T H H' → Q .non H') ∧ (∀ b, gPairs p d = some b → ∀ H', Fr T H H' → Ex (.ref (cls b)) none H')
theorem scPairs : FnScope ["pairs", "may_lead", "pair"] ["pairs", "may_lead"] (defScope sPNeedPairs) := ⟨rfl, rfl, rfl, by decide +kernel, rfl, by decide +kernel, by decide +kernel⟩
/-- a call of a local name that holds one of several tests -/
def tCallT (i : Nat) (S : Addr → Sp → Prop) (t : TA) : TE := fun σ H Q => ∃ f sp, σ[i]? = some (some (.ref f)) ∧ S f sp ∧ t σ H fun vs H1 => sp vs H1 Q E0
theorem pe_callT {X : Cx} {k i : Nat} {x : Str} {e : Expr} {es : List Expr} {t : TA} {p pos : Pos} {S : Addr → Sp → Prop} (A : ∀ f sp, S f sp → ∃ (fd : FuncData) (ps : List Str), FnOk X.prog X.w X.K X.mg X.base CX0 k f fd ps sp ∧ PySem.W.keepIn X.K (.ref f) = true ∧ Binds X.K fd ps []) (hr : Room k X.A) (hN : X.N[i]? = some x) (hv : Vis X.env.scope x) (ha : PA X (e :: es) t)
    (hdb : (x == ("__debug__" : Str)) = false := by decide) (hcd : (x == ("__classdict__" : Str)) = false := by decide)
    (he : starEach (e :: es) X.env = (false, eval e X.env) :: starEach es X.env := by rfl) (hpl : (backTo pos (starEach es X.env)).any (·.1) = false := by rfl) : PE X (.Call (.Name x p) (e :: es) [] pos) (tCallT i S t) := by
  refine ⟨fun pins s σ H Q I h => ?_⟩
  obtain ⟨f, sp, hs, hS, ht⟩ := h
  obtain ⟨fd, ps, F, hk, hb⟩ := A f sp hS
  refine (pe_callL (i := i) (f := f) (sp := sp) (dvs := []) (E := E0) F hr hN hv hk hb .nil pass0 ha hdb hcd he hpl).run pins s σ H Q I ⟨hs, ?_⟩
  have e0 : (fun (vs : List V) (H1 : Hp) => sp (vs ++ []) H1 Q E0) = fun vs H1 => sp vs H1 Q E0 := by
    funext vs H1
    rw [List.append_nil]
  show t σ H (fun vs H1 => sp (vs ++ []) H1 Q E0)
  rw [e0]
  exact ht
theorem strsD_map : ∀ (zs : List Str), strsD (zs.map PyData.str) = zs
  | [] => rfl
  | z :: zs => by show z :: strsD (zs.map PyData.str) = _; rw [strsD_map zs]
theorem c_need_pairs (T : Tx K mg) (R : Ers K mg cls) : CalX P w K mg base 3 "_need_pairs" ["pairs", "may_lead"] (spPairs P w K mg base T0 cls) := by
  refine T.p_need_pairs.okX scPairs (fun vs H Q E h => ?_) (fun f cdv A outer s H vs Q Ex hr h => ?_)
  · obtain ⟨v, d, f, p, rfl, _⟩ := h
    rfl
  obtain ⟨v, d, fT, p, rfl, hd, ok, tb, hT, hp, q1, q2⟩ := h
  refine ⟨_, pss_cons (ps_if (pt_not (pt_val (pe_callB call_isi (by rfl) T.m_isinstance boot_isinstance (pa_cons (pv 0) (pa_cons (pe_bltn (v := .ty "tuple") (by rfl) T.m_tuple boot_tuple rfl) pa_nil)))))
      (pss_one (ps_raise rfl (takes_of rfl rfl rfl rfl) (pmk_own PySem.F.excBase_ValueError R.bp.q R.bp.g R.bp.k (raises_own R.bp.b R.bp.t) (by exact rfl)))) pss_nil)
    (pss_cons (ps_for (passes_of rfl) rfl (pi_tup (pv 0)) (pg_name (i := 2) scPairs.nd rfl (Or.inl rfl))
      (pss_one (ps_if (PW.pt (pw_or (pt_not (pt_val (pe_callB call_isi (by rfl) T.m_isinstance boot_isinstance (pa_cons (pv 2) (pa_cons (pe_bltn (v := .ty "tuple") (by rfl) T.m_tuple boot_tuple rfl) pa_nil)))))
        (pw_or (pt_cmpR op_ne (pe_callB call_len_seq (by rfl) T.m_len PySem.boot_len (pa_cons (pv 2) pa_nil)) pe_int (nomark _))
        (pw_or1 (pt_not (pt_val (pe_callT (i := 1) (S := fun f sp => ∃ p, sp = spTest K T0 p ∧ Tst P w K mg base T0 f p) (fun f sp h => by obtain ⟨p, rfl, h⟩ := h; exact h.ex) hr rfl (Or.inl rfl) (pa_cons (pe_ix ix_tup (pv 2) pe_int (fun _ _ => rfl)) pa_nil))))))))
        (pss_one (ps_raise rfl (takes_of rfl rfl rfl rfl) (pmk_own PySem.F.excBase_ValueError R.bp.q R.bp.g R.bp.k (raises_own R.bp.b R.bp.t) (by exact rfl)))) pss_nil)))
    (pss_one (ps_if (pt_cmpR op_lt (pe_callB cr_txLen (by rfl) T.m_len PySem.boot_len (pa_cons (pe_callTy (cr_txSetT rfl) (by rfl) T.m_set (by decide +kernel) (pa_cons
          (pe_lc (own := [("pair", 2)]) (g := gName 2) (tt := tYes) rfl scPairs.nd (pi_tup (pv 0)) (blkOk_by (N := ["pairs", "may_lead", "pair"]) (sc := defScope sPNeedPairs) (by decide +kernel))
            (fun _ _ _ _ _ => pg_name (i := 2) scPairs.nd rfl (Or.inl rfl)) (fun _ _ _ _ _ => pts_nil) (fun _ _ _ _ _ => pe_ix (ix_tupK K) (pv 2) pe_int (fun _ _ => rfl))) pa_nil)) pa_nil)) (pe_callB call_len_seq (by rfl) T.m_len PySem.boot_len (pa_cons (pv 0) pa_nil)) (nomark _))
      (pss_one (ps_raise rfl (takes_of rfl rfl rfl rfl) (pmk_own PySem.F.excBase_ValueError R.tt.q R.tt.g R.tt.k (raises_own R.tt.b R.tt.t) (by exact rfl)))) pss_nil))), ?_⟩
  refine ⟨_, rfl, _, _, _, _, _, rfl, .ty _, Dp.ty hd, kit_ty (isTup hd), _, rfl, ?_⟩
  cases hd with
  | tup ht hds =>
    rename_i a vs ds
    obtain ⟨len, okx⟩ := ok.sub
    have lv := DpAll.len hds
    rw [gPairs_eq] at q1
    have q2 : ∀ b, (match firstBad (ds.map (pairOk p)) with | some b => some b | none => if (strsD (ds.map leadD)).Nodup then none else some .tt) = some b → ∀ H', Fr T0 H H' → Ex (.ref (cls b)) none H' := fun b e => q2 b (by rw [gPairs_eq]; exact e)
    refine ⟨_, rfl, a, rfl, ⟨_, ht⟩, ?_⟩
    refine for_tup (K := K) (a := a) (xs := vs) (fun j σ2 H2 => Fr T0 H H2 ∧ (∃ o, σ2 = [some (.ref a), some (.ref fT), o]) ∧ ∀ i d, i < j → ds[i]? = some d → pairOk p d = none) ⟨Fr.refl tb, ⟨_, rfl⟩, fun i d h => absurd h (Nat.not_lt_zero _)⟩ (fun j σ2 H2 _ h => (Fr.keep tb h.1).2 _ _ ht) ?_ ?_
    · rintro j x σ2 H2 hx ⟨f2, ⟨o, rfl⟩, al⟩
      obtain ⟨d, hd1, hd2⟩ := DpAll.get hds hx
      have md := List.mem_of_getElem? hd1
      have okd := okx d md
      obtain ⟨n1, n2⟩ := loop_bad (g := pairOk p) al hd1
      have bad : pairOk p d = some .bp → ∀ H', Fr T0 H H' → Ex (.ref (cls .bp)) none H' := fun e => q2 .bp (by rw [n2 .bp e])
      have hd2' := (Fr.keep tb f2).dp hd2
      have ty := Dp.ty hd2'
      have it := isTup hd2'
      dsimp only [gName]
      cases hd2' with
      | tup ht2 hds2 =>
        rename_i a2 vs2 ds2
        have lv2 := DpAll.len hds2
        refine ⟨_, rfl, _, _, _, _, _, rfl, .ty _, ty, kit_ty it, _, rfl, ?_⟩
        refine iteNo (by show ¬ ((!true) = true); decide) ?_
        refine ⟨_, rfl, a2, vs2, rfl, .inr ht2, rfl, _, rfl, ite2 (fun c => ?_) (fun c => ?_)⟩
        · have ne : ¬ vs2.length = 2 := fun z => by rw [z] at c; exact absurd c (by decide)
          refine iteYes rfl ?_
          refine bad ?_ H2 f2
          match ds2, lv2 with
          | [], _ => rfl
          | [_], _ => rfl
          | [_, _], l => exact absurd l ne
          | _ :: _ :: _ :: _, _ => rfl
        · have two : vs2.length = 2 := Classical.byContradiction fun z => c (by
            have : ¬ ((vs2.length : Nat) : Int) = 2 := by omega
            simpa using this)
          obtain ⟨x1, x2, d1, d2, rfl, rfl, h3, h4⟩ := two_open hds2 two
          have ok1 := okd.sub.2 d1 List.mem_cons_self
          refine ⟨fT, _, rfl, ⟨p, rfl, hT⟩, _, rfl, a2, _, _, _, rfl, rfl, ht2, at_of (j := 0) rfl rfl, x1, d1, rfl, h3, ok1, f2.tab, fun H3 f3 => ⟨_, rfl, ?_⟩⟩
          cases hp1 : p d1 with
          | false => exact iteYes rfl (bad (by show whenB (p d1) .bp = _; rw [hp1]; rfl) H3 (f2.trans f3))
          | true => exact iteNo (by decide) ⟨f2.trans f3, ⟨_, rfl⟩, n1 (by show whenB (p d1) .bp = _; rw [hp1]; rfl)⟩
      | str _ => exact ⟨_, rfl, _, _, _, _, _, rfl, .ty _, ty, kit_ty it, _, rfl, iteYes rfl (iteYes rfl (bad rfl H2 f2))⟩
      | non => exact ⟨_, rfl, _, _, _, _, _, rfl, .ty _, ty, kit_ty it, _, rfl, iteYes rfl (iteYes rfl (bad rfl H2 f2))⟩
      | bl b => exact ⟨_, rfl, _, _, _, _, _, rfl, .ty _, ty, kit_ty it, _, rfl, iteYes rfl (iteYes rfl (bad rfl H2 f2))⟩
      | int b => exact ⟨_, rfl, _, _, _, _, _, rfl, .ty _, ty, kit_ty it, _, rfl, iteYes rfl (iteYes rfl (bad rfl H2 f2))⟩
      | lst _ _ => exact ⟨_, rfl, _, _, _, _, _, rfl, .ty _, ty, kit_ty it, _, rfl, iteYes rfl (iteYes rfl (bad rfl H2 f2))⟩
    · rintro σ2 H2 ⟨f2, ⟨o, rfl⟩, al⟩
      have all : ∀ d ∈ ds, pairOk p d = none := fun d m => by
        obtain ⟨i, hi⟩ := List.getElem?_of_mem m
        exact al i d (by rw [lv]; exact (List.getElem?_eq_some_iff.mp hi).1) hi
      have fb : firstBad (ds.map (pairOk p)) = none := fb_none.mpr fun x m => by
        obtain ⟨d, hd, rfl⟩ := List.mem_map.mp m
        exact all d hd
      rw [fb, lead_strs hp all] at q1
      rw [fb, lead_strs hp all] at q2
      have q1 : (if (ds.map nameD).Nodup then (none : Option Wr) else some .tt) = none → ∀ H', Fr T0 H H' → Q .non H' := q1
      have q2 : ∀ b, (if (ds.map nameD).Nodup then (none : Option Wr) else some .tt) = some b → ∀ H', Fr T0 H H' → Ex (.ref (cls b)) none H' := q2
      have fields : ∀ {j : Nat} {x : V}, vs[j]? = some x → ∃ (a2 : Addr) (x2 : V) (z : Str), x = .ref a2 ∧ SqT K H2 a2 [.str z, x2] ∧ (ds.map nameD)[j]? = some z := fun {j x} hx => by
        obtain ⟨d, hd1, hd2⟩ := DpAll.get hds hx
        obtain ⟨z, k, rfl, _⟩ := pairOk_none hp (all d (List.mem_of_getElem? hd1))
        have hd2' := (Fr.keep tb f2).dp hd2
        cases hd2' with
        | tup ht2 hds2 =>
          rename_i a2 vs2
          cases hds2 with
          | cons g1 g2 => cases g2 with
            | cons g3 g4 => cases g4 with
              | nil =>
                cases g1
                exact ⟨a2, _, z, rfl, ht2, by rw [List.getElem?_map, hd1]; rfl⟩
      refine ⟨_, rfl, a, rfl, ⟨_, (Fr.keep tb f2).2 _ _ ht⟩, fun D hD => ?_⟩
      have ht2 := (Fr.keep tb f2).2 _ _ ht
      refine lc_tup (K := K) (a := a) (xs := vs) (fun j H3 => Same H2 H3 ∧ H3 D = some (.lst (((ds.map nameD).take j).map V.str))) ⟨same_new hD _, upd_same⟩ (fun j H3 _ h => (Same.keep h.1) _ _ ht2) ?_ ?_
      · rintro j x H3 hx ⟨e3, h3⟩
        obtain ⟨a2, x2, z, rfl, hp2, hz⟩ := fields hx
        refine ⟨rfl, _, rfl, a2, _, _, _, rfl, rfl, (Same.keep e3) _ _ hp2, at_of (j := 0) rfl rfl, _, h3, ?_, fun b o hb => ?_, ?_⟩
        · rw [List.length_map]
          exact small1000 (Nat.le_trans (List.length_take_le' _ _) (by rw [List.length_map]; omega))
        · rw [upd_ne (ne_of_none hb hD)]
          exact e3 b o hb
        · rw [upd_same, List.take_add_one, hz, List.map_append]
          rfl
      rintro H3 ⟨e3, h3⟩
      rw [lv, List.take_of_length_le (by rw [List.length_map]; exact Nat.le_refl _)] at h3
      have zl : (ds.map nameD).length = vs.length := by rw [List.length_map, lv]
      generalize ds.map nameD = zs at h3 zl q1 q2
      refine ⟨D, zs, rfl, .inl (SqL.of h3), by omega, fun u mm hu hm => ⟨u, _, mm, rfl, upd_same, fun ys nd mem ln => ?_⟩⟩
      have mem' : ∀ x, x ∈ ys ↔ x ∈ zs := fun x => (mem x).trans decide_eq_true_iff
      obtain ⟨nl1, nl2⟩ := nodup_len nd mem' ln
      have e8 := same_new hu (TxO w u (fun y => decide (y ∈ zs)) mm)
      have e38 := Same.trans e3 e8
      have f08 := f2.trans (Fr.same f2.tab e38)
      refine ⟨_, rfl, a, _, rfl, .inr ((Same.keep e38) _ _ ht2), _, _, rfl, rfl, _, rfl, ite2 (fun c => ?_) (fun c => ?_)⟩
      · have lt := of_decide_eq_true c
        have nn := nl1.mp (by omega)
        exact q2 .tt (by rw [if_neg nn]) _ f08
      · have ge := of_decide_eq_false (Bool.eq_false_iff.mpr c)
        have nn : zs.Nodup := Classical.byContradiction fun z => absurd (nl1.mpr z) (by omega)
        exact q1 (by rw [if_pos nn]) _ f08
  | str _ => exact q2 .bp rfl H (Fr.refl tb)
  | non => exact q2 .bp rfl H (Fr.refl tb)
  | bl b => exact q2 .bp rfl H (Fr.refl tb)
  | int b => exact q2 .bp rfl H (Fr.refl tb)
  | lst _ _ => exact q2 .bp rfl H (Fr.refl tb)
end
end Sc
namespace Sc
open PySem PyProof.Rows L2
def sndK (g : PyData → Option Wr) : PyData → Option Wr
  | .tuple [_, k] => g k
  | _ => none
def gSnd (g : PyData → Option Wr) : PyData → Option Wr
  | .tuple ds => firstBad (ds.map (sndK g))
  | _ => none
def leads : PyData → List Str
  | .tuple ds => ds.map nameD
  | _ => []
def gFn (fs : List (Str × Nat × Nat)) (d0 d1 d2 d3 d4 : PyData) : Option Wr := match gWord d0 with
  | some b => some b
  | none => match strsD [d0] with
    | z :: _ => if (formTab.lookup z).isSome then some .bp else if z ∈ fs.map (·.1) then some .tt else
        firstBad [gPairs isLettD d1, gSnd (gKind []) d1, gPairs isWordD d2, gSnd (gKind (leads d1)) d2, gKind (leads d1) d3, gPart 12 ⟨leads d1, fs, leads d2⟩ d4]
    | [] => some .bp
section
variable {P : Program} {w : World} {K : PySem.W.Frag} {mg : Str → Option Value} {base : Heap} {T0 : List Addr} {C FA : Addr} {cls : Wr → Addr}
def spFn (K : PySem.W.Frag) (T : List Addr) (cls : Wr → Addr) (tOk : PyData → Prop) : Sp := fun vs H Q Ex => ∃ (v : V) (fa : Addr) (fs : List (Str × Nat × Nat)) (d0 d1 d2 d3 d4 : PyData), vs = [v, .ref fa] ∧ Dp K H v (.tuple [d0, d1, d2, d3, d4]) ∧ okD (.tuple [d0, d1, d2, d3, d4]) ∧ Tb T H ∧ FnsAt K H fa fs ∧ txs tOk 12 d4 ∧
  (gFn fs d0 d1 d2 d3 d4 = none → ∀ H', Fr T H H' → Q .non H') ∧ (∀ b, gFn fs d0 d1 d2 d3 d4 = some b → ∀ H', Fr T H H' → Ex (.ref (cls b)) none H')
abbrev nF : List Str := ["function", "earlier", "name", "letters", "params", "result", "body", "_", "bound", "own", "kind", "names", "letter", "param"]
theorem scFn : FnScope nF ["function", "earlier"] (defScope sPNeedFunction) := ⟨rfl, rfl, rfl, by decide +kernel, rfl, by decide +kernel, by decide +kernel⟩
/-- what pairs are, once they are let by -/
theorem pairs_open {p : PyData → Bool} (hp : ∀ d, p d = true → ∃ z, d = .str z) {d : PyData} (h : gPairs p d = none) : ∃ ds, d = .tuple ds ∧ (∀ d ∈ ds, ∃ z k, d = .tuple [.str z, k] ∧ p (.str z) = true) ∧ (ds.map nameD).Nodup := by
  cases d with
  | tuple ds =>
    have h' : (match firstBad (ds.map (pairOk p)) with | some b => some b | none => if (strsD (ds.map leadD)).Nodup then none else some Wr.tt) = none := h
    cases fb : firstBad (ds.map (pairOk p)) with
    | some b => rw [fb] at h'; cases h'
    | none =>
      rw [fb] at h'
      have al : ∀ d ∈ ds, pairOk p d = none := fun d m => fb_none.mp fb _ (List.mem_map.mpr ⟨d, m, rfl⟩)
      have h2 : (if (strsD (ds.map leadD)).Nodup then none else some Wr.tt) = none := h'
      rw [lead_strs hp al] at h2
      refine ⟨ds, rfl, fun d m => pairOk_none hp (al d m), ?_⟩
      by_cases nn : (ds.map nameD).Nodup
      · exact nn
      · rw [if_neg nn] at h2; cases h2
  | _ => cases h
theorem lett_str (d : PyData) (h : isLettD d = true) : ∃ z, d = .str z := by
  cases d with
  | str z => exact ⟨z, rfl⟩
  | _ => cases h
theorem word_str (d : PyData) (h : isWordD d = true) : ∃ z, d = .str z := by
  cases d with
  | str z => exact ⟨z, rfl⟩
  | _ => cases h
/-- a pair among pairs -/
theorem pair_at {K : PySem.W.Frag} {H : Hp} {vs : List V} {ds : List PyData} (hds : DpAll K H vs ds) (all : ∀ d ∈ ds, ∃ z k, d = .tuple [.str z, k]) {j : Nat} {x : V} (hx : vs[j]? = some x) :
    ∃ (a2 : Addr) (xk : V) (z : Str) (k : PyData), x = .ref a2 ∧ SqT K H a2 [.str z, xk] ∧ Dp K H xk k ∧ ds[j]? = some (.tuple [.str z, k]) ∧ (ds.map nameD)[j]? = some z := by
  obtain ⟨d, hd1, hd2⟩ := DpAll.get hds hx
  obtain ⟨z, k, rfl⟩ := all d (List.mem_of_getElem? hd1)
  cases hd2 with
  | tup ht2 hds2 =>
    cases hds2 with
    | cons g1 g2 => cases g2 with
      | cons g3 g4 => cases g4 with
        | nil =>
          cases g1
          exact ⟨_, _, z, k, rfl, ht2, g3, hd1, by rw [List.getElem?_map, hd1]; rfl⟩
theorem KeepL.dpA {K : PySem.W.Frag} {H H' : Hp} (e : KeepL K H H') {vs : List V} {ds : List PyData} (h : DpAll K H vs ds) : DpAll K H' vs ds := KeepL.dps e h
theorem c_need_function (tOk : PyData → Prop) (T : Tx K mg) (R : Ers K mg cls) (L : PlC P w K mg base C) (F : FT K w mg FA) (m12 : ∃ t, mg "DEEPEST_BODY" = some (.int 12 t)) {lv : Nat} (lv31 : 31 ≤ lv)
    (CW : Cal P w K mg base 2 "is_word" ["thing"] (spTest K T0 isWordD)) (CL : Cal P w K mg base 2 "is_letter" ["thing"] (spTest K T0 isLettD)) (CP : CalX P w K mg base 3 "_need_pairs" ["pairs", "may_lead"] (spPairs P w K mg base T0 cls))
    (CN : CalX P w K mg base 31 "need_kind" ["kind", "letters"] (spNeed K T0 (cls .bk) [] (fun ls => gK ls 9))) (CB : CalX P w K mg base lv "_need_part" ["part", "place"] (spAtG K T0 C cls ((12 : Nat) : Int) (fun E d => txs tOk 12 d ∧ E.ns.length + 10 * 12 ≤ 2012) (gPart 12))) :
    CalX P w K mg base (lv + 1) "_need_function" ["function", "earlier"] (spFn K T0 cls tOk) := by
  obtain ⟨es, nn, D⟩ := F.d
  obtain ⟨t12, m12⟩ := m12
  obtain ⟨fI, fdI, GI, MI, BI⟩ := L.ini
  obtain ⟨fW, fdW, FW, mW, kW, bW⟩ := id CW.ex
  obtain ⟨fL, fdL, FL, mL, kL, bL⟩ := id CL.ex
  refine T.p_need_function.okX scFn (fun vs H Q E h => ?_) (fun f cdv A outer s H vs Q Ex hr h => ?_)
  · obtain ⟨v, fa, fs, _, _, _, _, _, rfl, _⟩ := h
    rfl
  obtain ⟨v, fa, fs, d0, d1, d2, d3, d4, rfl, hd, ok, tb, hf, hG, q1, q2⟩ := h
  have r2 : Room 2 _ := hr.mono (by omega)
  have r3 : Room 3 _ := hr.mono (by omega)
  have r31 : Room 31 _ := hr.mono lv31
  have hu1 : (A.deeper (envOfC "_need_function" (defScope sPNeedFunction) s.heap.objs.size f cdv)).units + 1 < cLine := by have := hr.un; omega
  refine ⟨_, pss_cons (ps_if (PW.pt (pw_or (pt_not (pt_val (pe_callB call_isi (by rfl) T.m_isinstance boot_isinstance (pa_cons (pv 0) (pa_cons (pe_bltn (v := .ty "tuple") (by rfl) T.m_tuple boot_tuple rfl) pa_nil)))))
        (pw_or1 (pt_cmpR op_ne (pe_callB call_len_seq (by rfl) T.m_len PySem.boot_len (pa_cons (pv 0) pa_nil)) pe_int (nomark _)))))
      (pss_one (ps_raise rfl (takes_of rfl rfl rfl rfl) (pmk_own PySem.F.excBase_ValueError R.bp.q R.bp.g R.bp.k (raises_own R.bp.b R.bp.t) (by exact rfl)))) pss_nil)
    (pss_cons (ps_asg (pv 0) (pg_tup (by rfl) (pgs_cons (pg_name (i := 2) scFn.nd rfl (Or.inl rfl)) (pgs_cons (pg_name (i := 3) scFn.nd rfl (Or.inl rfl)) (pgs_cons (pg_name (i := 4) scFn.nd rfl (Or.inl rfl)) (pgs_cons (pg_name (i := 5) scFn.nd rfl (Or.inl rfl)) (pgs_cons (pg_name (i := 6) scFn.nd rfl (Or.inl rfl)) pgs_nil)))))))
    (pss_cons (ps_if (PW.pt (pw_or (pt_not (pt_val (pe_cal CW r2 (pa_cons (pv 2) pa_nil)))) (pw_or1 (pt_cmpR (op_in_kd D) (pv 2) (pe_glob (v := .ref FA) (by rfl) F.g rfl) (by rfl)))))
      (pss_one (ps_raise rfl (takes_of rfl rfl rfl rfl) (pmk_own PySem.F.excBase_ValueError R.bp.q R.bp.g R.bp.k (raises_own R.bp.b R.bp.t) (by exact rfl)))) pss_nil)
    (pss_cons (ps_if (pt_cmp (pc_din hu1 (pv 2) (pv 1)) (by rfl))
      (pss_one (ps_raise rfl (takes_of rfl rfl rfl rfl) (SkE.pmk_own1 PySem.F.excBase_ValueError R.tt.q R.tt.g R.tt.k (raises_own R.tt.b R.tt.t) (by exact rfl) (pe_fs (.cons pe_str (.cons (pe_fmt (pv 2)) (.cons pe_str .nil))))))) pss_nil)
    (pss_cons (ps_expr (pe_calX CP r3 (passes_call (takes_of rfl rfl rfl rfl) (fun _ _ _ _ h => h)) (pa_cons (pv 3) (pa_cons (pe_glob (v := .ref fL) (by rfl) mL rfl) pa_nil))))
    (pss_cons (ps_for (passes_of rfl) rfl (pi_tup (pv 3)) (pg_tup (by rfl) (pgs_cons (pg_name (i := 7) scFn.nd rfl (Or.inl rfl)) (pgs_cons (pg_name (i := 8) scFn.nd rfl (Or.inl rfl)) pgs_nil)))
      (pss_one (ps_expr (pe_calX CN r31 (passes_call (takes_of rfl rfl rfl rfl) (fun _ _ _ _ h => h)) (pa_cons (pv 8) (pa_cons (pe_tup pa_nil) pa_nil))))))
    (pss_cons (ps_set (i := 9) scFn.nd rfl (Or.inl rfl) (pe_callTy call_tuple_of (by rfl) T.m_tuple (by decide +kernel) (pa_cons
        (pe_lc (own := [("letter", 12), ("_", 7)]) (g := gTup K 2 (gCons (gName 12) (gCons (gName 7) gNil))) (tt := tYes) rfl scFn.nd (pi_tup (pv 3)) (blkOk_by (N := nF) (sc := defScope sPNeedFunction) (by decide +kernel))
          (fun _ _ _ _ _ => pg_tup (by rfl) (pgs_cons (pg_name (i := 12) scFn.nd rfl (Or.inl rfl)) (pgs_cons (pg_name (i := 7) scFn.nd rfl (Or.inl rfl)) pgs_nil))) (fun _ _ _ _ _ => pts_nil) (fun _ _ _ _ _ => pv 12)) pa_nil)))
    (pss_cons (ps_expr (pe_calX CP r3 (passes_call (takes_of rfl rfl rfl rfl) (fun _ _ _ _ h => h)) (pa_cons (pv 4) (pa_cons (pe_glob (v := .ref fW) (by rfl) mW rfl) pa_nil))))
    (pss_cons (ps_for (passes_of rfl) rfl (pi_tup (pv 4)) (pg_tup (by rfl) (pgs_cons (pg_name (i := 7) scFn.nd rfl (Or.inl rfl)) (pgs_cons (pg_name (i := 10) scFn.nd rfl (Or.inl rfl)) pgs_nil)))
      (pss_one (ps_expr (pe_calX CN r31 (passes_call (takes_of rfl rfl rfl rfl) (fun _ _ _ _ h => h)) (pa_cons (pv 10) (pa_cons (pv 9) pa_nil))))))
    (pss_cons (ps_expr (pe_calX CN r31 (passes_call (takes_of rfl rfl rfl rfl) (fun _ _ _ _ h => h)) (pa_cons (pv 5) (pa_cons (pv 9) pa_nil))))
    (pss_cons (ps_set (i := 11) scFn.nd rfl (Or.inl rfl) (pe_callTy call_tuple_of (by rfl) T.m_tuple (by decide +kernel) (pa_cons
        (pe_lc (own := [("param", 13), ("_", 7)]) (g := gTup K 2 (gCons (gName 13) (gCons (gName 7) gNil))) (tt := tYes) rfl scFn.nd (pi_tup (pv 4)) (blkOk_by (N := nF) (sc := defScope sPNeedFunction) (by decide +kernel))
          (fun _ _ _ _ _ => pg_tup (by rfl) (pgs_cons (pg_name (i := 13) scFn.nd rfl (Or.inl rfl)) (pgs_cons (pg_name (i := 7) scFn.nd rfl (Or.inl rfl)) pgs_nil))) (fun _ _ _ _ _ => pts_nil) (fun _ _ _ _ _ => pv 13)) pa_nil)))
    (pss_one (ps_expr (pe_calX CB hr (passes_call (takes_of rfl rfl rfl rfl) (fun _ _ _ _ h => h)) (pa_cons (pv 6) (pa_cons (pe_make MI GI r2 (by rfl) L.g BI .nil pass0 (pa_cons (pv 9) (pa_cons (pv 1) (pa_cons (pv 11) (pa_cons (pe_glob (v := .int 12) (by rfl) m12 ⟨_, rfl⟩) pa_nil))))) pa_nil))))))))))))))), ?_⟩
  have is5 : ∃ (a : Addr) (v0 v1 v2 v3 v4 : V), v = .ref a ∧ SqT K H a [v0, v1, v2, v3, v4] ∧ Dp K H v0 d0 ∧ Dp K H v1 d1 ∧ Dp K H v2 d2 ∧ Dp K H v3 d3 ∧ Dp K H v4 d4 := by
    cases hd with
    | tup ht hds => cases hds with
      | cons g0 hds => cases hds with
        | cons g1 hds => cases hds with
          | cons g2 hds => cases hds with
            | cons g3 hds => cases hds with
              | cons g4 hds => cases hds with
                | nil => exact ⟨_, _, _, _, _, _, rfl, ht, g0, g1, g2, g3, g4⟩
  have ty := Dp.ty hd
  have it := isTup hd
  obtain ⟨a, v0, v1, v2, v3, v4, rfl, ht, g0, g1, g2, g3, g4⟩ := is5
  have okm := ok.sub.2
  have ok0 := okm d0 (by simp)
  have ok1 := okm d1 (by simp)
  have ok2 := okm d2 (by simp)
  have ok3 := okm d3 (by simp)
  have ok4 := okm d4 (by simp)
  show tOr _ _ _ _ _
  refine or_pure false false (fun R1 h => ⟨_, rfl, _, _, _, _, _, rfl, .ty _, ty, kit_ty it, _, rfl, h⟩) (fun _ R1 h => ⟨_, rfl, a, _, rfl, .inr ht, rfl, _, rfl, h⟩) (fun h => by rcases h with h | h <;> cases h) (fun _ _ => iteF ?_)
  dsimp only [tNext, gName]
  refine ⟨_, rfl, a, _, rfl, ht, rfl, _, _, rfl, _, _, rfl, _, _, rfl, _, _, rfl, _, _, rfl, rfl, ?_⟩
  dsimp only [gName]
  -- the name
  show tOr _ _ _ _ _
  refine ⟨_, rfl, v0, d0, rfl, g0, ok0, tb, fun H1 f1 => ⟨_, rfl, ?_⟩⟩
  cases hw : isWordD d0 with
  | false =>
    refine iteYes rfl (iteYes rfl (q2 .bp ?_ H1 f1))
    unfold gFn
    rw [show gWord d0 = some .bp by show whenB (isWordD d0) .bp = _; rw [hw]; rfl]
  | true =>
  refine iteNo (by decide) ?_
  obtain ⟨z, rfl⟩ := word_str d0 hw
  cases g0
  have ef : gFn fs (.str z) d1 d2 d3 d4 = if (formTab.lookup z).isSome then some .bp else if z ∈ fs.map (·.1) then some .tt else
        firstBad [gPairs isLettD d1, gSnd (gKind []) d1, gPairs isWordD d2, gSnd (gKind (leads d1)) d2, gKind (leads d1) d3, gPart 12 ⟨leads d1, fs, leads d2⟩ d4] := by
    unfold gFn
    rw [show gWord (.str z) = none by show whenB (isWordD (.str z)) .bp = _; rw [hw]; rfl]
    rfl
  rw [ef] at q1
  have q2 : ∀ b, (if (formTab.lookup z).isSome then some Wr.bp else if z ∈ fs.map (·.1) then some .tt else
        firstBad [gPairs isLettD d1, gSnd (gKind []) d1, gPairs isWordD d2, gSnd (gKind (leads d1)) d2, gKind (leads d1) d3, gPart 12 ⟨leads d1, fs, leads d2⟩ d4]) = some b → ∀ H', Fr T0 H H' → Ex (.ref (cls b)) none H' := fun b e => q2 b (by rw [ef]; exact e)
  obtain ⟨r0, e1, e2⟩ : ∃ r : Option Value, PySem.W.nsIn K FA z = some r ∧ r.isSome = (formTab.lookup z).isSome := by
    cases e : formTab.lookup z with
    | none => exact ⟨_, F.none_ z e, rfl⟩
    | some fm =>
      obtain ⟨t, e1, _⟩ := F.some_ z fm e
      exact ⟨_, e1, rfl⟩
  refine ⟨_, rfl, z, r0, rfl, rfl, e1, _, rfl, ?_⟩
  rw [e2]
  cases hl : (formTab.lookup z).isSome with
  | true => exact iteYes rfl (q2 .bp (by rw [if_pos hl]) H1 f1)
  | false =>
  rw [if_neg (by rw [hl]; decide)] at q1
  have q2 : ∀ b, (if z ∈ fs.map (·.1) then some Wr.tt else
        firstBad [gPairs isLettD d1, gSnd (gKind []) d1, gPairs isWordD d2, gSnd (gKind (leads d1)) d2, gKind (leads d1) d3, gPart 12 ⟨leads d1, fs, leads d2⟩ d4]) = some b → ∀ H', Fr T0 H H' → Ex (.ref (cls b)) none H' := fun b e => q2 b (by rw [if_neg (by rw [hl]; decide)]; exact e)
  refine iteNo (by decide) ?_
  dsimp only [tNext, gName]
  have z8 : z.length ≤ 8 := (of_decide_eq_true (show decide (Word z) = true from hw)).2.1
  have hf1 := hf.keep tb f1
  obtain ⟨kvs, k1, k2, nd, k3⟩ := id hf1
  refine ⟨_, rfl, _, rfl, fa, _, rfl, DGet.k (k := Sum.inr z) k1, _, rfl, ?_⟩
  rw [fn_at (K := K) (H := H1) z k2]
  refine ite2 (fun hm => ?_) (fun hm => ?_)
  · have hm' := of_decide_eq_true hm
    refine ⟨_, rfl, by decide +kernel, _, rfl, .inl ⟨z, rfl, sizeOk (by omega), _, rfl, ?_, _, rfl, ?_, ?_⟩⟩
    · rw [len_app]
      have : (Str.empty ++ "the function " : Str).length ≤ 100 := by decide +kernel
      exact sizeOk (by omega)
    · rw [len_app, len_app]
      have : (Str.empty ++ "the function " : Str).length ≤ 100 := by decide +kernel
      have : (" is told twice" : Str).length ≤ 100 := by decide +kernel
      exact sizeOk (by omega)
    · exact q2 .tt (by rw [if_pos hm']) H1 f1
  have hm' : ¬ z ∈ fs.map (·.1) := fun y => hm (decide_eq_true y)
  rw [if_neg hm'] at q1
  have q2 : ∀ b, firstBad [gPairs isLettD d1, gSnd (gKind []) d1, gPairs isWordD d2, gSnd (gKind (leads d1)) d2, gKind (leads d1) d3, gPart 12 ⟨leads d1, fs, leads d2⟩ d4] = some b → ∀ H', Fr T0 H H' → Ex (.ref (cls b)) none H' := fun b e => q2 b (by rw [if_neg hm']; exact e)
  dsimp only [tNext, gName]
  have fbS : ∀ (l r : List (Option Wr)) (b : Wr), (∀ x ∈ l, x = none) → firstBad (l ++ some b :: r) = some b := fun l r b h => fb_at (j := l.length) (fun i x hi hx => h x (List.mem_of_getElem? (by rw [List.getElem?_append_left hi] at hx; exact hx))) (by rw [List.getElem?_append_right (Nat.le_refl _), Nat.sub_self]; rfl)
  -- the letters
  refine ⟨_, rfl, v1, d1, fL, isLettD, rfl, (Fr.keep tb f1).dp g1, ok1, f1.tab, ⟨fdL, _, FL, kL, bL⟩, lett_str, fun p1 H2 f2 => ?_, fun b e H2 f2 => q2 b (by rw [e]; exact fbS [] _ b fun x h => by cases h) H2 (f1.trans f2)⟩
  have f02 := f1.trans f2
  obtain ⟨ds1, rfl, al1, nd1⟩ := pairs_open lett_str p1
  have al1' : ∀ d ∈ ds1, ∃ z k, d = .tuple [.str z, k] := fun d m => let ⟨z, k, e, _⟩ := al1 d m; ⟨z, k, e⟩
  have g1c := g1
  cases g1 with
  | tup ht1 hds1 =>
  rename_i a1 vs1
  have lv1 := DpAll.len hds1
  dsimp only [tNext, gName]
  refine ⟨_, rfl, a1, rfl, ⟨_, (Fr.keep tb f02).2 _ _ ht1⟩, ?_⟩
  refine for_tup (K := K) (a := a1) (xs := vs1) (fun j σ2 H3 => Fr T0 H H3 ∧ (∃ o7 o8, σ2 = [some (.ref a), some (.ref fa), some (.str z), some (.ref a1), some v2, some v3, some v4, o7, o8, none, none, none, none, none]) ∧ ∀ i d, i < j → ds1[i]? = some d → sndK (gKind []) d = none) ⟨f02, ⟨_, _, rfl⟩, fun i d h => absurd h (Nat.not_lt_zero _)⟩ (fun j σ2 H3 _ h => (Fr.keep tb h.1).2 _ _ ht1) ?_ ?_
  · rintro j x σ2 H3 hx ⟨f3, ⟨o7, o8, rfl⟩, al⟩
    obtain ⟨a2, xk, y, k, rfl, hp2, hk, hd1, _⟩ := pair_at ((Fr.keep tb f3).dpA hds1) al1' hx
    obtain ⟨n1, n2⟩ := loop_bad (g := sndK (gKind [])) al hd1
    have okk := (ok1.sub.2 _ (List.mem_of_getElem? hd1)).sub.2 k (by simp)
    refine ⟨a2, _, rfl, hp2, rfl, _, _, rfl, _, _, rfl, rfl, ?_⟩
    dsimp only [gName]
    refine ⟨_, rfl, Nat.zero_le _, fun u hu => ?_⟩
    have e4 := same_new hu (.tup [])
    have f4 := f3.trans (Fr.same f3.tab e4)
    refine ⟨[], xk, k, u, rfl, (Same.keepL e4).dp hk, okk, f4.tab, SqT.of upd_same, fun e H5 f5 => ?_, fun e H5 f5 => ?_⟩
    · exact ⟨f4.trans f5, ⟨_, _, rfl⟩, n1 (by show whenB (gK [] 9 k) .bk = none; rw [show gK [] 9 k = true from e]; rfl)⟩
    · refine q2 .bk ?_ H5 (f4.trans f5)
      have e0 : gSnd (gKind []) (.tuple ds1) = some .bk := n2 .bk (by show whenB (gK [] 9 k) .bk = some .bk; rw [show gK [] 9 k = false from e]; rfl)
      rw [e0]
      exact fbS [_] _ _ fun x h => by rw [List.mem_singleton.mp h]; exact p1
  rintro σ2 H3 ⟨f3, ⟨o7, o8, rfl⟩, al⟩
  have p2 : gSnd (gKind []) (.tuple ds1) = none := loop_good (g := sndK (gKind [])) (by rw [← lv1]; exact al)
  -- the letters alone
  have ht3 := (Fr.keep tb f3).2 _ _ ht1
  refine ⟨_, rfl, a1, rfl, ⟨_, ht3⟩, fun D hD => ?_⟩
  refine lc_tup (K := K) (a := a1) (xs := vs1) (fun j H4 => Same H3 H4 ∧ H4 D = some (.lst (((ds1.map nameD).take j).map V.str))) ⟨same_new hD _, upd_same⟩ (fun j H4 _ h => (Same.keep h.1) _ _ ht3) ?_ ?_
  · rintro j x H4 hx ⟨e4, h4⟩
    obtain ⟨a2, xk, y, k, rfl, hp2, hk, hd1, hn⟩ := pair_at ((Fr.keep tb f3).dpA hds1) al1' hx
    refine ⟨a2, _, rfl, (Same.keep e4) _ _ hp2, rfl, _, _, rfl, _, _, rfl, rfl, rfl, _, rfl, _, h4, ?_, fun b o hb => ?_, ?_⟩
    · rw [List.length_map]
      have := ok1.sub.1
      exact small1000 (Nat.le_trans (List.length_take_le' _ _) (by rw [List.length_map]; omega))
    · rw [upd_ne (ne_of_none hb hD)]
      exact e4 b o hb
    · rw [upd_same, List.take_add_one, hn, List.map_append]
      rfl
  rintro H4 ⟨e4, h4⟩
  rw [lv1, List.take_of_length_le (by rw [List.length_map]; exact Nat.le_refl _)] at h4
  refine ⟨D, _, rfl, .inl ⟨SqL.of h4, fun la hla => ?_⟩⟩
  have e5 := Same.trans e4 (same_new hla (.tup ((ds1.map nameD).map V.str)))
  have hla5 : SqT K (upd H4 la (.tup ((ds1.map nameD).map V.str))) la ((ds1.map nameD).map V.str) := SqT.of upd_same
  have f5 := f3.trans (Fr.same f3.tab e5)
  generalize (upd H4 la (.tup ((ds1.map nameD).map V.str))) = H5 at hla5 f5 ⊢
  have ell : leads (.tuple ds1) = ds1.map nameD := rfl
  rw [ell] at q1 q2
  generalize ds1.map nameD = own at q1 q2 hla5
  dsimp only [gName]
  -- the params
  refine ⟨_, rfl, v2, d2, fW, isWordD, rfl, (Fr.keep tb f5).dp g2, ok2, f5.tab, ⟨fdW, _, FW, kW, bW⟩, word_str, fun p3 H6 f6 => ?_, fun b e H6 f6 => q2 b (by
      rw [e]
      exact fbS [_, _] _ b fun x h => by
        rcases List.mem_cons.mp h with h | h
        · rw [h]; exact p1
        · rw [List.mem_singleton.mp h]; exact p2) H6 (f5.trans f6)⟩
  have f06 := f5.trans f6
  obtain ⟨ds2, rfl, al2, nd2⟩ := pairs_open word_str p3
  have al2' : ∀ d ∈ ds2, ∃ z k, d = .tuple [.str z, k] := fun d m => let ⟨z, k, e, _⟩ := al2 d m; ⟨z, k, e⟩
  cases g2 with
  | tup ht2 hds2 =>
  rename_i a2 vs2
  have lv2 := DpAll.len hds2
  have l60 := ok2.sub.1
  dsimp only [tNext, gName]
  refine ⟨_, rfl, a2, rfl, ⟨_, (Fr.keep tb f06).2 _ _ ht2⟩, ?_⟩
  refine for_tup (K := K) (a := a2) (xs := vs2) (fun j σ2 H7 => Fr T0 H H7 ∧ SqT K H7 la (own.map V.str) ∧ (∃ o7 o8 o10, σ2 = [some (.ref a), some (.ref fa), some (.str z), some (.ref a1), some (.ref a2), some v3, some v4, o7, o8, some (.ref la), o10, none, none, none]) ∧ ∀ i d, i < j → ds2[i]? = some d → sndK (gKind own) d = none) ⟨f06, (Fr.keep f5.tab f6).2 _ _ hla5, ⟨_, _, _, rfl⟩, fun i d h => absurd h (Nat.not_lt_zero _)⟩ (fun j σ2 H7 _ h => (Fr.keep tb h.1).2 _ _ ht2) ?_ ?_
  · rintro j x σ2 H7 hx ⟨f7, hla7, ⟨o7, o8, o10, rfl⟩, al⟩
    obtain ⟨b2, xk, y, k, rfl, hp2, hk, hd1, _⟩ := pair_at ((Fr.keep tb f7).dpA hds2) al2' hx
    obtain ⟨n1, n2⟩ := loop_bad (g := sndK (gKind own)) al hd1
    have okk := (ok2.sub.2 _ (List.mem_of_getElem? hd1)).sub.2 k (by simp)
    refine ⟨b2, _, rfl, hp2, rfl, _, _, rfl, _, _, rfl, rfl, ?_⟩
    dsimp only [gName]
    refine ⟨_, rfl, _, rfl, own, xk, k, la, rfl, hk, okk, f7.tab, hla7, fun e H8 f8 => ?_, fun e H8 f8 => ?_⟩
    · exact ⟨f7.trans f8, (Fr.keep f7.tab f8).2 _ _ hla7, ⟨_, _, _, rfl⟩, n1 (by show whenB (gK own 9 k) .bk = none; rw [show gK own 9 k = true from e]; rfl)⟩
    · refine q2 .bk ?_ H8 (f7.trans f8)
      have e0 : gSnd (gKind own) (.tuple ds2) = some .bk := n2 .bk (by show whenB (gK own 9 k) .bk = some .bk; rw [show gK own 9 k = false from e]; rfl)
      rw [e0]
      exact fbS [_, _, _] _ _ fun x h => by
        rcases List.mem_cons.mp h with h | h
        · rw [h]; exact p1
        rcases List.mem_cons.mp h with h | h
        · rw [h]; exact p2
        · rw [List.mem_singleton.mp h]; exact p3
  rintro σ2 H7 ⟨f7, hla7, ⟨o7, o8, o10, rfl⟩, al⟩
  have p4 : gSnd (gKind own) (.tuple ds2) = none := loop_good (g := sndK (gKind own)) (by rw [← lv2]; exact al)
  -- the result
  refine ⟨_, rfl, _, rfl, own, v3, d3, la, rfl, (Fr.keep tb f7).dp g3, ok3, f7.tab, hla7, fun e H8 f8 => ?_, fun e H8 f8 => ?_⟩
  rotate_left
  · refine q2 .bk ?_ H8 (f7.trans f8)
    have e0 : gKind own d3 = some .bk := by show whenB (gK own 9 d3) .bk = some .bk; rw [show gK own 9 d3 = false from e]; rfl
    rw [e0]
    exact fbS [_, _, _, _] _ _ fun x h => by
      rcases List.mem_cons.mp h with h | h
      · rw [h]; exact p1
      rcases List.mem_cons.mp h with h | h
      · rw [h]; exact p2
      rcases List.mem_cons.mp h with h | h
      · rw [h]; exact p3
      · rw [List.mem_singleton.mp h]; exact p4
  have p5 : gKind own d3 = none := by show whenB (gK own 9 d3) .bk = none; rw [show gK own 9 d3 = true from e]; rfl
  have f08 := f7.trans f8
  have ht8 := (Fr.keep tb f08).2 _ _ ht2
  have hla8 := (Fr.keep f7.tab f8).2 _ _ hla7
  dsimp only [tNext, gName]
  -- the names
  refine ⟨_, rfl, a2, rfl, ⟨_, ht8⟩, fun D hD => ?_⟩
  refine lc_tup (K := K) (a := a2) (xs := vs2) (fun j H9 => Same H8 H9 ∧ H9 D = some (.lst (((ds2.map nameD).take j).map V.str))) ⟨same_new hD _, upd_same⟩ (fun j H9 _ h => (Same.keep h.1) _ _ ht8) ?_ ?_
  · rintro j x H9 hx ⟨e9, h9⟩
    obtain ⟨b2, xk, y, k, rfl, hp2, hk, hd1, hn⟩ := pair_at ((Fr.keep tb f08).dpA hds2) al2' hx
    refine ⟨b2, _, rfl, (Same.keep e9) _ _ hp2, rfl, _, _, rfl, _, _, rfl, rfl, rfl, _, rfl, _, h9, ?_, fun b o hb => ?_, ?_⟩
    · rw [List.length_map]
      exact small1000 (Nat.le_trans (List.length_take_le' _ _) (by rw [List.length_map]; omega))
    · rw [upd_ne (ne_of_none hb hD)]
      exact e9 b o hb
    · rw [upd_same, List.take_add_one, hn, List.map_append]
      rfl
  rintro H9 ⟨e9, h9⟩
  rw [lv2, List.take_of_length_le (by rw [List.length_map]; exact Nat.le_refl _)] at h9
  refine ⟨D, _, rfl, .inl ⟨SqL.of h9, fun na hna => ?_⟩⟩
  have e10 := Same.trans e9 (same_new hna (.tup ((ds2.map nameD).map V.str)))
  have hna10 : SqT K (upd H9 na (.tup ((ds2.map nameD).map V.str))) na ((ds2.map nameD).map V.str) := SqT.of upd_same
  have f10 := f08.trans (Fr.same f08.tab e10)
  have hla10 := (Same.keep e10) _ _ hla8
  generalize (upd H9 na (.tup ((ds2.map nameD).map V.str))) = H10 at hna10 f10 hla10 ⊢
  have e11 : leads (.tuple ds2) = ds2.map nameD := rfl
  rw [e11] at q1 q2
  have lns : (ds2.map nameD).length ≤ 60 := by rw [List.length_map]; exact l60
  generalize ds2.map nameD = ns at q1 q2 hna10 lns
  dsimp only [gName]
  -- the body
  refine ⟨_, rfl, _, rfl, _, rfl, _, rfl, fun x dx' nx ndx nex => ?_⟩
  have s0 : Same H10 (upd (upd H10 dx' (.own x)) x (.ins C dx' [])) := fun b o e => by
    rw [upd_ne (ne_of_none e nx), upd_ne (ne_of_none e ndx)]
    exact e
  refine ⟨x, dx', la, fa, na, _, rfl, upd_same, fun H11 hx kp => ⟨rfl, ?_⟩⟩
  have s1 : Same H10 H11 := fun c o e => kp c o (s0 c o e) (ne_of_none e nx)
  have f11 := f10.trans (Fr.same f10.tab s1)
  refine ⟨v4, d4, x, ⟨own, fs, ns⟩, rfl, (Fr.keep tb f11).dp g4, ok4, f11.tab, ⟨⟨dx', la, fa, na, hx, (Same.keep s1) _ _ hla10, hf.keep tb f11, (Same.keep s1) _ _ hna10⟩⟩, ⟨hG, ?_⟩, fun e H12 f12 => q1 ?_ H12 (f11.trans f12), fun b e H12 f12 => q2 b ?_ H12 (f11.trans f12)⟩
  · show ns.length + 10 * 12 ≤ 2012
    omega
  · rw [p1, p2, p3, p4, p5, e]
    rfl
  · rw [p1, p2, p3, p4, p5, e]
    rfl
end
end Sc
namespace Sc
open PySem PyProof.Rows L2
theorem HeldX.imp {P : Program} {w : World} {K : PySem.W.Frag} {mg : Str → Option Value} {base : Heap} {k : Nat} {f : Addr} {sp sp' : Sp} (h : HeldX P w K mg base k f sp) (i : ∀ vs H Q E, sp' vs H Q E → sp vs H Q E) : HeldX P w K mg base k f sp' := by
  obtain ⟨fd, ps, a, b⟩ := h.ex
  exact ⟨fd, ps, a.imp i, b⟩
theorem CalX.imp {P : Program} {w : World} {K : PySem.W.Frag} {mg : Str → Option Value} {base : Heap} {k : Nat} {x : Str} {ps : List Str} {sp sp' : Sp} (h : CalX P w K mg base k x ps sp) (i : ∀ vs H Q E, sp' vs H Q E → sp vs H Q E) : CalX P w K mg base k x ps sp' := by
  obtain ⟨f, fd, a, b⟩ := h.ex
  exact ⟨f, fd, a.imp i, b⟩
def needTab : List (Str × Str) := [("whole", "_need_whole"), ("text", "_need_text"), ("known", "_need_known"), ("given", "_need_word"), ("field", "_need_word"), ("head", "_need_head"), ("kind", "_need_kind_here"), ("part", "_need_within"), ("last", "_need_within"),
  ("parts", "_need_parts"), ("fields", "_need_fields"), ("function", "_need_told_earlier"), ("kinds", "_need_kinds"), ("handed", "_need_handed")]
theorem slot_all {rec : Env0 → PyData → Option Wr} {E : Env0} {d : PyData} : gSlot rec E ("whole" : Str) d = gWhole d ∧ gSlot rec E ("text" : Str) d = gText d ∧ gSlot rec E ("known" : Str) d = gKnown E d ∧ gSlot rec E ("given" : Str) d = gWord d ∧ gSlot rec E ("field" : Str) d = gWord d ∧
    gSlot rec E ("head" : Str) d = gHead d ∧ gSlot rec E ("kind" : Str) d = gKind E.ls d ∧ gSlot rec E ("part" : Str) d = rec E d ∧ gSlot rec E ("last" : Str) d = rec E d ∧ gSlot rec E ("parts" : Str) d = gParts (rec E) d ∧ gSlot rec E ("fields" : Str) d = gFields (rec E) d := by
  refine ⟨?_, ?_, ?_, ?_, ?_, ?_, ?_, ?_, ?_, ?_, ?_⟩ <;> (unfold gSlot; repeat (first | rw [if_pos rfl] | rw [if_neg (by decide +kernel)]))
section
variable {P : Program} {w : World} {K : PySem.W.Frag} {mg : Str → Option Value} {base : Heap} {T0 : List Addr} {C FA NA : Addr} {cls : Wr → Addr}
theorem at_g {r : Int} {G : Env0 → PyData → Prop} {g g' : Env0 → PyData → Option Wr} (e : ∀ E d, g E d = g' E d) : ∀ vs H Q Ex, spAtG K T0 C cls r G g' vs H Q Ex → spAt K T0 C cls r g vs H Q Ex := fun vs H Q Ex ⟨v, d, p, E, h1, h2, h3, h4, h5, _, h6, h7⟩ =>
  ⟨v, d, p, E, h1, h2, h3, h4, h5, fun z => h6 (by rw [← e]; exact z), fun b z => h7 b (by rw [← e]; exact z)⟩
theorem gg_g {r : Int} {G G' : Env0 → PyData → Prop} {g g' : Env0 → PyData → Option Wr} (e : ∀ E d, g E d = g' E d) (i : ∀ E d, G' E d → G E d) : ∀ vs H Q Ex, spAtG K T0 C cls r G' g' vs H Q Ex → spAtG K T0 C cls r G g vs H Q Ex := fun vs H Q Ex ⟨v, d, p, E, h1, h2, h3, h4, h5, hG, h6, h7⟩ =>
  ⟨v, d, p, E, h1, h2, h3, h4, h5, i E d hG, fun z => h6 (by rw [← e]; exact z), fun b z => h7 b (by rw [← e]; exact z)⟩
/-- the needs' table, as the top has it -/
structure NT (K : PySem.W.Frag) (w : World) (mg : Str → Option Value) (NA : Addr) : Prop where
  g : mg "NEEDS" = some (.ref NA)
  at_ : ∀ q ∈ needTab, ∃ f, KDct K w NA q.1 (.ref f) ∧ mg q.2 = some (.ref f)
/-- what a part needs, at any depth -/
theorem c_parts (tOk : PyData → Prop) (T : Tx K mg) (R : Ers K mg cls) (L : PlC P w K mg base C) (F : FT K w mg FA) (N : NT K w mg NA) (m12 : ∃ t, mg "DEEPEST_BODY" = some (.int 12 t))
    (CW : Cal P w K mg base 2 "is_word" ["thing"] (spTest K T0 isWordD)) (CAF : Cal P w K mg base 1 "are_fields" ["thing"] (spTest K T0 fldD))
    (CN : CalX P w K mg base 31 "need_kind" ["kind", "letters"] (spNeed K T0 (cls .bk) [] (fun ls => gK ls 9)))
    (CT : ∀ r, CalX P w K mg base 3 "_need_text" ["told", "place"] (spAtG K T0 C cls r (fun _ d => tOk d) (fun _ => gText))) :
    ∀ n : Nat, CalX P w K mg base (4 * n + 36) "_need_part" ["part", "place"] (spAtG K T0 C cls (n : Int) (fun E d => txs tOk n d ∧ E.ns.length + 10 * n ≤ 2012) (gPart n)) := by
  have CF : CalX P w K mg base 1 "_form_of" ["part"] (spForm K T0 cls) := c_form_of T R F
  have CA : CalX P w K mg base 1 "_need_all_handed" ["part", "function"] (spAll K T0 cls) := c_need_all T R
  intro n
  induction n with
  | zero => exact (c_need_part (n := 0) (lv := 2) tOk T R L N.g m12 (by omega) CF CA fun m h => by cases h).mono (by omega)
  | succ m ih =>
    have wd : ∀ r, CalX P w K mg base 3 "_need_word" ["told", "place"] (spAt K T0 C cls r fun _ => gWord) := fun r => c_need_word T R CW
    have cin := (c_need_in (n := m) T L (by omega) ih)
    have chd := c_need_handed T R cin
    have cpt := c_need_parts T R chd
    have cfd := c_need_fields2 T R (by omega) CAF (wd _) cin
    refine (c_need_part (n := m + 1) (lv := 4 * m + 39) tOk T R L N.g m12 (by omega) CF CA fun m' h s hs => ?_).mono (by omega)
    obtain rfl : m = m' := Nat.succ.inj h
    have fnd : ∀ x : Str, (s, x) ∈ needTab → ∃ f, KDct K w NA s (.ref f) ∧ mg x = some (.ref f) := fun x hx => N.at_ (s, x) hx
    have sa : ∀ {E : Env0} {d : PyData}, _ := fun {E d} => slot_all (rec := gPart m) (E := E) (d := d)
    have hs' : s = "whole" ∨ s = "text" ∨ s = "known" ∨ s = "given" ∨ s = "field" ∨ s = "head" ∨ s = "kind" ∨ s = "part" ∨ s = "last" ∨ s = "parts" ∨ s = "fields" ∨ s = "function" ∨ s = "kinds" ∨ s = "handed" := by
      simpa [slotNames] using hs
    rcases hs' with rfl | rfl | rfl | rfl | rfl | rfl | rfl | rfl | rfl | rfl | rfl | rfl | rfl | rfl
    · obtain ⟨f, k, e⟩ := fnd "_need_whole" (by decide +kernel)
      exact ⟨f, k, (((c_need_whole T R).held e).mono (by omega)).imp (at_g fun E d => sa.1.symm)⟩
    · obtain ⟨f, k, e⟩ := fnd "_need_text" (by decide +kernel)
      exact ⟨f, k, (((CT _).held e).mono (by omega)).imp (gg_g (fun E d => sa.2.1.symm) fun E d h => h.1.1 rfl)⟩
    · obtain ⟨f, k, e⟩ := fnd "_need_known" (by decide +kernel)
      exact ⟨f, k, (((c_need_known T R L (wd _)).held e).mono (by omega)).imp (at_g fun E d => sa.2.2.1.symm)⟩
    · obtain ⟨f, k, e⟩ := fnd "_need_word" (by decide +kernel)
      exact ⟨f, k, (((wd _).held e).mono (by omega)).imp (at_g fun E d => sa.2.2.2.1.symm)⟩
    · obtain ⟨f, k, e⟩ := fnd "_need_word" (by decide +kernel)
      exact ⟨f, k, (((wd _).held e).mono (by omega)).imp (at_g fun E d => sa.2.2.2.2.1.symm)⟩
    · obtain ⟨f, k, e⟩ := fnd "_need_head" (by decide +kernel)
      exact ⟨f, k, (((c_need_head T R).held e).mono (by omega)).imp (at_g fun E d => sa.2.2.2.2.2.1.symm)⟩
    · obtain ⟨f, k, e⟩ := fnd "_need_kind_here" (by decide +kernel)
      exact ⟨f, k, (((c_need_kind_here T L CN).held e).mono (by omega)).imp (at_g fun E d => sa.2.2.2.2.2.2.1.symm)⟩
    · obtain ⟨f, k, e⟩ := fnd "_need_within" (by decide +kernel)
      exact ⟨f, k, ((cin.held e).mono (by omega)).imp (gg_g (fun E d => sa.2.2.2.2.2.2.2.1.symm) fun E d h => ⟨h.1.2.1 (.inl rfl), by have := h.2; omega⟩)⟩
    · obtain ⟨f, k, e⟩ := fnd "_need_within" (by decide +kernel)
      exact ⟨f, k, ((cin.held e).mono (by omega)).imp (gg_g (fun E d => sa.2.2.2.2.2.2.2.2.1.symm) fun E d h => ⟨h.1.2.1 (.inr rfl), by have := h.2; omega⟩)⟩
    · obtain ⟨f, k, e⟩ := fnd "_need_parts" (by decide +kernel)
      exact ⟨f, k, ((cpt.held e).mono (by omega)).imp (gg_g (fun E d => sa.2.2.2.2.2.2.2.2.2.1.symm) fun E d h ds q x mx => ⟨(h.1.2.2 ds q).1 (.inl rfl) x mx, by have := h.2; omega⟩)⟩
    · obtain ⟨f, k, e⟩ := fnd "_need_fields" (by decide +kernel)
      exact ⟨f, k, ((cfd.held e).mono (by omega)).imp (gg_g (fun E d => sa.2.2.2.2.2.2.2.2.2.2.symm) fun E d h ds q x y mx => ⟨(h.1.2.2 ds q).2 rfl x y mx, by have := h.2; omega⟩)⟩
    · obtain ⟨f, k, e⟩ := fnd "_need_told_earlier" (by decide +kernel)
      exact ⟨f, k, (((c_need_told T R L (wd _)).held e).mono (by omega)).imp (at_g fun E d => slot_function.symm)⟩
    · obtain ⟨f, k, e⟩ := fnd "_need_kinds" (by decide +kernel)
      exact ⟨f, k, (((c_need_kinds T R L CN).held e).mono (by omega)).imp (at_g fun E d => slot_kinds.symm)⟩
    · obtain ⟨f, k, e⟩ := fnd "_need_handed" (by decide +kernel)
      exact ⟨f, k, ((chd.held e).mono (by omega)).imp (gg_g (fun E d => slot_handed.symm) fun E d h ds q x mx => ⟨(h.1.2.2 ds q).1 (.inr rfl) x mx, by have := h.2; omega⟩)⟩
end
end Sc
namespace Sc
open PySem PyProof.Rows L2
def fnOf3 : PyData → Str × Nat × Nat
  | .tuple [.str z, .tuple ls, .tuple ps, _, _] => (z, ls.length, ps.length)
  | _ => (Str.empty, 0, 0)
def gProg : List (Str × Nat × Nat) → List PyData → Option Wr
  | _, [] => none
  | fs, .tuple [d0, d1, d2, d3, d4] :: r => match gFn fs d0 d1 d2 d3 d4 with
    | some b => some b
    | none => gProg (fs ++ [fnOf3 (.tuple [d0, d1, d2, d3, d4])]) r
  | _, _ :: _ => some .bp
def is5 (tOk : PyData → Prop) (d : PyData) : Prop := ∃ d0 d1 d2 d3 d4, d = .tuple [d0, d1, d2, d3, d4] ∧ txs tOk 12 d4
theorem gFn_open {fs : List (Str × Nat × Nat)} {d0 d1 d2 d3 d4 : PyData} (h : gFn fs d0 d1 d2 d3 d4 = none) : ∃ z ls ps, d0 = .str z ∧ d1 = .tuple ls ∧ d2 = .tuple ps ∧ ¬ z ∈ fs.map (·.1) := by
  have h0 := h
  unfold gFn at h
  cases hw : gWord d0 with
  | some b => rw [hw] at h; cases h
  | none =>
    obtain ⟨z, rfl, _⟩ := gWord_none hw
    rw [hw] at h
    have h : (if (formTab.lookup z).isSome then some Wr.bp else if z ∈ fs.map (·.1) then some .tt else
        firstBad [gPairs isLettD d1, gSnd (gKind []) d1, gPairs isWordD d2, gSnd (gKind (leads d1)) d2, gKind (leads d1) d3, gPart 12 ⟨leads d1, fs, leads d2⟩ d4]) = none := h
    split at h
    · cases h
    split at h
    · cases h
    · rename_i hz
      have al := fb_none.mp h
      obtain ⟨ls, rfl, _⟩ := pairs_open lett_str (al (gPairs isLettD d1) (by simp))
      obtain ⟨ps, rfl, _⟩ := pairs_open word_str (al (gPairs isWordD d2) (by simp))
      exact ⟨z, ls, ps, rfl, rfl, rfl, hz⟩
theorem put_new {kvs : List (Key × V)} {k : Key} {v : V} (h : ∀ q ∈ kvs, q.1 ≠ k) : putK kvs k v = kvs ++ [(k, v)] := by
  unfold putK
  rw [if_neg]
  intro z
  obtain ⟨q, hq, e⟩ := List.any_eq_true.mp z
  exact h q hq (of_decide_eq_true e)
section
variable {P : Program} {w : World} {K : PySem.W.Frag} {mg : Str → Option Value} {base : Heap} {T0 : List Addr} {C FA NA : Addr} {cls : Wr → Addr}
def spProg (K : PySem.W.Frag) (T : List Addr) (cls : Wr → Addr) (tOk : PyData → Prop) : Sp := fun vs H Q Ex => ∃ (l : Addr) (us : List V) (ds : List PyData), vs = [.ref l] ∧ SqL K H l us ∧ DpAll K H us ds ∧ ds.length ≤ 12 ∧ (∀ d ∈ ds, okD d ∧ is5 tOk d) ∧ Tb T H ∧
  (gProg [] ds = none → ∀ (b : Addr) (H' : Hp) (kvs : List (Key × V)), Fr T H H' → H' b = some (.dK kvs) → kvs.map (·.1) = ds.map (fun d => (Sum.inr (fnOf3 d).1 : Key)) → kvs.map (·.2) = us → Q (.ref b) H') ∧ (∀ e, gProg [] ds = some e → ∀ H', Fr T H H' → Ex (.ref (cls e)) none H')
theorem gProg_step {tOk : PyData → Prop} : ∀ {ds : List PyData} {fs : List (Str × Nat × Nat)} {j : Nat}, (∀ d ∈ ds, is5 tOk d) → (∀ i d0 d1 d2 d3 d4, i < j → ds[i]? = some (.tuple [d0, d1, d2, d3, d4]) → gFn (fs ++ (ds.take i).map fnOf3) d0 d1 d2 d3 d4 = none) →
    gProg fs ds = gProg (fs ++ (ds.take j).map fnOf3) (ds.drop j)
  | [], fs, j, _, _ => by simp
  | d :: ds, fs, 0, _, _ => by simp
  | d :: ds, fs, j + 1, h5, h => by
    obtain ⟨d0, d1, d2, d3, d4, rfl, _⟩ := h5 d List.mem_cons_self
    have e := h 0 d0 d1 d2 d3 d4 (Nat.succ_pos _) rfl
    rw [List.take_zero, List.map_nil, List.append_nil] at e
    have ih := gProg_step (ds := ds) (fs := fs ++ [fnOf3 (.tuple [d0, d1, d2, d3, d4])]) (j := j) (fun d m => h5 d (List.mem_cons_of_mem _ m)) fun i e0 e1 e2 e3 e4 hi hd => by
      have := h (i + 1) e0 e1 e2 e3 e4 (Nat.succ_lt_succ hi) hd
      rw [List.take_succ_cons, List.map_cons] at this
      rw [List.append_assoc]
      exact this
    show (match gFn fs d0 d1 d2 d3 d4 with | some b => some b | none => gProg (fs ++ [fnOf3 (.tuple [d0, d1, d2, d3, d4])]) ds) = _
    rw [e]
    show gProg (fs ++ [fnOf3 (.tuple [d0, d1, d2, d3, d4])]) ds = _
    rw [ih, List.append_assoc]
    rfl
theorem scProg : FnScope ["program", "functions", "function"] ["program"] (defScope sNeedProgram) := ⟨rfl, rfl, rfl, by decide +kernel, rfl, by decide +kernel, by decide +kernel⟩
theorem c_need_program (tOk : PyData → Prop) {lv : Nat} (T : Tx K mg) (R : Ers K mg cls) (m12 : ∃ t, mg "MOST_FUNCTIONS" = some (.int 12 t)) (CF : CalX P w K mg base lv "_need_function" ["function", "earlier"] (spFn K T0 cls tOk)) : CalX P w K mg base (lv + 1) "need_program" ["program"] (spProg K T0 cls tOk) := by
  obtain ⟨t12, m12⟩ := m12
  refine T.need_program.okX scProg (fun vs H Q E h => ?_) (fun f cdv A outer s H vs Q Ex hr h => ?_)
  · obtain ⟨l, us, ds, rfl, _⟩ := h
    rfl
  obtain ⟨l, us, ds, rfl, hl, hds, l12, h5, tb, q1, q2⟩ := h
  have hu1 : (A.deeper (envOfC "need_program" (defScope sNeedProgram) s.heap.objs.size f cdv)).units + 1 < cLine := by have := hr.un; omega
  refine ⟨_, pss_cons (ps_if (PW.pt (pw_or (pt_not (pt_val (pe_callB call_isi (by rfl) T.m_isinstance boot_isinstance (pa_cons (pv 0) (pa_cons (pe_bltn (v := .ty "list") (by rfl) T.m_list boot_list rfl) pa_nil)))))
        (pw_or1 (pt_cmpR op_gt (pe_callB call_len_seq (by rfl) T.m_len PySem.boot_len (pa_cons (pv 0) pa_nil)) (pe_glob (v := .int 12) (by rfl) m12 ⟨_, rfl⟩) (nomark _)))))
      (pss_one (ps_raise rfl (takes_of rfl rfl rfl rfl) (SkE.pmk_own1 PySem.F.excBase_ValueError R.bp.q R.bp.g R.bp.k (raises_own R.bp.b R.bp.t) (by exact rfl) (pe_fs (.cons pe_str (.cons (pe_fmt (pe_glob (v := .int 12) (by rfl) m12 ⟨_, rfl⟩)) (.cons pe_str .nil))))))) pss_nil)
    (pss_cons (ps_set (i := 1) scProg.nd rfl (Or.inl rfl) pe_dnewK)
    (pss_cons (ps_for (passes_of rfl) rfl (pi_list (pv 0)) (pg_name (i := 2) scProg.nd rfl (Or.inl rfl))
      (pss_cons (ps_expr (pe_calX CF hr (passes_call (takes_of rfl rfl rfl rfl) (fun _ _ _ _ h => h)) (pa_cons (pv 2) (pa_cons (pv 1) pa_nil))))
      (pss_one (ps_dput hu1 (pv 1) (pe_ix ix_tup (pv 2) pe_int (fun _ _ => rfl)) (pv 2) rfl))))
    (pss_one (ps_ret (pv 1))))), ?_⟩
  have lu := DpAll.len hds
  have dpl : Dp K H (.ref l) (.list ds) := .lst hl hds
  show tOr _ _ _ _ _
  refine or_pure false (decide (((us.length : Nat) : Int) > 12)) (fun R1 h => ⟨_, rfl, _, _, _, _, true, rfl, .ty _, Dp.ty dpl, kit_ty (by show kitB "list" "list" = some true; decide +kernel), _, rfl, h⟩) (fun _ R1 h => ⟨_, rfl, l, us, rfl, .inl hl, _, _, rfl, rfl, _, rfl, h⟩) (fun h => ?_) (fun _ _ => iteF ?_)
  · exact absurd (of_decide_eq_true (h.elim (fun z => by cases z) id)) (by omega)
  dsimp only [tNext, gName]
  refine fun b hb => ?_
  have e1 := same_new hb (.dK [])
  have f1 : Fr T0 H (upd H b (.dK [])) := Fr.same tb e1
  have hb1 : (upd H b (.dK [])) b = some (.dK []) := upd_same
  generalize (upd H b (.dK [])) = H1 at e1 f1 hb1 ⊢
  dsimp only [gName]
  refine ⟨_, rfl, l, rfl, ⟨_, (Fr.keep tb f1).1 _ _ hl⟩, ?_⟩
  refine for_list (K := K) (a := l) (xs := us) (fun j σ2 H2 => Fr T0 H H2 ∧ (∃ o, σ2 = [some (.ref l), some (.ref b), o]) ∧ (∃ kvs, H2 b = some (.dK kvs) ∧ kvs.map (·.1) = (ds.take j).map (fun d => (Sum.inr (fnOf3 d).1 : Key)) ∧ kvs.map (·.2) = us.take j) ∧ (((ds.take j).map fnOf3).map (·.1)).Nodup ∧
      ∀ i d0 d1 d2 d3 d4, i < j → ds[i]? = some (.tuple [d0, d1, d2, d3, d4]) → gFn ([] ++ (ds.take i).map fnOf3) d0 d1 d2 d3 d4 = none) ⟨f1, ⟨_, rfl⟩, ⟨[], hb1, rfl, rfl⟩, List.nodup_nil, fun i _ _ _ _ _ h => absurd h (Nat.not_lt_zero _)⟩ (fun j σ2 H2 _ h => (Fr.keep tb h.1).1 _ _ hl) ?_ ?_
  · rintro j x σ2 H2 hx ⟨f2, ⟨o, rfl⟩, ⟨kvs, hk, k1, k2⟩, nd, al⟩
    obtain ⟨d, hd1, hd2⟩ := DpAll.get hds hx
    obtain ⟨okd, d0, d1, d2, d3, d4, rfl, tx⟩ := h5 d (List.mem_of_getElem? hd1)
    have jl := (List.getElem?_eq_some_iff.mp hd1).1
    have kl : kvs.length = j := by
      have := congrArg List.length k2
      rw [List.length_map, List.length_take] at this
      omega
    have hfn : FnsAt K H2 b ((ds.take j).map fnOf3) := by
      refine ⟨kvs, hk, by rw [k1, List.map_map]; rfl, nd, fun i k v z nl np a1 a2 => ?_⟩
      have il : i < j := by have := (List.getElem?_eq_some_iff.mp a1).1; omega
      have b1 : (us.take j)[i]? = some v := by rw [← k2, List.getElem?_map, a1]; rfl
      rw [List.getElem?_take_of_lt il] at b1
      rw [List.getElem?_map, List.getElem?_take_of_lt il] at a2
      obtain ⟨d', c1, c2⟩ := Option.map_eq_some_iff.mp a2
      obtain ⟨d'', c3, c4⟩ := DpAll.get hds b1
      rw [c1] at c3
      cases c3
      obtain ⟨_, e0, e1, e2, e3, e4, rfl, _⟩ := h5 d' (List.mem_of_getElem? c1)
      obtain ⟨z', ls, ps, rfl, rfl, rfl, _⟩ := gFn_open (al i _ _ _ _ _ il c1)
      have c2' : (z', ls.length, ps.length) = (z, nl, np) := c2
      injection c2' with g1 g2
      injection g2 with g2 g3
      exact ⟨_, ls, ps, _, _, (Fr.keep tb f2).dp c4, g2, g3⟩
    have step := gProg_step (tOk := tOk) (fs := []) (j := j) (fun d m => (h5 d m).2) al
    have dr : ds.drop j = .tuple [d0, d1, d2, d3, d4] :: ds.drop (j + 1) := by
      rw [List.drop_eq_getElem_cons jl]
      congr 1
      exact (List.getElem?_eq_some_iff.mp hd1).2
    rw [dr, List.nil_append] at step
    have step : gProg [] ds = (match gFn ((ds.take j).map fnOf3) d0 d1 d2 d3 d4 with | some b => some b | none => gProg ((ds.take j).map fnOf3 ++ [fnOf3 (.tuple [d0, d1, d2, d3, d4])]) (ds.drop (j + 1))) := step
    dsimp only [gName]
    refine ⟨_, rfl, _, rfl, x, b, (ds.take j).map fnOf3, d0, d1, d2, d3, d4, rfl, (Fr.keep tb f2).dp hd2, okd, f2.tab, hfn, tx, fun e H3 f3 => ?_, fun bb e H3 f3 => q2 bb (by rw [step, e]) H3 (f2.trans f3)⟩
    obtain ⟨z, ls, ps, rfl, rfl, rfl, hz⟩ := gFn_open e
    have f23 := f2.trans f3
    have hk3 : H3 b = some (.dK kvs) := f3.old _ _ hk fun y => by
      obtain ⟨ps, g, _⟩ := f2.tab b y
      rw [hk] at g
      cases g
    obtain ⟨a, vs, x0, rfl, ha, hx0, hd0⟩ := tup_get (j := 0) ((Fr.keep tb f23).dp hd2) rfl
    cases hd0
    refine ⟨_, rfl, _, rfl, _, rfl, a, vs, 0, _, rfl, rfl, ha, at_of (j := 0) rfl hx0, b, _, rfl, DPut.k (k := Sum.inr z) hk3 (small1000 (by omega)), ?_⟩
    have new : putK kvs (Sum.inr z) (.ref a) = kvs ++ [(Sum.inr z, .ref a)] := put_new fun q hq e => hz (by
      have m : (Sum.inr z : Key) ∈ kvs.map (·.1) := List.mem_map.mpr ⟨q, hq, e⟩
      rw [k1] at m
      obtain ⟨d, hd, e2⟩ := List.mem_map.mp m
      have e3 : (fnOf3 d).1 = z := Sum.inr.inj e2
      exact List.mem_map.mpr ⟨fnOf3 d, List.mem_map.mpr ⟨d, hd, rfl⟩, e3⟩)
    rw [new]
    refine ⟨⟨fun c o hc nc => ?_, fun P' hP' => ?_⟩, ⟨_, rfl⟩, ⟨_, upd_same, ?_, ?_⟩, ?_, ?_⟩
    · rw [upd_ne (ne_of_none hc hb)]
      exact f23.old c o hc nc
    · obtain ⟨ps', g, gg⟩ := f3.tab P' hP'
      exact ⟨ps', by rw [upd_ne (fun y => by rw [y, hk3] at g; cases g)]; exact g, gg⟩
    · rw [List.map_append, k1, List.take_add_one, hd1, List.map_append]
      rfl
    · rw [List.map_append, k2, List.take_add_one, hx]
      rfl
    · rw [List.take_add_one, hd1, List.map_append, List.map_append]
      refine List.nodup_append.mpr ⟨nd, List.nodup_cons.mpr ⟨by simp, List.nodup_nil⟩, fun y hy y2 hy2 e9 => ?_⟩
      have e8 : y2 = z := List.mem_singleton.mp hy2
      exact hz (by rw [← e8, ← e9]; exact hy)
    · intro i e0 e1 e2 e3 e4 hi he
      rcases Nat.lt_succ_iff_lt_or_eq.mp hi with y | y
      · exact al i e0 e1 e2 e3 e4 y he
      · subst y
        rw [hd1] at he
        cases he
        rw [List.nil_append]
        exact e
  · rintro σ2 H2 ⟨f2, ⟨o, rfl⟩, ⟨kvs, hk, k1, k2⟩, nd, al⟩
    have ld : us.length = ds.length := lu
    rw [ld, List.take_of_length_le (Nat.le_refl _)] at k1
    rw [List.take_of_length_le (Nat.le_refl _)] at k2
    have step := gProg_step (tOk := tOk) (fs := []) (j := ds.length) (fun d m => (h5 d m).2) (by rw [← ld]; exact al)
    rw [List.drop_of_length_le (Nat.le_refl _)] at step
    exact ⟨_, rfl, q1 (by rw [step]; rfl) b H2 kvs f2 hk k1 k2⟩
end
end Sc
namespace Sc
open PySem PyProof.Rows L2
theorem DefT.okX {P : Program} {w : World} {K : PySem.W.Frag} {mg : Str → Option Value} {base : Heap} {x : Str} {st : Stmt} {N ps : List Str} {c : Addr} {k : Nat} {sp : Sp} (D : DefT K mg x st ps c) (S : FnScope N ps (defScope st)) (len : ∀ vs H Q E, sp vs H Q E → vs.length = ps.length)
    (body : ∀ (f : Addr) (A : Around) (outer : List Env) (s : Shared) (H : Hp) (vs : List V) (Q : VK) (E : XK), Room k (A.deeper (envOfC x (defScope st) s.heap.objs.size f (.ref c))) → sp vs H Q E →
      ∃ t, PSs (cxOf (L2.CX P w) P w K mg base N x (defScope st) f (.ref c) A outer s H E) (defBody st) t ∧ t { nx := fun _ H' => Q .non H', rt := Q } (start N vs) H) : CalX P w K mg base (k + 1) x ps sp := by
  obtain ⟨f, fd, oc, od, kV, doc, pm, an, ct, osl, rfl, lk, hcd, kp, m, b⟩ := D.ex
  exact ⟨f, _, fn_of lk hcd S len fun A outer s H vs Q E hr hsp => body f A outer s H vs Q E hr hsp, m, kp, b⟩
section
variable {P : Program} {w : World} {K : PySem.W.Frag} {mg : Str → Option Value} {base : Heap} {T0 : List Addr} {C : Addr} {cls : Wr → Addr} {r : Int}
theorem scNeedText : FnScope ["told", "place"] ["told", "place"] (defScope sPNeedText) := ⟨rfl, rfl, rfl, by decide +kernel, rfl, by decide +kernel, by decide +kernel⟩
theorem c_need_text {c Pa : Addr} (T : Tx K mg) (R : Ers K mg cls) (D : DefT K mg "_need_text" sPNeedText ["told", "place"] c) (TB : GxR.TabB base mg c Pa) (hP : Pa ∈ T0) (hbar : ∃ t, mg "BARRED_SIGN" = some (.int 37 t)) :
    CalX P w K mg base 2 "_need_text" ["told", "place"] (spAt K T0 C cls r fun _ => gText) := by
  obtain ⟨tk, hbar⟩ := hbar
  refine D.okX scNeedText (fun vs H Q E h => ?_) (fun f A outer s H vs Q Ex hr h => ?_)
  · obtain ⟨v, d, p, E, rfl, _⟩ := h
    rfl
  obtain ⟨v, d, p, E, rfl, hd, ok, tb, hp, q1, q2⟩ := h
  dsimp only at q1 q2
  refine ⟨_, pss_cons (ps_if (PW.pt (pw_or (pt_not (pt_val (pe_callB call_isi (by rfl) T.m_isinstance boot_isinstance (pa_cons (pv 0) (pa_cons (pe_bltn (v := .ty "str") (by rfl) T.m_str boot_str rfl) pa_nil)))))
        (pw_or1 (pt_not (pt_val (GxR.pe_allS hr (by rfl) T.m_all (by decide +kernel) TB (by rfl) (gen_by (by decide +kernel)) (pv 0) (elt_between (a := 32) (b := 126) (by rfl) (by rfl)) (fun _ => rfl)))))))
      (pss_one (ps_raise rfl (takes_of rfl rfl rfl rfl) (pmk_own PySem.F.excBase_ValueError R.bp.q R.bp.g R.bp.k (raises_own R.bp.b R.bp.t) (by exact rfl)))) pss_nil)
    (pss_one (ps_if (pt_val (pe_anyM hr (by rfl) T.m_any TB (by rfl) (gen_by (by decide +kernel)) (pv 0) (elt_ord (n := 37) (by rfl) (by rfl) (by rfl) (by rfl) T.m_ord hbar) (fun _ => rfl)))
      (pss_one (ps_raise rfl (takes_of rfl rfl rfl rfl) (pmk_own PySem.F.excBase_ValueError R.bp.q R.bp.g R.bp.k (raises_own R.bp.b R.bp.t) (by exact rfl)))) pss_nil)), ?_⟩
  have neg : gText d = some .bp → ∀ H', Fr T0 H H' → Ex (.ref (cls .bp)) none H' := fun e => q2 .bp e
  have ty := Dp.ty hd
  have is := isStr hd
  show tOr _ _ _ _ _
  cases hd with
  | str z =>
    refine ⟨_, rfl, _, _, _, _, _, rfl, .ty _, ty, kit_ty is, _, rfl, ?_⟩
    refine iteF ?_
    obtain ⟨ps, g, tr⟩ := tb Pa hP
    refine ⟨_, rfl, z, rfl, ⟨ps, g, tr⟩, fun H2 t2 => ?_⟩
    have f2 := Fr.tabbed tb t2 hP
    have G : gText (.str z) = whenB ((z.cps.toList.all fun c => decide (32 ≤ c) && decide (c ≤ 126)) && !(z.cps.toList.any fun c => c == 37)) .bp := rfl
    refine ⟨_, rfl, ?_⟩
    cases h1 : (z.cps.toList.all fun c => decide (32 ≤ c) && decide (c ≤ 126)) with
    | false => exact iteT (neg (by rw [G, h1]; rfl) H2 f2)
    | true =>
      refine iteF ?_
      obtain ⟨ps2, g2, tr2⟩ := f2.tab Pa hP
      refine ⟨_, rfl, z, rfl, ⟨ps2, g2, tr2⟩, fun H3 t3 => ?_⟩
      have f3 := f2.trans (Fr.tabbed f2.tab t3 hP)
      refine ⟨_, rfl, ?_⟩
      have e9 : (z.cps.toList.any fun c => ((c : Nat) : Int) == 37) = z.cps.toList.any fun c => c == 37 := by
        congr 1
        funext c
        rw [Bool.eq_iff_iff, beq_iff_eq, beq_iff_eq]
        omega
      rw [e9]
      cases h2 : (z.cps.toList.any fun c => c == 37) with
      | true => exact iteT (neg (by rw [G, h1, h2]; rfl) H3 f3)
      | false => exact iteF (q1 (by rw [G, h1, h2]; rfl) H3 f3)
  | non => exact ⟨_, rfl, _, _, _, _, _, rfl, .ty _, ty, kit_ty is, _, rfl, iteT (iteT (neg rfl H (Fr.refl tb)))⟩
  | bl _ => exact ⟨_, rfl, _, _, _, _, _, rfl, .ty _, ty, kit_ty is, _, rfl, iteT (iteT (neg rfl H (Fr.refl tb)))⟩
  | int _ => exact ⟨_, rfl, _, _, _, _, _, rfl, .ty _, ty, kit_ty is, _, rfl, iteT (iteT (neg rfl H (Fr.refl tb)))⟩
  | lst _ _ => exact ⟨_, rfl, _, _, _, _, _, rfl, .ty _, ty, kit_ty is, _, rfl, iteT (iteT (neg rfl H (Fr.refl tb)))⟩
  | tup _ _ => exact ⟨_, rfl, _, _, _, _, _, rfl, .ty _, ty, kit_ty is, _, rfl, iteT (iteT (neg rfl H (Fr.refl tb)))⟩
end
end Sc
namespace Sc
open PySem PyProof.Rows L2
section
variable {P : Program} {w : World} {K : PySem.W.Frag} {mg : Str → Option Value} {base : Heap}
theorem scTaken : FnScope ["_law_s", "_law_most", "_law_found"] ["_law_s", "_law_most"] (defScope sTaken) := ⟨rfl, rfl, rfl, by decide +kernel, rfl, by decide +kernel, by decide +kernel⟩
theorem c_taken (T : Tx K mg) : Cal P w K mg base 1 "_law_taken" ["_law_s", "_law_most"] (spTaken K) := by
  refine T.taken.ok scTaken (fun vs H Q E h => ?_) (fun f cdv A outer s H vs Q E hr h => ?_)
  · obtain ⟨s, i, m, rfl, _⟩ := h
    rfl
  obtain ⟨s, i, m, rfl, ⟨ns, g, hs, hc, hl, iok, ok⟩, m0, mb, q⟩ := h
  have hu := hu_of hr
  have ml := T.m_len
  refine ⟨_, pss_cons (ps_if (pt_cmpR op_eq (pe_dget hu (pv 0) pe_str (fun _ _ => rfl)) pe_int (nomark _))
      (pss_cons (ps_dput hu (pv 0) pe_str (pe_op op_add (pe_dget hu (pv 0) pe_str (fun _ _ => rfl)) pe_int) rfl)
      (pss_cons (ps_if (pt_cmpR op_gt (pe_dget hu (pv 0) pe_str (fun _ _ => rfl)) (pe_callB call_len_seq (by rfl) ml PySem.boot_len (pa_cons (pe_dget hu (pv 0) pe_str (fun _ _ => rfl)) pa_nil)) (nomark _))
        (pss_cons (ps_dput hu (pv 0) pe_str (pe_op op_mod (pe_op op_add (pe_op op_mul (pe_dget hu (pv 0) pe_str (fun _ _ => rfl)) pe_int) pe_int) pe_int) rfl)
        (pss_cons (ps_set (i := 2) scTaken.nd rfl (Or.inl rfl) (pe_op op_fdiv (pe_dget hu (pv 0) pe_str (fun _ _ => rfl)) pe_int))
        (pss_one (ps_ret (pe_ifExp (pt_cmpR op_gt (pv 1) (pe_op op_pow pe_int pe_int) (nomark _)) (pe_op op_modN (pe_op op_pow (pv 2) pe_int) (pv 1)) (pe_op op_modN (pv 2) (pv 1)))))))
        pss_nil)
      (pss_cons (ps_if (pt_cmpR op_lt (pe_ix ix_list (pe_dget hu (pv 0) pe_str (fun _ _ => rfl)) (pe_op op_sub (pe_dget hu (pv 0) pe_str (fun _ _ => rfl)) pe_int) (fun _ _ => rfl)) (pe_op op_pow pe_int pe_int) (nomark _))
        (pss_one (ps_ret (pe_op op_modN (pe_ix ix_list (pe_dget hu (pv 0) pe_str (fun _ _ => rfl)) (pe_op op_sub (pe_dget hu (pv 0) pe_str (fun _ _ => rfl)) pe_int) (fun _ _ => rfl)) (pv 1))))
        pss_nil)
      (pss_one (ps_dput hu (pv 0) pe_str (pe_ix ix_list (pe_dget hu (pv 0) pe_str (fun _ _ => rfl)) (pe_op op_sub (pe_dget hu (pv 0) pe_str (fun _ _ => rfl)) pe_int) (fun _ _ => rfl)) rfl)))))
      pss_nil)
    (pss_cons (ps_set (i := 2) scTaken.nd rfl (Or.inl rfl) (pe_op op_modN (pe_dget hu (pv 0) pe_str (fun _ _ => rfl)) (pv 1)))
    (pss_cons (ps_dput hu (pv 0) pe_str (pe_op op_fdivW (pe_dget hu (pv 0) pe_str (fun _ _ => rfl)) (pv 1)) rfl)
    (pss_one (ps_ret (pv 2))))), ?_⟩
  -- the rows behind the if, from any state
  have last : ∀ (H1 : Hp) (g1 : Mv) (v2 : Option V), H1 s = some (.dK (stD i g1)) → SqL K H1 i.c (ns.map V.int) → g1.Ok → Ext s H H1 →
      tSeq (tAsg (tOp (rI (fun _ j => j ≠ 0) fun i j => V.int (i.fmod j)) (tDGet (tVar 0) (tC (.str "rest"))) (tVar 1)) (gName 2))
        (tSeq (sDPut (tVar 0) (tC (.str "rest")) (tOp (rI CDivW fun i j => V.int (i / j)) (tDGet (tVar 0) (tC (.str "rest"))) (tVar 1))) (tRet (tVar 2)))
        { nx := fun _ H' => Q .non H', rt := Q } [some (.ref s), some (.int m), v2] H1 := fun H1 g1 v2 hs1 hc1 ok1 e1 => by
    refine ⟨_, rfl, s, _, rfl, gS hs1 rfl, _, rfl, _, _, rfl, rfl, by omega, ?_⟩
    refine ⟨_, rfl, s, _, rfl, gS hs1 rfl, _, rfl, _, _, rfl, rfl, ⟨m0, ?_⟩, _, rfl, s, _, rfl, pS hs1 (p_rest i g1 _), _, rfl, ?_⟩
    · exact Nat.lt_trans (PySem.Flt.log2_lt_of (by decide) mb) (by decide)
    have em : g1.rest.fmod m = g1.rest % m := Int.fmod_eq_emod_of_nonneg _ (by omega)
    refine q _ _ (by rw [em]; exact Int.emod_nonneg _ (by omega)) (by rw [em]; exact Int.emod_lt_of_pos _ m0) (e1.trans (Ext.upd _ _ _)) ⟨ns, _, upd_same, (Ext.upd s H1 _).seq hs1 hc1, hl, iok, ?_⟩
    exact { ok1 with r0 := Int.ediv_nonneg ok1.r0 (by omega) }
  refine ⟨_, rfl, s, _, rfl, gS hs rfl, rfl, _, rfl, ite2 (fun c1 => ?_) (fun c1 => last H g none hs hc ok (Ext.refl s H))⟩
  refine ⟨_, rfl, s, _, rfl, gS hs rfl, _, _, rfl, rfl, _, rfl, s, _, rfl, pS hs (p_at i g _), ?_⟩
  have hs1 : (upd H s (.dK (stD i { g with att := g.att + 1 }))) s = _ := upd_same
  have e1 := Ext.upd s H (.dK (stD i { g with att := g.att + 1 }))
  have hc1 := e1.seq hs hc
  have ok1 : ({ g with att := g.att + 1 } : Mv).Ok := { ok with a0 := by have := ok.a0; show 0 ≤ g.att + 1; omega }
  generalize upd H s (.dK (stD i { g with att := g.att + 1 })) = H1 at hs1 e1 hc1 ⊢
  have a1 : 1 ≤ ({ g with att := g.att + 1 } : Mv).att := by have := ok.a0; show 1 ≤ g.att + 1; omega
  generalize ({ g with att := g.att + 1 } : Mv) = g1 at hs1 ok1 a1 ⊢
  refine ⟨_, rfl, s, _, rfl, gS hs1 rfl, _, rfl, s, _, rfl, gS hs1 rfl, i.c, _, rfl, .inl hc1, _, _, rfl, rfl, _, rfl, ite2 (fun c2 => ?_) (fun c2 => ?_)⟩
  · refine ⟨_, rfl, s, _, rfl, gS hs1 rfl, _, _, rfl, rfl, .inr (by decide), _, _, rfl, rfl, _, _, rfl, rfl, (by show (0 : Int) < 2147483647; decide), _, rfl, s, _, rfl, pS hs1 (p_seed i g1 _), ?_⟩
    have s0 : 0 ≤ (g1.seed * 48271 + 11) % 2147483647 := Int.emod_nonneg _ (by decide)
    have s1 : (g1.seed * 48271 + 11) % 2147483647 < 2147483647 := Int.emod_lt_of_pos _ (by decide)
    generalize (g1.seed * 48271 + 11) % 2147483647 = sd at s0 s1 ⊢
    have hs2 : (upd H1 s (.dK (stD i { g1 with seed := sd }))) s = _ := upd_same
    have e2 := Ext.upd s H1 (.dK (stD i { g1 with seed := sd }))
    have hc2 := e2.seq hs1 hc1
    have ok2 : ({ g1 with seed := sd } : Mv).Ok := { ok1 with e0 := s0 }
    generalize upd H1 s (.dK (stD i { g1 with seed := sd })) = H2 at hs2 e2 hc2 ⊢
    refine ⟨_, rfl, s, _, rfl, gS hs2 rfl, _, _, rfl, rfl, ⟨by decide, by decide⟩, _, rfl, _, _, rfl, rfl, ⟨by decide, by decide, by decide⟩, _, _, rfl, rfl, _, rfl, ?_⟩
    have fin : ∀ x : Int, Q (.int (x.fmod m)) H2 := fun x => by
      have em : x.fmod m = x % m := Int.fmod_eq_emod_of_nonneg _ (by omega)
      rw [em]
      exact q _ _ (Int.emod_nonneg _ (by omega)) (Int.emod_lt_of_pos _ m0) (e1.trans e2) ⟨ns, _, hs2, hc2, hl, iok, ok2⟩
    refine ite2 (fun c3 => ?_) (fun c3 => ?_)
    · refine ⟨_, rfl, _, _, rfl, rfl, ⟨by decide, by decide, ?_⟩, _, rfl, _, _, rfl, rfl, by omega, fin _⟩
      show (sd / 64).natAbs < 2 ^ 64
      omega
    · exact ⟨_, rfl, _, rfl, _, _, rfl, rfl, by omega, fin _⟩
  · have hlt : g1.att - 1 < (ns.length : Int) := by
      have c2' : ¬ (((ns.map V.int).length : Nat) : Int) < g1.att := of_decide_eq_false (Bool.eq_false_iff.mpr c2)
      rw [List.length_map] at c2'
      omega
    obtain ⟨j, hj⟩ : ∃ j : Nat, g1.att - 1 = (j : Int) := ⟨(g1.att - 1).toNat, by omega⟩
    have hjl : j < ns.length := by omega
    have hat : atI (ns.map V.int) (g1.att - 1) = some (.int ns[j]) := by
      rw [hj]
      exact atI_nat (by rw [List.getElem?_map, List.getElem?_eq_getElem hjl] <;> rfl)
    refine ⟨_, rfl, s, _, rfl, gS hs1 rfl, _, rfl, s, _, rfl, gS hs1 rfl, _, _, rfl, rfl, i.c, _, _, _, rfl, rfl, hc1, hat, _, _, rfl, rfl, ⟨by decide, by decide, by decide⟩, _, _, rfl, rfl, _, rfl, ite2 (fun c3 => ?_) (fun c3 => ?_)⟩
    · have em : ns[j].fmod m = ns[j] % m := Int.fmod_eq_emod_of_nonneg _ (by omega)
      refine ⟨_, rfl, s, _, rfl, gS hs1 rfl, _, rfl, s, _, rfl, gS hs1 rfl, _, _, rfl, rfl, i.c, _, _, _, rfl, rfl, hc1, hat, _, rfl, _, _, rfl, rfl, by omega, ?_⟩
      exact q _ _ (by rw [em]; exact Int.emod_nonneg _ (by omega)) (by rw [em]; exact Int.emod_lt_of_pos _ m0) e1 ⟨ns, _, hs1, hc1, hl, iok, ok1⟩
    · refine ⟨_, rfl, s, _, rfl, gS hs1 rfl, _, rfl, s, _, rfl, gS hs1 rfl, _, _, rfl, rfl, i.c, _, _, _, rfl, rfl, hc1, hat, _, rfl, s, _, rfl, pS hs1 (p_rest i g1 _), ?_⟩
      have c3' : ¬ ns[j] < 10 ^ 18 := of_decide_eq_false (Bool.eq_false_iff.mpr c3)
      exact last _ _ none upd_same ((Ext.upd s H1 _).seq hs1 hc1) { ok1 with r0 := by show 0 ≤ ns[j]; omega } (e1.trans (Ext.upd _ _ _))
end
end Sc
namespace Sc
open PySem PyProof.Rows L2
section
variable {P : Program} {w : World} {K : PySem.W.Frag} {mg : Str → Option Value} {base : Heap}
def d8 (c : Addr) : List (Key × V) := [(.inr "cells", .ref c), (.inr "at", .int 0), (.inr "rest", .int 0), (.inr "size", .int 1), (.inr "place", .int 0), (.inr "turn", .int 0), (.inr "talk", .int 0), (.inr "odd", .int 0)]
def d9 (c fl : Addr) : List (Key × V) := d8 c ++ [(.inr "functions", .ref fl)]
theorem merge8 (c : Addr) : mergeK [] (d8 c) = d8 c := by kernel_rfl
theorem fn8 (c fl : Addr) : putK (d8 c) (.inr "functions") (.ref fl) = d9 c fl := by rfl
theorem seed9 (c fl : Addr) (n : Int) : putK (d9 c fl) (.inr "seed") (.int n) = stD ⟨c, fl, 1, 0, 0, 0, 0⟩ ⟨0, 0, n⟩ := by rfl
theorem scBegin : FnScope ["_law_script", "_law_s", "_law_cell"] ["_law_script"] (defScope sBegin) := ⟨rfl, rfl, rfl, by decide +kernel, rfl, by decide +kernel, by decide +kernel⟩
theorem c_begin (T : Tx K mg) : Cal P w K mg base 2 "_law_begin" ["_law_script"] (spBegun K) := by
  have CT : Cal P w K mg base 1 "_law_taken" ["_law_s", "_law_most"] (spTaken K) := c_taken T
  refine T.begin.ok scBegin (fun vs H Q E h => ?_) (fun f cdv A outer s H vs Q E hr h => ?_)
  · obtain ⟨c, ns, rfl, _⟩ := h
    rfl
  obtain ⟨c, ns, rfl, hc, hl, q⟩ := h
  have hu := hu_of hr
  refine ⟨_, pss_cons (ps_set (i := 1) scBegin.nd rfl (Or.inl rfl) (pe_disp (pps_cons pe_str (pv 0) (pps_cons pe_str pe_int (pps_cons pe_str pe_int (pps_cons pe_str pe_int (pps_cons pe_str pe_int (pps_cons pe_str pe_int
        (pps_cons pe_str pe_int (pps_cons pe_str pe_int pps_nil)))))))) (by rfl) (by rfl) (fun z => by cases z) (by decide)))
    (pss_cons (ps_dput hu (pv 1) pe_str (pe_lst pa_nil) rfl)
    (pss_cons (ps_dput hu (pv 1) pe_str (pe_op op_add pe_int (pe_callB (cr_sum rfl) (by rfl) T.m_sum (by decide +kernel) (pa_cons
        (pe_lc (own := [("_law_cell", 2)]) (g := gName 2) (tt := tYes) rfl scBegin.nd (pi_list (pv 0)) (blkOk_by (N := ["_law_script", "_law_s", "_law_cell"]) (sc := defScope sBegin) (by decide +kernel))
          (fun _ _ _ _ _ => pg_name (i := 2) scBegin.nd rfl (Or.inl rfl)) (fun _ _ _ _ _ => pts_nil)
          (fun _ _ _ _ _ => pe_op op_mul pe_int (pe_callB call_abs (by rfl) T.m_abs (by decide +kernel) (pa_cons (pv 2) pa_nil)))) pa_nil))) rfl)
    (pss_cons (ps_dput hu (pv 1) pe_str (pe_op op_add pe_int (pe_cal CT hr (pa_cons (pv 1) (pa_cons pe_int pa_nil)))) rfl)
    (pss_cons (ps_dput hu (pv 1) pe_str (pe_cal CT hr (pa_cons (pv 1) (pa_cons (pe_dget hu (pv 1) pe_str (fun _ _ => rfl)) pa_nil))) rfl)
    (pss_cons (ps_dput hu (pv 1) pe_str (pe_cal CT hr (pa_cons (pv 1) (pa_cons pe_int pa_nil))) rfl)
    (pss_cons (ps_dput hu (pv 1) pe_str (pe_callTy call_int1 (by rfl) T.m_int (by decide +kernel) (pa_cons (pe_cmpR op_eq (pe_cal CT hr (pa_cons (pv 1) (pa_cons pe_int pa_nil))) pe_int (nomark _)) pa_nil)) rfl)
    (pss_one (ps_ret (pv 1))))))))), ?_⟩
  refine fun s hs0 => ⟨_, rfl, upd_same, d8 c, rfl, by show 8 ≤ 15; decide, ?_⟩
  rw [merge8]
  have hs1 : (upd (upd H s (.dK [])) s (.dK (d8 c))) s = some (.dK (d8 c)) := upd_same
  have e00 : Same H (upd (upd H s (.dK [])) s (.dK (d8 c))) := fun b o h => by
    rw [upd_ne (ne_of_none h hs0), upd_ne (ne_of_none h hs0)]
    exact h
  generalize (upd (upd H s (.dK [])) s (.dK (d8 c))) = H0 at hs1 e00 ⊢
  dsimp only [gName]
  refine ⟨Nat.zero_le _, fun fl hfl => ?_⟩
  have hfl0 : H fl = none := e00.free hfl
  have nsf : s ≠ fl := ne_of_none hs1 hfl
  refine ⟨_, rfl, s, _, rfl, DPut.k (k := Sum.inr "functions") (by rw [upd_ne nsf]; exact hs1) (by show 8 < sizeLine; decide), ?_⟩
  rw [fn8]
  have e0 : Same H (upd (upd H0 fl (.lst [])) s (.dK (d9 c fl))) := fun b o h => by
    rw [upd_ne (ne_of_none h hs0), upd_ne (ne_of_none h hfl0)]
    exact e00 b o h
  have f0 : (upd (upd H0 fl (.lst [])) s (.dK (d9 c fl))) fl = some (.lst []) := by rw [upd_ne nsf.symm, upd_same]
  have d0 : (upd (upd H0 fl (.lst [])) s (.dK (d9 c fl))) s = some (.dK (d9 c fl)) := upd_same
  generalize (upd (upd H0 fl (.lst [])) s (.dK (d9 c fl))) = H1 at e0 f0 d0 ⊢
  refine ⟨_, rfl, c, rfl, ⟨_, Same.seq e0 hc⟩, fun D hD => lc_list (K := K) (a := c) (xs := ns.map V.int) (fun j H2 => Same H1 H2 ∧ H2 D = some (.lst ((ns.take j).map fun z => V.int (31 * (if z < 0 then -z else z))))) ⟨same_new hD _, upd_same⟩
    (fun j H2 _ h => Same.seq (e0.trans h.1) hc) ?_ ?_⟩
  · rintro j x H2 hx ⟨e2, h2⟩
    rw [List.getElem?_map] at hx
    obtain ⟨z, hz, rfl⟩ := Option.map_eq_some_iff.mp hx
    refine ⟨rfl, _, rfl, z, rfl, _, _, rfl, rfl, .inl ⟨by decide, by decide⟩, _, h2, ?_, fun b o hb => ?_, ?_⟩
    · rw [List.length_map]
      exact small1000 (Nat.le_trans (List.length_take_le' _ _) (by omega))
    · rw [upd_ne (ne_of_none hb hD)]
      exact e2 b o hb
    · rw [upd_same, List.take_add_one, hz, List.map_append]
      rfl
  rintro H2 ⟨e2, h2⟩
  refine ⟨D, ns.map fun z => 31 * (if z < 0 then -z else z), rfl, ?_, _, _, rfl, rfl, _, rfl, s, _, rfl, DPut.k (k := Sum.inr "seed") (e2 _ _ d0) (by show 9 < sizeLine; decide), ?_⟩
  · rw [List.length_map, List.take_length] at h2
    rw [List.map_map]
    exact SqL.of h2
  rw [seed9]
  have hc2 : SqL K H2 c (ns.map V.int) := Same.seq (e0.trans e2) hc
  have x3 := Ext.upd s H2 (.dK (stD ⟨c, fl, 1, 0, 0, 0, 0⟩ ⟨0, 0, 7 + (ns.map fun z => 31 * (if z < 0 then -z else z)).sum⟩))
  have hs2 : (upd H2 s (.dK (stD ⟨c, fl, 1, 0, 0, 0, 0⟩ ⟨0, 0, 7 + (ns.map fun z => 31 * (if z < 0 then -z else z)).sum⟩))) s = _ := upd_same
  have hf2 : (upd H2 s (.dK (stD ⟨c, fl, 1, 0, 0, 0, 0⟩ ⟨0, 0, 7 + (ns.map fun z => 31 * (if z < 0 then -z else z)).sum⟩))) fl = some (.lst []) := by rw [upd_ne nsf.symm]; exact e2 _ _ f0
  have x03 : Ext s H (upd H2 s (.dK (stD ⟨c, fl, 1, 0, 0, 0, 0⟩ ⟨0, 0, 7 + (ns.map fun z => 31 * (if z < 0 then -z else z)).sum⟩))) := (Ext.same (e0.trans e2)).trans x3
  have hc3 := x3.seq (e2 _ _ d0) hc2
  generalize (upd H2 s (.dK (stD ⟨c, fl, 1, 0, 0, 0, 0⟩ ⟨0, 0, 7 + (ns.map fun z => 31 * (if z < 0 then -z else z)).sum⟩))) = H3 at hs2 hf2 x03 hc3 ⊢
  have sum0 : ∀ l : List Int, 0 ≤ (l.map fun z => 31 * (if z < 0 then -z else z)).sum := fun l => by
    induction l with
    | nil => exact Int.le_refl 0
    | cons z l ih =>
      rw [List.map_cons, List.sum_cons]
      split <;> omega
  have S3 : IsS K H3 s ⟨c, fl, 1, 0, 0, 0, 0⟩ := ⟨ns, _, hs2, hc3, hl, ⟨by show (1 : Int) ≤ 1; decide, by show (1 : Int) ≤ 8; decide, by show (0 : Int) ≤ 0; decide, by show (0 : Int) < 1; decide, by show (0 : Int) ≤ 0; decide, by show (0 : Int) < 26; decide, by show (0 : Int) ≤ 0; decide, by show (0 : Int) ≤ 1; decide⟩,
    ⟨by show (0 : Int) ≤ 0; decide, by show (0 : Int) ≤ 0; decide, by have := sum0 ns; show 0 ≤ 7 + _; omega⟩⟩
  -- the four draws
  have put : ∀ {H4 : Hp} {i i' : Inf} {k : Str} {v : V}, IsS K H4 s i → (∀ m, putK (stD i m) (.inr k) v = stD i' m) → i'.c = i.c → i'.Ok → ∃ H5, DPut H4 s (.str k) v H5 ∧ IsS K H5 s i' ∧ Ext s H4 H5 := fun {H4 i i' k v} h hp hi ho => by
    obtain ⟨ns, m, a1, a2, a3, a4, a5⟩ := h
    exact ⟨_, pS a1 (hp m), ⟨ns, m, upd_same, by rw [hi]; exact (Ext.upd s H4 _).seq a1 a2, a3, ho, a5⟩, Ext.upd s H4 _⟩
  refine ⟨_, rfl, s, _, 8, rfl, S3, by decide, by decide, fun r1 H4 a1 b1 x4 S4 => ?_⟩
  obtain ⟨H5, p5, S5, x5⟩ := put (k := "size") (v := .int (1 + r1)) S4 (fun m => p_size _ m _) rfl { s1 := by show 1 ≤ 1 + r1; omega, s8 := by show 1 + r1 ≤ 8; omega, p0 := by show (0 : Int) ≤ 0; decide, p1 := by show 0 < 1 + r1; omega, t0 := by show (0 : Int) ≤ 0; decide, t1 := by show (0 : Int) < 26; decide, k0 := by show (0 : Int) ≤ 0; decide, k1 := by show (0 : Int) ≤ 1; decide }
  refine ⟨_, _, rfl, rfl, _, rfl, s, _, rfl, p5, ?_⟩
  obtain ⟨ns5, m5, h5, _⟩ := id S5
  refine ⟨_, rfl, _, rfl, s, _, rfl, gS h5 rfl, s, _, _, rfl, S5, by show 0 < 1 + r1; omega, ?_, fun r2 H6 a2 b2 x6 S6 => ?_⟩
  · show (1 + r1).natAbs < 2 ^ 200
    exact Nat.lt_trans (show (1 + r1).natAbs < 100 by omega) (by decide)
  have b2' : r2 < 1 + r1 := b2
  obtain ⟨H7, p7, S7, x7⟩ := put (k := "place") (v := .int r2) S6 (fun m => p_place _ m _) rfl { s1 := by show 1 ≤ 1 + r1; omega, s8 := by show 1 + r1 ≤ 8; omega, p0 := a2, p1 := b2, t0 := by show (0 : Int) ≤ 0; decide, t1 := by show (0 : Int) < 26; decide, k0 := by show (0 : Int) ≤ 0; decide, k1 := by show (0 : Int) ≤ 1; decide }
  refine ⟨_, rfl, s, _, rfl, p7, ?_⟩
  refine ⟨_, rfl, s, _, 26, rfl, S7, by decide, by decide, fun r3 H8 a3 b3 x8 S8 => ?_⟩
  obtain ⟨H9, p9, S9, x9⟩ := put (k := "turn") (v := .int r3) S8 (fun m => p_turn _ m _) rfl { s1 := by show 1 ≤ 1 + r1; omega, s8 := by show 1 + r1 ≤ 8; omega, p0 := a2, p1 := b2, t0 := a3, t1 := b3, k0 := by show (0 : Int) ≤ 0; decide, k1 := by show (0 : Int) ≤ 1; decide }
  refine ⟨_, rfl, s, _, rfl, p9, ?_⟩
  refine ⟨_, rfl, s, _, 9, rfl, S9, by decide, by decide, fun r4 Ha a4 b4 xa Sa => ⟨rfl, .inr ⟨_, rfl, ?_⟩⟩⟩
  obtain ⟨Hb, pb, Sb, xb⟩ := put (k := "talk") (v := .int (if decide (V.int r4 = V.int 8) = true then 1 else 0)) Sa (fun m => p_talk _ m _) rfl { s1 := by show 1 ≤ 1 + r1; omega, s8 := by show 1 + r1 ≤ 8; omega, p0 := a2, p1 := b2, t0 := a3, t1 := b3, k0 := by show (0 : Int) ≤ ite _ _ _; split <;> decide, k1 := by show ite _ _ _ ≤ (1 : Int); split <;> decide }
  refine ⟨_, rfl, s, _, rfl, pb, _, rfl, ?_⟩
  have xx := x4.trans (x5.trans (x6.trans (x7.trans (x8.trans (x9.trans (xa.trans xb))))))
  refine q s _ Hb (fun b o h => ?_) hs0 rfl rfl (xx _ _ nsf.symm hf2) hfl0 Sb
  exact (x03.trans xx) b o (ne_of_none h hs0) h
end
end Sc
namespace Sc
open PySem PyProof.Rows L2
section
variable {P : Program} {w : World} {K : PySem.W.Frag} {mg : Str → Option Value} {base : Heap}
theorem scAWord : FnScope ["_law_s", "_law_k", "_law_words", "_law_sign"] ["_law_s", "_law_k"] (defScope sAWord) := ⟨rfl, rfl, rfl, by decide +kernel, rfl, by decide +kernel, by decide +kernel⟩
theorem abc_at : ∀ n : Nat, n < 26 → ("abcdefghijklmnopqrstuvwxyz" : Str).cps[n]? = some (97 + n) := by decide +kernel
theorem abc_len : ("abcdefghijklmnopqrstuvwxyz" : Str).length = 26 := by decide +kernel
theorem c_a_word (T : Tx K mg) : Cal P w K mg base 1 "_law_a_word" ["_law_s", "_law_k"] (spWord K) := by
  refine T.a_word.ok scAWord (fun vs H Q E h => ?_) (fun f cdv A outer s H vs Q E hr h => ?_)
  · obtain ⟨s, i, k, rfl, _⟩ := h
    rfl
  obtain ⟨s, i, k, rfl, ⟨ns, m, hs, hc, hl, iok, ok⟩, k0, q⟩ := h
  have hu := hu_of hr
  refine ⟨_, pss_cons (ps_if (PW.pt (pw_and (pt_cmpR op_eq (pe_dget hu (pv 0) pe_str (fun _ _ => rfl)) pe_int (nomark _)) (pw_and1 (pt_cmpR op_lt (pv 1) pe_int (nomark _)))))
      (pss_cons (ps_set (i := 2) scAWord.nd rfl (Or.inl rfl) (pe_lst (pa_cons pe_str (pa_cons pe_str (pa_cons pe_str (pa_cons pe_str (pa_cons pe_str (pa_cons pe_str (pa_cons pe_str (pa_cons pe_str (pa_cons pe_str (pa_cons pe_str (pa_cons pe_str pa_nil)))))))))))))
      (pss_one (ps_ret (pe_ix ix_list (pe_op op_cat (pv 2) (pe_lst (pa_cons pe_str (pa_cons pe_str (pa_cons pe_str (pa_cons pe_str (pa_cons pe_str (pa_cons pe_str (pa_cons pe_str (pa_cons pe_str pa_nil)))))))))) (pv 1) (fun _ _ => rfl)))))
      pss_nil)
    (pss_cons (ps_set (i := 3) scAWord.nd rfl (Or.inl rfl) (pe_item_str pe_str (pe_op op_mod (pe_op op_add (pv 1) (pe_dget hu (pv 0) pe_str (fun _ _ => rfl))) pe_int) (fun _ _ => rfl)))
    (pss_one (ps_ret (pe_op op_add_str (pe_op op_add_str (pe_op op_reps pe_str (pe_dget hu (pv 0) pe_str (fun _ _ => rfl))) (pv 3))
      (pe_op op_reps pe_str (pe_op op_sub (pe_op op_sub (pe_dget hu (pv 0) pe_str (fun _ _ => rfl)) (pe_dget hu (pv 0) pe_str (fun _ _ => rfl))) pe_int)))))), ?_⟩
  have plain : ¬ (i.talk = 1 ∧ k < 19) → ∀ v2, tSeq (tAsg (tOp (fun x y H Q => ∃ z i c, x = .str z ∧ y = .int i ∧ 0 ≤ i ∧ i < 2 ^ 63 ∧ i < z.length ∧ z.cps[i.toNat]? = some c ∧ Q (.str ⟨#[c]⟩) H) (tC (.str "abcdefghijklmnopqrstuvwxyz"))
      (tOp (rI (fun _ j => 0 < j) fun i j => V.int (i % j)) (tOp (rI0 fun i j => V.int (i + j)) (tVar 1) (tDGet (tVar 0) (tC (.str "turn")))) (tC (.int 26)))) (gName 3))
      (tRet (tOp (fun x y H Q => ∃ i j, x = .str i ∧ y = .str j ∧ i.length + j.length ≤ sizeLine ∧ Q (.str (i ++ j)) H) (tOp (fun x y H Q => ∃ i j, x = .str i ∧ y = .str j ∧ i.length + j.length ≤ sizeLine ∧ Q (.str (i ++ j)) H)
        (tOp rReps (tC (.str "q")) (tDGet (tVar 0) (tC (.str "place")))) (tVar 3)) (tOp rReps (tC (.str "q")) (tOp (rI0 fun i j => V.int (i - j)) (tOp (rI0 fun i j => V.int (i - j)) (tDGet (tVar 0) (tC (.str "size"))) (tDGet (tVar 0) (tC (.str "place")))) (tC (.int 1))))))
      { nx := fun _ H' => Q .non H', rt := Q } [some (.ref s), some (.int k), v2, none] H := fun no v2 => by
    have j0 : 0 ≤ (k + i.turn) % 26 := Int.emod_nonneg _ (by decide)
    have j1 : (k + i.turn) % 26 < 26 := Int.emod_lt_of_pos _ (by decide)
    have ew : wordOf i k = reps 113 i.place.toNat ++ signAt (97 + ((k + i.turn) % 26).toNat) ++ reps 113 (i.size - i.place - 1).toNat := if_neg no
    obtain ⟨s1, s8, p0, p1, t0, t1, _, _⟩ := iok
    refine ⟨_, rfl, _, rfl, s, _, rfl, gS hs rfl, _, _, rfl, rfl, _, _, rfl, rfl, (by show (0 : Int) < 26; decide), _, _, _, rfl, rfl, j0, by omega, by rw [abc_len]; exact j1, abc_at _ (by omega), ?_⟩
    refine ⟨_, rfl, s, _, rfl, gS hs rfl, 113, _, rfl, rfl, p0, by omega, _, rfl, _, _, rfl, rfl, ?_, _, rfl, s, _, rfl, gS hs rfl, _, rfl, s, _, rfl, gS hs rfl, _, _, rfl, rfl, _, _, rfl, rfl, 113, _, rfl, rfl, by omega, by omega, _, _, rfl, rfl, ?_, ?_⟩
    · rw [len_list, len_list, reps_list, List.length_replicate]
      show _ + 1 ≤ sizeLine
      rw [sizeLine_eq]; omega
    · rw [len_list, len_list, app_list, reps_list, reps_list, List.length_append, List.length_replicate, List.length_replicate]
      show _ + 1 + _ ≤ sizeLine
      rw [sizeLine_eq]; omega
    · have z := q H (Same.refl H)
      rw [ew] at z
      exact z
  refine ⟨_, rfl, s, _, rfl, gS hs rfl, rfl, _, rfl, ite2 (fun c1 => ?_) (fun c1 => ?_)⟩
  · refine ⟨_, rfl, _, _, rfl, rfl, _, rfl, ite2 (fun c2 => ?_) (fun c2 => plain (fun z => c2 (decide_eq_true z.2)) none)⟩
    have c1' : i.talk = 1 := by
      have z := of_decide_eq_true c1
      injection z
    have c2' : k < 19 := of_decide_eq_true c2
    refine ⟨(by show 11 ≤ sizeLine; decide), fun p hp => ⟨_, rfl, (by show 8 ≤ sizeLine; decide), fun p2 hp2 => ?_⟩⟩
    refine ⟨p, p2, _, _, rfl, rfl, by rw [upd_ne (ne_of_none upd_same hp2)]; exact upd_same, upd_same, (by show 11 + 8 ≤ sizeLine; decide), fun p3 hp3 => ⟨_, rfl, p3, talks.map V.str, k, .str (wordOf i k), rfl, rfl, SqL.of upd_same, ?_, ?_⟩⟩
    · have lt : k.toNat < talks.length := by show k.toNat < 19; omega
      have e : wordOf i k = talks[k.toNat] := by
        unfold wordOf
        rw [if_pos ⟨c1', c2'⟩, List.getD_eq_getElem?_getD, List.getElem?_eq_getElem lt]
        rfl
      rw [e]
      exact at_of (j := k.toNat) (by omega) (by rw [List.getElem?_map, List.getElem?_eq_getElem lt]; rfl)
    · exact q _ (((same_new hp _).trans (same_new hp2 _)).trans (same_new hp3 _))
  · refine plain (fun z => c1 (decide_eq_true ?_)) none
    show V.int i.talk = V.int 1
    rw [z.1]
end
end Sc
namespace Sc
open PySem PySem.Spec PyProof.Rows L2
/-! ### the tables of the top, read -/
def keyT (e : DictEntry) : Option Str := match e.key with
  | .str x _ => some x
  | _ => none
def strsV : List Value → Option (List Str)
  | [] => some []
  | .str x _ :: r => (strsV r).map (x :: ·)
  | _ :: _ => none
def tupV (K : PySem.W.Frag) : Value → Option (List Str)
  | .ref t => match K.lookup t with
    | some ⟨.type c, _, .seq its _, _⟩ => if c = "tuple" ∧ its.size ≤ 100 then strsV its.toList else none
    | _ => none
  | _ => none
theorem strsV_vals : ∀ {us : List Value} {zs : List Str}, strsV us = some zs → Vals (zs.map V.str) us
  | [], zs, h => by
    have e : zs = [] := (Option.some.inj h).symm
    rw [e]
    exact .nil
  | u :: us, zs, h => by
    cases u with
    | str x t =>
      have h' : (strsV us).map (x :: ·) = some zs := h
      obtain ⟨ys, h1, h2⟩ := Option.map_eq_some_iff.mp h'
      rw [← h2]
      exact .cons ⟨t, rfl⟩ (strsV_vals h1)
    | _ => cases h
theorem tupV_at {K : PySem.W.Frag} {v : Value} {zs : List Str} (h : tupV K v = some zs) : ∃ t : Addr, v = .ref t ∧ ∀ H : Hp, SqT K H t (zs.map V.str) := by
  cases v with
  | ref t =>
    refine ⟨t, rfl, fun H => .inr ?_⟩
    unfold tupV at h
    dsimp only at h
    split at h
    · rename_i c dd its n sl e
      split at h
      · rename_i q
        exact ⟨_, its, n, e, by show Value.type c = .type "tuple"; rw [q.1], rfl, sizeOk (by omega), strsV_vals h⟩
      · cases h
    · cases h
  | _ => cases h
theorem entries_at {α : Type} {rd : Value → Option α} : ∀ {es : List DictEntry} {tb : List (Str × α)}, es.map (fun e => (keyT e, rd e.val)) = tb.map (fun p => (some p.1, some p.2)) →
    (∀ z, match tb.lookup z with
      | some x => ∃ e, es.find? (·.key.isStr z) = some e ∧ rd e.val = some x
      | none => es.find? (·.key.isStr z) = none) ∧ es.any (·.refKey) = false
  | [], [], _ => ⟨fun z => rfl, rfl⟩
  | [], _ :: _, h => by cases h
  | _ :: _, [], h => by cases h
  | e :: es, (k, x) :: tb, h => by
    rw [List.map_cons, List.map_cons] at h
    injection h with h1 h2
    injection h1 with h3 h4
    obtain ⟨i1, i2⟩ := entries_at h2
    have hk : ∃ t, e.key = .str k t := by
      unfold keyT at h3
      split at h3
      · rename_i y t q
        have h3' : some y = some k := h3
        exact ⟨t, by rw [q, Option.some.inj h3']⟩
      · cases h3
    obtain ⟨t, hk⟩ := hk
    refine ⟨fun z => ?_, ?_⟩
    · rw [List.lookup_cons, List.find?_cons]
      have e1 : e.key.isStr z = (z == k) := by
        have e0 : e.key.isStr z = (k == z) := by rw [hk]; rfl
        rw [e0]
        exact BEq.comm
      rw [e1]
      cases q : (z == k) with
      | true => exact ⟨e, rfl, h4⟩
      | false => exact i1 z
    · rw [List.any_cons, i2]
      have : e.refKey = false := by
        unfold DictEntry.refKey
        rw [hk]
      rw [this]
      rfl
theorem ns_at {α : Type} {K : PySem.W.Frag} {rd : Value → Option α} {d : Addr} {es : Array DictEntry} {n : Nat} {tb : List (Str × α)} (l : K.lookup d = some ⟨.type "dict", none, .dict es n, #[]⟩) (h : es.toList.map (fun e => (keyT e, rd e.val)) = tb.map (fun p => (some p.1, some p.2))) :
    (∀ z x, tb.lookup z = some x → ∃ u, PySem.W.nsIn K d z = some (some u) ∧ rd u = some x) ∧ ∀ z, tb.lookup z = none → PySem.W.nsIn K d z = some none := by
  obtain ⟨h1, h2⟩ := entries_at h
  refine ⟨fun z x e => ?_, fun z e => ?_⟩
  · have := h1 z
    rw [e] at this
    obtain ⟨en, a, b⟩ := this
    refine ⟨en.val, ?_, b⟩
    unfold PySem.W.nsIn
    rw [l]
    dsimp only
    rw [a]
  · have := h1 z
    rw [e] at this
    unfold PySem.W.nsIn
    rw [l]
    dsimp only
    rw [this]
    dsimp only
    rw [h2]
    rfl
theorem FT.of {K : PySem.W.Frag} {w : World} {h : Heap} {mg : Str → Option Value} (X : K.In h) (G : h.Ns mainGlobals mg) {FA : Addr} {es : Array DictEntry} {n : Nat} (a : PySem.W.nsIn K mainGlobals "FORMS" = some (some (.ref FA))) (l : K.lookup FA = some ⟨.type "dict", none, .dict es n, #[]⟩) (kl : PySem.W.KeysLit w.params es.toList) (low : (FA == sysModules) = false)
    (e : es.toList.map (fun e => (keyT e, tupV K e.val)) = formTab.map (fun p => (some p.1, some p.2))) : FT K w mg FA := by
  obtain ⟨h1, h2⟩ := ns_at l e
  refine ⟨PySem.W.mg_of X G a, ⟨es, n, l, kl, low⟩, fun z fm q => ?_, h2⟩
  obtain ⟨u, a1, a2⟩ := h1 z fm q
  obtain ⟨t, rfl, a3⟩ := tupV_at a2
  exact ⟨t, a1, a3⟩
def refV : Value → Option Addr
  | .ref f => some f
  | _ => none
theorem NT.of {K : PySem.W.Frag} {w : World} {h : Heap} {mg : Str → Option Value} (X : K.In h) (G : h.Ns mainGlobals mg) {NA : Addr} {es : Array DictEntry} {n : Nat} (a : PySem.W.nsIn K mainGlobals "NEEDS" = some (some (.ref NA))) (l : K.lookup NA = some ⟨.type "dict", none, .dict es n, #[]⟩) (kl : PySem.W.KeysLit w.params es.toList)
    (e : needTab.map (fun q => PySem.W.nsIn K NA q.1) = needTab.map (fun q => PySem.W.nsIn K mainGlobals q.2)) (e2 : (needTab.all fun q => match PySem.W.nsIn K NA q.1 with | some (some (.ref _)) => true | _ => false) = true) : NT K w mg NA := by
  refine ⟨PySem.W.mg_of X G a, fun q hq => ?_⟩
  have z := List.all_eq_true.mp e2 q hq
  split at z
  · rename_i f hf
    have e3 : PySem.W.nsIn K NA q.1 = PySem.W.nsIn K mainGlobals q.2 := List.map_inj_left.mp e q hq
    exact ⟨f, ⟨es, n, .ref f, l, kl, hf, rfl⟩, PySem.W.mg_of X G (by rw [← e3]; exact hf)⟩
  · cases z
end Sc
namespace Sc
open PySem PyProof.Rows L2
/-! ### _law_refusal -/
theorem pss_when {X : Cx} {b : List Stmt} {t : TS} {p : Prop} (h : p → PSs X b t) : PSs X b (fun D σ H => p ∧ t D σ H) := ⟨fun pins s σ H D I q => (h q.1).run pins s σ H D I q.2⟩
theorem pe_calXS {X : Cx} {k : Nat} {x : Str} {ps : List Str} {sp : Sp} {e : Expr} {es : List Expr} {t : TA} {p pos : Pos} {E : L2.St → XK} (C : CalX X.prog X.w X.K X.mg X.base k x ps sp) (hr : Room k X.A) (hx : ∀ σ, PassesAt (L2.CX X.prog X.w) X σ (E σ)) (ha : PA X (e :: es) t) (hg : Gl X x := by rfl) (hdb : (x == ("__debug__" : Str)) = false := by decide)
    (he : starEach (e :: es) X.env = (false, eval e X.env) :: starEach es X.env := by rfl) (hpl : (backTo pos (starEach es X.env)).any (·.1) = false := by rfl) :
    PE X (.Call (.Name x p) (e :: es) [] pos) (tCallS sp E t) := by
  obtain ⟨f, fd, F, m, kp, b⟩ := C.ex
  exact pe_callS F hr hg m kp b hx ha hdb he hpl
theorem pss_some {α : Type} {X : Cx} {b : List Stmt} {t : α → TS} {p : α → Prop} (h : ∀ x, p x → PSs X b (t x)) : PSs X b (fun D σ H => ∃ x, p x ∧ t x D σ H) := ⟨fun pins s σ H D I ⟨x, px, q⟩ => (h x px).run pins s σ H D I q⟩
def kitW : Wr → Wr → Bool
  | .bk, .bk | .bp, .bp | .nn, .nn | .tt, .tt | .nn, .bp | .tt, .bp => true
  | _, _ => false
structure Er4 (K : PySem.W.Frag) (mg : Str → Option Value) (CS : Addr) (cls : Wr → Addr) : Prop where
  e : Ers K mg cls
  gS : mg "SoothError" = some (.ref CS)
  xm : ∀ x, PySem.W.exmOne K (.ref (cls x)) (.ref CS) = some true
  ec : ∀ x, ExcC K (cls x)
  kV : ∀ x, PySem.W.kitOne K (.ref (cls x)) (.type "ValueError") = some true
  kt : ∀ x y, PySem.W.kitOne K (.ref (cls x)) (.ref (cls y)) = some (kitW x y)
def refW : Option Wr → Str
  | none => "good"
  | some .bk => "kind"
  | some .bp => "program"
  | some .nn => "name"
  | some .tt => "twice"
def tIsE (K : PySem.W.Frag) (C a : Addr) (v : V) : TT := tB (tCB (rIsE K C a) (tCons (tVar 1) (tCons (tC v) tNil)))
def tRSuite (K : PySem.W.Frag) (cls : Wr → Addr) (a : Addr) (x : Wr) : TS :=
  tSeq (tIfS (tNot (tIsE K (cls x) a (.ty "ValueError"))) (tRet (tC (.str "none"))) tNext)
  (tSeq (tIfS (tIsE K (cls x) a (.ref (cls .nn))) (tRet (tIf (tAnd (tIsE K (cls x) a (.ref (cls .bp))) (tNot (tIsE K (cls x) a (.ref (cls .tt))))) (tC (.str "name")) (tC (.str "none")))) tNext)
  (tSeq (tIfS (tIsE K (cls x) a (.ref (cls .tt))) (tRet (tIf (tIsE K (cls x) a (.ref (cls .bp))) (tC (.str "twice")) (tC (.str "none")))) tNext)
  (tSeq (tIfS (tIsE K (cls x) a (.ref (cls .bp))) (tRet (tC (.str "program"))) tNext)
  (tRet (tIf (tIsE K (cls x) a (.ref (cls .bk))) (tC (.str "kind")) (tC (.str "none")))))))
section
variable {P : Program} {w : World} {K : PySem.W.Frag} {mg : Str → Option Value} {base : Heap} {T0 : List Addr} {CS : Addr} {cls : Wr → Addr}
def spRefP (K : PySem.W.Frag) (T : List Addr) (tOk : PyData → Prop) : Sp := fun vs H Q _ => ∃ (l : Addr) (us : List V) (ds : List PyData), vs = [.ref l] ∧ SqL K H l us ∧ DpAll K H us ds ∧ ds.length ≤ 12 ∧ (∀ d ∈ ds, okD d ∧ is5 tOk d) ∧ Tb T H ∧ ∀ H', Fr T H H' → Q (.str (refW (gProg [] ds))) H'
theorem scRefP : FnScope ["_law_program", "e"] ["_law_program"] (defScope sRefusal) := ⟨rfl, rfl, rfl, by decide +kernel, rfl, by decide +kernel, by decide +kernel⟩
theorem is_at {σ : L2.St} {H : Hp} {C a : Addr} {v : V} {m : Value} {b : Bool} {Q : Bool → Hp → Prop} (h1 : σ[1]? = some (some (.ref a))) (h2 : ∀ u, RelV v u → u = m) (k : PySem.W.kitOne K (.ref C) m = some b) (h : Q b H) : tIsE K C a v σ H Q :=
  ⟨_, h1, v, m, b, rfl, h2, k, _, rfl, h⟩
theorem c_refusal (tOk : PyData → Prop) {lv : Nat} (T : Tx K mg) (R : Er4 K mg CS cls) (CN : CalX P w K mg base lv "need_program" ["program"] (spProg K T0 cls tOk)) : Cal P w K mg base (lv + 1) "_law_refusal" ["_law_program"] (spRefP K T0 tOk) := by
  refine T.refusal.ok scRefP (fun vs H Q E h => ?_) (fun f cdv A outer s H vs Q E hr h => ?_)
  · obtain ⟨l, us, ds, rfl, _⟩ := h
    rfl
  obtain ⟨l, us, ds, rfl, hl, hds, l12, h5, tb, q⟩ := h
  refine ⟨_, pss_cons (ps_try_as (i := 1) (c := .ref CS) (tb := fun W => tDrop (tCallS (spProg K T0 cls tOk) (WE W) (tCons (tVar 0) tNil))) (ts := fun a c d D σ H => ∃ x : Wr, (c = .ref (cls x) ∧ d = none) ∧ tRSuite K cls a x D σ H) (Wout := fun _ _ _ _ => False) rfl rfl scRefP.nd rfl rfl ⟨by rfl, by decide, Or.inl R.gS⟩ takes0
      (fun W pn xe tk po => pss_one (ps_expr (by exact pe_calXS CN hr (fun σ => passAt tk σ) (pa_cons (pv 0) pa_nil))))
      (fun a oe c d pn hz hf => pss_some fun x hp => ?_))
    (pss_one (ps_ret pe_str)), ?_⟩
  · obtain ⟨rfl, rfl⟩ := hp
    exact pss_cons (ps_if (pt_not (pt_val (pe_callB (call_isE (R.ec x) hz hf) (by rfl) T.m_isinstance boot_isinstance (pa_cons (pv 1) (pa_cons (pe_bltn (v := .ty "ValueError") (by rfl) T.m_ValueError (by decide +kernel) rfl) pa_nil))))) (pss_one (ps_ret pe_str)) pss_nil)
      (pss_cons (ps_if (pt_val (pe_callB (call_isE (R.ec x) hz hf) (by rfl) T.m_isinstance boot_isinstance (pa_cons (pv 1) (pa_cons (pe_glob (v := .ref (cls .nn)) (by rfl) R.e.nn.g rfl) pa_nil))))
        (pss_one (ps_ret (pe_ifExp (PW.pt (pw_and (pt_val (pe_callB (call_isE (R.ec x) hz hf) (by rfl) T.m_isinstance boot_isinstance (pa_cons (pv 1) (pa_cons (pe_glob (v := .ref (cls .bp)) (by rfl) R.e.bp.g rfl) pa_nil))))
          (pw_and1 (pt_not (pt_val (pe_callB (call_isE (R.ec x) hz hf) (by rfl) T.m_isinstance boot_isinstance (pa_cons (pv 1) (pa_cons (pe_glob (v := .ref (cls .tt)) (by rfl) R.e.tt.g rfl) pa_nil)))))))) pe_str pe_str))) pss_nil)
      (pss_cons (ps_if (pt_val (pe_callB (call_isE (R.ec x) hz hf) (by rfl) T.m_isinstance boot_isinstance (pa_cons (pv 1) (pa_cons (pe_glob (v := .ref (cls .tt)) (by rfl) R.e.tt.g rfl) pa_nil))))
        (pss_one (ps_ret (pe_ifExp (pt_val (pe_callB (call_isE (R.ec x) hz hf) (by rfl) T.m_isinstance boot_isinstance (pa_cons (pv 1) (pa_cons (pe_glob (v := .ref (cls .bp)) (by rfl) R.e.bp.g rfl) pa_nil)))) pe_str pe_str))) pss_nil)
      (pss_cons (ps_if (pt_val (pe_callB (call_isE (R.ec x) hz hf) (by rfl) T.m_isinstance boot_isinstance (pa_cons (pv 1) (pa_cons (pe_glob (v := .ref (cls .bp)) (by rfl) R.e.bp.g rfl) pa_nil)))) (pss_one (ps_ret pe_str)) pss_nil)
      (pss_one (ps_ret (pe_ifExp (pt_val (pe_callB (call_isE (R.ec x) hz hf) (by rfl) T.m_isinstance boot_isinstance (pa_cons (pv 1) (pa_cons (pe_glob (v := .ref (cls .bk)) (by rfl) R.e.bk.g rfl) pa_nil)))) pe_str pe_str))))))
  refine ⟨_, rfl, l, us, ds, rfl, hl, hds, l12, h5, tb, fun e b H1 kvs f1 _ _ _ => ?_, fun x e H1 f1 => ?_⟩
  · have fin := q H1 f1
    rw [e] at fin
    exact fin
  · have fin := q H1 f1
    rw [e] at fin
    refine ⟨true, R.xm x, fun _ a ha => ⟨x, ⟨rfl, rfl⟩, ?_⟩, fun z => by cases z⟩
    refine is_at rfl (fun u z => z) (R.kV x) ?_
    refine is_at rfl (fun u z => z) (R.kt x .nn) ?_
    cases x with
    | bk => exact is_at rfl (fun u z => z) (R.kt .bk .tt) (is_at rfl (fun u z => z) (R.kt .bk .bp) (is_at rfl (fun u z => z) (R.kt .bk .bk) fin))
    | bp => exact is_at rfl (fun u z => z) (R.kt .bp .tt) (is_at rfl (fun u z => z) (R.kt .bp .bp) fin)
    | nn => exact is_at rfl (fun u z => z) (R.kt .nn .bp) (is_at rfl (fun u z => z) (R.kt .nn .tt) fin)
    | tt => exact is_at rfl (fun u z => z) (R.kt .tt .tt) (is_at rfl (fun u z => z) (R.kt .tt .bp) fin)
end
end Sc
namespace Sc
open PySem PySem.Spec PyProof.Rows L2
/-! ### kinds around a leaf, purely -/
def leafT : PyData := .tuple [.str "text"]
def leafN : PyData := .tuple [.str "number"]
def kindT : PyData := .tuple [leafT]
/-- the rows of fields: the one that is marked has the kind, the others texts -/
def nsF (k : PyData) (ps : List (Str × Bool)) : List PyData := ps.map fun p => .tuple [.str p.1, if p.2 then k else kindT]
inductive LayC (k : PyData) : PyData → Prop
  | row : LayC k (.tuple [.str "row", k])
  | book : LayC k (.tuple [.str "book", k])
  | shape (ps : List (Str × Bool)) (l3 : ps.length ≤ 60) (w : ∀ p ∈ ps, isWordD (.str p.1) = true) (a : ascB (ps.map (·.1)) = true) (m : ∃ p ∈ ps, p.2 = true) : LayC k (.tuple [.str "shape", .tuple (nsF k ps)])
inductive Nst (leaf : PyData) : Nat → PyData → Prop
  | zero : Nst leaf 0 (.tuple [leaf])
  | one {m : Nat} {k c : PyData} (h : Nst leaf m k) (l : LayC k c) : Nst leaf (m + 1) (.tuple [c])
  | num {m : Nat} {k c : PyData} (h : Nst leaf m k) (l : LayC k c) : Nst leaf (m + 1) (.tuple [leafN, c])
  | txt {m : Nat} {k c : PyData} (h : Nst leaf m k) (l : LayC k c) : Nst leaf (m + 1) (.tuple [c, leafT])
theorem ns_fld {k : PyData} {ps : List (Str × Bool)} (a : ascB (ps.map (·.1)) = true) (m : ∃ p ∈ ps, p.2 = true) : fldD (.tuple (nsF k ps)) = true := by
  show (!(nsF k ps).isEmpty && (nsF k ps).all pairD && ascB ((nsF k ps).map nameD)) = true
  have e1 : (nsF k ps).isEmpty = false := by
    obtain ⟨p, hp, _⟩ := m
    cases ps with
    | nil => cases hp
    | cons _ _ => rfl
  have e2 : (nsF k ps).all pairD = true := by
    unfold nsF
    rw [List.all_map, List.all_eq_true]
    exact fun p _ => rfl
  have e3 : (nsF k ps).map nameD = ps.map (·.1) := by
    unfold nsF
    rw [List.map_map]
    rfl
  rw [e1, e2, e3, a]
  rfl
theorem ns_fl {g : PyData → Bool} {k : PyData} {ps : List (Str × Bool)} (ht : g k = true → g kindT = true) (w : ∀ p ∈ ps, isWordD (.str p.1) = true) (a : ascB (ps.map (·.1)) = true) (m : ∃ p ∈ ps, p.2 = true) : gFl g (.tuple (nsF k ps)) = g k := by
  show (fldD (.tuple (nsF k ps)) && (nsF k ps).all (gPr g)) = g k
  rw [ns_fld a m, Bool.true_and]
  unfold nsF
  rw [List.all_map]
  cases q : g k with
  | true =>
    rw [List.all_eq_true]
    intro p hp
    show (isWordD (.str p.1) && g (if p.2 then k else kindT)) = true
    rw [w p hp, Bool.true_and]
    cases p.2 with
    | true => exact q
    | false => exact ht q
  | false =>
    obtain ⟨p, hp, e⟩ := m
    rw [List.all_eq_false]
    refine ⟨p, hp, ?_⟩
    show ¬ (isWordD (.str p.1) && g (if p.2 then k else kindT)) = true
    rw [e, if_pos rfl, q, Bool.and_false]
    exact Bool.false_ne_true
theorem lay_ch {ls : List Str} {g : PyData → Bool} {k c : PyData} (ht : g k = true → g kindT = true) (h : LayC k c) : gCh ls g c = g k := by
  cases h with
  | row => show (if (("row" : Str) = "row" ∨ ("row" : Str) = "book") then g k else if ("row" : Str) = "shape" then gFl g k else if ("row" : Str) = "letter" then letD ls k else false) = g k; rw [if_pos (.inl rfl)]
  | book => show (if (("book" : Str) = "row" ∨ ("book" : Str) = "book") then g k else if ("book" : Str) = "shape" then gFl g k else if ("book" : Str) = "letter" then letD ls k else false) = g k; rw [if_pos (.inr rfl)]
  | shape ps _ w a m =>
    show (if (("shape" : Str) = "row" ∨ ("shape" : Str) = "book") then g (.tuple (nsF k ps)) else if ("shape" : Str) = "shape" then gFl g (.tuple (nsF k ps)) else if ("shape" : Str) = "letter" then letD ls (.tuple (nsF k ps)) else false) = g k
    rw [if_neg (by decide +kernel), if_pos rfl]
    exact ns_fl ht w a m
theorem gK_text (ls : List Str) (r : Nat) (k : PyData) (h : gK ls r k = true) : gK ls r kindT = true := by
  cases r with
  | zero => cases h
  | succ r => rfl
theorem lay_K {ls : List Str} {r : Nat} {k c : PyData} (h : LayC k c) : gK ls (r + 1) (.tuple [c]) = gK ls r k ∧ gK ls (r + 1) (.tuple [leafN, c]) = gK ls r k ∧ gK ls (r + 1) (.tuple [c, leafT]) = gK ls r k := by
  have e := lay_ch (ls := ls) (gK_text ls r k) h
  refine ⟨?_, ?_, ?_⟩
  · show (true && (gCh ls (gK ls r) c && true)) = _
    rw [e, Bool.true_and, Bool.and_true]
  · show (true && (true && (gCh ls (gK ls r) c && true))) = _
    rw [e, Bool.true_and, Bool.true_and, Bool.and_true]
  · show (true && (gCh ls (gK ls r) c && (true && true))) = _
    rw [e, Bool.true_and, Bool.true_and, Bool.and_true]
/-- a kind of m layers is one just where there is room for them, and the leaf is one -/
theorem nst_K {ls : List Str} {leaf : PyData} {b : Bool} (hl : ∀ g, gCh ls g leaf = b) : ∀ {m : Nat} {d : PyData}, Nst leaf m d → ∀ r : Nat, gK ls (r + 1) d = (decide (m ≤ r) && b) := by
  intro m d h
  have step : ∀ {m : Nat} {k : PyData}, (∀ r : Nat, gK ls (r + 1) k = (decide (m ≤ r) && b)) → ∀ r : Nat, gK ls r k = (decide (m + 1 ≤ r) && b) := by
    intro m k ih r
    cases r with
    | zero => rfl
    | succ r => rw [ih r, show decide (m + 1 ≤ r + 1) = decide (m ≤ r) from decide_eq_decide.mpr ⟨fun z => Nat.le_of_succ_le_succ z, fun z => Nat.succ_le_succ z⟩]
  induction h with
  | zero =>
    intro r
    show (true && (gCh ls (gK ls r) leaf && true)) = _
    rw [hl, Bool.true_and, Bool.and_true, show decide (0 ≤ r) = true from decide_eq_true (Nat.zero_le r), Bool.true_and]
  | one h l ih => exact fun r => (lay_K l).1.trans (step ih r)
  | num h l ih => exact fun r => (lay_K l).2.1.trans (step ih r)
  | txt h l ih => exact fun r => (lay_K l).2.2.trans (step ih r)
theorem leaf_num (ls : List Str) (g : PyData → Bool) : gCh ls g leafN = true := rfl
theorem leaf_txt (ls : List Str) (g : PyData → Bool) : gCh ls g leafT = true := rfl
theorem leaf_let (ls : List Str) (z : Str) (hz : isLettD (.str z) = true) (g : PyData → Bool) : gCh ls g (.tuple [.str "letter", .str z]) = decide (z ∈ ls) := by
  show (if (("letter" : Str) = "row" ∨ ("letter" : Str) = "book") then g (.str z) else if ("letter" : Str) = "shape" then gFl g (.str z) else if ("letter" : Str) = "letter" then letD ls (.str z) else false) = _
  rw [if_neg (by decide +kernel), if_neg (by decide +kernel), if_pos rfl]
  show (isLettD (.str z) && decide (z ∈ ls)) = _
  rw [hz, Bool.true_and]
end Sc
namespace Sc
open PySem PySem.Spec PyProof.Rows L2
/-! ### small data -/
theorem okN_kt (n : Nat) : OkN (n + 2) kindT := okN_tup (by show 1 ≤ 60; decide) fun x m => by rw [List.mem_singleton.mp m]; exact okN_one (by decide +kernel)
theorem okN_leafs (n : Nat) : OkN (n + 1) leafN ∧ OkN (n + 1) leafT := ⟨okN_one (by decide +kernel), okN_one (by decide +kernel)⟩
theorem okN_lay {n : Nat} {k c : PyData} (h : OkN (n + 2) k) (l : LayC k c) : OkN (n + 5) c := by
  cases l with
  | row => exact (okN_two (okN_w (by decide +kernel)) h).mono (by omega)
  | book => exact (okN_two (okN_w (by decide +kernel)) h).mono (by omega)
  | shape ps l3 w a m =>
    refine okN_two (n := n + 4) (okN_w (by decide +kernel)) (okN_tup (by unfold nsF; rw [List.length_map]; exact l3) fun x hx => ?_)
    obtain ⟨p, hp, rfl⟩ := List.mem_map.mp hx
    have e : OkN (n + 2) (if p.2 then k else kindT) := by
      cases p.2 with
      | true => exact h
      | false => exact okN_kt n
    exact okN_two ((okN_word (of_decide_eq_true (w p hp))).mono (Nat.zero_le _)) e
theorem okN_nst {leaf : PyData} (h0 : OkN 1 leaf) {m : Nat} {d : PyData} (h : Nst leaf m d) : OkN (4 * m + 2) d := by
  induction h with
  | zero => exact okN_tup (by show 1 ≤ 60; decide) fun x m => by rw [List.mem_singleton.mp m]; exact h0
  | one h l ih => exact okN_tup (by show 1 ≤ 60; decide) fun x m => by rw [List.mem_singleton.mp m]; exact okN_lay ih l
  | num h l ih =>
    refine okN_tup (by show 2 ≤ 60; decide) fun x m => ?_
    rcases List.mem_cons.mp m with e | e
    · rw [e]; exact ((okN_leafs _).1)
    · rw [List.mem_singleton.mp e]; exact okN_lay ih l
  | txt h l ih =>
    refine okN_tup (by show 2 ≤ 60; decide) fun x m => ?_
    rcases List.mem_cons.mp m with e | e
    · rw [e]; exact okN_lay ih l
    · rw [List.mem_singleton.mp e]; exact ((okN_leafs _).2)
theorem at3 {a b c : V} {r : Int} (h0 : 0 ≤ r) (h3 : r < 3) : ∃ v, atI [a, b, c] r = some v ∧ (r = 0 ∧ v = a ∨ r = 1 ∧ v = b ∨ r = 2 ∧ v = c) := by
  have : r = 0 ∨ r = 1 ∨ r = 2 := by omega
  rcases this with h | h | h <;> subst h
  · exact ⟨a, rfl, .inl ⟨rfl, rfl⟩⟩
  · exact ⟨b, rfl, .inr (.inl ⟨rfl, rfl⟩)⟩
  · exact ⟨c, rfl, .inr (.inr ⟨rfl, rfl⟩)⟩
theorem at4 {a b c d : V} {r : Int} (h0 : 0 ≤ r) (h3 : r < 4) : ∃ v, atI [a, b, c, d] r = some v ∧ (r = 0 ∧ v = a ∨ r = 1 ∧ v = b ∨ r = 2 ∧ v = c ∨ r = 3 ∧ v = d) := by
  have : r = 0 ∨ r = 1 ∨ r = 2 ∨ r = 3 := by omega
  rcases this with h | h | h | h <;> subst h
  · exact ⟨a, rfl, .inl ⟨rfl, rfl⟩⟩
  · exact ⟨b, rfl, .inr (.inl ⟨rfl, rfl⟩)⟩
  · exact ⟨c, rfl, .inr (.inr (.inl ⟨rfl, rfl⟩))⟩
  · exact ⟨d, rfl, .inr (.inr (.inr ⟨rfl, rfl⟩))⟩
end Sc
namespace Sc
open PySem PySem.Spec PyProof.Rows L2
/-! ### t + u, whichever it is -/
def rCatW (K : PySem.W.Frag) : R2 := fun x y H Q => ∃ a b xs ys, x = .ref a ∧ y = .ref b ∧ SqT K H a xs ∧ SqT K H b ys ∧ xs.length + ys.length ≤ sizeLine ∧ ∀ (p : Addr) (H' : Hp), Same H H' → SqT K H' p (xs ++ ys) → Q (.ref p) H'
theorem op_catW {X : Cx} : OpR X (binaryOp .Add) (rCatW X.K) := by
  intro pins s σ H x y v u Q I rx ry h
  obtain ⟨a, b, xs, ys, rfl, rfl, ha, hb, hz, q⟩ := h
  exact op_catA pins s σ H _ _ v u Q I rx ry ⟨a, b, xs, ys, rfl, rfl, ha, hb, hz, fun e => q b H (Same.refl _) (by rw [e]; exact hb), fun _ e => q a H (Same.refl _) (by rw [e, List.append_nil]; exact ha), fun _ _ p hp => q p _ (same_new hp _) (SqT.of upd_same)⟩
/-! ### parts, reckoned -/
theorem formOf_eq {w : Str} {fm : List Str} {ts : List PyData} (hl : formTab.lookup w = some fm) (len : ts.length = fm.length) : formOf (.tuple (.str w :: ts)) = some (w, fm, ts) := by
  show (match formTab.lookup w with
    | some fm => if ts.length = fm.length then some (w, fm, ts) else none
    | none => none) = _
  rw [hl]
  exact if_pos len
theorem gPart_eq {n : Nat} {E : Env0} {w : Str} {fm : List Str} {ts : List PyData} (hl : formTab.lookup w = some fm) (len : ts.length = fm.length) :
    gPart (n + 1) E (.tuple (.str w :: ts)) = (match firstBad ((fm.zip ts).map fun p => gSlot (gPart n) (if p.1 = ("last" : Str) then { E with ns := E.ns ++ strsD (givens fm ts) } else E) p.1 p.2) with
      | some b => some b
      | none => if (strsD (givens fm ts)).Nodup then (if w = ("call" : Str) then whenB (callOk E ts) .bp else none) else some .tt) := by
  show (match formOf (.tuple (.str w :: ts)) with
    | none => some Wr.bp
    | some (w, fm, ts) => _) = _
  rw [formOf_eq hl len] <;> rfl
theorem gPart_one {n : Nat} {E : Env0} {w s : Str} {t : PyData} (hl : formTab.lookup w = some [s]) (sl : s ≠ "last") (sg : (s == ("given" : Str)) = false) (nc : w ≠ "call") : gPart (n + 1) E (.tuple [.str w, t]) = gSlot (gPart n) E s t := by
  rw [gPart_eq hl rfl]
  have e : givens [s] [t] = [] := by
    unfold givens
    rw [show ([s].zip [t]) = [(s, t)] from rfl, List.filter_cons_of_neg (by show ¬ (s == ("given" : Str)) = true; rw [sg]; exact Bool.false_ne_true)]
    rfl
  rw [e]
  show (match firstBad [gSlot (gPart n) (if s = ("last" : Str) then _ else E) s t] with
    | some b => some b
    | none => if (strsD []).Nodup then (if w = ("call" : Str) then whenB (callOk E [t]) .bp else none) else some .tt) = _
  rw [if_neg sl, if_neg nc, if_pos (show (strsD []).Nodup from List.nodup_nil)]
  cases gSlot (gPart n) E s t <;> rfl
theorem slot_whole {rec : Env0 → PyData → Option Wr} {E : Env0} {d : PyData} : gSlot rec E ("whole" : Str) d = gWhole d := slot_all.1
theorem slot_kind {rec : Env0 → PyData → Option Wr} {E : Env0} {d : PyData} : gSlot rec E ("kind" : Str) d = gKind E.ls d := slot_all.2.2.2.2.2.2.1
theorem slot_part {rec : Env0 → PyData → Option Wr} {E : Env0} {d : PyData} : gSlot rec E ("part" : Str) d = rec E d := slot_all.2.2.2.2.2.2.2.1
theorem slot_last {rec : Env0 → PyData → Option Wr} {E : Env0} {d : PyData} : gSlot rec E ("last" : Str) d = rec E d := slot_all.2.2.2.2.2.2.2.2.1
theorem slot_parts {rec : Env0 → PyData → Option Wr} {E : Env0} {d : PyData} : gSlot rec E ("parts" : Str) d = gParts (rec E) d := slot_all.2.2.2.2.2.2.2.2.2.1
theorem slot_given {rec : Env0 → PyData → Option Wr} {E : Env0} {d : PyData} : gSlot rec E ("given" : Str) d = gWord d := slot_all.2.2.2.1
theorem slot_known {rec : Env0 → PyData → Option Wr} {E : Env0} {d : PyData} : gSlot rec E ("known" : Str) d = gKnown E d := slot_all.2.2.1
theorem slot_field {rec : Env0 → PyData → Option Wr} {E : Env0} {d : PyData} : gSlot rec E ("field" : Str) d = gWord d := slot_all.2.2.2.2.1
theorem slot_head {rec : Env0 → PyData → Option Wr} {E : Env0} {d : PyData} : gSlot rec E ("head" : Str) d = gHead d := slot_all.2.2.2.2.2.1
theorem slot_fields {rec : Env0 → PyData → Option Wr} {E : Env0} {d : PyData} : gSlot rec E ("fields" : Str) d = gFields (rec E) d := slot_all.2.2.2.2.2.2.2.2.2.2
theorem gWord_of {z : Str} (h : Word z) : gWord (.str z) = none := by
  unfold gWord whenB
  rw [show isWordD (.str z) = true from decide_eq_true h]
  rfl
/-- a written number, at any room -/
def numP (n : Int) : PyData := .tuple [.str "num", .int n]
theorem part_num {n : Nat} {E : Env0} {k : Int} (h : k.natAbs < 10 ^ 30) : gPart (n + 1) E (numP k) = none := by
  unfold numP
  rw [gPart_one (s := "whole") (by decide +kernel) (by decide +kernel) (by decide +kernel) (by decide +kernel), slot_whole]
  show whenB (decide (k.natAbs < 10 ^ 30)) .bp = none
  rw [decide_eq_true h]
  rfl
theorem part_kind {n : Nat} {E : Env0} {w : Str} {k : PyData} (hw : w = "norow" ∨ w = "nobook") : gPart (n + 1) E (.tuple [.str w, k]) = gKind E.ls k := by
  rcases hw with h | h <;> subst h <;>
    rw [gPart_one (s := "kind") (by decide +kernel) (by decide +kernel) (by decide +kernel) (by decide +kernel), slot_kind]
theorem part_row {n : Nat} {E : Env0} {a b : PyData} (h : gPart n E a = none) : gPart (n + 1) E (.tuple [.str "row", .tuple [a, b]]) = gPart n E b := by
  rw [gPart_one (s := "parts") (by decide +kernel) (by decide +kernel) (by decide +kernel) (by decide +kernel), slot_parts]
  show (match firstBad [gPart n E a, gPart n E b] with
    | some b => some b
    | none => none) = _
  rw [h]
  show (match firstBad [gPart n E b] with
    | some b => some b
    | none => none) = _
  cases gPart n E b <;> rfl
theorem part_fold {n : Nat} {E : Env0} {x y : Str} {e k f g : PyData} (hx : Word x) (hy : Word y) (ne : x ≠ y) (he : gPart n E e = none) (hf : gPart n E f = none) (hg : gPart n { E with ns := E.ns ++ [x, y] } g = none) :
    gPart (n + 1) E (.tuple [.str "fold", .str x, e, .str y, k, f, g]) = gKind E.ls k := by
  rw [gPart_eq (w := "fold") (fm := ["given", "part", "given", "kind", "part", "last"]) (by decide +kernel) rfl]
  have eg : strsD (givens ["given", "part", "given", "kind", "part", "last"] [.str x, e, .str y, k, f, g]) = [x, y] := by kernel_rfl
  rw [eg]
  have ez : ((["given", "part", "given", "kind", "part", "last"] : List Str).zip [PyData.str x, e, .str y, k, f, g]) = [(("given" : Str), PyData.str x), (("part" : Str), e), (("given" : Str), .str y), (("kind" : Str), k), (("part" : Str), f), (("last" : Str), g)] := rfl
  rw [ez]
  have n1 : ¬ (("given" : Str) = "last") := by decide +kernel
  have n2 : ¬ (("part" : Str) = "last") := by decide +kernel
  have n3 : ¬ (("kind" : Str) = "last") := by decide +kernel
  simp only [List.map_cons, List.map_nil, if_neg n1, if_neg n2, if_neg n3, if_true]
  rw [slot_given, slot_part, slot_given, slot_kind, slot_part, slot_last, gWord_of hx, gWord_of hy, he, hf, hg, if_pos (show [x, y].Nodup by simp [ne]), if_neg (show ¬ (("fold" : Str) = "call") by decide +kernel)]
  cases gKind E.ls k <;> rfl
theorem part_call {n : Nat} {E : Env0} {f : Str} {k : PyData} (hw : Word f) (hf : E.fs.lookup f = some (1, 0)) : gPart (n + 1) E (.tuple [.str "call", .str f, .tuple [k], .tuple []]) = gKind E.ls k := by
  rw [gPart_eq (w := "call") (fm := ["function", "kinds", "handed"]) (by decide +kernel) rfl]
  have eg : strsD (givens ["function", "kinds", "handed"] [.str f, .tuple [k], .tuple []]) = [] := by kernel_rfl
  rw [eg]
  have ez : ((["function", "kinds", "handed"] : List Str).zip [PyData.str f, .tuple [k], .tuple []]) = [(("function" : Str), PyData.str f), (("kinds" : Str), .tuple [k]), (("handed" : Str), .tuple [])] := rfl
  rw [ez]
  have n1 : ¬ (("function" : Str) = "last") := by decide +kernel
  have n2 : ¬ (("kinds" : Str) = "last") := by decide +kernel
  have n3 : ¬ (("handed" : Str) = "last") := by decide +kernel
  simp only [List.map_cons, List.map_nil, if_neg n1, if_neg n2, if_neg n3, if_true]
  rw [slot_function, slot_kinds, slot_handed]
  have hm : f ∈ E.fs.map (·.1) := by
    generalize E.fs = l at hf
    induction l with
    | nil => cases hf
    | cons q l ih =>
      obtain ⟨a, b⟩ := q
      rw [List.lookup_cons] at hf
      split at hf
      · rename_i z
        rw [eq_of_beq z]; exact List.mem_cons_self
      · exact List.mem_cons_of_mem _ (ih hf)
  have h1 : gFun E (.str f) = none := by
    show (if isWordD (.str f) = true then whenB (decide (f ∈ E.fs.map (·.1))) .nn else some .bp) = none
    rw [if_pos (show isWordD (.str f) = true from decide_eq_true hw), decide_eq_true hm]
    rfl
  have h2 : callOk E [.str f, .tuple [k], .tuple []] = true := by
    show (match E.fs.lookup f with
      | some (nl, np) => decide ([k].length = nl) && decide (([] : List PyData).length = np)
      | none => false) = true
    rw [hf]
    rfl
  rw [h1, h2, if_pos (show ([] : List Str).Nodup from List.nodup_nil)]
  show (match firstBad [none, firstBad [gKind E.ls k], firstBad []] with
    | some b => some b
    | none => none) = _
  cases gKind E.ls k <;> rfl
/-! ### no text stands in these -/
def noT : PyData → Prop := fun _ => False
theorem txs_of {n : Nat} {w : Str} {fm : List Str} {ts : List PyData} (hl : formTab.lookup w = some fm) (h : ∀ (j : Nat) (s : Str) (t : PyData), fm[j]? = some s → ts[j]? = some t → slotIn (txs noT n) noT s t) : txs noT (n + 1) (.tuple (.str w :: ts)) := by
  intro w' fm' ts' hf
  obtain ⟨h1, h2, h3⟩ := form_inv hf
  injection h1 with h1
  injection h1 with h4 h5
  injection h4 with h4
  subst h4 h5
  rw [hl] at h2
  cases h2
  exact h
theorem slot_flat {n : Nat} {s : Str} {t : PyData} (h : ((s == "text") || (s == "part") || (s == "last") || (s == "parts") || (s == "handed") || (s == "fields")) = false) : slotIn (txs noT n) noT s t := by
  simp only [Bool.or_eq_false_iff, beq_eq_false_iff_ne, ne_eq] at h
  obtain ⟨⟨⟨⟨⟨h1, h2⟩, h3⟩, h4⟩, h5⟩, h6⟩ := h
  exact ⟨fun e => absurd e h1, fun e => e.elim (fun z => absurd z h2) (fun z => absurd z h3), fun ds _ => ⟨fun e => e.elim (fun z => absurd z h4) (fun z => absurd z h5), fun e => absurd e h6⟩⟩
theorem txs_num (n : Nat) (k : Int) : txs noT n (numP k) := by
  cases n with
  | zero => trivial
  | succ n =>
    refine txs_of (w := "num") (fm := ["whole"]) (by decide +kernel) fun j s t h1 h2 => ?_
    match j, h1 with
    | 0, h1 => cases h1; exact slot_flat (by decide +kernel)
theorem txs_kind (n : Nat) {w : Str} (hw : w = "norow" ∨ w = "nobook") (k : PyData) : txs noT n (.tuple [.str w, k]) := by
  cases n with
  | zero => trivial
  | succ n =>
    rcases hw with h | h <;> subst h
    · refine txs_of (w := "norow") (fm := ["kind"]) (by decide +kernel) fun j s t h1 h2 => ?_
      match j, h1 with
      | 0, h1 => cases h1; exact slot_flat (by decide +kernel)
    · refine txs_of (w := "nobook") (fm := ["kind"]) (by decide +kernel) fun j s t h1 h2 => ?_
      match j, h1 with
      | 0, h1 => cases h1; exact slot_flat (by decide +kernel)
theorem slot_in {n : Nat} {s : Str} {t : PyData} (hs : s = "part" ∨ s = "last") (h : txs noT n t) : slotIn (txs noT n) noT s t := by
  have n1 : s ≠ "text" ∧ s ≠ "parts" ∧ s ≠ "handed" ∧ s ≠ "fields" := by rcases hs with h | h <;> subst h <;> decide +kernel
  exact ⟨fun e => absurd e n1.1, fun _ => h, fun ds _ => ⟨fun e => e.elim (fun z => absurd z n1.2.1) (fun z => absurd z n1.2.2.1), fun e => absurd e n1.2.2.2⟩⟩
theorem slot_all_in {n : Nat} {s : Str} {ds : List PyData} (hs : s = "parts" ∨ s = "handed") (h : ∀ d ∈ ds, txs noT n d) : slotIn (txs noT n) noT s (.tuple ds) := by
  have n1 : s ≠ "text" ∧ s ≠ "part" ∧ s ≠ "last" ∧ s ≠ "fields" := by rcases hs with h | h <;> subst h <;> decide +kernel
  exact ⟨fun e => absurd e n1.1, fun e => e.elim (fun z => absurd z n1.2.1) (fun z => absurd z n1.2.2.1), fun ds' e => ⟨fun _ x hx => h x (by injection e with e; rw [e]; exact hx), fun e => absurd e n1.2.2.2⟩⟩
theorem txs_row (n : Nat) {a b : PyData} (ha : ∀ n, txs noT n a) (hb : ∀ n, txs noT n b) : txs noT n (.tuple [.str "row", .tuple [a, b]]) := by
  cases n with
  | zero => trivial
  | succ n =>
    refine txs_of (w := "row") (fm := ["parts"]) (by decide +kernel) fun j s t h1 h2 => ?_
    match j, h1, h2 with
    | 0, h1, h2 =>
      cases h1; cases h2
      refine slot_all_in (.inl rfl) fun d hd => ?_
      rcases List.mem_cons.mp hd with e | e
      · rw [e]; exact ha n
      · rw [List.mem_singleton.mp e]; exact hb n
theorem txs_fold (n : Nat) {x y e k f g : PyData} (he : ∀ n, txs noT n e) (hf : ∀ n, txs noT n f) (hg : ∀ n, txs noT n g) : txs noT n (.tuple [.str "fold", x, e, y, k, f, g]) := by
  cases n with
  | zero => trivial
  | succ n =>
    refine txs_of (w := "fold") (fm := ["given", "part", "given", "kind", "part", "last"]) (by decide +kernel) fun j s t h1 h2 => ?_
    match j, h1, h2 with
    | 0, h1, h2 => cases h1; exact slot_flat (by decide +kernel)
    | 1, h1, h2 => cases h1; cases h2; exact slot_in (.inl rfl) (he n)
    | 2, h1, h2 => cases h1; exact slot_flat (by decide +kernel)
    | 3, h1, h2 => cases h1; exact slot_flat (by decide +kernel)
    | 4, h1, h2 => cases h1; cases h2; exact slot_in (.inl rfl) (hf n)
    | 5, h1, h2 => cases h1; cases h2; exact slot_in (.inr rfl) (hg n)
theorem txs_call (n : Nat) {f k : PyData} : txs noT n (.tuple [.str "call", f, .tuple [k], .tuple []]) := by
  cases n with
  | zero => trivial
  | succ n =>
    refine txs_of (w := "call") (fm := ["function", "kinds", "handed"]) (by decide +kernel) fun j s t h1 h2 => ?_
    match j, h1, h2 with
    | 0, h1, h2 => cases h1; exact slot_flat (by decide +kernel)
    | 1, h1, h2 => cases h1; exact slot_flat (by decide +kernel)
    | 2, h1, h2 => cases h1; cases h2; exact slot_all_in (.inr rfl) fun d hd => by cases hd
end Sc
namespace Sc
open PySem PySem.Spec PyProof.Rows L2
/-! ### functions with pairs, reckoned -/
theorem Dts.set {K : PySem.W.Frag} {H : Hp} {v : V} {d : PyData} {vs : List V} {ds : List PyData} (t : Dts K H vs ds) (j : Nat) (h : Dt K H v d) : Dts K H (vs.set j v) (ds.set j d) := by
  refine ⟨by rw [List.length_set, List.length_set, t.1], fun i u e h1 h2 => ?_⟩
  rw [List.getElem?_set] at h1 h2
  by_cases z : j = i
  · rw [if_pos z] at h1 h2
    split at h1
    · split at h2
      · cases h1; cases h2; exact h
      · cases h2
    · cases h1
  · rw [if_neg z] at h1 h2
    exact t.2 i u e h1 h2
def numK : PyData := .tuple [leafN]
def pairD1 (l : Str) : PyData := .tuple [.str l, numK]
def pairsD (ls : List Str) : PyData := .tuple (ls.map pairD1)
theorem form_odds : ∀ z ∈ formTab.map (·.1), 2 ≤ odds z := by decide +kernel
theorem lookup_mem {α : Type} : ∀ {l : List (Str × α)} {z : Str}, (l.lookup z).isSome = true → z ∈ l.map (·.1)
  | [], _, h => by cases h
  | (a, b) :: l, z, h => by
    rw [List.lookup_cons] at h
    cases e : z == a with
    | true => rw [eq_of_beq e]; exact List.mem_cons_self
    | false => rw [e] at h; exact List.mem_cons_of_mem _ (lookup_mem h)
/-- no drawn word is a word of parts, where none is talked -/
theorem form_none {i : Inf} (tk : i.talk = 0) (k : Int) : formTab.lookup (wordOf i k) = none := by
  cases e : formTab.lookup (wordOf i k) with
  | none => rfl
  | some fm =>
    have m := form_odds _ (lookup_mem (z := wordOf i k) (by rw [e]; rfl))
    have ew : wordOf i k = reps 113 i.place.toNat ++ signAt (97 + ((k + i.turn) % 26).toNat) ++ reps 113 (i.size - i.place - 1).toNat := if_neg fun z => by rw [tk] at z; exact absurd z.1 (by decide)
    rw [ew] at m
    exact absurd (Nat.le_trans m (plain_odds _ _ _)) (by decide)
theorem up1_inj : ∀ (l m : List Nat), (∀ c ∈ l, 97 ≤ c ∧ c ≤ 122) → (∀ c ∈ m, 97 ≤ c ∧ c ≤ 122) → l.map up1 = m.map up1 → l = m
  | [], [], _, _, _ => rfl
  | [], _ :: _, _, _, h => by cases h
  | _ :: _, [], _, _, h => by cases h
  | x :: l, y :: m, h1, h2, e => by
    rw [List.map_cons, List.map_cons] at e
    injection e with e1 e2
    have hx := h1 x List.mem_cons_self
    have hy := h2 y List.mem_cons_self
    have exy : x = y := by
      unfold up1 at e1
      rw [if_pos hx, if_pos hy] at e1
      omega
    rw [exy, up1_inj l m (fun c q => h1 c (List.mem_cons_of_mem _ q)) (fun c q => h2 c (List.mem_cons_of_mem _ q)) e2]
theorem upper_inj {a b : Str} (ha : Word a) (hb : Word b) (h : Txt.upper a = Txt.upper b) : a = b := by
  rw [upper_ascii fun c m => by have := ha.2.2 c m; omega, upper_ascii fun c m => by have := hb.2.2 c m; omega] at h
  have e := congrArg (fun z : Str => z.cps.toList) h
  have e' : a.cps.toList.map up1 = b.cps.toList.map up1 := by
    have q : ∀ z : Str, (⟨z.cps.map up1⟩ : Str).cps.toList = z.cps.toList.map up1 := fun z => Array.toList_map
    rw [← q, ← q]
    exact e
  refine str_ext ?_
  exact up1_inj _ _ ha.2.2 hb.2.2 e'
def mkP (q : Str × PyData) : PyData := .tuple [.str q.1, q.2]
theorem fb_all {ws : List (Option Wr)} (h : ∀ w ∈ ws, w = none) : firstBad ws = none := fb_none.mpr h
theorem gPairs_of {p : PyData → Bool} {prs : List (Str × PyData)} (hp : ∀ q ∈ prs, p (.str q.1) = true) (nd : (prs.map (·.1)).Nodup) : gPairs p (.tuple (prs.map mkP)) = none := by
  rw [gPairs_eq]
  have e1 : firstBad ((prs.map mkP).map (pairOk p)) = none := fb_all fun w hw => by
    obtain ⟨d, hd, rfl⟩ := List.mem_map.mp hw
    obtain ⟨q, hq, rfl⟩ := List.mem_map.mp hd
    show whenB (p (.str q.1)) .bp = none
    rw [hp q hq]
    rfl
  rw [e1]
  have e2 : strsD ((prs.map mkP).map leadD) = prs.map (·.1) := by
    clear hp nd e1
    induction prs with
    | nil => rfl
    | cons q prs ih =>
      show q.1 :: strsD ((prs.map mkP).map leadD) = _
      rw [ih]
      rfl
  first
    | (show (if (strsD ((prs.map mkP).map leadD)).Nodup then none else some Wr.tt) = none; rw [e2, if_pos nd])
    | (have e3 : (prs.map mkP).map nameD = prs.map (·.1) := by rw [List.map_map]; rfl
       show (if ((prs.map mkP).map nameD).Nodup then none else some Wr.tt) = none
       rw [e3, if_pos nd])
theorem gSnd_of (g : PyData → Option Wr) (prs : List (Str × PyData)) : gSnd g (.tuple (prs.map mkP)) = firstBad (prs.map fun q => g q.2) := by
  show firstBad ((prs.map mkP).map (sndK g)) = _
  rw [List.map_map]
  rfl
theorem leads_of (prs : List (Str × PyData)) : leads (.tuple (prs.map mkP)) = prs.map (·.1) := by
  show (prs.map mkP).map nameD = _
  rw [List.map_map]
  rfl
/-- a function with pairs for its letters and params -/
theorem gFn_of {fs : List (Str × Nat × Nat)} {z : Str} {prl prp : List (Str × PyData)} {res body : PyData} (hz : Word z) (nf : formTab.lookup z = none) (nz : ¬ z ∈ fs.map (·.1)) (hl : ∀ q ∈ prl, Lett q.1) (ndl : (prl.map (·.1)).Nodup) (hp : ∀ q ∈ prp, Word q.1) (ndp : (prp.map (·.1)).Nodup) :
    gFn fs (.str z) (.tuple (prl.map mkP)) (.tuple (prp.map mkP)) res body = firstBad [firstBad (prl.map fun q => gKind [] q.2), firstBad (prp.map fun q => gKind (prl.map (·.1)) q.2), gKind (prl.map (·.1)) res, gPart 12 ⟨prl.map (·.1), fs, prp.map (·.1)⟩ body] := by
  unfold gFn
  rw [gWord_of hz]
  show (if (formTab.lookup z).isSome then some Wr.bp else if z ∈ fs.map (·.1) then some .tt else firstBad _) = _
  rw [nf, if_neg (by show ¬ (false = true); exact Bool.false_ne_true), if_neg nz, gPairs_of (fun q m => decide_eq_true (hl q m)) ndl, gPairs_of (fun q m => decide_eq_true (hp q m)) ndp, gSnd_of, gSnd_of, leads_of, leads_of]
  cases firstBad (prl.map fun q => gKind [] q.2) <;> rfl
theorem kind_num (ls : List Str) : gKind ls numK = none := rfl
theorem pairs_map (ls : List Str) : ls.map pairD1 = (ls.map fun l => (l, numK)).map mkP := by rw [List.map_map]; rfl
theorem fst_map (ls : List Str) : (ls.map fun l => (l, numK)).map (·.1) = ls := by rw [List.map_map]; exact List.map_id' ls
theorem nums_good (ls : List Str) (k : List Str) : firstBad ((ls.map fun l => (l, numK)).map fun q => gKind k q.2) = none := fb_all fun w hw => by
  obtain ⟨q, hq, rfl⟩ := List.mem_map.mp hw
  obtain ⟨l, _, rfl⟩ := List.mem_map.mp hq
  rfl
theorem prog_one (fs : List (Str × Nat × Nat)) (d0 d1 d2 d3 d4 : PyData) : gProg fs [.tuple [d0, d1, d2, d3, d4]] = gFn fs d0 d1 d2 d3 d4 := by
  show (match gFn fs d0 d1 d2 d3 d4 with
    | some b => some b
    | none => gProg (fs ++ [fnOf3 (.tuple [d0, d1, d2, d3, d4])]) []) = _
  cases gFn fs d0 d1 d2 d3 d4 <;> rfl
end Sc
namespace Sc
open PySem PySem.Spec PyProof.Rows L2
/-! ### parts within parts, reckoned -/
def txT : PyData → Prop := fun _ => True
theorem txs_true : ∀ (n : Nat) (d : PyData), txs txT n d
  | 0, _ => trivial
  | n + 1, d => fun w fm ts _ j s t _ _ => ⟨fun _ => trivial, fun _ => txs_true n t, fun ds _ => ⟨fun _ x _ => txs_true n x, fun _ f p _ => txs_true n p⟩⟩
theorem fb_o {o : Option Wr} : ∀ {l : List (Option Wr)}, (∀ x ∈ l, x = none ∨ x = o) → o ∈ l → firstBad l = o
  | [], _, h => by cases h
  | x :: l, h1, h2 => by
    rcases h1 x List.mem_cons_self with e | e
    · rw [e]
      rcases List.mem_cons.mp h2 with z | z
      · rw [e] at z
        rw [z]
        refine fb_all (ws := none :: l) fun y hy => ?_
        rcases List.mem_cons.mp hy with q | q
        · exact q
        · exact (h1 y (List.mem_cons_of_mem _ q)).elim id fun q => q.trans z
      · show firstBad l = o
        exact fb_o (fun y hy => h1 y (List.mem_cons_of_mem _ hy)) z
    · rw [e]
      cases o with
      | some b => rfl
      | none =>
        refine fb_all (ws := none :: l) fun y hy => ?_
        rcases List.mem_cons.mp hy with q | q
        · exact q
        · exact (h1 y (List.mem_cons_of_mem _ q)).elim id id
def slotV (r : Nat) (E : Env0) (fm : List Str) (ts : List PyData) (p : Str × PyData) : Option Wr := gSlot (gPart r) (if p.1 = ("last" : Str) then { E with ns := E.ns ++ strsD (givens fm ts) } else E) p.1 p.2
theorem part_o {r : Nat} {E : Env0} {w : Str} {fm : List Str} {ts : List PyData} {o : Option Wr} (hl : formTab.lookup w = some fm) (len : ts.length = fm.length) (nd : (strsD (givens fm ts)).Nodup) (hc : w = "call" → callOk E ts = true)
    (hs : ∀ p ∈ fm.zip ts, slotV r E fm ts p = none ∨ slotV r E fm ts p = o) (ho : ∃ p ∈ fm.zip ts, slotV r E fm ts p = o) : gPart (r + 1) E (.tuple (.str w :: ts)) = o := by
  rw [gPart_eq hl len]
  have e : firstBad ((fm.zip ts).map fun p => gSlot (gPart r) (if p.1 = ("last" : Str) then { E with ns := E.ns ++ strsD (givens fm ts) } else E) p.1 p.2) = o := by
    refine fb_o (fun x hx => ?_) ?_
    · obtain ⟨p, hp, rfl⟩ := List.mem_map.mp hx
      exact hs p hp
    · obtain ⟨p, hp, e⟩ := ho
      exact List.mem_map.mpr ⟨p, hp, e⟩
  rw [e]
  cases o with
  | some b => rfl
  | none =>
    show (if (strsD (givens fm ts)).Nodup then (if w = ("call" : Str) then whenB (callOk E ts) .bp else none) else some .tt) = none
    rw [if_pos nd]
    by_cases z : w = "call"
    · rw [if_pos z, hc z]; rfl
    · rw [if_neg z]
structure OkE (nm fe : Str) (E : Env0) : Prop where
  wn : Word nm
  wf : Word fe
  nin : nm ∈ E.ns
  fin : E.fs.lookup fe = some (0, 3)
theorem OkE.more {nm fe : Str} {E : Env0} (h : OkE nm fe E) (zs : List Str) : OkE nm fe { E with ns := E.ns ++ zs } := ⟨h.wn, h.wf, List.mem_append.mpr (.inl h.nin), h.fin⟩
/-- a part with parts within -/
inductive Ly (nm fe : Str) : List PyData → PyData → Prop
  | row (a b c : PyData) : Ly nm fe [a, b, c] (.tuple [.str "row", .tuple [a, b, c]])
  | shp (f g h : Str) (a b c : PyData) : Word f → Word g → Word h → (∀ x y z : PyData, fldD (.tuple [.tuple [.str f, x], .tuple [.str g, y], .tuple [.str h, z]]) = true) → Ly nm fe [a, b, c] (.tuple [.str "shape", .tuple [.tuple [.str f, a], .tuple [.str g, b], .tuple [.str h, c]]])
  | get (f : Str) (a : PyData) : Word f → Ly nm fe [a] (.tuple [.str "get", a, .str f])
  | size (a : PyData) : Ly nm fe [a] (.tuple [.str "size", a])
  | two (w : Str) (a b : PyData) : w ∈ (["plus", "minus", "join", "push"] : List Str) → Ly nm fe [a, b] (.tuple [.str w, a, b])
  | thr (w : Str) (a b c : PyData) : w ∈ (["at", "put", "look"] : List Str) → Ly nm fe [a, b, c] (.tuple [.str w, a, b, c])
  | bind (w x : Str) (a b : PyData) : w = "let" ∨ w = "each" → Word x → Ly nm fe [a, b] (.tuple [.str w, .str x, a, b])
  | iff (a b c d : PyData) : Ly nm fe [a, b, c, d] (.tuple [.str "if", a, b, c, d])
  | fold (x y : Str) (a b c : PyData) : Word x → Word y → x ≠ y → Ly nm fe [a, b, c] (.tuple [.str "fold", .str x, a, .str y, numK, b, c])
  | ask (w h : Str) (a b : PyData) : (w = "is" ∧ h = "row" ∨ w = "has" ∧ Word h) → Ly nm fe [a, b] (.tuple [.str w, .str nm, .str h, a, b])
  | call (a b c : PyData) : Ly nm fe [a, b, c] (.tuple [.str "call", .str fe, .tuple [], .tuple [a, b, c]])
section
variable {nm fe : Str} {r : Nat} {o : Option Wr} {E : Env0} {ps : List PyData} {d : PyData} {fm : List Str} {ts : List PyData}
def Gd (nm fe : Str) (r : Nat) (o : Option Wr) (x : PyData) : Prop := ∀ E, OkE nm fe E → gPart r E x = none ∨ gPart r E x = o
def Bd1 (nm fe : Str) (r : Nat) (o : Option Wr) (x : PyData) : Prop := ∀ E, OkE nm fe E → gPart r E x = o
theorem sv_part {x : PyData} : slotV r E fm ts ("part", x) = gPart r E x := slot_part
theorem sv_last {x : PyData} : slotV r E fm ts ("last", x) = gPart r { E with ns := E.ns ++ strsD (givens fm ts) } x := by
  show gSlot (gPart r) (if ("last" : Str) = "last" then _ else E) "last" x = _
  rw [if_pos rfl, slot_last]
theorem sv_given {z : Str} (h : Word z) : slotV r E fm ts ("given", .str z) = none := slot_given.trans (gWord_of h)
theorem sv_field {z : Str} (h : Word z) : slotV r E fm ts ("field", .str z) = none := slot_field.trans (gWord_of h)
theorem sv_kind : slotV r E fm ts ("kind", numK) = none := slot_kind.trans (kind_num _)
theorem sv_head : slotV r E fm ts ("head", .str "row") = none := slot_head.trans (by decide +kernel)
theorem sv_known (h : OkE nm fe E) : slotV r E fm ts ("known", .str nm) = none := slot_known.trans (by
  show (if isWordD (.str nm) then whenB (decide (nm ∈ E.ns)) .nn else some .bp) = none
  rw [if_pos (show isWordD (.str nm) = true from decide_eq_true h.wn), decide_eq_true h.nin]
  rfl)
theorem sv_fun (h : OkE nm fe E) : slotV r E fm ts ("function", .str fe) = none := slot_function.trans (by
  show (if isWordD (.str fe) then whenB (decide (fe ∈ E.fs.map (·.1))) .nn else some .bp) = none
  rw [if_pos (show isWordD (.str fe) = true from decide_eq_true h.wf), decide_eq_true (lookup_mem (by rw [h.fin]; rfl))]
  rfl)
theorem sv_kinds : slotV r E fm ts ("kinds", .tuple []) = none := slot_kinds.trans rfl
theorem hand_o {rec : PyData → Option Wr} {l : List PyData} (h1 : ∀ x ∈ l, rec x = none ∨ rec x = o) (h2 : ∃ x ∈ l, rec x = o) : gHanded rec (.tuple l) = o := fb_o (fun y hy => by
    obtain ⟨x, hx, rfl⟩ := List.mem_map.mp hy
    exact h1 x hx) (by
    obtain ⟨x, hx, e⟩ := h2
    exact List.mem_map.mpr ⟨x, hx, e⟩)
theorem two_mem {x y : PyData} {p : PyData → Prop} (h : ∃ z ∈ [x, y], p z) : p x ∨ p y := by
  obtain ⟨z, hz, q⟩ := h
  rcases List.mem_cons.mp hz with e | e
  · rw [e] at q; exact .inl q
  · rw [List.mem_singleton.mp e] at q; exact .inr q
theorem three_mem {x y z : PyData} {p : PyData → Prop} (h : ∃ u ∈ [x, y, z], p u) : p x ∨ p y ∨ p z := by
  obtain ⟨u, hu, q⟩ := h
  rcases List.mem_cons.mp hu with e | e
  · rw [e] at q; exact .inl q
  · exact .inr (two_mem ⟨u, e, q⟩)
theorem four_mem {x y z w : PyData} {p : PyData → Prop} (h : ∃ u ∈ [x, y, z, w], p u) : p x ∨ p y ∨ p z ∨ p w := by
  obtain ⟨u, hu, q⟩ := h
  rcases List.mem_cons.mp hu with e | e
  · rw [e] at q; exact .inl q
  · exact .inr (three_mem ⟨u, e, q⟩)
theorem m1 {α : Type} {p : α → Prop} {a : α} (ha : p a) : ∀ x ∈ [a], p x := fun x h => by rw [List.mem_singleton.mp h]; exact ha
theorem mc {α : Type} {p : α → Prop} {a : α} {l : List α} (ha : p a) (hl : ∀ x ∈ l, p x) : ∀ x ∈ a :: l, p x := fun x h => by
  rcases List.mem_cons.mp h with e | e
  · rw [e]; exact ha
  · exact hl x e
theorem ei {α : Type} {p : α → Prop} {l : List α} (j : Nat) {x : α} (e : l[j]? = some x) (h : p x) : ∃ x ∈ l, p x := ⟨x, List.mem_of_getElem? e, h⟩
theorem nd0 {zs : List Str} (e : zs = []) : zs.Nodup := by rw [e]; exact List.nodup_nil
theorem nd1 {zs : List Str} {a : Str} (e : zs = [a]) : zs.Nodup := by rw [e]; simp
theorem ly_part (L : Ly nm fe ps d) (h : ∀ x ∈ ps, Gd nm fe r o x) (hx : ∃ x ∈ ps, Bd1 nm fe r o x) (ok : OkE nm fe E) : gPart (r + 1) E d = o := by
  have pt : ∀ {fm ts} {x : PyData}, Gd nm fe r o x → slotV r E fm ts ("part", x) = none ∨ slotV r E fm ts ("part", x) = o := fun g => by rw [sv_part]; exact g E ok
  have lt : ∀ {fm ts} {x : PyData}, Gd nm fe r o x → slotV r E fm ts ("last", x) = none ∨ slotV r E fm ts ("last", x) = o := fun g => by rw [sv_last]; exact g _ (ok.more _)
  have pb : ∀ {fm ts} {x : PyData}, Bd1 nm fe r o x → slotV r E fm ts ("part", x) = o := fun g => by rw [sv_part]; exact g E ok
  have lb : ∀ {fm ts} {x : PyData}, Bd1 nm fe r o x → slotV r E fm ts ("last", x) = o := fun g => by rw [sv_last]; exact g _ (ok.more _)
  cases L with
  | size a =>
    have ga := h a List.mem_cons_self
    refine part_o (fm := ["part"]) (by decide +kernel) rfl (nd0 (by kernel_rfl)) (fun z => absurd z (by decide +kernel)) (m1 (pt ga)) ?_
    obtain ⟨x, hx1, hx2⟩ := hx
    rw [List.mem_singleton.mp hx1] at hx2
    exact ei 0 rfl (pb hx2)
  | get f a wf =>
    have ga := h a List.mem_cons_self
    refine part_o (fm := ["part", "field"]) (by decide +kernel) rfl (nd0 (by kernel_rfl)) (fun z => absurd z (by decide +kernel)) (mc (pt ga) (m1 (.inl (sv_field wf)))) ?_
    obtain ⟨x, hx1, hx2⟩ := hx
    rw [List.mem_singleton.mp hx1] at hx2
    exact ei 0 rfl (pb hx2)
  | two w a b hw =>
    have ga := h a List.mem_cons_self
    have gb := h b (List.mem_cons_of_mem _ List.mem_cons_self)
    have fm : formTab.lookup w = some (["part", "part"] : List Str) ∧ w ≠ "call" := (by decide +kernel : ∀ w ∈ (["plus", "minus", "join", "push"] : List Str), formTab.lookup w = some (["part", "part"] : List Str) ∧ w ≠ "call") w hw
    refine part_o fm.1 rfl (nd0 (by kernel_rfl)) (fun z => absurd z fm.2) (mc (pt ga) (m1 (pt gb))) ?_
    rcases two_mem hx with z | z
    · exact ei 0 rfl (pb z)
    · exact ei 1 rfl (pb z)
  | thr w a b c hw =>
    have ga := h a List.mem_cons_self
    have gb := h b (List.mem_cons_of_mem _ List.mem_cons_self)
    have gc := h c (List.mem_cons_of_mem _ (List.mem_cons_of_mem _ List.mem_cons_self))
    have fm : formTab.lookup w = some (["part", "part", "part"] : List Str) ∧ w ≠ "call" := (by decide +kernel : ∀ w ∈ (["at", "put", "look"] : List Str), formTab.lookup w = some (["part", "part", "part"] : List Str) ∧ w ≠ "call") w hw
    refine part_o fm.1 rfl (nd0 (by kernel_rfl)) (fun z => absurd z fm.2) (mc (pt ga) (mc (pt gb) (m1 (pt gc)))) ?_
    rcases three_mem hx with z | z | z
    · exact ei 0 rfl (pb z)
    · exact ei 1 rfl (pb z)
    · exact ei 2 rfl (pb z)
  | bind w x a b hw wx =>
    have ga := h a List.mem_cons_self
    have gb := h b (List.mem_cons_of_mem _ List.mem_cons_self)
    have fm : formTab.lookup w = some (["given", "part", "last"] : List Str) ∧ w ≠ "call" := by rcases hw with z | z <;> rw [z] <;> decide +kernel
    refine part_o fm.1 rfl (nd1 (a := x) (by kernel_rfl)) (fun z => absurd z fm.2) (mc (.inl (sv_given wx)) (mc (pt ga) (m1 (lt gb)))) ?_
    rcases two_mem hx with z | z
    · exact ei 1 rfl (pb z)
    · exact ei 2 rfl (lb z)
  | iff a b c e =>
    have ga := h a List.mem_cons_self
    have gb := h b (List.mem_cons_of_mem _ List.mem_cons_self)
    have gc := h c (List.mem_cons_of_mem _ (List.mem_cons_of_mem _ List.mem_cons_self))
    have ge := h e (List.mem_cons_of_mem _ (List.mem_cons_of_mem _ (List.mem_cons_of_mem _ List.mem_cons_self)))
    refine part_o (fm := ["part", "part", "part", "part"]) (by decide +kernel) rfl (nd0 (by kernel_rfl)) (fun z => absurd z (by decide +kernel)) (mc (pt ga) (mc (pt gb) (mc (pt gc) (m1 (pt ge))))) ?_
    rcases four_mem hx with z | z | z | z
    · exact ei 0 rfl (pb z)
    · exact ei 1 rfl (pb z)
    · exact ei 2 rfl (pb z)
    · exact ei 3 rfl (pb z)
  | fold x y a b c wx wy ne =>
    have ga := h a List.mem_cons_self
    have gb := h b (List.mem_cons_of_mem _ List.mem_cons_self)
    have gc := h c (List.mem_cons_of_mem _ (List.mem_cons_of_mem _ List.mem_cons_self))
    have eg : strsD (givens ["given", "part", "given", "kind", "part", "last"] [.str x, a, .str y, numK, b, c]) = [x, y] := by kernel_rfl
    refine part_o (fm := ["given", "part", "given", "kind", "part", "last"]) (by decide +kernel) rfl (by rw [eg]; simp [ne]) (fun z => absurd z (by decide +kernel)) (mc (.inl (sv_given wx)) (mc (pt ga) (mc (.inl (sv_given wy)) (mc (.inl sv_kind) (mc (pt gb) (m1 (lt gc))))))) ?_
    rcases three_mem hx with z | z | z
    · exact ei 1 rfl (pb z)
    · exact ei 4 rfl (pb z)
    · exact ei 5 rfl (lb z)
  | ask w g a b hw =>
    have ga := h a List.mem_cons_self
    have gb := h b (List.mem_cons_of_mem _ List.mem_cons_self)
    rcases hw with ⟨rfl, rfl⟩ | ⟨rfl, wg⟩
    · refine part_o (fm := ["known", "head", "part", "part"]) (by decide +kernel) rfl (nd0 (by kernel_rfl)) (fun z => absurd z (by decide +kernel)) (mc (.inl (sv_known ok)) (mc (.inl sv_head) (mc (pt ga) (m1 (pt gb))))) ?_
      rcases two_mem hx with z | z
      · exact ei 2 rfl (pb z)
      · exact ei 3 rfl (pb z)
    · refine part_o (fm := ["known", "field", "part", "part"]) (by decide +kernel) rfl (nd0 (by kernel_rfl)) (fun z => absurd z (by decide +kernel)) (mc (.inl (sv_known ok)) (mc (.inl (sv_field wg)) (mc (pt ga) (m1 (pt gb))))) ?_
      rcases two_mem hx with z | z
      · exact ei 2 rfl (pb z)
      · exact ei 3 rfl (pb z)
  | call a b c =>
    have hh : gHanded (gPart r E) (.tuple [a, b, c]) = o := hand_o (fun x m => h x m E ok) (by obtain ⟨x, m, z⟩ := hx; exact ⟨x, m, z E ok⟩)
    have sv : ∀ {fm ts}, slotV r E fm ts ("handed", .tuple [a, b, c]) = o := slot_handed.trans hh
    refine part_o (fm := ["function", "kinds", "handed"]) (by decide +kernel) rfl (nd0 (by kernel_rfl)) (fun _ => ?_) (mc (.inl (sv_fun ok)) (mc (.inl sv_kinds) (m1 (.inr sv)))) (ei 2 rfl sv)
    show (match E.fs.lookup fe with
      | some (nl, np) => decide (([] : List PyData).length = nl) && decide ([a, b, c].length = np)
      | none => false) = true
    rw [ok.fin]
    rfl
  | row a b c =>
    have hh : gHanded (gPart r E) (.tuple [a, b, c]) = o := hand_o (fun x m => h x m E ok) (by obtain ⟨x, m, z⟩ := hx; exact ⟨x, m, z E ok⟩)
    have sv : ∀ {fm ts}, slotV r E fm ts ("parts", .tuple [a, b, c]) = o := slot_parts.trans (by
      show (match gHanded (gPart r E) (.tuple [a, b, c]) with
        | some b => some b
        | none => none) = o
      rw [hh]
      cases o <;> rfl)
    exact part_o (fm := ["parts"]) (by decide +kernel) rfl (nd0 (by kernel_rfl)) (fun z => absurd z (by decide +kernel)) (m1 (.inr sv)) (ei 0 rfl sv)
  | shp f g k a b c wf wg wk asc =>
    have gf : ∀ (z : Str) (x : PyData), Word z → gField (gPart r E) (.tuple [.str z, x]) = gPart r E x := fun z x wz => by
      show (match gWord (.str z) with
        | some b => some b
        | none => gPart r E x) = _
      rw [gWord_of wz]
    have sv : ∀ {fm ts}, slotV r E fm ts ("fields", .tuple [.tuple [.str f, a], .tuple [.str g, b], .tuple [.str k, c]]) = o := slot_fields.trans (by
      show (if fldD _ then firstBad _ else some Wr.bp) = o
      rw [if_pos (asc a b c)]
      show firstBad [gField (gPart r E) (.tuple [.str f, a]), gField (gPart r E) (.tuple [.str g, b]), gField (gPart r E) (.tuple [.str k, c])] = o
      rw [gf f a wf, gf g b wg, gf k c wk]
      refine fb_o (mc (h a List.mem_cons_self E ok) (mc (h b (List.mem_cons_of_mem _ List.mem_cons_self) E ok) (m1 (h c (List.mem_cons_of_mem _ (List.mem_cons_of_mem _ List.mem_cons_self)) E ok)))) ?_
      rcases three_mem hx with z | z | z <;> rw [← z E ok] <;> simp)
    exact part_o (fm := ["fields"]) (by decide +kernel) rfl (nd0 (by kernel_rfl)) (fun z => absurd z (by decide +kernel)) (m1 (.inr sv)) (ei 0 rfl sv)
end
end Sc
namespace Sc
open PySem PySem.Spec PyProof.Rows L2
/-! ### a leaf within parts -/
inductive Nx (nm fe : Str) (leaf : PyData) : Nat → PyData → Prop
  | zero : Nx nm fe leaf 0 leaf
  | one {m : Nat} {k d : PyData} {ps : List PyData} : Nx nm fe leaf m k → Ly nm fe ps d → (∀ x ∈ ps, (∃ g : Int, x = numP g ∧ 0 ≤ g ∧ g < 9) ∨ x = k) → k ∈ ps → Nx nm fe leaf (m + 1) d
theorem nx_part {nm fe : Str} {leaf : PyData} {lv : Option Wr} (hl : ∀ r E, OkE nm fe E → gPart (r + 1) E leaf = lv) {m : Nat} {d : PyData} (N : Nx nm fe leaf m d) :
    ∀ (r : Nat) (E : Env0), OkE nm fe E → gPart r E d = if m < r then lv else some .bp := by
  induction N with
  | zero =>
    intro r E ok
    cases r with
    | zero => rfl
    | succ r => rw [hl r E ok, if_pos (Nat.succ_pos r)]
  | @one m k d ps _ L hx hk ih =>
    intro r E ok
    cases r with
    | zero => cases L <;> rfl
    | succ r =>
      have e : (if m + 1 < r + 1 then lv else some Wr.bp) = if m < r then lv else some Wr.bp := by
        by_cases z : m < r
        · rw [if_pos z, if_pos (Nat.succ_lt_succ z)]
        · rw [if_neg z, if_neg fun q => z (Nat.lt_of_succ_lt_succ q)]
      rw [e]
      refine ly_part L (fun x m' E' ok' => ?_) ⟨k, hk, fun E' ok' => ih r E' ok'⟩ ok
      rcases hx x m' with ⟨g, rfl, g0, g9⟩ | z
      · cases r with
        | zero => exact .inr rfl
        | succ r => exact .inl (part_num (Nat.lt_trans (show g.natAbs < 9 by omega) (by decide)))
      · rw [z]; exact .inr (ih r E' ok')
theorem okN_int (k : Int) (n : Nat) : OkN n (.int k) := ⟨rfl, rfl, by show PyData.depth (.int k) ≤ n; simp [PyData.depth]⟩
theorem okN_numP (k : Int) (n : Nat) : OkN (n + 1) (numP k) := okN_two (okN_w (by decide +kernel)) (okN_int k n)
theorem okN_c {n : Nat} {ds : List PyData} (hl : ds.length ≤ 60) (h : ∀ d ∈ ds, OkN n d) : OkN (n + 1) (.tuple ds) := okN_tup hl h
theorem okN_numK (n : Nat) : OkN (n + 2) numK := okN_tup (by show 1 ≤ 60; decide) (m1 (okN_leafs n).1)
theorem okN_ly {nm fe : Str} {n : Nat} {ps : List PyData} {d : PyData} (L : Ly nm fe ps d) (wn : Word nm) (wf : Word fe) (h : ∀ x ∈ ps, OkN (n + 2) x) : OkN (n + 5) d := by
  have ws : ∀ {z : Str} {k : Nat}, Word z → OkN k (.str z) := fun w => (okN_word w).mono (Nat.zero_le _)
  have up : ∀ {x : PyData}, x ∈ ps → OkN (n + 4) x := fun m => (h _ m).mono (by omega)
  have kw : ∀ {z : Str}, (PyData.canLay0 (.str z) && sm (.str z)) = true → OkN (n + 4) (.str z) := fun e => okN_w e
  have wd : ∀ {l : List Str} {z : Str}, z ∈ l → (∀ z ∈ l, (PyData.canLay0 (.str z) && sm (.str z)) = true) → OkN (n + 4) (.str z) := fun m q => okN_w (q _ m)
  cases L with
  | row a b c => exact okN_two (n := n + 4) (kw (by decide +kernel)) ((okN_c (n := n + 2) (by show 3 ≤ 60; decide) h).mono (by omega))
  | size a => exact okN_two (n := n + 4) (kw (by decide +kernel)) (up List.mem_cons_self)
  | get f a wf' => exact okN_c (n := n + 4) (by show 3 ≤ 60; decide) (mc (kw (by decide +kernel)) (mc (up List.mem_cons_self) (m1 (ws wf'))))
  | shp f g k a b c wf' wg wk _ =>
    exact okN_two (n := n + 4) (kw (by decide +kernel)) (okN_c (n := n + 3) (by show 3 ≤ 60; decide) (mc (okN_two (n := n + 2) (ws wf') (h a List.mem_cons_self)) (mc (okN_two (n := n + 2) (ws wg) (h b (List.mem_cons_of_mem _ List.mem_cons_self))) (m1 (okN_two (n := n + 2) (ws wk) (h c (List.mem_cons_of_mem _ (List.mem_cons_of_mem _ List.mem_cons_self))))))))
  | two w a b hw => exact okN_c (n := n + 4) (by show 3 ≤ 60; decide) (mc (wd hw (by decide +kernel)) (fun x m => up m))
  | thr w a b c hw => exact okN_c (n := n + 4) (by show 4 ≤ 60; decide) (mc (wd hw (by decide +kernel)) (fun x m => up m))
  | bind w x a b hw wx => exact okN_c (n := n + 4) (by show 4 ≤ 60; decide) (mc (wd (l := ["let", "each"]) (by rcases hw with z | z <;> rw [z] <;> simp) (by decide +kernel)) (mc (ws wx) (fun x m => up m)))
  | iff a b c e => exact okN_c (n := n + 4) (by show 5 ≤ 60; decide) (mc (kw (by decide +kernel)) (fun x m => up m))
  | fold x y a b c wx wy _ => exact okN_c (n := n + 4) (by show 7 ≤ 60; decide) (mc (kw (by decide +kernel)) (mc (ws wx) (mc (up List.mem_cons_self) (mc (ws wy) (mc ((okN_numK n).mono (by omega)) (fun x m => up (List.mem_cons_of_mem _ m)))))))
  | ask w g a b hw =>
    rcases hw with ⟨rfl, rfl⟩ | ⟨rfl, wg⟩
    · exact okN_c (n := n + 4) (by show 5 ≤ 60; decide) (mc (kw (by decide +kernel)) (mc (ws wn) (mc (kw (by decide +kernel)) (fun x m => up m))))
    · exact okN_c (n := n + 4) (by show 5 ≤ 60; decide) (mc (kw (by decide +kernel)) (mc (ws wn) (mc (ws wg) (fun x m => up m))))
  | call a b c => exact okN_c (n := n + 4) (by show 4 ≤ 60; decide) (mc (kw (by decide +kernel)) (mc (ws wf) (mc ((okN_c (n := n + 3) (ds := []) (by decide) (fun x m => by cases m))) (m1 ((okN_c (n := n + 2) (by show 3 ≤ 60; decide) h).mono (by omega))))))
theorem okN_nx {nm fe : Str} {leaf : PyData} (wn : Word nm) (wf : Word fe) (h0 : OkN 4 leaf) {m : Nat} {d : PyData} (N : Nx nm fe leaf m d) : OkN (3 * m + 4) d := by
  induction N with
  | zero => exact h0
  | @one m k d ps _ L hx hk ih =>
    refine (okN_ly (n := 3 * m + 2) L wn wf fun x mx => ?_).mono (by omega)
    rcases hx x mx with ⟨g, rfl, _⟩ | z
    · exact (okN_numP g 0).mono (by omega)
    · rw [z]; exact ih
end Sc
namespace Sc
open PySem PyProof.Rows L2
section
variable {P : Program} {w : World} {K : PySem.W.Frag} {mg : Str → Option Value} {base : Heap}
theorem scText : FnScope ["_law_s", "_law_some", "_law_k"] ["_law_s"] (defScope sAText) := ⟨rfl, rfl, rfl, by decide +kernel, rfl, by decide +kernel, by decide +kernel⟩
def signs : Str := (" !\"#$&'()*+,-./0123456789:;<=>?@ABCDEFGHIJKLMNOPQRSTUVWXYZ[\\]^_`" : Str) ++ ("abcdefghijklmnopqrstuvwxyz{|}~" : Str)
theorem signs_len : signs.length = 94 := by decide +kernel
theorem signs_at : ∀ n : Nat, n < 94 → ∃ c, signs.cps[n]? = some c ∧ 32 ≤ c ∧ c ≤ 126 ∧ c ≠ 37 := by
  have h : ∀ n : Nat, n < 94 → (signs.cps[n]?.any fun c => decide (32 ≤ c ∧ c ≤ 126 ∧ c ≠ 37)) = true := by decide +kernel
  intro n hn
  have e := h n hn
  cases z : signs.cps[n]? with
  | none => rw [z] at e; cases e
  | some c => rw [z] at e; exact ⟨c, rfl, of_decide_eq_true e⟩
theorem c_text (T : Tx K mg) : Cal P w K mg base 2 "_law_a_text" ["_law_s"] (spText K) := by
  have CT : Cal P w K mg base 1 "_law_taken" ["_law_s", "_law_most"] (spTaken K) := c_taken T
  refine T.a_text.ok scText (fun vs H Q E h => ?_) (fun f cdv A outer s H vs Q E hr h => ?_)
  · obtain ⟨s, i, rfl, _⟩ := h
    rfl
  obtain ⟨s, i, rfl, S, q⟩ := h
  refine ⟨_, pss_cons (ps_set (i := 1) scText.nd rfl (Or.inr rfl) pe_str)
    (pss_cons (ps_set (i := 1) scText.nd rfl (Or.inr rfl) (pe_op op_add_str (pv 1) pe_str))
    (pss_one (ps_ret (pe_join pe_str (pe_lc (own := [("_law_k", 2)]) (g := gName 2) (tt := tYes) rfl scText.nd (pi_range1 rfl T.m_range (pa_cons (pe_cal CT hr (pa_cons (pv 0) (pa_cons pe_int pa_nil))) pa_nil))
        (blkOk_by (N := ["_law_s", "_law_some", "_law_k"]) (sc := defScope sAText) (by decide +kernel))
        (fun _ _ _ _ _ => pg_name (i := 2) scText.nd rfl (Or.inl rfl)) (fun _ _ _ _ _ => pts_nil)
        (fun _ _ _ _ _ => pe_item_str (pv 1) (pe_cal CT hr (pa_cons (pv 0) (pa_cons pe_int pa_nil))) (fun _ _ => rfl))))))), ?_⟩
  refine ⟨_, rfl, _, _, rfl, rfl, (by decide +kernel), ⟨_, rfl⟩, _, rfl, s, i, 4, rfl, S, by decide, by decide, fun r H1 r0 r4 x1 S1 => ⟨_, rfl, by omega, by omega, fun D hD => ?_⟩⟩
  have nds : D ≠ s := S1.ne hD
  refine lc_range (lo := 0) (n := r.toNat) (fun j H2 => Ext s H1 H2 ∧ IsS K H2 s i ∧ ∃ cs : List Nat, H2 D = some (.lst (cs.map fun c => V.str (signAt c))) ∧ (∀ c ∈ cs, 32 ≤ c ∧ c ≤ 126 ∧ c ≠ 37) ∧ cs.length = j)
    ⟨Ext.new _ hD, S1.same (same_new hD _), [], upd_same, (fun z hz => by cases hz), rfl⟩ ?_ ?_
  · rintro j H2 hj ⟨x2, S2, cs, hd, wd, lz⟩
    refine ⟨rfl, _, rfl, _, rfl, s, i, 94, rfl, S2, by decide, by decide, fun k H3 k0 k3 x3 S3 => ?_⟩
    obtain ⟨c, hc, hb⟩ := signs_at k.toNat (by omega)
    refine ⟨signs, k, c, rfl, rfl, k0, by omega, by rw [signs_len]; exact k3, hc, cs.map (fun c => V.str (signAt c)), x3 _ _ nds hd, ?_, ?_⟩
    · rw [List.length_map]
      exact small1000 (by omega)
    · have x5 : Ext s H1 (upd H3 D (.lst (cs.map (fun c => V.str (signAt c)) ++ [.str (signAt c)]))) := (x2.trans x3).over hD _
      refine ⟨x5, S1.over S3 x5 nds, cs ++ [c], by rw [upd_same, List.map_append]; rfl, fun z hz => ?_, by rw [List.length_append, lz]; rfl⟩
      rcases List.mem_append.mp hz with h | h
      · exact wd z h
      · rw [List.mem_singleton.mp h]
        exact hb
  rintro H2 ⟨x2, S2, cs, hd, wd, lz⟩
  have lz' : cs.length = r.toNat := lz
  have hj : ∀ cs : List Nat, TL.joinL [] (cs.map fun c => [c]) = cs := fun cs => by
    induction cs with
    | nil => rfl
    | cons c cs ih =>
      cases cs with
      | nil => rfl
      | cons c' cs => rw [List.map_cons, joinL_cons _ _ _ (by simp), ih]; rfl
  have ej : (Txt.join Str.empty (cs.map signAt)).cps.toList = cs := by
    have e := congrArg TL.tl (TL.join_eq Str.empty (cs.map signAt))
    rw [TL.tl_join] at e
    refine e.trans ?_
    rw [List.map_map]
    exact hj cs
  refine ⟨Str.empty, D, cs.map signAt, rfl, rfl, .inl (SqL.of (by rw [List.map_map]; exact hd)), ?_, ?_⟩
  · have s1 : ∀ cs : List Nat, ((cs.map signAt).map (·.length)).sum = cs.length := fun cs => by
      induction cs with
      | nil => rfl
      | cons c cs ih => rw [List.map_cons, List.map_cons, List.sum_cons, ih, List.length_cons]; show 1 + _ = _; omega
    rw [s1]
    show _ + _ * 0 ≤ _
    omega
  · exact q _ _ (x1.trans x2) S2 ⟨by rw [ej]; omega, by rw [ej]; exact wd⟩
end
end Sc
namespace Sc
open PySem PySem.Spec PyProof.Rows L2
/-! ### t[lo:hi], whichever it is; a list or a tuple that is walked -/
def rSlW (K : PySem.W.Frag) : V → Option Int → Option Int → Hp → VK → Prop := fun x lo hi H Q => ∃ a xs, x = .ref a ∧ SqT K H a xs ∧ ∀ (p : Addr) (H' : Hp), Same H H' → SqT K H' p (cutV xs lo hi) → Q (.ref p) H'
theorem cut_whole {xs : List V} {lo hi : Option Int} (h : HT.sIx xs.length 0 lo = 0 ∧ HT.sIx xs.length xs.length hi = xs.length) : cutV xs lo hi = xs := by
  unfold cutV
  rw [h.1, h.2, List.drop_zero, Nat.sub_zero, List.take_length]
theorem sl_tupW {X : Cx} : SlR X (rSlW X.K) := by
  intro pins s σ H x v vl vu lo hi sl Q I rx hs pl pu ⟨a, xs, ex, ht, q⟩
  exact sl_tupA pins s σ H x v vl vu lo hi sl Q I rx hs pl pu ⟨a, xs, ex, ht, fun e => q a H (Same.refl _) (by rw [cut_whole e]; exact ht), fun _ p hp => q p _ (same_new hp _) (SqT.of upd_same)⟩
def iSeq (K : PySem.W.Frag) (tl : TE) : TI := fun σ H R => tl σ H fun x H1 => ∃ a, x = .ref a ∧ (((∃ xs, SqL K H1 a xs) ∧ R (Itl K a) H1) ∨ ((∃ xs, SqT K H1 a xs) ∧ R (Itt K a) H1))
theorem pi_seq {X : Cx} {tg l : Expr} {tl : TE} (hl : PE X l tl) : PI X tg l (iSeq X.K tl) := by
  refine ⟨fun pins s σ H R I h => thn (hl.run pins s σ H _ I h) fun v z ⟨x, G, J, r, a, e, q⟩ => ?_⟩
  subst e
  cases r
  have fresh : ∀ (b : Nat), b ∈ [z.heap.objs.size] → b = z.heap.objs.size := fun b hb => by simpa using hb
  rcases q with ⟨⟨xs, hq⟩, q⟩ | ⟨⟨xs, hq⟩, q⟩
  · obtain ⟨its, _, p, _⟩ := J.list hq
    exact wpAny_pyIter_list p.isList ⟨_, [z.heap.objs.size], _, _, G, rfl, J.kept (t' := z.toks) (fun _ _ y => Heap.get?_push_of_some _ y), turn_list a _, ⟨_, Heap.get?_push_size _ rfl, rfl, rfl⟩, fun b hb => by rw [fresh b hb]; exact J.fpOk (Nat.le_refl _) (J.hok.fresh (Nat.le_refl _)), q⟩
  · obtain ⟨its, _, p, _⟩ := J.tuple hq
    exact wpAny_pyIter_tuple (show z.heap.IsTuple a its.toArray from p) ⟨_, [z.heap.objs.size], _, _, G, rfl, J.kept (t' := z.toks) (fun _ _ y => Heap.get?_push_of_some _ y), turn_tuple a _, ⟨_, Heap.get?_push_size _ rfl, rfl, rfl⟩, fun b hb => by rw [fresh b hb]; exact J.fpOk (Nat.le_refl _) (J.hok.fresh (Nat.le_refl _)), q⟩
/-! ### tests of a word -/
section
variable {t u : TS} {D : Ends} {σ : L2.St} {H : Hp} {w a b : Str} {j : Nat}
theorem w_ifT (h : σ[j]? = some (some (.str w))) (e : w = a) (k : t D σ H) : tIfS (tTest (tOp rEq (tVar j) (tC (.str a)))) t u D σ H :=
  ⟨_, h, rfl, _, rfl, by rw [decide_eq_true (by rw [e] : V.str w = V.str a)]; exact iteT k⟩
theorem w_ifF (h : σ[j]? = some (some (.str w))) (e : ¬ w = a) (k : u D σ H) : tIfS (tTest (tOp rEq (tVar j) (tC (.str a)))) t u D σ H :=
  ⟨_, h, rfl, _, rfl, by rw [decide_eq_false (fun z => e (by injection z) : ¬ V.str w = V.str a)]; exact iteF k⟩
theorem w_orT (h : σ[j]? = some (some (.str w))) (e : w = a ∨ w = b) (k : t D σ H) : tIfS (tOr (tTest (tOp rEq (tVar j) (tC (.str a)))) (tTest (tOp rEq (tVar j) (tC (.str b))))) t u D σ H := by
  show tOr _ _ _ _ _
  refine or_pure (decide (w = a)) (decide (w = b)) (fun R r => ⟨_, h, rfl, _, rfl, by rw [eqV_str]; exact r⟩) (fun _ R r => ⟨_, h, rfl, _, rfl, by rw [eqV_str]; exact r⟩) (fun _ => iteT k) (fun n1 n2 => ?_)
  rcases e with e | e
  · exact absurd (decide_eq_true e) (by rw [n1]; exact Bool.false_ne_true)
  · exact absurd (decide_eq_true e) (by rw [n2]; exact Bool.false_ne_true)
theorem w_orF (h : σ[j]? = some (some (.str w))) (ea : ¬ w = a) (eb : ¬ w = b) (k : u D σ H) : tIfS (tOr (tTest (tOp rEq (tVar j) (tC (.str a)))) (tTest (tOp rEq (tVar j) (tC (.str b))))) t u D σ H := by
  show tOr _ _ _ _ _
  refine or_pure (decide (w = a)) (decide (w = b)) (fun R r => ⟨_, h, rfl, _, rfl, by rw [eqV_str]; exact r⟩) (fun _ R r => ⟨_, h, rfl, _, rfl, by rw [eqV_str]; exact r⟩) (fun e => ?_) (fun _ _ => iteF k)
  rcases e with e | e
  · exact absurd (of_decide_eq_true e) ea
  · exact absurd (of_decide_eq_true e) eb
theorem t_ifT {ta tb : TE} {Q : VK} (h : σ[j]? = some (some (.str w))) (e : w = a) (k : ta σ H Q) : tIf (tTest (tOp rEq (tVar j) (tC (.str a)))) ta tb σ H Q :=
  ⟨_, h, rfl, _, rfl, by rw [decide_eq_true (by rw [e] : V.str w = V.str a)]; exact iteT k⟩
theorem t_ifF {ta tb : TE} {Q : VK} (h : σ[j]? = some (some (.str w))) (e : ¬ w = a) (k : tb σ H Q) : tIf (tTest (tOp rEq (tVar j) (tC (.str a)))) ta tb σ H Q :=
  ⟨_, h, rfl, _, rfl, by rw [decide_eq_false (fun z => e (by injection z) : ¬ V.str w = V.str a)]; exact iteF k⟩
end
end Sc
namespace Sc
open PySem PySem.Spec PyProof.Rows L2
/-! ### _law_deeper -/
def W18 : List Str := ["row", "shape", "get", "size", "plus", "minus", "join", "push", "at", "put", "look", "let", "each", "if", "fold", "is", "has", "call"]
def kvD : List (Key × V) := [(.inr "get", .int 1), (.inr "size", .int 1), (.inr "row", .int 3), (.inr "shape", .int 3), (.inr "at", .int 3), (.inr "put", .int 3), (.inr "look", .int 3), (.inr "if", .int 4)]
def many0 (z : Str) : Nat := if z = "get" then 1 else if z = "size" then 1 else if z = "row" then 3 else if z = "shape" then 3 else if z = "at" then 3 else if z = "put" then 3 else if z = "look" then 3 else if z = "if" then 4 else 2
def many1 (z : Str) : Nat := if z = "fold" ∨ z = "call" then 3 else many0 z
theorem many_at51 : ∀ z ∈ W18, (valV kvD (.inr z)).getD (.int 2) = .int (many0 z : Int) ∧ 1 ≤ many1 z ∧ many1 z ≤ 4 := by
  intro z hz
  simp only [W18, List.mem_cons, List.not_mem_nil, or_false] at hz
  rcases hz with h | h | h | h | h | h | h | h | h | h | h | h | h | h | h | h | h | h <;> subst h <;> (refine ⟨?_, ?_⟩ <;> first | kernel_rfl | decide +kernel)
theorem ln1 {α : Type} {l : List α} (h : l.length = 1) : ∃ a, l = [a] := by
  match l, h with
  | [a], _ => exact ⟨a, rfl⟩
theorem ln2 {α : Type} {l : List α} (h : l.length = 2) : ∃ a b, l = [a, b] := by
  match l, h with
  | [a, b], _ => exact ⟨a, b, rfl⟩
theorem ln3 {α : Type} {l : List α} (h : l.length = 3) : ∃ a b c, l = [a, b, c] := by
  match l, h with
  | [a, b, c], _ => exact ⟨a, b, c, rfl⟩
theorem ln4 {α : Type} {l : List α} (h : l.length = 4) : ∃ a b c d, l = [a, b, c, d] := by
  match l, h with
  | [a, b, c, d], _ => exact ⟨a, b, c, d, rfl⟩
section
variable {P : Program} {w : World} {K : PySem.W.Frag} {mg : Str → Option Value} {base : Heap}
/-- what stands beside the one within -/
def Sib (k x : PyData) : Prop := (∃ g : Int, x = numP g ∧ 0 ≤ g ∧ g < 9) ∨ x = k
def spDeeper (K : PySem.W.Frag) : Sp := fun vs H Q _ => ∃ (s : Addr) (i : Inf) (v : V) (k : PyData) (fe nm : Str), vs = [.ref s, v, .str fe, .str nm] ∧ IsS K H s i ∧ Dt K H v k ∧
  ∀ (v' : V) (d : PyData) (ps : List PyData) (H' : Hp), Ext s H H' → IsS K H' s i → Dt K H' v' d → Ly nm fe ps d → (∀ x ∈ ps, Sib k x) → k ∈ ps → Q v' H'
def nDp : List Str := ["_law_s", "_law_part", "_law_earlier", "_law_name", "_law_words", "_law_word", "_law_good", "_law_many", "_law_at", "_law_parts", "_law_new", "_law_fields", "_law_k"]
theorem scDeeper : FnScope nDp ["_law_s", "_law_part", "_law_earlier", "_law_name"] (defScope sDeeper) := ⟨rfl, rfl, rfl, by decide +kernel, rfl, by decide +kernel, by decide +kernel⟩
theorem c_deeper (T : Tx K mg) : Cal P w K mg base 2 "_law_deeper" ["_law_s", "_law_part", "_law_earlier", "_law_name"] (spDeeper K) := by
  have CT : Cal P w K mg base 1 "_law_taken" ["_law_s", "_law_most"] (spTaken K) := c_taken T
  have CW : Cal P w K mg base 1 "_law_a_word" ["_law_s", "_law_k"] (spWord K) := c_a_word T
  refine T.deeper.ok scDeeper (fun vs H Q E h => ?_) (fun f cdv A outer s H vs Q E hr h => ?_)
  · obtain ⟨s, i, v, k, fe, nm, rfl, _⟩ := h
    rfl
  obtain ⟨s, i, v, k, fe, nm, rfl, S, dv, q⟩ := h
  have hu := hu_of hr
  refine ⟨_, pss_cons (ps_set (i := 4) scDeeper.nd rfl (Or.inl rfl) (pe_lst (pa_cons pe_str (pa_cons pe_str (pa_cons pe_str (pa_cons pe_str (pa_cons pe_str (pa_cons pe_str (pa_cons pe_str (pa_cons pe_str (pa_cons pe_str (pa_cons pe_str (pa_cons pe_str pa_nil)))))))))))))
    (pss_cons (ps_set (i := 5) scDeeper.nd rfl (Or.inl rfl) (pe_ix ix_list (pe_op op_cat (pv 4) (pe_lst (pa_cons pe_str (pa_cons pe_str (pa_cons pe_str (pa_cons pe_str (pa_cons pe_str (pa_cons pe_str (pa_cons pe_str pa_nil))))))))) (pe_cal CT hr (pa_cons (pv 0) (pa_cons pe_int pa_nil))) (fun _ _ => rfl)))
    (pss_cons (ps_set (i := 6) scDeeper.nd rfl (Or.inr rfl) (pe_tup (pa_cons pe_str (pa_cons (pe_cal CT hr (pa_cons (pv 0) (pa_cons pe_int pa_nil))) pa_nil))))
    (pss_cons (ps_set (i := 7) scDeeper.nd rfl (Or.inl rfl) (pe_dget2 hu (pe_disp (pps_cons pe_str pe_int (pps_cons pe_str pe_int (pps_cons pe_str pe_int (pps_cons pe_str pe_int (pps_cons pe_str pe_int (pps_cons pe_str pe_int (pps_cons pe_str pe_int (pps_cons pe_str pe_int pps_nil)))))))) (by rfl) (by rfl) (fun z => by cases z) (by decide)) (pv 5) pe_int ⟨rfl, rfl, rfl, rfl⟩))
    (pss_cons (ps_if (PW.pt (pw_or (pt_cmpR op_eq (pv 5) pe_str (nomark _)) (pw_or1 (pt_cmpR op_eq (pv 5) pe_str (nomark _)))))
      (pss_one (ps_set (i := 7) scDeeper.nd rfl (Or.inl rfl) pe_int)) pss_nil)
    (pss_cons (ps_set (i := 8) scDeeper.nd rfl (Or.inr rfl) (pe_cal CT hr (pa_cons (pv 0) (pa_cons (pv 7) pa_nil))))
    (pss_cons (ps_set (i := 9) scDeeper.nd rfl (Or.inr rfl) (pe_callTy call_tuple_of (by rfl) T.m_tuple (by decide +kernel) (pa_cons
        (pe_lc (own := [("_law_k", 12)]) (g := gName 12) (tt := tYes) rfl scDeeper.nd (pi_range1 rfl T.m_range (pa_cons (pv 7) pa_nil)) (blkOk_by (N := nDp) (sc := defScope sDeeper) (by decide +kernel))
          (fun _ _ _ _ _ => pg_name (i := 12) scDeeper.nd rfl (Or.inl rfl)) (fun _ _ _ _ _ => pts_nil)
          (fun _ _ _ _ _ => pe_ifExp (pt_cmpR op_eq (pv 12) (pv 8) (nomark _)) (pv 1) (pv 6))) pa_nil)))
    (pss_cons (ps_set (i := 10) scDeeper.nd rfl (Or.inl rfl) (pe_cal CW hr (pa_cons (pv 0) (pa_cons pe_int pa_nil))))
    (pss_cons (ps_if (PW.pt (pw_or (pt_cmpR op_eq (pv 5) pe_str (nomark _)) (pw_or1 (pt_cmpR op_eq (pv 5) pe_str (nomark _)))))
      (pss_one (ps_ret (pe_ifExp (pt_cmpR op_eq (pv 5) pe_str (nomark _)) (pe_tup (pa_cons (pv 5) (pa_cons (pv 9) pa_nil))) (pe_tup (pa_cons (pv 5) (pa_cons (pe_ix ix_tup (pv 9) pe_int (fun _ _ => rfl)) (pa_cons (pv 10) pa_nil))))))) pss_nil)
    (pss_cons (ps_if (pt_cmpR op_eq (pv 5) pe_str (nomark _))
      (pss_cons (ps_set (i := 11) scDeeper.nd rfl (Or.inr rfl) (pe_callB cr_sortedS (by rfl) T.m_sorted (by decide +kernel) (pa_cons
        (pe_lc (own := [("_law_k", 12)]) (g := gName 12) (tt := tYes) rfl scDeeper.nd (pi_range1 rfl T.m_range (pa_cons pe_int pa_nil)) (blkOk_by (N := nDp) (sc := defScope sDeeper) (by decide +kernel))
          (fun _ _ _ _ _ => pg_name (i := 12) scDeeper.nd rfl (Or.inl rfl)) (fun _ _ _ _ _ => pts_nil)
          (fun _ _ _ _ _ => pe_cal CW hr (pa_cons (pv 0) (pa_cons (pv 12) pa_nil)))) pa_nil)))
      (pss_one (ps_ret (pe_tup (pa_cons (pv 5) (pa_cons (pe_callTy call_tuple_of (by rfl) T.m_tuple (by decide +kernel) (pa_cons
        (pe_lc (own := [("_law_k", 12)]) (g := gName 12) (tt := tYes) rfl scDeeper.nd (pi_range1 rfl T.m_range (pa_cons pe_int pa_nil)) (blkOk_by (N := nDp) (sc := defScope sDeeper) (by decide +kernel))
          (fun _ _ _ _ _ => pg_name (i := 12) scDeeper.nd rfl (Or.inl rfl)) (fun _ _ _ _ _ => pts_nil)
          (fun _ _ _ _ _ => pe_tup (pa_cons (pe_ix (ix_listK K) (pv 11) (pv 12) (fun _ _ => rfl)) (pa_cons (pe_ix (ix_tupK K) (pv 9) (pv 12) (fun _ _ => rfl)) pa_nil)))) pa_nil)) pa_nil)))))) pss_nil)
    (pss_cons (ps_if (PW.pt (pw_or (pt_cmpR op_eq (pv 5) pe_str (nomark _)) (pw_or1 (pt_cmpR op_eq (pv 5) pe_str (nomark _)))))
      (pss_one (ps_ret (pe_op op_catW (pe_tup (pa_cons (pv 5) (pa_cons (pv 10) pa_nil))) (pv 9)))) pss_nil)
    (pss_cons (ps_if (pt_cmpR op_eq (pv 5) pe_str (nomark _))
      (pss_one (ps_ret (pe_tup (pa_cons (pv 5) (pa_cons (pv 10) (pa_cons (pe_ix ix_tup (pv 9) pe_int (fun _ _ => rfl)) (pa_cons (pe_cal CW hr (pa_cons (pv 0) (pa_cons pe_int pa_nil)))
        (pa_cons (pe_tup (pa_cons (pe_tup (pa_cons pe_str pa_nil)) pa_nil)) (pa_cons (pe_ix ix_tup (pv 9) pe_int (fun _ _ => rfl)) (pa_cons (pe_ix ix_tup (pv 9) pe_int (fun _ _ => rfl)) pa_nil)))))))))) pss_nil)
    (pss_cons (ps_if (PW.pt (pw_or (pt_cmpR op_eq (pv 5) pe_str (nomark _)) (pw_or1 (pt_cmpR op_eq (pv 5) pe_str (nomark _)))))
      (pss_one (ps_ret (pe_op op_catW (pe_tup (pa_cons (pv 5) (pa_cons (pv 3) (pa_cons (pe_ifExp (pt_cmpR op_eq (pv 5) pe_str (nomark _)) pe_str (pv 10)) pa_nil)))) (pv 9)))) pss_nil)
    (pss_one (ps_ret (pe_ifExp (pt_cmpR op_eq (pv 5) pe_str (nomark _)) (pe_tup (pa_cons pe_str (pa_cons (pv 2) (pa_cons (pe_tup pa_nil) (pa_cons (pv 9) pa_nil))))) (pe_op op_catW (pe_tup (pa_cons (pv 5) pa_nil)) (pv 9))))))))))))))))), ?_⟩
  refine ⟨(by show 11 ≤ sizeLine; decide), fun L hL => ?_⟩
  have e1 := same_new hL (.lst [V.str "row", .str "shape", .str "get", .str "size", .str "plus", .str "minus", .str "join", .str "push", .str "at", .str "put", .str "look"])
  have l1 : (upd H L (.lst [V.str "row", .str "shape", .str "get", .str "size", .str "plus", .str "minus", .str "join", .str "push", .str "at", .str "put", .str "look"])) L = some (.lst _) := upd_same
  have S1 := S.same e1
  have dv1 := (Same.keep e1).dt dv
  have x1 : Ext s H (upd H L (.lst [V.str "row", .str "shape", .str "get", .str "size", .str "plus", .str "minus", .str "join", .str "push", .str "at", .str "put", .str "look"])) := Ext.same e1
  generalize (upd H L (.lst [V.str "row", .str "shape", .str "get", .str "size", .str "plus", .str "minus", .str "join", .str "push", .str "at", .str "put", .str "look"])) = H1 at l1 S1 dv1 x1 ⊢
  clear e1 hL
  dsimp only [gName]
  refine ⟨_, rfl, (by show 7 ≤ sizeLine; decide), fun L2 hL2 => ⟨L, L2, _, _, rfl, rfl, (same_new hL2 _) _ _ l1, upd_same, (by show 11 + 7 ≤ sizeLine; decide), fun L3 hL3 => ?_⟩⟩
  have e2 := (same_new hL2 (.lst [V.str "let", .str "each", .str "if", .str "fold", .str "is", .str "has", .str "call"])).trans (same_new hL3 (.lst (W18.map V.str)))
  have l3 : SqL K (upd (upd H1 L2 (.lst [V.str "let", .str "each", .str "if", .str "fold", .str "is", .str "has", .str "call"])) L3 (.lst (W18.map V.str))) L3 (W18.map V.str) := SqL.of upd_same
  have S2 := S1.same e2
  have dv2 := (Same.keep e2).dt dv1
  have x2 := x1.trans (Ext.same (s := s) e2)
  show tCall (spTaken K) [] E0 (tCons (tVar 0) (tCons (tC (V.int 18)) tNil)) _ (upd (upd H1 L2 (.lst [V.str "let", .str "each", .str "if", .str "fold", .str "is", .str "has", .str "call"])) L3 (.lst (W18.map V.str))) _
  generalize (upd (upd H1 L2 (.lst [V.str "let", .str "each", .str "if", .str "fold", .str "is", .str "has", .str "call"])) L3 (.lst (W18.map V.str))) = H2 at l3 S2 dv2 x2 ⊢
  clear e2 hL2 hL3 l1 dv1 S1 x1
  refine ⟨_, rfl, s, i, 18, rfl, S2, by decide, by decide, fun r H3 r0 r18 x3 S3 => ?_⟩
  have lt : r.toNat < W18.length := by show r.toNat < 18; omega
  refine ⟨L3, _, r, .str W18[r.toNat], rfl, rfl, S2.seq x3 l3, at_of (j := r.toNat) (by omega) (by rw [List.getElem?_map, List.getElem?_eq_getElem lt]; rfl), ?_⟩
  have hz : W18[r.toNat] ∈ W18 := List.getElem_mem lt
  have dv3 := (S2.keep x3).dt dv2
  have x3' := x2.trans x3
  generalize W18[r.toNat] = z at hz ⊢
  clear S2 l3 dv2 x2 x3 lt r0 r18
  dsimp only [gName]
  -- the number beside it
  refine ⟨_, rfl, s, i, 9, rfl, S3, by decide, by decide, fun g H4 g0 g9 x4 S4 => ⟨(by show 2 ≤ sizeLine; decide), fun pg hpg => ?_⟩⟩
  have e4 := same_new hpg (.tup [.str "num", .int g])
  have dg : Dt K (upd H4 pg (.tup [.str "num", .int g])) (.ref pg) (numP g) := ((Dts.nil.cons (.int g)).cons (.str "num")).tup (SqT.of upd_same)
  have S5 := S4.same e4
  have dv5 := (Same.keep e4).dt ((S3.keep x4).dt dv3)
  have x5 := x3'.trans (x4.trans (Ext.same e4))
  generalize (upd H4 pg (.tup [.str "num", .int g])) = H5 at dg S5 dv5 x5 ⊢
  clear e4 hpg x4 S4 S3 dv3 x3'
  dsimp only [gName]
  -- how many
  refine fun D hD => ⟨upd_same, kvD, rfl, (by show 8 ≤ 15; decide), ?_⟩
  have mk : mergeK [] kvD = kvD := by kernel_rfl
  rw [mk]
  have g2 : Same H5 (upd (upd H5 D (.dK [])) D (.dK kvD)) := fun b o h => by rw [upd_ne (ne_of_none h hD), upd_ne (ne_of_none h hD)]; exact h
  have hd2 : (upd (upd H5 D (.dK [])) D (.dK kvD)) D = some (.dK kvD) := upd_same
  have S6 := S5.same g2
  have dv6 := (Same.keep g2).dt dv5
  have dg6 := (Same.keep g2).dt dg
  have x6 := x5.trans (Ext.same g2)
  generalize (upd (upd H5 D (.dK [])) D (.dK kvD)) = H6 at hd2 S6 dv6 dg6 x6 ⊢
  obtain ⟨w1, w2, w3⟩ := many_at51 z hz
  refine ⟨D, rfl, .inl ⟨_, .inl hd2⟩, _, rfl, _, DGet.k (k := Sum.inr z) hd2, ?_⟩
  rw [w1]
  clear w1 hd2 g2 S5 dv5 dg x5 hD
  dsimp only [gName]
  refine seq_with (fun R => R [some (.ref s), some v, some (.str fe), some (.str nm), some (.ref L), some (.str z), some (.ref pg), some (.int (many1 z : Int)), none, none, none, none, none] H6) ?_ (fun rest => ?_)
  rotate_left
  · by_cases c : z = "fold" ∨ z = "call"
    · refine w_orT rfl c ?_
      have e : V.int ((many1 z : Nat) : Int) = .int 3 := by rw [show many1 z = 3 from if_pos c]; rfl
      rw [e] at rest
      exact rest
    · refine w_orF rfl (fun e => c (.inl e)) (fun e => c (.inr e)) ?_
      have e : many1 z = many0 z := if_neg c
      rw [e] at rest
      exact rest
  refine ⟨_, rfl, _, rfl, s, i, _, rfl, S6, by omega, by omega, fun at_ H7 t0 t1 x7 S7 => ?_⟩
  have dv7 := (S6.keep x7).dt dv6
  have dg7 := (S6.keep x7).dt dg6
  have x7' := x6.trans x7
  clear S6 dv6 dg6 x6 x7
  dsimp only [gName]
  -- the parts
  refine ⟨_, rfl, _, rfl, by omega, by omega, fun F hF => ?_⟩
  have nfs : F ≠ s := S7.ne hF
  refine lc_range (lo := 0) (n := ((many1 z : Nat) : Int).toNat) (fun j H8 => Ext s H7 H8 ∧ IsS K H8 s i ∧ ∃ (us : List V) (ps : List PyData), H8 F = some (.lst us) ∧ Dts K H8 us ps ∧ ps.length = j ∧ (∀ x ∈ ps, Sib k x) ∧ (at_ < (j : Int) → k ∈ ps))
    ⟨Ext.new _ hF, S7.same (same_new hF _), [], [], upd_same, .nil, rfl, (fun x hx => by cases hx), fun q => by omega⟩ ?_ ?_
  · rintro j H8 hj ⟨x8, S8, us, ps, hf, dts, lp, sib, has⟩
    have j4 : j ≤ 3 := by omega
    have more : ∀ (v' : V) (x : PyData), Dt K H8 v' x → Sib k x → (at_ < ((j + 1 : Nat) : Int) → k = x ∨ at_ < (j : Int)) →
        ∃ acc, H8 F = some (.lst acc) ∧ acc.length < sizeLine ∧ Ext s H7 (upd H8 F (.lst (acc ++ [v']))) ∧ IsS K (upd H8 F (.lst (acc ++ [v']))) s i ∧ ∃ (us : List V) (ps : List PyData), (upd H8 F (.lst (acc ++ [v']))) F = some (.lst us) ∧ Dts K (upd H8 F (.lst (acc ++ [v']))) us ps ∧ ps.length = j + 1 ∧ (∀ x ∈ ps, Sib k x) ∧ (at_ < ((j + 1 : Nat) : Int) → k ∈ ps) := fun v' x d6 sx hx => by
      have x9 : Ext s H7 (upd H8 F (.lst (us ++ [v']))) := x8.over hF _
      have k9 : Keep K H8 (upd H8 F (.lst (us ++ [v']))) := Keep.upd hf trivial _
      refine ⟨us, hf, ?_, x9, S7.over S8 x9 nfs, us ++ [v'], ps ++ [x], upd_same, (k9.dts dts).snoc (k9.dt d6), by rw [List.length_append, lp]; rfl, fun y hy => ?_, fun q => ?_⟩
      · rw [dts.1, lp]
        exact small1000 (by omega)
      · rcases List.mem_append.mp hy with h | h
        · exact sib y h
        · rw [List.mem_singleton.mp h]; exact sx
      · rcases hx q with e | e
        · rw [e]; exact List.mem_append.mpr (.inr List.mem_cons_self)
        · exact List.mem_append.mpr (.inl (has e))
    refine ⟨rfl, _, rfl, _, rfl, rfl, _, rfl, ite2 (fun c => ?_) (fun c => ?_)⟩
    · exact ⟨_, rfl, more v k ((S7.keep x8).dt dv7) (.inr rfl) (fun _ => .inl rfl)⟩
    · have ej : ¬ at_ = (j : Int) := fun e => c (decide_eq_true (by rw [e, Int.zero_add]))
      exact ⟨_, rfl, more (.ref pg) (numP g) ((S7.keep x8).dt dg7) (.inl ⟨g, rfl, g0, g9⟩) (fun q => .inr (by omega))⟩
  rintro H8 ⟨x8, S8, us, ps, hf, dts, lp, sib, has⟩
  rw [Int.toNat_natCast] at lp has
  have kin : k ∈ ps := has t1
  refine ⟨F, us, rfl, .inl ⟨SqL.of hf, fun t ht => ?_⟩⟩
  have e9 := same_new ht (.tup us)
  have dts9 := (Same.keep e9).dts dts
  have ht9 : SqT K (upd H8 t (.tup us)) t us := SqT.of upd_same
  have S9 := S8.same e9
  have x9 := x7'.trans (x8.trans (Ext.same e9))
  generalize (upd H8 t (.tup us)) = H9 at e9 dts9 ht9 S9 x9 ⊢
  clear dts hf S8 x8 e9 x7' dv7 dg7 S7 nfs hF ht t0 t1 has
  dsimp only [gName]
  -- the new name
  refine ⟨_, rfl, s, i, 5, rfl, S9, by decide, fun Ha ea => ?_⟩
  obtain ⟨_, _, _, _, _, iok, _⟩ := id S9
  have wn := word_of iok (k := 5) (by decide)
  have hta := Same.tup ea ht9
  have dta := (Same.keep ea).dts dts9
  have Sa := S9.same ea
  have xa := x9.trans (Ext.same ea)
  generalize en : wordOf i 5 = n5 at wn
  clear S9 ht9 dts9 x9 ea
  dsimp only [gName]
  -- how it ends
  have fin : ∀ (a : Addr) (us' : List V) (ds : List PyData) (H' : Hp), Ext s Ha H' → IsS K H' s i → SqT K H' a us' → Dts K H' us' ds → Ly nm fe ps (.tuple ds) → Q (.ref a) H' := fun a us' ds H' e8 S8 h8 hd ly =>
    q _ _ ps H' (xa.trans e8) S8 (hd.tup h8) ly sib kin
  simp only [W18, List.mem_cons, List.not_mem_nil, or_false] at hz
  have lus : us.length ≤ 4 := by rw [dta.1, lp]; omega
  have l2 : ∀ (n : Nat), n ≤ 7 → n ≤ sizeLine := fun n h => sizeOk (by omega)
  have one : many1 z = 1 → ∃ a ua, ps = [a] ∧ us = [ua] ∧ Dt K Ha ua a := fun e => by
    obtain ⟨a, rfl⟩ := ln1 (lp.trans e)
    obtain ⟨ua, rfl⟩ := ln1 (dta.1.trans (by rfl))
    exact ⟨a, ua, rfl, rfl, dta.head⟩
  have two : many1 z = 2 → ∃ a b ua ub, ps = [a, b] ∧ us = [ua, ub] ∧ Dt K Ha ua a ∧ Dt K Ha ub b := fun e => by
    obtain ⟨a, b, rfl⟩ := ln2 (lp.trans e)
    obtain ⟨ua, ub, rfl⟩ := ln2 (dta.1.trans (by rfl))
    exact ⟨a, b, ua, ub, rfl, rfl, dta.head, dta.tail.head⟩
  have three : many1 z = 3 → ∃ a b c ua ub uc, ps = [a, b, c] ∧ us = [ua, ub, uc] ∧ Dt K Ha ua a ∧ Dt K Ha ub b ∧ Dt K Ha uc c := fun e => by
    obtain ⟨a, b, c, rfl⟩ := ln3 (lp.trans e)
    obtain ⟨ua, ub, uc, rfl⟩ := ln3 (dta.1.trans (by rfl))
    exact ⟨a, b, c, ua, ub, uc, rfl, rfl, dta.head, dta.tail.head, dta.tail.tail.head⟩
  have four : many1 z = 4 → ∃ a b c d ua ub uc ud, ps = [a, b, c, d] ∧ us = [ua, ub, uc, ud] ∧ Dt K Ha ua a ∧ Dt K Ha ub b ∧ Dt K Ha uc c ∧ Dt K Ha ud d := fun e => by
    obtain ⟨a, b, c, d, rfl⟩ := ln4 (lp.trans e)
    obtain ⟨ua, ub, uc, ud, rfl⟩ := ln4 (dta.1.trans (by rfl))
    exact ⟨a, b, c, d, ua, ub, uc, ud, rfl, rfl, dta.head, dta.tail.head, dta.tail.tail.head, dta.tail.tail.tail.head⟩
  have row : z = "row" → tRet (tIf (tTest (tOp rEq (tVar 5) (tC (.str "row")))) (tTup (tCons (tVar 5) (tCons (tVar 9) tNil))) (tTup (tCons (tVar 5) (tCons (tOp (rIxT K) (tVar 9) (tC (.int 0))) (tCons (tVar 10) tNil)))))
      { nx := fun _ H' => Q .non H', rt := Q } [some (.ref s), some v, some (.str fe), some (.str nm), some (.ref L), some (.str z), some (.ref pg), some (.int (many1 z : Int)), some (.int at_), some (.ref t), some (.str n5), none, none] Ha := fun ez => by
    subst ez
    obtain ⟨a, b, c, ua, ub, uc, rfl, rfl, da, db, dc⟩ := three (by decide +kernel)
    refine t_ifT rfl rfl ⟨_, rfl, _, rfl, l2 2 (by decide), fun a1 h1 => ?_⟩
    have g1 := same_new h1 (.tup [.str "row", .ref t])
    exact fin a1 _ _ _ (Ext.same g1) (Sa.same g1) (SqT.of upd_same) ((Dts.nil.cons (((Same.keep g1).dts dta).tup (Same.tup g1 hta))).cons (.str "row")) (.row a b c)
  have get : z = "get" → tRet (tIf (tTest (tOp rEq (tVar 5) (tC (.str "row")))) (tTup (tCons (tVar 5) (tCons (tVar 9) tNil))) (tTup (tCons (tVar 5) (tCons (tOp (rIxT K) (tVar 9) (tC (.int 0))) (tCons (tVar 10) tNil)))))
      { nx := fun _ H' => Q .non H', rt := Q } [some (.ref s), some v, some (.str fe), some (.str nm), some (.ref L), some (.str z), some (.ref pg), some (.int (many1 z : Int)), some (.int at_), some (.ref t), some (.str n5), none, none] Ha := fun ez => by
    subst ez
    obtain ⟨a, ua, rfl, rfl, da⟩ := one (by decide +kernel)
    refine t_ifF rfl (by decide +kernel) ⟨_, rfl, _, rfl, t, _, 0, ua, rfl, rfl, hta, rfl, _, rfl, l2 3 (by decide), fun a1 h1 => ?_⟩
    have g1 := same_new h1 (.tup [.str "get", ua, .str n5])
    exact fin a1 _ _ _ (Ext.same g1) (Sa.same g1) (SqT.of upd_same) (((Dts.nil.cons (.str n5)).cons ((Same.keep g1).dt da)).cons (.str "get")) (.get n5 a wn)
  have bnd : z = "let" ∨ z = "each" → tRet (tOp (rCatW K) (tTup (tCons (tVar 5) (tCons (tVar 10) tNil))) (tVar 9)) { nx := fun _ H' => Q .non H', rt := Q }
      [some (.ref s), some v, some (.str fe), some (.str nm), some (.ref L), some (.str z), some (.ref pg), some (.int (many1 z : Int)), some (.int at_), some (.ref t), some (.str n5), none, none] Ha := fun ez => by
    obtain ⟨a, b, ua, ub, rfl, rfl, da, db⟩ := two (by rcases ez with h | h <;> rw [h] <;> decide +kernel)
    refine ⟨_, rfl, _, rfl, l2 2 (by decide), fun a1 h1 => ⟨_, rfl, a1, t, [.str z, .str n5], [ua, ub], rfl, rfl, SqT.of upd_same, Same.tup (same_new h1 _) hta, l2 4 (by decide), fun p1 H8 e8 h8 => ?_⟩⟩
    have g := (same_new h1 (.tup [.str z, .str n5])).trans e8
    exact fin p1 _ _ _ (Ext.same g) (Sa.same g) h8 ((((Dts.nil.cons ((Same.keep g).dt db)).cons ((Same.keep g).dt da)).cons (.str n5)).cons (.str z)) (.bind z n5 a b ez wn)
  have ask : z = "is" ∨ z = "has" → tRet (tOp (rCatW K) (tTup (tCons (tVar 5) (tCons (tVar 3) (tCons (tIf (tTest (tOp rEq (tVar 5) (tC (.str "is")))) (tC (.str "row")) (tVar 10)) tNil)))) (tVar 9)) { nx := fun _ H' => Q .non H', rt := Q }
      [some (.ref s), some v, some (.str fe), some (.str nm), some (.ref L), some (.str z), some (.ref pg), some (.int (many1 z : Int)), some (.int at_), some (.ref t), some (.str n5), none, none] Ha := fun ez => by
    obtain ⟨a, b, ua, ub, rfl, rfl, da, db⟩ := two (by rcases ez with h | h <;> rw [h] <;> decide +kernel)
    have go : ∀ h : Str, (z = "is" ∧ h = "row" ∨ z = "has" ∧ Word h) → ∀ a1, Ha a1 = none → ∀ p1 H8, Same (upd Ha a1 (.tup [.str z, .str nm, .str h])) H8 → SqT K H8 p1 ([.str z, .str nm, .str h] ++ [ua, ub]) → Q (.ref p1) H8 := fun h hw a1 h1 p1 H8 e8 h8 => by
      have g := (same_new h1 (.tup [.str z, .str nm, .str h])).trans e8
      exact fin p1 _ _ _ (Ext.same g) (Sa.same g) h8 (((((Dts.nil.cons ((Same.keep g).dt db)).cons ((Same.keep g).dt da)).cons (.str h)).cons (.str nm)).cons (.str z)) (.ask z h a b hw)
    refine ⟨_, rfl, _, rfl, ?_⟩
    rcases ez with ez | ez
    · exact t_ifT rfl ez ⟨l2 3 (by decide), fun a1 h1 => ⟨_, rfl, a1, t, _, [ua, ub], rfl, rfl, SqT.of upd_same, Same.tup (same_new h1 _) hta, l2 5 (by decide), go _ (.inl ⟨ez, rfl⟩) a1 h1⟩⟩
    · exact t_ifF rfl (by rw [ez]; decide +kernel) ⟨_, rfl, l2 3 (by decide), fun a1 h1 => ⟨_, rfl, a1, t, _, [ua, ub], rfl, rfl, SqT.of upd_same, Same.tup (same_new h1 _) hta, l2 5 (by decide), go _ (.inr ⟨ez, wn⟩) a1 h1⟩⟩
  have fld : z = "fold" → tRet (tTup (tCons (tVar 5) (tCons (tVar 10) (tCons (tOp (rIxT K) (tVar 9) (tC (.int 0))) (tCons (tCall (spWord K) [] E0 (tCons (tVar 0) (tCons (tC (.int 6)) tNil))) (tCons (tTup (tCons (tTup (tCons (tC (.str "number")) tNil)) tNil))
      (tCons (tOp (rIxT K) (tVar 9) (tC (.int 1))) (tCons (tOp (rIxT K) (tVar 9) (tC (.int 2))) tNil)))))))) { nx := fun _ H' => Q .non H', rt := Q }
      [some (.ref s), some v, some (.str fe), some (.str nm), some (.ref L), some (.str z), some (.ref pg), some (.int (many1 z : Int)), some (.int at_), some (.ref t), some (.str n5), none, none] Ha := fun ez => by
    subst ez
    obtain ⟨a, b, c, ua, ub, uc, rfl, rfl, da, db, dc⟩ := three (by decide +kernel)
    refine ⟨_, rfl, _, rfl, _, rfl, t, _, 0, ua, rfl, rfl, hta, rfl, _, rfl, s, i, 6, rfl, Sa, by decide, fun Hb eb => ⟨l2 1 (by decide), fun a1 h1 => ⟨l2 1 (by decide), fun a2 h2 => ?_⟩⟩⟩
    have m1' := same_new h1 (.tup [.str "number"])
    have m2' := same_new h2 (.tup [.ref a1])
    have mm := eb.trans (m1'.trans m2')
    refine ⟨_, rfl, t, _, 1, ub, rfl, rfl, Same.tup mm hta, rfl, _, rfl, t, _, 2, uc, rfl, rfl, Same.tup mm hta, rfl, l2 7 (by decide), fun a3 h3 => ?_⟩
    have m3' := same_new h3 (.tup [.str "fold", .str n5, ua, .str (wordOf i 6), .ref a2, ub, uc])
    have g := mm.trans m3'
    have dn := (Same.keep m3').dt ((Dts.nil.cons ((Same.keep m2').dt ((Dts.nil.cons (.str "number")).tup (SqT.of (K := K) upd_same)))).tup (SqT.of upd_same))
    have kk := Same.keep (K := K) g
    refine fin a3 _ _ _ (Ext.same g) (Sa.same g) (SqT.of upd_same) (((((((Dts.nil.cons (kk.dt dc)).cons (kk.dt db)).cons dn).cons (.str (wordOf i 6))).cons (kk.dt da)).cons (.str n5)).cons (.str "fold")) (.fold n5 (wordOf i 6) a b c wn (word_of iok (by decide)) (fun e => ?_))
    rw [← en] at e
    exact absurd (word_inj iok (by decide) (by decide) (by decide) (by decide) e) (by decide)
  have cal : z = "call" → tRet (tIf (tTest (tOp rEq (tVar 5) (tC (.str "call")))) (tTup (tCons (tC (.str "call")) (tCons (tVar 2) (tCons (tTup tNil) (tCons (tVar 9) tNil))))) (tOp (rCatW K) (tTup (tCons (tVar 5) tNil)) (tVar 9))) { nx := fun _ H' => Q .non H', rt := Q }
      [some (.ref s), some v, some (.str fe), some (.str nm), some (.ref L), some (.str z), some (.ref pg), some (.int (many1 z : Int)), some (.int at_), some (.ref t), some (.str n5), none, none] Ha := fun ez => by
    subst ez
    obtain ⟨a, b, c, ua, ub, uc, rfl, rfl, da, db, dc⟩ := three (by decide +kernel)
    refine t_ifT rfl rfl ⟨_, rfl, l2 0 (by decide), fun a0 h0 => ⟨_, rfl, l2 4 (by decide), fun a1 h1 => ?_⟩⟩
    have g0' := same_new h0 (.tup [])
    have g1 := same_new h1 (.tup [.str "call", .str fe, .ref a0, .ref t])
    have g := g0'.trans g1
    exact fin a1 _ _ _ (Ext.same g) (Sa.same g) (SqT.of upd_same) ((((Dts.nil.cons (((Same.keep g).dts dta).tup (Same.tup g hta))).cons ((Same.keep g1).dt (Dts.nil.tup (SqT.of (K := K) upd_same)))).cons (.str fe)).cons (.str "call")) (.call a b c)
  have rest : z = "size" ∨ (z ∈ (["plus", "minus", "join", "push"] : List Str)) ∨ (z ∈ (["at", "put", "look"] : List Str)) ∨ z = "if" → tRet (tIf (tTest (tOp rEq (tVar 5) (tC (.str "call")))) (tTup (tCons (tC (.str "call")) (tCons (tVar 2) (tCons (tTup tNil) (tCons (tVar 9) tNil))))) (tOp (rCatW K) (tTup (tCons (tVar 5) tNil)) (tVar 9))) { nx := fun _ H' => Q .non H', rt := Q }
      [some (.ref s), some v, some (.str fe), some (.str nm), some (.ref L), some (.str z), some (.ref pg), some (.int (many1 z : Int)), some (.int at_), some (.ref t), some (.str n5), none, none] Ha := fun ez => by
    have nc : ¬ z = "call" := by
      rcases ez with h | h | h | h
      · rw [h]; decide +kernel
      · exact (by decide +kernel : ∀ z ∈ (["plus", "minus", "join", "push"] : List Str), ¬ z = "call") z h
      · exact (by decide +kernel : ∀ z ∈ (["at", "put", "look"] : List Str), ¬ z = "call") z h
      · rw [h]; decide +kernel
    refine t_ifF rfl nc ⟨_, rfl, l2 1 (by decide), fun a1 h1 => ⟨_, rfl, a1, t, [.str z], us, rfl, rfl, SqT.of upd_same, Same.tup (same_new h1 _) hta, l2 _ (by show 1 + us.length ≤ 7; omega), fun p1 H8 e8 h8 => ?_⟩⟩
    have g := (same_new h1 (.tup [.str z])).trans e8
    refine fin p1 _ _ _ (Ext.same g) (Sa.same g) h8 (((Same.keep g).dts dta).cons (.str z)) ?_
    rcases ez with h | h | h | h
    · obtain ⟨a, ua, rfl, rfl, da⟩ := one (by rw [h]; decide +kernel)
      rw [h]
      exact .size a
    · obtain ⟨a, b, ua, ub, rfl, rfl, _⟩ := two ((by decide +kernel : ∀ z ∈ (["plus", "minus", "join", "push"] : List Str), many1 z = 2) z h)
      exact .two z a b h
    · obtain ⟨a, b, c, ua, ub, uc, rfl, rfl, _⟩ := three ((by decide +kernel : ∀ z ∈ (["at", "put", "look"] : List Str), many1 z = 3) z h)
      exact .thr z a b c h
    · obtain ⟨a, b, c, d, ua, ub, uc, ud, rfl, rfl, _⟩ := four (by rw [h]; decide +kernel)
      rw [h]
      exact .iff a b c d
  by_cases c1 : z = "row" ∨ z = "get"
  · refine w_orT rfl c1 ?_
    rcases c1 with h | h
    · exact row h
    · exact get h
  refine w_orF rfl (fun h => c1 (.inl h)) (fun h => c1 (.inr h)) ?_
  by_cases c2 : z = "shape"
  · refine w_ifT rfl c2 ?_
    subst c2
    obtain ⟨a, b, c, ua, ub, uc, rfl, rfl, da, db, dc⟩ := three (by decide +kernel)
    clear one two three four row get bnd ask fld cal rest c1 hz lp sib kin
    refine ⟨_, rfl, by decide, by decide, fun D hD => ?_⟩
    have nds : D ≠ s := Sa.ne hD
    refine lc_range (lo := 0) (n := (3 : Int).toNat) (fun j H3 => Ext s Ha H3 ∧ IsS K H3 s i ∧ H3 D = some (.lst (((List.range j).map fun (t : Nat) => wordOf i (0 + (t : Int))).map V.str)))
      ⟨Ext.new _ hD, Sa.same (same_new hD _), upd_same⟩ ?_ ?_
    · rintro j H3 hj ⟨x3, S3, hd⟩
      have j3 : j < 3 := hj
      refine ⟨rfl, _, rfl, _, rfl, s, i, _, rfl, S3, by omega, fun H4 e4 => ⟨_, e4 _ _ hd, ?_, ?_⟩⟩
      · rw [List.length_map, List.length_map, List.length_range]
        exact small1000 (by omega)
      · have x5 : Ext s Ha (upd H4 D (.lst ((((List.range j).map fun (t : Nat) => wordOf i (0 + (t : Int))).map V.str) ++ [.str (wordOf i (0 + (j : Int)))]))) := (x3.trans (Ext.same e4)).over hD _
        refine ⟨x5, Sa.over (S3.same e4) x5 nds, ?_⟩
        rw [upd_same, List.range_succ, List.map_append, List.map_append]
        rfl
    rintro H3 ⟨x3, S3, hd⟩
    refine ⟨D, _, rfl, SqL.of hd, by rw [List.length_map, List.length_range]; decide, fun ys p pm so hp => ?_⟩
    have ly : ys.length = 3 := by rw [pm.length_eq, List.length_map, List.length_range]; rfl
    have nd : ys.Nodup := by
      refine pm.nodup_iff.mpr ?_
      unfold List.Nodup
      rw [List.pairwise_map]
      refine List.nodup_range.imp_of_mem fun {a b} ha hb ne e => ne ?_
      have a3 : a < 3 := List.mem_range.mp ha
      have b3 : b < 3 := List.mem_range.mp hb
      have := word_inj iok (by omega) (by omega) (by omega) (by omega) e
      omega
    have wy : ∀ y ∈ ys, Word y := fun y hy => by
      obtain ⟨t, _, rfl⟩ := List.mem_map.mp (pm.mem_iff.mp hy)
      exact word_of iok (by omega)
    have ay : ascB ys = true := by unfold ascB; rw [so, decide_eq_true nd]; rfl
    obtain ⟨y0, y1, y2, rfl⟩ := ln3 ly
    have v0 := wy y0 List.mem_cons_self
    have v1 := wy y1 (List.mem_cons_of_mem _ List.mem_cons_self)
    have v2 := wy y2 (List.mem_cons_of_mem _ (List.mem_cons_of_mem _ List.mem_cons_self))
    have asc : ∀ x y z : PyData, fldD (.tuple [.tuple [.str y0, x], .tuple [.str y1, y], .tuple [.str y2, z]]) = true := fun x y z => by
      show (!([PyData.tuple [.str y0, x], .tuple [.str y1, y], .tuple [.str y2, z]] : List PyData).isEmpty && [PyData.tuple [.str y0, x], .tuple [.str y1, y], .tuple [.str y2, z]].all pairD && ascB ([PyData.tuple [.str y0, x], .tuple [.str y1, y], .tuple [.str y2, z]].map nameD)) = true
      rw [show ([PyData.tuple [.str y0, x], .tuple [.str y1, y], .tuple [.str y2, z]].map nameD) = [y0, y1, y2] from rfl, ay]
      have p0 : ∀ (y : Str) (x : PyData), Word y → pairD (.tuple [.str y, x]) = true := fun y x _ => rfl
      simp [p0 _ _ v0, p0 _ _ v1, p0 _ _ v2]
    have e4 := same_new hp (.lst (([y0, y1, y2] : List Str).map V.str))
    have hp4 : (upd H3 p (.lst (([y0, y1, y2] : List Str).map V.str))) p = _ := upd_same
    have S4 := S3.same e4
    have x4 := x3.trans (Ext.same (s := s) e4)
    generalize (upd H3 p (.lst (([y0, y1, y2] : List Str).map V.str))) = H4 at e4 hp4 S4 x4 ⊢
    have ht4 := (Sa.keep x4) _ _ hta
    have dt4 := (Sa.keep x4).dts dta
    clear e4 S3 x3 hd nds hD pm so ly nd wy ay
    dsimp only [gName]
    refine ⟨_, rfl, _, rfl, by decide, by decide, fun F hF => ?_⟩
    have nfs : F ≠ s := S4.ne hF
    refine lc_range (lo := 0) (n := (3 : Int).toNat) (fun j H5 => Ext s H4 H5 ∧ IsS K H5 s i ∧ ∃ us2, H5 F = some (.lst us2) ∧ us2.length = j ∧ Dts K H5 us2 (([.tuple [.str y0, a], .tuple [.str y1, b], .tuple [.str y2, c]] : List PyData).take j))
      ⟨Ext.new _ hF, S4.same (same_new hF _), [], upd_same, rfl, .nil⟩ ?_ ?_
    · rintro j H5 hj ⟨x5, S5, us2, hf, lu, dts⟩
      have j3 : j < 3 := hj
      have hp5 : SqL K H5 p (([y0, y1, y2] : List Str).map V.str) := S4.seq x5 (SqL.of hp4)
      have ht5 := (S4.keep x5) _ _ ht4
      have dt5 := (S4.keep x5).dts dt4
      obtain ⟨yj, uj, dj, a1, a2, a3, a4⟩ : ∃ yj uj dj, (([y0, y1, y2] : List Str).map V.str)[j]? = some (.str yj) ∧ ([ua, ub, uc] : List V)[j]? = some uj ∧ Dt K H5 uj dj ∧ ([.tuple [.str y0, a], .tuple [.str y1, b], .tuple [.str y2, c]] : List PyData)[j]? = some (.tuple [.str yj, dj]) := by
        match j, j3 with
        | 0, _ => exact ⟨y0, ua, a, rfl, rfl, dt5.head, rfl⟩
        | 1, _ => exact ⟨y1, ub, b, rfl, rfl, dt5.tail.head, rfl⟩
        | 2, _ => exact ⟨y2, uc, c, rfl, rfl, dt5.tail.tail.head, rfl⟩
      refine ⟨rfl, _, rfl, _, rfl, p, _, _, .str yj, rfl, rfl, hp5, at_of (j := j) (by omega) a1, _, rfl, _, rfl, t, _, _, uj, rfl, rfl, ht5, at_of (j := j) (by omega) a2, (by show 2 ≤ sizeLine; decide), fun q1 hq1 => ?_⟩
      have e6 := same_new hq1 (.tup [.str yj, uj])
      have x7 : Ext s H4 (upd (upd H5 q1 (.tup [.str yj, uj])) F (.lst (us2 ++ [.ref q1]))) := (x5.trans (Ext.same e6)).over hF _
      have k7 : Keep K (upd H5 q1 (.tup [.str yj, uj])) (upd (upd H5 q1 (.tup [.str yj, uj])) F (.lst (us2 ++ [.ref q1]))) := Keep.upd (e6 _ _ hf) trivial _
      refine ⟨us2, e6 _ _ hf, small1000 (by omega), x7, S4.over (S5.same e6) x7 nfs, us2 ++ [.ref q1], upd_same, by rw [List.length_append, lu]; rfl, ?_⟩
      rw [List.take_add_one, a4]
      exact (k7.dts ((Same.keep e6).dts dts)).snoc (k7.dt (((Dts.nil.cons ((Same.keep e6).dt a3)).cons (.str yj)).tup (SqT.of upd_same)))
    rintro H5 ⟨x5, S5, us2, hf, lu, dts⟩
    refine ⟨F, us2, rfl, .inl ⟨SqL.of hf, fun t2 ht2 => ⟨l2 2 (by decide), fun t3 ht3 => ?_⟩⟩⟩
    have g1 := same_new ht2 (.tup us2)
    have g2 := same_new ht3 (.tup [.str "shape", .ref t2])
    have dd : Dt K (upd (upd H5 t2 (.tup us2)) t3 (.tup [.str "shape", .ref t2])) (.ref t2) (.tuple [.tuple [.str y0, a], .tuple [.str y1, b], .tuple [.str y2, c]]) := (Same.keep g2).dt (((Same.keep g1).dts dts).tup (SqT.of upd_same))
    have xx := x4.trans (x5.trans (Ext.same (g1.trans g2)))
    exact fin t3 _ _ _ xx (S5.same (g1.trans g2)) (SqT.of upd_same) ((Dts.nil.cons dd).cons (.str "shape")) (.shp y0 y1 y2 a b c v0 v1 v2 asc)
  refine w_ifF rfl c2 ?_
  by_cases c3 : z = "let" ∨ z = "each"
  · exact w_orT rfl c3 (bnd c3)
  refine w_orF rfl (fun h => c3 (.inl h)) (fun h => c3 (.inr h)) ?_
  by_cases c4 : z = "fold"
  · exact w_ifT rfl c4 (fld c4)
  refine w_ifF rfl c4 ?_
  by_cases c5 : z = "is" ∨ z = "has"
  · exact w_orT rfl c5 (ask c5)
  refine w_orF rfl (fun h => c5 (.inl h)) (fun h => c5 (.inr h)) ?_
  by_cases c6 : z = "call"
  · exact cal c6
  refine rest ?_
  rcases hz with h | h | h | h | h | h | h | h | h | h | h | h | h | h | h | h | h | h
  · exact absurd (.inl h) c1
  · exact absurd h c2
  · exact absurd (.inr h) c1
  · exact .inl h
  · exact .inr (.inl (by rw [h]; simp))
  · exact .inr (.inl (by rw [h]; simp))
  · exact .inr (.inl (by rw [h]; simp))
  · exact .inr (.inl (by rw [h]; simp))
  · exact .inr (.inr (.inl (by rw [h]; simp)))
  · exact .inr (.inr (.inl (by rw [h]; simp)))
  · exact .inr (.inr (.inl (by rw [h]; simp)))
  · exact absurd (.inl h) c3
  · exact absurd (.inr h) c3
  · exact .inr (.inr (.inr h))
  · exact absurd h c4
  · exact absurd (.inl h) c5
  · exact absurd (.inr h) c5
  · exact absurd h c6
end
end Sc
namespace Sc
open PySem PySem.Spec PyProof.Rows L2
/-- a def that may raise, called where it does not -/
theorem CalX.calm {P : Program} {w : World} {K : PySem.W.Frag} {mg : Str → Option Value} {base : Heap} {k : Nat} {x : Str} {ps : List Str} {sp : Sp} (C : CalX P w K mg base k x ps sp) : Cal P w K mg base k x ps (fun vs H Q _ => sp vs H Q fun _ _ _ => False) := by
  obtain ⟨f, fd, F, m, kp, b⟩ := C.ex
  refine ⟨f, fd, ⟨fun vs H Q E h => F.len vs H Q _ h, fun A outer s H args us vs Q E hr e0 hb r hsp => codeAny_mono (F.run A outer s H args us vs Q (fun _ _ _ => False) hr e0 hb r hsp) fun res s' h => ?_⟩, m, kp, b⟩
  cases res with
  | ok v => cases v <;> exact h
  | error e =>
    obtain ⟨_, _, _, _, _, _, _, _, _, _, _, _, z⟩ := h
    exact z.elim
end Sc
namespace Sc
open PySem PySem.Spec PyProof.Rows L2
/-! ### what is asked of the program, reckoned -/
inductive Lf (nm : Str) : Str → PyData → Bool → Prop
  | num (n : Int) : Lf nm "num" (.int n) (decide (n.natAbs < 10 ^ 30))
  | txt (t : Str) : Tex t → Lf nm "text" (.str t) true
  | nam : Lf nm "name" (.str nm) true
  | row : Lf nm "norow" numK true
  | book : Lf nm "nobook" numK true
theorem slot_text {rec : Env0 → PyData → Option Wr} {E : Env0} {d : PyData} : gSlot rec E ("text" : Str) d = gText d := slot_all.2.1
theorem lf_part {nm fe w : Str} {x : PyData} {b : Bool} (L : Lf nm w x b) : ∀ (r : Nat) (E : Env0), OkE nm fe E → gPart (r + 1) E (.tuple [.str w, x]) = whenB b .bp := by
  intro r E ok
  cases L with
  | num n =>
    rw [gPart_one (s := "whole") (by decide +kernel) (by decide +kernel) (by decide +kernel) (by decide +kernel), slot_whole]
    rfl
  | txt t ht =>
    rw [gPart_one (s := "text") (by decide +kernel) (by decide +kernel) (by decide +kernel) (by decide +kernel), slot_text]
    show whenB ((t.cps.toList.all fun c => decide (32 ≤ c) && decide (c ≤ 126)) && !(t.cps.toList.any fun c => c == 37)) .bp = whenB true .bp
    have e1 : (t.cps.toList.all fun c => decide (32 ≤ c) && decide (c ≤ 126)) = true := List.all_eq_true.mpr fun c m => by
      have := ht.2 c m
      rw [decide_eq_true this.1, decide_eq_true this.2.1]
      rfl
    have e2 : (t.cps.toList.any fun c => c == 37) = false := List.any_eq_false.mpr fun c m => by
      have := (ht.2 c m).2.2
      simp [this]
    rw [e1, e2]
    rfl
  | nam =>
    rw [gPart_one (s := "known") (by decide +kernel) (by decide +kernel) (by decide +kernel) (by decide +kernel)]
    exact sv_known (r := r) (fm := ["known"]) (ts := []) ok
  | row => exact (part_kind (.inl rfl)).trans (kind_num _)
  | book => exact (part_kind (.inr rfl)).trans (kind_num _)
theorem lf_ok {nm w : Str} {x : PyData} {b : Bool} (wn : Word nm) (L : Lf nm w x b) : OkN 4 (.tuple [.str w, x]) := by
  cases L with
  | num n => exact okN_two (n := 3) (okN_w (by decide +kernel)) (okN_int n _)
  | txt t ht =>
    refine okN_two (n := 3) (okN_w (by decide +kernel)) ⟨?_, ?_, by simp [PyData.depth]⟩
    · show t.cps.all (· < 0x110000) = true
      rw [← Array.all_toList, List.all_eq_true]
      intro c hc
      have := ht.2 c hc
      exact decide_eq_true (by omega)
    · show decide (t.length ≤ 1000) = true
      rw [len_list]
      have := ht.1
      exact decide_eq_true (by omega)
  | nam => exact okN_two (n := 3) (okN_w (by decide +kernel)) ((okN_word wn).mono (Nat.zero_le _))
  | row => exact okN_two (n := 3) (okN_w (by decide +kernel)) ((okN_numK 0).mono (by decide))
  | book => exact okN_two (n := 3) (okN_w (by decide +kernel)) ((okN_numK 0).mono (by decide))
def W23 : List Str := ["num", "text", "name", "row", "norow", "nobook", "shape", "get", "plus", "minus", "join", "size", "push", "at", "put", "look", "let", "each", "fold", "if", "is", "has", "call"]
theorem w23_form : ∀ z ∈ W23, (formTab.lookup z).isSome = true ∧ z.length ≤ 6 ∧ Word z := by decide +kernel
theorem form_w23 {z : Str} (h : formTab.lookup z = none) : ¬ z ∈ W23 := fun m => by
  have := (w23_form z m).1
  rw [h] at this
  cases this
/-- the drawn name of the second function -/
def Nm (i : Inf) (z : Str) : Prop := (z = wordOf i 20 ∨ z ∈ W23) ∨ (z.length = 9 ∧ OkN 0 (.str z))
def f51 (t : Str) (ps : List Str) (d : PyData) : PyData := .tuple [.str t, .tuple [], .tuple (ps.map pairD1), numK, d]
def good51 (m : Nat) (z : Str) (b : Bool) : Bool := decide (m ≤ 11) && (!decide (z ∈ W23) && decide (z.length ≤ 8)) && b
theorem ans51 {i : Inf} {nm : Str} {ps : List Str} {z lw : Str} {x d : PyData} {b : Bool} {m : Nat} (iok : i.Ok) (tk : i.talk = 0) (wp : ∀ x ∈ ps, Word x) (nd : ps.Nodup) (l3 : ps.length = 3) (hn : nm ∈ ps) (L : Lf nm lw x b) (N : Nx nm (wordOf i 21) (.tuple [.str lw, x]) m d) (hz : Nm i z) :
    gProg [] [f51 (wordOf i 21) ps (.tuple [.str "name", .str nm]), f51 z ps d] = if good51 m z b = true then none else some .bp := by
  have w21 := word_of iok (k := 21) (by decide)
  have fn : ∀ (fs : List (Str × Nat × Nat)) (t : Str) (d : PyData), Word t → formTab.lookup t = none → (¬ t ∈ fs.map (·.1)) → gFn fs (.str t) (.tuple []) (.tuple (ps.map pairD1)) numK d = gPart 12 ⟨[], fs, ps⟩ d := fun fs t d h0 h1 h2 => by
    rw [pairs_map]
    refine (gFn_of (prl := []) h0 h1 h2 (fun q m => by cases m) List.nodup_nil (fun q hq => ?_) (by rw [fst_map]; exact nd)).trans ?_
    · obtain ⟨l, hl, rfl⟩ := List.mem_map.mp hq
      exact wp l hl
    · rw [fst_map, nums_good]
      show firstBad [none, none, none, gPart 12 ⟨[], fs, ps⟩ d] = _
      cases gPart 12 ⟨[], fs, ps⟩ d <;> rfl
  have e1 := fn [] (wordOf i 21) (.tuple [.str "name", .str nm]) w21 (form_none tk 21) (fun z => by cases z)
  have e0 : gPart 12 ⟨[], [], ps⟩ (.tuple [.str "name", .str nm]) = none := by
    rw [gPart_one (s := "known") (by decide +kernel) (by decide +kernel) (by decide +kernel) (by decide +kernel), slot_known]
    show (if isWordD (.str nm) then whenB (decide (nm ∈ ps)) .nn else some .bp) = none
    rw [if_pos (show isWordD (.str nm) = true from decide_eq_true (wp nm hn)), decide_eq_true hn]
    rfl
  rw [e0] at e1
  have a1 : gProg [] [f51 (wordOf i 21) ps (.tuple [.str "name", .str nm]), f51 z ps d] = (match gFn [] (.str (wordOf i 21)) (.tuple []) (.tuple (ps.map pairD1)) numK (.tuple [.str "name", .str nm]) with
      | some b => some b
      | none => gProg ([] ++ [fnOf3 (f51 (wordOf i 21) ps (.tuple [.str "name", .str nm]))]) [f51 z ps d]) := rfl
  have a3 : fnOf3 (f51 (wordOf i 21) ps (.tuple [.str "name", .str nm])) = (wordOf i 21, 0, 3) := by
    show (wordOf i 21, ([] : List PyData).length, (ps.map pairD1).length) = _
    rw [List.length_map, l3]
    rfl
  rw [a1, e1]
  show gProg ([] ++ [fnOf3 (f51 (wordOf i 21) ps (.tuple [.str "name", .str nm]))]) [f51 z ps d] = _
  rw [a3]
  refine (prog_one _ _ _ _ _ _).trans ?_
  rcases hz with (hz | hz) | ⟨hz, _⟩
  · have nf := form_none tk 20
    have nw := form_w23 nf
    have w20 := word_of iok (k := 20) (by decide)
    rw [hz]
    have e2 := fn ([] ++ [(wordOf i 21, 0, 3)]) (wordOf i 20) d w20 nf (fun h => absurd (word_inj iok (by decide) (by decide) (by decide) (by decide) (List.mem_singleton.mp h)) (by decide))
    rw [e2, nx_part (fe := wordOf i 21) (lf_part L) N 12 _ ⟨wp nm hn, w21, hn, by show (match wordOf i 21 == wordOf i 21 with | true => some (0, 3) | false => none) = some (0, 3); rw [beq_self_eq_true]⟩]
    unfold good51
    rw [decide_eq_false nw, decide_eq_true (show (wordOf i 20).length ≤ 8 from by rw [len_list]; exact w20.2.1)]
    by_cases hm : m < 12
    · rw [if_pos hm, decide_eq_true (show m ≤ 11 by omega)]
      cases b <;> rfl
    · rw [if_neg hm, decide_eq_false (show ¬ m ≤ 11 by omega)]
      rfl
  · obtain ⟨w1, w2, w3⟩ := w23_form z hz
    have g1 : good51 m z b = false := by
      unfold good51
      rw [decide_eq_true hz]
      simp
    rw [g1, if_neg Bool.false_ne_true]
    unfold gFn
    rw [gWord_of w3]
    show (if (formTab.lookup z).isSome then some Wr.bp else _) = some .bp
    rw [if_pos w1]
  · have g1 : good51 m z b = false := by
      unfold good51
      rw [decide_eq_false (show ¬ z.length ≤ 8 by omega)]
      simp
    rw [g1, if_neg Bool.false_ne_true]
    have e : gWord (.str z) = some .bp := by
      unfold gWord whenB
      rw [show isWordD (.str z) = false from decide_eq_false fun h => by have := h.2.1; rw [← len_list] at this; omega]
      rfl
    unfold gFn
    rw [e]
end Sc
namespace Sc
open PySem PySem.Spec PyProof.Rows L2
/-! ### the law -/
section
variable {P : Program} {w : World} {K : PySem.W.Frag} {mg : Str → Option Value} {base : Heap}
def spLaw (K : PySem.W.Frag) (T0 : List Addr) : Sp := fun vs H Q _ => ∃ (a : Addr) (ns : List Int), vs = [.ref a] ∧ SqL K H a (ns.map V.int) ∧ ns.length ≤ 63 ∧ Tb T0 H ∧ ∀ H', Q (.bl true) H'
def nLw : List Str := ["_law_script", "_law_s", "_law_number", "_law_k", "_law_params", "_law_earlier", "_law_most", "_law_leaves", "_law_leaf", "_law_part", "_law_many", "_law_words", "_law_names", "_law_name", "_law_function", "_law_good", "_law_found"]
theorem scLaw : FnScope nLw ["_law_script"] (defScope sLaw) := ⟨rfl, rfl, rfl, by decide +kernel, rfl, by decide +kernel, by decide +kernel⟩
structure B51 (K : PySem.W.Frag) (T0 : List Addr) (s : Addr) (i : Inf) (pn pt : Addr) (ps : List Str) (H : Hp) : Prop where
  S : IsS K H s i
  tb : Tb T0 H
  dn : Dt K H (.ref pn) numK
  dp : Dt K H (.ref pt) (.tuple (ps.map pairD1))
theorem B51.ext {T0 : List Addr} {s pn pt : Addr} {i : Inf} {ps : List Str} {H H' : Hp} (b : B51 K T0 s i pn pt ps H) (x : Ext s H H') (S' : IsS K H' s i) : B51 K T0 s i pn pt ps H' := ⟨S', b.tb.ext b.S x, (b.S.keep x).dt b.dn, (b.S.keep x).dt b.dp⟩
theorem B51.same {T0 : List Addr} {s pn pt : Addr} {i : Inf} {ps : List Str} {H H' : Hp} (b : B51 K T0 s i pn pt ps H) (e : Same H H') : B51 K T0 s i pn pt ps H' := b.ext (Ext.same e) (b.S.same e)
theorem B51.p00 {T0 : List Addr} {s pn pt : Addr} {i : Inf} {ps pr : List Str} {nm : Str} {H : Hp} (b : B51 K T0 s i pn pt ps H) (e : ps = nm :: pr) : ∃ vs a us, SqT K H pt vs ∧ vs[0]? = some (.ref a) ∧ SqT K H a us ∧ us[0]? = some (.str nm) := by
  obtain ⟨p, vs, h1, h2, h3⟩ := b.dp.open
  cases h1
  rw [e] at h3
  obtain ⟨v, vr, rfl, h4, _⟩ := h3.uncons
  obtain ⟨a, us, rfl, h5, h6⟩ := h4.open
  obtain ⟨u, ur, rfl, h7, _⟩ := h6.uncons
  cases h7
  exact ⟨_, a, _, h2, rfl, h5, rfl⟩
structure C51 (K : PySem.W.Frag) (T0 : List Addr) (s : Addr) (i : Inf) (pn pt : Addr) (ps : List Str) (ea : Addr) (nm : Str) (H : Hp) : Prop where
  b : B51 K T0 s i pn pt ps H
  de : Dt K H (.ref ea) (f51 (wordOf i 21) ps (.tuple [.str "name", .str nm]))
theorem C51.ext {T0 : List Addr} {s pn pt ea : Addr} {i : Inf} {ps : List Str} {nm : Str} {H H' : Hp} (c : C51 K T0 s i pn pt ps ea nm H) (x : Ext s H H') (S' : IsS K H' s i) : C51 K T0 s i pn pt ps ea nm H' := ⟨c.b.ext x S', (c.b.S.keep x).dt c.de⟩
theorem C51.same {T0 : List Addr} {s pn pt ea : Addr} {i : Inf} {ps : List Str} {nm : Str} {H H' : Hp} (c : C51 K T0 s i pn pt ps ea nm H) (e : Same H H') : C51 K T0 s i pn pt ps ea nm H' := c.ext (Ext.same e) (c.b.S.same e)
theorem C51.e0 {T0 : List Addr} {s pn pt ea : Addr} {i : Inf} {ps : List Str} {nm : Str} {H : Hp} (c : C51 K T0 s i pn pt ps ea nm H) : ∃ vs, SqT K H ea vs ∧ vs[0]? = some (.str (wordOf i 21)) := by
  obtain ⟨p, vs, h1, h2, h3⟩ := c.de.open
  cases h1
  obtain ⟨v, vr, rfl, h4, _⟩ := h3.uncons
  cases h4
  exact ⟨_, h2, rfl⟩
theorem abc8_at : ∀ n : Nat, n < 8 → ("abcdefgh" : Str).cps[n]? = some (97 + n) := by decide +kernel
theorem andV_pure {ta tb : TE} {σ : L2.St} {H : Hp} {Q : VK} (c1 c2 : Bool) (h1 : ∀ R : VK, R (.bl c1) H → ta σ H R) (h2 : c1 = true → ∀ R : VK, R (.bl c2) H → tb σ H R) (q : Q (.bl (c1 && c2)) H) : tAndV ta tb σ H Q := by
  refine h1 _ ⟨c1, rfl, ?_⟩
  cases c1 with
  | true => exact iteT (h2 rfl _ q)
  | false => exact iteF q
theorem orV_pure {ta tb : TE} {σ : L2.St} {H : Hp} {Q : VK} (c1 c2 : Bool) (h1 : ∀ R : VK, R (.bl c1) H → ta σ H R) (h2 : c1 = false → ∀ R : VK, R (.bl c2) H → tb σ H R) (q : Q (.bl (c1 || c2)) H) : tOrV ta tb σ H Q := by
  refine h1 _ ⟨c1, rfl, ?_⟩
  cases c1 with
  | true => exact iteT q
  | false => exact iteF (h2 rfl _ q)
theorem lf_num {nm lw : Str} {lx : PyData} {lb : Bool} (L : Lf nm lw lx lb) : (lw = "num" → ∃ n : Int, lx = .int n ∧ lb = decide (n.natAbs < 10 ^ 30)) ∧ (lw ≠ "num" → lb = true) := by
  cases L with
  | num n => exact ⟨fun _ => ⟨n, rfl, rfl⟩, fun h => absurd rfl h⟩
  | txt _ _ => exact ⟨fun h => absurd h (by decide +kernel), fun _ => rfl⟩
  | nam => exact ⟨fun h => absurd h (by decide +kernel), fun _ => rfl⟩
  | row => exact ⟨fun h => absurd h (by decide +kernel), fun _ => rfl⟩
  | book => exact ⟨fun h => absurd h (by decide +kernel), fun _ => rfl⟩
theorem ok_law {T0 : List Addr} {cls : Wr → Addr} {f : Addr} {fd : FuncData} (F : Fun K "law" "law" sLaw f fd) (T : Tx K mg)
    (CRF : Cal P w K mg base 87 "_law_refusal" ["_law_program"] (spRefP K T0 txT)) (CP : CalX P w K mg base 86 "need_program" ["program"] (spProg K T0 cls txT)) : FnOk P w K mg base CX0 88 f fd ["_law_script"] (spLaw K T0) := by
  have CG : Cal P w K mg base 2 "_law_begin" ["_law_script"] (spBegun K) := c_begin T
  have CT : Cal P w K mg base 1 "_law_taken" ["_law_s", "_law_most"] (spTaken K) := c_taken T
  have CW : Cal P w K mg base 1 "_law_a_word" ["_law_s", "_law_k"] (spWord K) := c_a_word T
  have CX : Cal P w K mg base 2 "_law_a_text" ["_law_s"] (spText K) := c_text T
  have CD : Cal P w K mg base 2 "_law_deeper" ["_law_s", "_law_part", "_law_earlier", "_law_name"] (spDeeper K) := c_deeper T
  have CN := CP.calm
  refine F.ok scLaw (fun vs H Q E h => ?_) (fun cdv A outer s0 H vs Q E hr h => ?_)
  · obtain ⟨a, ns, rfl, _⟩ := h
    rfl
  obtain ⟨a, ns, rfl, ha, hl, tb, q⟩ := h
  have hu := hu_of hr
  have r1 : Room 1 _ := hr.mono (by decide)
  have r2 : Room 2 _ := hr.mono (by decide)
  have r86 : Room 86 _ := hr.mono (by decide)
  refine ⟨_, pss_cons (ps_set (i := 1) scLaw.nd rfl (Or.inr rfl) (pe_cal CG r2 (pa_cons (pv 0) pa_nil)))
    (pss_cons (ps_dput hu (pv 1) pe_str pe_int rfl)
    (pss_cons (ps_set (i := 2) scLaw.nd rfl (Or.inr rfl) (pe_tup (pa_cons (pe_tup (pa_cons pe_str pa_nil)) pa_nil)))
    (pss_cons (ps_set (i := 4) scLaw.nd rfl (Or.inl rfl) (pe_callTy call_tuple_of (by rfl) T.m_tuple (by decide +kernel) (pa_cons
        (pe_lc (own := [("_law_k", 3)]) (g := gName 3) (tt := tYes) rfl scLaw.nd (pi_range1 rfl T.m_range (pa_cons pe_int pa_nil)) (blkOk_by (N := nLw) (sc := defScope sLaw) (by decide +kernel))
          (fun _ _ _ _ _ => pg_name (i := 3) scLaw.nd rfl (Or.inl rfl)) (fun _ _ _ _ _ => pts_nil)
          (fun _ _ _ _ _ => pe_tup (pa_cons (pe_cal CW r1 (pa_cons (pv 1) (pa_cons (pe_op op_add pe_int (pv 3)) pa_nil))) (pa_cons (pv 2) pa_nil)))) pa_nil)))
    (pss_cons (ps_set (i := 5) scLaw.nd rfl (Or.inl rfl) (pe_tup (pa_cons (pe_cal CW r1 (pa_cons (pv 1) (pa_cons pe_int pa_nil))) (pa_cons (pe_tup pa_nil) (pa_cons (pv 4) (pa_cons (pv 2) (pa_cons (pe_tup (pa_cons pe_str (pa_cons (pe_ix ix_tup (pe_ix ix_tup (pv 4) pe_int (fun _ _ => rfl)) pe_int (fun _ _ => rfl)) pa_nil))) pa_nil)))))))
    (pss_cons (ps_set (i := 6) scLaw.nd rfl (Or.inl rfl) (pe_op op_pow pe_int pe_int))
    (pss_cons (ps_set (i := 7) scLaw.nd rfl (Or.inl rfl) (pe_lst (pa_cons (pe_tup (pa_cons pe_str (pa_cons (pe_ix ix_list (pe_lst (pa_cons (pv 6) (pa_cons (pe_op op_sub (pv 6) pe_int) (pa_cons (pe_op op_sub pe_int (pv 6)) (pa_cons (pe_op op_sub pe_int (pv 6)) pa_nil))))) (pe_cal CT r1 (pa_cons (pv 1) (pa_cons pe_int pa_nil))) (fun _ _ => rfl)) pa_nil))) pa_nil)))
    (pss_cons (ps_set (i := 7) scLaw.nd rfl (Or.inl rfl) (pe_op op_cat (pv 7) (pe_lst (pa_cons (pe_tup (pa_cons pe_str (pa_cons (pe_cal CX r2 (pa_cons (pv 1) pa_nil)) pa_nil))) (pa_cons (pe_tup (pa_cons pe_str (pa_cons (pe_ix ix_tup (pe_ix ix_tup (pv 4) pe_int (fun _ _ => rfl)) pe_int (fun _ _ => rfl)) pa_nil)))
        (pa_cons (pe_tup (pa_cons pe_str (pa_cons (pv 2) pa_nil))) (pa_cons (pe_tup (pa_cons pe_str (pa_cons (pv 2) pa_nil))) pa_nil)))))))
    (pss_cons (ps_set (i := 8) scLaw.nd rfl (Or.inl rfl) (pe_ix ix_list (pv 7) (pe_ix ix_list (pe_lst (pa_cons pe_int (pa_cons (pe_op op_add pe_int (pe_cal CT r1 (pa_cons (pv 1) (pa_cons pe_int pa_nil)))) pa_nil))) (pe_cal CT r1 (pa_cons (pv 1) (pa_cons pe_int pa_nil))) (fun _ _ => rfl)) (fun _ _ => rfl)))
    (pss_cons (ps_set (i := 9) scLaw.nd rfl (Or.inl rfl) (pv 8))
    (pss_cons (ps_set (i := 10) scLaw.nd rfl (Or.inl rfl) (pe_ix ix_list (pe_lst (pa_cons pe_int (pa_cons pe_int (pa_cons pe_int (pa_cons (pe_cal CT r1 (pa_cons (pv 1) (pa_cons pe_int pa_nil))) pa_nil))))) (pe_cal CT r1 (pa_cons (pv 1) (pa_cons pe_int pa_nil))) (fun _ _ => rfl)))
    (pss_cons (ps_for PassesOwn.never rfl (pi_range1 rfl T.m_range (pa_cons (pv 10) pa_nil)) (pg_name (i := 3) scLaw.nd rfl (Or.inl rfl))
      (pss_one (ps_set (i := 9) scLaw.nd rfl (Or.inl rfl) (pe_cal CD r2 (pa_cons (pv 1) (pa_cons (pv 9) (pa_cons (pe_ix ix_tup (pv 5) pe_int (fun _ _ => rfl)) (pa_cons (pe_ix ix_tup (pe_ix ix_tup (pv 4) pe_int (fun _ _ => rfl)) pe_int (fun _ _ => rfl)) pa_nil))))))))
    (pss_cons (ps_set (i := 11) scLaw.nd rfl (Or.inl rfl) (pe_lst (pa_cons pe_str (pa_cons pe_str (pa_cons pe_str (pa_cons pe_str (pa_cons pe_str (pa_cons pe_str (pa_cons pe_str (pa_cons pe_str (pa_cons pe_str (pa_cons pe_str (pa_cons pe_str pa_nil)))))))))))))
    (pss_cons (ps_set (i := 11) scLaw.nd rfl (Or.inl rfl) (pe_op op_cat (pv 11) (pe_lst (pa_cons pe_str (pa_cons pe_str (pa_cons pe_str (pa_cons pe_str (pa_cons pe_str (pa_cons pe_str (pa_cons pe_str (pa_cons pe_str (pa_cons pe_str (pa_cons pe_str (pa_cons pe_str (pa_cons pe_str pa_nil)))))))))))))))
    (pss_cons (ps_set (i := 12) scLaw.nd rfl (Or.inl rfl) (pe_lst (pa_cons (pe_cal CW r1 (pa_cons (pv 1) (pa_cons pe_int pa_nil))) (pa_cons (pe_cal CW r1 (pa_cons (pv 1) (pa_cons pe_int pa_nil))) (pa_cons (pe_cal CW r1 (pa_cons (pv 1) (pa_cons pe_int pa_nil)))
        (pa_cons (pe_ix ix_list (pv 11) (pe_cal CT r1 (pa_cons (pv 1) (pa_cons pe_int pa_nil))) (fun _ _ => rfl)) pa_nil))))))
    (pss_cons (ps_set (i := 13) scLaw.nd rfl (Or.inl rfl) (pe_ix ix_list (pv 12) (pe_cal CT r1 (pa_cons (pv 1) (pa_cons pe_int pa_nil))) (fun _ _ => rfl)))
    (pss_cons (ps_if (pt_cmpR op_eq (pe_cal CT r1 (pa_cons (pv 1) (pa_cons pe_int pa_nil))) pe_int (nomark _))
      (pss_one (ps_set (i := 13) scLaw.nd rfl (Or.inl rfl) (pe_op op_add_str (pe_op op_reps pe_str pe_int) (pe_item_str pe_str (pe_cal CT r1 (pa_cons (pv 1) (pa_cons pe_int pa_nil))) (fun _ _ => rfl))))) pss_nil)
    (pss_cons (ps_set (i := 14) scLaw.nd rfl (Or.inl rfl) (pe_tup (pa_cons (pv 13) (pa_cons (pe_tup pa_nil) (pa_cons (pv 4) (pa_cons (pv 2) (pa_cons (pv 9) pa_nil)))))))
    (pss_cons (ps_set (i := 15) scLaw.nd rfl (Or.inl rfl) (pe_and (pe_cmpR op_le (pv 10) pe_int (nomark _)) (pe_and (pe_cmpR op_notIn_seq (pv 13) (pv 11) (by rfl)) (pe_one (pe_cmpR op_le (pe_callB call_len_str (by rfl) T.m_len PySem.boot_len (pa_cons (pv 13) pa_nil)) pe_int (nomark _))))))
    (pss_cons (ps_set (i := 15) scLaw.nd rfl (Or.inl rfl) (pe_and (pv 15) (pe_one (pe_or (pe_cmpR op_ne (pe_ix ix_tup (pv 8) pe_int (fun _ _ => rfl)) pe_str (nomark _)) (pe_one (pe_cmpR op_lt (pe_callB call_abs (by rfl) T.m_abs (by decide +kernel) (pa_cons (pe_ix ix_tup (pv 8) pe_int (fun _ _ => rfl)) pa_nil)) (pv 6) (nomark _)))))))
    (pss_cons (ps_if (pt_not (pt_val (pv 15)))
      (pss_one (ps_ret (pe_cmpR op_eq (pe_cal CRF hr (pa_cons (pe_lst (pa_cons (pv 5) (pa_cons (pv 14) pa_nil))) pa_nil)) pe_str (nomark _)))) pss_nil)
    (pss_cons (ps_set (i := 16) scLaw.nd rfl (Or.inl rfl) (pe_cal CN r86 (pa_cons (pe_lst (pa_cons (pv 5) (pa_cons (pv 14) pa_nil))) pa_nil)))
    (pss_one (ps_ret (pe_and (pe_callB call_isi (by rfl) T.m_isinstance boot_isinstance (pa_cons (pv 16) (pa_cons (pe_bltn (v := .ty "dict") (by rfl) T.m_dict boot_dict rfl) pa_nil)))
      (pe_and (pe_cmpR (op_eqD hr.units) (pe_callTy (call_listD rfl) (by rfl) T.m_list (by decide +kernel) (pa_cons (pv 16) pa_nil)) (pe_lst (pa_cons (pe_ix ix_tup (pv 5) pe_int (fun _ _ => rfl)) (pa_cons (pv 13) pa_nil))) (nomark _))
      (pe_one (pe_cmpR (op_eqD hr.units) (pe_dget hu (pv 16) (pv 13) (fun _ _ => rfl)) (pv 14) (nomark _)))))))))))))))))))))))))))), ?_⟩
  refine ⟨_, rfl, a, ns, rfl, ha, hl, fun s i0 H1 e1 hs ic io hf0 hf1 S1 => ?_⟩
  have tb1 := (Fr.same tb e1).tab
  dsimp only [gName]
  obtain ⟨ns1, mv, hs1, hc1, hl1, iok0, mok⟩ := id S1
  refine ⟨_, rfl, s, _, rfl, pS hs1 (p_talk i0 mv 0), ?_⟩
  have tk : ({ i0 with talk := 0 } : Inf).talk = 0 := rfl
  have iok : ({ i0 with talk := 0 } : Inf).Ok := { iok0 with k0 := by show (0 : Int) ≤ 0; decide, k1 := by show (0 : Int) ≤ 1; decide }
  have x2 := Ext.upd s H1 (.dK (stD { i0 with talk := 0 } mv))
  have S2 : IsS K (upd H1 s (.dK (stD { i0 with talk := 0 } mv))) s { i0 with talk := 0 } := ⟨ns1, mv, upd_same, x2.seq hs1 hc1, hl1, iok, mok⟩
  have tb2 := tb1.ext S1 x2
  generalize (upd H1 s (.dK (stD { i0 with talk := 0 } mv))) = H2 at x2 S2 tb2 ⊢
  generalize ({ i0 with talk := 0 } : Inf) = i at tk iok S2
  clear x2 hs1 hc1 hl1 mok S1 tb1 iok0 hs ic io hf0 hf1 e1 tb
  -- number
  refine ⟨(by show 1 ≤ sizeLine; decide), fun p1 h1 => ⟨(by show 1 ≤ sizeLine; decide), fun pn h2 => ?_⟩⟩
  have g1 := same_new h1 (.tup [.str "number"])
  have g2 := same_new h2 (.tup [.ref p1])
  have dn2 : Dt K (upd (upd H2 p1 (.tup [.str "number"])) pn (.tup [.ref p1])) (.ref pn) numK := (Dts.nil.cons ((Same.keep g2).dt ((Dts.nil.cons (.str "number")).tup (SqT.of upd_same)))).tup (SqT.of upd_same)
  have S3 := S2.same (g1.trans g2)
  have tb3 := (Fr.same tb2 (g1.trans g2)).tab
  generalize (upd (upd H2 p1 (.tup [.str "number"])) pn (.tup [.ref p1])) = H3 at dn2 S3 tb3 ⊢
  clear g1 g2 h1 h2 S2 tb2
  dsimp only [gName]
  -- the params
  refine ⟨_, rfl, by decide, by decide, fun F hF => ?_⟩
  have nfs : F ≠ s := S3.ne hF
  refine lc_range (lo := 0) (n := (3 : Int).toNat) (fun j H4 => Ext s H3 H4 ∧ IsS K H4 s i ∧ ∃ us : List V, H4 F = some (.lst us) ∧ Dts K H4 us (((List.range j).map fun (t : Nat) => wordOf i (10 + (0 + (t : Int)))).map pairD1))
    ⟨Ext.new _ hF, S3.same (same_new hF _), [], upd_same, .nil⟩ ?_ ?_
  · rintro j H4 hj ⟨x4, S4, us, hf, dts⟩
    have j3 : j < 3 := hj
    refine ⟨rfl, _, rfl, _, rfl, _, _, rfl, rfl, s, i, _, rfl, S4, by omega, fun H5 e5 => ⟨_, rfl, (by show 2 ≤ sizeLine; decide), fun t ht => ?_⟩⟩
    have k6 := same_new ht (.tup [.str (wordOf i (10 + (0 + (j : Int)))), .ref pn])
    have hf6 := (e5.trans k6) _ _ hf
    have x7 : Ext s H3 (upd (upd H5 t (.tup [.str (wordOf i (10 + (0 + (j : Int)))), .ref pn])) F (.lst (us ++ [.ref t]))) := (x4.trans (Ext.same (e5.trans k6))).over hF _
    have k7 : Keep K (upd H5 t (.tup [.str (wordOf i (10 + (0 + (j : Int)))), .ref pn])) (upd (upd H5 t (.tup [.str (wordOf i (10 + (0 + (j : Int)))), .ref pn])) F (.lst (us ++ [.ref t]))) := Keep.upd hf6 trivial _
    refine ⟨us, hf6, ?_, x7, S3.over (S4.same (e5.trans k6)) x7 nfs, us ++ [.ref t], upd_same, ?_⟩
    · rw [dts.1, List.length_map, List.length_map, List.length_range]
      exact small1000 (by omega)
    · rw [List.range_succ, List.map_append, List.map_append]
      refine (k7.dts ((Same.keep (e5.trans k6)).dts dts)).snoc (k7.dt ?_)
      exact ((Dts.nil.cons ((Same.keep k6).dt ((Same.keep e5).dt ((S3.keep x4).dt dn2)))).cons (.str _)).tup (SqT.of upd_same)
  rintro H4 ⟨x4, S4, us, hf, dts⟩
  obtain ⟨ps, eps⟩ : ∃ ps, ps = (List.range (3 : Int).toNat).map fun (t : Nat) => wordOf i (10 + (0 + (t : Int))) := ⟨_, rfl⟩
  rw [← eps] at dts
  have lps : ps.length = 3 := by rw [eps, List.length_map, List.length_range]; rfl
  have wps : ∀ x ∈ ps, Word x := fun x hx => by
    rw [eps] at hx
    obtain ⟨t, _, rfl⟩ := List.mem_map.mp hx
    exact word_of iok (by omega)
  have nps : ps.Nodup := by
    rw [eps]
    unfold List.Nodup
    rw [List.pairwise_map]
    refine List.nodup_range.imp_of_mem fun {x y} hx hy ne e => ne ?_
    have x3 : x < 3 := List.mem_range.mp hx
    have y3 : y < 3 := List.mem_range.mp hy
    have := word_inj iok (by omega) (by omega) (by omega) (by omega) e
    omega
  obtain ⟨nm, pr2, ep⟩ : ∃ nm pr, ps = nm :: pr := by
    match ps, lps with
    | x :: xs, _ => exact ⟨x, xs, rfl⟩
  have hnm : nm ∈ ps := by rw [ep]; exact List.mem_cons_self
  refine ⟨F, us, rfl, .inl ⟨SqL.of hf, fun pt hpt => ?_⟩⟩
  have k5 := same_new hpt (.tup us)
  have b5 : B51 K T0 s i pn pt ps (upd H4 pt (.tup us)) := ⟨S4.same k5, (Fr.same (tb3.ext S3 x4) k5).tab, (Same.keep k5).dt ((S3.keep x4).dt dn2), ((Same.keep k5).dts dts).tup (SqT.of upd_same)⟩
  generalize (upd H4 pt (.tup us)) = H5 at b5 ⊢
  clear S3 tb3 dn2 hF nfs x4 S4 hf dts k5 hpt eps us
  dsimp only [gName]
  -- the earlier function
  refine ⟨_, rfl, s, i, 21, rfl, b5.S, by decide, fun H6 e6 => ⟨(by show 0 ≤ sizeLine; decide), fun t1 n1 => ⟨_, rfl, _, rfl, ?_⟩⟩⟩
  have k1 := e6.trans (same_new n1 (.tup []))
  have b6 := b5.same k1
  have y1 := Dts.nil.tup (SqT.of (K := K) (upd_same (H := H6) (a := t1) (o := .tup [])))
  generalize (upd H6 t1 (.tup [])) = H7 at b6 y1 ⊢
  obtain ⟨vs7, pa7, us7, h71, h72, h73, h74⟩ := b6.p00 ep
  refine ⟨_, rfl, pt, vs7, 0, .ref pa7, rfl, rfl, h71, at_of (j := 0) rfl h72, pa7, us7, 0, .str nm, rfl, rfl, h73, at_of (j := 0) rfl h74, (by show 2 ≤ sizeLine; decide), fun t2 n2 => ⟨(by show 5 ≤ sizeLine; decide), fun ea n3 => ?_⟩⟩
  have k2 := same_new n2 (.tup [.str "name", .str nm])
  have k3 := same_new n3 (.tup [.str (wordOf i 21), .ref t1, .ref pt, .ref pn, .ref t2])
  have kk := k2.trans k3
  have y2 := (Same.keep k3).dt (((Dts.nil.cons (.str nm)).cons (.str "name")).tup (SqT.of (K := K) upd_same))
  have b8 := b6.same kk
  have c8 : C51 K T0 s i pn pt ps ea nm (upd (upd H7 t2 (.tup [.str "name", .str nm])) ea (.tup [.str (wordOf i 21), .ref t1, .ref pt, .ref pn, .ref t2])) := ⟨b8, (((((Dts.nil.cons y2).cons b8.dn).cons b8.dp).cons ((Same.keep kk).dt y1)).cons (.str (wordOf i 21))).tup (SqT.of upd_same)⟩
  generalize (upd (upd H7 t2 (.tup [.str "name", .str nm])) ea (.tup [.str (wordOf i 21), .ref t1, .ref pt, .ref pn, .ref t2])) = H8 at c8 ⊢
  clear k1 k2 k3 kk y1 y2 b5 b6 b8 n1 n2 n3 e6 h71 h72 h73 h74 vs7 pa7 us7
  dsimp only [gName]
  -- the leaves
  refine ⟨_, _, rfl, rfl, ⟨by decide, by decide, by decide⟩, ?_⟩
  dsimp only [gName]
  have eM : (10 : Int) ^ (30 : Int).toNat = 10 ^ 30 := rfl
  generalize (10 : Int) ^ (30 : Int).toNat = M at eM ⊢
  refine ⟨_, rfl, _, rfl, _, _, rfl, rfl, _, rfl, _, _, rfl, rfl, _, rfl, _, _, rfl, rfl, (by show 4 ≤ sizeLine; decide), fun l1 n1 => ?_⟩
  have k1 := same_new n1 (.lst [.int M, .int (M - 1), .int (0 - M), .int (1 - M)])
  have c9 := c8.same k1
  have hl1 : (upd H8 l1 (.lst [.int M, .int (M - 1), .int (0 - M), .int (1 - M)])) l1 = some (.lst [.int M, .int (M - 1), .int (0 - M), .int (1 - M)]) := upd_same
  generalize (upd H8 l1 (.lst [.int M, .int (M - 1), .int (0 - M), .int (1 - M)])) = H9 at c9 hl1 ⊢
  clear k1 n1 c8
  refine ⟨_, rfl, s, i, 4, rfl, c9.b.S, by decide, by decide, fun r Ha r0 r4 xa Sa => ?_⟩
  obtain ⟨vn, hvn, wh⟩ := at4 (a := .int M) (b := .int (M - 1)) (c := .int (0 - M)) (d := .int (1 - M)) r0 r4
  obtain ⟨n, rfl⟩ : ∃ n, vn = .int n := by rcases wh with ⟨_, h⟩ | ⟨_, h⟩ | ⟨_, h⟩ | ⟨_, h⟩ <;> exact ⟨_, h⟩
  have ca := c9.ext xa Sa
  refine ⟨l1, _, r, .int n, rfl, rfl, c9.b.S.seq xa (SqL.of hl1), hvn, (by show 2 ≤ sizeLine; decide), fun q0 n1 => ⟨(by show 1 ≤ sizeLine; decide), fun L1 n2 => ?_⟩⟩
  have k1 := same_new n1 (.tup [.str "num", .int n])
  have k2 := same_new n2 (.lst [.ref q0])
  have cb := ca.same (k1.trans k2)
  have d0 : Dt K _ (.ref q0) (.tuple [.str "num", .int n]) := (Same.keep k2).dt (((Dts.nil.cons (.int n)).cons (.str "num")).tup (SqT.of (K := K) (upd_same (H := Ha) (a := q0) (o := .tup [.str "num", .int n]))))
  have hL1 : (upd (upd Ha q0 (.tup [.str "num", .int n])) L1 (.lst [.ref q0])) L1 = some (.lst [.ref q0]) := upd_same
  generalize (upd (upd Ha q0 (.tup [.str "num", .int n])) L1 (.lst [.ref q0])) = Hb at cb d0 hL1 ⊢
  clear k1 k2 n1 n2 ca c9 hl1 xa Sa wh hvn r0 r4
  dsimp only [gName]
  refine ⟨_, rfl, _, rfl, s, i, rfl, cb.b.S, fun tx Hc xc Sc htx => ⟨(by show 2 ≤ sizeLine; decide), fun q1 n1 => ?_⟩⟩
  have nL1 : L1 ≠ s := fun z => by
    obtain ⟨kvs, hk⟩ := cb.b.S.dk
    rw [z, hk] at hL1
    cases hL1
  have k1 := same_new n1 (.tup [.str "text", .str tx])
  have cc := (cb.ext xc Sc).same k1
  have d0c := (Same.keep k1).dt ((cb.b.S.keep xc).dt d0)
  have hL1c := k1 _ _ (xc _ _ nL1 hL1)
  have d1 : Dt K (upd Hc q1 (.tup [.str "text", .str tx])) (.ref q1) (.tuple [.str "text", .str tx]) := ((Dts.nil.cons (.str tx)).cons (.str "text")).tup (SqT.of upd_same)
  generalize (upd Hc q1 (.tup [.str "text", .str tx])) = Hd at cc d0c hL1c d1 ⊢
  clear k1 n1 cb d0 hL1 xc Sc
  obtain ⟨vs7, pa7, us7, h71, h72, h73, h74⟩ := cc.b.p00 ep
  refine ⟨_, rfl, pt, vs7, 0, .ref pa7, rfl, rfl, h71, at_of (j := 0) rfl h72, pa7, us7, 0, .str nm, rfl, rfl, h73, at_of (j := 0) rfl h74, (by show 2 ≤ sizeLine; decide), fun q2 n2 => ⟨_, rfl, (by show 2 ≤ sizeLine; decide), fun q3 n3 => ⟨_, rfl, (by show 2 ≤ sizeLine; decide), fun q4 n4 => ⟨(by show 4 ≤ sizeLine; decide), fun L2 n5 => ?_⟩⟩⟩⟩
  have k2 := same_new n2 (.tup [.str "name", .str nm])
  have k3 := same_new n3 (.tup [.str "norow", .ref pn])
  have k4 := same_new n4 (.tup [.str "nobook", .ref pn])
  have k5 := same_new n5 (.lst [.ref q1, .ref q2, .ref q3, .ref q4])
  have kk := k2.trans (k3.trans (k4.trans k5))
  refine ⟨L1, L2, _, _, rfl, rfl, kk _ _ hL1c, upd_same, (by show 5 ≤ sizeLine; decide), fun L3 n6 => ?_⟩
  have k6 := same_new n6 (.lst ([.ref q0] ++ [.ref q1, .ref q2, .ref q3, .ref q4]))
  have kl := kk.trans k6
  have ce := cc.same kl
  have d2 := (Same.keep (k3.trans (k4.trans (k5.trans k6)))).dt (((Dts.nil.cons (.str nm)).cons (.str "name")).tup (SqT.of (K := K) (upd_same (H := Hd) (a := q2) (o := .tup [.str "name", .str nm]))))
  have d3 := (Same.keep (k4.trans (k5.trans k6))).dt (((Dts.nil.cons ((Same.keep (k2.trans k3)).dt cc.b.dn)).cons (.str "norow")).tup (SqT.of (K := K) upd_same))
  have d4 := (Same.keep (k5.trans k6)).dt (((Dts.nil.cons ((Same.keep (k2.trans (k3.trans k4))).dt cc.b.dn)).cons (.str "nobook")).tup (SqT.of (K := K) upd_same))
  have dl : Dts K _ [.ref q0, .ref q1, .ref q2, .ref q3, .ref q4] [.tuple [.str "num", .int n], .tuple [.str "text", .str tx], .tuple [.str "name", .str nm], .tuple [.str "norow", numK], .tuple [.str "nobook", numK]] :=
    ((((Dts.nil.cons d4).cons d3).cons d2).cons ((Same.keep kl).dt d1)).cons ((Same.keep kl).dt d0c)
  have hL3 : SqL K (upd (upd (upd (upd (upd Hd q2 (.tup [.str "name", .str nm])) q3 (.tup [.str "norow", .ref pn])) q4 (.tup [.str "nobook", .ref pn])) L2 (.lst [.ref q1, .ref q2, .ref q3, .ref q4])) L3 (.lst ([.ref q0] ++ [.ref q1, .ref q2, .ref q3, .ref q4]))) L3 [.ref q0, .ref q1, .ref q2, .ref q3, .ref q4] := SqL.of upd_same
  generalize (upd (upd (upd (upd (upd Hd q2 (.tup [.str "name", .str nm])) q3 (.tup [.str "norow", .ref pn])) q4 (.tup [.str "nobook", .ref pn])) L2 (.lst [.ref q1, .ref q2, .ref q3, .ref q4])) L3 (.lst ([.ref q0] ++ [.ref q1, .ref q2, .ref q3, .ref q4]))) = He at ce dl hL3 ⊢
  clear k2 k3 k4 k5 kk k6 kl d0c d1 d2 d3 d4 hL1c n2 n3 n4 n5 n6 cc h71 h72 h73 h74 vs7 pa7 us7
  dsimp only [gName]
  -- the leaf
  refine ⟨_, rfl, _, rfl, s, i, 4, rfl, ce.b.S, by decide, by decide, fun r Hf r0 r4 xf Sf => ⟨_, _, rfl, rfl, (by show 2 ≤ sizeLine; decide), fun l5 n1 => ?_⟩⟩
  have k1 := same_new n1 (.lst [.int 0, .int (1 + r)])
  have cf := (ce.ext xf Sf).same k1
  have dlf := (Same.keep k1).dts ((ce.b.S.keep xf).dts dl)
  have hL3f := Same.seq k1 (ce.b.S.seq xf hL3)
  have hl5 : SqL K (upd Hf l5 (.lst [.int 0, .int (1 + r)])) l5 [.int 0, .int (1 + r)] := SqL.of upd_same
  generalize (upd Hf l5 (.lst [.int 0, .int (1 + r)])) = Hg at cf dlf hL3f hl5 ⊢
  clear k1 n1 ce dl hL3 xf Sf
  refine ⟨_, rfl, s, i, 2, rfl, cf.b.S, by decide, by decide, fun r2 Hh s0' s2' xh Sh => ?_⟩
  have ch := cf.ext xh Sh
  have dlh := (cf.b.S.keep xh).dts dlf
  obtain ⟨kx, hkx, k0, k5⟩ : ∃ kx : Int, atI [V.int 0, .int (1 + r)] r2 = some (.int kx) ∧ 0 ≤ kx ∧ kx < 5 := by
    have : r2 = 0 ∨ r2 = 1 := by omega
    rcases this with h | h <;> subst h
    · exact ⟨0, rfl, by decide, by decide⟩
    · exact ⟨1 + r, rfl, by omega, by omega⟩
  obtain ⟨lv, lw, lx, lb, hlv, Ll, dlv⟩ : ∃ lv lw lx lb, atI [V.ref q0, .ref q1, .ref q2, .ref q3, .ref q4] kx = some lv ∧ Lf nm lw lx lb ∧ Dt K Hh lv (.tuple [.str lw, lx]) := by
    have : kx = 0 ∨ kx = 1 ∨ kx = 2 ∨ kx = 3 ∨ kx = 4 := by omega
    rcases this with h | h | h | h | h <;> subst h
    · exact ⟨_, _, _, _, rfl, .num n, dlh.head⟩
    · exact ⟨_, _, _, _, rfl, .txt tx htx, dlh.tail.head⟩
    · exact ⟨_, _, _, _, rfl, .nam, dlh.tail.tail.head⟩
    · exact ⟨_, _, _, _, rfl, .row, dlh.tail.tail.tail.head⟩
    · exact ⟨_, _, _, _, rfl, .book, dlh.tail.tail.tail.tail.head⟩
  refine ⟨l5, _, r2, .int kx, rfl, rfl, cf.b.S.seq xh hl5, hkx, L3, _, kx, lv, rfl, rfl, cf.b.S.seq xh hL3f, hlv, ?_⟩
  clear cf dlf hL3f hl5 xh Sh hkx k0 k5 hlv dlh r0 r4 s0' s2' htx
  dsimp only [gName]
  refine ⟨_, rfl, ?_⟩
  dsimp only [gName]
  -- how many
  refine ⟨_, rfl, s, i, 16, rfl, ch.b.S, by decide, by decide, fun r Hi r0 r16 xi Si => ⟨(by show 4 ≤ sizeLine; decide), fun l6 n1 => ?_⟩⟩
  have k1 := same_new n1 (.lst [.int 10, .int 11, .int 12, .int r])
  have ci := (ch.ext xi Si).same k1
  have dli := (Same.keep k1).dt ((ch.b.S.keep xi).dt dlv)
  have hl6 : SqL K (upd Hi l6 (.lst [.int 10, .int 11, .int 12, .int r])) l6 [.int 10, .int 11, .int 12, .int r] := SqL.of upd_same
  generalize (upd Hi l6 (.lst [.int 10, .int 11, .int 12, .int r])) = Hj at ci dli hl6 ⊢
  clear k1 n1 ch dlv xi Si
  refine ⟨_, rfl, s, i, 4, rfl, ci.b.S, by decide, by decide, fun r2 Hk a0 a4 xk Sk => ?_⟩
  obtain ⟨m, hm, m15⟩ : ∃ m : Nat, atI [V.int 10, .int 11, .int 12, .int r] r2 = some (.int (m : Int)) ∧ m ≤ 15 := by
    obtain ⟨vn, hvn, wh⟩ := at4 (a := .int 10) (b := .int 11) (c := .int 12) (d := .int r) a0 a4
    rcases wh with ⟨_, h⟩ | ⟨_, h⟩ | ⟨_, h⟩ | ⟨_, h⟩
    · exact ⟨10, by rw [hvn, h]; rfl, by decide⟩
    · exact ⟨11, by rw [hvn, h]; rfl, by decide⟩
    · exact ⟨12, by rw [hvn, h]; rfl, by decide⟩
    · exact ⟨r.toNat, by rw [hvn, h, Int.toNat_of_nonneg r0], by omega⟩
  have ck := ci.ext xk Sk
  have dlk := (ci.b.S.keep xk).dt dli
  refine ⟨l6, _, r2, .int (m : Int), rfl, rfl, ci.b.S.seq xk hl6, hm, ?_⟩
  clear ci dli hl6 xk Sk hm a0 a4 r0 r16
  dsimp only [gName]
  -- deeper and deeper
  have w21 := word_of iok (k := 21) (by decide)
  refine ⟨_, rfl, _, rfl, by omega, by omega, ?_⟩
  refine for_range (lo := 0) (n := (m : Int).toNat) (fun j σ H' => (∃ o3 v d, σ = [some (.ref a), some (.ref s), some (.ref pn), o3, some (.ref pt), some (.ref ea), some (.int M), some (.ref L3), some lv, some v, some (.int (m : Int)), none, none, none, none, none, none] ∧ Dt K H' v d ∧ Nx nm (wordOf i 21) (.tuple [.str lw, lx]) j d) ∧ C51 K T0 s i pn pt ps ea nm H' ∧ Dt K H' lv (.tuple [.str lw, lx]))
    ⟨⟨none, lv, _, rfl, dlk, .zero⟩, ck, dlk⟩ ?_ ?_
  · rintro j σ H' hj ⟨⟨o3, v, d, rfl, dv, nx⟩, c', dl'⟩
    dsimp only [gName]
    obtain ⟨vsE, hE1, hE2⟩ := c'.e0
    obtain ⟨vs7, pa7, us7, h71, h72, h73, h74⟩ := c'.b.p00 ep
    refine ⟨_, rfl, _, rfl, _, rfl, ea, vsE, 0, .str (wordOf i 21), rfl, rfl, hE1, at_of (j := 0) rfl hE2, _, rfl, pt, vs7, 0, .ref pa7, rfl, rfl, h71, at_of (j := 0) rfl h72, pa7, us7, 0, .str nm, rfl, rfl, h73, at_of (j := 0) rfl h74, s, i, v, d, wordOf i 21, nm, rfl, c'.b.S, dv, fun v' d' ps' H2' x2' S2' dv' ly sib kin => ?_⟩
    exact ⟨⟨_, v', d', rfl, dv', .one nx ly sib kin⟩, c'.ext x2' S2', (c'.b.S.keep x2').dt dl'⟩
  clear ck dlk
  rintro σ Hl ⟨⟨o3, v, d, rfl, dv, nx⟩, cl, dll⟩
  rw [Int.toNat_natCast] at nx
  dsimp only [gName]
  -- the words of parts
  refine ⟨(by show 11 ≤ sizeLine; decide), fun w1 n1 => ⟨_, rfl, (by show 12 ≤ sizeLine; decide), fun w2 n2 => ?_⟩⟩
  have k1 := same_new n1 (.lst [V.str "num", .str "text", .str "name", .str "row", .str "norow", .str "nobook", .str "shape", .str "get", .str "plus", .str "minus", .str "join"])
  have k2 := same_new n2 (.lst [V.str "size", .str "push", .str "at", .str "put", .str "look", .str "let", .str "each", .str "fold", .str "if", .str "is", .str "has", .str "call"])
  refine ⟨w1, w2, _, _, rfl, rfl, k2 _ _ upd_same, upd_same, (by show 23 ≤ sizeLine; decide), fun w3 n3 => ?_⟩
  have k3 := same_new n3 (.lst (W23.map V.str))
  have kk := k1.trans (k2.trans k3)
  have cm := cl.same kk
  have dlm := (Same.keep kk).dt dll
  have dvm := (Same.keep kk).dt dv
  have hw3 : SqL K (upd (upd (upd Hl w1 (.lst [V.str "num", .str "text", .str "name", .str "row", .str "norow", .str "nobook", .str "shape", .str "get", .str "plus", .str "minus", .str "join"])) w2 (.lst [V.str "size", .str "push", .str "at", .str "put", .str "look", .str "let", .str "each", .str "fold", .str "if", .str "is", .str "has", .str "call"])) w3 (.lst (W23.map V.str))) w3 (W23.map V.str) := SqL.of upd_same
  show tSeq _ _ _ (List.set _ 11 (some (.ref w3))) (upd (upd (upd Hl w1 (.lst [V.str "num", .str "text", .str "name", .str "row", .str "norow", .str "nobook", .str "shape", .str "get", .str "plus", .str "minus", .str "join"])) w2 (.lst [V.str "size", .str "push", .str "at", .str "put", .str "look", .str "let", .str "each", .str "fold", .str "if", .str "is", .str "has", .str "call"])) w3 (.lst (W23.map V.str)))
  generalize (upd (upd (upd Hl w1 (.lst [V.str "num", .str "text", .str "name", .str "row", .str "norow", .str "nobook", .str "shape", .str "get", .str "plus", .str "minus", .str "join"])) w2 (.lst [V.str "size", .str "push", .str "at", .str "put", .str "look", .str "let", .str "each", .str "fold", .str "if", .str "is", .str "has", .str "call"])) w3 (.lst (W23.map V.str))) = Hm at cm dlm dvm hw3 ⊢
  clear k1 k2 k3 kk n1 n2 n3 cl dll dv
  -- the names
  refine ⟨_, rfl, s, i, 20, rfl, cm.b.S, by decide, fun Ha1 ea1 => ⟨_, rfl, s, i, 20, rfl, cm.b.S.same ea1, by decide, fun Ha2 ea2 => ⟨_, rfl, s, i, 20, rfl, (cm.b.S.same ea1).same ea2, by decide, fun Ha3 ea3 => ?_⟩⟩⟩
  have kk := ea1.trans (ea2.trans ea3)
  have cn := cm.same kk
  refine ⟨_, rfl, _, rfl, s, i, 23, rfl, cn.b.S, by decide, by decide, fun r Hn r0 r23 xn Sn => ?_⟩
  have lt : r.toNat < W23.length := by show r.toNat < 23; omega
  refine ⟨w3, _, r, .str W23[r.toNat], rfl, rfl, cn.b.S.seq xn (Same.seq kk hw3), at_of (j := r.toNat) (by omega) (by rw [List.getElem?_map, List.getElem?_eq_getElem lt]; rfl), (by show 4 ≤ sizeLine; decide), fun l4 n1 => ?_⟩
  have hz : W23[r.toNat] ∈ W23 := List.getElem_mem lt
  generalize W23[r.toNat] = zw at hz ⊢
  have k1 := same_new n1 (.lst [.str (wordOf i 20), .str (wordOf i 20), .str (wordOf i 20), .str zw])
  have co := (cn.ext xn Sn).same k1
  have dlo := (Same.keep k1).dt ((cn.b.S.keep xn).dt ((Same.keep kk).dt dlm))
  have dvo := (Same.keep k1).dt ((cn.b.S.keep xn).dt ((Same.keep kk).dt dvm))
  have hwo := Same.seq k1 (cn.b.S.seq xn (Same.seq kk hw3))
  have hl4 : SqL K (upd Hn l4 (.lst [.str (wordOf i 20), .str (wordOf i 20), .str (wordOf i 20), .str zw])) l4 [.str (wordOf i 20), .str (wordOf i 20), .str (wordOf i 20), .str zw] := SqL.of upd_same
  generalize (upd Hn l4 (.lst [.str (wordOf i 20), .str (wordOf i 20), .str (wordOf i 20), .str zw])) = Ho at co dlo dvo hwo hl4 ⊢
  clear k1 n1 kk cn xn Sn cm dlm dvm hw3 ea1 ea2 ea3 lt r0 r23
  dsimp only [gName]
  refine ⟨_, rfl, _, rfl, s, i, 4, rfl, co.b.S, by decide, by decide, fun r Hz r0 r4 xp Sp => ?_⟩
  obtain ⟨z0, hz0, hn0⟩ : ∃ z0, atI [V.str (wordOf i 20), .str (wordOf i 20), .str (wordOf i 20), .str zw] r = some (.str z0) ∧ Nm i z0 := by
    obtain ⟨vn, hvn, wh⟩ := at4 (a := .str (wordOf i 20)) (b := .str (wordOf i 20)) (c := .str (wordOf i 20)) (d := .str zw) r0 r4
    rcases wh with ⟨_, h⟩ | ⟨_, h⟩ | ⟨_, h⟩ | ⟨_, h⟩
    · exact ⟨_, by rw [hvn, h], .inl (.inl rfl)⟩
    · exact ⟨_, by rw [hvn, h], .inl (.inl rfl)⟩
    · exact ⟨_, by rw [hvn, h], .inl (.inl rfl)⟩
    · exact ⟨_, by rw [hvn, h], .inl (.inr hz)⟩
  have cp := co.ext xp Sp
  have dlp := (co.b.S.keep xp).dt dlo
  have dvp := (co.b.S.keep xp).dt dvo
  have hwp := co.b.S.seq xp hwo
  refine ⟨l4, _, r, .str z0, rfl, rfl, co.b.S.seq xp hl4, hz0, ?_⟩
  clear co dlo dvo hwo hl4 xp Sp hz0 hz r0 r4
  dsimp only [gName]
  refine seq_with (fun R => ∀ (z : Str) (H' : Hp), C51 K T0 s i pn pt ps ea nm H' → Dt K H' lv (.tuple [.str lw, lx]) → Dt K H' v d → SqL K H' w3 (W23.map V.str) → Nm i z →
      R [some (.ref a), some (.ref s), some (.ref pn), o3, some (.ref pt), some (.ref ea), some (.int M), some (.ref L3), some lv, some v, some (.int (m : Int)), some (.ref w3), some (.ref l4), some (.str z), none, none, none] H') ?_ (fun rest => ?_)
  rotate_left
  · refine ⟨_, rfl, s, i, 9, rfl, cp.b.S, by decide, by decide, fun r H' r0 r9 x' S' => ⟨rfl, _, rfl, ite2 (fun _ => ?_) (fun _ => rest z0 H' (cp.ext x' S') ((cp.b.S.keep x').dt dlp) ((cp.b.S.keep x').dt dvp) (cp.b.S.seq x' hwp) hn0)⟩⟩
    have cq := cp.ext x' S'
    refine ⟨113, 8, rfl, rfl, by decide, by decide, _, rfl, s, i, 8, rfl, S', by decide, by decide, fun r2 H2' a0 a8 x2' S2' => ⟨_, r2, 97 + r2.toNat, rfl, rfl, a0, by omega, by show r2 < ((8 : Nat) : Int); omega, abc8_at _ (by omega), _, _, rfl, rfl, (by rw [len_list, len_list, reps_list, List.length_replicate]; show 8 + 1 ≤ sizeLine; decide), ?_⟩⟩
    have xx := x'.trans x2'
    refine rest _ H2' (cp.ext xx S2') ((cp.b.S.keep xx).dt dlp) ((cp.b.S.keep xx).dt dvp) (cp.b.S.seq xx hwp) (.inr ⟨?_, ?_, ?_, by simp [PyData.depth]⟩)
    · rw [len_list, app_list, reps_list, List.length_append, List.length_replicate]
      rfl
    · show (reps 113 (8 : Int).toNat ++ signAt (97 + r2.toNat)).cps.all (· < 0x110000) = true
      rw [← Array.all_toList, List.all_eq_true]
      intro c hc
      rw [app_list, reps_list] at hc
      refine decide_eq_true ?_
      rcases List.mem_append.mp hc with h | h
      · rw [(List.mem_replicate.mp h).2]; decide
      · have h := List.mem_singleton.mp h
        omega
    · show decide ((reps 113 (8 : Int).toNat ++ signAt (97 + r2.toNat)).length ≤ 1000) = true
      rw [len_list, app_list, reps_list, List.length_append, List.length_replicate]
      rfl
  clear cp dlp dvp hwp hn0
  intro z Hq cq dlq dvq hwq hnz
  -- the function
  refine ⟨_, rfl, (by show 0 ≤ sizeLine; decide), fun t1 n1 => ⟨_, rfl, _, rfl, _, rfl, (by show 5 ≤ sizeLine; decide), fun fa n2 => ?_⟩⟩
  have k1 := same_new n1 (.tup [])
  have k2 := same_new n2 (.tup [.str z, .ref t1, .ref pt, .ref pn, v])
  have kk := k1.trans k2
  have cr := cq.same kk
  have dlr := (Same.keep kk).dt dlq
  have hwr := Same.seq kk hwq
  have df : Dt K (upd (upd Hq t1 (.tup [])) fa (.tup [.str z, .ref t1, .ref pt, .ref pn, v])) (.ref fa) (f51 z ps d) := (((((Dts.nil.cons ((Same.keep kk).dt dvq)).cons cr.b.dn).cons cr.b.dp).cons ((Same.keep k2).dt (Dts.nil.tup (SqT.of (K := K) upd_same)))).cons (.str z)).tup (SqT.of upd_same)
  generalize (upd (upd Hq t1 (.tup [])) fa (.tup [.str z, .ref t1, .ref pt, .ref pn, v])) = Hr at cr dlr hwr df ⊢
  clear k1 k2 kk n1 n2 cq dlq dvq hwq
  dsimp only [gName]
  have zl : z.length ≤ 9 := by
    rcases hnz with (h | h) | h
    · rw [h, len_list]
      have := (word_of iok (k := 20) (by decide)).2.1
      omega
    · have := (w23_form z h).2.1
      omega
    · exact Nat.le_of_eq h.1
  -- is it good
  refine andV_pure (decide (m ≤ 11)) (!decide (z ∈ W23) && decide (z.length ≤ 8)) (fun R h => ⟨_, rfl, _, _, rfl, rfl, ?_⟩)
    (fun _ R h => andV_pure (!decide (z ∈ W23)) (decide (z.length ≤ 8)) (fun R2 h2 => ⟨_, rfl, _, rfl, w3, _, rfl, .inl hwr, rfl, flat_strs _, ?_⟩) (fun _ R2 h2 => ⟨_, rfl, z, rfl, sizeOk (by omega), _, _, rfl, rfl, ?_⟩) h) ?_
  · show R (.bl (decide (((m : Nat) : Int) ≤ 11))) Hr
    rw [decide_eq_decide.mpr (show ((m : Nat) : Int) ≤ 11 ↔ m ≤ 11 by omega)]
    exact h
  · show R2 (.bl (!inV (.str z) (W23.map V.str))) Hr
    rw [in_strs]
    exact h2
  · show R2 (.bl (decide (((z.length : Nat) : Int) ≤ 8))) Hr
    rw [decide_eq_decide.mpr (show ((z.length : Nat) : Int) ≤ 8 ↔ z.length ≤ 8 by omega)]
    exact h2
  dsimp only [gName]
  obtain ⟨pa, vsl, ev, hpa, hpd⟩ := dlr.open
  subst ev
  obtain ⟨u0, ur, rfl, hu0, hur⟩ := hpd.uncons
  obtain rfl := hu0.strOf
  obtain ⟨u1, ur2, rfl, hu1, hur2⟩ := hur.uncons
  obtain rfl := hur2.unnil
  obtain ⟨lf1, lf2⟩ := lf_num Ll
  refine andV_pure (decide (m ≤ 11) && (!decide (z ∈ W23) && decide (z.length ≤ 8))) lb (fun R h => ⟨_, rfl, h⟩) (fun _ R h => ?_) ?_
  · refine orV_pure (!decide (lw = "num")) lb (fun R2 h2 => ⟨_, rfl, pa, _, 0, .str lw, rfl, rfl, hpa, at_of (j := 0) rfl rfl, rfl, by rw [eqV_str]; exact h2⟩) (fun z1 R2 h2 => ?_) ?_
    · have e : lw = "num" := Classical.byContradiction fun q => by rw [decide_eq_false q] at z1; cases z1
      obtain ⟨n', rfl, rfl⟩ := lf1 e
      cases hu1
      refine ⟨_, rfl, pa, _, 1, .int n', rfl, rfl, hpa, at_of (j := 1) rfl rfl, n', rfl, _, rfl, _, _, rfl, rfl, ?_⟩
      show R2 (.bl (decide ((if n' < 0 then -n' else n') < M))) Hr
      rw [decide_eq_decide.mpr (show (if n' < 0 then -n' else n') < M ↔ n'.natAbs < 10 ^ 30 by rw [eM]; split <;> omega)]
      exact h2
    · by_cases e : lw = "num"
      · rw [decide_eq_true e]
        exact h
      · rw [lf2 e, Bool.or_true]
        rw [lf2 e] at h
        exact h
  dsimp only [gName]
  -- what the program answers
  have eo := ans51 iok tk wps nps lps hnm Ll nx hnz
  have five : ∀ (t : Str) (d : PyData), OkN 60 (.str t) → OkN 60 d → okD (f51 t ps d) := fun t d h1 h4 => (okN_tup (n := 60) (by show 5 ≤ 60; decide) fun x m => by
    simp only [List.mem_cons, List.not_mem_nil, or_false] at m
    rcases m with h | h | h | h | h <;> rw [h]
    · exact h1
    · exact (okN_tup (n := 0) (by show 0 ≤ 60; decide) fun x m => by cases m).mono (by decide)
    · refine (okN_tup (n := 4) (by rw [List.length_map]; omega) fun y m => ?_).mono (by decide)
      obtain ⟨q, hq, rfl⟩ := List.mem_map.mp m
      exact okN_two (n := 3) ((okN_word (wps q hq)).mono (by decide)) ((okN_numK 0).mono (by decide))
    · exact (okN_numK 0).mono (by decide)
    · exact h4).ok (by decide)
  have oz : OkN 0 (.str z) := by
    rcases hnz with (h | h) | h
    · rw [h]; exact okN_word (word_of iok (by decide))
    · exact okN_word (w23_form z h).2.2
    · exact h.2
  have wn := wps nm hnm
  have props : ∀ x ∈ [f51 (wordOf i 21) ps (.tuple [.str "name", .str nm]), f51 z ps d], okD x ∧ is5 txT x := fun x hx => by
    rcases List.mem_cons.mp hx with h | h
    · rw [h]
      exact ⟨five _ _ ((okN_word w21).mono (by decide)) ((okN_two (n := 3) (okN_w (by decide +kernel)) ((okN_word wn).mono (by decide))).mono (by decide)), _, _, _, _, _, rfl, txs_true _ _⟩
    · rw [List.mem_singleton.mp h]
      exact ⟨five _ _ (oz.mono (by decide)) ((okN_nx wn w21 (lf_ok wn Ll) nx).mono (by omega)), _, _, _, _, _, rfl, txs_true _ _⟩
  refine ⟨_, rfl, _, rfl, ite2 (fun c => ?_) (fun c => ?_)⟩
  · have ng : good51 m z lb = false := by
      have c' : (!(good51 m z lb)) = true := c
      cases e : good51 m z lb with
      | false => rfl
      | true => rw [e] at c'; cases c'
    rw [ng, if_neg Bool.false_ne_true] at eo
    refine ⟨_, rfl, _, rfl, (by show 2 ≤ sizeLine; decide), fun L n3 => ?_⟩
    have k3 := same_new n3 (.lst [.ref ea, .ref fa])
    have ct := cr.same k3
    have dd : Dts K (upd Hr L (.lst [.ref ea, .ref fa])) [.ref ea, .ref fa] [f51 (wordOf i 21) ps (.tuple [.str "name", .str nm]), f51 z ps d] := (Dts.nil.cons ((Same.keep k3).dt df)).cons ct.de
    refine ⟨L, _, _, rfl, SqL.of upd_same, dpAll_of dd.1 fun j v d q1 q2 => Dt.dp (dd.2 j v d q1 q2), (by show 2 ≤ 12; decide), props, ct.b.tb, fun H20 f20 => ⟨rfl, ?_⟩⟩
    rw [eo]
    have e : decide (V.str (refW (some .bp)) = V.str "program") = true := decide_eq_true rfl
    rw [e]
    exact q H20
  · have gd : good51 m z lb = true := by
      have c' : ¬ (!(good51 m z lb)) = true := c
      cases e : good51 m z lb with
      | true => rfl
      | false => rw [e] at c'; exact absurd rfl c'
    rw [gd, if_pos rfl] at eo
    refine ⟨_, rfl, _, rfl, (by show 2 ≤ sizeLine; decide), fun L n3 => ?_⟩
    have k3 := same_new n3 (.lst [.ref ea, .ref fa])
    have ct := cr.same k3
    have dd : Dts K (upd Hr L (.lst [.ref ea, .ref fa])) [.ref ea, .ref fa] [f51 (wordOf i 21) ps (.tuple [.str "name", .str nm]), f51 z ps d] := (Dts.nil.cons ((Same.keep k3).dt df)).cons ct.de
    refine ⟨L, _, _, rfl, SqL.of upd_same, dpAll_of dd.1 fun j v d q1 q2 => Dt.dp (dd.2 j v d q1 q2), (by show 2 ≤ 12; decide), props, ct.b.tb, fun _ b H20 kvs f20 hk hkeys hvals => ?_, fun e he => by rw [eo] at he; cases he⟩
    dsimp only [gName]
    have nzw : ¬ z = wordOf i 21 := fun e => by
      rcases hnz with (h | h) | h
      · exact absurd (word_inj iok (by decide) (by decide) (by decide) (by decide) (h.symm.trans e)) (by decide)
      · rw [e] at h
        exact form_w23 (form_none tk 21) h
      · have h1 := h.1
        rw [e, len_list] at h1
        have := w21.2.1
        omega
    obtain ⟨⟨ka, va⟩, ⟨kb, vb⟩, rfl⟩ := ln2 (show kvs.length = 2 from by rw [← List.length_map (f := (·.2)), hvals]; rfl)
    obtain ⟨rfl, rfl⟩ : ka = Sum.inr (wordOf i 21) ∧ kb = Sum.inr z := by
      injection hkeys with h1 h2
      injection h2 with h2 _
      exact ⟨h1, h2⟩
    obtain ⟨rfl, rfl⟩ : va = .ref ea ∧ vb = .ref fa := by
      injection hvals with h1 h2
      injection h2 with h2 _
      exact ⟨h1, h2⟩
    have k20 := Fr.keep (K := K) ct.b.tb f20
    obtain ⟨vsE, hE1, hE2⟩ := ct.e0
    refine ⟨_, rfl, _, _, _, _, true, rfl, .ty _, .base (.dK hk), kit_ty (by decide +kernel : kitB "dict" "dict" = some true), _, rfl, iteT ?_⟩
    refine ⟨_, rfl, b, _, rfl, .inl hk, fun m1' n4 => ?_⟩
    have k4 := same_new n4 (.lst [.str (wordOf i 21), .str z])
    refine ⟨_, rfl, ea, vsE, 0, .str (wordOf i 21), rfl, rfl, Same.tup k4 (k20.2 _ _ hE1), at_of (j := 0) rfl hE2, _, rfl, (by show 2 ≤ sizeLine; decide), fun m2' n5 => ?_⟩
    have k5 := same_new n5 (.lst [.str (wordOf i 21), .str z])
    have oks : OkN 1 (.tuple [.str (wordOf i 21), .str z]) := okN_tup (by show 2 ≤ 60; decide) (mc (okN_word w21) (m1 oz))
    have sh : SeqAt.shaped (.list [.str (wordOf i 21), .str z]) = true := (oks.ok (by decide)).1
    have dl : ∀ H, DpAll K H [.str (wordOf i 21), .str z] [.str (wordOf i 21), .str z] := fun H => .cons (.str _) (.cons (.str _) .nil)
    refine ⟨_, _, .lst (SqL.of (k5 _ _ upd_same)) (dl _), .lst (SqL.of upd_same) (dl _), sh, sh, ?_⟩
    rw [SeqAt.eqv_refl _ (SeqAt.canLay_of_shaped sh)]
    refine ⟨true, rfl, iteT ?_⟩
    have k45 := k4.trans k5
    have hk' := k45 _ _ hk
    have dg : DGet (upd (upd H20 m1' (.lst [.str (wordOf i 21), .str z])) m2' (.lst [.str (wordOf i 21), .str z])) b (.str z) (some (.ref fa)) := by
      have h := DGet.k (k := Sum.inr z) hk'
      have e : valV [((Sum.inr (wordOf i 21) : Key), V.ref ea), ((Sum.inr z : Key), V.ref fa)] (Sum.inr z : Key) = some (.ref fa) := by
        simp [valV, Ne.symm nzw]
      rw [e] at h
      exact h
    have dfp : Dp K (upd (upd H20 m1' (.lst [.str (wordOf i 21), .str z])) m2' (.lst [.str (wordOf i 21), .str z])) (.ref fa) (f51 z ps d) := (Fr.keep (K := K) ct.b.tb (f20.trans (Fr.same f20.tab k45))).dp (Dt.dp ((Same.keep k3).dt df))
    have shf := ((props _ (List.mem_cons_of_mem _ List.mem_cons_self)).1).1
    refine ⟨_, rfl, _, rfl, b, .ref fa, rfl, dg, _, rfl, _, _, dfp, dfp, shf, shf, ?_⟩
    rw [SeqAt.eqv_refl _ (SeqAt.canLay_of_shaped shf)]
    exact q _
end
end Sc
namespace Sc
open PySem PySem.Spec PyProof.Rows L2
theorem walkT {l : PySem.W.OpenLaw} {q : Program} {loose : List Str} {XP : (Str → Option Value) → Heap → Prop} {YP : World → Heap → Prop} {d : DefRec} {K : Params → PySem.W.Frag} (hn : l.most = some 63) (hdf : d.params.defaults = [])
    (hY : ∀ (w : World) (h : Heap), YP w h → (K w.params).In h)
    (F : ∀ (w : World) (mg mb : Str → Option Value) (lo : List Str) (mean : ExcName → Option Value) (fa : Addr) (h : Heap), (K w.params).In h → Top q lo mean mg mb h → mg d.name = some (.ref fa) → LamX.LawAtS l w (K w.params) CX0 88 63 "_law_script" mg fa h) :
    PySem.W.WalkO q loose XP YP l.row.toRowW d [] (fun f vs => PySem.call f vs) := by
  refine Att.attach_callB hn hdf fun w s₀ s₁ mg mb fa o pm cd doc a vs ns G Y ho hd hcd hmg hobj hints hlen hbits hg => ?_
  have KX := hY w _ Y
  obtain ⟨fd, cs, sp, hT, nT, C, hb, hsp, hF⟩ := F w mg mb _ _ fa _ KX G.T hmg
  exact LamX.law_callTs KX G.T.g G.T.b G.T.builtins G.T.nolimit hg hT nT C G.T.bmain hobj hints (Nat.le_trans hlen (by decide)) ⟨rfl, by decide, by decide⟩ hF hb (fun H hH hS => hsp H a ns hlen hbits hH hS) fun H e s' => fun z => z
def clsOf (a b c d : Addr) : Wr → Addr
  | .bk => a
  | .bp => b
  | .nn => c
  | .tt => d
theorem law_endT {l : PySem.W.OpenLaw} {w : World} {K : PySem.W.Frag} {h : Heap} {q : Program} {lo : List Str} {mean : ExcName → Option Value} {mg mb : Str → Option Value} {fa f c1 P1 c2 P2 c3 P3 CS Ck Cp Cn Ct C f1 FA NA : Addr} (X : K.In h) (TT : Top q lo mean mg mb h) (hfa : mg "law" = some (.ref fa)) (T : Tx K mg)
    (D1 : DefT K mg "has_word_signs" sHasWordSigns ["text"] c1) (t1 : PySem.W.tabIn K "has_word_signs" = some (c1, P1)) (r1 : ((recsOf q).find? (fun e => e.name == ("has_word_signs" : Str))).isSome = true) (n1 : K.lookup P1 = none)
    (D2 : DefT K mg "is_letter" sIsLetter ["thing"] c2) (t2 : PySem.W.tabIn K "is_letter" = some (c2, P2)) (r2 : ((recsOf q).find? (fun e => e.name == ("is_letter" : Str))).isSome = true) (n2 : K.lookup P2 = none)
    (D3 : DefT K mg "_need_text" sPNeedText ["told", "place"] c3) (t3 : PySem.W.tabIn K "_need_text" = some (c3, P3)) (r3 : ((recsOf q).find? (fun e => e.name == ("_need_text" : Str))).isSome = true) (n3 : K.lookup P3 = none)
    (gS : mg "SoothError" = some (.ref CS)) (Ek : Ec K mg "BadKind" Ck) (Ep : Ec K mg "BadProgram" Cp) (En : Ec K mg "NoName" Cn) (Et : Ec K mg "TwiceTold" Ct)
    (xm_bk : PySem.W.exmOne K (.ref Ck) (.ref CS) = some true) (xm_bp : PySem.W.exmOne K (.ref Cp) (.ref CS) = some true) (xm_nn : PySem.W.exmOne K (.ref Cn) (.ref CS) = some true) (xm_tt : PySem.W.exmOne K (.ref Ct) (.ref CS) = some true) (xc_bk : ExcC K Ck) (xc_bp : ExcC K Cp) (xc_nn : ExcC K Cn) (xc_tt : ExcC K Ct) (kv_bk : PySem.W.kitOne K (.ref Ck) (.type "ValueError") = some true) (kv_bp : PySem.W.kitOne K (.ref Cp) (.type "ValueError") = some true) (kv_nn : PySem.W.kitOne K (.ref Cn) (.type "ValueError") = some true) (kv_tt : PySem.W.kitOne K (.ref Ct) (.type "ValueError") = some true)
    (kt_bkbk : PySem.W.kitOne K (.ref Ck) (.ref Ck) = some true) (kt_bkbp : PySem.W.kitOne K (.ref Ck) (.ref Cp) = some false) (kt_bknn : PySem.W.kitOne K (.ref Ck) (.ref Cn) = some false) (kt_bktt : PySem.W.kitOne K (.ref Ck) (.ref Ct) = some false) (kt_bpbk : PySem.W.kitOne K (.ref Cp) (.ref Ck) = some false) (kt_bpbp : PySem.W.kitOne K (.ref Cp) (.ref Cp) = some true) (kt_bpnn : PySem.W.kitOne K (.ref Cp) (.ref Cn) = some false) (kt_bptt : PySem.W.kitOne K (.ref Cp) (.ref Ct) = some false) (kt_nnbk : PySem.W.kitOne K (.ref Cn) (.ref Ck) = some false) (kt_nnbp : PySem.W.kitOne K (.ref Cn) (.ref Cp) = some true) (kt_nnnn : PySem.W.kitOne K (.ref Cn) (.ref Cn) = some true) (kt_nntt : PySem.W.kitOne K (.ref Cn) (.ref Ct) = some false) (kt_ttbk : PySem.W.kitOne K (.ref Ct) (.ref Ck) = some false) (kt_ttbp : PySem.W.kitOne K (.ref Ct) (.ref Cp) = some true) (kt_ttnn : PySem.W.kitOne K (.ref Ct) (.ref Cn) = some false) (kt_tttt : PySem.W.kitOne K (.ref Ct) (.ref Ct) = some true)
    {od1 an1 : Option Addr} {sl1 : Array (Option Value)} {oc1 kV1 dc1 pm1 cd1 ct1 : Value} (gC : mg "Place" = some (.ref C))
    (a1 : PySem.W.findIn K (.ref C) "__init__" = some (some (.ref f1))) (i1 : PySem.W.isFn K (.ref f1) = true) (l1 : K.lookup f1 = some ⟨oc1, od1, .func (PySem.W.fnOf "__init__" "Place.__init__" (defArgs sPlaceInit) (defBody sPlaceInit) (defScope sPlaceInit) .none kV1 dc1 pm1 an1 cd1 ct1), sl1⟩) (cc1 : PySem.W.codeIn K cd1 "Place.__init__" = true) (k1 : PySem.W.keepIn K (.ref f1) = true)
    (pg : PySem.W.plainGet K C Str.empty = true) (hd : PySem.W.hasDictIn K C = true) (po : PySem.W.plainOver K C = true) (sa : PySem.W.findIn K (.ref C) "__setattr__" = some (some (.builtin "object.__setattr__"))) (mk : PySem.W.makesIn K C = true) (kc : PySem.W.keepIn K (.ref C) = true)
    (nA : PySem.W.findIn K (.ref C) "letters" = some none) (nB : PySem.W.findIn K (.ref C) "functions" = some none) (nC : PySem.W.findIn K (.ref C) "names" = some none) (nD : PySem.W.findIn K (.ref C) "room" = some none)
    (F : FT K w mg FA) (N : NT K w mg NA) (g8 : ∃ t, mg "LONGEST_WORD" = some (.int 8 t)) (d8 : ∃ t, mg "DEEPEST_KIND" = some (.int 8 t)) (m12 : ∃ t, mg "MOST_FUNCTIONS" = some (.int 12 t)) (b12 : ∃ t, mg "DEEPEST_BODY" = some (.int 12 t)) (b37 : ∃ t, mg "BARRED_SIGN" = some (.int 37 t))
    {oc : Value} {od an : Option Addr} {osl : Array (Option Value)} {kVl doc pm cdv ct : Value}
    (a : PySem.W.nsIn K mainGlobals "law" = some (some (.ref f))) (lk : K.lookup f = some ⟨oc, od, .func (PySem.W.fnOf "law" "law" (defArgs sLaw) (defBody sLaw) (defScope sLaw) .none kVl doc pm an cdv ct), osl⟩) (c : PySem.W.codeIn K cdv "law" = true) (k : PySem.W.keepIn K (.ref f) = true) :
    LamX.LawAtS l w K CX0 88 63 "_law_script" mg fa h := by
  have e := hfa.symm.trans (PySem.W.mg_of X TT.g a)
  cases e
  obtain ⟨d1, e1⟩ := Option.isSome_iff_exists.mp r1
  obtain ⟨h1, g1⟩ := PySem.W.tab_of TT X e1 t1
  obtain ⟨d2, e2⟩ := Option.isSome_iff_exists.mp r2
  obtain ⟨h2, g2⟩ := PySem.W.tab_of TT X e2 t2
  obtain ⟨d3, e3⟩ := Option.isSome_iff_exists.mp r3
  obtain ⟨h3, g3⟩ := PySem.W.tab_of TT X e3 t3
  have ER : Er4 K mg CS (clsOf Ck Cp Cn Ct) := ⟨⟨Ek, Ep, En, Et⟩, gS, fun | .bk => xm_bk | .bp => xm_bp | .nn => xm_nn | .tt => xm_tt, fun | .bk => xc_bk | .bp => xc_bp | .nn => xc_nn | .tt => xc_tt, fun | .bk => kv_bk | .bp => kv_bp | .nn => kv_nn | .tt => kv_tt,
    fun | .bk, .bk => kt_bkbk | .bk, .bp => kt_bkbp | .bk, .nn => kt_bknn | .bk, .tt => kt_bktt | .bp, .bk => kt_bpbk | .bp, .bp => kt_bpbp | .bp, .nn => kt_bpnn | .bp, .tt => kt_bptt | .nn, .bk => kt_nnbk | .nn, .bp => kt_nnbp | .nn, .nn => kt_nnnn | .nn, .tt => kt_nntt | .tt, .bk => kt_ttbk | .tt, .bp => kt_ttbp | .tt, .nn => kt_ttnn | .tt, .tt => kt_tttt⟩
  refine ⟨PySem.W.fnOf "law" "law" (defArgs sLaw) (defBody sLaw) (defScope sLaw) .none kVl doc pm an cdv ct, [(c1, P1), (c2, P2), (c3, P3)], spLaw K [P1, P2, P3], ?_, ?_, ?_, fun s v => .of_eq rfl, ?_, ?_⟩
  · intro p hp
    rcases List.mem_cons.mp hp with z | hp
    · rw [z]; exact g1
    rcases List.mem_cons.mp hp with z | hp
    · rw [z]; exact g2
    rw [List.mem_singleton.mp hp]; exact g3
  · intro p hp
    rcases List.mem_cons.mp hp with z | hp
    · rw [z]; exact n1
    rcases List.mem_cons.mp hp with z | hp
    · rw [z]; exact n2
    rw [List.mem_singleton.mp hp]; exact n3
  · intro p hp
    rcases List.mem_cons.mp hp with z | hp
    · rw [z]; exact h1
    rcases List.mem_cons.mp hp with z | hp
    · rw [z]; exact h2
    rw [List.mem_singleton.mp hp]; exact h3
  · intro H a ns hl _ ht hS
    refine ⟨a, ns, rfl, hS, hl, fun P hP => ?_, fun _ => rfl⟩
    rcases List.mem_cons.mp hP with z | z
    · exact ⟨#[], by rw [z]; exact ht (c1, P1) List.mem_cons_self, True.intro⟩
    rcases List.mem_cons.mp z with z | z
    · exact ⟨#[], by rw [z]; exact ht (c2, P2) (List.mem_cons_of_mem _ List.mem_cons_self), True.intro⟩
    · exact ⟨#[], by rw [List.mem_singleton.mp z]; exact ht (c3, P3) (List.mem_cons_of_mem _ (List.mem_cons_of_mem _ List.mem_cons_self)), True.intro⟩
  · intro base KX G TB
    have T1 := TB (c1, P1) List.mem_cons_self
    have T2 := TB (c2, P2) (List.mem_cons_of_mem _ List.mem_cons_self)
    have T3 := TB (c3, P3) (List.mem_cons_of_mem _ (List.mem_cons_of_mem _ List.mem_cons_self))
    have FP := fun_mk (st := sPlaceInit) l1 cc1 k1
    have bP := FP.binds (ps := ["self", "letters", "functions", "names", "room"]) fun _ _ _ _ _ _ us hl => match us, hl with | [_, _, _, _, _], _ => rfl
    have LP : PlC l.prog w K mg base C := ⟨⟨pg, hd, po, sa⟩, nA, nB, nC, nD, gC, ⟨_, _, ok_plinit FP ⟨pg, hd, po, sa⟩ nA nB nC nD, ⟨mk, a1, i1, kc⟩, bP⟩⟩
    have CW := c_is_word (P := l.prog) (w := w) (base := base) (T0 := [P1, P2, P3]) T (c_word_signs (P := l.prog) (w := w) (base := base) (T0 := [P1, P2, P3]) T D1 ⟨T1.code, T1.bm, T1.gP⟩ List.mem_cons_self) g8
    have CI := c_is_letter (P := l.prog) (w := w) (base := base) (T0 := [P1, P2, P3]) T D2 ⟨T2.code, T2.bm, T2.gP⟩ (List.mem_cons_of_mem _ List.mem_cons_self) g8
    have CF := c_are_fields (P := l.prog) (w := w) (base := base) (T0 := [P1, P2, P3]) T
    have CL := c_need_letter T ER.e.bk CI g8
    have CK := c_withins T ER.e.bk g8 d8 CW CF CL 9
    have CN := c_need_kind T d8 CK
    have CX0t : ∀ r, CalX l.prog w K mg base 2 "_need_text" ["told", "place"] (spAt K [P1, P2, P3] C (clsOf Ck Cp Cn Ct) r fun _ => gText) := fun r => c_need_text T ER.e D3 ⟨T3.code, T3.bm, T3.gP⟩ (List.mem_cons_of_mem _ (List.mem_cons_of_mem _ List.mem_cons_self)) b37
    have CX : ∀ r, CalX l.prog w K mg base 3 "_need_text" ["told", "place"] (spAtG K [P1, P2, P3] C (clsOf Ck Cp Cn Ct) r (fun _ d => txT d) (fun _ => gText)) := fun r => ((CX0t r).mono (by decide)).imp fun vs H Q E h => at_g (fun _ _ => rfl) vs H Q E h
    have CPt := c_parts txT T ER.e LP F N b12 CW CF CN CX 12
    have CPg := c_need_program txT T ER.e m12 (c_need_function txT T ER.e LP F b12 (by decide) CW CI (c_need_pairs T ER.e) CN CPt)
    exact ok_law (fun_mk (st := sLaw) lk c k) T (c_refusal txT T ER CPg) CPg
end Sc
namespace Sc
open PySem PyProof.Rows L2
/-! ### what the top has written -/
theorem Def.of {K : PySem.W.Frag} {h : Heap} {mg : Str → Option Value} (X : K.In h) (G : h.Ns mainGlobals mg) {x : Str} {st : Stmt} {ps : List Str} {f : Addr} {oc : Value} {od an : Option Addr} {osl : Array (Option Value)} {kV doc pm cdv ct : Value}
    (a : PySem.W.nsIn K mainGlobals x = some (some (.ref f))) (l : K.lookup f = some ⟨oc, od, .func (PySem.W.fnOf x x (defArgs st) (defBody st) (defScope st) .none kV doc pm an cdv ct), osl⟩) (c : PySem.W.codeIn K cdv x = true) (k : PySem.W.keepIn K (.ref f) = true)
    (b : ∀ (kV doc pm : Value) (an : Option Addr) (cdv ct : Value) (us : List Value), us.length = ps.length → bindArgs (PySem.W.fnOf x x (defArgs st) (defBody st) (defScope st) .none kV doc pm an cdv ct) ⟨us, []⟩ = pure (ps.zip us)) : Def K mg x st ps :=
  have F := fun_mk (st := st) l c k
  ⟨⟨f, _, F, PySem.W.mg_of X G a, F.binds b⟩⟩
theorem DefA.of {K : PySem.W.Frag} {h : Heap} {mg : Str → Option Value} (X : K.In h) (G : h.Ns mainGlobals mg) {x y : Str} {st : Stmt} {ps : List Str} {f : Addr} {oc : Value} {od an : Option Addr} {osl : Array (Option Value)} {kV doc pm cdv ct : Value}
    (a : PySem.W.nsIn K mainGlobals x = some (some (.ref f))) (l : K.lookup f = some ⟨oc, od, .func (PySem.W.fnOf y y (defArgs st) (defBody st) (defScope st) .none kV doc pm an cdv ct), osl⟩) (c : PySem.W.codeIn K cdv y = true) (k : PySem.W.keepIn K (.ref f) = true)
    (b : ∀ (kV doc pm : Value) (an : Option Addr) (cdv ct : Value) (us : List Value), us.length = ps.length → bindArgs (PySem.W.fnOf y y (defArgs st) (defBody st) (defScope st) .none kV doc pm an cdv ct) ⟨us, []⟩ = pure (ps.zip us)) : DefA K mg x y st ps :=
  have F := fun_mk (st := st) l c k
  ⟨⟨f, _, F, PySem.W.mg_of X G a, F.binds b⟩⟩
theorem int_of {K : PySem.W.Frag} {h : Heap} {mg : Str → Option Value} (X : K.In h) (G : h.Ns mainGlobals mg) {x : Str} {n : Int} {t : Tok} (a : PySem.W.nsIn K mainGlobals x = some (some (.int n t))) : ∃ t, mg x = some (.int n t) := ⟨t, PySem.W.mg_of X G a⟩
theorem tabIn_of {K : PySem.W.Frag} {x : Str} {f c P : Addr} {oc o1 : Value} {od o2 : Option Addr} {osl o3 : Array (Option Value)} {fd : FuncData} {vs : Array Value} (a : PySem.W.nsIn K mainGlobals x = some (some (.ref f))) (l : K.lookup f = some ⟨oc, od, .func fd, osl⟩) (hc : fd.code = .ref c)
    (lc : K.lookup c = some ⟨o1, o2, .fields vs, o3⟩) (hv : (vs[11]? : Option Value) = some (.ref P)) : PySem.W.tabIn K x = some (c, P) := by
  unfold PySem.W.tabIn
  rw [a]
  dsimp only
  rw [l]
  dsimp only
  rw [hc]
  dsimp only
  rw [lc]
  dsimp only
  rw [hv]
end Sc
open PySem PySem.W PyProof.Rows
set_option maxRecDepth 100000 in
set_option maxHeartbeats 0 in
theorem PySem.Challenge.cw_soothcheck_k51_parts_as_deep_as_may_be_holds : PySem.Challenge.rw_soothcheck_k51_parts_as_deep_as_may_be.Holds := by
  w_on; o_law; k_head; (case hw => w_witness2)
  k_fill
  refine Sc.walkT (l := PySem.Challenge.rw_soothcheck_k51_parts_as_deep_as_may_be) rfl rfl (fun w h Y => by first | exact PySem.W.kIn_of Y | exact PySem.W.km_in_of Y) ?F
  case F =>
    intro w mg mb lo mean fa h KX TT hmg
    have G := TT.g
    refine' Sc.law_endT KX TT hmg ⟨Sc.Def.of KX G ?a0 ?l0 ?c0 ?k0 ?b0, Sc.Def.of KX G ?a1 ?l1 ?c1 ?k1 ?b1, Sc.Def.of KX G ?a2 ?l2 ?c2 ?k2 ?b2, Sc.DefA.of KX G ?a3 ?l3 ?c3 ?k3 ?b3, Sc.Def.of KX G ?a4 ?l4 ?c4 ?k4 ?b4, 
      Sc.Def.of KX G ?a5 ?l5 ?c5 ?k5 ?b5, Sc.Def.of KX G ?a6 ?l6 ?c6 ?k6 ?b6, Sc.Def.of KX G ?a7 ?l7 ?c7 ?k7 ?b7, Sc.Def.of KX G ?a8 ?l8 ?c8 ?k8 ?b8, Sc.Def.of KX G ?a9 ?l9 ?c9 ?k9 ?b9, Sc.Def.of KX G ?a10 ?l10 ?c10 ?k10 ?b10, 
      Sc.Def.of KX G ?a11 ?l11 ?c11 ?k11 ?b11, Sc.Def.of KX G ?a12 ?l12 ?c12 ?k12 ?b12, Sc.Def.of KX G ?a13 ?l13 ?c13 ?k13 ?b13, Sc.Def.of KX G ?a14 ?l14 ?c14 ?k14 ?b14, Sc.Def.of KX G ?a15 ?l15 ?c15 ?k15 ?b15, 
      Sc.Def.of KX G ?a16 ?l16 ?c16 ?k16 ?b16, Sc.Def.of KX G ?a17 ?l17 ?c17 ?k17 ?b17, Sc.Def.of KX G ?a18 ?l18 ?c18 ?k18 ?b18, Sc.Def.of KX G ?a19 ?l19 ?c19 ?k19 ?b19, Sc.Def.of KX G ?a20 ?l20 ?c20 ?k20 ?b20, 
      Sc.Def.of KX G ?a21 ?l21 ?c21 ?k21 ?b21, Sc.Def.of KX G ?a22 ?l22 ?c22 ?k22 ?b22, Sc.Def.of KX G ?a23 ?l23 ?c23 ?k23 ?b23, Sc.Def.of KX G ?a24 ?l24 ?c24 ?k24 ?b24, Sc.Def.of KX G ?a25 ?l25 ?c25 ?k25 ?b25, 
      Sc.Def.of KX G ?a26 ?l26 ?c26 ?k26 ?b26, Sc.Def.of KX G ?a27 ?l27 ?c27 ?k27 ?b27, Sc.Def.of KX G ?a28 ?l28 ?c28 ?k28 ?b28, Sc.Def.of KX G ?a29 ?l29 ?c29 ?k29 ?b29, Sc.Def.of KX G ?a30 ?l30 ?c30 ?k30 ?b30, 
      Sc.Def.of KX G ?a31 ?l31 ?c31 ?k31 ?b31, Sc.Def.of KX G ?a32 ?l32 ?c32 ?k32 ?b32, Sc.Def.of KX G ?a33 ?l33 ?c33 ?k33 ?b33, PySem.W.mg_none_of KX G ?z0, PySem.W.mg_none_of KX G ?z1, 
      PySem.W.mg_none_of KX G ?z2, PySem.W.mg_none_of KX G ?z3, PySem.W.mg_none_of KX G ?z4, PySem.W.mg_none_of KX G ?z5, PySem.W.mg_none_of KX G ?z6, PySem.W.mg_none_of KX G ?z7, PySem.W.mg_none_of KX G ?z8, 
      PySem.W.mg_none_of KX G ?z9, PySem.W.mg_none_of KX G ?z10, PySem.W.mg_none_of KX G ?z11, PySem.W.mg_none_of KX G ?z12, PySem.W.mg_none_of KX G ?z13, PySem.W.mg_none_of KX G ?z14, PySem.W.mg_none_of KX G ?z15, 
      PySem.W.mg_none_of KX G ?z16, PySem.W.mg_none_of KX G ?z17⟩
      (Sc.DefT.of KX G ?da1 ?dl1 ?dc1 ?dk1 ?db1) (Sc.tabIn_of ?ta1 ?tl1 ?tk1 ?tc1 ?tv1) ?r1 ?n1 (Sc.DefT.of KX G ?da2 ?dl2 ?dc2 ?dk2 ?db2) (Sc.tabIn_of ?ta2 ?tl2 ?tk2 ?tc2 ?tv2) ?r2 ?n2 (Sc.DefT.of KX G ?da3 ?dl3 ?dc3 ?dk3 ?db3) (Sc.tabIn_of ?ta3 ?tl3 ?tk3 ?tc3 ?tv3) ?r3 ?n3
      (PySem.W.mg_of KX G ?gS) ⟨PySem.W.mg_of KX G ?bkg, ?bkq, ?bkk, ?bkb, ?bkt⟩ ⟨PySem.W.mg_of KX G ?bpg, ?bpq, ?bpk, ?bpb, ?bpt⟩ ⟨PySem.W.mg_of KX G ?nng, ?nnq, ?nnk, ?nnb, ?nnt⟩ ⟨PySem.W.mg_of KX G ?ttg, ?ttq, ?ttk, ?ttb, ?ttt⟩
      (PySem.W.exm_ref ?bkh1 ?bkh2 ?bkh3 ?bkh4) (PySem.W.exm_ref ?bph1 ?bph2 ?bph3 ?bph4) (PySem.W.exm_ref ?nnh1 ?nnh2 ?nnh3 ?nnh4) (PySem.W.exm_ref ?tth1 ?tth2 ?tth3 ?tth4) ⟨?bkx1, ?bkx2, ?bkx3, ?bkx4, ?bkx5, ?bkx6, ?bkx7, ?bkx8⟩ ⟨?bpx1, ?bpx2, ?bpx3, ?bpx4, ?bpx5, ?bpx6, ?bpx7, ?bpx8⟩ ⟨?nnx1, ?nnx2, ?nnx3, ?nnx4, ?nnx5, ?nnx6, ?nnx7, ?nnx8⟩ ⟨?ttx1, ?ttx2, ?ttx3, ?ttx4, ?ttx5, ?ttx6, ?ttx7, ?ttx8⟩ ?bkv ?bpv ?nnv ?ttv ?bkbk ?bkbp ?bknn ?bktt ?bpbk ?bpbp ?bpnn ?bptt ?nnbk ?nnbp ?nnnn ?nntt ?ttbk ?ttbp ?ttnn ?tttt
      (PySem.W.mg_of KX G ?gC) ?pa ?pi ?pl ?pc ?pk ?ppg ?phd ?ppo ?psa ?pmk ?pkc ?pnA ?pnB ?pnC ?pnD
      (Sc.FT.of KX G ?fa ?fl ?fkl ?flow ?fe) (Sc.NT.of KX G ?na ?nl ?nkl ?ne ?nf) (Sc.int_of KX G ?v1) (Sc.int_of KX G ?v2) (Sc.int_of KX G ?v3) (Sc.int_of KX G ?v4) (Sc.int_of KX G ?v5) ?a ?l ?c ?k
    (case db1 => exact fun _ _ _ _ _ _ us hl => match us, hl with | [_], _ => rfl)
    (case da1 => k_is); (case dl1 => k_is); (case dc1 => k_is); (case dk1 => k_is)
    (case ta1 => k_is); (case tl1 => k_is); (case tk1 => exact rfl); (case tc1 => k_is); (case tv1 => exact rfl); (case n1 => first | kernel_rfl | exact rfl); (case r1 => decide +kernel)
    (case db2 => exact fun _ _ _ _ _ _ us hl => match us, hl with | [_], _ => rfl)
    (case da2 => k_is); (case dl2 => k_is); (case dc2 => k_is); (case dk2 => k_is)
    (case ta2 => k_is); (case tl2 => k_is); (case tk2 => exact rfl); (case tc2 => k_is); (case tv2 => exact rfl); (case n2 => first | kernel_rfl | exact rfl); (case r2 => decide +kernel)
    (case db3 => exact fun _ _ _ _ _ _ us hl => match us, hl with | [_, _], _ => rfl)
    (case da3 => k_is); (case dl3 => k_is); (case dc3 => k_is); (case dk3 => k_is)
    (case ta3 => k_is); (case tl3 => k_is); (case tk3 => exact rfl); (case tc3 => k_is); (case tv3 => exact rfl); (case n3 => first | kernel_rfl | exact rfl); (case r3 => decide +kernel)
    (case gS => k_is)
    (case bkg => k_is)
    (case bpg => k_is)
    (case nng => k_is)
    (case ttg => k_is)
    (case bkq => k_exc); (case bkk => k_is); (case bkb => k_is); (case bkt => k_is)
    (case bkh1 => k_is); (case bkh2 => k_is); (case bkh3 => k_is); (case bkh4 => k_is)
    (case bkx1 => k_is); (case bkx2 => k_is); (case bkx3 => k_is); (case bkx4 => k_is); (case bkx5 => k_is); (case bkx6 => k_is); (case bkx7 => k_is); (case bkx8 => k_is)
    (case bkv => kit_is)
    (case bkbk => kit_is); (case bkbp => kit_is); (case bknn => kit_is); (case bktt => kit_is)
    (case bpq => k_exc); (case bpk => k_is); (case bpb => k_is); (case bpt => k_is)
    (case bph1 => k_is); (case bph2 => k_is); (case bph3 => k_is); (case bph4 => k_is)
    (case bpx1 => k_is); (case bpx2 => k_is); (case bpx3 => k_is); (case bpx4 => k_is); (case bpx5 => k_is); (case bpx6 => k_is); (case bpx7 => k_is); (case bpx8 => k_is)
    (case bpv => kit_is)
    (case bpbk => kit_is); (case bpbp => kit_is); (case bpnn => kit_is); (case bptt => kit_is)
    (case nnq => k_exc); (case nnk => k_is); (case nnb => k_is); (case nnt => k_is)
    (case nnh1 => k_is); (case nnh2 => k_is); (case nnh3 => k_is); (case nnh4 => k_is)
    (case nnx1 => k_is); (case nnx2 => k_is); (case nnx3 => k_is); (case nnx4 => k_is); (case nnx5 => k_is); (case nnx6 => k_is); (case nnx7 => k_is); (case nnx8 => k_is)
    (case nnv => kit_is)
    (case nnbk => kit_is); (case nnbp => kit_is); (case nnnn => kit_is); (case nntt => kit_is)
    (case ttq => k_exc); (case ttk => k_is); (case ttb => k_is); (case ttt => k_is)
    (case tth1 => k_is); (case tth2 => k_is); (case tth3 => k_is); (case tth4 => k_is)
    (case ttx1 => k_is); (case ttx2 => k_is); (case ttx3 => k_is); (case ttx4 => k_is); (case ttx5 => k_is); (case ttx6 => k_is); (case ttx7 => k_is); (case ttx8 => k_is)
    (case ttv => kit_is)
    (case ttbk => kit_is); (case ttbp => kit_is); (case ttnn => kit_is); (case tttt => kit_is)
    (case gC => k_is); (case pa => k_is); (case pi => k_is); (case pl => k_is); (case pc => k_is); (case pk => k_is); (case ppg => k_is); (case phd => k_is); (case ppo => k_is); (case psa => k_is); (case pmk => k_is); (case pkc => k_is); (case pnA => k_is); (case pnB => k_is); (case pnC => k_is); (case pnD => k_is)
    (case fa => k_is); (case fl => k_is); (case flow => first | rfl | decide); (case na => k_is); (case nl => k_is); (case fe => first | kernel_rfl | rfl); (case ne => first | kernel_rfl | rfl); (case nf => first | kernel_rfl | rfl)
    (case fkl => refine He.keysLit_of (ks := Sc.formTab.map (·.1)) ?_; kernel_rfl)
    (case nkl => repeat (first | exact trivial | refine' ⟨⟨_, _, rfl, rfl⟩, ?_⟩))
    (case v1 => k_is); (case v2 => k_is); (case v3 => k_is); (case v4 => k_is)
    (case v5 => k_is)
    (case b0 => exact fun _ _ _ _ _ _ us hl => match us, hl with | [_, _], _ => rfl)
    (case b1 => exact fun _ _ _ _ _ _ us hl => match us, hl with | [_, _, _], _ => rfl)
    (case b2 => exact fun _ _ _ _ _ _ us hl => match us, hl with | [_, _, _], _ => rfl)
    (case b3 => exact fun _ _ _ _ _ _ us hl => match us, hl with | [_, _, _], _ => rfl)
    (case b4 => exact fun _ _ _ _ _ _ us hl => match us, hl with | [_, _], _ => rfl)
    (case b5 => exact fun _ _ _ _ _ _ us hl => match us, hl with | [_], _ => rfl)
    (case b6 => exact fun _ _ _ _ _ _ us hl => match us, hl with | [_], _ => rfl)
    (case b7 => exact fun _ _ _ _ _ _ us hl => match us, hl with | [_], _ => rfl)
    (case b8 => exact fun _ _ _ _ _ _ us hl => match us, hl with | [_], _ => rfl)
    (case b9 => exact fun _ _ _ _ _ _ us hl => match us, hl with | [_], _ => rfl)
    (case b10 => exact fun _ _ _ _ _ _ us hl => match us, hl with | [_], _ => rfl)
    (case b11 => exact fun _ _ _ _ _ _ us hl => match us, hl with | [_, _], _ => rfl)
    (case b12 => exact fun _ _ _ _ _ _ us hl => match us, hl with | [_, _], _ => rfl)
    (case b13 => exact fun _ _ _ _ _ _ us hl => match us, hl with | [_, _], _ => rfl)
    (case b14 => exact fun _ _ _ _ _ _ us hl => match us, hl with | [_], _ => rfl)
    (case b15 => exact fun _ _ _ _ _ _ us hl => match us, hl with | [_, _], _ => rfl)
    (case b16 => exact fun _ _ _ _ _ _ us hl => match us, hl with | [_, _], _ => rfl)
    (case b17 => exact fun _ _ _ _ _ _ us hl => match us, hl with | [_, _], _ => rfl)
    (case b18 => exact fun _ _ _ _ _ _ us hl => match us, hl with | [_, _], _ => rfl)
    (case b19 => exact fun _ _ _ _ _ _ us hl => match us, hl with | [_, _], _ => rfl)
    (case b20 => exact fun _ _ _ _ _ _ us hl => match us, hl with | [_, _], _ => rfl)
    (case b21 => exact fun _ _ _ _ _ _ us hl => match us, hl with | [_, _], _ => rfl)
    (case b22 => exact fun _ _ _ _ _ _ us hl => match us, hl with | [_, _], _ => rfl)
    (case b23 => exact fun _ _ _ _ _ _ us hl => match us, hl with | [_, _], _ => rfl)
    (case b24 => exact fun _ _ _ _ _ _ us hl => match us, hl with | [_, _], _ => rfl)
    (case b25 => exact fun _ _ _ _ _ _ us hl => match us, hl with | [_, _], _ => rfl)
    (case b26 => exact fun _ _ _ _ _ _ us hl => match us, hl with | [_, _], _ => rfl)
    (case b27 => exact fun _ _ _ _ _ _ us hl => match us, hl with | [_, _], _ => rfl)
    (case b28 => exact fun _ _ _ _ _ _ us hl => match us, hl with | [_], _ => rfl)
    (case b29 => exact fun _ _ _ _ _ _ us hl => match us, hl with | [_, _], _ => rfl)
    (case b30 => exact fun _ _ _ _ _ _ us hl => match us, hl with | [_, _], _ => rfl)
    (case b31 => exact fun _ _ _ _ _ _ us hl => match us, hl with | [_], _ => rfl)
    (case b32 => exact fun _ _ _ _ _ _ us hl => match us, hl with | [_], _ => rfl)
    (case b33 => exact fun _ _ _ _ _ _ us hl => match us, hl with | [_, _, _, _], _ => rfl)
    (case a0 => k_is); (case l0 => k_is); (case c0 => k_is); (case k0 => k_is)
    (case a1 => k_is); (case l1 => k_is); (case c1 => k_is); (case k1 => k_is)
    (case a2 => k_is); (case l2 => k_is); (case c2 => k_is); (case k2 => k_is)
    (case a3 => k_is); (case l3 => k_is); (case c3 => k_is); (case k3 => k_is)
    (case a4 => k_is); (case l4 => k_is); (case c4 => k_is); (case k4 => k_is)
    (case a5 => k_is); (case l5 => k_is); (case c5 => k_is); (case k5 => k_is)
    (case a6 => k_is); (case l6 => k_is); (case c6 => k_is); (case k6 => k_is)
    (case a7 => k_is); (case l7 => k_is); (case c7 => k_is); (case k7 => k_is)
    (case a8 => k_is); (case l8 => k_is); (case c8 => k_is); (case k8 => k_is)
    (case a9 => k_is); (case l9 => k_is); (case c9 => k_is); (case k9 => k_is)
    (case a10 => k_is); (case l10 => k_is); (case c10 => k_is); (case k10 => k_is)
    (case a11 => k_is); (case l11 => k_is); (case c11 => k_is); (case k11 => k_is)
    (case a12 => k_is); (case l12 => k_is); (case c12 => k_is); (case k12 => k_is)
    (case a13 => k_is); (case l13 => k_is); (case c13 => k_is); (case k13 => k_is)
    (case a14 => k_is); (case l14 => k_is); (case c14 => k_is); (case k14 => k_is)
    (case a15 => k_is); (case l15 => k_is); (case c15 => k_is); (case k15 => k_is)
    (case a16 => k_is); (case l16 => k_is); (case c16 => k_is); (case k16 => k_is)
    (case a17 => k_is); (case l17 => k_is); (case c17 => k_is); (case k17 => k_is)
    (case a18 => k_is); (case l18 => k_is); (case c18 => k_is); (case k18 => k_is)
    (case a19 => k_is); (case l19 => k_is); (case c19 => k_is); (case k19 => k_is)
    (case a20 => k_is); (case l20 => k_is); (case c20 => k_is); (case k20 => k_is)
    (case a21 => k_is); (case l21 => k_is); (case c21 => k_is); (case k21 => k_is)
    (case a22 => k_is); (case l22 => k_is); (case c22 => k_is); (case k22 => k_is)
    (case a23 => k_is); (case l23 => k_is); (case c23 => k_is); (case k23 => k_is)
    (case a24 => k_is); (case l24 => k_is); (case c24 => k_is); (case k24 => k_is)
    (case a25 => k_is); (case l25 => k_is); (case c25 => k_is); (case k25 => k_is)
    (case a26 => k_is); (case l26 => k_is); (case c26 => k_is); (case k26 => k_is)
    (case a27 => k_is); (case l27 => k_is); (case c27 => k_is); (case k27 => k_is)
    (case a28 => k_is); (case l28 => k_is); (case c28 => k_is); (case k28 => k_is)
    (case a29 => k_is); (case l29 => k_is); (case c29 => k_is); (case k29 => k_is)
    (case a30 => k_is); (case l30 => k_is); (case c30 => k_is); (case k30 => k_is)
    (case a31 => k_is); (case l31 => k_is); (case c31 => k_is); (case k31 => k_is)
    (case a32 => k_is); (case l32 => k_is); (case c32 => k_is); (case k32 => k_is)
    (case a33 => k_is); (case l33 => k_is); (case c33 => k_is); (case k33 => k_is)
    (case z0 => k_is)
    (case z1 => k_is)
    (case z2 => k_is)
    (case z3 => k_is)
    (case z4 => k_is)
    (case z5 => k_is)
    (case z6 => k_is)
    (case z7 => k_is)
    (case z8 => k_is)
    (case z9 => k_is)
    (case z10 => k_is)
    (case z11 => k_is)
    (case z12 => k_is)
    (case z13 => k_is)
    (case z14 => k_is)
    (case z15 => k_is)
    (case z16 => k_is)
    (case z17 => k_is)
    (case a => k_is); (case l => k_is); (case c => k_is); (case k => k_is)
