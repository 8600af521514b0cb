import PyProof.Rows.All
import Wide.All
import OpenK.AllK
import Wide.FinOn
import HandS.ForMost
import HandS.Set
import HandS.SetFor
import HandS.More
import HandS.Wide
import HandS.IsInst
import HandS.WordsDict
import HandS.FStr
import HandS.TupAny
import HandS.AnyAll
import HandS.ForExc
import HandS.WordsExc
import HandS.ExcIs
import HandS.RaiseMore
import HandS.ExcOwn
import PyProof.ExcBaseAll.ValueError
import KE.SortKeyHeap
import HandS.Lambda
import PyProof.Rows.CallKwBuiltin
import HandS.WordsList
import HandS.Deep
import HandS.DeepEq
import HandS.CallLocal
import HandS.Zip
import HandS.ListItems
import KE.KDictZip
import KE.KTurns
import HandS.Strs
import KE.KDictPairs
import HandS.Dict
import HandS.Iter
import HandS.DictComp
import HandS.EndTab
import HandS.HeadHook3
import PySem.Challenge.RW_soothcheck_k16_programs_that_are_one
set_option Elab.async false
set_option linter.all false
set_option maxRecDepth 100000
set_option maxHeartbeats 4000000
namespace Sc
open PySem PySem.Spec PyProof.Rows L2
/-! sets of texts: set(a list of texts), sorted of that -/
def txOf (c : Int × Value) : Str := match c.2 with | .str x _ => x | _ => Str.empty
def TxE (w : World) (c : Int × Value) : Prop := ∃ x tk, c.2 = Value.str x tk ∧ c.1 = hashStr w x
/-- a set of texts stands at a: which, how many; it can be walked -/
def TxSet (w : World) (h : Heap) (a : Addr) (S : Str → Bool) (n : Nat) : Prop :=
  ∃ ob cs ver tb, h.get? a = some ob ∧ ob.ExactSet ∧ ob.data = .set cs ver tb ∧ (∀ c ∈ cs.toList, TxE w c) ∧ (cs.toList.map txOf).Nodup ∧
    (∀ x, S x = true ↔ x ∈ cs.toList.map txOf) ∧ cs.size < scanBound ∧ tb.fits cs.size = true ∧ cs.size = n ∧ Ris tb.place.toList ∧
    (w.params.followText "set-order" = true ∨ tb.led = true)
section
variable {P : Program} {w : World} {h h' : Heap} {a : Addr} {S : Str → Bool} {n : Nat}
theorem TxSet.keep (R : TxSet w h a S n) (kp : ∀ ob, h.get? a = some ob → h'.get? a = some ob) : TxSet w h' a S n := by
  obtain ⟨ob, cs, ver, tb, hob, more⟩ := R
  exact ⟨ob, cs, ver, tb, kp ob hob, more⟩
theorem TxSet.say {S' : Str → Bool} (R : TxSet w h a S n) (same : ∀ x, S' x = S x) : TxSet w h a S' n := (funext same : S' = S) ▸ R
theorem tx_elems {l : List (Int × Value)} (g : ∀ c ∈ l, TxE w c) : ElemsOf (strKind P w) l := fun c hc => by
  obtain ⟨x, tk, h1, h2⟩ := g c hc
  refine ⟨⟨x, ?_, h2⟩, by rw [h1] <;> rfl⟩
  rw [h1]
  show Value.isStrOf x (.str x tk) = true
  simp [Value.isStrOf]
theorem tx_is {c : Int × Value} (g : TxE w c) (x : Str) : (strKind P w).is x c.2 = true ↔ txOf c = x := by
  obtain ⟨y, tk, h1, _⟩ := g
  unfold txOf
  rw [h1]
  show Value.isStrOf x (.str y tk) = true ↔ y = x
  constructor
  · intro q
    obtain ⟨t, e⟩ := Value.isStrOf_shape (x := x) (v := Value.str y tk) q
    injection e
  · rintro rfl
    simp [Value.isStrOf]
theorem tx_mem {l : List (Int × Value)} (g : ∀ c ∈ l, TxE w c) (x : Str) : x ∈ l.map txOf ↔ ∃ c ∈ l, (strKind P w).is x c.2 = true := by
  refine List.mem_map.trans ⟨fun ⟨c, hc, q⟩ => ⟨c, hc, (tx_is (g c hc) x).2 q⟩, fun ⟨c, hc, q⟩ => ⟨c, hc, (tx_is (g c hc) x).1 q⟩⟩
end
section
variable {P : Program} {w : World} {A : Around} {E : Value → Shared → Prop} {s : Shared} {a : Addr} {S : Str → Bool} {n : Nat}
theorem tx_add_tail {note : Bool → Sem Unit} (hnote : ∀ (b : Bool) (s1 : Shared) (R : Unit → Shared → Prop), R () s1 → wpAny (model P w) A (note b) R E s1)
    {ob : Obj} {cs : Array (Int × Value)} {ver : Nat} {tb : SetTable} (hob : s.heap.get? a = some ob) (ex : ob.ExactSet) (dt : ob.data = .set cs ver tb)
    {cs1 : Array (Int × Value)} {tb1 : SetTable} {S1 : Str → Bool} (gd : ∀ c ∈ cs1.toList, TxE w c) (nd : (cs1.toList.map txOf).Nodup) (mm : ∀ x, S1 x = true ↔ x ∈ cs1.toList.map txOf)
    (few : cs1.size < scanBound) (ft : tb1.fits cs1.size = true) (ri : Ris tb1.place.toList) (ld : w.params.followText "set-order" = true ∨ tb1.led = true) {dummy : Bool} {R : Option Bool → Shared → Prop}
    (fin : ∀ h', Heap.SameBut a s.heap h' → TxSet w h' a S1 cs1.size → R (some true) { s with heap := h' }) :
    wpAny (model P w) A (do
        storeSet a cs1 tb1
        if (!dummy && tb1.tooFull) = true then do
            note (relayAll tb1 cs1 (SetTable.grown cs1.size)).2.2
            storeSet a (relayAll tb1 cs1 (SetTable.grown cs1.size)).1 (relayAll tb1 cs1 (SetTable.grown cs1.size)).2.1
            pure (some true)
          else pure (some true)) R E s := by
  refine wpAny_bind (wpAny_storeSet_of hob dt ?_ (fits_of_scanBound few))
  have at1 := L2.store_at (es' := cs1) (t' := tb1) hob dt
  have sb := Heap.SameBut.update s.heap a (Obj.putSet cs1 tb1)
  by_cases hfull : (!dummy && tb1.tooFull) = true
  · rw [if_pos hfull]
    have r1 := relayAll_perm tb1 cs1 (SetTable.grown cs1.size)
    have r2 := relayAll_fits tb1 cs1 (SetTable.grown cs1.size)
    have r3 := relayAll_ris tb1 cs1 (SetTable.grown cs1.size)
    have r4 := relayAll_led tb1 cs1 (SetTable.grown cs1.size)
    generalize relayAll tb1 cs1 (SetTable.grown cs1.size) = Y at r1 r2 r3 r4 ⊢
    obtain ⟨cs2, tb2, way⟩ := Y
    dsimp only at r1 r2 r3 r4 ⊢
    have sz : cs2.size = cs1.size := by rw [← Array.length_toList, ← Array.length_toList]; exact r1.length_eq
    have few2 : cs2.size < scanBound := sz ▸ few
    refine wpAny_bind (hnote _ _ _ (wpAny_bind (wpAny_storeSet_of at1 rfl ?_ (fits_of_scanBound few2))))
    have at2 := L2.store_at (es' := cs2) (t' := tb2) at1 rfl
    refine wpAny_pure (fin _ (sb.trans (Heap.SameBut.update _ a _)) ⟨_, cs2, _, tb2, at2, ex, rfl, fun c hc => gd c (r1.mem_iff.mp hc), ?_, fun x => ?_, few2, r2, sz, r3, ?_⟩)
    · exact (r1.map txOf).nodup_iff.mpr nd
    · exact (mm x).trans (r1.map txOf).mem_iff.symm
    · exact ld.imp id fun z => r4 ▸ z
  · rw [if_neg hfull]
    exact wpAny_pure (fin _ sb ⟨_, cs1, _, tb1, at1, ex, rfl, gd, nd, mm, few, ft, rfl, ri, ld⟩)
theorem tx_add {x : Str} {tk : Tok} {Q : Bool → Shared → Prop} (R : TxSet w s.heap a S n) (room : n + 1 < scanBound)
    (fin : ∀ h', Heap.SameBut a s.heap h' → TxSet w h' a (fun y => S y || decide (y = x)) (if S x = true then n else n + 1) → Q (!S x) { s with heap := h' }) :
    wpAny (model P w) A (setAddHashed a (.str x tk) ((strKind P w).hash x)) Q E s := by
  obtain ⟨ob, cs, ver, tb, hob, ex, dt, gd, nd, mm, few, ft, sz, ri, ld⟩ := R
  have isx : (strKind P w).is x (.str x tk) = true := by
    show Value.isStrOf x (.str x tk) = true
    simp [Value.isStrOf]
  have scn : (Value.str x tk).scannable = true := rfl
  have els : ElemsOf (strKind P w) cs.toList := tx_elems gd
  unfold setAddHashed setAddHashedIn
  refine wpAny_holding (wpAny_bind (wpAny_setState_of hob dt ft ?_))
  dsimp only
  rw [byScan_of scn few els]
  simp only [↓reduceIte]
  unfold setAddByScan
  refine wpAny_bind (wpAny_bind (wpAny_rule (wpAny_bind (wpAny_setScan_of isx hob dt ft els ?_))))
  cases found : List.findIdx? (fun e => (strKind P w).is x e.2) cs.toList with
  | some j =>
    dsimp only
    obtain ⟨lt, yes, _⟩ := List.findIdx?_eq_some_iff_getElem.mp found
    have inS : S x = true := (mm x).2 ((tx_mem (P := P) (w := w) gd x).2 ⟨cs.toList[j], List.getElem_mem lt, yes⟩)
    refine wpAny_pure (wpAny_pure ?_)
    have z := fin s.heap (Heap.SameBut.refl a s.heap) ⟨ob, cs, ver, tb, hob, ex, dt, gd, nd, fun y => ?_, few, ft, by rw [if_pos inS]; exact sz, ri, ld⟩
    · rw [inS] at z
      exact z
    · rw [Bool.or_eq_true, decide_eq_true_eq, ← mm y]
      exact ⟨fun o => o.elim id fun e => e ▸ inS, .inl⟩
  | none =>
    dsimp only
    have out : x ∉ cs.toList.map txOf := fun z => by
      obtain ⟨c, hc, q⟩ := (tx_mem (P := P) (w := w) gd x).1 z
      exact absurd q (by rw [List.findIdx?_eq_none_iff.mp found c hc]; exact Bool.false_ne_true)
    have outS : S x = false := Bool.eq_false_iff.mpr fun q => out ((mm x).1 q)
    have gave : ∀ (b : Bool) {s1 : Shared} {R : Unit → Shared → Prop}, R () s1 → wpAny (model P w) A (match b with | true => rule "set.scan.the-table-gave-way" | false => pure ()) R E s1 :=
      fun b s1 R q => by cases b <;> first | exact wpAny_pure q | exact wpAny_rule q
    have l1 := layNew_perm tb cs ((strKind P w).hash x) (.str x tk)
    have l2 := layNew_fits tb cs ((strKind P w).hash x) (.str x tk)
    have l3 := layNew_ris tb cs ((strKind P w).hash x) (.str x tk) ri
    have l4 := layNew_led tb cs ((strKind P w).hash x) (.str x tk)
    generalize layNew tb cs ((strKind P w).hash x) (.str x tk) = Y at l1 l2 l3 l4 ⊢
    obtain ⟨cs1, tb1, dummy, way⟩ := Y
    dsimp only at l1 l2 l3 l4 ⊢
    rw [Array.toList_push] at l1
    have pm : cs1.toList.Perm (((strKind P w).hash x, Value.str x tk) :: cs.toList) := l1.trans (List.perm_append_singleton _ _)
    have pk : (cs1.toList.map txOf).Perm (x :: cs.toList.map txOf) := pm.map txOf
    have gd1 : ∀ c ∈ cs1.toList, TxE w c := fun c hc => (List.mem_cons.mp (pm.mem_iff.mp hc)).elim (fun z => z ▸ ⟨x, tk, rfl, rfl⟩) (gd c)
    have ndd : (cs1.toList.map txOf).Nodup := pk.nodup_iff.mpr (List.nodup_cons.mpr ⟨out, nd⟩)
    have mm1 : ∀ y, (S y || decide (y = x)) = true ↔ y ∈ cs1.toList.map txOf := fun y => by
      rw [pk.mem_iff, List.mem_cons, ← mm y, Bool.or_eq_true, decide_eq_true_eq]
      exact Or.comm
    have sz1 : cs1.size = n + 1 := by rw [← sz, ← Array.length_toList, pm.length_eq, List.length_cons, Array.length_toList]
    have few1 : cs1.size < scanBound := sz1 ▸ room
    have ld1 : w.params.followText "set-order" = true ∨ tb1.led = true := ld.imp id fun z => l4 ▸ z
    have done : ∀ h', Heap.SameBut a s.heap h' → TxSet w h' a (fun y => S y || decide (y = x)) cs1.size → Q true { s with heap := h' } := fun h' sb r => by
      have z := fin h' sb
      rw [outS] at z
      exact z (sz1 ▸ r)
    refine wpAny_bind (gave _ ?_)
    split
    · refine wpAny_bind ?_
      rw [hashByValue_scannable 8 scn]
      refine wpAny_pure (tx_add_tail (fun b s1 R q => ?_) hob ex dt gd1 ndd mm1 few1 ?_ ?_ ?_ fun h' sb r => ?_)
      · cases b <;> first | exact wpAny_pure q | exact wpAny_rule q
      · first | (split <;> first | exact l2 | exact SetTable.fits_plain_off l2) | exact l2
      · first | (split <;> exact l3) | exact l3
      · first | (split <;> exact ld1) | exact ld1
      · dsimp only
        exact wpAny_pure (done h' sb r)
    · refine wpAny_bind (wpAny_pure ?_)
      simp only [↓reduceIte]
      refine tx_add_tail (fun b s1 R q => ?_) hob ex dt gd1 ndd mm1 few1 l2 l3 ld1 fun h' sb r => ?_
      · cases b <;> first | exact wpAny_pure q | exact wpAny_rule q
      · dsimp only
        exact wpAny_pure (done h' sb r)
end

/-! the loop of update, the call set(l), sorted -/
abbrev bareSet (w : World) : Obj := { cls := .type "set", dict := none, data := .set #[] 0 (.fresh 0 0 (!w.params.followText "set-order")) }
theorem tx_bare {w : World} {h : Heap} {a : Addr} {zs : List Str} (hob : h.get? a = some (bareSet w)) : TxSet w h a (fun y => decide (y ∈ zs.take 0)) 0 := by
  refine ⟨_, #[], 0, _, hob, ⟨rfl, rfl, rfl⟩, rfl, ?_, ?_, ?_, by decide, by rfl, rfl, List.Pairwise.nil, ?_⟩
  · intro c hc
    simp at hc
  · simp
  · intro x
    simp
  · show _ ∨ (!w.params.followText "set-order") = true
    cases w.params.followText "set-order" <;> simp
section
variable {P : Program} {w : World} {A : Around} {E : Value → Shared → Prop} {s : Shared}
theorem tx_update {it : Addr} {fp wr : List Addr} {G : Array GenState → Array GenState → Prop} {n : Nat} {Pv : Nat → Value → Prop} {At : Nat → Shared → Prop} {R : Result → Shared → Prop}
    (W : WalksS P w A.in1 it fp wr G n Pv At) (d : Addr) (apart : d ∉ fp) (zs : List Str) (en : n = zs.length) (room : zs.length + 1 < scanBound) (item : ∀ i v, Pv i v → ∃ x t, zs[i]? = some x ∧ v = .str x t) :
    ∀ (left i : Nat) (s : Shared), n - i = left → i ≤ n → At i s → (∃ m, m ≤ i ∧ TxSet w s.heap d (fun y => decide (y ∈ zs.take i)) m) →
      (∀ s' m, Moved (d :: wr) G s s' → m ≤ n → TxSet w s'.heap d (fun y => decide (y ∈ zs)) m → R (.ok (.ret .none)) s') →
      codeAny (model P w) A (.builtin "set.update.loop" ⟨[.ref d, .ref it], []⟩) R s := by
  have dw : d ∉ wr := fun z => apart (W.sub _ z)
  have more : ∀ b ∈ wr, b ∈ d :: wr := fun b z => List.mem_cons_of_mem _ z
  intro left
  induction left with
  | zero =>
    intro i s el le at_ ⟨m, hm, R0⟩ go
    have ei : i = n := by omega
    subst ei
    refine codeAny_builtin PyProof.Rows.F.entry_set_update_loop ?_
    rw [Around.under_plainId PyProof.Rows.F.plain_set_update_loop _]
    show wpAny _ A.in1 (pyNext (.ref it) >>= _) _ _ s
    refine wpAny_bind (W.done s _ _ at_ fun s' mv => ?_)
    show wpAny _ A.in1 (ret Value.none) _ _ s'
    rw [show zs.take i = zs from List.take_of_length_le (by omega)] at R0
    exact wpAny_pure (go s' m (mv.mono more) hm (R0.keep fun ob e => mv.heap d ob dw e))
  | succ left ih =>
    intro i s el le at_ ⟨m, hm, R0⟩ go
    have lt : i < n := by omega
    refine codeAny_builtin PyProof.Rows.F.entry_set_update_loop ?_
    rw [Around.under_plainId PyProof.Rows.F.plain_set_update_loop _]
    show wpAny _ A.in1 (pyNext (.ref it) >>= _) _ _ s
    refine wpAny_bind (W.item i s _ _ lt at_ fun v s1 pv at1 mv => ?_)
    obtain ⟨x, t, hx, rfl⟩ := item i v pv
    have R1 : TxSet w s1.heap d (fun y => decide (y ∈ zs.take i)) m := R0.keep fun ob e => mv.heap d ob dw e
    show wpAny _ A.in1 (holding [Value.str x t] (setAdd d (.str x t)) >>= _) _ _ s1
    refine wpAny_bind (wpAny_holding ?_)
    unfold setAdd
    refine wpAny_holding (wpAny_bind ((strKind P w).pyHash (k := x) (v := .str x t) ?_ ?_))
    · show Value.isStrOf x (.str x t) = true
      simp [Value.isStrOf]
    refine tx_add (s := { s1 with toks := s1.toks + 1 }) R1 (by omega) fun h2 sb R2 => ?_
    have R3 : TxSet w h2 d (fun y => decide (y ∈ zs.take (i + 1))) (if decide (x ∈ zs.take i) = true then m else m + 1) := R2.say fun y => by
      rw [List.take_add_one, hx]
      simp [List.mem_append]
    have hm3 : (if decide (x ∈ zs.take i) = true then m else m + 1) ≤ i + 1 := by split <;> omega
    refine wpAny_pure ⟨plainId_quiet PyProof.Rows.F.plain_set_update_loop _, ih (i + 1) _ (by omega) lt (W.frame _ s1 _ _ at1 (Nat.le_succ _) fun b hb ob e => ?_) ⟨_, hm3, R3⟩ fun s3 m3 mv3 le3 R4 => ?_⟩
    · exact (sb.2 b fun z => apart (z ▸ hb)).trans e
    · refine go s3 m3 (Moved.trans W.gtrans ((mv.mono more).then_heap (Nat.le_succ _) fun b ob hb e => ?_) mv3) le3 R4
      exact (sb.2 b fun z => hb (z ▸ List.mem_cons_self)).trans e
theorem tx_item : ∀ {us : List Value} {zs : List Str}, StrsAre us zs → ∀ (i : Nat) (v : Value), us[i]? = some v → ∃ x t, zs[i]? = some x ∧ v = .str x t
  | _, _, .nil, i, v, hi => by simp at hi
  | _, _, .cons x t _, 0, v, hi => ⟨x, t, rfl, by simpa using hi.symm⟩
  | _, _, .cons _ _ rest, i + 1, v, hi => by simpa using tx_item rest i v (by simpa using hi)
/-- set(l), l a list of texts -/
theorem call_set_txs {l : Addr} {items : Array Value} (zs : List Str) {Q : Value → Shared → Prop} (calm : A.handled = none) (hl : s.heap.IsList l items) (hit : StrsAre items.toList zs) (room : zs.length + 1 < scanBound)
    (fin : ∀ (h' : Heap) (tk m : Nat), TxSet w h' s.heap.objs.size (fun y => decide (y ∈ zs)) m → m ≤ zs.length → (∀ b ob, s.heap.get? b = some ob → h'.get? b = some ob) → Q (.ref s.heap.objs.size) { s with heap := h', toks := tk }) :
    wpAny (model P w) A (call (.type "set") [.ref l]) Q E s := by
  have isz : items.size = zs.length := by
    have z := hit.length
    rw [Array.length_toList] at z
    exact z
  obtain ⟨c, tl, hmro⟩ := F.called_set.mro
  have hmade := F.called_set.made
  have hsub := F.called_set.sub
  refine wpAny_call (codeAny_of_tree ?_)
  show wpAny _ _ (callAny (.type "set") _) _ _ _
  refine wpAny_pure ⟨Code.quiet_builtin _ (by decide +kernel), codeAny_builtin F.entry_type_call ?_⟩
  rw [Around.under_plain (weight_type_call_type "set" [.ref l] []) rfl]
  have no_t := F.called_set.notType
  have can := F.called_set.canCreate
  have chk := PySem.F.typeCall_set_1 (.ref l)
  repeat (any_goals (first | assumption | wp_step))
  refine codeAny_mono (code_set_led1 (.ref l) (E := E) (Q₁ := fun obj s1 => obj = .ref s.heap.objs.size ∧ s1 = { s with heap := s.heap.push (bareSet w) }) ⟨rfl, rfl⟩) fun r s1 hr => ?_
  cases r with
  | error e => exact hr
  | ok fl =>
  cases fl with
  | next => exact hr.elim
  | brk => exact hr.elim
  | cont => exact hr.elim
  | ret obj =>
  obtain ⟨rfl, rfl⟩ := hr
  have atS : (s.heap.push (bareSet w)).get? s.heap.objs.size = some (bareSet w) := Heap.get?_push_size _ rfl
  have tyS : Shared.TypeIs { s with heap := s.heap.push (bareSet w) } (.ref s.heap.objs.size) "set" := ⟨_, atS, rfl⟩
  have ini := F.called_set.init.lookup
  have inb := F.called_set.init.bind (.ref s.heap.objs.size)
  repeat (any_goals (first | assumption | wp_step))
  refine codeAny_mono (codeAny_call_builtin (R := wants (fun r s2 => r = .none ∧ ∃ h' tk m, s2 = { s with heap := h', toks := tk } ∧ TxSet w h' s.heap.objs.size (fun y => decide (y ∈ zs)) m ∧ m ≤ zs.length ∧
      (∀ b ob, s.heap.get? b = some ob → h'.get? b = some ob)) E) F.called_set.init.plain F.entry_set_init (check_set_init_1 tyS ?_)) fun r2 s2 hr2 => ?_
  · obtain ⟨ob, hob, hc, nl, hd⟩ := hl
    obtain ⟨k1, k2, k3, k4⟩ := ob
    simp only at hc hd
    subst hc hd
    have ob1 : (s.heap.push (bareSet w)).get? l = some { cls := .type "list", dict := k2, data := .seq items nl, slots := k4 } := Heap.get?_push_of_some _ hob
    have not1 := F.sub_list_set
    have not2 := F.sub_list_frozenset
    have not3 : (Value.type "list" == Value.type "dict") = false := by decide
    have l1 : (s.heap.push (bareSet w)).IsList l items := ⟨_, ob1, rfl, nl, rfl⟩
    unfold Builtin.«set.__init__» noKeywords Builtin.Frozenset.updateFrom
    generalize hIt : pyIter = It
    wp_walk
    subst hIt
    refine wpAny_pyIter_list l1 (wpAny_bind (wpAny_runValue ?_))
    have low : l < s.heap.objs.size := Heap.lt_size hob
    have calm3 : A.in1.in1.in1.handled = none := by simp [calm]
    have one : (s.heap.push (bareSet w)).objs.size = s.heap.objs.size + 1 := Heap.size_push ..
    have n1 : l ≠ (s.heap.push (bareSet w)).objs.size := Nat.ne_of_lt (by rw [one]; exact Nat.lt_succ_of_lt low)
    have n2 : s.heap.objs.size ∉ [(s.heap.push (bareSet w)).objs.size, l] := by
      rw [List.mem_cons, List.mem_singleton, one]
      exact fun z => z.elim (Nat.ne_of_lt (Nat.lt_succ_self _)) (Nat.ne_of_gt low)
    refine tx_update ((Walks.list calm3 _ l n1 items).toS) s.heap.objs.size n2 zs isz room (fun i v hv => tx_item hit i v (by rw [Array.getElem?_toList]; exact hv)) (items.size - 0) 0 _ (by omega) (Nat.zero_le _)
      ⟨⟨_, Heap.get?_push_size _ rfl, rfl, rfl⟩, (l1.push _)⟩ ⟨0, Nat.le_refl 0, tx_bare (Heap.get?_push_of_some _ atS)⟩ ?_
    intro s3 m mv hm R3
    obtain ⟨h3, g3, d3, t3, o3⟩ := s3
    have z1 : g3 = s.gens := mv.gens
    have z2 : d3 = s.drawn := mv.drawn
    have z3 : o3 = s.os := mv.os
    subst z1 z2 z3
    show wpAny _ _ _ _ _ _
    refine wpAny_pure ?_
    show wpAny _ _ (ret Value.none) _ _ _
    refine wpAny_pure ⟨rfl, h3, t3, m, rfl, R3, isz ▸ hm, fun b ob e => ?_⟩
    have lb : b < s.heap.objs.size := Heap.lt_size e
    refine mv.heap b ob ?_ (Heap.get?_push_of_some _ (Heap.get?_push_of_some _ e))
    rw [List.mem_cons, List.mem_singleton, one]
    exact fun z => z.elim (Nat.ne_of_lt lb) (Nat.ne_of_lt (Nat.lt_succ_of_lt lb))
  · cases r2 with
    | error e => exact hr2
    | ok fl2 =>
    cases fl2 with
    | next => exact hr2.elim
    | brk => exact hr2.elim
    | cont => exact hr2.elim
    | ret r =>
    obtain ⟨rfl, h', tk, m, rfl, R2, hm, kp⟩ := hr2
    repeat (any_goals (first | assumption | wp_step))
    exact fin _ _ _ R2 hm kp

/-- sorted(d), d a set of texts -/
theorem call_sorted_txs {d : Addr} {S : Str → Bool} {n : Nat} {Q : Value → Shared → Prop} (R : TxSet w s.heap d S n) (calm : A.handled = none) (few : n < 64)
    (fin : ∀ s' p (out : Array Value) (c : Nat) (ys : List Str), (∀ b ob, s.heap.get? b = some ob → s'.heap.get? b = some ob) → s'.gens = s.gens → s'.os = s.os → s.heap.objs.size ≤ p →
      s'.heap.get? p = some (seqObj "list" out c) → StrsAre out.toList ys → sortedS ys = true → ys.Nodup → (∀ x, x ∈ ys ↔ S x = true) → ys.length = n → Q (.ref p) s') :
    wpAny (model P w) A (call (.builtin "sorted") [.ref d]) Q E s := by
  obtain ⟨ob, cs, ver, tb, hob, ex, dt, gd, nd, mm, sb, ft, sz, ri, ld⟩ := R
  refine Calls.call_function_entry PyProof.Rows.kind_sorted PyProof.Rows.plain_sorted PyProof.Rows.entry_sorted (PyProof.Rows.args_sorted1 _) ?_
  unfold Builtin.«sorted»
  refine wpAny_bind (m := checkCount "sorted" 1 1 _) (wpAny_pure ?_)
  refine wpAny_bind (collect_set (A := A.in1) calm ⟨ob, hob, ex.1, dt⟩ ft sb ri ld fun s1 us kp hz hg ho pm => ?_)
  have lu : us.length = n := by rw [pm.length_eq, List.length_map, Array.length_toList]; exact sz
  have txs : ∀ (ws : List Value), (∀ v ∈ ws, ∃ c ∈ cs.toList, v = c.2) → ∃ zs, StrsAre ws zs ∧ zs = ws.map fun v => txOf (0, v) := by
    intro ws
    induction ws with
    | nil => exact fun _ => ⟨[], .nil, rfl⟩
    | cons v ws ih =>
      intro al
      obtain ⟨zs, h1, h2⟩ := ih fun u hu => al u (List.mem_cons_of_mem _ hu)
      obtain ⟨c, hc, rfl⟩ := al v List.mem_cons_self
      obtain ⟨x, tk, e, _⟩ := gd c hc
      refine ⟨x :: zs, ?_, ?_⟩
      · rw [e]; exact .cons x tk h1
      · rw [List.map_cons, ← h2]
        unfold txOf
        rw [e]
  obtain ⟨zs, hS, ez⟩ := txs us fun v hv => by
    obtain ⟨c, hc, e⟩ := List.mem_map.mp (pm.mem_iff.mp hv)
    exact ⟨c, hc, e.symm⟩
  have pz : zs.Perm (cs.toList.map txOf) := by
    rw [ez]
    have z := pm.map fun v => txOf ((0 : Int), v)
    rw [List.map_map] at z
    exact z
  refine wpAny_bind (wpAny_newList ?_ (by rw [lu, sizeLine_eq]; omega))
  have atL : (s1.heap.push (seqObj "list" us.toArray 0)).get? s1.heap.objs.size = some (seqObj "list" us.toArray 0) := Heap.get?_push_size _ rfl
  refine wpAny_bind (wpAny_holding (wpAny_call_entry PyProof.Rows.slot_list_sort ⟨_, atL, rfl⟩ PyProof.Rows.entry_list_sort
    (list_sort_treeK strKind_oneLt atL hS.keysOf (fun u1 u2 more e => keyKind_strs (by rw [← e]; exact hS)) (by rw [lu]; exact few) fun st pp sp => ⟨_, rfl, ?_⟩) (PyProof.Rows.args_list_sort _)))
  obtain ⟨ys, g1, g2, g3⟩ := sorted_out_str hS pp sp
  obtain ⟨c, hc⟩ := PyProof.Rows.sortedHeap_at (vs := us) (out := (arrOf st).map (·.2)) atL
  have py := g2.trans pz
  refine wpAny_pure ⟨_, rfl, fin _ s1.heap.objs.size ((arrOf st).map (·.2)) c ys (fun b u e => ?_) hg ho hz hc g1 g3 (py.nodup_iff.mpr nd) (fun x => py.mem_iff.trans (mm x).symm) ?_⟩
  · have lt := Heap.lt_size (kp b u e)
    show (PyProof.Rows.sortedHeap (s1.heap.push (seqObj "list" us.toArray 0)) s1.heap.objs.size us _).get? b = some u
    rw [PyProof.Rows.sortedHeap_old (Nat.ne_of_lt lt) (by rw [size_push']; exact Nat.lt_succ_of_lt lt)]
    exact Heap.get?_push_of_some _ (kp b u e)
  · rw [py.length_eq, List.length_map, Array.length_toList]; exact sz
end
/-! as rules -/
def TxO (w : World) (a : Addr) (S : Str → Bool) (n : Nat) : HO := .ext fun h => TxSet w h a S n
section
variable {X : Cx}
def rTxSet (K : PySem.W.Frag) (w : World) : List V → Hp → VK → Prop := fun xs H Q => ∃ (l : Addr) (zs : List Str), xs = [V.ref l] ∧ SqL K H l (zs.map V.str) ∧ zs.length < 1000 ∧
  ∀ a m, H a = none → m ≤ zs.length → Q (.ref a) (upd H a (TxO w a (fun y => decide (y ∈ zs)) m))
theorem cr_txSet (hc : X.calm = true) : CallR X (.type "set") (rTxSet X.K X.w) := by
  intro pins s σ H xs us Q I r h
  obtain ⟨l, zs, rfl, hl, few, q⟩ := h
  rw [Vals.ref1 r]
  obtain ⟨its, rv, pl, hz⟩ := I.list hl
  have free : H s.heap.objs.size = none := I.hok.fresh (Nat.le_refl _)
  refine call_set_txs (P := X.prog) (w := X.w) zs (I.ok.hd hc) pl.isList rv.strs (by unfold scanBound; omega) fun h' tk m R hm kp => ?_
  have R' : ∀ H2 : Hp, ObjOk X.prog X.w H2 h' s.heap.objs.size (TxO X.w s.heap.objs.size (fun y => decide (y ∈ zs)) m) := fun H2 => by
    have ⟨ob, _, _, _, hob, _⟩ := R
    exact ⟨R, ⟨ob, hob⟩, fun h1 h2 p k => p.keep k⟩
  exact ⟨.ref s.heap.objs.size, _, I.laid (t' := tk) kp (Nat.le_refl _) (R' _), rfl, q _ m free hm⟩
def rTxSorted (w : World) : List V → Hp → VK → Prop := fun xs H Q => ∃ (d : Addr) (S : Str → Bool) (n : Nat), xs = [V.ref d] ∧ H d = some (TxO w d S n) ∧ n < 64 ∧
  ∀ (ys : List Str) (p : Addr), sortedS ys = true → ys.Nodup → (∀ x, x ∈ ys ↔ S x = true) → ys.length = n → H p = none → Q (.ref p) (upd H p (.lst (ys.map V.str)))
theorem cr_txSorted (hc : X.calm = true) : CallR X (.builtin "sorted") (rTxSorted X.w) := by
  intro pins s σ H xs us Q I r h
  obtain ⟨d, S, n, rfl, hd, few, q⟩ := h
  have R : TxSet X.w s.heap d S n := (I.hok d _ hd).1
  rw [Vals.ref1 r]
  refine call_sorted_txs (P := X.prog) R (I.ok.hd hc) few fun s' p out c ys kp hg ho hp at' hS so nd mem len => ?_
  have le : (ys.map V.str).length ≤ sizeLine := by rw [List.length_map, len, sizeLine_eq]; omega
  have free : H p = none := I.hok.fresh hp
  have J : Inv X pins σ (upd H p (.lst (ys.map V.str))) { s with heap := s'.heap, gens := s'.gens, drawn := s'.drawn, toks := s'.toks } :=
    I.call (ch := []) (Un.laid kp hp free) (I.hok.laid kp hp ⟨le, out.toList, c, vals_of_strs hS, at'⟩) (by rw [hg]; exact I.bare) (fun _ z => nomatch z)
  have e : s' = { s with heap := s'.heap, gens := s'.gens, drawn := s'.drawn, toks := s'.toks } := by
    obtain ⟨h1, h2, h3, h4, h5⟩ := s'
    cases ho
    rfl
  rw [e]
  exact ⟨.ref p, _, J, rfl, q ys p so nd mem len free⟩
end
end Sc
namespace Sc
open PySem PySem.Spec PyProof.Rows L2
/-! one sign, many times -/
def reps (c n : Nat) : Str := ⟨(List.replicate n c).toArray⟩
theorem fold_reps (c : Nat) : ∀ (n : Nat) (acc : Array Nat), (List.replicate n #[c]).foldl (· ++ ·) acc = acc ++ (List.replicate n c).toArray
  | 0, acc => by simp
  | n + 1, acc => by
    rw [List.replicate_succ, List.foldl_cons, fold_reps c n]
    apply Array.ext'
    simp [List.replicate_succ]
section
variable {X : Cx}
def rReps : V → V → Hp → VK → Prop := fun x y H Q => ∃ (c : Nat) (k : Int), x = .str ⟨#[c]⟩ ∧ y = .int k ∧ 0 ≤ k ∧ k ≤ 1000 ∧ Q (.str (reps c k.toNat)) H
theorem op_reps : OpR X (binaryOp .Mult) rReps := by
  intro pins s σ H x y v u Q I rx ry h
  obtain ⟨c, k, rfl, rfl, h0, h1, q⟩ := h
  obtain ⟨t, rfl⟩ := rx
  obtain ⟨t', rfl⟩ := ry
  have ln : (⟨#[c]⟩ : Str).length = 1 := rfl
  refine PySem.P.mul_str (by rw [decide_eq_false (by omega), decide_eq_false (by omega)]; rfl) (fun a b => ?_) (fun a b => ?_) ?_
  · rw [ln]
    have hk : k ≠ 0 := by omega
    have : 1 * k ≤ 2 ^ 63 - 1 := by omega
    have := (Int.le_ediv_iff_mul_le (a := 1) (b := 2 ^ 63 - 1) (c := k) (by omega)).mpr this
    show ¬ (1 : Int) > (2 ^ 63 - 1) / k
    omega
  · rw [ln]
    unfold Builtin.Str.tooLong
    rw [decide_eq_false]
    rw [sizeLine_eq]
    omega
  · by_cases a : k < 1
    · rw [if_pos a]
      have e : reps c k.toNat = Str.empty := by rw [show k.toNat = 0 by omega]; rfl
      rw [e] at q
      exact ⟨by decide, ⟨.str Str.empty, H, I.tok _, ⟨_, rfl⟩, q⟩⟩
    · rw [if_neg a]
      by_cases b : k = 1
      · subst b
        simp only [beq_self_eq_true, Bool.true_or, if_true]
        exact ⟨.str ⟨#[c]⟩, H, I, ⟨_, rfl⟩, q⟩
      · have e : (k == 1 || (⟨#[c]⟩ : Str).length == 0) = false := by
          rw [ln]
          simp [b]
        rw [if_neg (by rw [e]; exact Bool.false_ne_true)]
        have e2 : (⟨(List.replicate k.toNat (⟨#[c]⟩ : Str).cps).foldl (· ++ ·) #[]⟩ : Str) = reps c k.toNat := by
          unfold reps
          rw [show (⟨#[c]⟩ : Str).cps = #[c] from rfl, fold_reps]
          simp
        rw [e2]
        refine ⟨?_, ⟨.str (reps c k.toNat), H, I.tok _, ⟨_, rfl⟩, q⟩⟩
        show (reps c k.toNat).cps.size ≤ _
        unfold reps
        rw [List.size_toArray, List.length_replicate]
        first | omega | (rw [sizeLine_eq]; omega)
end

/-! ### defs that may be called, defs that stand -/
structure Cal (P : Program) (w : World) (K : PySem.W.Frag) (mg : Str → Option Value) (base : Heap) (k : Nat) (x : Str) (ps : List Str) (sp : Sp) : Prop where
  ex : ∃ f fd, FnOk P w K mg base CX0 k f fd ps sp ∧ mg x = some (.ref f) ∧ PySem.W.keepIn K (.ref f) = true ∧ Binds K fd ps []
structure Def (K : PySem.W.Frag) (mg : Str → Option Value) (x : Str) (st : Stmt) (ps : List Str) : Prop where
  ex : ∃ f fd, Fun K x x st f fd ∧ mg x = some (.ref f) ∧ Binds K fd ps []
theorem Cal.mono {P : Program} {w : World} {K : PySem.W.Frag} {mg : Str → Option Value} {base : Heap} {j k : Nat} {x : Str} {ps : List Str} {sp : Sp} (C : Cal P w K mg base j x ps sp) (h : j ≤ k) : Cal P w K mg base k x ps sp := by
  obtain ⟨f, fd, a, b⟩ := C.ex
  exact ⟨f, fd, a.mono h, b⟩
theorem Cal.imp {P : Program} {w : World} {K : PySem.W.Frag} {mg : Str → Option Value} {base : Heap} {k : Nat} {x : Str} {ps : List Str} {sp sp' : Sp} (C : Cal P w K mg base k x ps sp) (h : ∀ vs H Q E, sp' vs H Q E → sp vs H Q E) : Cal P w K mg base k x ps sp' := by
  obtain ⟨f, fd, a, b⟩ := C.ex
  exact ⟨f, fd, a.imp h, b⟩
theorem Def.never {P : Program} {w : World} {K : PySem.W.Frag} {mg : Str → Option Value} {base : Heap} {x : Str} {st : Stmt} {ps : List Str} {sp : Sp} (D : Def K mg x st ps) (no : ∀ vs H Q E, ¬ sp vs H Q E) : Cal P w K mg base 0 x ps sp := by
  obtain ⟨f, fd, F, m, b⟩ := D.ex
  exact ⟨f, fd, ⟨fun vs H Q E h => absurd h (no vs H Q E), fun A outer s H args us vs Q E _ _ _ _ h => absurd h (no vs H Q E)⟩, m, F.kp, b⟩
theorem Def.ok {P : Program} {w : World} {K : PySem.W.Frag} {mg : Str → Option Value} {base : Heap} {x : Str} {st : Stmt} {N ps : List Str} {k : Nat} {sp : Sp} (D : Def K mg x st ps) (S : FnScope N ps (defScope st)) (len : ∀ vs H Q E, sp vs H Q E → vs.length = ps.length)
    (body : ∀ (f : Addr) (cdv : Value) (A : Around) (outer : List Env) (s : Shared) (H : Hp) (vs : List V) (Q : VK) (E : XK), Room k (A.deeper (envOfC x (defScope st) s.heap.objs.size f cdv)) → sp vs H Q E →
      ∃ t, PSs (cxOf CX0 P w K mg base N x (defScope st) f cdv A outer s H E).nox (defBody st) t ∧ t { nx := fun _ H' => Q .non H', rt := Q } (start N vs) H) : Cal P w K mg base (k + 1) x ps sp := by
  obtain ⟨f, fd, F, m, b⟩ := D.ex
  exact ⟨f, fd, F.ok S len fun cdv A outer s H vs Q E hr h => body f cdv A outer s H vs Q E hr h, m, F.kp, b⟩
section
variable {X : Cx} {k : Nat} {x : Str} {ps : List Str} {sp : Sp} {e : Expr} {es : List Expr} {t : TA} {p pos : Pos}
theorem pe_cal (C : Cal X.prog X.w X.K X.mg X.base k x ps sp) (hr : Room k X.A) (ha : PA X (e :: es) t) (hg : Gl X x := by rfl) (hdb : (x == ("__debug__" : Str)) = false := by decide)
    (he : starEach (e :: es) X.env = (false, eval e X.env) :: starEach es X.env := by rfl) (hpl : (backTo pos (starEach es X.env)).any (·.1) = false := by rfl) :
    PE X (.Call (.Name x p) (e :: es) [] pos) (tCall sp [] E0 t) := by
  obtain ⟨f, fd, F, m, kp, b⟩ := C.ex
  exact pe_call F hr hg m kp b .nil pass0 ha hdb he hpl
end
/-! ### heaps -/
/-- all that was tracked, but what stands at s, is as it was -/
def Ext (s : Addr) (H H' : Hp) : Prop := ∀ b o, b ≠ s → H b = some o → H' b = some o
theorem Ext.refl (s : Addr) (H : Hp) : Ext s H H := fun _ _ _ h => h
theorem Ext.trans {s : Addr} {H H1 H2 : Hp} (a : Ext s H H1) (b : Ext s H1 H2) : Ext s H H2 := fun c o n h => b c o n (a c o n h)
theorem Ext.upd (s : Addr) (H : Hp) (o : HO) : Ext s H (upd H s o) := fun b u n h => by rw [upd_ne n]; exact h
theorem Ext.new {s p : Addr} {H : Hp} (o : HO) (hp : H p = none) : Ext s H (L2.upd H p o) := fun b u _ h => by
  rw [upd_ne (ne_of_none h hp)]; exact h
theorem Ext.same {s : Addr} {H H' : Hp} (e : Same H H') : Ext s H H' := fun b o _ h => e b o h
theorem same_new {H : Hp} {p : Addr} (h : H p = none) (o : HO) : Same H (upd H p o) := fun b u q => by rw [upd_ne (ne_of_none q h)]; exact q
theorem Ext.free {s l : Addr} {H H' : Hp} {o : HO} (e : Ext s H H') (hs : H s = some o) (hs' : ∃ o', H' s = some o') (h : H' l = none) : H l = none := by
  by_cases z : l = s
  · subst z
    obtain ⟨o', e'⟩ := hs'
    rw [e'] at h
    cases h
  · cases q : H l with
    | none => rfl
    | some u => rw [e l u z q] at h; cases h
theorem Ext.seq {K : PySem.W.Frag} {s a : Addr} {H H' : Hp} {kvs : List (Key × V)} {xs : List V} (e : Ext s H H') (hs : H s = some (.dK kvs)) (h : SqL K H a xs) : SqL K H' a xs := by
  have ne : ∀ o, (∀ q : HO.dK kvs = o, False) → H a = some o → a ≠ s := fun o hq ha z => by
    subst z; rw [hs] at ha; exact hq (Option.some.inj ha)
  rcases h with (h | ⟨o, h⟩) | h
  · exact .inl (.inl (e _ _ (ne _ (fun q => by cases q) h) h))
  · exact .inl (.inr ⟨o, e _ _ (ne _ (fun q => by cases q) h) h⟩)
  · exact .inr h
theorem Ext.tup {K : PySem.W.Frag} {s a : Addr} {H H' : Hp} {kvs : List (Key × V)} {xs : List V} (e : Ext s H H') (hs : H s = some (.dK kvs)) (h : SqT K H a xs) : SqT K H' a xs := by
  have ne : ∀ o, (∀ q : HO.dK kvs = o, False) → H a = some o → a ≠ s := fun o hq ha z => by
    subst z; rw [hs] at ha; exact hq (Option.some.inj ha)
  rcases h with (h | ⟨o, h⟩) | h
  · exact .inl (.inl (e _ _ (ne _ (fun q => by cases q) h) h))
  · exact .inl (.inr ⟨o, e _ _ (ne _ (fun q => by cases q) h) h⟩)
  · exact .inr h
theorem Same.tup {K : PySem.W.Frag} {a : Addr} {H H' : Hp} {xs : List V} (e : Same H H') (h : SqT K H a xs) : SqT K H' a xs := by
  rcases h with (h | ⟨o, h⟩) | h
  · exact .inl (.inl (e _ _ h))
  · exact .inl (.inr ⟨o, e _ _ h⟩)
  · exact .inr h
/-- tuples are kept: what a kind wants -/
def Keep (K : PySem.W.Frag) (H H' : Hp) : Prop := ∀ a xs, SqT K H a xs → SqT K H' a xs
theorem Keep.refl {K : PySem.W.Frag} (H : Hp) : Keep K H H := fun _ _ h => h
theorem Keep.trans {K : PySem.W.Frag} {H H1 H2 : Hp} (e : Keep K H H1) (f : Keep K H1 H2) : Keep K H H2 := fun _ _ h => f _ _ (e _ _ h)
theorem Ext.keep {K : PySem.W.Frag} {s : Addr} {H H' : Hp} {kvs : List (Key × V)} (e : Ext s H H') (hs : H s = some (.dK kvs)) : Keep K H H' := fun _ _ h => e.tup hs h
theorem Same.keep {K : PySem.W.Frag} {H H' : Hp} (e : Same H H') : Keep K H H' := fun _ _ h => Same.tup e h
/-- what may be stored to -/
def Soft : HO → Prop
  | .lst _ => True
  | .dK _ => True
  | _ => False
theorem Keep.upd {K : PySem.W.Frag} {H : Hp} {D : Addr} {o0 : HO} (h : H D = some o0) (t : Soft o0) (o : HO) : Keep K H (L2.upd H D o) := fun a xs q => by
  have ne : ∀ u, H a = some u → ¬ Soft u → a ≠ D := fun u e n z => by
    subst z
    rw [h] at e
    exact n (Option.some.inj e ▸ t)
  rcases q with (q | ⟨u, q⟩) | q
  · exact .inl (.inl (by rw [upd_ne (ne _ q (fun z => z))]; exact q))
  · exact .inl (.inr ⟨u, by rw [upd_ne (ne _ q (fun z => z))]; exact q⟩)
  · exact .inr q
/-- data of tuples, texts, numbers, truths, None -/
inductive Dt (K : PySem.W.Frag) (H : Hp) : V → PyData → Prop
  | non : Dt K H .non .none
  | bl (b : Bool) : Dt K H (.bl b) (.bool b)
  | int (i : Int) : Dt K H (.int i) (.int i)
  | str (x : Str) : Dt K H (.str x) (.str x)
  | tup {a : Addr} (vs : List V) {ds : List PyData} : SqT K H a vs → vs.length = ds.length → (∀ (j : Nat) (v : V) (d : PyData), vs[j]? = some v → ds[j]? = some d → Dt K H v d) → Dt K H (.ref a) (.tuple ds)
def Dts (K : PySem.W.Frag) (H : Hp) (vs : List V) (ds : List PyData) : Prop := vs.length = ds.length ∧ ∀ (j : Nat) (v : V) (d : PyData), vs[j]? = some v → ds[j]? = some d → Dt K H v d
theorem Dts.nil {K : PySem.W.Frag} {H : Hp} : Dts K H [] [] := ⟨rfl, fun j v d h => by simp at h⟩
theorem Dts.cons {K : PySem.W.Frag} {H : Hp} {v : V} {d : PyData} {vs : List V} {ds : List PyData} (h : Dt K H v d) (t : Dts K H vs ds) : Dts K H (v :: vs) (d :: ds) := ⟨congrArg (· + 1) t.1, fun j u e h1 h2 => by
  cases j with
  | zero => cases h1; cases h2; exact h
  | succ j => exact t.2 j u e h1 h2⟩
theorem Dts.head {K : PySem.W.Frag} {H : Hp} {v : V} {d : PyData} {vs : List V} {ds : List PyData} (h : Dts K H (v :: vs) (d :: ds)) : Dt K H v d := h.2 0 v d rfl rfl
theorem Dts.tail {K : PySem.W.Frag} {H : Hp} {v : V} {d : PyData} {vs : List V} {ds : List PyData} (h : Dts K H (v :: vs) (d :: ds)) : Dts K H vs ds := ⟨Nat.succ.inj h.1, fun j u e h1 h2 => h.2 (j + 1) u e h1 h2⟩
theorem Dts.at {K : PySem.W.Frag} {H : Hp} {vs : List V} {ds : List PyData} {j : Nat} {v : V} (h : Dts K H vs ds) (e : vs[j]? = some v) : ∃ d, ds[j]? = some d ∧ Dt K H v d := by
  have lt : j < ds.length := h.1 ▸ (List.getElem?_eq_some_iff.mp e).1
  exact ⟨ds[j], List.getElem?_eq_getElem lt, h.2 j v _ e (List.getElem?_eq_getElem lt)⟩
theorem Dts.snoc {K : PySem.W.Frag} {H : Hp} {v : V} {d : PyData} {vs : List V} {ds : List PyData} (t : Dts K H vs ds) (h : Dt K H v d) : Dts K H (vs ++ [v]) (ds ++ [d]) := by
  refine ⟨by rw [List.length_append, List.length_append, t.1]; rfl, fun j u e h1 h2 => ?_⟩
  by_cases lt : j < vs.length
  · rw [List.getElem?_append_left lt] at h1
    rw [List.getElem?_append_left (t.1 ▸ lt)] at h2
    exact t.2 j u e h1 h2
  · rw [List.getElem?_append_right (by omega)] at h1
    rw [List.getElem?_append_right (by have := t.1; omega)] at h2
    have z : j - vs.length = 0 := by
      have := (List.getElem?_eq_some_iff.mp h1).1
      simp at this
      omega
    rw [z] at h1
    rw [← t.1, z] at h2
    cases h1; cases h2; exact h
theorem Dts.tup {K : PySem.W.Frag} {H : Hp} {a : Addr} {vs : List V} {ds : List PyData} (t : Dts K H vs ds) (h : SqT K H a vs) : Dt K H (.ref a) (.tuple ds) := .tup vs h t.1 t.2
theorem Dt.open {K : PySem.W.Frag} {H : Hp} {v : V} {ds : List PyData} (h : Dt K H v (.tuple ds)) : ∃ a vs, v = .ref a ∧ SqT K H a vs ∧ Dts K H vs ds := by
  cases h with
  | tup vs hs hl ha => exact ⟨_, vs, rfl, hs, hl, ha⟩
theorem Keep.dt {K : PySem.W.Frag} {H H' : Hp} (e : Keep K H H') {v : V} {d : PyData} (h : Dt K H v d) : Dt K H' v d := by
  induction h with
  | non => exact .non
  | bl b => exact .bl b
  | int i => exact .int i
  | str x => exact .str x
  | tup vs hs hl _ ih => exact .tup vs (e _ _ hs) hl ih
theorem Keep.dts {K : PySem.W.Frag} {H H' : Hp} (e : Keep K H H') {vs : List V} {ds : List PyData} (h : Dts K H vs ds) : Dts K H' vs ds := ⟨h.1, fun j v d a b => e.dt (h.2 j v d a b)⟩
theorem dpAll_of {K : PySem.W.Frag} {H : Hp} : ∀ {vs : List V} {ds : List PyData}, vs.length = ds.length → (∀ (j : Nat) (v : V) (d : PyData), vs[j]? = some v → ds[j]? = some d → Dp K H v d) → DpAll K H vs ds
  | [], [], _, _ => .nil
  | v :: vs, d :: ds, hl, h => .cons (h 0 v d rfl rfl) (dpAll_of (Nat.succ.inj hl) fun j u e a b => h (j + 1) u e a b)
theorem Dt.dp {K : PySem.W.Frag} {H : Hp} {v : V} {d : PyData} (h : Dt K H v d) : Dp K H v d := by
  induction h with
  | non => exact .non
  | bl b => exact .bl b
  | int i => exact .int i
  | str x => exact .str x
  | tup vs hs hl _ ih => exact .tup hs (dpAll_of hl ih)
/-! ### a law's state -/
structure Inf where
  c : Addr
  f : Addr
  size : Int
  place : Int
  turn : Int
  odd : Int
  talk : Int
structure Mv where
  att : Int
  rest : Int
  seed : Int
def stD (i : Inf) (m : Mv) : List (Key × V) :=
  [(.inr "cells", .ref i.c), (.inr "at", .int m.att), (.inr "size", .int i.size), (.inr "place", .int i.place), (.inr "turn", .int i.turn),
   (.inr "rest", .int m.rest), (.inr "functions", .ref i.f), (.inr "odd", .int i.odd), (.inr "talk", .int i.talk), (.inr "seed", .int m.seed)]
theorem p_at (i : Inf) (m : Mv) (n : Int) : putK (stD i m) (.inr "at") (.int n) = stD i { m with att := n } := by rfl
theorem p_rest (i : Inf) (m : Mv) (n : Int) : putK (stD i m) (.inr "rest") (.int n) = stD i { m with rest := n } := by rfl
theorem p_seed (i : Inf) (m : Mv) (n : Int) : putK (stD i m) (.inr "seed") (.int n) = stD i { m with seed := n } := by rfl
theorem p_size (i : Inf) (m : Mv) (n : Int) : putK (stD i m) (.inr "size") (.int n) = stD { i with size := n } m := by rfl
theorem p_place (i : Inf) (m : Mv) (n : Int) : putK (stD i m) (.inr "place") (.int n) = stD { i with place := n } m := by rfl
theorem p_turn (i : Inf) (m : Mv) (n : Int) : putK (stD i m) (.inr "turn") (.int n) = stD { i with turn := n } m := by rfl
theorem p_talk (i : Inf) (m : Mv) (n : Int) : putK (stD i m) (.inr "talk") (.int n) = stD { i with talk := n } m := by rfl
structure Inf.Ok (i : Inf) : Prop where
  s1 : 1 ≤ i.size
  s8 : i.size ≤ 8
  p0 : 0 ≤ i.place
  p1 : i.place < i.size
  t0 : 0 ≤ i.turn
  t1 : i.turn < 26
  k0 : 0 ≤ i.talk
  k1 : i.talk ≤ 1
structure Mv.Ok (m : Mv) : Prop where
  a0 : 0 ≤ m.att
  r0 : 0 ≤ m.rest
  e0 : 0 ≤ m.seed
/-- at s stands a law's state -/
def IsS (K : PySem.W.Frag) (H : Hp) (s : Addr) (i : Inf) : Prop := ∃ (ns : List Int) (m : Mv),
  H s = some (.dK (stD i m)) ∧ SqL K H i.c (ns.map V.int) ∧ ns.length ≤ 63 ∧ i.Ok ∧ m.Ok
theorem IsS.dk {K : PySem.W.Frag} {H : Hp} {s : Addr} {i : Inf} (h : IsS K H s i) : ∃ kvs, H s = some (.dK kvs) := let ⟨_, _, h, _⟩ := h; ⟨_, h⟩
theorem IsS.same {K : PySem.W.Frag} {H H' : Hp} {s : Addr} {i : Inf} (h : IsS K H s i) (e : Same H H') : IsS K H' s i := by
  obtain ⟨ns, m, a, b, c⟩ := h
  exact ⟨ns, m, e _ _ a, Same.seq e b, c⟩
theorem IsS.keep {K : PySem.W.Frag} {H H' : Hp} {s : Addr} {i : Inf} (h : IsS K H s i) (e : Ext s H H') : Keep K H H' := by
  obtain ⟨kvs, hk⟩ := h.dk
  exact e.keep hk
theorem IsS.seq {K : PySem.W.Frag} {H H' : Hp} {s a : Addr} {i : Inf} {xs : List V} (h : IsS K H s i) (e : Ext s H H') (q : SqL K H a xs) : SqL K H' a xs := by
  obtain ⟨kvs, hk⟩ := h.dk
  exact e.seq hk q
theorem IsS.ne {K : PySem.W.Frag} {H : Hp} {s D : Addr} {i : Inf} (h : IsS K H s i) (hD : H D = none) : D ≠ s := fun z => by
  obtain ⟨kvs, hk⟩ := h.dk
  rw [z, hk] at hD
  cases hD
/-- a list that is filled at D stands beside the state -/
theorem IsS.over {K : PySem.W.Frag} {H1 H3 : Hp} {s D : Addr} {i : Inf} {o : HO} (a : IsS K H1 s i) (b : IsS K H3 s i) (x : Ext s H1 (upd H3 D o)) (n : D ≠ s) : IsS K (upd H3 D o) s i := by
  obtain ⟨ns, m, a1, a2, a3, a4, _⟩ := a
  obtain ⟨_, m3, b1, _, _, _, b5⟩ := b
  exact ⟨ns, m3, by rw [upd_ne n.symm]; exact b1, x.seq a1 a2, a3, a4, b5⟩
theorem Ext.over {H1 H3 : Hp} {s D : Addr} (x : Ext s H1 H3) (hD : H1 D = none) (o : HO) : Ext s H1 (L2.upd H3 D o) := fun b u n h => by
  rw [upd_ne (ne_of_none h hD)]
  exact x b u n h
theorem gS {H : Hp} {s : Addr} {i : Inf} {m : Mv} {k : Str} {v : V} (h : H s = some (.dK (stD i m))) (e : valV (stD i m) (.inr k) = some v) : DGet H s (.str k) (some v) := by
  rw [← e]; exact DGet.k (k := Sum.inr k) h
theorem pS {H : Hp} {s : Addr} {i i' : Inf} {m m' : Mv} {k : Str} {v : V} (h : H s = some (.dK (stD i m))) (e : putK (stD i m) (.inr k) v = stD i' m') : DPut H s (.str k) v (upd H s (.dK (stD i' m'))) := by
  rw [← e]; exact DPut.k (k := Sum.inr k) h (by show 10 < sizeLine; decide)
/-- what a drawn number promises -/
def spTaken (K : PySem.W.Frag) : Sp := fun vs H Q _ => ∃ (s : Addr) (i : Inf) (m : Int), vs = [.ref s, .int m] ∧ IsS K H s i ∧ 0 < m ∧ m.natAbs < 2 ^ 200 ∧
  ∀ (r : Int) (H' : Hp), 0 ≤ r → r < m → Ext s H H' → IsS K H' s i → Q (.int r) H'
end Sc
namespace Sc
open PySem PySem.Spec PyProof.Rows L2
/-- the state that a law begins with -/
def spBegun (K : PySem.W.Frag) : Sp := fun vs H Q _ => ∃ (c : Addr) (ns : List Int), vs = [.ref c] ∧ SqL K H c (ns.map V.int) ∧ ns.length ≤ 63 ∧
  ∀ (s : Addr) (i : Inf) (H' : Hp), Same H H' → H s = none → i.c = c → i.odd = 0 → H' i.f = some (.lst []) → H i.f = none → IsS K H' s i → Q (.ref s) H'
end Sc
namespace Sc
open PySem PySem.Spec PyProof.Rows L2
/-! ### words -/
/-- one to eight of the letters from a to z -/
def Word (z : Str) : Prop := 1 ≤ z.cps.toList.length ∧ z.cps.toList.length ≤ 8 ∧ ∀ c ∈ z.cps.toList, 97 ≤ c ∧ c ≤ 122
def talks : List Str := ["size", "at", "row", "is", "has", "get", "put", "look", "let", "each", "fold", "if", "plus", "minus", "join", "push", "name", "text", "book"]
def signAt (n : Nat) : Str := ⟨#[n]⟩
/-- the word of a number -/
def wordOf (i : Inf) (k : Int) : Str :=
  if i.talk = 1 ∧ k < 19 then talks.getD k.toNat Str.empty else reps 113 i.place.toNat ++ signAt (97 + ((k + i.turn) % 26).toNat) ++ reps 113 (i.size - i.place - 1).toNat
theorem app_list (x y : Str) : (x ++ y).cps.toList = x.cps.toList ++ y.cps.toList := Array.toList_append
theorem len_list (x : Str) : x.length = x.cps.toList.length := (Array.length_toList ..).symm
theorem reps_list (c n : Nat) : (reps c n).cps.toList = List.replicate n c := rfl
instance (z : Str) : Decidable (Word z) := by unfold Word; infer_instance
theorem talks_word : ∀ z ∈ talks, Word z := by decide +kernel
theorem word_of {i : Inf} (h : i.Ok) {k : Int} (k0 : 0 ≤ k) : Word (wordOf i k) := by
  unfold wordOf
  split
  · rename_i c
    have lt : k.toNat < talks.length := by show k.toNat < 19; omega
    rw [List.getD_eq_getElem?_getD, List.getElem?_eq_getElem lt]
    exact talks_word _ (List.getElem_mem lt)
  · obtain ⟨s1, s8, p0, p1, t0, t1, _, _⟩ := h
    refine ⟨?_, ?_, fun c hc => ?_⟩
    · rw [app_list, app_list, reps_list, reps_list, List.length_append, List.length_append, List.length_replicate, List.length_replicate]
      show 1 ≤ _ + 1 + _
      omega
    · rw [app_list, app_list, reps_list, reps_list, List.length_append, List.length_append, List.length_replicate, List.length_replicate]
      show _ + 1 + _ ≤ 8
      omega
    · rw [app_list, app_list, reps_list, reps_list, List.mem_append, List.mem_append, List.mem_replicate, List.mem_replicate] at hc
      rcases hc with (hc | hc) | hc
      · omega
      · have e : c = 97 + ((k + i.turn) % 26).toNat := List.mem_singleton.mp hc
        omega
      · omega
def spWord (K : PySem.W.Frag) : Sp := fun vs H Q _ => ∃ (s : Addr) (i : Inf) (k : Int), vs = [.ref s, .int k] ∧ IsS K H s i ∧ 0 ≤ k ∧
  ∀ (H' : Hp), Same H H' → Q (.str (wordOf i k)) H'
/-! ### kinds -/
inductive Ch where
  | num | txt
  | row (k : List Ch) | book (k : List Ch)
  | shape (fs : List (Str × List Ch))
  | letter (l : Str) | cut (l : Str) (hs : List Str)
  | any (w : Str) | wth (f : Str)
mutual
/-- a choice as Python's data -/
def pyC : Ch → PyData
  | .num => .tuple [.str "number"]
  | .txt => .tuple [.str "text"]
  | .row k => .tuple [.str "row", .tuple (pyL k)]
  | .book k => .tuple [.str "book", .tuple (pyL k)]
  | .shape fs => .tuple [.str "shape", .tuple (pyF fs)]
  | .letter l => .tuple [.str "letter", .str l]
  | .cut l hs => .tuple [.str "cut", .str l, .tuple (hs.map .str)]
  | .any w => .tuple [.str "some", .str w]
  | .wth f => .tuple [.str "with", .str f]
def pyL : List Ch → List PyData
  | [] => []
  | c :: r => pyC c :: pyL r
def pyF : List (Str × List Ch) → List PyData
  | [] => []
  | (f, k) :: r => .tuple [.str f, .tuple (pyL k)] :: pyF r
end
theorem pyL_map : ∀ k : List Ch, pyL k = k.map pyC
  | [] => rfl
  | c :: r => by rw [pyL, pyL_map r]; rfl
theorem pyF_map : ∀ fs : List (Str × List Ch), pyF fs = fs.map fun p => .tuple [.str p.1, .tuple (pyL p.2)]
  | [] => rfl
  | (f, k) :: r => by rw [pyF, pyF_map r]; rfl
/-- the value v is the kind k, the choice c -/
abbrev IsK (K : PySem.W.Frag) (H : Hp) (v : V) (k : List Ch) : Prop := Dt K H v (.tuple (pyL k))
abbrev IsC (K : PySem.W.Frag) (H : Hp) (v : V) (c : Ch) : Prop := Dt K H v (pyC c)
/-- a shape's fields: some words, ascending -/
def Fld (zs : List Str) : Prop := zs ≠ [] ∧ zs.length ≤ 26 ∧ zs.Nodup ∧ sortedS zs = true ∧ ∀ z ∈ zs, Word z
mutual
/-- what a law draws: to n deep, letters of ls -/
def okC (ls : List Str) : Nat → Ch → Prop
  | _, .num => True
  | _, .txt => True
  | n, .row k => 0 < n ∧ k ≠ [] ∧ k.length ≤ 3 ∧ okL ls (n - 1) k
  | n, .book k => 0 < n ∧ k ≠ [] ∧ k.length ≤ 3 ∧ okL ls (n - 1) k
  | n, .shape fs => 0 < n ∧ fs.length ≤ 2 ∧ Fld (fs.map (·.1)) ∧ okF ls (n - 1) fs
  | _, .letter l => l ∈ ls
  | _, _ => False
def okL (ls : List Str) : Nat → List Ch → Prop
  | _, [] => True
  | n, c :: r => okC ls n c ∧ okL ls n r
def okF (ls : List Str) : Nat → List (Str × List Ch) → Prop
  | _, [] => True
  | n, (f, k) :: r => Word f ∧ k ≠ [] ∧ k.length ≤ 3 ∧ okL ls n k ∧ okF ls n r
end
theorem okL_snoc {ls : List Str} {n : Nat} {c : Ch} (h : okC ls n c) : ∀ {k : List Ch}, okL ls n k → okL ls n (k ++ [c])
  | [], _ => ⟨h, trivial⟩
  | _ :: _, a => ⟨a.1, okL_snoc h a.2⟩
theorem okF_snoc {ls : List Str} {n : Nat} {f : Str} {l : List Ch} (w : Word f) (l0 : l ≠ []) (l3 : l.length ≤ 3) (h : okL ls n l) : ∀ {fs : List (Str × List Ch)}, okF ls n fs → okF ls n (fs ++ [(f, l)])
  | [], _ => ⟨w, l0, l3, h, trivial⟩
  | _ :: _, a => ⟨a.1, a.2.1, a.2.2.1, a.2.2.2.1, okF_snoc w l0 l3 h a.2.2.2.2⟩
/-- a drawn kind, a drawn choice, drawn fields -/
def spKind (K : PySem.W.Frag) (n : Nat) : Sp := fun vs H Q _ => ∃ (s l : Addr) (i : Inf) (d : Nat) (ls : List Str), vs = [.ref s, .int d, .ref l] ∧ IsS K H s i ∧ d < n ∧ SqL K H l (ls.map V.str) ∧ ls.length ≤ 1000 ∧
  ∀ (v : V) (H' : Hp) (k : List Ch), Ext s H H' → IsS K H' s i → IsK K H' v k → k ≠ [] → k.length ≤ 3 → okL ls d k → Q v H'
def spChoice (K : PySem.W.Frag) (n : Nat) : Sp := fun vs H Q _ => ∃ (s l : Addr) (i : Inf) (d : Nat) (ls : List Str), vs = [.ref s, .int d, .ref l] ∧ IsS K H s i ∧ d < n ∧ SqL K H l (ls.map V.str) ∧ ls.length ≤ 1000 ∧
  ∀ (v : V) (H' : Hp) (c : Ch), Ext s H H' → IsS K H' s i → IsC K H' v c → okC ls d c → Q v H'
def spFields (K : PySem.W.Frag) (n : Nat) : Sp := fun vs H Q _ => ∃ (s l : Addr) (i : Inf) (d : Nat) (ls : List Str), vs = [.ref s, .int (d + 1 : Nat), .ref l] ∧ IsS K H s i ∧ d < n ∧ SqL K H l (ls.map V.str) ∧ ls.length ≤ 1000 ∧
  ∀ (v : V) (H' : Hp) (fs : List (Str × List Ch)), Ext s H H' → IsS K H' s i → Dt K H' v (.tuple (pyF fs)) → fs.length ≤ 2 → Fld (fs.map (·.1)) → okF ls d fs → Q v H'
end Sc
namespace Sc
open PySem PySem.Spec PyProof.Rows L2
/-! ### tests that change nothing -/
theorem and_pure {t u : TT} {σ : L2.St} {H : Hp} {Q : Bool → Hp → Prop} (c1 c2 : Bool) (h1 : ∀ R : Bool → Hp → Prop, R c1 H → t σ H R) (h2 : c1 = true → ∀ R : Bool → Hp → Prop, R c2 H → u σ H R) (hT : c1 = true → c2 = true → Q true H) (hF : ¬ (c1 = true ∧ c2 = true) → Q false H) : tAnd t u σ H Q := by
  refine h1 _ (ite2 (fun a => h2 a _ ?_) fun a => hF fun z => a z.1)
  cases b : c2 with
  | true => exact hT a b
  | false => exact hF fun z => by rw [b] at z; exact Bool.false_ne_true z.2
theorem or_pure {t u : TT} {σ : L2.St} {H : Hp} {Q : Bool → Hp → Prop} (c1 c2 : Bool) (h1 : ∀ R : Bool → Hp → Prop, R c1 H → t σ H R) (h2 : c1 = false → ∀ R : Bool → Hp → Prop, R c2 H → u σ H R) (hT : (c1 = true ∨ c2 = true) → Q true H) (hF : c1 = false → c2 = false → Q false H) : tOr t u σ H Q := by
  refine h1 _ (ite2 (fun a => hT (.inl a)) fun a => h2 (Bool.eq_false_iff.mpr a) _ ?_)
  cases b : c2 with
  | true => exact hT (.inr b)
  | false => exact hF (Bool.eq_false_iff.mpr a) b
theorem eqV_str (x y : Str) : decide (V.str x = V.str y) = decide (x = y) := by
  by_cases h : x = y
  · subst h; simp
  · rw [decide_eq_false h, decide_eq_false]; exact fun z => h (V.str.inj z)
theorem eqV_int (x y : Int) : decide (V.int x = V.int y) = decide (x = y) := by
  by_cases h : x = y
  · subst h; simp
  · rw [decide_eq_false h, decide_eq_false]; exact fun z => h (V.int.inj z)
end Sc
namespace Sc
open PySem PySem.Spec PyProof.Rows L2
theorem iteNo {c A B : Prop} [Decidable c] (h : ¬ c) (b : B) : if c then A else B := by rw [if_neg h]; exact b
theorem iteYes {c A B : Prop} [Decidable c] (h : c) (a : A) : if c then A else B := by rw [if_pos h]; exact a
/-! ### values -/
inductive Vl where
  | num (n : Int) | text (t : Str)
  | row (xs : List Vl) | book (xs : List (Str × Vl)) | shape (xs : List (Str × Vl))
/-- the value x stands at v, its objects among B -/
inductive IsV (H : Hp) (B : Addr → Prop) : V → Vl → Prop
  | num (n : Int) : IsV H B (.int n) (.num n)
  | text (t : Str) : IsV H B (.str t) (.text t)
  | row {a : Addr} (vs : List V) (xs : List Vl) : B a → H a = some (.lst vs) → vs.length = xs.length → (∀ (j : Nat) (v : V) (x : Vl), vs[j]? = some v → xs[j]? = some x → IsV H B v x) → IsV H B (.ref a) (.row xs)
  | book {a : Addr} (vs : List V) (xs : List (Str × Vl)) : B a → H a = some (.dK ((xs.map fun q => Sum.inr q.1).zip vs)) → vs.length = xs.length → (xs.map (·.1)).Nodup → (∀ (j : Nat) (v : V) (q : Str × Vl), vs[j]? = some v → xs[j]? = some q → IsV H B v q.2) → IsV H B (.ref a) (.book xs)
  | shape {a : Addr} (as : List Addr) (vs : List V) (xs : List (Str × Vl)) : Fld (xs.map (·.1)) → B a → H a = some (.tup (as.map V.ref)) → as.length = xs.length → vs.length = xs.length →
      (∀ (j : Nat) (b : Addr) (v : V) (q : Str × Vl), as[j]? = some b → vs[j]? = some v → xs[j]? = some q → B b ∧ H b = some (.tup [.str q.1, v])) →
      (∀ (j : Nat) (v : V) (q : Str × Vl), vs[j]? = some v → xs[j]? = some q → IsV H B v q.2) → IsV H B (.ref a) (.shape xs)
theorem IsV.keep {H H' : Hp} {B B' : Addr → Prop} (e : ∀ a o, B a → H a = some o → B' a ∧ H' a = some o) {v : V} {x : Vl} (h : IsV H B v x) : IsV H' B' v x := by
  induction h with
  | num n => exact .num n
  | text t => exact .text t
  | row vs xs b hv hl _ ih => exact .row vs xs (e _ _ b hv).1 (e _ _ b hv).2 hl ih
  | book vs xs b hv hl nd _ ih => exact .book vs xs (e _ _ b hv).1 (e _ _ b hv).2 hl nd ih
  | shape as vs xs fld b ha hl hl2 hp _ ih => exact .shape as vs xs fld (e _ _ b ha).1 (e _ _ b ha).2 hl hl2 (fun j b v q h1 h2 h3 => let ⟨h4, h5⟩ := hp j b v q h1 h2 h3; e _ _ h4 h5) ih
/-- values one by one -/
def IsVs (H : Hp) (B : Addr → Prop) (vs : List V) (xs : List Vl) : Prop := vs.length = xs.length ∧ ∀ (j : Nat) (v : V) (x : Vl), vs[j]? = some v → xs[j]? = some x → IsV H B v x
theorem IsVs.nil {H : Hp} {B : Addr → Prop} : IsVs H B [] [] := ⟨rfl, fun j v d h => by simp at h⟩
theorem IsVs.keep {H H' : Hp} {B B' : Addr → Prop} (e : ∀ a o, B a → H a = some o → B' a ∧ H' a = some o) {vs : List V} {xs : List Vl} (h : IsVs H B vs xs) : IsVs H' B' vs xs := ⟨h.1, fun j v x a b => (h.2 j v x a b).keep e⟩
theorem IsVs.snoc {H : Hp} {B : Addr → Prop} {v : V} {d : Vl} {vs : List V} {ds : List Vl} (t : IsVs H B vs ds) (h : IsV H B v d) : IsVs H B (vs ++ [v]) (ds ++ [d]) := by
  refine ⟨by rw [List.length_append, List.length_append, t.1]; rfl, fun j u e h1 h2 => ?_⟩
  by_cases lt : j < vs.length
  · rw [List.getElem?_append_left lt] at h1
    rw [List.getElem?_append_left (t.1 ▸ lt)] at h2
    exact t.2 j u e h1 h2
  · rw [List.getElem?_append_right (by omega)] at h1
    rw [List.getElem?_append_right (by have := t.1; omega)] at h2
    have z : j - vs.length = 0 := by
      have := (List.getElem?_eq_some_iff.mp h1).1
      simp at this
      omega
    rw [z] at h1
    rw [← t.1, z] at h2
    cases h1; cases h2; exact h
/-- what a value's type is -/
def headT : Vl → String
  | .num _ => "int" | .text _ => "str" | .row _ => "list" | .book _ => "dict" | .shape _ => "tuple"
theorem IsV.ty {K : PySem.W.Frag} {H : Hp} {B : Addr → Prop} {v : V} {x : Vl} (h : IsV H B v x) : TyX K H v (.type (headT x)) := by
  cases h with
  | num n => exact .base (.int n)
  | text t => exact .base (.str t)
  | row vs xs b hv => exact .base (.lst hv)
  | book vs xs b hv => exact .base (.dK hv)
  | shape as vs xs _ b ha => exact .base (.tup ha)
/-! ### heads -/
def blank : Str := " "
/-- the head's text of fields, behind the word shape -/
def headV : Vl → Str
  | .num _ => "number" | .text _ => "text" | .row _ => "row" | .book _ => "book" | .shape xs => Txt.join " " ("shape" :: xs.map (·.1))
theorem joinL_cons (S p : List Nat) : ∀ ps : List (List Nat), ps ≠ [] → TL.joinL S (p :: ps) = p ++ (S ++ TL.joinL S ps)
  | [], h => absurd rfl h
  | _ :: _, _ => rfl
end Sc
namespace Sc
open PySem PySem.Spec PyProof.Rows L2
/-- a text of up to three signs, from the blank to ~ but the percent sign -/
def Tex (t : Str) : Prop := t.cps.toList.length ≤ 3 ∧ ∀ c ∈ t.cps.toList, 32 ≤ c ∧ c ≤ 126 ∧ c ≠ 37
def spText (K : PySem.W.Frag) : Sp := fun vs H Q _ => ∃ (s : Addr) (i : Inf), vs = [.ref s] ∧ IsS K H s i ∧
  ∀ (t : Str) (H' : Hp), Ext s H H' → IsS K H' s i → Tex t → Q (.str t) H'
def spNumber (K : PySem.W.Frag) : Sp := fun vs H Q _ => ∃ (s : Addr) (i : Inf), vs = [.ref s] ∧ IsS K H s i ∧
  ∀ (n : Int) (H' : Hp), Ext s H H' → IsS K H' s i → -10 ^ 30 < n → n < 10 ^ 30 → Q (.int n) H'
/-- a drawn value of a kind without letters -/
def spValue (K : PySem.W.Frag) (n : Nat) : Sp := fun vs H Q _ => ∃ (s : Addr) (i : Inf) (v st : V) (d : Nat) (k : List Ch), vs = [.ref s, v, st] ∧ IsS K H s i ∧ d < n ∧ IsK K H v k ∧ k ≠ [] ∧ k.length ≤ 3 ∧ okL [] d k ∧
  ∀ (r : V) (H' : Hp) (x : Vl), Ext s H H' → IsS K H' s i → IsV H' (fun a => H a = none) r x → Q r H'
theorem IsS.freed {K : PySem.W.Frag} {H H' : Hp} {s l : Addr} {i : Inf} (a : IsS K H s i) (b : IsS K H' s i) (e : Ext s H H') (h : H' l = none) : H l = none := by
  obtain ⟨k1, h1⟩ := a.dk
  obtain ⟨k2, h2⟩ := b.dk
  exact e.free h1 ⟨_, h2⟩ h
end Sc
namespace Sc
open PySem PySem.Spec PyProof.Rows L2
/-- what follows, once for all ways -/
theorem seq_with {t u : TS} {D : Ends} {σ : L2.St} {H : Hp} (F : (L2.St → Hp → Prop) → Prop) (h1 : F (u D)) (h2 : F (u D) → t { D with nx := u D } σ H) : tSeq t u D σ H := h2 h1
theorem mem_put {kvs : List (Key × V)} {k : Key} {v : V} {p : Key × V} (h : p ∈ putK kvs k v) : p = (k, v) ∨ p ∈ kvs := by
  unfold putK at h
  split at h
  · obtain ⟨q, hq, e⟩ := List.mem_map.mp h
    by_cases z : q.1 = k
    · rw [if_pos z] at e
      exact .inl (e ▸ z ▸ rfl)
    · rw [if_neg z] at e
      exact .inr (e ▸ hq)
  · rcases List.mem_append.mp h with h | h
    · exact .inr h
    · exact .inl (List.mem_singleton.mp h)
theorem nd_put {kvs : List (Key × V)} (k : Key) (v : V) (nd : (kvs.map (·.1)).Nodup) : ((putK kvs k v).map (·.1)).Nodup := by
  cases z : valV kvs k with
  | none => exact nd_putK v nd z
  | some y =>
    have e : (putK kvs k v).map (·.1) = kvs.map (·.1) := by
      unfold putK
      rw [valV_any, z, if_pos (show (some y).isSome = true from rfl), List.map_map]
      refine List.map_congr_left fun p _ => ?_
      show (if p.1 = k then (p.1, v) else p).1 = p.1
      split <;> rfl
    rw [e]
    exact nd
theorem put_len (kvs : List (Key × V)) (k : Key) (v : V) : (putK kvs k v).length ≤ kvs.length + 1 := by
  unfold putK
  split
  · rw [List.length_map]; omega
  · rw [List.length_append]; exact Nat.le_refl _
/-- a dict of texts with values, as a book -/
theorem book_of {H : Hp} {B : Addr → Prop} : ∀ kvs : List (Key × V), (∀ p ∈ kvs, ∃ t x, p.1 = Sum.inr t ∧ IsV H B p.2 x) → (kvs.map (·.1)).Nodup →
    ∃ (vs : List V) (xs : List (Str × Vl)), kvs = (xs.map fun q => Sum.inr q.1).zip vs ∧ vs.length = xs.length ∧ (xs.map (·.1)).Nodup ∧ (∀ t, t ∈ xs.map (·.1) → (Sum.inr t : Key) ∈ kvs.map (·.1)) ∧ ∀ (j : Nat) (v : V) (q : Str × Vl), vs[j]? = some v → xs[j]? = some q → IsV H B v q.2
  | [], _, _ => ⟨[], [], rfl, rfl, List.nodup_nil, fun t h => by simp at h, fun j v q h => by simp at h⟩
  | (k, v) :: r, h, nd => by
    obtain ⟨t, x, rfl, hx⟩ := h _ List.mem_cons_self
    have nd' : ((Sum.inr t : Key) :: r.map (·.1)).Nodup := nd
    obtain ⟨n1, n2⟩ := List.nodup_cons.mp nd'
    obtain ⟨vs, xs, e, hl, nd2, hm, ha⟩ := book_of r (fun p hp => h p (List.mem_cons_of_mem _ hp)) n2
    refine ⟨v :: vs, (t, x) :: xs, by rw [e]; rfl, congrArg (· + 1) hl, List.nodup_cons.mpr ⟨fun z => n1 (hm t z), nd2⟩, fun u hu => ?_, fun j v' q h1 h2 => ?_⟩
    · rcases List.mem_cons.mp hu with z | z
      · rw [z]; exact List.mem_cons_self
      · exact List.mem_cons_of_mem _ (hm u z)
    · cases j with
      | zero => cases h1; cases h2; exact hx
      | succ j => exact ha j v' q h1 h2
theorem okL_mem {ls : List Str} {n : Nat} {c : Ch} : ∀ {k : List Ch}, okL ls n k → c ∈ k → okC ls n c
  | _ :: _, h, m => by
    rcases List.mem_cons.mp m with z | z
    · rw [z]; exact h.1
    · exact okL_mem h.2 z
theorem okF_mem {ls : List Str} {n : Nat} {p : Str × List Ch} : ∀ {fs : List (Str × List Ch)}, okF ls n fs → p ∈ fs → Word p.1 ∧ p.2 ≠ [] ∧ p.2.length ≤ 3 ∧ okL ls n p.2
  | (_, _) :: _, h, m => by
    rcases List.mem_cons.mp m with z | z
    · rw [z]; exact ⟨h.1, h.2.1, h.2.2.1, h.2.2.2.1⟩
    · exact okF_mem h.2.2.2.2 z
end Sc
namespace Sc
open PySem PySem.Spec PyProof.Rows L2
section
variable {X : Cx}
/-! rules within a comprehension's block: the written part said by its name -/
theorem ix_tupK (K : PySem.W.Frag) (h : X.K = K := by rfl) : IxR X (rIxT K) := h ▸ ix_tup
theorem ix_listK (K : PySem.W.Frag) (h : X.K = K := by rfl) : IxR X (rIxL K) := h ▸ ix_list
end
end Sc
namespace Sc
open PySem PySem.Spec PyProof.Rows L2
theorem Dt.strOf {K : PySem.W.Frag} {H : Hp} {v : V} {z : Str} (h : Dt K H v (.str z)) : v = .str z := by cases h; rfl
theorem Dts.uncons {K : PySem.W.Frag} {H : Hp} {vs : List V} {d : PyData} {ds : List PyData} (h : Dts K H vs (d :: ds)) : ∃ v us, vs = v :: us ∧ Dt K H v d ∧ Dts K H us ds := by
  cases vs with
  | nil => exact absurd h.1 (by simp)
  | cons v us => exact ⟨v, us, rfl, h.head, h.tail⟩
theorem Dts.unnil {K : PySem.W.Frag} {H : Hp} {vs : List V} (h : Dts K H vs []) : vs = [] := List.length_eq_zero_iff.mp h.1
/-- a tuple of a text -/
theorem Dt.one {K : PySem.W.Frag} {H : Hp} {v : V} {z : Str} (h : Dt K H v (.tuple [.str z])) : ∃ a, v = .ref a ∧ SqT K H a [.str z] := by
  obtain ⟨a, vs, rfl, ht, hd⟩ := h.open
  obtain ⟨u, us, rfl, h1, h2⟩ := hd.uncons
  rw [h1.strOf, h2.unnil] at ht
  exact ⟨a, rfl, ht⟩
/-- a tuple of a text and more -/
theorem Dt.two {K : PySem.W.Frag} {H : Hp} {v : V} {z : Str} {d : PyData} (h : Dt K H v (.tuple [.str z, d])) : ∃ a u, v = .ref a ∧ SqT K H a [.str z, u] ∧ Dt K H u d := by
  obtain ⟨a, vs, rfl, ht, hd⟩ := h.open
  obtain ⟨u, us, rfl, h1, h2⟩ := hd.uncons
  obtain ⟨u2, us2, rfl, h3, h4⟩ := h2.uncons
  rw [h1.strOf, h4.unnil] at ht
  exact ⟨a, u2, rfl, ht, h3⟩
theorem drawn_form {d : Nat} {c : Ch} (h : okC [] d c) : c = .num ∨ c = .txt ∨ (∃ d' fs, d = d' + 1 ∧ c = .shape fs ∧ Fld (fs.map (·.1)) ∧ fs.length ≤ 2 ∧ okF [] d' fs) ∨
    ∃ (d' : Nat) (wd : Str) (kk : List Ch), d = d' + 1 ∧ (wd = "row" ∨ wd = "book") ∧ pyC c = .tuple [.str wd, .tuple (pyL kk)] ∧ kk ≠ [] ∧ kk.length ≤ 3 ∧ okL [] d' kk := by
  cases c with
  | num => exact .inl rfl
  | txt => exact .inr (.inl rfl)
  | row k =>
    obtain ⟨h0, h1, h2, h3⟩ : 0 < d ∧ k ≠ [] ∧ k.length ≤ 3 ∧ okL [] (d - 1) k := h
    exact .inr (.inr (.inr ⟨d - 1, "row", k, by omega, .inl rfl, rfl, h1, h2, h3⟩))
  | book k =>
    obtain ⟨h0, h1, h2, h3⟩ : 0 < d ∧ k ≠ [] ∧ k.length ≤ 3 ∧ okL [] (d - 1) k := h
    exact .inr (.inr (.inr ⟨d - 1, "book", k, by omega, .inr rfl, rfl, h1, h2, h3⟩))
  | shape fs =>
    obtain ⟨h0, h1, h2, h3⟩ : 0 < d ∧ fs.length ≤ 2 ∧ Fld (fs.map (·.1)) ∧ okF [] (d - 1) fs := h
    exact .inr (.inr (.inl ⟨d - 1, fs, by omega, rfl, h2, h1, h3⟩))
  | letter l => exact absurd (show l ∈ [] from h) (by simp)
  | cut l hs => exact (show False from h).elim
  | any l => exact (show False from h).elim
  | wth l => exact (show False from h).elim
end Sc
namespace Sc
open PySem PySem.Spec PyProof.Rows L2
/-! ### the names that lead pairs -/
def Names (K : PySem.W.Frag) (H : Hp) (a : Addr) (zs : List Str) : Prop := ∃ ps : List V, SqT K H a ps ∧ ps.length = zs.length ∧ ∀ (j : Nat) (p : V) (z : Str), ps[j]? = some p → zs[j]? = some z → ∃ b us, p = .ref b ∧ SqT K H b (.str z :: us)
theorem names_shape {K : PySem.W.Frag} {H : Hp} {B : Addr → Prop} {v : V} {xs : List (Str × Vl)} (h : IsV H B v (.shape xs)) : ∃ a, v = .ref a ∧ Names K H a (xs.map (·.1)) ∧ Fld (xs.map (·.1)) := by
  cases h with
  | @shape a as vs xs fld b ha hl hl2 hp hv =>
    refine ⟨a, rfl, ⟨as.map V.ref, SqT.of ha, by rw [List.length_map, List.length_map, hl], fun j p z h1 h2 => ?_⟩, fld⟩
    rw [List.getElem?_map] at h1 h2
    obtain ⟨b', h3, rfl⟩ := Option.map_eq_some_iff.mp h1
    obtain ⟨q, h4, rfl⟩ := Option.map_eq_some_iff.mp h2
    have lt : j < vs.length := by rw [hl2]; exact (List.getElem?_eq_some_iff.mp h4).1
    exact ⟨b', [vs[j]], rfl, SqT.of (hp j b' vs[j] q h3 (List.getElem?_eq_getElem lt) h4).2⟩
theorem names_kind {K : PySem.W.Frag} {H : Hp} {v : V} {fs : List (Str × List Ch)} (h : Dt K H v (.tuple (pyF fs))) : ∃ a, v = .ref a ∧ Names K H a (fs.map (·.1)) := by
  obtain ⟨a, ps, rfl, ht, hd⟩ := h.open
  refine ⟨a, rfl, ps, ht, by rw [hd.1, pyF_map, List.length_map, List.length_map], fun j p z h1 h2 => ?_⟩
  obtain ⟨d, h3, h4⟩ := hd.at h1
  rw [pyF_map, List.getElem?_map] at h3
  rw [List.getElem?_map] at h2
  obtain ⟨q, h5, rfl⟩ := Option.map_eq_some_iff.mp h3
  obtain ⟨q', h6, rfl⟩ := Option.map_eq_some_iff.mp h2
  rw [h5] at h6
  cases h6
  obtain ⟨b, u, e, hb, _⟩ := h4.two
  exact ⟨b, [u], e, hb⟩
theorem Keep.names {K : PySem.W.Frag} {H H' : Hp} {a : Addr} {zs : List Str} (e : Keep K H H') (h : Names K H a zs) : Names K H' a zs := by
  obtain ⟨ps, h1, h2, h3⟩ := h
  exact ⟨ps, e _ _ h1, h2, fun j p z g1 g2 => let ⟨b, us, e1, e2⟩ := h3 j p z g1 g2; ⟨b, us, e1, e _ _ e2⟩⟩
theorem Fld.sum {zs : List Str} (h : Fld zs) : (zs.map (·.length)).sum ≤ 208 := by
  obtain ⟨_, h26, _, _, hw⟩ := h
  have g : ∀ zs : List Str, (∀ z ∈ zs, Word z) → (zs.map (·.length)).sum ≤ zs.length * 8 := fun zs => by
    induction zs with
    | nil => exact fun _ => Nat.le_refl _
    | cons z zs ih =>
      intro h
      have := ih fun y hy => h y (List.mem_cons_of_mem _ hy)
      have := (h z List.mem_cons_self).2.1
      rw [List.map_cons, List.sum_cons, len_list, List.length_cons]
      omega
  have := g zs hw
  omega
def spShapeHead (K : PySem.W.Frag) : Sp := fun vs H Q _ => ∃ (a : Addr) (zs : List Str), vs = [.ref a] ∧ Names K H a zs ∧ zs.length ≤ 100 ∧ (zs.map (·.length)).sum ≤ 10000 ∧
  ∀ (H' : Hp), Same H H' → Q (.str (Txt.join " " ("shape" :: zs))) H'
def spHeadOf (K : PySem.W.Frag) : Sp := fun vs H Q _ => ∃ (v : V) (B : Addr → Prop) (x : Vl), vs = [v] ∧ IsV H B v x ∧
  ∀ (H' : Hp), Same H H' → Q (.str (headV x)) H'
theorem sum_le_add (zs : List Str) (n : Nat) : (zs.map (·.length)).sum + zs.length * n = (zs.map fun z => z.length + n).sum := by
  induction zs with
  | nil => simp
  | cons z zs ih =>
    rw [List.map_cons, List.map_cons, List.sum_cons, List.sum_cons, List.length_cons, ← ih, Nat.add_mul]
    omega
/-- shape, and the fields behind it -/
theorem head_text {zs : List Str} (h : zs ≠ []) : Txt.join " " ("shape" :: zs) = ("shape " : Str) ++ Txt.join " " zs := by
  refine TL.ext_tl ?_
  rw [TL.tl_append, TL.join_eq, TL.join_eq, TL.tl_join, TL.tl_join, List.map_cons, joinL_cons _ _ _ (by simpa using h), ← List.append_assoc]
  congr 1
/-! ### words that differ -/
def odds (z : Str) : Nat := (z.cps.toList.filter fun c => decide (c ≠ 113)).length
theorem talks_odds : ∀ z ∈ talks, 2 ≤ odds z := by decide +kernel
theorem talks_nodup : talks.Nodup := by decide +kernel
theorem plain_odds (p c r : Nat) : odds (reps 113 p ++ signAt c ++ reps 113 r) ≤ 1 := by
  unfold odds
  have z : ∀ n, (List.replicate n 113).filter (fun c => decide (c ≠ 113)) = [] := fun n => List.filter_eq_nil_iff.mpr fun a h => by
    rw [(List.mem_replicate.mp h).2]; decide
  rw [app_list, app_list, reps_list, reps_list, List.filter_append, List.filter_append, z, z, List.nil_append, List.append_nil]
  show ([c].filter _).length ≤ 1
  exact List.length_filter_le _ _
theorem word_inj {i : Inf} (ok : i.Ok) {a b : Int} (a0 : 0 ≤ a) (a26 : a < 26) (b0 : 0 ≤ b) (b26 : b < 26) (h : wordOf i a = wordOf i b) : a = b := by
  have tk : ∀ k : Int, 0 ≤ k → k < 19 → ∃ lt : k.toNat < talks.length, talks.getD k.toNat Str.empty = talks[k.toNat] := fun k k0 k1 => by
    have lt : k.toNat < talks.length := by show k.toNat < 19; omega
    exact ⟨lt, by rw [List.getD_eq_getElem?_getD, List.getElem?_eq_getElem lt]; rfl⟩
  unfold wordOf at h
  split at h <;> split at h
  · rename_i ca cb
    obtain ⟨la, ea⟩ := tk a a0 ca.2
    obtain ⟨lb, eb⟩ := tk b b0 cb.2
    rw [ea, eb] at h
    have := (List.getElem_inj talks_nodup).mp h
    omega
  · rename_i ca cb
    obtain ⟨la, ea⟩ := tk a a0 ca.2
    have := talks_odds _ (List.getElem_mem la)
    rw [← ea, h] at this
    exact absurd (Nat.le_trans this (plain_odds _ _ _)) (by decide)
  · rename_i ca cb
    obtain ⟨lb, eb⟩ := tk b b0 cb.2
    have := talks_odds _ (List.getElem_mem lb)
    rw [← eb, ← h] at this
    exact absurd (Nat.le_trans this (plain_odds _ _ _)) (by decide)
  · have e := congrArg (fun z : Str => z.cps.toList[i.place.toNat]?) h
    rw [app_list, app_list, app_list, app_list, reps_list, reps_list] at e
    have g : ∀ c : Nat, (List.replicate i.place.toNat 113 ++ (signAt c).cps.toList ++ List.replicate (i.size - i.place - 1).toNat 113)[i.place.toNat]? = some c := fun c => by
      rw [List.append_assoc, List.getElem?_append_right (by rw [List.length_replicate]; exact Nat.le_refl _), List.length_replicate, Nat.sub_self]
      rfl
    rw [g, g] at e
    have e2 := Option.some.inj e
    have t0 := ok.t0
    have t1 := ok.t1
    omega
end Sc
namespace Sc
open PySem PySem.Spec PyProof.Rows L2
theorem no_bool (x : Vl) : kitB (headT x) "bool" = some false := by
  cases x with
  | num _ => exact (by decide +kernel : kitB "int" "bool" = some false)
  | text _ => exact (by decide +kernel : kitB "str" "bool" = some false)
  | row _ => exact (by decide +kernel : kitB "list" "bool" = some false)
  | book _ => exact (by decide +kernel : kitB "dict" "bool" = some false)
  | shape _ => exact (by decide +kernel : kitB "tuple" "bool" = some false)
theorem joinL_len (S : List Nat) : ∀ ps : List (List Nat), (TL.joinL S ps).length ≤ (ps.map (·.length)).sum + ps.length * S.length
  | [] => Nat.zero_le _
  | [p] => by
    show p.length ≤ [p.length].sum + 1 * _
    simp
  | p :: q :: r => by
    have ih := joinL_len S (q :: r)
    rw [joinL_cons _ _ _ (by simp), List.length_append, List.length_append, List.map_cons, List.sum_cons, List.length_cons, Nat.add_mul]
    omega
theorem join_len (y : Str) (zs : List Str) : (Txt.join y zs).length ≤ (zs.map (·.length)).sum + zs.length * y.length := by
  have e : (Txt.join y zs).length = (TL.joinL (TL.tl y) (zs.map TL.tl)).length := by
    rw [len_list]
    exact congrArg List.length ((congrArg TL.tl (TL.join_eq y zs)).trans (TL.tl_join y zs))
  rw [e]
  refine Nat.le_trans (joinL_len _ _) ?_
  rw [List.map_map, List.length_map, len_list y]
  refine Nat.add_le_add_right (Nat.le_of_eq (congrArg List.sum (List.map_congr_left fun z _ => ?_))) _
  exact (len_list z).symm
end Sc
namespace Sc
open PySem PySem.Spec PyProof.Rows L2
/-! ### the texts of kinds -/
def mkS (l : List Nat) : Str := ⟨l.toArray⟩
theorem tl_mkS (l : List Nat) : TL.tl (mkS l) = l := rfl
theorem mkS_tl (z : Str) : mkS (TL.tl z) = z := TL.ext_tl rfl
def bar : List Nat := TL.tl " | "
def com : List Nat := TL.tl ", "
mutual
/-- the signs of a choice's text -/
def cC : Ch → List Nat
  | .num => TL.tl "number"
  | .txt => TL.tl "text"
  | .row k => TL.tl "row" ++ 40 :: (TL.joinL bar (cL k) ++ [41])
  | .book k => TL.tl "book" ++ 40 :: (TL.joinL bar (cL k) ++ [41])
  | .shape fs => 123 :: (TL.joinL com (cF fs) ++ [125])
  | .letter l => TL.tl l
  | .cut l hs => TL.tl l ++ 40 :: (TL.joinL com (hs.map TL.tl) ++ [41])
  | .any w => TL.tl "some" ++ 32 :: TL.tl w
  | .wth f => TL.tl "with" ++ 32 :: TL.tl f
def cL : List Ch → List (List Nat)
  | [] => []
  | c :: r => cC c :: cL r
def cF : List (Str × List Ch) → List (List Nat)
  | [] => []
  | (f, k) :: r => (TL.tl f ++ 58 :: 32 :: TL.joinL bar (cL k)) :: cF r
end
theorem cL_map : ∀ k : List Ch, cL k = k.map cC
  | [] => rfl
  | c :: r => by rw [cL, cL_map r]; rfl
theorem cF_map : ∀ fs : List (Str × List Ch), cF fs = fs.map fun p => TL.tl p.1 ++ 58 :: 32 :: TL.joinL bar (cL p.2)
  | [] => rfl
  | (f, k) :: r => by rw [cF, cF_map r]; rfl
def txC (c : Ch) : Str := mkS (cC c)
def txK (k : List Ch) : Str := mkS (TL.joinL bar (cL k))
def txF (p : Str × List Ch) : Str := mkS (TL.tl p.1 ++ 58 :: 32 :: TL.joinL bar (cL p.2))
theorem txK_join (k : List Ch) : Txt.join " | " (k.map txC) = txK k := by
  refine TL.ext_tl ?_
  rw [TL.join_eq, TL.tl_join, List.map_map]
  show TL.joinL bar (k.map cC) = TL.joinL bar (cL k)
  rw [cL_map]
mutual
/-- how deep -/
def dC : Ch → Nat
  | .row k => dL k + 1
  | .book k => dL k + 1
  | .shape fs => dF fs + 1
  | _ => 0
def dL : List Ch → Nat
  | [] => 0
  | c :: r => max (dC c) (dL r)
def dF : List (Str × List Ch) → Nat
  | [] => 0
  | (_, k) :: r => max (dL k) (dF r)
end
theorem dL_mem {c : Ch} : ∀ {k : List Ch}, c ∈ k → dC c ≤ dL k
  | d :: r, h => by
    rcases List.mem_cons.mp h with e | e
    · rw [e]; exact Nat.le_max_left _ _
    · exact Nat.le_trans (dL_mem e) (Nat.le_max_right _ _)
theorem dF_mem {p : Str × List Ch} : ∀ {fs : List (Str × List Ch)}, p ∈ fs → dL p.2 ≤ dF fs
  | (f, k) :: r, h => by
    rcases List.mem_cons.mp h with e | e
    · rw [e]; exact Nat.le_max_left _ _
    · exact Nat.le_trans (dF_mem e) (Nat.le_max_right _ _)
theorem joinL_mem (S : List Nat) {p : List Nat} : ∀ {ps : List (List Nat)}, p ∈ ps → p.length ≤ (TL.joinL S ps).length
  | [q], h => by rw [List.mem_singleton.mp h]; exact Nat.le_refl _
  | q :: r :: t, h => by
    rw [joinL_cons _ _ _ (by simp), List.length_append, List.length_append]
    rcases List.mem_cons.mp h with e | e
    · rw [e]; omega
    · have := joinL_mem S (ps := r :: t) e
      omega
theorem joinL_sum (S : List Nat) : ∀ (p : List Nat) (ps : List (List Nat)), (TL.joinL S (p :: ps)).length = p.length + ((ps.map (·.length)).sum + ps.length * S.length)
  | p, [] => by show p.length = _; simp
  | p, q :: r => by
    rw [joinL_cons _ _ _ (by simp), List.length_append, List.length_append, joinL_sum S q r, List.map_cons, List.sum_cons, List.length_cons, Nat.add_mul]
    omega
/-- what join asks of the parts' lengths -/
theorem join_room {y : Str} {zs : List Str} {n : Nat} (h : (TL.joinL (TL.tl y) (zs.map TL.tl)).length ≤ n) : (zs.map (·.length)).sum + zs.length * y.length ≤ n + y.length := by
  cases zs with
  | nil => simp
  | cons z zs =>
    rw [List.map_cons, joinL_sum] at h
    rw [List.map_cons, List.sum_cons, List.length_cons, Nat.add_mul, len_list y, len_list z]
    have e : ((zs.map TL.tl).map (·.length)).sum = (zs.map (·.length)).sum := by
      rw [List.map_map]
      exact congrArg List.sum (List.map_congr_left fun x _ => (len_list x).symm)
    rw [e, List.length_map] at h
    show z.cps.toList.length + _ + _ ≤ _
    have h' : z.cps.toList.length + ((zs.map (·.length)).sum + zs.length * y.cps.toList.length) ≤ n := h
    omega
theorem joinL_many (S : List Nat) (hS : 1 ≤ S.length) : ∀ ps : List (List Nat), ps.length ≤ (TL.joinL S ps).length + 1
  | [] => Nat.zero_le _
  | p :: ps => by
    rw [joinL_sum, List.length_cons]
    have : ps.length ≤ ps.length * S.length := Nat.le_mul_of_pos_right _ hS
    omega
/-! ### promises of what tells -/
def spTellK (K : PySem.W.Frag) (n : Nat) : Sp := fun vs H Q _ => ∃ (v : V) (k : List Ch), vs = [v] ∧ IsK K H v k ∧ dL k < n ∧ (txK k).length ≤ 1000000 ∧
  ∀ (H' : Hp), Same H H' → Q (.str (txK k)) H'
def spTellC (K : PySem.W.Frag) (n : Nat) : Sp := fun vs H Q _ => ∃ (v : V) (c : Ch), vs = [v] ∧ IsC K H v c ∧ dC c < n ∧ (txC c).length ≤ 1000000 ∧
  ∀ (H' : Hp), Same H H' → Q (.str (txC c)) H'
theorem tx_len (l : List Nat) : (mkS l).length = l.length := by rw [len_list]; rfl
/-- the word that leads a choice, what follows -/
def wdC : Ch → Str
  | .num => "number" | .txt => "text" | .row _ => "row" | .book _ => "book" | .shape _ => "shape" | .letter _ => "letter" | .cut _ _ => "cut" | .any _ => "some" | .wth _ => "with"
def restC : Ch → List PyData
  | .num => [] | .txt => []
  | .row k => [.tuple (pyL k)] | .book k => [.tuple (pyL k)]
  | .shape fs => [.tuple (pyF fs)]
  | .letter l => [.str l] | .cut l hs => [.str l, .tuple (hs.map .str)]
  | .any w => [.str w] | .wth f => [.str f]
theorem pyC_cons (c : Ch) : pyC c = .tuple (.str (wdC c) :: restC c) := by cases c <;> rfl
/-- a choice's tuple -/
theorem Dt.lead {K : PySem.W.Frag} {H : Hp} {v : V} {c : Ch} (h : Dt K H v (pyC c)) : ∃ a us, v = .ref a ∧ SqT K H a (.str (wdC c) :: us) ∧ Dts K H us (restC c) := by
  rw [pyC_cons c] at h
  obtain ⟨a, vs, rfl, ht, hd⟩ := h.open
  obtain ⟨u, us, rfl, h1, h2⟩ := hd.uncons
  rw [h1.strOf] at ht
  exact ⟨a, us, rfl, ht, h2⟩
theorem Dts.one {K : PySem.W.Frag} {H : Hp} {us : List V} {d : PyData} (h : Dts K H us [d]) : ∃ u, us = [u] ∧ Dt K H u d := by
  obtain ⟨u, us', rfl, h1, h2⟩ := h.uncons
  exact ⟨u, by rw [h2.unnil], h1⟩
/-- texts in a row -/
theorem Dts.strs {K : PySem.W.Frag} {H : Hp} : ∀ {zs : List Str} {vs : List V}, Dts K H vs (zs.map .str) → vs = zs.map V.str
  | [], vs, h => h.unnil
  | z :: zs, vs, h => by
    obtain ⟨u, us, rfl, h1, h2⟩ := Dts.uncons h
    rw [h1.strOf, Dts.strs h2]
    rfl
theorem strs_dts {K : PySem.W.Frag} {H : Hp} : ∀ zs : List Str, Dts K H (zs.map V.str) (zs.map .str)
  | [] => .nil
  | z :: zs => (strs_dts zs).cons (.str z)
theorem op_inT (K : PySem.W.Frag) {X : Cx} (h : X.K = K := by rfl) : OpR X (compareOp .In) (rIn K false) := h ▸ op_in_seq
end Sc
namespace Sc
open PySem PySem.Spec PyProof.Rows L2
theorem app_len (x y : Str) : (x ++ y).length = x.length + y.length := by
  rw [len_list, len_list, len_list, app_list, List.length_append]
theorem sizeOk {n : Nat} (h : n ≤ 2000000) : n ≤ sizeLine := by rw [sizeLine_eq]; omega
theorem txC_rb (k : List Ch) {c : Ch} (h : c = .row k ∨ c = .book k) : txC c = Str.empty ++ wdC c ++ ("(" : Str) ++ txK k ++ (")" : Str) := by
  refine TL.ext_tl ?_
  rcases h with rfl | rfl
  · show TL.tl "row" ++ 40 :: (TL.joinL bar (cL k) ++ [41]) = _
    simp only [TL.tl_append]
    show _ = TL.tl "row" ++ [40] ++ TL.joinL bar (cL k) ++ [41]
    simp only [List.append_assoc, List.cons_append, List.nil_append]
  · show TL.tl "book" ++ 40 :: (TL.joinL bar (cL k) ++ [41]) = _
    simp only [TL.tl_append]
    show _ = TL.tl "book" ++ [40] ++ TL.joinL bar (cL k) ++ [41]
    simp only [List.append_assoc, List.cons_append, List.nil_append]
theorem txF_eq (p : Str × List Ch) : txF p = Str.empty ++ p.1 ++ (": " : Str) ++ txK p.2 := by
  refine TL.ext_tl ?_
  simp only [TL.tl_append]
  show TL.tl p.1 ++ 58 :: 32 :: TL.joinL bar (cL p.2) = TL.tl p.1 ++ [58, 32] ++ TL.joinL bar (cL p.2)
  simp only [List.append_assoc, List.cons_append, List.nil_append]
theorem txC_shape (fs : List (Str × List Ch)) : txC (.shape fs) = ("{" : Str) ++ Txt.join ", " (fs.map txF) ++ ("}" : Str) := by
  refine TL.ext_tl ?_
  simp only [TL.tl_append]
  rw [TL.join_eq, TL.tl_join, List.map_map]
  show 123 :: (TL.joinL com (cF fs) ++ [125]) = [123] ++ TL.joinL com _ ++ [125]
  rw [cF_map]
  rfl
theorem txC_cut (l : Str) (hs : List Str) : txC (.cut l hs) = l ++ ("(" : Str) ++ Txt.join ", " hs ++ (")" : Str) := by
  refine TL.ext_tl ?_
  simp only [TL.tl_append]
  rw [TL.join_eq, TL.tl_join]
  show TL.tl l ++ 40 :: (TL.joinL com (hs.map TL.tl) ++ [41]) = TL.tl l ++ [40] ++ TL.joinL com (hs.map TL.tl) ++ [41]
  simp only [List.append_assoc, List.cons_append, List.nil_append]
theorem txC_any (w : Str) : txC (.any w) = Txt.join " " ["some", w] := by
  refine TL.ext_tl ?_
  rw [TL.join_eq, TL.tl_join]
  rfl
theorem txC_wth (w : Str) : txC (.wth w) = Txt.join " " ["with", w] := by
  refine TL.ext_tl ?_
  rw [TL.join_eq, TL.tl_join]
  rfl
theorem txC_num : txC .num = Txt.join " " ["number"] := by
  refine TL.ext_tl ?_
  rw [TL.join_eq, TL.tl_join]
  rfl
theorem txC_txt : txC .txt = Txt.join " " ["text"] := by
  refine TL.ext_tl ?_
  rw [TL.join_eq, TL.tl_join]
  rfl
end Sc
namespace Sc
open PySem PySem.Spec PyProof.Rows L2
/-- an f-string, its reading by a name -/
def tFs (ts : List TE) : TE := fun σ H Q => tJs ts Str.empty σ H fun out H1 => Q (.str out) H1
theorem pe_fs {X : Cx} {v1 v2 : Expr} {rest : List Expr} {ts : List TE} {pos : Pos} (h : PJ X (v1 :: v2 :: rest) ts) : PE X (.JoinedStr (v1 :: v2 :: rest) pos) (tFs ts) := pe_joined h
end Sc
namespace Sc
open PySem PySem.Spec PyProof.Rows L2
/-! ### a choice by its word -/
theorem wd_rb {c : Ch} (h : wdC c = "row" ∨ wdC c = "book") : ∃ k, c = .row k ∨ c = .book k := by
  cases c with
  | row k => exact ⟨k, .inl rfl⟩
  | book k => exact ⟨k, .inr rfl⟩
  | _ => exact absurd h (by simp only [wdC]; decide +kernel)
theorem wd_shape {c : Ch} (h : wdC c = "shape") : ∃ fs, c = .shape fs := by
  cases c with
  | shape fs => exact ⟨fs, rfl⟩
  | _ => exact absurd h (by simp only [wdC]; decide +kernel)
theorem wd_letter {c : Ch} (h : wdC c = "letter") : ∃ l, c = .letter l := by
  cases c with
  | letter l => exact ⟨l, rfl⟩
  | _ => exact absurd h (by simp only [wdC]; decide +kernel)
theorem wd_cut {c : Ch} (h : wdC c = "cut") : ∃ l hs, c = .cut l hs := by
  cases c with
  | cut l hs => exact ⟨l, hs, rfl⟩
  | _ => exact absurd h (by simp only [wdC]; decide +kernel)
theorem wd_due {c : Ch} (h : wdC c = "some" ∨ wdC c = "with") : ∃ z, c = .any z ∨ c = .wth z := by
  cases c with
  | any z => exact ⟨z, .inl rfl⟩
  | wth z => exact ⟨z, .inr rfl⟩
  | _ => exact absurd h (by simp only [wdC]; decide +kernel)
theorem wd_flat {c : Ch} (h1 : ¬ (wdC c = "row" ∨ wdC c = "book")) (h2 : wdC c ≠ "shape") (h3 : wdC c ≠ "letter") (h4 : wdC c ≠ "cut") (h5 : ¬ (wdC c = "some" ∨ wdC c = "with")) : c = .num ∨ c = .txt := by
  cases c with
  | num => exact .inl rfl
  | txt => exact .inr rfl
  | row k => exact absurd (.inl rfl) h1
  | book k => exact absurd (.inr rfl) h1
  | shape k => exact absurd rfl h2
  | letter k => exact absurd rfl h3
  | cut k _ => exact absurd rfl h4
  | any k => exact absurd (.inl rfl) h5
  | wth k => exact absurd (.inr rfl) h5
theorem txC_due {c : Ch} {z : Str} (h : c = .any z ∨ c = .wth z) : txC c = wdC c ++ (" " : Str) ++ z ∧ restC c = [.str z] := by
  rcases h with rfl | rfl
  · refine ⟨TL.ext_tl ?_, rfl⟩
    simp only [TL.tl_append]
    show TL.tl "some" ++ 32 :: TL.tl z = TL.tl "some" ++ [32] ++ TL.tl z
    simp only [List.append_assoc, List.cons_append, List.nil_append]
  · refine ⟨TL.ext_tl ?_, rfl⟩
    simp only [TL.tl_append]
    show TL.tl "with" ++ 32 :: TL.tl z = TL.tl "with" ++ [32] ++ TL.tl z
    simp only [List.append_assoc, List.cons_append, List.nil_append]
end Sc
namespace Sc
open PySem PySem.Spec PyProof.Rows L2
/-! ### letters -/
def Lett (z : Str) : Prop := 1 ≤ z.cps.toList.length ∧ z.cps.toList.length ≤ 8 ∧ ∀ c ∈ z.cps.toList, 65 ≤ c ∧ c ≤ 90
theorem upper_word {z : Str} (h : Word z) : Lett (Txt.upper z) := by
  obtain ⟨h1, h8, hc⟩ := h
  rw [upper_ascii fun c m => by have := hc c m; omega]
  have e : (⟨z.cps.map up1⟩ : Str).cps.toList = z.cps.toList.map up1 := Array.toList_map
  unfold Lett
  rw [e, List.length_map]
  refine ⟨h1, h8, fun c m => ?_⟩
  obtain ⟨d, hd, rfl⟩ := List.mem_map.mp m
  have := hc d hd
  unfold up1
  rw [if_pos this]
  omega
/-! ### dicts of texts -/
def zipK {β : Type} (xs : List (Str × β)) (vs : List V) : List (Key × V) := (xs.map fun q => Sum.inr q.1).zip vs
theorem zip_of {β : Type} {Pt : Str → Prop} {R : V → β → Prop} : ∀ kvs : List (Key × V), (∀ p ∈ kvs, ∃ t x, p.1 = Sum.inr t ∧ Pt t ∧ R p.2 x) → (kvs.map (·.1)).Nodup →
    ∃ (vs : List V) (xs : List (Str × β)), kvs = zipK xs vs ∧ vs.length = xs.length ∧ (xs.map (·.1)).Nodup ∧ (∀ t, t ∈ xs.map (·.1) → (Sum.inr t : Key) ∈ kvs.map (·.1)) ∧ ∀ (j : Nat) (v : V) (q : Str × β), vs[j]? = some v → xs[j]? = some q → Pt q.1 ∧ R v q.2
  | [], _, _ => ⟨[], [], rfl, rfl, List.nodup_nil, fun t h => by simp at h, fun j v q h => by simp at h⟩
  | (k, v) :: r, h, nd => by
    obtain ⟨t, x, rfl, ht, hx⟩ := h _ List.mem_cons_self
    have nd' : ((Sum.inr t : Key) :: r.map (·.1)).Nodup := nd
    obtain ⟨n1, n2⟩ := List.nodup_cons.mp nd'
    obtain ⟨vs, xs, e, hl, nd2, hm, ha⟩ := zip_of r (fun p hp => h p (List.mem_cons_of_mem _ hp)) n2
    refine ⟨v :: vs, (t, x) :: xs, by rw [e]; rfl, congrArg (· + 1) hl, List.nodup_cons.mpr ⟨fun z => n1 (hm t z), nd2⟩, fun u hu => ?_, fun j v' q h1 h2 => ?_⟩
    · rcases List.mem_cons.mp hu with z | z
      · rw [z]; exact List.mem_cons_self
      · exact List.mem_cons_of_mem _ (hm u z)
    · cases j with
      | zero => cases h1; cases h2; exact ⟨ht, hx⟩
      | succ j => exact ha j v' q h1 h2
theorem zipK_get {β : Type} : ∀ {xs : List (Str × β)} {vs : List V} {j : Nat} {q : Str × β} {v : V}, (xs.map (·.1)).Nodup → xs[j]? = some q → vs[j]? = some v → valV (zipK xs vs) (Sum.inr q.1) = some v
  | (t, x) :: xs, u :: us, 0, q, v, _, h1, h2 => by
    cases h1; cases h2
    exact valV_pos rfl
  | (t, x) :: xs, u :: us, j + 1, q, v, nd, h1, h2 => by
    obtain ⟨n1, n2⟩ := List.nodup_cons.mp (show (t :: xs.map (·.1)).Nodup from nd)
    refine (valV_neg fun e => n1 ?_).trans (zipK_get n2 h1 h2)
    have e2 : t = q.1 := Sum.inr.inj e
    rw [e2]
    exact List.mem_map_of_mem (List.mem_of_getElem? h1)
  | [], _, _, _, _, _, h1, _ => by simp at h1
  | _ :: _, [], _, _, _, _, _, h2 => by simp at h2
theorem zipK_keys {β : Type} : ∀ {xs : List (Str × β)} {vs : List V}, vs.length = xs.length → (zipK xs vs).map (fun kv => kV kv.1) = xs.map fun q => V.str q.1
  | [], [], _ => rfl
  | _ :: _, _ :: _, h => congrArg (_ :: ·) (zipK_keys (Nat.succ.inj h))
theorem zipK_len {β : Type} {xs : List (Str × β)} {vs : List V} (h : vs.length = xs.length) : (zipK xs vs).length = xs.length := by
  unfold zipK
  rw [List.length_zip, List.length_map, h, Nat.min_self]
/-! ### bounds -/
def IsB (K : PySem.W.Frag) (H : Hp) (b : Addr) (bs : List (Str × List Ch)) : Prop := ∃ vs : List V, H b = some (.dK (zipK bs vs)) ∧ vs.length = bs.length ∧ (bs.map (·.1)).Nodup ∧
  ∀ (j : Nat) (v : V) (q : Str × List Ch), vs[j]? = some v → bs[j]? = some q → IsK K H v q.2
theorem IsB.keep {K : PySem.W.Frag} {H H' : Hp} {b : Addr} {bs : List (Str × List Ch)} (h : IsB K H b bs) (k : Keep K H H') (e : ∀ o, H b = some o → H' b = some o) : IsB K H' b bs := by
  obtain ⟨vs, h1, h2, h3, h4⟩ := h
  exact ⟨vs, e _ h1, h2, h3, fun j v q a c => k.dt (h4 j v q a c)⟩
theorem IsB.same {K : PySem.W.Frag} {H H' : Hp} {b : Addr} {bs : List (Str × List Ch)} (h : IsB K H b bs) (e : Same H H') : IsB K H' b bs := h.keep (Same.keep e) fun o => e b o
theorem IsB.ext {K : PySem.W.Frag} {H H' : Hp} {s b : Addr} {i : Inf} {bs : List (Str × List Ch)} (h : IsB K H b bs) (S : IsS K H s i) (e : Ext s H H') (n : b ≠ s) : IsB K H' b bs := h.keep (S.keep e) fun o => e b o n
theorem IsB.at {K : PySem.W.Frag} {H : Hp} {b : Addr} {bs : List (Str × List Ch)} (h : IsB K H b bs) {j : Nat} {q : Str × List Ch} (e : bs[j]? = some q) : ∃ v, DGet H b (.str q.1) (some v) ∧ IsK K H v q.2 := by
  obtain ⟨vs, h1, h2, h3, h4⟩ := h
  have lt : j < vs.length := h2 ▸ (List.getElem?_eq_some_iff.mp e).1
  have g := zipK_get h3 e (List.getElem?_eq_getElem lt)
  exact ⟨vs[j], by rw [← g]; exact DGet.k (k := Sum.inr q.1) h1, h4 j _ q (List.getElem?_eq_getElem lt) e⟩
def okB (bs : List (Str × List Ch)) : Prop := ∀ q ∈ bs, Lett q.1 ∧ q.2 ≠ [] ∧ q.2.length ≤ 3 ∧ okL [] 1 q.2
def spBounds (K : PySem.W.Frag) : Sp := fun vs H Q _ => ∃ (s : Addr) (i : Inf) (m : Nat), vs = [.ref s, .int m] ∧ IsS K H s i ∧ m ≤ 10 ∧
  ∀ (b : Addr) (H' : Hp) (bs : List (Str × List Ch)), Ext s H H' → IsS K H' s i → H b = none → IsB K H' b bs → okB bs → bs.length ≤ m → Q (.ref b) H'
/-! ### heads of choices -/
def hdC : Ch → Str
  | .num => "number" | .txt => "text" | .row _ => "row" | .book _ => "book"
  | .shape fs => Txt.join " " ("shape" :: fs.map (·.1))
  | _ => Str.empty
/-- a choice with a head of its own -/
def hdOk : Ch → Prop
  | .num => True | .txt => True | .row _ => True | .book _ => True
  | .shape fs => Fld (fs.map (·.1))
  | _ => False
theorem hdOk_of {n : Nat} {c : Ch} (h : okC [] n c) : hdOk c := by
  cases c with
  | shape fs => exact (show 0 < n ∧ fs.length ≤ 2 ∧ Fld (fs.map (·.1)) ∧ okF [] (n - 1) fs from h).2.2.1
  | letter l => exact absurd (show l ∈ [] from h) (by simp)
  | cut l hs => exact (show False from h).elim
  | any l => exact (show False from h).elim
  | wth l => exact (show False from h).elim
  | _ => exact trivial
/-- the heads of a kind, ascending -/
def Hs (k : List Ch) (ys : List Str) : Prop := sortedS ys = true ∧ ys.Nodup ∧ ys.length ≤ k.length ∧ ∀ x, x ∈ ys ↔ x ∈ k.map hdC
def spHead (K : PySem.W.Frag) : Sp := fun vs H Q _ => ∃ (v : V) (c : Ch), vs = [v] ∧ IsC K H v c ∧ hdOk c ∧ ∀ (H' : Hp), Same H H' → Q (.str (hdC c)) H'
def headsR (bs : List (Str × List Ch)) (c : Ch) (ys : List Str) : Prop := (∃ l k, c = .letter l ∧ (l, k) ∈ bs ∧ Hs k ys) ∨ ∃ l, c = .cut l ys
def spHeads (K : PySem.W.Frag) : Sp := fun vs H Q _ => ∃ (v : V) (b : Addr) (c : Ch) (bs : List (Str × List Ch)), vs = [v, .ref b] ∧ IsC K H v c ∧ IsB K H b bs ∧ okB bs ∧ ((∃ l k, c = .letter l ∧ (l, k) ∈ bs) ∨ ∃ l hs, c = .cut l hs) ∧
  ∀ (v : V) (H' : Hp) (ys : List Str), Same H H' → Dt K H' v (.tuple (ys.map .str)) → headsR bs c ys → Q v H'
/-- a letter, or a cut of it -/
def okCut (bs : List (Str × List Ch)) (c : Ch) : Prop := ∃ l k, (l, k) ∈ bs ∧ (c = .letter l ∨ ∃ ys a m, c = .cut l ((ys.drop a).take m) ∧ Hs k ys ∧ 0 < m ∧ a + m ≤ ys.length ∧ m < ys.length)
def spCut (K : PySem.W.Frag) : Sp := fun vs H Q _ => ∃ (s b : Addr) (i : Inf) (bs : List (Str × List Ch)), vs = [.ref s, .ref b] ∧ IsS K H s i ∧ b ≠ s ∧ IsB K H b bs ∧ okB bs ∧ bs ≠ [] ∧ bs.length ≤ 10 ∧
  ∀ (v : V) (H' : Hp) (c : Ch), Ext s H H' → IsS K H' s i → IsC K H' v c → okCut bs c → Q v H'
/-- a kind with letters and, at its end, a cut -/
def okA (bs : List (Str × List Ch)) (d : Nat) (k : List Ch) : Prop := ∃ k0 cs, k = k0 ++ cs ∧ okL (bs.map (·.1)) d k0 ∧ k0 ≠ [] ∧ k0.length ≤ 3 ∧ (cs = [] ∨ ∃ c, cs = [c] ∧ okCut bs c)
def spAnyKind (K : PySem.W.Frag) (n : Nat) : Sp := fun vs H Q _ => ∃ (s b : Addr) (i : Inf) (d : Nat) (bs : List (Str × List Ch)), vs = [.ref s, .int d, .ref b] ∧ IsS K H s i ∧ d < n ∧ b ≠ s ∧ IsB K H b bs ∧ okB bs ∧ bs.length ≤ 10 ∧
  ∀ (v : V) (H' : Hp) (k : List Ch), Ext s H H' → IsS K H' s i → IsK K H' v k → okA bs d k → Q v H'
theorem Hs.few {k : List Ch} {ys : List Str} (h : Hs k ys) : ys.length ≤ k.length := h.2.2.1
end Sc
namespace Sc
open PySem PySem.Spec PyProof.Rows L2
/-! ### how long, how deep what is drawn may be -/
def wid : Nat → Nat
  | 0 => 8
  | n + 1 => 6 * wid n + 60
theorem joinL_max {S : List Nat} {B : Nat} : ∀ {ps : List (List Nat)}, (∀ p ∈ ps, p.length ≤ B) → (TL.joinL S ps).length ≤ ps.length * (B + S.length)
  | [], _ => Nat.zero_le _
  | [p], h => by
    have := h p List.mem_cons_self
    show p.length ≤ 1 * _
    omega
  | p :: q :: r, h => by
    have ih := joinL_max (S := S) (B := B) (ps := q :: r) fun x hx => h x (List.mem_cons_of_mem _ hx)
    have := h p List.mem_cons_self
    rw [joinL_cons _ _ _ (by simp), List.length_append, List.length_append, List.length_cons, Nat.add_mul]
    omega
theorem kind_len {B m : Nat} {k : List Ch} (h : ∀ p ∈ cL k, p.length ≤ B) (hk : k.length ≤ m) : (TL.joinL bar (cL k)).length ≤ m * (B + 3) := by
  refine Nat.le_trans (joinL_max h) ?_
  rw [cL_map, List.length_map]
  exact Nat.mul_le_mul_right _ hk
mutual
theorem lenC {ls : List Str} (hl : ∀ l ∈ ls, l.length ≤ 8) : ∀ {n : Nat} {c : Ch}, okC ls n c → (cC c).length ≤ wid n
  | 0, .num, _ => by decide
  | n + 1, .num, _ => Nat.le_trans (by decide : (cC .num).length ≤ 60) (Nat.le_add_left _ _)
  | 0, .txt, _ => by decide
  | n + 1, .txt, _ => Nat.le_trans (by decide : (cC .txt).length ≤ 60) (Nat.le_add_left _ _)
  | 0, .row k, h => absurd h.1 (Nat.lt_irrefl _)
  | n + 1, .row k, h => by
    have := kind_len (lenL hl (show okL ls n k from h.2.2.2)) h.2.2.1
    show (TL.tl "row" ++ 40 :: (TL.joinL bar (cL k) ++ [41])).length ≤ 6 * wid n + 60
    rw [List.length_append, List.length_cons, List.length_append]
    show 3 + (_ + 1 + 1) ≤ _
    omega
  | 0, .book k, h => absurd h.1 (Nat.lt_irrefl _)
  | n + 1, .book k, h => by
    have := kind_len (lenL hl (show okL ls n k from h.2.2.2)) h.2.2.1
    show (TL.tl "book" ++ 40 :: (TL.joinL bar (cL k) ++ [41])).length ≤ 6 * wid n + 60
    rw [List.length_append, List.length_cons, List.length_append]
    show 4 + (_ + 1 + 1) ≤ _
    omega
  | 0, .shape fs, h => absurd h.1 (Nat.lt_irrefl _)
  | n + 1, .shape fs, h => by
    have f := lenF hl (show okF ls n fs from h.2.2.2)
    have g := joinL_max (S := com) f
    rw [cF_map, List.length_map] at g
    have g2 : fs.length * (3 * wid n + 19 + com.length) ≤ 2 * (3 * wid n + 19 + 2) := Nat.mul_le_mul_right _ h.2.1
    rw [← cF_map] at g
    show (123 :: (TL.joinL com (cF fs) ++ [125])).length ≤ 6 * wid n + 60
    rw [List.length_cons, List.length_append]
    show _ + 1 + 1 ≤ _
    have : (TL.joinL com (cF fs)).length ≤ 2 * (3 * wid n + 19 + 2) := Nat.le_trans g g2
    omega
  | n, .letter l, h => by
    have := hl l h
    rw [len_list] at this
    refine Nat.le_trans this ?_
    cases n with
    | zero => exact Nat.le_refl _
    | succ n => show 8 ≤ 6 * wid n + 60; omega
  | _, .cut _ _, h => h.elim
  | _, .any _, h => h.elim
  | _, .wth _, h => h.elim
theorem lenL {ls : List Str} (hl : ∀ l ∈ ls, l.length ≤ 8) : ∀ {n : Nat} {k : List Ch}, okL ls n k → ∀ p ∈ cL k, p.length ≤ wid n
  | _, [], _, p, hp => by cases hp
  | n, c :: r, h, p, hp => by
    rcases List.mem_cons.mp hp with e | e
    · rw [e]; exact lenC hl h.1
    · exact lenL hl h.2 p e
theorem lenF {ls : List Str} (hl : ∀ l ∈ ls, l.length ≤ 8) : ∀ {n : Nat} {fs : List (Str × List Ch)}, okF ls n fs → ∀ p ∈ cF fs, p.length ≤ 3 * wid n + 19
  | _, [], _, p, hp => by cases hp
  | n, (f, k) :: r, h, p, hp => by
    rcases List.mem_cons.mp hp with e | e
    · have := kind_len (lenL hl h.2.2.2.1) h.2.2.1
      have w := h.1.2.1
      rw [e, List.length_append, List.length_cons, List.length_cons]
      show f.cps.toList.length + _ ≤ _
      omega
    · exact lenF hl h.2.2.2.2 p e
end
mutual
theorem deepC {ls : List Str} : ∀ {n : Nat} {c : Ch}, okC ls n c → dC c ≤ n
  | _, .num, _ => Nat.zero_le _
  | _, .txt, _ => Nat.zero_le _
  | 0, .row k, h => absurd h.1 (Nat.lt_irrefl _)
  | n + 1, .row k, h => Nat.succ_le_succ (deepL (show okL ls n k from h.2.2.2))
  | 0, .book k, h => absurd h.1 (Nat.lt_irrefl _)
  | n + 1, .book k, h => Nat.succ_le_succ (deepL (show okL ls n k from h.2.2.2))
  | 0, .shape fs, h => absurd h.1 (Nat.lt_irrefl _)
  | n + 1, .shape fs, h => Nat.succ_le_succ (deepF (show okF ls n fs from h.2.2.2))
  | _, .letter l, _ => Nat.zero_le _
  | _, .cut _ _, h => h.elim
  | _, .any _, h => h.elim
  | _, .wth _, h => h.elim
theorem deepL {ls : List Str} : ∀ {n : Nat} {k : List Ch}, okL ls n k → dL k ≤ n
  | _, [], _ => Nat.zero_le _
  | n, c :: r, h => Nat.max_le.mpr ⟨deepC h.1, deepL h.2⟩
theorem deepF {ls : List Str} : ∀ {n : Nat} {fs : List (Str × List Ch)}, okF ls n fs → dF fs ≤ n
  | _, [], _ => Nat.zero_le _
  | n, (_, k) :: r, h => Nat.max_le.mpr ⟨deepL h.2.2.2.1, deepF h.2.2.2.2⟩
end
end Sc
namespace Sc
open PySem PySem.Spec PyProof.Rows L2
theorem hd_len {n : Nat} {c : Ch} (h : okC [] n c) : (hdC c).length ≤ 300 := by
  cases c with
  | shape fs =>
    have fld : Fld (fs.map (·.1)) := hdOk_of h
    have := join_len " " ("shape" :: fs.map (·.1))
    have s := fld.sum
    have z := fld.2.1
    rw [List.map_cons, List.sum_cons, List.length_cons] at this
    show (Txt.join " " ("shape" :: fs.map (·.1))).length ≤ 300
    have e5 : ("shape" : Str).length = 5 := rfl
    have e1 : (" " : Str).length = 1 := rfl
    rw [e5, e1] at this
    omega
  | num => decide
  | txt => decide
  | row k => exact (by decide : ("row" : Str).length ≤ 300)
  | book k => exact (by decide : ("book" : Str).length ≤ 300)
  | letter l => exact Nat.zero_le _
  | cut l hs => exact Nat.zero_le _
  | any l => exact Nat.zero_le _
  | wth l => exact Nat.zero_le _
theorem cut_len {bs : List (Str × List Ch)} (ok : okB bs) {c : Ch} (h : okCut bs c) : (cC c).length ≤ 2000 ∧ dC c = 0 := by
  obtain ⟨l, k, hm, hc⟩ := h
  obtain ⟨lt, k0, k3, okk⟩ := ok _ hm
  have l8 : (TL.tl l).length ≤ 8 := lt.2.1
  rcases hc with rfl | ⟨ys, a, m, rfl, hs, m0, am, my⟩
  · exact ⟨Nat.le_trans l8 (by decide), rfl⟩
  · refine ⟨?_, rfl⟩
    have g : ∀ p ∈ ((ys.drop a).take m).map TL.tl, p.length ≤ 300 := fun p hp => by
      obtain ⟨y, hy, rfl⟩ := List.mem_map.mp hp
      have hy2 := (hs.2.2.2 y).mp (List.mem_of_mem_drop (List.mem_of_mem_take hy))
      obtain ⟨c, hc, rfl⟩ := List.mem_map.mp hy2
      have := hd_len (okL_mem okk hc)
      rw [len_list] at this
      exact this
    have j := joinL_max (S := com) g
    rw [List.length_map] at j
    have few := hs.2.2.1
    have k3' : k.length ≤ 3 := k3
    have tk : ((ys.drop a).take m).length ≤ 3 := by
      have := List.length_take_le' m (ys.drop a)
      rw [List.length_drop] at this
      omega
    have j2 : ((ys.drop a).take m).length * (300 + com.length) ≤ 3 * (300 + 2) := Nat.mul_le_mul_right _ tk
    show (TL.tl l ++ 40 :: (TL.joinL com (((ys.drop a).take m).map TL.tl) ++ [41])).length ≤ 2000
    rw [List.length_append, List.length_cons, List.length_append]
    show _ + (_ + 1 + 1) ≤ _
    omega
theorem names_len {bs : List (Str × List Ch)} (ok : okB bs) : ∀ l ∈ bs.map (·.1), l.length ≤ 8 := fun l hl => by
  obtain ⟨q, hq, rfl⟩ := List.mem_map.mp hl
  have := (ok q hq).1.2.1
  rw [len_list]
  exact this
theorem cL_app (a b : List Ch) : cL (a ++ b) = cL a ++ cL b := by rw [cL_map, cL_map, cL_map, List.map_append]
theorem dL_app : ∀ a b : List Ch, dL (a ++ b) = max (dL a) (dL b)
  | [], b => by show dL b = max 0 _; omega
  | c :: r, b => by
    have := dL_app r b
    show max (dC c) (dL (r ++ b)) = max (max (dC c) (dL r)) (dL b)
    omega
/-- such a kind's text, with something small behind -/
theorem any_len {bs : List (Str × List Ch)} (ok : okB bs) {d : Nat} {k : List Ch} (h : okA bs d k) : (∀ p ∈ cL k, p.length ≤ wid d + 2000) ∧ k.length ≤ 4 ∧ dL k ≤ d ∧ k ≠ [] := by
  obtain ⟨k0, cs, rfl, okk, n0, n3, hc⟩ := h
  have g := lenL (names_len ok) okk
  rcases hc with rfl | ⟨c, rfl, hc⟩
  · rw [List.append_nil]
    exact ⟨fun p hp => Nat.le_trans (g p hp) (Nat.le_add_right _ _), by omega, deepL okk, n0⟩
  · obtain ⟨h1, h2⟩ := cut_len ok hc
    refine ⟨fun p hp => ?_, by rw [List.length_append]; show _ + 1 ≤ _; omega, ?_, by simp⟩
    · rw [cL_app] at hp
      rcases List.mem_append.mp hp with e | e
      · exact Nat.le_trans (g p e) (Nat.le_add_right _ _)
      · rw [List.mem_singleton.mp e]
        exact Nat.le_trans h1 (Nat.le_add_left _ _)
    · rw [dL_app]
      have := deepL okk
      show max _ (max (dC c) 0) ≤ _
      omega
def spDue (K : PySem.W.Frag) : Sp := fun vs H Q _ => ∃ (s : Addr) (i : Inf), vs = [.ref s] ∧ IsS K H s i ∧
  ∀ (v : V) (H' : Hp) (c : Ch), Ext s H H' → IsS K H' s i → IsC K H' v c → (c = .any "row" ∨ c = .any "book" ∨ ∃ z, c = .wth z ∧ Word z) → Q v H'
end Sc
namespace Sc
open PySem PySem.Spec PyProof.Rows L2
/-! ### defs that may raise -/
structure CalX (P : Program) (w : World) (K : PySem.W.Frag) (mg : Str → Option Value) (base : Heap) (k : Nat) (x : Str) (ps : List Str) (sp : Sp) : Prop where
  ex : ∃ f fd, FnOk P w K mg base (L2.CX P w) k f fd ps sp ∧ mg x = some (.ref f) ∧ PySem.W.keepIn K (.ref f) = true ∧ Binds K fd ps []
theorem CalX.mono {P : Program} {w : World} {K : PySem.W.Frag} {mg : Str → Option Value} {base : Heap} {j k : Nat} {x : Str} {ps : List Str} {sp : Sp} (C : CalX P w K mg base j x ps sp) (h : j ≤ k) : CalX P w K mg base k x ps sp := by
  obtain ⟨f, fd, a, b⟩ := C.ex
  exact ⟨f, fd, a.mono h, b⟩
theorem Def.neverX {P : Program} {w : World} {K : PySem.W.Frag} {mg : Str → Option Value} {base : Heap} {x : Str} {st : Stmt} {ps : List Str} {sp : Sp} (D : Def K mg x st ps) (no : ∀ vs H Q E, ¬ sp vs H Q E) : CalX P w K mg base 0 x ps sp := by
  obtain ⟨f, fd, F, m, b⟩ := D.ex
  exact ⟨f, fd, ⟨fun vs H Q E h => absurd h (no vs H Q E), fun A outer s H args us vs Q E _ _ _ _ h => absurd h (no vs H Q E)⟩, m, F.kp, b⟩
theorem Def.okX {P : Program} {w : World} {K : PySem.W.Frag} {mg : Str → Option Value} {base : Heap} {x : Str} {st : Stmt} {N ps : List Str} {k : Nat} {sp : Sp} (D : Def K mg x st ps) (S : FnScope N ps (defScope st)) (len : ∀ vs H Q E, sp vs H Q E → vs.length = ps.length)
    (body : ∀ (f : Addr) (cdv : Value) (A : Around) (outer : List Env) (s : Shared) (H : Hp) (vs : List V) (Q : VK) (E : XK), Room k (A.deeper (envOfC x (defScope st) s.heap.objs.size f cdv)) → sp vs H Q E →
      ∃ t, PSs (cxOf (L2.CX P w) P w K mg base N x (defScope st) f cdv A outer s H E) (defBody st) t ∧ t { nx := fun _ H' => Q .non H', rt := Q } (start N vs) H) : CalX P w K mg base (k + 1) x ps sp := by
  obtain ⟨f, fd, F, m, b⟩ := D.ex
  exact ⟨f, fd, F.okX S len fun cdv A outer s H vs Q E hr h => body f cdv A outer s H vs Q E hr h, m, F.kp, b⟩
section
variable {X : Cx} {k : Nat} {x : Str} {ps : List Str} {sp : Sp} {e : Expr} {es : List Expr} {t : TA} {p pos : Pos} {E : XK}
/-- a call of a def that may raise: what it raises leaves -/
theorem pe_calX (C : CalX X.prog X.w X.K X.mg X.base k x ps sp) (hr : Room k X.A) (hx : Passes (L2.CX X.prog X.w) X E) (ha : PA X (e :: es) t) (hg : Gl X x := by rfl) (hdb : (x == ("__debug__" : Str)) = false := by decide)
    (he : starEach (e :: es) X.env = (false, eval e X.env) :: starEach es X.env := by rfl) (hpl : (backTo pos (starEach es X.env)).any (·.1) = false := by rfl) :
    PE X (.Call (.Name x p) (e :: es) [] pos) (tCall sp [] E t) := by
  obtain ⟨f, fd, F, m, kp, b⟩ := C.ex
  exact pe_call F hr hg m kp b .nil hx ha hdb he hpl
end
/-! ### data, tables -/
/-- lists and tuples are kept -/
def KeepL (K : PySem.W.Frag) (H H' : Hp) : Prop := (∀ a xs, SqL K H a xs → SqL K H' a xs) ∧ Keep K H H'
mutual
theorem KeepL.dp {K : PySem.W.Frag} {H H' : Hp} (e : KeepL K H H') : ∀ {v : V} {d : PyData}, Dp K H v d → Dp K H' v d
  | _, _, .non => .non
  | _, _, .bl b => .bl b
  | _, _, .int i => .int i
  | _, _, .str x => .str x
  | _, _, .lst h a => .lst (e.1 _ _ h) (KeepL.dps e a)
  | _, _, .tup h a => .tup (e.2 _ _ h) (KeepL.dps e a)
theorem KeepL.dps {K : PySem.W.Frag} {H H' : Hp} (e : KeepL K H H') : ∀ {vs : List V} {ds : List PyData}, DpAll K H vs ds → DpAll K H' vs ds
  | _, _, .nil => .nil
  | _, _, .cons h t => .cons (KeepL.dp e h) (KeepL.dps e t)
end
theorem DpAll.len {K : PySem.W.Frag} {H : Hp} : ∀ {vs : List V} {ds : List PyData}, DpAll K H vs ds → vs.length = ds.length
  | _, _, .nil => rfl
  | _, _, .cons _ t => congrArg (· + 1) (DpAll.len t)
theorem DpAll.get {K : PySem.W.Frag} {H : Hp} : ∀ {vs : List V} {ds : List PyData} {i : Nat} {v : V}, DpAll K H vs ds → vs[i]? = some v → ∃ d, ds[i]? = some d ∧ Dp K H v d
  | _, _, 0, _, .cons h _, e => ⟨_, rfl, by simp at e; subst e; exact h⟩
  | _, _, i + 1, v, .cons _ t, e => by
    obtain ⟨d, h1, h2⟩ := DpAll.get (i := i) (v := v) t (by simpa using e)
    exact ⟨d, by simpa using h1, h2⟩
/-- all but the tables is kept, the tables at T are tables -/
def Tb (T : List Addr) (H : Hp) : Prop := ∀ P ∈ T, GxR.TabG H P
structure Fr (T : List Addr) (H H' : Hp) : Prop where
  old : ∀ b o, H b = some o → b ∉ T → H' b = some o
  tab : Tb T H'
theorem Fr.refl {T : List Addr} {H : Hp} (t : Tb T H) : Fr T H H := ⟨fun _ _ h _ => h, t⟩
theorem Fr.trans {T : List Addr} {H H1 H2 : Hp} (a : Fr T H H1) (b : Fr T H1 H2) : Fr T H H2 := ⟨fun c o h n => b.old c o (a.old c o h n) n, b.tab⟩
theorem Fr.same {T : List Addr} {H H' : Hp} (t : Tb T H) (e : Same H H') : Fr T H H' := ⟨fun b o h _ => e b o h, fun P hP => let ⟨ps, h, g⟩ := t P hP; ⟨ps, e _ _ h, g⟩⟩
theorem Fr.tabbed {T : List Addr} {P : Addr} {H H' : Hp} (t : Tb T H) (h : GxR.Tabbed P H H') (hP : P ∈ T) : Fr T H H' := by
  refine ⟨fun b o e n => ?_, fun P' hP' => ?_⟩
  · rw [h.2 b fun z => n (z ▸ hP)]
    exact e
  · by_cases z : P' = P
    · rw [z]; exact h.1
    · obtain ⟨ps, e, g⟩ := t P' hP'
      exact ⟨ps, by rw [h.2 P' z]; exact e, g⟩
theorem Fr.free {T : List Addr} {H H' : Hp} {l : Addr} (t : Tb T H) (e : Fr T H H') (h : H' l = none) : H l = none := by
  by_cases hl : l ∈ T
  · obtain ⟨ps, g, _⟩ := e.tab l hl
    rw [g] at h
    cases h
  · cases q : H l with
    | none => rfl
    | some o => rw [e.old l o q hl] at h; cases h
theorem Fr.keep {K : PySem.W.Frag} {T : List Addr} {H H' : Hp} (t : Tb T H) (e : Fr T H H') : KeepL K H H' := by
  have ne : ∀ a o, H a = some o → (∀ ps, o ≠ .tbl ps) → a ∉ T := fun a o h n z => by
    obtain ⟨ps, g, _⟩ := t a z
    rw [h] at g
    exact n ps (Option.some.inj g)
  refine ⟨fun a xs h => ?_, fun a xs h => ?_⟩
  · rcases h with (h | ⟨o, h⟩) | h
    · exact .inl (.inl (e.old _ _ h (ne _ _ h fun ps z => by cases z)))
    · exact .inl (.inr ⟨o, e.old _ _ h (ne _ _ h fun ps z => by cases z)⟩)
    · exact .inr h
  · rcases h with (h | ⟨o, h⟩) | h
    · exact .inl (.inl (e.old _ _ h (ne _ _ h fun ps z => by cases z)))
    · exact .inl (.inr ⟨o, e.old _ _ h (ne _ _ h fun ps z => by cases z)⟩)
    · exact .inr h
/-- the type of data -/
def tyD : PyData → String
  | .none => "NoneType" | .bool _ => "bool" | .int _ => "int" | .str _ => "str" | .list _ => "list" | .tuple _ => "tuple" | .dict _ => "dict"
theorem Dp.ty {K : PySem.W.Frag} {H : Hp} {v : V} {d : PyData} (h : Dp K H v d) : TyX K H v (.type (tyD d)) := by
  cases h with
  | non => exact .base .non
  | bl b => exact .base (.bl b)
  | int i => exact .base (.int i)
  | str x => exact .base (.str x)
  | lst h _ =>
    rcases h with (h | ⟨o, h⟩) | ⟨o, its, n, h1, h2, _⟩
    · exact .base (.lst h)
    · exact .base (.frz h)
    · exact .kList h1 h2
  | tup h _ =>
    rcases h with (h | ⟨o, h⟩) | ⟨o, its, n, h1, h2, _⟩
    · exact .base (.tup h)
    · exact .fTuple h
    · exact .kTuple h1 h2
def isTupB : PyData → Bool
  | .tuple _ => true
  | _ => false
def isStrB : PyData → Bool
  | .str _ => true
  | _ => false
/-- is it of the type T: no dict among the data -/
theorem isTup {K : PySem.W.Frag} {H : Hp} {v : V} {d : PyData} (h : Dp K H v d) : kitB (tyD d) "tuple" = some (isTupB d) := by
  cases h with
  | non => exact (by decide +kernel : kitB "NoneType" "tuple" = some false)
  | bl b => exact (by decide +kernel : kitB "bool" "tuple" = some false)
  | int i => exact (by decide +kernel : kitB "int" "tuple" = some false)
  | str x => exact (by decide +kernel : kitB "str" "tuple" = some false)
  | lst _ _ => exact (by decide +kernel : kitB "list" "tuple" = some false)
  | tup _ _ => exact (by decide +kernel : kitB "tuple" "tuple" = some true)
theorem isStr {K : PySem.W.Frag} {H : Hp} {v : V} {d : PyData} (h : Dp K H v d) : kitB (tyD d) "str" = some (isStrB d) := by
  cases h with
  | non => exact (by decide +kernel : kitB "NoneType" "str" = some false)
  | bl b => exact (by decide +kernel : kitB "bool" "str" = some false)
  | int i => exact (by decide +kernel : kitB "int" "str" = some false)
  | str x => exact (by decide +kernel : kitB "str" "str" = some true)
  | lst _ _ => exact (by decide +kernel : kitB "list" "str" = some false)
  | tup _ _ => exact (by decide +kernel : kitB "tuple" "str" = some false)
end Sc
namespace Sc
open PySem PySem.Spec PyProof.Rows L2
mutual
/-- no long texts, no long rows -/
def sm : PyData → Bool
  | .str z => decide (z.length ≤ 1000)
  | .list xs => decide (xs.length ≤ 60) && smAll xs
  | .tuple xs => decide (xs.length ≤ 60) && smAll xs
  | .dict _ => false
  | _ => true
def smAll : List PyData → Bool
  | [] => true
  | x :: xs => sm x && smAll xs
end
def okD (d : PyData) : Prop := SeqAt.shaped d = true ∧ sm d = true
theorem smAll_mem {x : PyData} : ∀ {xs : List PyData}, smAll xs = true → x ∈ xs → sm x = true
  | y :: ys, h, m => by
    have h' : (sm y && smAll ys) = true := h
    rw [Bool.and_eq_true] at h'
    rcases List.mem_cons.mp m with e | e
    · rw [e]; exact h'.1
    · exact smAll_mem h'.2 e
theorem layAll_mem {x : PyData} : ∀ {xs : List PyData}, PyData.canLayAll0 xs = true → x ∈ xs → x.canLay0 = true
  | y :: ys, h, m => by
    have h' : (PyData.canLay0 y && PyData.canLayAll0 ys) = true := h
    rw [Bool.and_eq_true] at h'
    rcases List.mem_cons.mp m with e | e
    · rw [e]; exact h'.1
    · exact layAll_mem h'.2 e
theorem depthAll_mem {x : PyData} : ∀ {xs : List PyData}, x ∈ xs → x.depth ≤ PyData.depthAll xs
  | y :: ys, m => by
    have e0 : PyData.depthAll (y :: ys) = max y.depth (PyData.depthAll ys) := by simp [PyData.depthAll]
    rw [e0]
    rcases List.mem_cons.mp m with e | e
    · rw [e]; exact Nat.le_max_left _ _
    · exact Nat.le_trans (depthAll_mem e) (Nat.le_max_right _ _)
theorem okD.sub {ds : List PyData} (h : okD (.tuple ds)) : ds.length ≤ 60 ∧ ∀ x ∈ ds, okD x := by
  obtain ⟨h1, h2⟩ := h
  have h2' : (decide (ds.length ≤ 60) && smAll ds) = true := h2
  rw [Bool.and_eq_true, decide_eq_true_eq] at h2'
  refine ⟨h2'.1, fun x hx => ⟨?_, smAll_mem h2'.2 hx⟩⟩
  have l := SeqAt.canLay_of_shaped h1
  have d := SeqAt.depth_of_shaped h1
  have e0 : (PyData.tuple ds).depth = PyData.depthAll ds + 1 := by simp [PyData.depth]
  have := depthAll_mem hx
  exact Bool.and_eq_true_iff.mpr ⟨layAll_mem l hx, decide_eq_true (by omega)⟩
/-! ### what is a word, a letter -/
instance (z : Str) : Decidable (Lett z) := by unfold Lett; infer_instance
def isWordD : PyData → Bool
  | .str z => decide (Word z)
  | _ => false
def isLettD : PyData → Bool
  | .str z => decide (Lett z)
  | _ => false
def lenOkD : PyData → Bool
  | .str z => decide (1 ≤ z.length) && decide (z.length ≤ 8)
  | _ => false
/-- the promise of a test of data -/
def spTest (K : PySem.W.Frag) (T : List Addr) (p : PyData → Bool) : Sp := fun vs H Q _ => ∃ (v : V) (d : PyData), vs = [v] ∧ Dp K H v d ∧ okD d ∧ Tb T H ∧ ∀ (H' : Hp), Fr T H H' → Q (.bl (p d)) H'
/-- 'a' <= sign <= 'z' -/
theorem elt_between {prog : Program} {w : World} {scope : Scope} {x : Str} {a b : Nat} {j1 j2 : Nat} {p1 p2 p3 p4 : Pos} (hk : scope.kind = .function) (hl : scope.names.lookup x = some .local) (hd : (x == ("__debug__" : Str)) = false := by decide) :
    GxR.EltP prog w scope x (.Compare (.Constant (.str ⟨#[a]⟩) j1 p1) [.LtE, .LtE] [.Name x p2, .Constant (.str ⟨#[b]⟩) j2 p3] p4) (fun c => decide (a ≤ c) && decide (c ≤ b)) := by
  intro cenv A' E' c t s₂ m₂ hs hn hm
  refine Compare_chain (Calls.Constant_str (chain_link ?_)) (by with_unfolding_all rfl)
  refine wpAny_Name (wpAny_loadName_local (by rw [hs]; exact hk) (show cenv.scope.names.lookup x = some .local by rw [hs]; exact hl) hn hm ?_) hd
  refine PySem.P.le_str (wpAny_truthy_bool ?_)
  have l1 : (!decide ((⟨#[c]⟩ : Str).cps.toList < (⟨#[a]⟩ : Str).cps.toList)) = decide (a ≤ c) := by
    rw [← decide_not]
    refine decide_eq_decide.mpr ?_
    show ¬ [c] < [a] ↔ a ≤ c
    rw [List.cons_lt_cons_iff]
    simp
  have l2 : (!decide ((⟨#[b]⟩ : Str).cps.toList < (⟨#[c]⟩ : Str).cps.toList)) = decide (c ≤ b) := by
    rw [← decide_not]
    refine decide_eq_decide.mpr ?_
    show ¬ [b] < [c] ↔ c ≤ b
    rw [List.cons_lt_cons_iff]
    simp
  rw [l1]
  cases h : decide (a ≤ c) with
  | false =>
    rw [if_neg Bool.false_ne_true]
    refine ⟨?_, GxR.keeps_tok _ _⟩
    dsimp only
    rw [h]
    rfl
  | true =>
    rw [if_pos rfl]
    refine chain_last (Calls.Constant_str (PySem.P.le_str ?_))
    refine ⟨?_, GxR.keeps_tok _ _⟩
    dsimp only
    rw [l2, h, Bool.true_and]
end Sc
namespace Sc
open PySem PySem.Spec PyProof.Rows L2
/-! ### ascending texts -/
abbrev ltT (a b : Str) : Prop := a.cps.toList < b.cps.toList
def ascB (zs : List Str) : Bool := sortedS zs && decide zs.Nodup
theorem str_ext {a b : Str} (h : a.cps.toList = b.cps.toList) : a = b := by
  cases a; cases b
  exact congrArg _ (Array.toList_inj.mp h)
theorem rising_iff : ∀ (p : Str) (l : List Str), risingS p l = true ↔ (p :: l).Pairwise (fun a b => ¬ ltT b a)
  | p, [] => by simp [risingS]
  | p, x :: r => by
    unfold risingS
    rw [Bool.and_eq_true, rising_iff x r, Bool.not_eq_true', PyProof.Rows.ltCps_eq, decide_eq_false_iff_not]
    constructor
    · rintro ⟨h1, h2⟩
      refine List.pairwise_cons.mpr ⟨fun y hy => ?_, h2⟩
      rcases List.mem_cons.mp hy with e | e
      · rw [e]; exact h1
      · exact List.le_trans (α := Nat) h1 ((List.pairwise_cons.mp h2).1 y e)
    · intro h
      have h' := List.pairwise_cons.mp h
      exact ⟨h'.1 x List.mem_cons_self, h'.2⟩
theorem sorted_iff (l : List Str) : sortedS l = true ↔ l.Pairwise (fun a b => ¬ ltT b a) := by
  cases l with
  | nil => simp [sortedS]
  | cons p r => exact rising_iff p r
theorem asc_iff (l : List Str) : ascB l = true ↔ l.Pairwise ltT := by
  unfold ascB
  rw [Bool.and_eq_true, sorted_iff, decide_eq_true_eq]
  constructor
  · rintro ⟨h1, h2⟩
    refine List.Pairwise.imp₂ (fun a b h g => ?_) h1 h2
    exact Classical.byContradiction fun z => g (str_ext (List.le_antisymm (α := Nat) h z))
  · intro h
    exact ⟨h.imp fun g => List.lt_asymm g, h.imp fun {a b} g e => by rw [e] at g; exact List.lt_irrefl _ g⟩
theorem asc_uniq : ∀ (xs ys : List Str), xs.Pairwise ltT → ys.Pairwise ltT → (∀ x, x ∈ xs ↔ x ∈ ys) → xs = ys
  | [], [], _, _, _ => rfl
  | [], y :: _, _, _, h => absurd ((h y).mpr List.mem_cons_self) (by simp)
  | x :: _, [], _, _, h => absurd ((h x).mp List.mem_cons_self) (by simp)
  | x :: xs, y :: ys, hx, hy, h => by
    have hx' := List.pairwise_cons.mp hx
    have hy' := List.pairwise_cons.mp hy
    have e : x = y := by
      rcases List.mem_cons.mp ((h x).mp List.mem_cons_self) with e | e
      · exact e
      rcases List.mem_cons.mp ((h y).mpr List.mem_cons_self) with e2 | e2
      · exact e2.symm
      exact absurd (hy'.1 x e) (List.lt_asymm (hx'.1 y e2))
    subst e
    have irr : ∀ z, ltT x z → z ≠ x := fun z g e => by rw [e] at g; exact List.lt_irrefl _ g
    rw [asc_uniq xs ys hx'.2 hy'.2 fun z => ⟨fun m => ?_, fun m => ?_⟩]
    · rcases List.mem_cons.mp ((h z).mp (List.mem_cons_of_mem _ m)) with e | e
      · exact absurd e (irr z (hx'.1 z m))
      · exact e
    · rcases List.mem_cons.mp ((h z).mpr (List.mem_cons_of_mem _ m)) with e | e
      · exact absurd e (irr z (hy'.1 z m))
      · exact e
/-- a list against the sorted set of its members -/
theorem asc_eq {zs ys : List Str} (so : sortedS ys = true) (nd : ys.Nodup) (mem : ∀ x, x ∈ ys ↔ x ∈ zs) : decide (zs = ys) = ascB zs := by
  have hy : ascB ys = true := by unfold ascB; rw [so, decide_eq_true nd]; rfl
  rw [Bool.eq_iff_iff, decide_eq_true_eq]
  constructor
  · intro e; rw [e]; exact hy
  · intro h
    exact asc_uniq zs ys ((asc_iff _).mp h) ((asc_iff _).mp hy) fun x => (mem x).symm
theorem eqv_strs : ∀ (xs ys : List Str), PyData.eqvAll (xs.map .str) (ys.map .str) = decide (xs = ys)
  | [], [] => rfl
  | [], _ :: _ => rfl
  | _ :: _, [] => rfl
  | x :: xs, y :: ys => by
    have e : PyData.eqvAll ((x :: xs).map .str) ((y :: ys).map .str) = ((x == y) && PyData.eqvAll (xs.map .str) (ys.map .str)) := by
      simp [PyData.eqvAll, PyData.eqv]
    rw [e, eqv_strs xs ys, Bool.eq_iff_iff, Bool.and_eq_true, decide_eq_true_eq, beq_iff_eq, decide_eq_true_eq, List.cons.injEq]
theorem dp_strs {K : PySem.W.Frag} {H : Hp} : ∀ zs : List Str, DpAll K H (zs.map V.str) (zs.map .str)
  | [] => .nil
  | z :: zs => .cons (.str z) (dp_strs zs)
theorem lay_strs : ∀ {zs : List Str}, (∀ z ∈ zs, PyData.canLay0 (.str z) = true) → PyData.canLayAll0 (zs.map .str) = true
  | [], _ => rfl
  | z :: zs, h => by
    show (PyData.canLay0 (.str z) && PyData.canLayAll0 (zs.map .str)) = true
    rw [lay_strs fun x m => h x (List.mem_cons_of_mem _ m), Bool.and_true]
    exact h z List.mem_cons_self
theorem dep_strs : ∀ zs : List Str, PyData.depthAll (zs.map .str) ≤ 1
  | [] => by simp [PyData.depthAll]
  | z :: zs => by
    have := dep_strs zs
    simp only [List.map_cons, PyData.depthAll, PyData.depth]
    omega
theorem shaped_strs {zs : List Str} (h : ∀ z ∈ zs, PyData.canLay0 (.str z) = true) : SeqAt.shaped (.list (zs.map .str)) = true := by
  have d := dep_strs zs
  have e0 : (PyData.list (zs.map .str)).depth = PyData.depthAll (zs.map .str) + 1 := by simp [PyData.depth]
  exact Bool.and_eq_true_iff.mpr ⟨lay_strs h, decide_eq_true (by omega)⟩
end Sc
namespace Sc
open PySem PySem.Spec PyProof.Rows L2
/-! ### what is refused -/
/-- an own class of errors under ValueError -/
structure Ec (K : PySem.W.Frag) (mg : Str → Option Value) (x : Str) (C : Addr) : Prop where
  g : mg x = some (.ref C)
  q : PySem.W.excIn K C [.type "ValueError", .type "Exception", .type "BaseException", .type "object"] "ValueError.__new__" = true
  k : PySem.W.keepIn K (.ref C) = true
  b : PySem.W.subIn K (.ref C) (.type "BaseException") = some true
  t : PySem.W.typeIn K (.ref C) = some (.type "type")
def pairD : PyData → Bool
  | .tuple [.str _, _] => true
  | _ => false
def nameD : PyData → Str
  | .tuple (.str z :: _) => z
  | _ => Str.empty
def fldD : PyData → Bool
  | .tuple ds => !ds.isEmpty && ds.all pairD && ascB (ds.map nameD)
  | _ => false
theorem two_open {K : PySem.W.Frag} {H : Hp} {vs : List V} {ds : List PyData} (h : DpAll K H vs ds) (two : vs.length = 2) : ∃ x1 x2 d1 d2, vs = [x1, x2] ∧ ds = [d1, d2] ∧ Dp K H x1 d1 ∧ Dp K H x2 d2 := by
  cases h with
  | nil => cases two
  | cons h1 t => cases t with
    | nil => cases two
    | cons h2 t => cases t with
      | nil => exact ⟨_, _, _, _, rfl, rfl, h1, h2⟩
      | cons _ _ => exact absurd two (by simp)
theorem pair_len : ∀ {ds : List PyData}, ds.length ≠ 2 → pairD (.tuple ds) = false
  | [], _ => rfl
  | [u], _ => by cases u <;> rfl
  | [_, _], e => absurd rfl e
  | u :: _ :: _ :: _, _ => by cases u <;> rfl
theorem pair_two (d1 d2 : PyData) : pairD (.tuple [d1, d2]) = isStrB d1 := by cases d1 <;> rfl
def letD (ls : List Str) : PyData → Bool
  | .str z => isLettD (.str z) && decide (z ∈ ls)
  | _ => false
/-- choices, fields, by what is good within -/
def gPr (g : PyData → Bool) : PyData → Bool
  | .tuple [n, k] => isWordD n && g k
  | _ => false
def gFl (g : PyData → Bool) : PyData → Bool
  | .tuple ds => fldD (.tuple ds) && ds.all (gPr g)
  | _ => false
def gCh (ls : List Str) (g : PyData → Bool) : PyData → Bool
  | .tuple [.str w] => w == "number" || w == "text"
  | .tuple [.str w, t] => if w = "row" ∨ w = "book" then g t else if w = "shape" then gFl g t else if w = "letter" then letD ls t else false
  | _ => false
/-- a kind with room n - 1 -/
def gK (ls : List Str) : Nat → PyData → Bool
  | 0, _ => false
  | n + 1, d => match d with
    | .tuple ds => !ds.isEmpty && ds.all (gCh ls (gK ls n))
    | _ => false
/-- the promise of a def that refuses: rest behind the letters -/
def spNeed (K : PySem.W.Frag) (T : List Addr) (CB : Addr) (rest : List V) (p : List Str → PyData → Bool) : Sp := fun vs H Q E => ∃ (ls : List Str) (v : V) (d : PyData) (la : Addr), vs = v :: .ref la :: rest ∧ Dp K H v d ∧ okD d ∧ Tb T H ∧ SqT K H la (ls.map V.str) ∧
  (p ls d = true → ∀ (H' : Hp), Fr T H H' → Q .non H') ∧ (p ls d = false → ∀ (H' : Hp), Fr T H H' → E (.ref CB) none H')
theorem in_strs (z : Str) (ls : List Str) : inV (.str z) (ls.map V.str) = decide (z ∈ ls) := by
  unfold inV
  rw [Bool.eq_iff_iff, List.any_map, List.any_eq_true, decide_eq_true_eq]
  constructor
  · rintro ⟨y, hy, e⟩
    have e' : (y == z) = true := e
    rw [beq_iff_eq] at e'
    rw [← e']; exact hy
  · intro h
    exact ⟨z, h, by show (z == z) = true; rw [beq_iff_eq]⟩
theorem flat_strs : ∀ ls : List Str, (ls.map V.str).all flatV = true
  | [] => rfl
  | _ :: ls => by rw [List.map_cons, List.all_cons, flat_strs ls]; rfl
end Sc
namespace Sc
open PySem PySem.Spec PyProof.Rows L2
/-! ### literals -/
theorem Same.keepL {K : PySem.W.Frag} {H H' : Hp} (e : Same H H') : KeepL K H H' := ⟨fun _ _ h => Same.seq e h, fun _ _ h => Same.tup e h⟩
/-- a written value: the slot i holds g -/
def tLit (K : PySem.W.Frag) (i : Nat) (g d : PyData) : TE := fun σ H Q => (∃ v, σ[i]? = some (some v) ∧ Dp K H v g) ∧ ∀ v H', Same H H' → Dp K H' v d → Q v H'
def tLits (K : PySem.W.Frag) (i : Nat) (g : PyData) (ds : List PyData) : TA := fun σ H Q => (∃ v, σ[i]? = some (some v) ∧ Dp K H v g) ∧ ∀ vs H', Same H H' → DpAll K H' vs ds → Q vs H'
def tLitL (K : PySem.W.Frag) (i : Nat) (g : PyData) (ds : List PyData) : TE := fun σ H Q => (∃ v, σ[i]? = some (some v) ∧ Dp K H v g) ∧ ∀ l vs H', Same H H' → H' l = some (.lst vs) → DpAll K H' vs ds → Q (.ref l) H'
section
variable {X : Cx} {K : PySem.W.Frag} {i : Nat} {g d : PyData} {ds : List PyData} {e : Expr} {es : List Expr}
theorem pe_imp {t t' : TE} (h : PE X e t) (k : ∀ σ H Q, t' σ H Q → t σ H Q) : PE X e t' := ⟨fun pins s σ H Q I q => h.run pins s σ H Q I (k σ H Q q)⟩
theorem pa_imp {t t' : TA} (h : PA X es t) (k : ∀ σ H Q, t' σ H Q → t σ H Q) : PA X es t' := ⟨fun pos pins s σ H Q I q => h.run pos pins s σ H Q I (k σ H Q q)⟩
theorem lit_str {x : Str} {j : Nat} {pos : Pos} : PE X (.Constant (.str x) j pos) (tLit K i g (.str x)) := pe_imp pe_str fun _ _ _ q => q.2 _ _ (Same.refl _) (.str _)
theorem lit_int {x : Int} {j : Nat} {pos : Pos} : PE X (.Constant (.int x) j pos) (tLit K i g (.int x)) := pe_imp pe_int fun _ _ _ q => q.2 _ _ (Same.refl _) (.int _)
theorem lit_non {j : Nat} {pos : Pos} : PE X (.Constant .none j pos) (tLit K i g .none) := pe_imp pe_non fun _ _ _ q => q.2 _ _ (Same.refl _) .non
theorem lit_var (h : PE X e (tVar i)) : PE X e (tLit K i g g) := pe_imp h fun _ _ _ ⟨⟨v, a, b⟩, q⟩ => ⟨v, a, q _ _ (Same.refl _) b⟩
theorem lits_nil : PA X [] (tLits K i g []) := pa_imp pa_nil fun _ _ _ q => q.2 _ _ (Same.refl _) .nil
theorem lits_cons (h : PE X e (tLit K i g d)) (r : PA X es (tLits K i g ds)) (hs : starEach (e :: es) X.env = (false, eval e X.env) :: starEach es X.env := by rfl) : PA X (e :: es) (tLits K i g (d :: ds)) :=
  pa_imp (pa_cons h r hs) fun _ _ _ ⟨⟨v0, a, b⟩, q⟩ => ⟨⟨v0, a, b⟩, fun v H1 e1 d1 => ⟨⟨v0, a, KeepL.dp (Same.keepL e1) b⟩, fun vs H2 e2 d2 => q _ _ (Same.trans e1 e2) (.cons (KeepL.dp (Same.keepL e2) d1) d2)⟩⟩
theorem lit_tup {x1 : Nat} {pos : Pos} (h : PA X es (tLits K i g ds)) (hl : ds.length ≤ 1000) : PE X (.Tuple es x1 pos) (tLit K i g (.tuple ds)) :=
  pe_imp (pe_tup h) fun _ _ _ ⟨a, q⟩ => ⟨a, fun vs H1 e1 d1 => ⟨sizeOk (by rw [DpAll.len d1]; exact Nat.le_trans hl (by decide)), fun p hp => q _ _ (Same.trans e1 (same_new hp _)) (.tup (SqT.of upd_same) (KeepL.dps (Same.keepL (same_new hp _)) d1))⟩⟩
theorem lit_lst {pos : Pos} (h : PA X es (tLits K i g ds)) (hl : ds.length ≤ 1000) : PE X (.List es pos) (tLitL K i g ds) :=
  pe_imp (pe_lst h) fun _ _ _ ⟨a, q⟩ => ⟨a, fun vs H1 e1 d1 => ⟨sizeOk (by rw [DpAll.len d1]; exact Nat.le_trans hl (by decide)), fun p hp => q _ _ _ (Same.trans e1 (same_new hp _)) upd_same (KeepL.dps (Same.keepL (same_new hp _)) d1)⟩⟩
theorem lit_list {pos : Pos} (h : PA X es (tLits K i g ds)) (hl : ds.length ≤ 1000) : PE X (.List es pos) (tLit K i g (.list ds)) :=
  pe_imp (lit_lst h hl) fun _ _ _ ⟨a, q⟩ => ⟨a, fun _ _ _ e1 h1 d1 => q _ _ e1 (.lst (SqL.of h1) d1)⟩
end
theorem DpAll.app {K : PySem.W.Frag} {H : Hp} : ∀ {vs : List V} {ds : List PyData} {us : List V} {es : List PyData}, DpAll K H vs ds → DpAll K H us es → DpAll K H (vs ++ us) (ds ++ es)
  | _, _, _, _, .nil, h => h
  | _, _, _, _, .cons a b, h => .cons a (DpAll.app b h)
end Sc
namespace Sc
open PySem PySem.Spec PyProof.Rows L2
/-! ### good kinds, bad ones -/
theorem okL_mem' {ls : List Str} {d : Nat} {c : Ch} : ∀ {k : List Ch}, okL ls d k → c ∈ k → okC ls d c
  | _ :: _, h, m => by
    rcases List.mem_cons.mp m with e | e
    · rw [e]; exact h.1
    · exact okL_mem' h.2 e
theorem okF_mem' {ls : List Str} {d : Nat} {p : Str × List Ch} : ∀ {fs : List (Str × List Ch)}, okF ls d fs → p ∈ fs → Word p.1 ∧ p.2 ≠ [] ∧ p.2.length ≤ 3 ∧ okL ls d p.2
  | (f, k) :: r, h, m => by
    rcases List.mem_cons.mp m with e | e
    · rw [e]; exact ⟨h.1, h.2.1, h.2.2.1, h.2.2.2.1⟩
    · exact okF_mem' h.2.2.2.2 e
theorem gCh_two' {ls : List Str} {g : PyData → Bool} (w : Str) (t : PyData) : gCh ls g (.tuple [.str w, t]) = if w = "row" ∨ w = "book" then g t else if w = "shape" then gFl g t else if w = "letter" then letD ls t else false := rfl
theorem good_kind {ls : List Str} (hl : ∀ l ∈ ls, Lett l) : ∀ (d n : Nat), d < n → ∀ k : List Ch, k ≠ [] → okL ls d k → gK ls n (.tuple (pyL k)) = true := by
  intro d
  induction d with
  | zero => 
    intro n hn k k0 ok
    obtain ⟨m, rfl⟩ : ∃ m, n = m + 1 := ⟨n - 1, by omega⟩
    show (!(pyL k).isEmpty && (pyL k).all (gCh ls (gK ls m))) = true
    rw [pyL_map, Bool.and_eq_true]
    refine ⟨by cases k with | nil => exact absurd rfl k0 | cons _ _ => rfl, ?_⟩
    rw [List.all_map, List.all_eq_true]
    intro c hc
    have h := okL_mem' ok hc
    show gCh ls (gK ls m) (pyC c) = true
    cases c with
    | num => rw [pyC]; rfl
    | txt => rw [pyC]; rfl
    | row k => exact absurd h.1 (Nat.lt_irrefl _)
    | book k => exact absurd h.1 (Nat.lt_irrefl _)
    | shape fs => exact absurd h.1 (Nat.lt_irrefl _)
    | letter l =>
      have h' : l ∈ ls := by unfold okC at h; exact h
      rw [pyC, gCh_two', if_neg (by decide +kernel), if_neg (by decide +kernel), if_pos rfl]
      show (isLettD (.str l) && decide (l ∈ ls)) = true
      rw [decide_eq_true h', Bool.and_true]
      exact decide_eq_true (hl l h')
    | cut _ _ => unfold okC at h; exact h.elim
    | any _ => unfold okC at h; exact h.elim
    | wth _ => unfold okC at h; exact h.elim
  | succ d ih =>
    intro n hn k k0 ok
    obtain ⟨m, rfl⟩ : ∃ m, n = m + 1 := ⟨n - 1, by omega⟩
    show (!(pyL k).isEmpty && (pyL k).all (gCh ls (gK ls m))) = true
    rw [pyL_map, Bool.and_eq_true]
    refine ⟨by cases k with | nil => exact absurd rfl k0 | cons _ _ => rfl, ?_⟩
    rw [List.all_map, List.all_eq_true]
    intro c hc
    have h := okL_mem' ok hc
    show gCh ls (gK ls m) (pyC c) = true
    cases c with
    | num => rw [pyC]; rfl
    | txt => rw [pyC]; rfl
    | row k =>
      rw [pyC, gCh_two', if_pos (.inl rfl)]
      exact ih m (by omega) k h.2.1 h.2.2.2
    | book k =>
      rw [pyC, gCh_two', if_pos (.inr rfl)]
      exact ih m (by omega) k h.2.1 h.2.2.2
    | shape fs =>
      obtain ⟨_, _, fl, okf⟩ := h
      rw [pyC, gCh_two', if_neg (by decide +kernel), if_pos rfl]
      show (fldD (.tuple (pyF fs)) && (pyF fs).all (gPr (gK ls m))) = true
      rw [Bool.and_eq_true]
      obtain ⟨f0, f26, fnd, fso, fw⟩ := fl
      constructor
      · show (!(pyF fs).isEmpty && (pyF fs).all pairD && ascB ((pyF fs).map nameD)) = true
        rw [pyF_map, Bool.and_eq_true, Bool.and_eq_true]
        refine ⟨⟨by cases fs with | nil => exact absurd rfl f0 | cons _ _ => rfl, ?_⟩, ?_⟩
        · rw [List.all_map, List.all_eq_true]
          intro p _
          rfl
        · rw [List.map_map]
          show ascB (fs.map (·.1)) = true
          unfold ascB
          rw [fso, decide_eq_true fnd]
          rfl
      · rw [pyF_map, List.all_map, List.all_eq_true]
        intro p hp
        obtain ⟨w1, k1, _, o1⟩ := okF_mem' okf hp
        show (isWordD (.str p.1) && gK ls m (.tuple (pyL p.2))) = true
        rw [ih m (by omega) p.2 k1 o1, Bool.and_true]
        exact decide_eq_true w1
    | letter l =>
      have h' : l ∈ ls := by unfold okC at h; exact h
      rw [pyC, gCh_two', if_neg (by decide +kernel), if_neg (by decide +kernel), if_pos rfl]
      show (isLettD (.str l) && decide (l ∈ ls)) = true
      rw [decide_eq_true h', Bool.and_true]
      exact decide_eq_true (hl l h')
    | cut _ _ => unfold okC at h; exact h.elim
    | any _ => unfold okC at h; exact h.elim
    | wth _ => unfold okC at h; exact h.elim
/-- not too deep, not too long -/
def OkN (n : Nat) (d : PyData) : Prop := d.canLay0 = true ∧ sm d = true ∧ d.depth ≤ n
theorem OkN.ok {n : Nat} {d : PyData} (h : OkN n d) (hn : n ≤ 64) : okD d := ⟨Bool.and_eq_true_iff.mpr ⟨h.1, decide_eq_true (Nat.le_trans h.2.2 hn)⟩, h.2.1⟩
theorem OkN.mono {m n : Nat} {d : PyData} (h : OkN m d) (hn : m ≤ n) : OkN n d := ⟨h.1, h.2.1, Nat.le_trans h.2.2 hn⟩
theorem okN_tup {n : Nat} {ds : List PyData} (hl : ds.length ≤ 60) (h : ∀ d ∈ ds, OkN n d) : OkN (n + 1) (.tuple ds) := by
  have a : ∀ ds : List PyData, (∀ d ∈ ds, OkN n d) → PyData.canLayAll0 ds = true ∧ smAll ds = true ∧ PyData.depthAll ds ≤ n := fun ds => by
    induction ds with
    | nil => exact fun _ => ⟨rfl, rfl, by simp [PyData.depthAll]⟩
    | cons x xs ih =>
      intro h
      obtain ⟨h1, h2, h3⟩ := ih fun d m => h d (List.mem_cons_of_mem _ m)
      obtain ⟨g1, g2, g3⟩ := h x List.mem_cons_self
      refine ⟨?_, ?_, ?_⟩
      · show (x.canLay0 && PyData.canLayAll0 xs) = true
        rw [g1, h1]; rfl
      · show (sm x && smAll xs) = true
        rw [g2, h2]; rfl
      · have e0 : PyData.depthAll (x :: xs) = max x.depth (PyData.depthAll xs) := by simp [PyData.depthAll]
        rw [e0]
        omega
  obtain ⟨h1, h2, h3⟩ := a ds h
  refine ⟨h1, ?_, ?_⟩
  · show (decide (ds.length ≤ 60) && smAll ds) = true
    rw [h2, decide_eq_true hl]; rfl
  · have e0 : (PyData.tuple ds).depth = PyData.depthAll ds + 1 := by simp [PyData.depth]
    omega
end Sc
namespace Sc
open PySem PySem.Spec PyProof.Rows L2
theorem okN_str {z : Str} (h8 : z.cps.toList.length ≤ 8) (h : ∀ c ∈ z.cps.toList, c ≤ 122) : OkN 0 (.str z) := by
  refine ⟨?_, ?_, by simp [PyData.depth]⟩
  · show z.cps.all (· < 0x110000) = true
    rw [← Array.all_toList, List.all_eq_true]
    intro c hc
    have := h c hc
    exact decide_eq_true (by omega)
  · show decide (z.length ≤ 1000) = true
    rw [len_list]
    exact decide_eq_true (by omega)
theorem okN_word {z : Str} (h : Word z) : OkN 0 (.str z) := okN_str h.2.1 fun c hc => (h.2.2 c hc).2
theorem okN_lett {z : Str} (h : Lett z) : OkN 0 (.str z) := okN_str h.2.1 fun c hc => by have := h.2.2 c hc; omega
theorem okN_w {z : Str} {n : Nat} (h : (PyData.canLay0 (.str z) && sm (.str z)) = true) : OkN n (.str z) := by
  rw [Bool.and_eq_true] at h
  exact ⟨h.1, h.2, by simp [PyData.depth]⟩
theorem okN_one {z : Str} {n : Nat} (h : (PyData.canLay0 (.str z) && sm (.str z)) = true) : OkN (n + 1) (.tuple [.str z]) := okN_tup (by show 1 ≤ 60; decide) fun x m => by rw [List.mem_singleton.mp m]; exact okN_w h
theorem okN_num (n : Nat) : OkN (n + 1) (pyC .num) := by rw [pyC]; exact okN_one (by decide +kernel)
theorem okN_txt (n : Nat) : OkN (n + 1) (pyC .txt) := by rw [pyC]; exact okN_one (by decide +kernel)
theorem okN_two {n : Nat} {w : Str} {d : PyData} (hw : OkN n (.str w)) (h : OkN n d) : OkN (n + 1) (.tuple [.str w, d]) := okN_tup (by show 2 ≤ 60; decide) fun x m => by
  rcases List.mem_cons.mp m with e | e
  · rw [e]; exact hw
  · rw [List.mem_singleton.mp e]; exact h
theorem okN_kind {ls : List Str} (hl : ∀ l ∈ ls, Lett l) : ∀ (d : Nat) (k : List Ch), k.length ≤ 60 → okL ls d k → OkN (4 * d + 2) (.tuple (pyL k)) := by
  intro d
  induction d with
  | zero =>
    intro k kl ok
    refine okN_tup (by rw [pyL_map, List.length_map]; exact kl) fun x hx => ?_
    rw [pyL_map] at hx
    obtain ⟨c, hc, rfl⟩ := List.mem_map.mp hx
    have h := okL_mem' ok hc
    cases c with
    | num => exact okN_num 0
    | txt => exact okN_txt 0
    | row k => exact absurd h.1 (Nat.lt_irrefl _)
    | book k => exact absurd h.1 (Nat.lt_irrefl _)
    | shape fs => exact absurd h.1 (Nat.lt_irrefl _)
    | letter l =>
      have h' : l ∈ ls := by unfold okC at h; exact h
      rw [pyC]
      exact okN_two (okN_w (by decide +kernel)) (okN_lett (hl l h'))
    | cut _ _ => unfold okC at h; exact h.elim
    | any _ => unfold okC at h; exact h.elim
    | wth _ => unfold okC at h; exact h.elim
  | succ d ih =>
    intro k kl ok
    refine okN_tup (by rw [pyL_map, List.length_map]; exact kl) fun x hx => ?_
    rw [pyL_map] at hx
    obtain ⟨c, hc, rfl⟩ := List.mem_map.mp hx
    have h := okL_mem' ok hc
    cases c with
    | num => exact okN_num _
    | txt => exact okN_txt _
    | row k =>
      rw [pyC]
      exact okN_two (n := 4 * d + 4) (okN_w (by decide +kernel)) ((ih k (by have := h.2.2.1; omega) h.2.2.2).mono (by omega))
    | book k =>
      rw [pyC]
      exact okN_two (n := 4 * d + 4) (okN_w (by decide +kernel)) ((ih k (by have := h.2.2.1; omega) h.2.2.2).mono (by omega))
    | shape fs =>
      obtain ⟨_, f2, fl, okf⟩ := h
      rw [pyC]
      refine okN_two (n := 4 * d + 4) (okN_w (by decide +kernel)) (okN_tup (n := 4 * d + 3) (by rw [pyF_map, List.length_map]; omega) fun x hx => ?_)
      rw [pyF_map] at hx
      obtain ⟨p, hp, rfl⟩ := List.mem_map.mp hx
      obtain ⟨w1, k1, k3, o1⟩ := okF_mem' okf hp
      exact okN_two (n := 4 * d + 2) ((okN_word w1).mono (by omega)) (ih p.2 (by omega) o1)
    | letter l =>
      have h' : l ∈ ls := by unfold okC at h; exact h
      rw [pyC]
      exact okN_two (n := 4 * (d + 1)) (okN_w (by decide +kernel)) ((okN_lett (hl l h')).mono (by omega))
    | cut _ _ => unfold okC at h; exact h.elim
    | any _ => unfold okC at h; exact h.elim
    | wth _ => unfold okC at h; exact h.elim
/-- refused with any room to eight -/
def Bad (ls : List Str) (d : PyData) : Prop := ∀ n, n ≤ 9 → gK ls n d = false
theorem bad_in {ls : List Str} {c : PyData} {cs : List PyData} (m : c ∈ cs) (h : ∀ n, n ≤ 9 → gCh ls (gK ls n) c = false) : Bad ls (.tuple cs) := fun n hn => by
  cases n with
  | zero => rfl
  | succ n =>
    show (!cs.isEmpty && cs.all (gCh ls (gK ls n))) = false
    have e : cs.all (gCh ls (gK ls n)) = false := Bool.eq_false_iff.mpr fun z => by
      have := List.all_eq_true.mp z c m
      rw [h n (by omega)] at this
      cases this
    rw [e, Bool.and_false]
theorem ch_row {ls : List Str} {d : PyData} (h : Bad ls d) : ∀ n, n ≤ 9 → gCh ls (gK ls n) (.tuple [.str "row", d]) = false := fun n hn => by rw [gCh_two', if_pos (.inl rfl)]; exact h n hn
theorem ch_book {ls : List Str} {d : PyData} (h : Bad ls d) : ∀ n, n ≤ 9 → gCh ls (gK ls n) (.tuple [.str "book", d]) = false := fun n hn => by rw [gCh_two', if_pos (.inr rfl)]; exact h n hn
theorem ch_shape {ls : List Str} {d : PyData} (z : Str) (h : Bad ls d) : ∀ n, n ≤ 9 → gCh ls (gK ls n) (.tuple [.str "shape", .tuple [.tuple [.str z, d]]]) = false := fun n hn => by
  rw [gCh_two', if_neg (by decide +kernel), if_pos rfl]
  have e : gPr (gK ls n) (.tuple [.str z, d]) = false := by show (isWordD (.str z) && gK ls n d) = false; rw [h n hn, Bool.and_false]
  show (fldD (.tuple [.tuple [.str z, d]]) && [PyData.tuple [.str z, d]].all (gPr (gK ls n))) = false
  rw [List.all_cons, e, Bool.false_and, Bool.and_false]
theorem bad_deep (ls : List Str) (f : Nat → PyData) (f1 : ∀ n, f (n + 1) = .tuple [.tuple [.str "row", f n]]) : ∀ m n, n ≤ m → gK ls n (f m) = false := by
  intro m
  induction m with
  | zero =>
    intro n hn
    obtain rfl : n = 0 := by omega
    rfl
  | succ m ih =>
    intro n hn
    cases n with
    | zero => rfl
    | succ n =>
      rw [f1]
      show (!([PyData.tuple [.str "row", f m]]).isEmpty && [PyData.tuple [.str "row", f m]].all (gCh ls (gK ls n))) = false
      rw [List.all_cons, gCh_two', if_pos (.inl rfl), ih n (by omega), Bool.false_and, Bool.and_false]
/-! ### no drawn letter is ZZ -/
theorem word_zz {i : Inf} (h : i.Ok) {k : Int} (k0 : 0 ≤ k) : (wordOf i k).cps.toList ≠ [122, 122] := by
  unfold wordOf
  split
  · rename_i c
    have lt : k.toNat < talks.length := by show k.toNat < 19; omega
    rw [List.getD_eq_getElem?_getD, List.getElem?_eq_getElem lt]
    have : ∀ z ∈ talks, z.cps.toList ≠ [122, 122] := by decide +kernel
    exact this _ (List.getElem_mem lt)
  · obtain ⟨s1, s8, p0, p1, t0, t1, _, _⟩ := h
    rw [app_list, app_list, reps_list, reps_list]
    intro e
    have l := congrArg List.length e
    rw [List.length_append, List.length_append, List.length_replicate, List.length_replicate] at l
    have l' : i.place.toNat + 1 + (i.size - i.place - 1).toNat = 2 := l
    have m : 113 ∈ ([122, 122] : List Nat) := by
      rw [← e]
      by_cases z : i.place.toNat = 0
      · exact List.mem_append.mpr (.inr (List.mem_replicate.mpr ⟨by omega, rfl⟩))
      · exact List.mem_append.mpr (.inl (List.mem_append.mpr (.inl (List.mem_replicate.mpr ⟨z, rfl⟩))))
    exact absurd m (by decide)
theorem upper_zz {i : Inf} (h : i.Ok) {k : Int} (k0 : 0 ≤ k) : Txt.upper (wordOf i k) ≠ "ZZ" := fun e => by
  have w := word_of h k0
  have n := word_zz h k0
  generalize wordOf i k = z at e w n
  rw [upper_ascii fun c m => by have := w.2.2 c m; omega] at e
  have e' : z.cps.toList.map up1 = [90, 90] := by
    have a : (⟨z.cps.map up1⟩ : Str).cps.toList = z.cps.toList.map up1 := Array.toList_map
    rw [← a, e]
    rfl
  have w2 := w.2.2
  have h2 : z.cps.toList.length = 2 := by have := congrArg List.length e'; rw [List.length_map] at this; exact this
  obtain ⟨a, b, hl⟩ : ∃ a b, z.cps.toList = [a, b] := by
    generalize z.cps.toList = l at h2
    match l, h2 with
    | [a, b], _ => exact ⟨a, b, rfl⟩
  rw [hl] at e' w2 n
  have ha := w2 a List.mem_cons_self
  have hb := w2 b (List.mem_cons_of_mem _ List.mem_cons_self)
  have e1 : up1 a = 90 := by injection e'
  have e2 : up1 b = 90 := by injection e' with _ q; injection q
  unfold up1 at e1 e2
  rw [if_pos ha] at e1
  rw [if_pos hb] at e2
  refine n ?_
  rw [show a = 122 by omega, show b = 122 by omega]
end Sc
namespace Sc
open PySem PySem.Spec PyProof.Rows L2
/-! ### a law's state beside tables -/
theorem Tb.ext {K : PySem.W.Frag} {T : List Addr} {H H' : Hp} {s : Addr} {i : Inf} (t : Tb T H) (S : IsS K H s i) (x : Ext s H H') : Tb T H' := fun P hP => by
  obtain ⟨ps, e, g⟩ := t P hP
  obtain ⟨kvs, hk⟩ := S.dk
  exact ⟨ps, x _ _ (fun z => by rw [z, hk] at e; cases e) e, g⟩
theorem IsS.keepL {K : PySem.W.Frag} {H H' : Hp} {s : Addr} {i : Inf} (h : IsS K H s i) (e : Ext s H H') : KeepL K H H' := ⟨fun _ _ q => h.seq e q, h.keep e⟩
theorem IsS.fr {K : PySem.W.Frag} {T : List Addr} {H H' : Hp} {s : Addr} {i : Inf} (h : IsS K H s i) (t : Tb T H) (f : Fr T H H') : IsS K H' s i := by
  have kp := Fr.keep (K := K) t f
  obtain ⟨ns, m, a, b, c⟩ := h
  refine ⟨ns, m, f.old _ _ a fun z => ?_, kp.1 _ _ b, c⟩
  obtain ⟨ps, e, _⟩ := t s z
  rw [a] at e
  cases e
/-- what stays through the law -/
structure Bd (K : PySem.W.Frag) (T : List Addr) (s : Addr) (i : Inf) (l : Addr) (ls : List Str) (gv : V) (gd : PyData) (H : Hp) : Prop where
  S : IsS K H s i
  tb : Tb T H
  hl : SqL K H l (ls.map V.str)
  dg : Dp K H gv gd
section
variable {K : PySem.W.Frag} {T : List Addr} {s : Addr} {i : Inf} {l : Addr} {ls : List Str} {gv : V} {gd : PyData} {H H' : Hp}
theorem Bd.ext (b : Bd K T s i l ls gv gd H) (x : Ext s H H') (S' : IsS K H' s i) : Bd K T s i l ls gv gd H' := ⟨S', b.tb.ext b.S x, b.S.seq x b.hl, KeepL.dp (b.S.keepL x) b.dg⟩
theorem Bd.same (b : Bd K T s i l ls gv gd H) (e : Same H H') : Bd K T s i l ls gv gd H' := ⟨b.S.same e, (Fr.same b.tb e).tab, Same.seq e b.hl, KeepL.dp (Same.keepL e) b.dg⟩
theorem Bd.fr (b : Bd K T s i l ls gv gd H) (f : Fr T H H') : Bd K T s i l ls gv gd H' := ⟨b.S.fr b.tb f, f.tab, (Fr.keep b.tb f).1 _ _ b.hl, KeepL.dp (Fr.keep b.tb f) b.dg⟩
theorem Bd.keepF (b : Bd K T s i l ls gv gd H) (f : Fr T H H') : KeepL K H H' := Fr.keep b.tb f
end
theorem KeepL.trans {K : PySem.W.Frag} {H H1 H2 : Hp} (a : KeepL K H H1) (b : KeepL K H1 H2) : KeepL K H H2 := ⟨fun _ _ h => b.1 _ _ (a.1 _ _ h), fun _ _ h => b.2 _ _ (a.2 _ _ h)⟩
end Sc
namespace Sc
open PySem PySem.Spec PyProof.Rows L2
/-! ### sorted(rows, key=lambda row: row[0]) -/
section
variable {prog : Program} {w : World} {A : Around} {s : Shared}
theorem lam_key0 {f t : Addr} {qual : Str} {params : Arguments} {scope : Scope} {x : Str} {cl : List (Str × Addr)} {pm ctv : Value} {c' : Addr} {items : Array Value} {z : Str} {tk : Tok} {j : Nat} {p1 p2 p3 : Pos}
    (hroom : A.depth < recursionLimit) (ho : s.heap.get? f = some (PySem.W.kla_obj "<lambda>" qual params (.Subscript (.Name x p1) (.Constant (.int 0) j p2) p3) scope cl pm c' ctv)) (hcd : s.heap.CodeRec (.ref c') qual) (nl : s.heap.NoLimit)
    (hco : scope.isCoroutine = false) (hgen : scope.isGenerator = false) (hk : scope.kind = .function) (hcell : ∀ y ∈ scope.names, y.2 ≠ .cell) (hx : scope.names.lookup x = some .local)
    (hbind : bindArgs (PySem.W.kla_fn "<lambda>" qual params (.Subscript (.Name x p1) (.Constant (.int 0) j p2) p3) scope cl pm (.ref c') ctv) ⟨[.ref t], []⟩ = pure [(x, .ref t)])
    (ht : IsTup s.heap t items) (h0 : items[0]? = some (.str z tk)) (hd : (x == ("__debug__" : Str)) = false) :
    wpAny (model prog w) A (call (.ref f) [.ref t]) (PySem.W.KeyPure (.str z) s) (fun _ _ => False) s := by
  refine wpAny_call (codeAny_mono (PySem.W.kla_callFunE (R := fun r s' => ∃ u, r = .ok (.ret u) ∧ PySem.W.KeyPure (.str z) s u s') hroom ho rfl hco hgen rfl hcd ?_) fun r s' hq => ?_)
  · rw [hbind]
    refine wpAny_pure (wpAny_newFunctionEnv hcell (fun y hy => by rw [List.mem_singleton.mp hy]; exact hx) (fun h₁ hns hsb => ⟨nl.fresh _ hsb, ?_⟩) hk)
    have kp : ∀ b o, s.heap.get? b = some o → h₁.get? b = some o := fun b o e => hsb.extBut b o (Nat.ne_of_lt (Heap.lt_size e)) (Heap.get?_push_of_some _ e)
    refine PySem.W.kla_codeExpr ?_
    refine Subscript_ ?_
    refine wpAny_Name (wpAny_loadName_local hk (show scope.names.lookup x = some .local from hx) hns (v := .ref t) (by simp) ?_) hd
    refine wpAny_Constant_int ?_
    have ht1 : IsTup h₁ t items := ht.keeps kp
    exact subscriptTail_builtinR (x := .str z tk) ht1.typeIs slot_tuple_getitem.lookup
      (getItem_tuple (j := 0) (Q := fun r s' => r = .str z tk ∧ _) ht1 (by decide) (by decide) (by have := (Array.getElem?_eq_some_iff.mp h0).1; simp [seqIndex?, this]) h0 ⟨rfl, .str z tk, rfl, h₁, _, rfl, kp, .str _ _⟩)
  · obtain ⟨u, rfl, k⟩ := hq
    exact k
end
end Sc
namespace Sc
open PySem PySem.Spec PyProof.Rows L2
theorem extN_keep {K : PySem.W.Frag} {H H' : Hp} (e : LamX.ExtN H H') : KeepL K H H' := by
  refine ⟨fun a xs h => ?_, fun a xs h => ?_⟩
  · rcases h with (h | ⟨o, h⟩) | h
    · exact .inl (.inl (e _ _ h fun ps z => by cases z))
    · exact .inl (.inr ⟨o, e _ _ h fun ps z => by cases z⟩)
    · exact .inr h
  · rcases h with (h | ⟨o, h⟩) | h
    · exact .inl (.inl (e _ _ h fun ps z => by cases z))
    · exact .inl (.inr ⟨o, e _ _ h fun ps z => by cases z⟩)
    · exact .inr h
theorem each_refs : ∀ {its : List Value} {rs : List (Addr × Str)}, Vals (rs.map fun r => V.ref r.1) its → PySem.W.EachIs (fun v (r : Addr × Str) => v = .ref r.1) its rs
  | _, [], .nil => .nil
  | _, _ :: _, .cons a b => .cons a (each_refs b)
theorem refs_each : ∀ {its : List Value} {rs : List (Addr × Str)}, PySem.W.EachIs (fun v (r : Addr × Str) => v = .ref r.1) its rs → Vals (rs.map fun r => V.ref r.1) its
  | _, _, .nil => .nil
  | _, _, .cons a b => .cons a (refs_each b)
def leR : Addr × Str → Addr × Str → Bool := PySem.W.dataLe false fun r => .str r.2
def tSortBy (K : PySem.W.Frag) (T : List (Addr × Str)) (te : TE) : TE := fun σ H Q => te σ H fun v H1 => ∃ (a : Addr) (rs : List (Addr × Str)), v = .ref a ∧ LamX.Tabs T H1 ∧ SqL K H1 a (rs.map fun r => V.ref r.1) ∧ rs.length ≤ 1000 ∧ (∀ r ∈ rs, ∃ u, SqT K H1 r.1 [.str r.2, u]) ∧
  ∀ (H2 : Hp) (p : Addr), LamX.ExtN H1 H2 → LamX.Tabs T H2 → H2 p = none → Q (.ref p) (upd H2 p (.lst ((rs.mergeSort leR).map fun r => V.ref r.1)))
section
variable {X : Cx}
theorem pe_sortedBy {k : Nat} {T : List (Addr × Str)} {c P : Addr} {params : Arguments} {scope : Scope} {x : Str} {e : Expr} {te : TE} {j : Nat} {p1 p2 p3 lpos kpos p pos : Pos}
    (hc : X.calm = true) (hr : Room k X.A) (hg : Gl X "sorted") (hm : X.mg "sorted" = none) (TB : LamX.TabB X.base X.mg c P) (hcode : X.env.code = .ref c) (hmT : (P, X.env.qual ++ "<lambda>") ∈ T) (hu : ∀ q ∈ T, q.1 = P → q.2 = X.env.qual ++ "<lambda>")
    (hdef : defaultsOf params X.env = ([], [])) (hco : scope.isCoroutine = false) (hgen : scope.isGenerator = false) (hk : scope.kind = .function) (hcell : ∀ y ∈ scope.names, y.2 ≠ .cell ∧ y.2 ≠ .free) (hx : scope.names.lookup x = some .local)
    (hbind : ∀ (qual : Str) (cl : List (Str × Addr)) (pm cdv ct v : Value), bindArgs (PySem.W.kla_fn "<lambda>" qual params (.Subscript (.Name x p1) (.Constant (.int 0) j p2) p3) scope cl pm cdv ct) ⟨[v], []⟩ = pure [(x, v)]) (he : PE X e te)
    (hd : (x == ("__debug__" : Str)) = false := by decide) (hes : starEach [e] X.env = (false, eval e X.env) :: starEach [] X.env := by rfl) :
    PE X (.Call (.Name "sorted" p) [e] [⟨some "key", .Lambda params (.Subscript (.Name x p1) (.Constant (.int 0) j p2) p3) scope lpos, kpos⟩] pos) (tSortBy X.K T te) := by
  refine ⟨fun pins s σ H Q I h => ?_⟩
  refine wpAny_Call_Name_kw (ld_blt I hg hm boot_sorted ?_)
  refine callWith_kw ?_ (by rw [hes]; rfl) (by rw [hes]; rfl)
  rw [hes]
  show wpAny _ _ (spliced ((false, eval e X.env) :: backTo pos (starEach [] X.env))) _ _ s
  refine Calls.spliced_cons (thn (he.run pins s σ H _ I h) fun u s1 ⟨v, H1, I1, r1, q1⟩ => Calls.spliced_nil ?_)
  obtain ⟨a, rs, rfl, hT, ha, hl, hrs, q⟩ := q1
  obtain rfl : u = Value.ref a := r1
  show wpAny _ _ (evalAll ((do let v ← eval (.Lambda params (.Subscript (.Name x p1) (.Constant (.int 0) j p2) p3) scope lpos) X.env; standAt pos; pure v) :: [])) _ _ s1
  refine wpAny_evalAll_cons (wpAny_bind (LamX.lam_make2 I1 TB hcode hmT hu hT hdef (fun y hy z => absurd z (hcell y hy).2) fun f c' pm ctv H2 s2 I2 eN T2 hf hfn hfr hcd => ?_))
  refine wpAny_bind (wpAny_standAt (wpAny_pure (wpAny_evalAll_nil ?_)))
  have K2 := extN_keep (K := X.K) eN
  obtain ⟨its, rv, pl, hz⟩ := I2.list (K2.1 _ _ ha)
  obtain ⟨⟨oc, cvs, ct, k1, k2, k3⟩, _, _⟩ := I2.hok c' _ hcd
  have cr : s2.heap.CodeRec (.ref c') (X.env.qual ++ "<lambda>") := ⟨c', oc, cvs, ct, rfl, k1, k2, k3⟩
  show wpAny _ _ (call (.builtin "sorted") [.ref a] [(Str.ofString "key", .ref f)]) _ _ s2
  refine wpAny_mono (PySem.W.sorted_key_data (β := Addr × Str) (b := false) (E := fun _ _ => False) (Q := EP X pins σ Q) (fun r => .str r.2) pl.isList (each_refs rv) ?_ (.inr ?_) (Nat.le_trans hl (by decide)) (fun r _ => ?_) (ksk_s1 _ _) (fun y => ksk_l1 _ _) (fun y => ksk_t1 f y) (fun v r hv hm h tk kp => ?_) (fun out c2 h' tk kp free hD hlen eo => ?_)) (fun _ _ z => z) (fun _ _ z => z.elim)
  · intro d hd d' hd'
    obtain ⟨_, _, rfl⟩ := List.mem_map.mp hd
    obtain ⟨_, _, rfl⟩ := List.mem_map.mp hd'
    rfl
  · intro d hd
    obtain ⟨_, _, rfl⟩ := List.mem_map.mp hd
    exact ⟨(fun z => by cases z), fun xs z => by cases z⟩
  · have := hr.units
    show _ + 2 + 0 < _
    omega
  · obtain ⟨u, hu⟩ := hrs r hm
    obtain ⟨tits, tv, tpl, _⟩ := I2.tuple (K2.2 _ _ hu)
    subst hv
    cases tv with
    | cons rz rr =>
      obtain ⟨tz, rfl⟩ := rz
      exact lam_key0 (s := { s2 with heap := h, toks := tk }) hr.depth (kp _ _ hf) (cr.keeps kp) (I2.nolimit.keeps kp) hco hgen hk (fun y hy => (hcell y hy).1) hx (hbind _ _ _ _ _ _) (tpl.keeps kp) rfl hd
  · have fr2 : H2 (s2.heap.objs.size + 1) = none := I2.hok.fresh (Nat.le_succ _)
    have ml : ((rs.mergeSort leR).map fun r => V.ref r.1).length ≤ sizeLine := by
      rw [List.length_map, List.length_mergeSort]
      exact Nat.le_trans hl (by decide)
    have J : Inv X pins σ (upd H2 (s2.heap.objs.size + 1) (.lst ((rs.mergeSort leR).map fun r => V.ref r.1))) { s2 with heap := h', toks := tk } :=
      I2.call (ch := []) (Un.laid kp (Nat.le_succ _) fr2) (I2.hok.laid kp (Nat.le_succ _) ⟨ml, out, c2, refs_each eo, hD⟩) I2.bare (fun _ z => nomatch z)
    exact ⟨.ref (s2.heap.objs.size + 1), _, J, rfl, q _ _ eN T2 fr2⟩
end
end Sc
namespace Sc
open PySem PySem.Spec PyProof.Rows L2
/-! ### two choices with the same text are the same -/
def lt1 (c : Nat) : Bool := (decide (65 ≤ c) && decide (c ≤ 90)) || (decide (97 ≤ c) && decide (c ≤ 122))
/-- nothing, or a sign that is no letter ahead -/
def Stop (p : Nat → Bool) (x : List Nat) : Prop := ∀ a r, x = a :: r → p a = false
theorem span_eq {p : Nat → Bool} : ∀ {a a' x x' : List Nat}, (∀ c ∈ a, p c = true) → (∀ c ∈ a', p c = true) → Stop p x → Stop p x' → a ++ x = a' ++ x' → a = a' ∧ x = x'
  | [], [], _, _, _, _, _, _, e => ⟨rfl, e⟩
  | [], b :: _, _, _, _, h', hx, _, e => by
    have := hx _ _ e
    rw [h' b List.mem_cons_self] at this
    cases this
  | b :: _, [], _, _, h, _, _, hx', e => by
    have := hx' _ _ e.symm
    rw [h b List.mem_cons_self] at this
    cases this
  | b :: a, b' :: a', x, x', h, h', hx, hx', e => by
    have e' : b :: (a ++ x) = b' :: (a' ++ x') := e
    injection e' with e1 e2
    obtain ⟨r1, r2⟩ := span_eq (fun c m => h c (List.mem_cons_of_mem _ m)) (fun c m => h' c (List.mem_cons_of_mem _ m)) hx hx' e2
    exact ⟨by rw [e1, r1], r2⟩
/-- what may stand behind a choice, behind a kind -/
def TC (r : List Nat) : Prop := ∀ a s, r = a :: s → a = 32 ∨ a = 44 ∨ a = 41 ∨ a = 125
def TK (r : List Nat) : Prop := ∀ a s, r = a :: s → a = 44 ∨ a = 41 ∨ a = 125
theorem TK.c {r : List Nat} (h : TK r) : TC r := fun a s e => .inr (h a s e)
theorem TC.stop {r : List Nat} (h : TC r) : Stop lt1 r := fun a s e => by rcases h a s e with z | z | z | z <;> rw [z] <;> rfl
/-- heads of a cut: no comma, no bracket -/
def hok (h : Str) : Prop := ∀ c ∈ TL.tl h, c ≠ 44 ∧ c ≠ 41
/-- well-formed to n deep -/
def gd : Nat → Ch → Prop
  | 0, .num => True
  | 0, .txt => True
  | 0, .letter l => Lett l
  | 0, .cut l hs => Lett l ∧ hs ≠ [] ∧ ∀ h ∈ hs, hok h
  | 0, _ => False
  | _ + 1, .num => True
  | _ + 1, .txt => True
  | _ + 1, .letter l => Lett l
  | _ + 1, .cut l hs => Lett l ∧ hs ≠ [] ∧ ∀ h ∈ hs, hok h
  | n + 1, .row k => k ≠ [] ∧ ∀ c ∈ k, gd n c
  | n + 1, .book k => k ≠ [] ∧ ∀ c ∈ k, gd n c
  | n + 1, .shape fs => fs ≠ [] ∧ ∀ p ∈ fs, Word p.1 ∧ p.2 ≠ [] ∧ ∀ c ∈ p.2, gd n c
  | _ + 1, _ => False
/-- the letters ahead, and the rest -/
def lead : Ch → List Nat
  | .num => TL.tl "number"
  | .txt => TL.tl "text"
  | .row _ => TL.tl "row"
  | .book _ => TL.tl "book"
  | .shape _ => []
  | .letter l => TL.tl l
  | .cut l _ => TL.tl l
  | _ => []
def rest1 : Ch → List Nat
  | .row k => 40 :: (TL.joinL bar (cL k) ++ [41])
  | .book k => 40 :: (TL.joinL bar (cL k) ++ [41])
  | .shape fs => 123 :: (TL.joinL com (cF fs) ++ [125])
  | .cut _ hs => 40 :: (TL.joinL com (hs.map TL.tl) ++ [41])
  | .any w => TL.tl "some" ++ 32 :: TL.tl w
  | .wth f => TL.tl "with" ++ 32 :: TL.tl f
  | _ => []
theorem cC_lead (c : Ch) : cC c = lead c ++ rest1 c := by
  cases c <;> simp [cC, lead, rest1]
theorem joinL_one (S p : List Nat) : TL.joinL S [p] = p := by simp [TL.joinL]
theorem joinL_two (S p q : List Nat) (r : List (List Nat)) : TL.joinL S (p :: q :: r) = p ++ (S ++ TL.joinL S (q :: r)) := by simp [TL.joinL]
theorem join_inj {α : Type} {S : List Nat} {enc : α → List Nat} {E T : List Nat → Prop} (te : ∀ r, T r → E r) (se : ∀ x, E (S ++ x)) (ns : ∀ r x, T r → r ≠ S ++ x) : ∀ {as bs : List α} {r r' : List Nat},
    (∀ a ∈ as, ∀ b ∈ bs, ∀ x x', E x → E x' → enc a ++ x = enc b ++ x' → a = b ∧ x = x') → as ≠ [] → bs ≠ [] → T r → T r' → TL.joinL S (as.map enc) ++ r = TL.joinL S (bs.map enc) ++ r' → as = bs ∧ r = r'
  | [], _, _, _, _, h, _, _, _, _ => absurd rfl h
  | _ :: _, [], _, _, _, _, h, _, _, _ => absurd rfl h
  | [a], [b], r, r', inj, _, _, t, t', e => by
    simp only [List.map_cons, List.map_nil, joinL_one] at e
    obtain ⟨h1, h2⟩ := inj a List.mem_cons_self b List.mem_cons_self _ _ (te _ t) (te _ t') e
    exact ⟨by rw [h1], h2⟩
  | [a], b :: b2 :: bs, r, r', inj, _, _, t, t', e => by
    simp only [List.map_cons, List.map_nil, joinL_one, joinL_two, List.append_assoc] at e
    obtain ⟨_, h2⟩ := inj a List.mem_cons_self b List.mem_cons_self _ _ (te _ t) (se _) e
    exact absurd h2 (ns _ _ t)
  | a :: a2 :: as, [b], r, r', inj, _, _, t, t', e => by
    simp only [List.map_cons, List.map_nil, joinL_one, joinL_two, List.append_assoc] at e
    obtain ⟨_, h2⟩ := inj a List.mem_cons_self b List.mem_cons_self _ _ (se _) (te _ t') e
    exact absurd h2.symm (ns _ _ t')
  | a :: a2 :: as, b :: b2 :: bs, r, r', inj, _, _, t, t', e => by
    simp only [List.map_cons, joinL_two, List.append_assoc] at e
    obtain ⟨h1, h2⟩ := inj a List.mem_cons_self b List.mem_cons_self _ _ (se _) (se _) e
    have h3 := List.append_cancel_left h2
    rw [← List.map_cons, ← List.map_cons] at h3
    obtain ⟨h4, h5⟩ := join_inj te se ns (as := a2 :: as) (bs := b2 :: bs) (fun x hx y hy => inj x (List.mem_cons_of_mem _ hx) y (List.mem_cons_of_mem _ hy)) (by simp) (by simp) t t' h3
    exact ⟨by rw [h1, h4], h5⟩
theorem word_lt {z : Str} (h : Word z) : ∀ c ∈ TL.tl z, lt1 c = true := fun c m => by
  have := h.2.2 c m
  unfold lt1
  rw [decide_eq_true this.1, decide_eq_true this.2]
  simp
theorem lett_lt {z : Str} (h : Lett z) : ∀ c ∈ TL.tl z, lt1 c = true := fun c m => by
  have := h.2.2 c m
  unfold lt1
  rw [decide_eq_true this.1, decide_eq_true this.2]
  simp
/-- fields -/
theorem field_inj {n : Nat} (inj : ∀ {c c' : Ch}, gd n c → gd n c' → ∀ x x', TC x → TC x' → cC c ++ x = cC c' ++ x' → c = c' ∧ x = x') {p q : Str × List Ch}
    (hp : Word p.1 ∧ p.2 ≠ [] ∧ ∀ c ∈ p.2, gd n c) (hq : Word q.1 ∧ q.2 ≠ [] ∧ ∀ c ∈ q.2, gd n c) {x x' : List Nat} (t : TK x) (t' : TK x')
    (e : (TL.tl p.1 ++ 58 :: 32 :: TL.joinL bar (cL p.2)) ++ x = (TL.tl q.1 ++ 58 :: 32 :: TL.joinL bar (cL q.2)) ++ x') : p = q ∧ x = x' := by
  rw [List.append_assoc, List.append_assoc] at e
  obtain ⟨e1, e2⟩ := span_eq (p := lt1) (word_lt hp.1) (word_lt hq.1) (fun a r z => by injection z with z _; rw [← z]; rfl) (fun a r z => by injection z with z _; rw [← z]; rfl) e
  have e3 : TL.joinL bar (cL p.2) ++ x = TL.joinL bar (cL q.2) ++ x' := by injection e2 with _ e2; injection e2
  rw [cL_map, cL_map] at e3
  obtain ⟨h1, h2⟩ := join_inj (E := TC) (T := TK) (fun r h => h.c) (fun x a s z => by injection z with z _; exact .inl z.symm) (fun r x h z => by rcases h _ _ z with w | w | w <;> cases w)
    (fun a ha b hb x x' hx hx' => inj (hp.2.2 a ha) (hq.2.2 b hb) x x' hx hx') hp.2.1 hq.2.1 t t' e3
  exact ⟨Prod.ext (TL.ext_tl e1) h1, h2⟩
theorem kind_inj {n : Nat} (inj : ∀ {c c' : Ch}, gd n c → gd n c' → ∀ x x', TC x → TC x' → cC c ++ x = cC c' ++ x' → c = c' ∧ x = x') {k k' : List Ch} (k0 : k ≠ []) (k1 : k' ≠ []) (h : ∀ c ∈ k, gd n c) (h' : ∀ c ∈ k', gd n c) {r r' : List Nat}
    (e : (TL.joinL bar (cL k) ++ [41]) ++ r = (TL.joinL bar (cL k') ++ [41]) ++ r') : k = k' ∧ r = r' := by
  rw [List.append_assoc, List.append_assoc, cL_map, cL_map] at e
  obtain ⟨h1, h2⟩ := join_inj (E := TC) (T := TK) (fun r h => h.c) (fun x a s z => by injection z with z _; exact .inl z.symm) (fun r x h z => by rcases h _ _ z with w | w | w <;> cases w)
    (fun a ha b hb x x' hx hx' => inj (h a ha) (h' b hb) x x' hx hx') k0 k1 (r := [41] ++ r) (r' := [41] ++ r') (fun a s z => by injection z with z _; exact .inr (.inl z.symm)) (fun a s z => by injection z with z _; exact .inr (.inl z.symm)) e
  exact ⟨h1, by injection h2⟩
theorem cut_inj {hs hs' : List Str} (h0 : hs ≠ []) (h1 : hs' ≠ []) (h : ∀ z ∈ hs, hok z) (h' : ∀ z ∈ hs', hok z) {r r' : List Nat} (e : (TL.joinL com (hs.map TL.tl) ++ [41]) ++ r = (TL.joinL com (hs'.map TL.tl) ++ [41]) ++ r') : hs = hs' ∧ r = r' := by
  rw [List.append_assoc, List.append_assoc] at e
  obtain ⟨h1, h2⟩ := join_inj (S := com) (enc := TL.tl) (E := fun r => ∃ a s, r = a :: s ∧ (a = 44 ∨ a = 41)) (T := fun r => ∃ s, r = 41 :: s) (fun r ⟨s, z⟩ => ⟨_, s, z, .inr rfl⟩) (fun x => ⟨_, _, rfl, .inl rfl⟩) (fun r x ⟨s, z⟩ w => by rw [z] at w; injection w with w _; cases w)
    (fun a ha b hb x x' ⟨c, s, ex, hc⟩ ⟨c', s', ex', hc'⟩ q => by
      obtain ⟨e1, e2⟩ := span_eq (p := fun c => decide (c ≠ 44 ∧ c ≠ 41)) (fun c m => decide_eq_true (h a ha c m)) (fun c m => decide_eq_true (h' b hb c m))
        (fun a r z => by rw [ex] at z; injection z with z _; rw [← z]; rcases hc with w | w <;> rw [w] <;> rfl) (fun a r z => by rw [ex'] at z; injection z with z _; rw [← z]; rcases hc' with w | w <;> rw [w] <;> rfl) q
      exact ⟨TL.ext_tl e1, e2⟩) h0 h1 ⟨_, rfl⟩ ⟨_, rfl⟩ e
  exact ⟨h1, by injection h2⟩
theorem gd_any {n : Nat} {w : Str} : ¬ gd n (.any w) := by cases n <;> exact fun h => h
theorem gd_wth {n : Nat} {w : Str} : ¬ gd n (.wth w) := by cases n <;> exact fun h => h
theorem gd_lett {n : Nat} {l : Str} (h : gd n (.letter l)) : Lett l := by cases n <;> exact h
theorem gd_cut {n : Nat} {l : Str} {hs : List Str} (h : gd n (.cut l hs)) : Lett l ∧ hs ≠ [] ∧ ∀ z ∈ hs, hok z := by cases n <;> exact h
theorem gd_row {n : Nat} {k : List Ch} (h : gd n (.row k)) : ∃ m, n = m + 1 ∧ k ≠ [] ∧ ∀ c ∈ k, gd m c := by
  cases n with
  | zero => exact h.elim
  | succ m => exact ⟨m, rfl, h⟩
theorem gd_book {n : Nat} {k : List Ch} (h : gd n (.book k)) : ∃ m, n = m + 1 ∧ k ≠ [] ∧ ∀ c ∈ k, gd m c := by
  cases n with
  | zero => exact h.elim
  | succ m => exact ⟨m, rfl, h⟩
theorem gd_shape {n : Nat} {fs : List (Str × List Ch)} (h : gd n (.shape fs)) : ∃ m, n = m + 1 ∧ fs ≠ [] ∧ ∀ p ∈ fs, Word p.1 ∧ p.2 ≠ [] ∧ ∀ c ∈ p.2, gd m c := by
  cases n with
  | zero => exact h.elim
  | succ m => exact ⟨m, rfl, h⟩
theorem lead_lt {n : Nat} {c : Ch} (h : gd n c) : ∀ a ∈ lead c, lt1 a = true := by
  cases c with
  | num => exact (by decide : ∀ a ∈ TL.tl "number", lt1 a = true)
  | txt => exact (by decide : ∀ a ∈ TL.tl "text", lt1 a = true)
  | row _ => exact (by decide : ∀ a ∈ TL.tl "row", lt1 a = true)
  | book _ => exact (by decide : ∀ a ∈ TL.tl "book", lt1 a = true)
  | shape _ => intro a m; cases m
  | letter l => exact lett_lt (gd_lett h)
  | cut l _ => exact lett_lt (gd_cut h).1
  | any _ => exact (gd_any h).elim
  | wth _ => exact (gd_wth h).elim
theorem rest_stop {n : Nat} {c : Ch} (h : gd n c) {x : List Nat} (t : TC x) : Stop lt1 (rest1 c ++ x) := by
  cases c with
  | num => exact t.stop
  | txt => exact t.stop
  | row _ => intro a r e; injection e with e _; rw [← e]; rfl
  | book _ => intro a r e; injection e with e _; rw [← e]; rfl
  | shape _ => intro a r e; injection e with e _; rw [← e]; rfl
  | letter l => exact t.stop
  | cut l _ => intro a r e; injection e with e _; rw [← e]; rfl
  | any _ => exact (gd_any h).elim
  | wth _ => exact (gd_wth h).elim
theorem lett_no {l : Str} {z : List Nat} (h : Lett l) (e : TL.tl l = z) (b : (z.all fun c => decide (65 ≤ c) && decide (c ≤ 90)) = false ∨ z = []) : False := by
  rcases b with b | b
  · have : (z.all fun c => decide (65 ≤ c) && decide (c ≤ 90)) = true := by
      rw [← e, List.all_eq_true]
      intro c m
      have := h.2.2 c m
      rw [decide_eq_true this.1, decide_eq_true this.2]
      rfl
    rw [this] at b
    cases b
  · have h1 : 1 ≤ (TL.tl l).length := h.1
    rw [e, b] at h1
    exact absurd h1 (by decide)
theorem tc_no {x y : List Nat} {a : Nat} (t : TC x) (e : x = a :: y) (h : a ≠ 32 ∧ a ≠ 44 ∧ a ≠ 41 ∧ a ≠ 125) : False := by
  rcases t _ _ e with w | w | w | w
  · exact h.1 w
  · exact h.2.1 w
  · exact h.2.2.1 w
  · exact h.2.2.2 w
theorem choice_inj : ∀ (n : Nat) {c c' : Ch}, gd n c → gd n c' → ∀ x x', TC x → TC x' → cC c ++ x = cC c' ++ x' → c = c' ∧ x = x' := by
  intro n
  induction n using Nat.strongRecOn with
  | ind n ih =>
  intro c c' h h' x x' t t' e
  rw [cC_lead, cC_lead, List.append_assoc, List.append_assoc] at e
  obtain ⟨e1, e2⟩ := span_eq (lead_lt h) (lead_lt h') (rest_stop h t) (rest_stop h' t') e
  cases c with
  | any _ => exact (gd_any h).elim
  | wth _ => exact (gd_wth h).elim
  | num => cases c' with
    | any _ => exact (gd_any h').elim
    | wth _ => exact (gd_wth h').elim
    | num => exact ⟨rfl, e2⟩
    | txt => (dsimp only [lead] at e1; exact absurd e1 (by decide))
    | row _ => (dsimp only [lead] at e1; exact absurd e1 (by decide))
    | book _ => (dsimp only [lead] at e1; exact absurd e1 (by decide))
    | shape _ => (dsimp only [lead] at e1; exact absurd e1 (by decide))
    | letter l => exact (lett_no (gd_lett h') e1.symm (.inl (by dsimp only [lead]; decide))).elim
    | cut l _ => exact (lett_no (gd_cut h').1 e1.symm (.inl (by dsimp only [lead]; decide))).elim
  | txt => cases c' with
    | any _ => exact (gd_any h').elim
    | wth _ => exact (gd_wth h').elim
    | num => (dsimp only [lead] at e1; exact absurd e1 (by decide))
    | txt => exact ⟨rfl, e2⟩
    | row _ => (dsimp only [lead] at e1; exact absurd e1 (by decide))
    | book _ => (dsimp only [lead] at e1; exact absurd e1 (by decide))
    | shape _ => (dsimp only [lead] at e1; exact absurd e1 (by decide))
    | letter l => exact (lett_no (gd_lett h') e1.symm (.inl (by dsimp only [lead]; decide))).elim
    | cut l _ => exact (lett_no (gd_cut h').1 e1.symm (.inl (by dsimp only [lead]; decide))).elim
  | row k => cases c' with
    | any _ => exact (gd_any h').elim
    | wth _ => exact (gd_wth h').elim
    | num => (dsimp only [lead] at e1; exact absurd e1 (by decide))
    | txt => (dsimp only [lead] at e1; exact absurd e1 (by decide))
    | row k' =>
      obtain ⟨m, rfl, k0, hk⟩ := gd_row h
      obtain ⟨m', em, k1, hk'⟩ := gd_row h'
      cases em
      obtain ⟨r1, r2⟩ := kind_inj (fun {_ _} a b => ih m (Nat.lt_succ_self m) a b) k0 k1 hk hk' (by injection e2)
      exact ⟨by rw [r1], r2⟩
    | book _ => (dsimp only [lead] at e1; exact absurd e1 (by decide))
    | shape _ => (dsimp only [lead] at e1; exact absurd e1 (by decide))
    | letter l => exact (lett_no (gd_lett h') e1.symm (.inl (by dsimp only [lead]; decide))).elim
    | cut l _ => exact (lett_no (gd_cut h').1 e1.symm (.inl (by dsimp only [lead]; decide))).elim
  | book k => cases c' with
    | any _ => exact (gd_any h').elim
    | wth _ => exact (gd_wth h').elim
    | num => (dsimp only [lead] at e1; exact absurd e1 (by decide))
    | txt => (dsimp only [lead] at e1; exact absurd e1 (by decide))
    | book k' =>
      obtain ⟨m, rfl, k0, hk⟩ := gd_book h
      obtain ⟨m', em, k1, hk'⟩ := gd_book h'
      cases em
      obtain ⟨r1, r2⟩ := kind_inj (fun {_ _} a b => ih m (Nat.lt_succ_self m) a b) k0 k1 hk hk' (by injection e2)
      exact ⟨by rw [r1], r2⟩
    | row _ => (dsimp only [lead] at e1; exact absurd e1 (by decide))
    | shape _ => (dsimp only [lead] at e1; exact absurd e1 (by decide))
    | letter l => exact (lett_no (gd_lett h') e1.symm (.inl (by dsimp only [lead]; decide))).elim
    | cut l _ => exact (lett_no (gd_cut h').1 e1.symm (.inl (by dsimp only [lead]; decide))).elim
  | shape fs => cases c' with
    | any _ => exact (gd_any h').elim
    | wth _ => exact (gd_wth h').elim
    | num => (dsimp only [lead] at e1; exact absurd e1 (by decide))
    | txt => (dsimp only [lead] at e1; exact absurd e1 (by decide))
    | row _ => (dsimp only [lead] at e1; exact absurd e1 (by decide))
    | book _ => (dsimp only [lead] at e1; exact absurd e1 (by decide))
    | shape fs' =>
      obtain ⟨m, rfl, k0, hk⟩ := gd_shape h
      obtain ⟨m', em, k1, hk'⟩ := gd_shape h'
      cases em
      have e3 : (TL.joinL com (cF fs) ++ [125]) ++ x = (TL.joinL com (cF fs') ++ [125]) ++ x' := by injection e2
      rw [List.append_assoc, List.append_assoc, cF_map, cF_map] at e3
      obtain ⟨r1, r2⟩ := join_inj (S := com) (E := TK) (T := fun r => ∃ s, r = 125 :: s) (fun r ⟨s, z⟩ a s' w => by rw [z] at w; injection w with w _; exact .inr (.inr w.symm)) (fun x a s z => by injection z with z _; exact .inl z.symm) (fun r x ⟨s, z⟩ w => by rw [z] at w; injection w with w _; cases w)
        (fun a ha b hb x x' hx hx' q => field_inj (fun {_ _} a b => ih m (Nat.lt_succ_self m) a b) (hk a ha) (hk' b hb) hx hx' q) k0 k1 ⟨_, rfl⟩ ⟨_, rfl⟩ e3
      exact ⟨by rw [r1], by injection r2⟩
    | letter l => exact (lett_no (gd_lett h') e1.symm (.inr rfl)).elim
    | cut l _ => exact (lett_no (gd_cut h').1 e1.symm (.inr rfl)).elim
  | letter l => cases c' with
    | any _ => exact (gd_any h').elim
    | wth _ => exact (gd_wth h').elim
    | num => exact (lett_no (gd_lett h) e1 (.inl (by dsimp only [lead]; decide))).elim
    | txt => exact (lett_no (gd_lett h) e1 (.inl (by dsimp only [lead]; decide))).elim
    | row _ => exact (lett_no (gd_lett h) e1 (.inl (by dsimp only [lead]; decide))).elim
    | book _ => exact (lett_no (gd_lett h) e1 (.inl (by dsimp only [lead]; decide))).elim
    | shape _ => exact (lett_no (gd_lett h) e1 (.inr rfl)).elim
    | letter l' => exact ⟨by rw [TL.ext_tl e1], e2⟩
    | cut l' _ => exact (tc_no t e2 (by decide)).elim
  | cut l hs => cases c' with
    | any _ => exact (gd_any h').elim
    | wth _ => exact (gd_wth h').elim
    | num => exact (lett_no (gd_cut h).1 e1 (.inl (by dsimp only [lead]; decide))).elim
    | txt => exact (lett_no (gd_cut h).1 e1 (.inl (by dsimp only [lead]; decide))).elim
    | row _ => exact (lett_no (gd_cut h).1 e1 (.inl (by dsimp only [lead]; decide))).elim
    | book _ => exact (lett_no (gd_cut h).1 e1 (.inl (by dsimp only [lead]; decide))).elim
    | shape _ => exact (lett_no (gd_cut h).1 e1 (.inr rfl)).elim
    | letter l' => exact (tc_no t' e2.symm (by decide)).elim
    | cut l' hs' =>
      obtain ⟨_, h0, hh⟩ := gd_cut h
      obtain ⟨_, h1, hh'⟩ := gd_cut h'
      obtain ⟨r1, r2⟩ := cut_inj h0 h1 hh hh' (by injection e2)
      exact ⟨by rw [TL.ext_tl e1, r1], r2⟩
/-- two choices with the same text are the same -/
theorem txC_inj {n : Nat} {c c' : Ch} (h : gd n c) (h' : gd n c') (e : txC c = txC c') : c = c' := by
  have e' : cC c = cC c' := congrArg TL.tl e
  exact (choice_inj n h h' [] [] (fun a s z => by cases z) (fun a s z => by cases z) (by rw [List.append_nil, List.append_nil]; exact e')).1
end Sc
namespace Sc
open PySem PyProof.Rows L2
/-- a def whose code object is known -/
structure DefT (K : PySem.W.Frag) (mg : Str → Option Value) (x : Str) (st : Stmt) (ps : List Str) (c : Addr) : Prop where
  ex : ∃ (f : Addr) (fd : FuncData) (oc : Value) (od : Option Addr) (kV doc pm : Value) (an : Option Addr) (ct : Value) (osl : Array (Option Value)),
    fd = PySem.W.fnOf x x (defArgs st) (defBody st) (defScope st) .none kV doc pm an (.ref c) ct ∧ K.lookup f = some ⟨oc, od, .func fd, osl⟩ ∧ PySem.W.codeIn K (.ref c) x = true ∧ PySem.W.keepIn K (.ref f) = true ∧ mg x = some (.ref f) ∧ Binds K fd ps []
theorem DefT.of {K : PySem.W.Frag} {h : Heap} {mg : Str → Option Value} (X : K.In h) (G : h.Ns mainGlobals mg) {x : Str} {st : Stmt} {ps : List Str} {f c : Addr} {oc : Value} {od an : Option Addr} {osl : Array (Option Value)} {kV doc pm ct : Value}
    (a : PySem.W.nsIn K mainGlobals x = some (some (.ref f))) (l : K.lookup f = some ⟨oc, od, .func (PySem.W.fnOf x x (defArgs st) (defBody st) (defScope st) .none kV doc pm an (.ref c) ct), osl⟩) (cc : PySem.W.codeIn K (.ref c) x = true) (k : PySem.W.keepIn K (.ref f) = true)
    (b : ∀ (kV doc pm : Value) (an : Option Addr) (cdv ct : Value) (us : List Value), us.length = ps.length → bindArgs (PySem.W.fnOf x x (defArgs st) (defBody st) (defScope st) .none kV doc pm an cdv ct) ⟨us, []⟩ = pure (ps.zip us)) : DefT K mg x st ps c :=
  ⟨⟨f, _, oc, od, kV, doc, pm, an, ct, osl, rfl, l, cc, k, PySem.W.mg_of X G a, (fun_mk (st := st) l cc k).binds b⟩⟩
theorem DefT.ok {P : Program} {w : World} {K : PySem.W.Frag} {mg : Str → Option Value} {base : Heap} {x : Str} {st : Stmt} {N ps : List Str} {c : Addr} {k : Nat} {sp : Sp} (D : DefT K mg x st ps c) (S : FnScope N ps (defScope st)) (len : ∀ vs H Q E, sp vs H Q E → vs.length = ps.length)
    (body : ∀ (f : Addr) (A : Around) (outer : List Env) (s : Shared) (H : Hp) (vs : List V) (Q : VK) (E : XK), Room k (A.deeper (envOfC x (defScope st) s.heap.objs.size f (.ref c))) → sp vs H Q E →
      ∃ t, PSs (cxOf CX0 P w K mg base N x (defScope st) f (.ref c) A outer s H E).nox (defBody st) t ∧ t { nx := fun _ H' => Q .non H', rt := Q } (start N vs) H) : Cal P w K mg base (k + 1) x ps sp := by
  obtain ⟨f, fd, oc, od, kV, doc, pm, an, ct, osl, rfl, lk, hcd, kp, m, b⟩ := D.ex
  exact ⟨f, _, fn_of lk hcd S len fun A outer s H vs Q E hr hsp => by
    obtain ⟨t, h, q⟩ := body f A outer s H vs Q E hr hsp
    exact ⟨t, h.nox, q⟩, m, kp, b⟩
theorem gen_by {env : Env} {scope : Scope} {x : Str} (h : ((scope.kind == .function) && !scope.isCoroutine && scope.names.all (fun y => y.2 != .cell && y.2 != .free) && (scope.names.lookup (".0" : Str) == some NameKind.local) && (scope.names.lookup x == some NameKind.local)) = true) : GxR.GenS env scope x := by
  simp only [Bool.and_eq_true, List.all_eq_true, bne_iff_ne, beq_iff_eq, Bool.not_eq_true'] at h
  obtain ⟨⟨⟨⟨h1, h2⟩, h3⟩, h4⟩, h5⟩ := h
  exact ⟨h1, h2, fun y m => (h3 y m).1, h4, h5, fun y m e => absurd e (h3 y m).2⟩
end Sc
namespace Sc
open PySem PySem.Spec PyProof.Rows L2
/-! ### what is drawn is well-formed, in plain signs -/
theorem gd_of {ls : List Str} (hl : ∀ l ∈ ls, Lett l) : ∀ (n d : Nat), d ≤ n → ∀ c : Ch, okC ls d c → gd n c := by
  intro n
  induction n with
  | zero =>
    intro d hd c h
    obtain rfl : d = 0 := by omega
    cases c with
    | num => exact trivial
    | txt => exact trivial
    | row _ => exact absurd h.1 (Nat.lt_irrefl _)
    | book _ => exact absurd h.1 (Nat.lt_irrefl _)
    | shape _ => exact absurd h.1 (Nat.lt_irrefl _)
    | letter l => have h' : l ∈ ls := by unfold okC at h; exact h
                  exact hl l h'
    | cut _ _ => unfold okC at h; exact h.elim
    | any _ => unfold okC at h; exact h.elim
    | wth _ => unfold okC at h; exact h.elim
  | succ n ih =>
    intro d hd c h
    cases c with
    | num => exact trivial
    | txt => exact trivial
    | row k =>
      have h' : 0 < d ∧ k ≠ [] ∧ k.length ≤ 3 ∧ okL ls (d - 1) k := by unfold okC at h; exact h
      exact ⟨h'.2.1, fun c hc => ih (d - 1) (by omega) c (okL_mem' h'.2.2.2 hc)⟩
    | book k =>
      have h' : 0 < d ∧ k ≠ [] ∧ k.length ≤ 3 ∧ okL ls (d - 1) k := by unfold okC at h; exact h
      exact ⟨h'.2.1, fun c hc => ih (d - 1) (by omega) c (okL_mem' h'.2.2.2 hc)⟩
    | shape fs =>
      have h' : 0 < d ∧ fs.length ≤ 2 ∧ Fld (fs.map (·.1)) ∧ okF ls (d - 1) fs := by unfold okC at h; exact h
      refine ⟨fun z => h'.2.2.1.1 (by rw [z]; rfl), fun p hp => ?_⟩
      obtain ⟨w1, k1, _, o1⟩ := okF_mem' h'.2.2.2 hp
      exact ⟨w1, k1, fun c hc => ih (d - 1) (by omega) c (okL_mem' o1 hc)⟩
    | letter l => have h' : l ∈ ls := by unfold okC at h; exact h
                  exact hl l h'
    | cut _ _ => unfold okC at h; exact h.elim
    | any _ => unfold okC at h; exact h.elim
    | wth _ => unfold okC at h; exact h.elim
theorem mem_joinL {S : List Nat} {a : Nat} : ∀ {ps : List (List Nat)}, a ∈ TL.joinL S ps → a ∈ S ∨ ∃ p ∈ ps, a ∈ p
  | [], h => by simp [TL.joinL] at h
  | [p], h => by
    rw [joinL_one] at h
    exact .inr ⟨p, List.mem_cons_self, h⟩
  | p :: q :: r, h => by
    rw [joinL_two] at h
    rcases List.mem_append.mp h with z | z
    · exact .inr ⟨p, List.mem_cons_self, z⟩
    · rcases List.mem_append.mp z with z | z
      · exact .inl z
      · rcases mem_joinL z with w | ⟨x, m, w⟩
        · exact .inl w
        · exact .inr ⟨x, List.mem_cons_of_mem _ m, w⟩
/-- the signs of a head -/
theorem hd_signs {n : Nat} {c : Ch} (h : okC [] n c) : ∀ a ∈ TL.tl (hdC c), a ≠ 44 ∧ a ≠ 41 ∧ a < 128 := by
  cases c with
  | num => exact (by decide : ∀ a ∈ TL.tl "number", a ≠ 44 ∧ a ≠ 41 ∧ a < 128)
  | txt => exact (by decide : ∀ a ∈ TL.tl "text", a ≠ 44 ∧ a ≠ 41 ∧ a < 128)
  | row _ => exact (by decide : ∀ a ∈ TL.tl "row", a ≠ 44 ∧ a ≠ 41 ∧ a < 128)
  | book _ => exact (by decide : ∀ a ∈ TL.tl "book", a ≠ 44 ∧ a ≠ 41 ∧ a < 128)
  | shape fs =>
    have h' : 0 < n ∧ fs.length ≤ 2 ∧ Fld (fs.map (·.1)) ∧ okF [] (n - 1) fs := by unfold okC at h; exact h
    intro a m
    have e : TL.tl (hdC (.shape fs)) = TL.joinL (TL.tl " ") ((("shape" : Str) :: fs.map (·.1)).map TL.tl) := by
      show TL.tl (Txt.join " " ("shape" :: fs.map (·.1))) = _
      rw [TL.join_eq, TL.tl_join]
    rw [e] at m
    rcases mem_joinL m with z | ⟨p, hp, z⟩
    · exact (by decide : ∀ a ∈ TL.tl " ", a ≠ 44 ∧ a ≠ 41 ∧ a < 128) a z
    · obtain ⟨y, hy, rfl⟩ := List.mem_map.mp hp
      rcases List.mem_cons.mp hy with w | w
      · rw [w] at z
        exact (by decide : ∀ a ∈ TL.tl "shape", a ≠ 44 ∧ a ≠ 41 ∧ a < 128) a z
      · have := (h'.2.2.1.2.2.2.2 y w).2.2 a z
        omega
  | letter l => exact absurd (show l ∈ [] by unfold okC at h; exact h) (by simp)
  | cut _ _ => unfold okC at h; exact h.elim
  | any _ => unfold okC at h; exact h.elim
  | wth _ => unfold okC at h; exact h.elim
theorem okN_plain {z : Str} {n : Nat} (l : (TL.tl z).length ≤ 1000) (h : ∀ a ∈ TL.tl z, a < 128) : OkN n (.str z) := by
  refine ⟨?_, ?_, by simp [PyData.depth]⟩
  · show z.cps.all (· < 0x110000) = true
    rw [← Array.all_toList, List.all_eq_true]
    intro c hc
    have := h c hc
    exact decide_eq_true (by omega)
  · show decide (z.length ≤ 1000) = true
    rw [len_list]
    exact decide_eq_true l
theorem cut_well {bs : List (Str × List Ch)} (ok : okB bs) {c : Ch} (h : okCut bs c) : gd 9 c ∧ OkN 30 (pyC c) ∧ ∀ a ∈ cC c, a < 128 := by
  obtain ⟨l, k, hm, hc⟩ := h
  obtain ⟨lt, k0, k3, okk⟩ := ok _ hm
  have ls : ∀ a ∈ TL.tl l, a < 128 := fun a m => by have := lt.2.2 a m; omega
  rcases hc with rfl | ⟨ys, a, m, rfl, hs, m0, am, my⟩
  · exact ⟨lt, by rw [pyC]; exact okN_two (n := 29) (okN_w (by decide +kernel)) ((okN_lett lt).mono (by omega)), ls⟩
  · have hd : ∀ y ∈ (ys.drop a).take m, (∀ b ∈ TL.tl y, b ≠ 44 ∧ b ≠ 41 ∧ b < 128) ∧ (TL.tl y).length ≤ 300 := fun y hy => by
      have hy2 := (hs.2.2.2 y).mp (List.mem_of_mem_drop (List.mem_of_mem_take hy))
      obtain ⟨c, hc, rfl⟩ := List.mem_map.mp hy2
      have := hd_len (okL_mem okk hc)
      rw [len_list] at this
      exact ⟨hd_signs (okL_mem okk hc), this⟩
    have tk : ((ys.drop a).take m).length ≤ 3 := by
      have := List.length_take_le' m (ys.drop a)
      rw [List.length_drop] at this
      have few := hs.2.2.1
      have k3' : k.length ≤ 3 := k3
      omega
    refine ⟨⟨lt, fun z => ?_, fun y hy b hb => ⟨((hd y hy).1 b hb).1, ((hd y hy).1 b hb).2.1⟩⟩, ?_, fun b hb => ?_⟩
    · have := congrArg List.length z
      rw [List.length_take, List.length_drop] at this
      have h0 : ([] : List Str).length = 0 := rfl
      omega
    · rw [pyC]
      refine okN_tup (n := 29) (by show 3 ≤ 60; decide) fun x hx => ?_
      rcases List.mem_cons.mp hx with e | hx
      · rw [e]; exact okN_w (by decide +kernel)
      rcases List.mem_cons.mp hx with e | hx
      · rw [e]; exact (okN_lett lt).mono (by omega)
      rw [List.mem_singleton.mp hx]
      refine okN_tup (n := 28) (by rw [List.length_map]; omega) fun x hx => ?_
      obtain ⟨y, hy, rfl⟩ := List.mem_map.mp hx
      exact okN_plain (Nat.le_trans (hd y hy).2 (by decide)) fun b hb => ((hd y hy).1 b hb).2.2
    · have hb' : b ∈ TL.tl l ++ 40 :: (TL.joinL com (((ys.drop a).take m).map TL.tl) ++ [41]) := hb
      rcases List.mem_append.mp hb' with z | z
      · exact ls b z
      rcases List.mem_cons.mp z with z | z
      · omega
      rcases List.mem_append.mp z with z | z
      · rcases mem_joinL z with w | ⟨p, hp, w⟩
        · exact (by decide : ∀ b ∈ com, b < 128) b w
        · obtain ⟨y, hy, rfl⟩ := List.mem_map.mp hp
          exact ((hd y hy).1 b w).2.2
      · rw [List.mem_singleton.mp z]; decide
theorem signs_kind {k : List Ch} (h : ∀ c ∈ k, ∀ a ∈ cC c, a < 128) : ∀ a ∈ TL.joinL bar (cL k), a < 128 := fun a m => by
  rcases mem_joinL m with z | ⟨p, hp, z⟩
  · exact (by decide : ∀ a ∈ bar, a < 128) a z
  · rw [cL_map] at hp
    obtain ⟨c, hc, rfl⟩ := List.mem_map.mp hp
    exact h c hc a z
theorem signs_of {ls : List Str} (hl : ∀ l ∈ ls, Lett l) : ∀ (n d : Nat), d ≤ n → ∀ c : Ch, okC ls d c → ∀ a ∈ cC c, a < 128 := by
  have lt : ∀ l ∈ ls, ∀ a ∈ TL.tl l, a < 128 := fun l m a ha => by have := (hl l m).2.2 a ha; omega
  have brk : ∀ (w x : List Nat), (∀ a ∈ w, a < 128) → (∀ a ∈ x, a < 128) → ∀ a ∈ w ++ 40 :: (x ++ [41]), a < 128 := fun w x hw hx a m => by
    rcases List.mem_append.mp m with z | z
    · exact hw a z
    rcases List.mem_cons.mp z with z | z
    · omega
    rcases List.mem_append.mp z with z | z
    · exact hx a z
    · rw [List.mem_singleton.mp z]; decide
  intro n
  induction n with
  | zero =>
    intro d hd c h
    obtain rfl : d = 0 := by omega
    cases c with
    | num => exact (by decide : ∀ a ∈ TL.tl "number", a < 128)
    | txt => exact (by decide : ∀ a ∈ TL.tl "text", a < 128)
    | row _ => exact absurd h.1 (Nat.lt_irrefl _)
    | book _ => exact absurd h.1 (Nat.lt_irrefl _)
    | shape _ => exact absurd h.1 (Nat.lt_irrefl _)
    | letter l => exact lt l (by unfold okC at h; exact h)
    | cut _ _ => unfold okC at h; exact h.elim
    | any _ => unfold okC at h; exact h.elim
    | wth _ => unfold okC at h; exact h.elim
  | succ n ih =>
    intro d hd c h
    cases c with
    | num => exact (by decide : ∀ a ∈ TL.tl "number", a < 128)
    | txt => exact (by decide : ∀ a ∈ TL.tl "text", a < 128)
    | row k =>
      have h' : 0 < d ∧ k ≠ [] ∧ k.length ≤ 3 ∧ okL ls (d - 1) k := by unfold okC at h; exact h
      exact brk (TL.tl "row") _ (by decide) (signs_kind fun c hc => ih (d - 1) (by omega) c (okL_mem' h'.2.2.2 hc))
    | book k =>
      have h' : 0 < d ∧ k ≠ [] ∧ k.length ≤ 3 ∧ okL ls (d - 1) k := by unfold okC at h; exact h
      exact brk (TL.tl "book") _ (by decide) (signs_kind fun c hc => ih (d - 1) (by omega) c (okL_mem' h'.2.2.2 hc))
    | shape fs =>
      have h' : 0 < d ∧ fs.length ≤ 2 ∧ Fld (fs.map (·.1)) ∧ okF ls (d - 1) fs := by unfold okC at h; exact h
      intro a m
      have m' : a ∈ 123 :: (TL.joinL com (cF fs) ++ [125]) := m
      rcases List.mem_cons.mp m' with z | z
      · omega
      rcases List.mem_append.mp z with z | z
      · rcases mem_joinL z with w | ⟨p, hp, w⟩
        · exact (by decide : ∀ b ∈ com, b < 128) a w
        · rw [cF_map] at hp
          obtain ⟨p2, hp2, rfl⟩ := List.mem_map.mp hp
          obtain ⟨w1, _, _, o1⟩ := okF_mem' h'.2.2.2 hp2
          rcases List.mem_append.mp w with w | w
          · have := w1.2.2 a w
            omega
          rcases List.mem_cons.mp w with w | w
          · omega
          rcases List.mem_cons.mp w with w | w
          · omega
          exact signs_kind (fun c hc => ih (d - 1) (by omega) c (okL_mem' o1 hc)) a w
      · rw [List.mem_singleton.mp z]; decide
    | letter l => exact lt l (by unfold okC at h; exact h)
    | cut _ _ => unfold okC at h; exact h.elim
    | any _ => unfold okC at h; exact h.elim
    | wth _ => unfold okC at h; exact h.elim
theorem lay_of {c : Ch} (h : ∀ a ∈ cC c, a < 128) : PyData.canLay0 (.str (txC c)) = true := by
  show (txC c).cps.all (· < 0x110000) = true
  rw [← Array.all_toList, List.all_eq_true]
  intro a ha
  have := h a ha
  exact decide_eq_true (by omega)
theorem any_well {bs : List (Str × List Ch)} (ok : okB bs) {k : List Ch} (h : okA bs 2 k) : ∀ c ∈ k, gd 9 c ∧ dC c < 3 ∧ (cC c).length ≤ 100000 ∧ OkN 30 (pyC c) ∧ PyData.canLay0 (.str (txC c)) = true := fun c hc => by
  obtain ⟨g1, _, g3, _⟩ := any_len ok h
  have hl : ∀ l ∈ bs.map (·.1), Lett l := fun l m => by
    obtain ⟨q, hq, rfl⟩ := List.mem_map.mp m
    exact (ok q hq).1
  have dl : dC c < 3 := Nat.lt_of_le_of_lt (Nat.le_trans (dL_mem hc) g3) (by decide)
  have ll : (cC c).length ≤ 100000 := Nat.le_trans (g1 _ (by rw [cL_map]; exact List.mem_map_of_mem hc)) (by decide)
  obtain ⟨k0, cs, rfl, okk, n0, n3, hcs⟩ := h
  rcases List.mem_append.mp hc with m | m
  · have o := okL_mem' okk m
    refine ⟨gd_of hl 9 2 (by decide) c o, dl, ll, ?_, lay_of (signs_of hl 2 2 (Nat.le_refl _) c o)⟩
    have a := okN_kind hl 2 [c] (by show 1 ≤ 60; decide) ⟨o, trivial⟩
    obtain ⟨h1, h2, h3⟩ := a
    have e0 : (PyData.tuple (pyL [c])).depth = (pyC c).depth + 1 := by simp [PyData.depth, PyData.depthAll, pyL]
    rw [pyL_map] at h1 h2
    have h2' : (decide (1 ≤ 60) && smAll [pyC c]) = true := h2
    rw [Bool.and_eq_true] at h2'
    exact ⟨layAll_mem h1 List.mem_cons_self, smAll_mem h2'.2 List.mem_cons_self, by omega⟩
  · rcases hcs with rfl | ⟨c', rfl, hc'⟩
    · cases m
    · rw [List.mem_singleton.mp m] at dl ll ⊢
      obtain ⟨w1, w2, w3⟩ := cut_well ok hc'
      exact ⟨w1, dl, ll, w2, lay_of w3⟩
end Sc
namespace Sc
open PySem PySem.Spec PyProof.Rows L2
/-! ### kinds joined: what joined and the law's own joining are held against -/
/-- the choices joined: by their texts, each once -/
def J (all cs : List Ch) : Prop := (cs.map txC).Pairwise ltT ∧ (∀ c ∈ cs, c ∈ all) ∧ ∀ c ∈ all, txC c ∈ cs.map txC
theorem J_uniq {n : Nat} {all cs cs' : List Ch} (g : ∀ c ∈ all, gd n c) (h : J all cs) (h' : J all cs') : cs = cs' := by
  have e : cs.map txC = cs'.map txC := asc_uniq _ _ h.1 h'.1 fun z => ⟨fun m => by
    obtain ⟨c, hc, rfl⟩ := List.mem_map.mp m
    exact h'.2.2 c (h.2.1 c hc), fun m => by
    obtain ⟨c, hc, rfl⟩ := List.mem_map.mp m
    exact h.2.2 c (h'.2.1 c hc)⟩
  have inj : ∀ (as bs : List Ch), (∀ c ∈ as, gd n c) → (∀ c ∈ bs, gd n c) → as.map txC = bs.map txC → as = bs := fun as => by
    induction as with
    | nil => intro bs _ _ e; cases bs with
      | nil => rfl
      | cons _ _ => cases e
    | cons a as ih => intro bs ha hb e; cases bs with
      | nil => cases e
      | cons b bs =>
        injection e with e1 e2
        rw [txC_inj (ha a List.mem_cons_self) (hb b List.mem_cons_self) e1, ih bs (fun c m => ha c (List.mem_cons_of_mem _ m)) (fun c m => hb c (List.mem_cons_of_mem _ m)) e2]
  exact inj cs cs' (fun c m => g c (h.2.1 c m)) (fun c m => g c (h'.2.1 c m)) e
/-- kinds of a list -/
def IsKs (K : PySem.W.Frag) (H : Hp) (vs : List V) (ks : List (List Ch)) : Prop := vs.length = ks.length ∧ ∀ (j : Nat) (v : V) (k : List Ch), vs[j]? = some v → ks[j]? = some k → IsK K H v k
def spJoin (K : PySem.W.Frag) (n : Nat) (T : Hp → Prop) (R : Hp → Hp → Prop) : Sp := fun vs H Q _ => ∃ (l : Addr) (us : List V) (ks : List (List Ch)), vs = [.ref l] ∧ SqL K H l us ∧ IsKs K H us ks ∧ T H ∧ (∀ c ∈ ks.flatten, gd 9 c ∧ dC c < n ∧ (cC c).length ≤ 100000 ∧ OkN 30 (pyC c) ∧ PyData.canLay0 (.str (txC c)) = true) ∧ ks.flatten.length ≤ 60 ∧
  ∀ (v : V) (H' : Hp) (cs : List Ch), R H H' → Dt K H' v (.tuple (cs.map pyC)) → J ks.flatten cs → Q v H'
/-- a dict of texts to choices -/
structure DI (K : PySem.W.Frag) (H : Hp) (kvs : List (Key × V)) (seen : List Ch) : Prop where
  nd : (kvs.map (·.1)).Nodup
  ks : ∀ p ∈ kvs, ∃ c ∈ seen, p.1 = Sum.inr (txC c)
  vs : ∀ c ∈ seen, ∃ v, valV kvs (Sum.inr (txC c)) = some v ∧ IsC K H v c
  few : kvs.length ≤ seen.length
theorem DI.put {K : PySem.W.Frag} {H H' : Hp} {kvs : List (Key × V)} {seen : List Ch} {v : V} {c : Ch} {n : Nat} (d : DI K H kvs seen) (k : Keep K H H') (hv : IsC K H' v c) (g : gd n c) (gs : ∀ c ∈ seen, gd n c) : DI K H' (putK kvs (Sum.inr (txC c)) v) (seen ++ [c]) := by
  refine ⟨nd_put _ v d.nd, fun p hp => ?_, fun c' hc' => ?_, ?_⟩
  · rcases mem_put hp with e | e
    · exact ⟨c, List.mem_append.mpr (.inr List.mem_cons_self), by rw [e]⟩
    · obtain ⟨c', m, e'⟩ := d.ks p e
      exact ⟨c', List.mem_append.mpr (.inl m), e'⟩
  · by_cases e : txC c' = txC c
    · have g' : gd n c' := by
        rcases List.mem_append.mp hc' with m | m
        · exact gs c' m
        · rw [List.mem_singleton.mp m]; exact g
      have ec := txC_inj g' g e
      rw [ec]
      exact ⟨v, by rw [valV_put, if_pos rfl], hv⟩
    · rcases List.mem_append.mp hc' with m | m
      · obtain ⟨v', h1, h2⟩ := d.vs c' m
        exact ⟨v', by rw [valV_put, if_neg fun z => e (Sum.inr.inj z)]; exact h1, k.dt h2⟩
      · exact absurd (by rw [List.mem_singleton.mp m]) e
  · have := put_len kvs (Sum.inr (txC c)) v
    have := d.few
    rw [List.length_append]
    show _ ≤ _ + 1
    omega
theorem DI.keep {K : PySem.W.Frag} {H H' : Hp} {kvs : List (Key × V)} {seen : List Ch} (d : DI K H kvs seen) (k : Keep K H H') : DI K H' kvs seen := ⟨d.nd, d.ks, fun c m => let ⟨v, a, b⟩ := d.vs c m; ⟨v, a, k.dt b⟩, d.few⟩
/-- its keys -/
theorem DI.keys {K : PySem.W.Frag} {H : Hp} {kvs : List (Key × V)} {seen : List Ch} (d : DI K H kvs seen) : ∃ ts : List Str, kvs.map (·.1) = ts.map Sum.inr ∧ ts.Nodup ∧ ∀ t, t ∈ ts ↔ ∃ c ∈ seen, txC c = t := by
  have a : ∀ l : List (Key × V), (∀ p ∈ l, ∃ c ∈ seen, p.1 = Sum.inr (txC c)) → ∃ ts : List Str, l.map (·.1) = ts.map Sum.inr ∧ ∀ t ∈ ts, ∃ c ∈ seen, txC c = t := fun l => by
    induction l with
    | nil => exact fun _ => ⟨[], rfl, fun t m => by cases m⟩
    | cons p l ih =>
      intro h
      obtain ⟨ts, e, m⟩ := ih fun q hq => h q (List.mem_cons_of_mem _ hq)
      obtain ⟨c, hc, e1⟩ := h p List.mem_cons_self
      refine ⟨txC c :: ts, by rw [List.map_cons, List.map_cons, e, e1], fun t ht => ?_⟩
      rcases List.mem_cons.mp ht with z | z
      · exact ⟨c, hc, z.symm⟩
      · exact m t z
  obtain ⟨ts, e, m⟩ := a kvs d.ks
  refine ⟨ts, e, ?_, fun t => ⟨m t, fun ⟨c, hc, et⟩ => ?_⟩⟩
  · have h := d.nd
    rw [e] at h
    exact (List.pairwise_map.mp h).imp fun n z => n (by rw [z])
  · obtain ⟨v, h1, _⟩ := d.vs c hc
    have h2 := valV_in h1
    rw [e] at h2
    obtain ⟨t', m', e'⟩ := List.mem_map.mp h2
    rw [← et, ← Sum.inr.inj e']
    exact m'
theorem choose_cs {all : List Ch} : ∀ {ys : List Str}, (∀ y ∈ ys, ∃ c ∈ all, txC c = y) → ∃ cs : List Ch, cs.map txC = ys ∧ ∀ c ∈ cs, c ∈ all
  | [], _ => ⟨[], rfl, fun c m => by cases m⟩
  | y :: ys, h => by
    obtain ⟨cs, e, m⟩ := choose_cs (ys := ys) fun z hz => h z (List.mem_cons_of_mem _ hz)
    obtain ⟨c, hc, ec⟩ := h y List.mem_cons_self
    refine ⟨c :: cs, by rw [List.map_cons, e, ec], fun x hx => ?_⟩
    rcases List.mem_cons.mp hx with z | z
    · rw [z]; exact hc
    · exact m x z
def rowD (c : Ch) : PyData := .tuple [.str (txC c), pyC c]
structure RI (K : PySem.W.Frag) (H : Hp) (rr : List (Addr × Ch)) (seen : List Ch) : Prop where
  rows : ∀ r ∈ rr, r.2 ∈ seen ∧ ∃ u, SqT K H r.1 [.str (txC r.2), u] ∧ IsC K H u r.2
  cov : ∀ c ∈ seen, txC c ∈ rr.map fun r => txC r.2
  nd : (rr.map fun r => txC r.2).Nodup
  few : rr.length ≤ seen.length
theorem RI.keep {K : PySem.W.Frag} {H H' : Hp} {rr : List (Addr × Ch)} {seen : List Ch} (d : RI K H rr seen) (k : Keep K H H') : RI K H' rr seen :=
  ⟨fun r m => let ⟨a, u, b, c⟩ := d.rows r m; ⟨a, u, k _ _ b, k.dt c⟩, d.cov, d.nd, d.few⟩
theorem row_dp {K : PySem.W.Frag} {H : Hp} {t : Addr} {u : V} {c : Ch} (h : SqT K H t [.str (txC c), u]) (hc : IsC K H u c) : Dp K H (.ref t) (rowD c) := .tup h (.cons (.str _) (.cons (Dt.dp hc) .nil))
theorem RI.dp {K : PySem.W.Frag} {H : Hp} : ∀ {rr : List (Addr × Ch)}, (∀ r ∈ rr, ∃ u, SqT K H r.1 [.str (txC r.2), u] ∧ IsC K H u r.2) → DpAll K H (rr.map fun r => V.ref r.1) (rr.map fun r => rowD r.2)
  | [], _ => .nil
  | r :: rr, h => by
    obtain ⟨u, a, b⟩ := h r List.mem_cons_self
    exact .cons (row_dp a b) (RI.dp fun x m => h x (List.mem_cons_of_mem _ m))
theorem row_shaped {c : Ch} (h : OkN 30 (pyC c)) (t : PyData.canLay0 (.str (txC c)) = true) : SeqAt.shaped (rowD c) = true ∧ (rowD c).depth ≤ 31 := by
  have e0 : (rowD c).depth = max 0 (max (pyC c).depth 0) + 1 := by simp [rowD, PyData.depth, PyData.depthAll]
  have := h.2.2
  have d : (rowD c).depth ≤ 31 := by omega
  refine ⟨Bool.and_eq_true_iff.mpr ⟨?_, decide_eq_true (by omega)⟩, d⟩
  show (PyData.canLay0 (.str (txC c)) && (PyData.canLay0 (pyC c) && true)) = true
  rw [t, h.1]; rfl
theorem rows_shaped {cs : List Ch} (h : ∀ c ∈ cs, OkN 30 (pyC c) ∧ PyData.canLay0 (.str (txC c)) = true) : SeqAt.shaped (.list (cs.map rowD)) = true := by
  have a : PyData.canLayAll0 (cs.map rowD) = true ∧ PyData.depthAll (cs.map rowD) ≤ 31 := by
    induction cs with
    | nil => exact ⟨rfl, by simp [PyData.depthAll]⟩
    | cons c cs ih =>
      obtain ⟨h1, h2⟩ := ih fun x m => h x (List.mem_cons_of_mem _ m)
      obtain ⟨g1, g2⟩ := row_shaped (h c List.mem_cons_self).1 (h c List.mem_cons_self).2
      refine ⟨?_, ?_⟩
      · show ((rowD c).canLay0 && PyData.canLayAll0 (cs.map rowD)) = true
        rw [SeqAt.canLay_of_shaped g1, h1]; rfl
      · have e0 : PyData.depthAll (rowD c :: cs.map rowD) = max (rowD c).depth (PyData.depthAll (cs.map rowD)) := by simp [PyData.depthAll]
        rw [List.map_cons, e0]
        omega
  have e0 : (PyData.list (cs.map rowD)).depth = PyData.depthAll (cs.map rowD) + 1 := by simp [PyData.depth]
  exact Bool.and_eq_true_iff.mpr ⟨a.1, decide_eq_true (by omega)⟩
theorem row_eqv {n : Nat} {c c' : Ch} (g : gd n c) (g' : gd n c') (h : OkN 30 (pyC c)) (t : PyData.canLay0 (.str (txC c)) = true) : PyData.eqv (rowD c') (rowD c) = true ↔ txC c' = txC c := by
  constructor
  · intro e
    have e' : ((txC c' == txC c) && (PyData.eqv (pyC c') (pyC c) && true)) = true := by simpa [rowD, PyData.eqv, PyData.eqvAll] using e
    rw [Bool.and_eq_true, beq_iff_eq] at e'
    exact e'.1
  · intro e
    rw [txC_inj g' g e]
    exact SeqAt.eqv_refl _ (SeqAt.canLay_of_shaped (row_shaped h t).1)
/-- kinds of a list, further -/
theorem IsKs.nil {K : PySem.W.Frag} {H : Hp} : IsKs K H [] [] := ⟨rfl, fun j v k h => by simp at h⟩
theorem IsKs.keep {K : PySem.W.Frag} {H H' : Hp} {vs : List V} {ks : List (List Ch)} (h : IsKs K H vs ks) (e : Keep K H H') : IsKs K H' vs ks := ⟨h.1, fun j v k a b => e.dt (h.2 j v k a b)⟩
theorem IsKs.snoc {K : PySem.W.Frag} {H : Hp} {v : V} {k : List Ch} {vs : List V} {ks : List (List Ch)} (t : IsKs K H vs ks) (h : IsK K H v k) : IsKs K H (vs ++ [v]) (ks ++ [k]) := by
  refine ⟨by rw [List.length_append, List.length_append, t.1]; rfl, fun j u e h1 h2 => ?_⟩
  by_cases lt : j < vs.length
  · rw [List.getElem?_append_left lt] at h1
    rw [List.getElem?_append_left (t.1 ▸ lt)] at h2
    exact t.2 j u e h1 h2
  · rw [List.getElem?_append_right (by omega)] at h1
    rw [List.getElem?_append_right (by have := t.1; omega)] at h2
    have z : j - vs.length = 0 := by
      have := (List.getElem?_eq_some_iff.mp h1).1
      simp at this
      omega
    rw [z] at h1
    rw [← t.1, z] at h2
    cases h1; cases h2; exact h
theorem IsKs.dp {K : PySem.W.Frag} {H : Hp} {vs : List V} {ks : List (List Ch)} (h : IsKs K H vs ks) : DpAll K H vs (ks.map fun k => .tuple (pyL k)) := by
  refine dpAll_of (by rw [List.length_map, h.1]) fun j v d a b => ?_
  rw [List.getElem?_map] at b
  obtain ⟨k, hk, rfl⟩ := Option.map_eq_some_iff.mp b
  exact Dt.dp (h.2 j v k a hk)
theorem flat_len {m : Nat} : ∀ {ks : List (List Ch)}, (∀ k ∈ ks, k.length ≤ m) → ks.flatten.length ≤ m * ks.length
  | [], _ => by simp
  | k :: ks, h => by
    have a := flat_len (ks := ks) fun x hx => h x (List.mem_cons_of_mem _ hx)
    have b := h k List.mem_cons_self
    rw [List.flatten_cons, List.length_append, List.length_cons, Nat.mul_succ]
    omega
/-- a kind of good choices, some such kinds, can be compared -/
theorem okN_of_cs {cs : List Ch} (hl : cs.length ≤ 60) (h : ∀ c ∈ cs, OkN 30 (pyC c)) : OkN 31 (.tuple (cs.map pyC)) := okN_tup (by rw [List.length_map]; exact hl) fun d m => by
  obtain ⟨c, hc, rfl⟩ := List.mem_map.mp m
  exact h c hc
theorem shaped_lst {n : Nat} {ds : List PyData} (h : ∀ d ∈ ds, OkN n d) (hn : n < 60) : SeqAt.shaped (.list ds) = true := by
  have a : PyData.canLayAll0 ds = true ∧ PyData.depthAll ds ≤ n := by
    induction ds with
    | nil => exact ⟨rfl, by simp [PyData.depthAll]⟩
    | cons c cs ih =>
      obtain ⟨h1, h2⟩ := ih fun x m => h x (List.mem_cons_of_mem _ m)
      obtain ⟨g1, _, g3⟩ := h c List.mem_cons_self
      refine ⟨?_, ?_⟩
      · show (c.canLay0 && PyData.canLayAll0 cs) = true
        rw [g1, h1]; rfl
      · have e0 : PyData.depthAll (c :: cs) = max c.depth (PyData.depthAll cs) := by simp [PyData.depthAll]
        rw [e0]
        omega
  have e0 : (PyData.list ds).depth = PyData.depthAll ds + 1 := by simp [PyData.depth]
  exact Bool.and_eq_true_iff.mpr ⟨a.1, decide_eq_true (by omega)⟩
/-- the table of the lambda that _law_join makes -/
def TbJ (P1 : Addr) (H : Hp) : Prop := LamX.Tabs [(P1, ("_law_join.<locals>.<lambda>" : Str))] H
def RJ (P1 : Addr) (H H' : Hp) : Prop := LamX.ExtN H H' ∧ TbJ P1 H'
theorem TbJ.nil {P1 : Addr} {H : Hp} (h : H P1 = some (.tbl #[])) : TbJ P1 H := fun t ht => by
  rw [List.mem_singleton.mp ht]
  exact LamX.TabS.nil h
/-- tables and code objects stay -/
def KeepT (H H' : Hp) : Prop := ∀ a o, H a = some o → ¬ Soft o → (∀ xs, o ≠ .tup xs) → H' a = some o
theorem TbJ.keep {P1 : Addr} {H H' : Hp} (t : TbJ P1 H) (e : KeepT H H') : TbJ P1 H' := fun p hp => by
  obtain ⟨ps, h1, h2, h3⟩ := t p hp
  refine ⟨ps, e _ _ h1 (fun z => z) (fun xs z => by cases z), h2, fun pos cv hc => ?_⟩
  obtain ⟨c, e1, e2⟩ := h3 pos cv hc
  exact ⟨c, e1, e _ _ e2 (fun z => by unfold LamX.CodeO at z; exact z) (fun xs z => by unfold LamX.CodeO at z; cases z)⟩
theorem TbJ.same {P1 : Addr} {H H' : Hp} (t : TbJ P1 H) (e : Same H H') : TbJ P1 H' := LamX.Tabs.ext t e
theorem TbJ.upd {P1 D : Addr} {H : Hp} {o0 : HO} (t : TbJ P1 H) (h : H D = some o0) (s : Soft o0) (o : HO) : TbJ P1 (L2.upd H D o) := t.keep fun a u q n _ => by
  rw [upd_ne (fun z => by rw [z, h] at q; cases q; exact n s)]
  exact q
theorem TbJ.ext {K : PySem.W.Frag} {P1 s : Addr} {i : Inf} {H H' : Hp} (t : TbJ P1 H) (S : IsS K H s i) (e : Ext s H H') : TbJ P1 H' := t.keep fun a u q n _ => by
  obtain ⟨kvs, hk⟩ := S.dk
  exact e _ _ (fun z => by rw [z, hk] at q; cases q; exact n trivial) q
theorem RJ.trans {P1 : Addr} {H H1 H2 : Hp} (a : RJ P1 H H1) (b : RJ P1 H1 H2) : RJ P1 H H2 := ⟨a.1.trans b.1, b.2⟩
theorem RJ.keep {K : PySem.W.Frag} {P1 : Addr} {H H' : Hp} (a : RJ P1 H H') : Keep K H H' := (extN_keep a.1).2
theorem RJ.obj {P1 : Addr} {H H' : Hp} (a : RJ P1 H H') {b : Addr} {o : HO} (h : H b = some o) (n : ∀ ps, o ≠ .tbl ps) : H' b = some o := a.1 b o h n
end Sc
namespace Sc
open PySem PySem.Spec PyProof.Rows L2
/-! ### the choices joined, purely -/
theorem ltT_total {a b : Str} (h : a ≠ b) (n : ¬ ltT a b) : ltT b a := Classical.byContradiction fun m => h (str_ext (List.le_antisymm (α := Nat) m n))
instance (a b : Str) : Decidable (ltT a b) := inferInstanceAs (Decidable (a.cps.toList < b.cps.toList))
def insC (c : Ch) : List Ch → List Ch
  | [] => [c]
  | d :: r => if txC c = txC d then d :: r else if ltT (txC c) (txC d) then c :: d :: r else d :: insC c r
def jn : List Ch → List Ch
  | [] => []
  | c :: r => insC c (jn r)
theorem insC_sub {c : Ch} : ∀ {l : List Ch} {x : Ch}, x ∈ insC c l → x = c ∨ x ∈ l
  | [], x, h => .inl (List.mem_singleton.mp h)
  | d :: r, x, h => by
    unfold insC at h
    split at h
    · exact .inr h
    split at h
    · rcases List.mem_cons.mp h with e | e
      · exact .inl e
      · exact .inr e
    · rcases List.mem_cons.mp h with e | e
      · exact .inr (by rw [e]; exact List.mem_cons_self)
      · rcases insC_sub e with z | z
        · exact .inl z
        · exact .inr (List.mem_cons_of_mem _ z)
theorem insC_has {c : Ch} : ∀ {l : List Ch} {t : Str}, t ∈ (insC c l).map txC ↔ t = txC c ∨ t ∈ l.map txC
  | [], t => by simp [insC]
  | d :: r, t => by
    unfold insC
    split
    · rename_i e
      rw [e, List.map_cons, List.mem_cons]
      exact ⟨.inr, fun h => h.elim .inl id⟩
    split
    · rw [List.map_cons, List.mem_cons]
    · rw [List.map_cons, List.mem_cons, insC_has, List.map_cons, List.mem_cons]
      exact ⟨fun h => h.elim (fun z => .inr (.inl z)) fun z => z.elim .inl fun y => .inr (.inr y), fun h => h.elim (fun z => .inr (.inl z)) fun z => z.elim .inl fun y => .inr (.inr y)⟩
theorem insC_asc {c : Ch} : ∀ {l : List Ch}, (l.map txC).Pairwise ltT → ((insC c l).map txC).Pairwise ltT
  | [], _ => by simp [insC]
  | d :: r, h => by
    have h' := List.pairwise_cons.mp h
    unfold insC
    split
    · exact h
    rename_i ne
    split
    · rename_i lt
      refine List.pairwise_cons.mpr ⟨fun t ht => ?_, h⟩
      rcases List.mem_cons.mp ht with e | e
      · rw [e]; exact lt
      · exact List.lt_trans (α := Nat) lt (h'.1 t e)
    · rename_i nl
      refine List.pairwise_cons.mpr ⟨fun t ht => ?_, insC_asc h'.2⟩
      rcases insC_has.mp ht with e | e
      · rw [e]; exact ltT_total ne nl
      · exact h'.1 t e
theorem insC_len (c : Ch) : ∀ l : List Ch, (insC c l).length ≤ l.length + 1
  | [] => Nat.le_refl _
  | d :: r => by
    unfold insC
    split
    · exact Nat.le_succ _
    split
    · exact Nat.le_refl _
    · have := insC_len c r
      simp only [List.length_cons]
      omega
theorem jn_len : ∀ l : List Ch, (jn l).length ≤ l.length
  | [] => Nat.le_refl _
  | c :: r => by
    have a := jn_len r
    have b := insC_len c (jn r)
    show (insC c (jn r)).length ≤ r.length + 1
    omega
theorem jn_sub : ∀ {l : List Ch} {x : Ch}, x ∈ jn l → x ∈ l
  | c :: r, x, h => by
    rcases insC_sub (show x ∈ insC c (jn r) from h) with e | e
    · rw [e]; exact List.mem_cons_self
    · exact List.mem_cons_of_mem _ (jn_sub e)
theorem jn_has : ∀ {l : List Ch} {t : Str}, t ∈ (jn l).map txC ↔ t ∈ l.map txC
  | [], t => Iff.rfl
  | c :: r, t => by
    show t ∈ (insC c (jn r)).map txC ↔ _
    rw [insC_has, jn_has, List.map_cons, List.mem_cons]
theorem jn_asc : ∀ l : List Ch, ((jn l).map txC).Pairwise ltT
  | [] => List.Pairwise.nil
  | c :: r => insC_asc (jn_asc r)
theorem jn_ne {l : List Ch} (h : l ≠ []) : jn l ≠ [] := fun e => by
  cases l with
  | nil => exact h rfl
  | cons c r =>
    have : txC c ∈ (jn (c :: r)).map txC := jn_has.mpr List.mem_cons_self
    rw [e] at this
    cases this
theorem jn_J (l : List Ch) : J l (jn l) := ⟨jn_asc l, fun _ m => jn_sub m, fun _ m => jn_has.mpr (List.mem_map_of_mem m)⟩
theorem J_jn {n : Nat} {all cs : List Ch} (g : ∀ c ∈ all, gd n c) (h : J all cs) : cs = jn all := J_uniq g h (jn_J all)
theorem jn_few {l : List Ch} (a : l.length ≤ 60) : (jn l).length ≤ 60 := Nat.le_trans (jn_len l) a
/-! ### well-formed choices, by their size -/
/-- depth, length, nesting -/
structure Wl (d b e : Nat) (c : Ch) : Prop where
  g : ∀ n, d ≤ n → gd n c
  dp : dC c ≤ d
  ln : (cC c).length ≤ b
  ok : OkN e (pyC c)
  sg : ∀ a ∈ cC c, a < 128
theorem Wl.mono {d b e d' b' e' : Nat} {c : Ch} (h : Wl d b e c) (h1 : d ≤ d') (h2 : b ≤ b') (h3 : e ≤ e') : Wl d' b' e' c :=
  ⟨fun n l => h.g n (Nat.le_trans h1 l), Nat.le_trans h.dp h1, Nat.le_trans h.ln h2, h.ok.mono h3, h.sg⟩
theorem Wl.good {d b e n : Nat} {c : Ch} (h : Wl d b e c) (hd : d < n) (h9 : d ≤ 9) (hb : b ≤ 100000) (he : e ≤ 30) : gd 9 c ∧ dC c < n ∧ (cC c).length ≤ 100000 ∧ OkN 30 (pyC c) ∧ PyData.canLay0 (.str (txC c)) = true :=
  ⟨h.g 9 h9, Nat.lt_of_le_of_lt h.dp hd, Nat.le_trans h.ln hb, h.ok.mono he, lay_of h.sg⟩
theorem dL_le {d : Nat} : ∀ {k : List Ch}, (∀ c ∈ k, dC c ≤ d) → dL k ≤ d
  | [], _ => Nat.zero_le _
  | c :: r, h => Nat.max_le.mpr ⟨h c List.mem_cons_self, dL_le fun x m => h x (List.mem_cons_of_mem _ m)⟩
theorem dF_le {d : Nat} : ∀ {fs : List (Str × List Ch)}, (∀ p ∈ fs, dL p.2 ≤ d) → dF fs ≤ d
  | [], _ => Nat.zero_le _
  | (f, k) :: r, h => Nat.max_le.mpr ⟨h (f, k) List.mem_cons_self, dF_le fun x m => h x (List.mem_cons_of_mem _ m)⟩
theorem joinL_le {S : List Nat} {b : Nat} : ∀ {ps : List (List Nat)}, (∀ p ∈ ps, p.length ≤ b) → (TL.joinL S ps).length ≤ ps.length * (b + S.length)
  | [], _ => Nat.zero_le _
  | p :: ps, h => by
    have a : (ps.map (·.length)).sum ≤ ps.length * b := by
      have h' : ∀ q ∈ ps, q.length ≤ b := fun q m => h q (List.mem_cons_of_mem _ m)
      clear h
      induction ps with
      | nil => exact Nat.le_of_eq (by simp)
      | cons q qs ih =>
        have h1 := ih fun x m => h' x (List.mem_cons_of_mem _ m)
        have h2 := h' q List.mem_cons_self
        rw [List.map_cons, List.sum_cons, List.length_cons, Nat.succ_mul]
        omega
    have b1 := h p List.mem_cons_self
    rw [joinL_sum, List.length_cons, Nat.succ_mul, Nat.mul_add]
    omega
theorem bar_le {b : Nat} {k : List Ch} (h : ∀ c ∈ k, (cC c).length ≤ b) : (TL.joinL bar (cL k)).length ≤ k.length * (b + 3) := by
  have := joinL_le (S := bar) (b := b) (ps := cL k) fun p hp => by
    rw [cL_map] at hp
    obtain ⟨c, hc, rfl⟩ := List.mem_map.mp hp
    exact h c hc
  rw [cL_map, List.length_map] at this
  rw [cL_map]
  exact this
/-- a row, a book of such -/
theorem Wl.rb {d b e m : Nat} {k : List Ch} (k0 : k ≠ []) (km : k.length ≤ m) (m60 : m ≤ 60) (h : ∀ c ∈ k, Wl d b e c) : Wl (d + 1) (m * (b + 3) + 6) (e + 2) (.row k) ∧ Wl (d + 1) (m * (b + 3) + 6) (e + 2) (.book k) := by
  have l : (TL.joinL bar (cL k)).length ≤ m * (b + 3) := Nat.le_trans (bar_le fun c hc => (h c hc).ln) (Nat.mul_le_mul_right _ km)
  have dd : dL k ≤ d := dL_le fun c hc => (h c hc).dp
  have ok : OkN (e + 1) (.tuple (pyL k)) := okN_tup (by rw [pyL_map, List.length_map]; omega) fun x hx => by
    rw [pyL_map] at hx
    obtain ⟨c, hc, rfl⟩ := List.mem_map.mp hx
    exact (h c hc).ok
  have sg : ∀ a ∈ TL.joinL bar (cL k), a < 128 := signs_kind fun c hc => (h c hc).sg
  have gg : ∀ n, d + 1 ≤ n → ∃ n', n = n' + 1 ∧ ∀ c ∈ k, gd n' c := fun n hn => ⟨n - 1, by omega, fun c hc => (h c hc).g (n - 1) (by omega)⟩
  have brk : ∀ w : List Nat, (∀ a ∈ w, a < 128) → ∀ a ∈ w ++ 40 :: (TL.joinL bar (cL k) ++ [41]), a < 128 := fun w hw a m => by
    rcases List.mem_append.mp m with z | z
    · exact hw a z
    rcases List.mem_cons.mp z with z | z
    · omega
    rcases List.mem_append.mp z with z | z
    · exact sg a z
    · rw [List.mem_singleton.mp z]; decide
  constructor
  · refine ⟨fun n hn => ?_, Nat.succ_le_succ dd, ?_, ?_, brk (TL.tl "row") (by decide)⟩
    · obtain ⟨n', rfl, g⟩ := gg n hn
      exact ⟨k0, g⟩
    · show (TL.tl "row" ++ 40 :: (TL.joinL bar (cL k) ++ [41])).length ≤ _
      rw [List.length_append, List.length_cons, List.length_append]
      show 3 + (_ + 1 + 1) ≤ _
      omega
    · rw [pyC]
      exact okN_two (okN_w (by decide +kernel)) ok
  · refine ⟨fun n hn => ?_, Nat.succ_le_succ dd, ?_, ?_, brk (TL.tl "book") (by decide)⟩
    · obtain ⟨n', rfl, g⟩ := gg n hn
      exact ⟨k0, g⟩
    · show (TL.tl "book" ++ 40 :: (TL.joinL bar (cL k) ++ [41])).length ≤ _
      rw [List.length_append, List.length_cons, List.length_append]
      show 4 + (_ + 1 + 1) ≤ _
      omega
    · rw [pyC]
      exact okN_two (okN_w (by decide +kernel)) ok
/-- a shape of such -/
theorem Wl.sh {d b e m j : Nat} {fs : List (Str × List Ch)} (f0 : fs ≠ []) (fj : fs.length ≤ j) (j60 : j ≤ 60) (m60 : m ≤ 60) (h : ∀ p ∈ fs, Word p.1 ∧ p.2 ≠ [] ∧ p.2.length ≤ m ∧ ∀ c ∈ p.2, Wl d b e c) : Wl (d + 1) (j * (m * (b + 3) + 12) + 2) (e + 4) (.shape fs) := by
  have l : ∀ p ∈ fs, (TL.tl p.1 ++ 58 :: 32 :: TL.joinL bar (cL p.2)).length ≤ m * (b + 3) + 10 := fun p hp => by
    obtain ⟨w, _, km, hc⟩ := h p hp
    have l1 := Nat.le_trans (bar_le fun c hm => (hc c hm).ln) (Nat.mul_le_mul_right (b + 3) km)
    have w8 : (TL.tl p.1).length ≤ 8 := w.2.1
    rw [List.length_append, List.length_cons, List.length_cons]
    omega
  have l2 : (TL.joinL com (cF fs)).length ≤ j * (m * (b + 3) + 12) := by
    have := joinL_le (S := com) (b := m * (b + 3) + 10) (ps := cF fs) fun q hq => by
      rw [cF_map] at hq
      obtain ⟨p, hp, rfl⟩ := List.mem_map.mp hq
      exact l p hp
    rw [cF_map, List.length_map] at this
    rw [cF_map]
    exact Nat.le_trans this (Nat.mul_le_mul_right _ fj)
  refine ⟨fun n hn => ?_, Nat.succ_le_succ (dF_le fun p hp => dL_le fun c hc => ((h p hp).2.2.2 c hc).dp), ?_, ?_, fun a m => ?_⟩
  · obtain ⟨n', rfl⟩ : ∃ n', n = n' + 1 := ⟨n - 1, by omega⟩
    exact ⟨f0, fun p hp => ⟨(h p hp).1, (h p hp).2.1, fun c hc => ((h p hp).2.2.2 c hc).g n' (by omega)⟩⟩
  · show (123 :: (TL.joinL com (cF fs) ++ [125])).length ≤ _
    rw [List.length_cons, List.length_append]
    show _ + 1 + 1 ≤ _
    omega
  · rw [pyC]
    refine okN_two (n := e + 3) (okN_w (by decide +kernel)) (okN_tup (n := e + 2) (by rw [pyF_map, List.length_map]; omega) fun x hx => ?_)
    rw [pyF_map] at hx
    obtain ⟨p, hp, rfl⟩ := List.mem_map.mp hx
    refine okN_two (n := e + 1) ((okN_word (h p hp).1).mono (by omega)) (okN_tup (n := e) (by rw [pyL_map, List.length_map]; have := (h p hp).2.2.1; omega) fun x hx => ?_)
    rw [pyL_map] at hx
    obtain ⟨c, hc, rfl⟩ := List.mem_map.mp hx
    exact ((h p hp).2.2.2 c hc).ok
  · have m' : a ∈ 123 :: (TL.joinL com (cF fs) ++ [125]) := m
    rcases List.mem_cons.mp m' with z | z
    · omega
    rcases List.mem_append.mp z with z | z
    · rcases mem_joinL z with w | ⟨p, hp, w⟩
      · exact (by decide : ∀ b ∈ com, b < 128) a w
      · rw [cF_map] at hp
        obtain ⟨p2, hp2, rfl⟩ := List.mem_map.mp hp
        obtain ⟨w1, _, _, hc⟩ := h p2 hp2
        rcases List.mem_append.mp w with w | w
        · have := w1.2.2 a w
          omega
        rcases List.mem_cons.mp w with w | w
        · omega
        rcases List.mem_cons.mp w with w | w
        · omega
        exact signs_kind (fun c hm => (hc c hm).sg) a w
    · rw [List.mem_singleton.mp z]; decide
theorem Wl.num : Wl 0 10 1 .num := ⟨fun n _ => by cases n <;> exact trivial, Nat.le_refl _, by decide, okN_num 0, (by decide : ∀ a ∈ TL.tl "number", a < 128)⟩
theorem Wl.txt : Wl 0 10 1 .txt := ⟨fun n _ => by cases n <;> exact trivial, Nat.le_refl _, by decide, okN_txt 0, (by decide : ∀ a ∈ TL.tl "text", a < 128)⟩
theorem Wl.let_ {l : Str} (h : Lett l) : Wl 0 10 1 (.letter l) := ⟨fun n _ => by cases n <;> exact h, Nat.le_refl _, by have := h.2.1; show (TL.tl l).length ≤ 10; exact Nat.le_trans this (by decide), by rw [pyC]; exact okN_two (n := 0) (okN_w (by decide +kernel)) (okN_lett h), fun a m => by have := h.2.2 a m; omega⟩
/-- what is drawn, to d deep -/
def wB : Nat → Nat
  | 0 => 10
  | d + 1 => 2 * (3 * (wB d + 3) + 12) + 2
theorem wB_le : ∀ {d d' : Nat}, d ≤ d' → wB d ≤ wB d'
  | 0, 0, _ => Nat.le_refl _
  | 0, d' + 1, _ => by have := wB_le (Nat.zero_le d'); show wB 0 ≤ 2 * (3 * (wB d' + 3) + 12) + 2; omega
  | d + 1, d' + 1, h => by have := wB_le (Nat.le_of_succ_le_succ h); show 2 * (3 * (wB d + 3) + 12) + 2 ≤ 2 * (3 * (wB d' + 3) + 12) + 2; omega
theorem wl_of {ls : List Str} (hl : ∀ l ∈ ls, Lett l) : ∀ (n d : Nat), d ≤ n → ∀ c : Ch, okC ls d c → Wl d (wB d) (4 * d + 1) c := by
  intro n
  induction n with
  | zero =>
    intro d hd c h
    obtain rfl : d = 0 := by omega
    cases c with
    | num => exact .num
    | txt => exact .txt
    | row _ => exact absurd h.1 (Nat.lt_irrefl _)
    | book _ => exact absurd h.1 (Nat.lt_irrefl _)
    | shape _ => exact absurd h.1 (Nat.lt_irrefl _)
    | letter l => exact .let_ (hl l (by unfold okC at h; exact h))
    | cut _ _ => unfold okC at h; exact h.elim
    | any _ => unfold okC at h; exact h.elim
    | wth _ => unfold okC at h; exact h.elim
  | succ n ih =>
    intro d hd c h
    have b0 := wB_le (Nat.zero_le d)
    cases c with
    | num => exact Wl.num.mono (Nat.zero_le _) b0 (by omega)
    | txt => exact Wl.txt.mono (Nat.zero_le _) b0 (by omega)
    | row k =>
      have h' : 0 < d ∧ k ≠ [] ∧ k.length ≤ 3 ∧ okL ls (d - 1) k := by unfold okC at h; exact h
      obtain ⟨d, rfl⟩ : ∃ d', d = d' + 1 := ⟨d - 1, by omega⟩
      refine (Wl.rb (m := 3) h'.2.1 h'.2.2.1 (by decide) fun c hc => ih d (by omega) c (okL_mem' h'.2.2.2 hc)).1.mono (Nat.le_refl _) ?_ (by omega)
      show _ ≤ 2 * (3 * (wB d + 3) + 12) + 2
      omega
    | book k =>
      have h' : 0 < d ∧ k ≠ [] ∧ k.length ≤ 3 ∧ okL ls (d - 1) k := by unfold okC at h; exact h
      obtain ⟨d, rfl⟩ : ∃ d', d = d' + 1 := ⟨d - 1, by omega⟩
      refine (Wl.rb (m := 3) h'.2.1 h'.2.2.1 (by decide) fun c hc => ih d (by omega) c (okL_mem' h'.2.2.2 hc)).2.mono (Nat.le_refl _) ?_ (by omega)
      show _ ≤ 2 * (3 * (wB d + 3) + 12) + 2
      omega
    | shape fs =>
      have h' : 0 < d ∧ fs.length ≤ 2 ∧ Fld (fs.map (·.1)) ∧ okF ls (d - 1) fs := by unfold okC at h; exact h
      obtain ⟨d, rfl⟩ : ∃ d', d = d' + 1 := ⟨d - 1, by omega⟩
      refine (Wl.sh (d := d) (b := wB d) (e := 4 * d + 1) (m := 3) (j := 2) (fun z => h'.2.2.1.1 (by rw [z]; rfl)) h'.2.1 (by decide) (by decide) fun p hp => ?_).mono (Nat.le_refl _) (Nat.le_refl _) (by omega)
      obtain ⟨w1, k1, k3, o1⟩ := okF_mem' h'.2.2.2 hp
      exact ⟨w1, k1, k3, fun c hc => ih d (by omega) c (okL_mem' o1 hc)⟩
    | letter l => exact (Wl.let_ (hl l (by unfold okC at h; exact h))).mono (Nat.zero_le _) b0 (by omega)
    | cut _ _ => unfold okC at h; exact h.elim
    | any _ => unfold okC at h; exact h.elim
    | wth _ => unfold okC at h; exact h.elim
end Sc
namespace Sc
open PySem PySem.Spec PyProof.Rows L2
/-! ### kinds put in letters' places, purely -/
mutual
def puC (g : Str → List Ch) : Ch → List Ch
  | .num => [.num]
  | .txt => [.txt]
  | .letter l => g l
  | .row k => [.row (jn (puL g k))]
  | .book k => [.book (jn (puL g k))]
  | .shape fs => [.shape (puF g fs)]
  | .cut l hs => [.cut l hs]
  | .any w => [.any w]
  | .wth f => [.wth f]
def puL (g : Str → List Ch) : List Ch → List Ch
  | [] => []
  | c :: r => puC g c ++ puL g r
def puF (g : Str → List Ch) : List (Str × List Ch) → List (Str × List Ch)
  | [] => []
  | (f, k) :: r => (f, jn (puL g k)) :: puF g r
end
theorem puL_flat (g : Str → List Ch) : ∀ k : List Ch, puL g k = (k.map (puC g)).flatten
  | [] => rfl
  | c :: r => by rw [puL, puL_flat g r]; rfl
theorem puF_map (g : Str → List Ch) : ∀ fs : List (Str × List Ch), puF g fs = fs.map fun p => (p.1, jn (puL g p.2))
  | [] => rfl
  | (f, k) :: r => by rw [puF, puF_map g r]; rfl
def look (bs : List (Str × List Ch)) (l : Str) : List Ch := (bs.lookup l).getD []
theorem look_at : ∀ {bs : List (Str × List Ch)} {j : Nat} {q : Str × List Ch}, (bs.map (·.1)).Nodup → bs[j]? = some q → look bs q.1 = q.2
  | (t, x) :: bs, 0, q, _, h => by
    cases h
    unfold look
    rw [List.lookup_cons, beq_self_eq_true]
    rfl
  | (t, x) :: bs, j + 1, q, nd, h => by
    obtain ⟨n1, n2⟩ := List.nodup_cons.mp (show (t :: bs.map (·.1)).Nodup from nd)
    have h' : bs[j]? = some q := h
    have ne : (q.1 == t) = false := beq_eq_false_iff_ne.mpr fun e => n1 (by rw [← e]; exact List.mem_map_of_mem (List.mem_of_getElem? h'))
    have ih := look_at n2 h'
    unfold look at ih ⊢
    rw [List.lookup_cons, ne]
    exact ih
  | [], _, _, _, h => by simp at h
theorem look_mem {bs : List (Str × List Ch)} {l : Str} (nd : (bs.map (·.1)).Nodup) (m : l ∈ bs.map (·.1)) : ∃ (j : Nat) (q : Str × List Ch), bs[j]? = some q ∧ q.1 = l ∧ look bs l = q.2 ∧ q ∈ bs := by
  obtain ⟨q, hq, rfl⟩ := List.mem_map.mp m
  obtain ⟨j, hj⟩ := List.getElem?_of_mem hq
  exact ⟨j, q, hj, rfl, look_at nd hj, hq⟩
/-- kinds that are given, with letters among themselves -/
def okG (bs : List (Str × List Ch)) : Prop := ∀ q ∈ bs, Lett q.1 ∧ q.2 ≠ [] ∧ q.2.length ≤ 3 ∧ okL (bs.map (·.1)) 1 q.2
theorem okG.lett {bs : List (Str × List Ch)} (h : okG bs) : ∀ l ∈ bs.map (·.1), Lett l := fun l m => by
  obtain ⟨q, hq, rfl⟩ := List.mem_map.mp m
  exact (h q hq).1
def pB : Nat → Nat
  | 0 => wB 1
  | d + 1 => 2 * (9 * (pB d + 3) + 12) + 2
theorem pB_le : ∀ d : Nat, wB 1 ≤ pB d
  | 0 => Nat.le_refl _
  | d + 1 => by have := pB_le d; show wB 1 ≤ 2 * (9 * (pB d + 3) + 12) + 2; omega
theorem one3 (x : Ch) : ([x] : List Ch).length ≤ 3 := by show 1 ≤ 3; decide
theorem put_wl {bs : List (Str × List Ch)} (ok : okG bs) (nd : (bs.map (·.1)).Nodup) : ∀ (n d : Nat), d ≤ n → ∀ c : Ch, okC (bs.map (·.1)) d c → puC (look bs) c ≠ [] ∧ (puC (look bs) c).length ≤ 3 ∧ ∀ c' ∈ puC (look bs) c, Wl (d + 1) (pB d) (4 * (d + 1) + 1) c' := by
  have b10 : 10 ≤ wB 1 := by decide
  have flat : ∀ (d : Nat) (x : Ch), Wl 0 10 1 x → ([x] : List Ch) ≠ [] ∧ [x].length ≤ 3 ∧ ∀ c' ∈ [x], Wl (d + 1) (pB d) (4 * (d + 1) + 1) c' := fun d x hx => ⟨by simp, one3 _, fun c' m => by
    rw [List.mem_singleton.mp m]
    exact hx.mono (Nat.zero_le _) (Nat.le_trans b10 (pB_le d)) (by omega)⟩
  have lets : ∀ (d : Nat) (l : Str), l ∈ bs.map (·.1) → look bs l ≠ [] ∧ (look bs l).length ≤ 3 ∧ ∀ c' ∈ look bs l, Wl (d + 1) (pB d) (4 * (d + 1) + 1) c' := fun d l m => by
    obtain ⟨j, q, _, _, e, hq⟩ := look_mem nd m
    obtain ⟨_, k0, k3, okk⟩ := ok q hq
    rw [e]
    exact ⟨k0, k3, fun c hc => (wl_of ok.lett 1 1 (Nat.le_refl _) c (okL_mem' okk hc)).mono (by omega) (pB_le d) (by omega)⟩
  have kinds : ∀ (k : List Ch) (d : Nat), k ≠ [] → k.length ≤ 3 → (∀ c ∈ k, puC (look bs) c ≠ [] ∧ (puC (look bs) c).length ≤ 3 ∧ ∀ c' ∈ puC (look bs) c, Wl (d + 1) (pB d) (4 * (d + 1) + 1) c') →
      jn (puL (look bs) k) ≠ [] ∧ (jn (puL (look bs) k)).length ≤ 9 ∧ ∀ c' ∈ jn (puL (look bs) k), Wl (d + 1) (pB d) (4 * (d + 1) + 1) c' := fun k d k0 k3 h => by
    refine ⟨jn_ne fun e => ?_, Nat.le_trans (jn_len _) ?_, fun c' m => ?_⟩
    · cases k with
      | nil => exact k0 rfl
      | cons c r =>
        rw [puL] at e
        exact (h c List.mem_cons_self).1 (List.append_eq_nil_iff.mp e).1
    · rw [puL_flat]
      refine Nat.le_trans (flat_len (m := 3) fun x hx => ?_) (by rw [List.length_map]; omega)
      obtain ⟨c, hc, rfl⟩ := List.mem_map.mp hx
      exact (h c hc).2.1
    · have m' := jn_sub m
      rw [puL_flat] at m'
      obtain ⟨x, hx, hc'⟩ := List.mem_flatten.mp m'
      obtain ⟨c, hc, rfl⟩ := List.mem_map.mp hx
      exact (h c hc).2.2 c' hc'
  intro n
  induction n with
  | zero =>
    intro d hd c h
    obtain rfl : d = 0 := by omega
    cases c with
    | num => exact flat 0 _ .num
    | txt => exact flat 0 _ .txt
    | row _ => exact absurd h.1 (Nat.lt_irrefl _)
    | book _ => exact absurd h.1 (Nat.lt_irrefl _)
    | shape _ => exact absurd h.1 (Nat.lt_irrefl _)
    | letter l => exact lets 0 l (by unfold okC at h; exact h)
    | cut _ _ => unfold okC at h; exact h.elim
    | any _ => unfold okC at h; exact h.elim
    | wth _ => unfold okC at h; exact h.elim
  | succ n ih =>
    intro d hd c h
    cases c with
    | num => exact flat d _ .num
    | txt => exact flat d _ .txt
    | row k =>
      have h' : 0 < d ∧ k ≠ [] ∧ k.length ≤ 3 ∧ okL (bs.map (·.1)) (d - 1) k := by unfold okC at h; exact h
      obtain ⟨d, rfl⟩ : ∃ d', d = d' + 1 := ⟨d - 1, by omega⟩
      obtain ⟨j0, j9, jw⟩ := kinds k d h'.2.1 h'.2.2.1 fun c hc => ih d (by omega) c (okL_mem' h'.2.2.2 hc)
      refine ⟨by rw [puC]; simp, by rw [puC]; exact one3 _, fun c' m => ?_⟩
      rw [puC] at m
      rw [List.mem_singleton.mp m]
      refine (Wl.rb (d := d + 1) (b := pB d) (e := 4 * (d + 1) + 1) (m := 9) j0 j9 (by decide) jw).1.mono (Nat.le_refl _) ?_ (by omega)
      show _ ≤ 2 * (9 * (pB d + 3) + 12) + 2
      omega
    | book k =>
      have h' : 0 < d ∧ k ≠ [] ∧ k.length ≤ 3 ∧ okL (bs.map (·.1)) (d - 1) k := by unfold okC at h; exact h
      obtain ⟨d, rfl⟩ : ∃ d', d = d' + 1 := ⟨d - 1, by omega⟩
      obtain ⟨j0, j9, jw⟩ := kinds k d h'.2.1 h'.2.2.1 fun c hc => ih d (by omega) c (okL_mem' h'.2.2.2 hc)
      refine ⟨by rw [puC]; simp, by rw [puC]; exact one3 _, fun c' m => ?_⟩
      rw [puC] at m
      rw [List.mem_singleton.mp m]
      refine (Wl.rb (d := d + 1) (b := pB d) (e := 4 * (d + 1) + 1) (m := 9) j0 j9 (by decide) jw).2.mono (Nat.le_refl _) ?_ (by omega)
      show _ ≤ 2 * (9 * (pB d + 3) + 12) + 2
      omega
    | shape fs =>
      have h' : 0 < d ∧ fs.length ≤ 2 ∧ Fld (fs.map (·.1)) ∧ okF (bs.map (·.1)) (d - 1) fs := by unfold okC at h; exact h
      obtain ⟨d, rfl⟩ : ∃ d', d = d' + 1 := ⟨d - 1, by omega⟩
      refine ⟨by rw [puC]; simp, by rw [puC]; exact one3 _, fun c' m => ?_⟩
      rw [puC] at m
      rw [List.mem_singleton.mp m]
      refine (Wl.sh (d := d + 1) (b := pB d) (e := 4 * (d + 1) + 1) (m := 9) (j := 2) (fun z => h'.2.2.1.1 ?_) ?_ (by decide) (by decide) fun p hp => ?_).mono (Nat.le_refl _) (Nat.le_refl _) (by omega)
      · rw [puF_map] at z
        rw [List.map_eq_nil_iff.mp z]; rfl
      · rw [puF_map, List.length_map]; exact h'.2.1
      · rw [puF_map] at hp
        obtain ⟨q, hq, rfl⟩ := List.mem_map.mp hp
        obtain ⟨w1, k1, k3, o1⟩ := okF_mem' h'.2.2.2 hq
        obtain ⟨j0, j9, jw⟩ := kinds q.2 d k1 k3 fun c hc => ih d (by omega) c (okL_mem' o1 hc)
        exact ⟨w1, j0, j9, jw⟩
    | letter l => exact lets d l (by unfold okC at h; exact h)
    | cut _ _ => unfold okC at h; exact h.elim
    | any _ => unfold okC at h; exact h.elim
    | wth _ => unfold okC at h; exact h.elim
/-- what joining a list of what is put in asks -/
theorem put_good {bs : List (Str × List Ch)} (ok : okG bs) (nd : (bs.map (·.1)).Nodup) {d : Nat} (d2 : d ≤ 2) {k : List Ch} (k3 : k.length ≤ 3) (h : okL (bs.map (·.1)) d k) :
    (∀ c ∈ (k.map (puC (look bs))).flatten, gd 9 c ∧ dC c < 4 ∧ (cC c).length ≤ 100000 ∧ OkN 30 (pyC c) ∧ PyData.canLay0 (.str (txC c)) = true) ∧ (k.map (puC (look bs))).flatten.length ≤ 60 := by
  refine ⟨fun c' m => ?_, Nat.le_trans (flat_len (m := 3) fun x hx => ?_) (by rw [List.length_map]; omega)⟩
  · obtain ⟨x, hx, hc'⟩ := List.mem_flatten.mp m
    obtain ⟨c, hc, rfl⟩ := List.mem_map.mp hx
    have wl := (put_wl ok nd 2 d d2 c (okL_mem' h hc)).2.2 c' hc'
    have e2 : pB d ≤ 100000 := by
      have : d = 0 ∨ d = 1 ∨ d = 2 := by omega
      rcases this with rfl | rfl | rfl <;> decide
    exact wl.good (by omega) (by omega) e2 (by omega)
  · obtain ⟨c, hc, rfl⟩ := List.mem_map.mp hx
    exact (put_wl ok nd 2 d d2 c (okL_mem' h hc)).2.1
/-- what putting in promises -/
def spPut (K : PySem.W.Frag) (n : Nat) (T : Hp → Prop) (R : Hp → Hp → Prop) : Sp := fun vs H Q _ => ∃ (v : V) (ga : Addr) (k : List Ch) (bs : List (Str × List Ch)) (d : Nat), vs = [v, .ref ga] ∧ IsK K H v k ∧ IsB K H ga bs ∧ okG bs ∧ d < n ∧ d ≤ 2 ∧ k.length ≤ 3 ∧ okL (bs.map (·.1)) d k ∧ T H ∧
  ∀ (v' : V) (H' : Hp), R H H' → IsK K H' v' (jn (puL (look bs) k)) → Q v' H'
def spPutC (K : PySem.W.Frag) (n : Nat) (T : Hp → Prop) (R : Hp → Hp → Prop) : Sp := fun vs H Q _ => ∃ (v : V) (ga : Addr) (c : Ch) (bs : List (Str × List Ch)) (d : Nat), vs = [v, .ref ga] ∧ IsC K H v c ∧ IsB K H ga bs ∧ okG bs ∧ d < n ∧ d ≤ 2 ∧ okC (bs.map (·.1)) d c ∧ T H ∧
  ∀ (v' : V) (H' : Hp), R H H' → IsK K H' v' (puC (look bs) c) → Q v' H'
end Sc
namespace Sc
open PySem PySem.Spec PyProof.Rows L2
theorem IsB.nd {K : PySem.W.Frag} {H : Hp} {b : Addr} {bs : List (Str × List Ch)} (h : IsB K H b bs) : (bs.map (·.1)).Nodup := let ⟨_, _, _, nd, _⟩ := h; nd
theorem IsB.isD {K : PySem.W.Frag} {H : Hp} {b : Addr} {bs : List (Str × List Ch)} (h : IsB K H b bs) : IsD H b := let ⟨_, h1, _⟩ := h; .inl ⟨_, .inl h1⟩
end Sc
namespace Sc
open PySem PySem.Spec PyProof.Rows L2
/-! ### more letters may be told -/
theorem okC_sub {ls ls' : List Str} (hs : ∀ l ∈ ls, l ∈ ls') : ∀ (n d : Nat), d ≤ n → ∀ c : Ch, okC ls d c → okC ls' d c := by
  have okLs : ∀ (d : Nat), (∀ c, okC ls d c → okC ls' d c) → ∀ k : List Ch, okL ls d k → okL ls' d k := fun d hc k => by
    induction k with
    | nil => exact fun _ => trivial
    | cons c r ih => exact fun h => ⟨hc c h.1, ih h.2⟩
  have okFs : ∀ (d : Nat), (∀ c, okC ls d c → okC ls' d c) → ∀ fs : List (Str × List Ch), okF ls d fs → okF ls' d fs := fun d hc fs => by
    induction fs with
    | nil => exact fun _ => trivial
    | cons p r ih =>
      obtain ⟨f, k⟩ := p
      exact fun h => ⟨h.1, h.2.1, h.2.2.1, okLs d hc k h.2.2.2.1, ih h.2.2.2.2⟩
  intro n
  induction n with
  | zero =>
    intro d hd c h
    obtain rfl : d = 0 := by omega
    cases c with
    | num => exact trivial
    | txt => exact trivial
    | row _ => exact absurd h.1 (Nat.lt_irrefl _)
    | book _ => exact absurd h.1 (Nat.lt_irrefl _)
    | shape _ => exact absurd h.1 (Nat.lt_irrefl _)
    | letter l => unfold okC at h ⊢; exact hs l h
    | cut _ _ => unfold okC at h; exact h.elim
    | any _ => unfold okC at h; exact h.elim
    | wth _ => unfold okC at h; exact h.elim
  | succ n ih =>
    intro d hd c h
    cases c with
    | num => unfold okC; exact trivial
    | txt => unfold okC; exact trivial
    | row k => unfold okC at h ⊢; exact ⟨h.1, h.2.1, h.2.2.1, okLs _ (ih _ (by omega)) k h.2.2.2⟩
    | book k => unfold okC at h ⊢; exact ⟨h.1, h.2.1, h.2.2.1, okLs _ (ih _ (by omega)) k h.2.2.2⟩
    | shape fs => unfold okC at h ⊢; exact ⟨h.1, h.2.1, h.2.2.1, okFs _ (ih _ (by omega)) fs h.2.2.2⟩
    | letter l => unfold okC at h ⊢; exact hs l h
    | cut _ _ => unfold okC at h; exact h.elim
    | any _ => unfold okC at h; exact h.elim
    | wth _ => unfold okC at h; exact h.elim
theorem okL_sub {ls ls' : List Str} (hs : ∀ l ∈ ls, l ∈ ls') {d : Nat} : ∀ {k : List Ch}, okL ls d k → okL ls' d k
  | [], _ => trivial
  | c :: r, h => ⟨okC_sub hs d d (Nat.le_refl _) c h.1, okL_sub hs h.2⟩
theorem zipK_fst {β : Type} : ∀ {xs : List (Str × β)} {vs : List V}, vs.length = xs.length → (zipK xs vs).map (·.1) = xs.map fun q => (Sum.inr q.1 : Key)
  | [], [], _ => rfl
  | _ :: _, _ :: _, h => congrArg (_ :: ·) (zipK_fst (Nat.succ.inj h))
/-- a dict of kinds and its copy are equal -/
theorem bounds_eq {K : PySem.W.Frag} {H : Hp} {p b : Addr} {bs : List (Str × List Ch)} {us : List V} (hp : H p = some (.dK (zipK bs us))) (hb : H b = some (.dK (zipK bs us))) (hl : us.length = bs.length) (nd : (bs.map (·.1)).Nodup)
    (hk : ∀ (j : Nat) (v : V) (q : Str × List Ch), us[j]? = some v → bs[j]? = some q → IsK K H v q.2) : EqR K H (EqV K H 1) (.ref p) (.ref b) := by
  refine .inr ⟨p, b, _, _, rfl, rfl, hp, hb, rfl, fun q hq => ?_⟩
  obtain ⟨j, hj⟩ := List.getElem?_of_mem hq
  unfold zipK at hj
  rw [List.getElem?_zip_eq_some, List.getElem?_map] at hj
  obtain ⟨h1, h2⟩ := hj
  obtain ⟨x, hx, ex⟩ := Option.map_eq_some_iff.mp h1
  obtain ⟨a, _, ea, _⟩ := (hk j q.2 x h2 hx).open
  exact ⟨q.2, by rw [← ex]; exact zipK_get nd hx h2, .inr (.inl ⟨a, ea, ea⟩)⟩
theorem IsB.extN {K : PySem.W.Frag} {H H' : Hp} {b : Addr} {bs : List (Str × List Ch)} (h : IsB K H b bs) (e : LamX.ExtN H H') : IsB K H' b bs := by
  obtain ⟨vs, h1, h2, h3, h4⟩ := h
  exact ⟨vs, e _ _ h1 (fun ps z => by cases z), h2, h3, fun j v q a c => (extN_keep e).2.dt (h4 j v q a c)⟩
end Sc
namespace Sc
open PySem PySem.Spec PyProof.Rows L2
/-! ### kinds opened, purely -/
def inHs (hs : List Str) (c : Ch) : Bool := decide (hdC c ∈ hs)
def opC (bs : List (Str × List Ch)) : Ch → List Ch
  | .letter l => look bs l
  | .cut l hs => (look bs l).filter (inHs hs)
  | c => [c]
theorem okB.look {bs : List (Str × List Ch)} (ok : okB bs) (nd : (bs.map (·.1)).Nodup) {l : Str} {k : List Ch} (m : (l, k) ∈ bs) : look bs l = k := by
  obtain ⟨j, hj⟩ := List.getElem?_of_mem m
  exact look_at nd hj
theorem okB.nil {bs : List (Str × List Ch)} (ok : okB bs) {q : Str × List Ch} (m : q ∈ bs) : ∀ c ∈ q.2, okC [] 1 c := fun c hc => okL_mem' (ok q m).2.2.2 hc
/-- letters and cuts of a drawn kind are of the bounds -/
theorem okA.lets {bs : List (Str × List Ch)} {d : Nat} {k : List Ch} (h : okA bs d k) {c : Ch} (m : c ∈ k) : (∀ l, c = .letter l → ∃ k', (l, k') ∈ bs) ∧ (∀ l hs, c = .cut l hs → ∃ k', (l, k') ∈ bs) ∧ (∀ x, c ≠ .any x) ∧ (∀ x, c ≠ .wth x) := by
  obtain ⟨k0, cs, rfl, okk, _, _, hcs⟩ := h
  rcases List.mem_append.mp m with m | m
  · have o := okL_mem' okk m
    refine ⟨fun l e => ?_, fun l hs e => ?_, fun x e => ?_, fun x e => ?_⟩
    · subst e
      unfold okC at o
      obtain ⟨q, hq, e⟩ := List.mem_map.mp o
      exact ⟨q.2, by rw [← e]; exact hq⟩
    · subst e; unfold okC at o; exact o.elim
    · subst e; unfold okC at o; exact o.elim
    · subst e; unfold okC at o; exact o.elim
  · rcases hcs with rfl | ⟨c', rfl, l, k', hm, hc'⟩
    · cases m
    · obtain rfl := List.mem_singleton.mp m
      rcases hc' with rfl | ⟨ys, a, n, rfl, _⟩
      · exact ⟨fun l' e => by cases e; exact ⟨k', hm⟩, (fun _ _ e => by cases e), (fun _ e => by cases e), (fun _ e => by cases e)⟩
      · exact ⟨(fun l' e => by cases e), fun l' hs e => by cases e; exact ⟨k', hm⟩, (fun _ e => by cases e), (fun _ e => by cases e)⟩
theorem open_good {bs : List (Str × List Ch)} (ok : okB bs) (nd : (bs.map (·.1)).Nodup) {k : List Ch} (h : okA bs 2 k) :
    (∀ c ∈ (k.map (opC bs)).flatten, gd 9 c ∧ dC c < 3 ∧ (cC c).length ≤ 100000 ∧ OkN 30 (pyC c) ∧ PyData.canLay0 (.str (txC c)) = true) ∧ (k.map (opC bs)).flatten.length ≤ 60 := by
  have bnd : ∀ l k', (l, k') ∈ bs → ∀ c ∈ look bs l, gd 9 c ∧ dC c < 3 ∧ (cC c).length ≤ 100000 ∧ OkN 30 (pyC c) ∧ PyData.canLay0 (.str (txC c)) = true := fun l k' m c hc => by
    rw [ok.look nd m] at hc
    exact (wl_of (ls := []) (fun _ h => by cases h) 1 1 (Nat.le_refl _) c (ok.nil m c hc)).good (by decide) (by decide) (by decide) (by decide)
  have len : ∀ l k', (l, k') ∈ bs → (look bs l).length ≤ 3 := fun l k' m => by
    rw [ok.look nd m]
    exact (ok _ m).2.2.1
  refine ⟨fun c' m => ?_, Nat.le_trans (flat_len (m := 3) fun x hx => ?_) ?_⟩
  · obtain ⟨x, hx, hc'⟩ := List.mem_flatten.mp m
    obtain ⟨c, hc, rfl⟩ := List.mem_map.mp hx
    obtain ⟨h1, h2, _⟩ := h.lets hc
    cases c with
    | letter l => obtain ⟨k', m'⟩ := h1 l rfl; exact bnd l k' m' c' hc'
    | cut l hs => obtain ⟨k', m'⟩ := h2 l hs rfl; exact bnd l k' m' c' (List.mem_filter.mp hc').1
    | _ => rw [List.mem_singleton.mp hc']; exact any_well ok h _ hc
  · obtain ⟨c, hc, rfl⟩ := List.mem_map.mp hx
    obtain ⟨h1, h2, _⟩ := h.lets hc
    cases c with
    | letter l => obtain ⟨k', m'⟩ := h1 l rfl; exact len l k' m'
    | cut l hs => obtain ⟨k', m'⟩ := h2 l hs rfl; exact Nat.le_trans (List.length_filter_le _ _) (len l k' m')
    | _ => exact one3 _
  · rw [List.length_map]
    have := (any_len ok h).2.1
    omega
/-- what opening promises -/
def spOpen (K : PySem.W.Frag) (T : Hp → Prop) (R : Hp → Hp → Prop) : Sp := fun vs H Q _ => ∃ (v : V) (b : Addr) (k : List Ch) (bs : List (Str × List Ch)), vs = [v, .ref b] ∧ IsK K H v k ∧ IsB K H b bs ∧ okB bs ∧ okA bs 2 k ∧ T H ∧
  ∀ (v' : V) (H' : Hp), R H H' → IsK K H' v' (jn ((k.map (opC bs)).flatten)) → Q v' H'
def spOpenC (K : PySem.W.Frag) : Sp := fun vs H Q _ => ∃ (v : V) (b : Addr) (c : Ch) (bs : List (Str × List Ch)), vs = [v, .ref b] ∧ IsC K H v c ∧ IsB K H b bs ∧ okB bs ∧ (∀ l, c = .letter l → ∃ k', (l, k') ∈ bs) ∧ (∀ l hs, c = .cut l hs → ∃ k', (l, k') ∈ bs) ∧
  ∀ (v' : V) (H' : Hp), Same H H' → IsK K H' v' (opC bs c) → Q v' H'
theorem filter_next {f : Ch → Bool} {k : List Ch} {j : Nat} {c : Ch} (h : k[j]? = some c) : (k.take (j + 1)).filter f = if f c = true then (k.take j).filter f ++ [c] else (k.take j).filter f := by
  rw [List.take_add_one, h, List.filter_append]
  cases e : f c with
  | true => rw [if_pos rfl]; show _ ++ [c].filter f = _; rw [List.filter_cons, if_pos e]; rfl
  | false => rw [if_neg Bool.false_ne_true]; show _ ++ [c].filter f = _; rw [List.filter_cons, if_neg (by rw [e]; exact Bool.false_ne_true)]; exact List.append_nil _
end Sc
namespace Sc
open PySem PySem.Spec PyProof.Rows L2
/-! ### texts sorted, each once -/
def insS (c : Str) : List Str → List Str
  | [] => [c]
  | d :: r => if c = d then d :: r else if ltT c d then c :: d :: r else d :: insS c r
def js : List Str → List Str
  | [] => []
  | c :: r => insS c (js r)
theorem insS_has {c : Str} : ∀ {l : List Str} {t : Str}, t ∈ insS c l ↔ t = c ∨ t ∈ l
  | [], t => by simp [insS]
  | d :: r, t => by
    unfold insS
    split
    · rename_i e
      rw [e, List.mem_cons]
      exact ⟨.inr, fun h => h.elim .inl id⟩
    split
    · rw [List.mem_cons]
    · rw [List.mem_cons, insS_has, List.mem_cons]
      exact ⟨fun h => h.elim (fun z => .inr (.inl z)) fun z => z.elim .inl fun y => .inr (.inr y), fun h => h.elim (fun z => .inr (.inl z)) fun z => z.elim .inl fun y => .inr (.inr y)⟩
theorem insS_asc {c : Str} : ∀ {l : List Str}, l.Pairwise ltT → (insS c l).Pairwise ltT
  | [], _ => by simp [insS]
  | d :: r, h => by
    have h' := List.pairwise_cons.mp h
    unfold insS
    split
    · exact h
    rename_i ne
    split
    · rename_i lt
      refine List.pairwise_cons.mpr ⟨fun t ht => ?_, h⟩
      rcases List.mem_cons.mp ht with e | e
      · rw [e]; exact lt
      · exact List.lt_trans (α := Nat) lt (h'.1 t e)
    · rename_i nl
      refine List.pairwise_cons.mpr ⟨fun t ht => ?_, insS_asc h'.2⟩
      rcases insS_has.mp ht with e | e
      · rw [e]; exact ltT_total ne nl
      · exact h'.1 t e
theorem insS_len (c : Str) : ∀ l : List Str, (insS c l).length ≤ l.length + 1
  | [] => Nat.le_refl _
  | d :: r => by
    unfold insS
    split
    · exact Nat.le_succ _
    split
    · exact Nat.le_refl _
    · have := insS_len c r
      simp only [List.length_cons]
      omega
theorem js_has : ∀ {l : List Str} {t : Str}, t ∈ js l ↔ t ∈ l
  | [], t => Iff.rfl
  | c :: r, t => by
    show t ∈ insS c (js r) ↔ _
    rw [insS_has, js_has, List.mem_cons]
theorem js_asc : ∀ l : List Str, (js l).Pairwise ltT
  | [] => List.Pairwise.nil
  | c :: r => insS_asc (js_asc r)
theorem js_len : ∀ l : List Str, (js l).length ≤ l.length
  | [] => Nat.le_refl _
  | c :: r => by
    have a := js_len r
    have b := insS_len c (js r)
    show (insS c (js r)).length ≤ r.length + 1
    omega
theorem js_of {l ys : List Str} (so : sortedS ys = true) (nd : ys.Nodup) (mem : ∀ x, x ∈ ys ↔ x ∈ l) : ys = js l := by
  refine asc_uniq _ _ ((asc_iff _).mp ?_) (js_asc l) fun x => (mem x).trans js_has.symm
  unfold ascB
  rw [so, decide_eq_true nd]; rfl
/-- the heads of a bound -/
def hsB (k : List Ch) : List Str := js (k.map hdC)
theorem Hs.eq {k : List Ch} {ys : List Str} (h : Hs k ys) : ys = hsB k := js_of h.1 h.2.1 h.2.2.2
theorem hsB_ne {k : List Ch} (h : k ≠ []) : hsB k ≠ [] := fun e => by
  cases k with
  | nil => exact h rfl
  | cons c r =>
    have : hdC c ∈ hsB (c :: r) := js_has.mpr List.mem_cons_self
    rw [e] at this
    cases this
/-! ### the words of a head -/
def hdWs : Ch → List Str
  | .num => ["number"] | .txt => ["text"] | .row _ => ["row"] | .book _ => ["book"]
  | .shape fs => "shape" :: fs.map (·.1)
  | _ => []
/-- the head of some choice -/
def GHd (h : Str) : Prop := ∃ c, hdOk c ∧ h = hdC c
theorem join_one (z : Str) : Txt.join " " [z] = z := TL.ext_tl (by rw [TL.join_eq, TL.tl_join]; exact joinL_one _ _)
theorem word_no {z : Str} (h : Word z) : 32 ∉ TL.tl z := fun m => by have := h.2.2 32 m; omega
theorem hd_split {c : Ch} (h : hdOk c) : Txt.split (hdC c) " " = hdWs c ∧ hdWs c ≠ [] := by
  have one : ∀ z : Str, 32 ∉ TL.tl z → Txt.split z " " = [z] := fun z hz => by
    have := TL.split_join (y := " ") (s := 32) (S := []) rfl (by decide +kernel) (parts := [z]) (by simp) fun p m => by rw [List.mem_singleton.mp m]; exact hz
    rw [join_one] at this
    exact this
  cases c with
  | num => exact ⟨one _ (by decide), by simp [hdWs]⟩
  | txt => exact ⟨one _ (by decide), by simp [hdWs]⟩
  | row _ => exact ⟨one _ (by show 32 ∉ TL.tl "row"; decide), by simp [hdWs]⟩
  | book _ => exact ⟨one _ (by show 32 ∉ TL.tl "book"; decide), by simp [hdWs]⟩
  | shape fs =>
    have fld : Fld (fs.map (·.1)) := h
    refine ⟨TL.split_join (y := " ") (s := 32) (S := []) rfl (by decide +kernel) (by simp) fun p m => ?_, by simp [hdWs]⟩
    rcases List.mem_cons.mp m with e | e
    · rw [e]; decide
    · exact word_no (fld.2.2.2.2 p e)
  | letter _ => exact h.elim
  | cut _ _ => exact h.elim
  | any _ => exact h.elim
  | wth _ => exact h.elim
theorem hd_short {c : Ch} (h : hdOk c) : (hdC c).length ≤ 300 := by
  cases c with
  | shape fs =>
    have fld : Fld (fs.map (·.1)) := h
    have := join_len " " ("shape" :: fs.map (·.1))
    have s := fld.sum
    have z := fld.2.1
    show (Txt.join " " ("shape" :: fs.map (·.1))).length ≤ 300
    generalize fs.map (·.1) = zs at this s z ⊢
    have e1 : ((("shape" : Str) :: zs).map (·.length)).sum = 5 + (zs.map (·.length)).sum := by rw [List.map_cons, List.sum_cons]; rfl
    have e2 : (("shape" : Str) :: zs).length = zs.length + 1 := rfl
    have e3 : (" " : Str).length = 1 := rfl
    rw [e1, e2, e3] at this
    omega
  | num => decide
  | txt => decide
  | row _ => show ("row" : Str).length ≤ 300; decide
  | book _ => show ("book" : Str).length ≤ 300; decide
  | letter _ => exact h.elim
  | cut _ _ => exact h.elim
  | any _ => exact h.elim
  | wth _ => exact h.elim
theorem sw_eq (x : Str) : Txt.startswith x "shape " = ((TL.tl x).take 6 == TL.tl "shape ") := by
  have e := TL.at_iff (x := x) (y := "shape ") (by decide) 0
  have l6 : (TL.tl ("shape " : Str)).length = 6 := rfl
  have a : Txt.startswith x "shape " = TL.pre (TL.tl "shape ") ((TL.tl x).drop 0) := by
    rw [Bool.eq_iff_iff, ← e]
    unfold Txt.startswith
    rw [Bool.and_eq_true, decide_eq_true_eq]
    exact Iff.rfl
  rw [a]
  rfl
theorem sw_hd {c : Ch} (h : hdOk c) : Txt.startswith (hdC c) "shape " = decide (hdWs c ≠ [] ∧ (hdWs c).head? = some ("shape" : Str)) := by
  cases c with
  | num => decide +kernel
  | txt => decide +kernel
  | row _ => show Txt.startswith "row" "shape " = decide ((["row"] : List Str) ≠ [] ∧ (["row"] : List Str).head? = some ("shape" : Str)); decide +kernel
  | book _ => show Txt.startswith "book" "shape " = decide ((["book"] : List Str) ≠ [] ∧ (["book"] : List Str).head? = some ("shape" : Str)); decide +kernel
  | shape fs =>
    have fld : Fld (fs.map (·.1)) := h
    rw [sw_eq, show hdC (.shape fs) = ("shape " : Str) ++ Txt.join " " (fs.map (·.1)) from head_text fld.1, TL.tl_append]
    have e : decide (hdWs (.shape fs) ≠ [] ∧ (hdWs (.shape fs)).head? = some ("shape" : Str)) = true := decide_eq_true ⟨by simp [hdWs], rfl⟩
    rw [e]
    rw [List.take_append_of_le_length (by decide)]
    decide
  | letter _ => exact h.elim
  | cut _ _ => exact h.elim
  | any _ => exact h.elim
  | wth _ => exact h.elim
/-! ### what is asked -/
inductive Ask where
  | is (w : Str) | has (f : Str)
def pyA : Ask → PyData
  | .is w => .tuple [.str "is", .str w]
  | .has f => .tuple [.str "has", .str f]
def okAsk : Ask → Prop
  | .is w => w ∈ (["number", "text", "row", "book", "shape"] : List Str)
  | .has f => Word f
def ans (a : Ask) (h : Str) : Bool := match a with
  | .is w => decide ((Txt.split h " ").head? = some w)
  | .has f => decide (f ∈ (Txt.split h " ").drop 1)
/-- what is left of a choice on a side -/
def lefts (a : Ask) (y : Bool) (hs : List Str) : List Str := hs.filter fun h => decide (ans a h = y)
def leC (bs : List (Str × List Ch)) (a : Ask) (y : Bool) : Ch → List Ch
  | .letter l => if lefts a y (hsB (look bs l)) = [] then [] else if lefts a y (hsB (look bs l)) = hsB (look bs l) then [.letter l] else [.cut l (lefts a y (hsB (look bs l)))]
  | .cut l hs => if lefts a y hs = [] then [] else if lefts a y hs = hsB (look bs l) then [.letter l] else [.cut l (lefts a y hs)]
  | c => if decide (ans a (hdC c) = y) = true then [c] else []
theorem leC_one (bs : List (Str × List Ch)) (a : Ask) (y : Bool) (c : Ch) : (leC bs a y c).length ≤ 1 := by
  unfold leC
  split
  · split
    · exact Nat.zero_le _
    · split <;> exact Nat.le_refl _
  · split
    · exact Nat.zero_le _
    · split <;> exact Nat.le_refl _
  · split
    · exact Nat.le_refl _
    · exact Nat.zero_le _
/-- a cut of a letter by heads of its bound -/
theorem cut_wl {l : Str} (hl : Lett l) {k : List Ch} (hk : ∀ c ∈ k, okC [] 1 c) {ys : List Str} (y0 : ys ≠ []) (y3 : ys.length ≤ 3) (hy : ∀ y ∈ ys, y ∈ k.map hdC) : Wl 0 1000 2 (.cut l ys) := by
  have hd : ∀ y ∈ ys, (∀ b ∈ TL.tl y, b ≠ 44 ∧ b ≠ 41 ∧ b < 128) ∧ (TL.tl y).length ≤ 300 := fun y m => by
    obtain ⟨c, hc, rfl⟩ := List.mem_map.mp (hy y m)
    have := hd_len (hk c hc)
    rw [len_list] at this
    exact ⟨hd_signs (hk c hc), this⟩
  refine ⟨fun n _ => ?_, Nat.le_refl _, ?_, ?_, fun b hb => ?_⟩
  · have g : Lett l ∧ ys ≠ [] ∧ ∀ h ∈ ys, hok h := ⟨hl, y0, fun y m b hb => ⟨((hd y m).1 b hb).1, ((hd y m).1 b hb).2.1⟩⟩
    cases n <;> exact g
  · show (TL.tl l ++ 40 :: (TL.joinL com (ys.map TL.tl) ++ [41])).length ≤ _
    have j := joinL_le (S := com) (b := 300) (ps := ys.map TL.tl) fun p hp => by
      obtain ⟨y, m, rfl⟩ := List.mem_map.mp hp
      exact (hd y m).2
    rw [List.length_map] at j
    have j2 : ys.length * (300 + com.length) ≤ 3 * (300 + com.length) := Nat.mul_le_mul_right _ y3
    have c2 : com.length = 2 := rfl
    have l8 : (TL.tl l).length ≤ 8 := hl.2.1
    rw [List.length_append, List.length_cons, List.length_append]
    show _ + (_ + 1 + 1) ≤ _
    rw [c2] at j j2
    omega
  · rw [pyC]
    refine okN_tup (n := 1) (by show 3 ≤ 60; decide) fun x hx => ?_
    rcases List.mem_cons.mp hx with e | hx
    · rw [e]; exact okN_w (by decide +kernel)
    rcases List.mem_cons.mp hx with e | hx
    · rw [e]; exact (okN_lett hl).mono (by omega)
    rw [List.mem_singleton.mp hx]
    refine okN_tup (n := 0) (by rw [List.length_map]; omega) fun x hx => ?_
    obtain ⟨y, m, rfl⟩ := List.mem_map.mp hx
    exact okN_plain (Nat.le_trans (hd y m).2 (by decide)) fun b hb => ((hd y m).1 b hb).2.2
  · have hb' : b ∈ TL.tl l ++ 40 :: (TL.joinL com (ys.map TL.tl) ++ [41]) := hb
    rcases List.mem_append.mp hb' with z | z
    · have := hl.2.2 b z
      omega
    rcases List.mem_cons.mp z with z | z
    · omega
    rcases List.mem_append.mp z with z | z
    · rcases mem_joinL z with w | ⟨p, hp, w⟩
      · exact (by decide : ∀ b ∈ com, b < 128) b w
      · obtain ⟨y, m, rfl⟩ := List.mem_map.mp hp
        exact ((hd y m).1 b w).2.2
    · rw [List.mem_singleton.mp z]; decide
/-- a choice of a drawn kind: its heads -/
structure HdsOk (bs : List (Str × List Ch)) (c : Ch) : Prop where
  le : ∀ l, c = .letter l → ∃ k', (l, k') ∈ bs
  cu : ∀ l hs, c = .cut l hs → ∃ k', (l, k') ∈ bs ∧ hs ≠ [] ∧ hs.length ≤ 3 ∧ ∀ y ∈ hs, y ∈ k'.map hdC
  ot : (∀ l, c ≠ .letter l) → (∀ l hs, c ≠ .cut l hs) → hdOk c
theorem hdOk_in {ls : List Str} {n : Nat} {c : Ch} (h : okC ls n c) (nl : ∀ l, c ≠ .letter l) : hdOk c := by
  cases c with
  | shape fs => exact (show 0 < n ∧ fs.length ≤ 2 ∧ Fld (fs.map (·.1)) ∧ okF ls (n - 1) fs by unfold okC at h; exact h).2.2.1
  | letter l => exact absurd rfl (nl l)
  | cut l hs => unfold okC at h; exact h.elim
  | any l => unfold okC at h; exact h.elim
  | wth l => unfold okC at h; exact h.elim
  | _ => exact trivial
theorem okA.hds {bs : List (Str × List Ch)} (ok : okB bs) {d : Nat} {k : List Ch} (h : okA bs d k) {c : Ch} (m : c ∈ k) : HdsOk bs c := by
  obtain ⟨f1, f2, _⟩ := h.lets m
  refine ⟨f1, fun l hs e => ?_, fun nl nc => ?_⟩
  · obtain ⟨k0, cs, rfl, okk, _, _, hcs⟩ := h
    subst e
    rcases List.mem_append.mp m with m | m
    · have o := okL_mem' okk m
      unfold okC at o
      exact o.elim
    rcases hcs with rfl | ⟨c', rfl, l', k', hm, hc'⟩
    · cases m
    · rcases hc' with e | ⟨ys, a, n, e, hs1, m0, am, my⟩
      · rw [← List.mem_singleton.mp m] at e; cases e
      · rw [← List.mem_singleton.mp m] at e
        cases e
        have k3 : k'.length ≤ 3 := (ok _ hm).2.2.1
        have few := hs1.2.2.1
        refine ⟨k', hm, fun z => ?_, ?_, fun y hy => (hs1.2.2.2 y).mp (List.mem_of_mem_drop (List.mem_of_mem_take hy))⟩
        · have := congrArg List.length z
          rw [List.length_take, List.length_drop] at this
          have h0 : ([] : List Str).length = 0 := rfl
          omega
        · have := List.length_take_le' n (ys.drop a)
          rw [List.length_drop] at this
          omega
  · obtain ⟨k0, cs, rfl, okk, _, _, hcs⟩ := h
    rcases List.mem_append.mp m with m | m
    · exact hdOk_in (okL_mem' okk m) nl
    rcases hcs with rfl | ⟨c', rfl, l', k', hm, hc'⟩
    · cases m
    · rcases hc' with e | ⟨ys, a, n, e, _⟩
      · rw [← List.mem_singleton.mp m] at e; exact absurd e (nl _)
      · rw [← List.mem_singleton.mp m] at e; exact absurd e (nc _ _)
theorem hsB_look {bs : List (Str × List Ch)} (ok : okB bs) (nd : (bs.map (·.1)).Nodup) {l : Str} {k' : List Ch} (m : (l, k') ∈ bs) : hsB (look bs l) ≠ [] ∧ (hsB (look bs l)).length ≤ 3 ∧ ∀ y ∈ hsB (look bs l), y ∈ k'.map hdC := by
  rw [ok.look nd m]
  have h := ok _ m
  have h3 : k'.length ≤ 3 := h.2.2.1
  refine ⟨hsB_ne h.2.1, ?_, fun y hy => js_has.mp hy⟩
  have := js_len (k'.map hdC)
  rw [List.length_map] at this
  show (js _).length ≤ 3
  omega
theorem nar_good {bs : List (Str × List Ch)} (ok : okB bs) (nd : (bs.map (·.1)).Nodup) (a : Ask) (y : Bool) {k : List Ch} (h : okA bs 2 k) :
    (∀ c ∈ (k.map (leC bs a y)).flatten, gd 9 c ∧ dC c < 3 ∧ (cC c).length ≤ 100000 ∧ OkN 30 (pyC c) ∧ PyData.canLay0 (.str (txC c)) = true) ∧ (k.map (leC bs a y)).flatten.length ≤ 60 := by
  have letg : ∀ l k', (l, k') ∈ bs → gd 9 (.letter l) ∧ dC (.letter l) < 3 ∧ (cC (.letter l)).length ≤ 100000 ∧ OkN 30 (pyC (.letter l)) ∧ PyData.canLay0 (.str (txC (.letter l))) = true := fun l k' m =>
    (Wl.let_ (ok _ m).1).good (by decide) (by decide) (by decide) (by decide)
  have cutg : ∀ l k' (hs : List Str), (l, k') ∈ bs → hs ≠ [] → hs.length ≤ 3 → (∀ y ∈ hs, y ∈ k'.map hdC) → gd 9 (.cut l hs) ∧ dC (.cut l hs) < 3 ∧ (cC (.cut l hs)).length ≤ 100000 ∧ OkN 30 (pyC (.cut l hs)) ∧ PyData.canLay0 (.str (txC (.cut l hs))) = true := fun l k' hs m h0 h3 hy =>
    (cut_wl (ok _ m).1 (ok.nil m) h0 h3 hy).good (by decide) (by decide) (by decide) (by decide)
  have flt : ∀ hs : List Str, ∀ x ∈ lefts a y hs, x ∈ hs := fun hs x m => (List.mem_filter.mp m).1
  have fl3 : ∀ hs : List Str, hs.length ≤ 3 → (lefts a y hs).length ≤ 3 := fun hs h => Nat.le_trans (List.length_filter_le _ _) h
  refine ⟨fun c' m => ?_, Nat.le_trans (flat_len (m := 1) fun x hx => ?_) ?_⟩
  · obtain ⟨x, hx, hc'⟩ := List.mem_flatten.mp m
    obtain ⟨c, hc, rfl⟩ := List.mem_map.mp hx
    have hh := h.hds ok hc
    unfold leC at hc'
    split at hc'
    · obtain ⟨k', m'⟩ := hh.le _ rfl
      obtain ⟨g0, g3, gy⟩ := hsB_look ok nd m'
      split at hc'
      · cases hc'
      rename_i n0
      split at hc'
      · rw [List.mem_singleton.mp hc']; exact letg _ k' m'
      · rw [List.mem_singleton.mp hc']; exact cutg _ k' _ m' n0 (fl3 _ g3) fun z hz => gy z (flt _ z hz)
    · obtain ⟨k', m', g0, g3, gy⟩ := hh.cu _ _ rfl
      split at hc'
      · cases hc'
      rename_i n0
      split at hc'
      · rw [List.mem_singleton.mp hc']; exact letg _ k' m'
      · rw [List.mem_singleton.mp hc']; exact cutg _ k' _ m' n0 (fl3 _ g3) fun z hz => gy z (flt _ z hz)
    · split at hc'
      · rw [List.mem_singleton.mp hc']; exact any_well ok h _ hc
      · cases hc'
  · obtain ⟨c, hc, rfl⟩ := List.mem_map.mp hx
    exact leC_one bs a y c
  · rw [List.length_map]
    have := (any_len ok h).2.1
    omega
end Sc
namespace Sc
open PySem PySem.Spec PyProof.Rows L2
def hdsOf (bs : List (Str × List Ch)) : Ch → List Str
  | .letter l => hsB (look bs l)
  | .cut _ hs => hs
  | c => [hdC c]
theorem lefts_one (a : Ask) (y : Bool) (h : Str) : lefts a y [h] = if decide (ans a h = y) = true then [h] else [] := by
  unfold lefts
  rw [List.filter_cons]
  split
  · rfl
  · rfl
theorem oth {bs : List (Str × List Ch)} {a : Ask} {y : Bool} {c : Ch} (nl : ∀ l, c ≠ .letter l) (nc : ∀ l hs, c ≠ .cut l hs) : hdsOf bs c = [hdC c] ∧ leC bs a y c = if decide (ans a (hdC c) = y) = true then [c] else [] := by
  cases c with
  | letter l => exact absurd rfl (nl l)
  | cut l hs => exact absurd rfl (nc l hs)
  | _ => exact ⟨rfl, rfl⟩
/-- by the heads that are left -/
theorem leC_nil {bs : List (Str × List Ch)} {a : Ask} {y : Bool} {c : Ch} (h : lefts a y (hdsOf bs c) = []) : leC bs a y c = [] := by
  by_cases hl : ∃ l, c = .letter l
  · obtain ⟨l, rfl⟩ := hl
    exact if_pos h
  by_cases hcu : ∃ l hs, c = .cut l hs
  · obtain ⟨l, hs, rfl⟩ := hcu
    exact if_pos h
  obtain ⟨e1, e2⟩ := oth (bs := bs) (a := a) (y := y) (fun l e => hl ⟨l, e⟩) fun l hs e => hcu ⟨l, hs, e⟩
  rw [e1, lefts_one] at h
  rw [e2]
  split at h
  · cases h
  · rename_i e; rw [if_neg e]
theorem leC_flat {bs : List (Str × List Ch)} {a : Ask} {y : Bool} {c : Ch} (h : lefts a y (hdsOf bs c) ≠ []) (nl : ∀ l, c ≠ .letter l) (nc : ∀ l hs, c ≠ .cut l hs) : leC bs a y c = [c] := by
  obtain ⟨e1, e2⟩ := oth (bs := bs) (a := a) (y := y) nl nc
  rw [e1, lefts_one] at h
  rw [e2]
  split at h
  · rename_i e; rw [if_pos e]
  · exact absurd rfl h
theorem leC_let {bs : List (Str × List Ch)} {a : Ask} {y : Bool} {c : Ch} {l : Str} (hc : c = .letter l ∨ ∃ hs, c = .cut l hs) (h : lefts a y (hdsOf bs c) ≠ []) : leC bs a y c = if lefts a y (hdsOf bs c) = hsB (look bs l) then [.letter l] else [.cut l (lefts a y (hdsOf bs c))] := by
  rcases hc with rfl | ⟨hs, rfl⟩
  · show (if lefts a y (hsB (look bs l)) = [] then _ else _) = _
    rw [if_neg (show ¬ lefts a y (hsB (look bs l)) = [] from h)]
    rfl
  · show (if lefts a y hs = [] then _ else _) = _
    rw [if_neg (show ¬ lefts a y hs = [] from h)]
    rfl
theorem cut_one {ws : List V} (h : ws ≠ []) : cutV ws (some 1) none = ws.drop 1 := by
  unfold cutV
  have e : HT.sIx ws.length 0 (some 1) = min 1 ws.length := HT.sIx_nat ws.length 0 1
  rw [e, HT.sIx_none]
  have : 0 < ws.length := List.length_pos_iff.mpr h
  have e1 : min 1 ws.length = 1 := by omega
  rw [e1]
  exact List.take_of_length_le (by rw [List.length_drop]; exact Nat.le_refl _)
theorem eqV_bl (x y : Bool) : decide (V.bl x = V.bl y) = decide (x = y) := by cases x <;> cases y <;> rfl
def spAns (K : PySem.W.Frag) : Sp := fun vs H Q _ => ∃ (h : Str) (v : V) (a : Ask), vs = [.str h, v] ∧ GHd h ∧ Dt K H v (pyA a) ∧ okAsk a ∧ ∀ (H' : Hp), Same H H' → Q (.bl (ans a h)) H'
def spHB (K : PySem.W.Frag) : Sp := fun vs H Q _ => ∃ (v : V) (k : List Ch), vs = [v] ∧ IsK K H v k ∧ (∀ c ∈ k, hdOk c) ∧ k.length ≤ 60 ∧ ∀ (p : Addr) (H' : Hp), Same H H' → H' p = some (.lst ((hsB k).map V.str)) → Q (.ref p) H'
def spHC (K : PySem.W.Frag) : Sp := fun vs H Q _ => ∃ (v : V) (b : Addr) (c : Ch) (bs : List (Str × List Ch)), vs = [v, .ref b] ∧ IsC K H v c ∧ IsB K H b bs ∧ okB bs ∧ HdsOk bs c ∧
  ∀ (p : Addr) (H' : Hp), Same H H' → H' p = some (.lst ((hdsOf bs c).map V.str)) → Q (.ref p) H'
def spLeft (K : PySem.W.Frag) : Sp := fun vs H Q _ => ∃ (v : V) (b : Addr) (c : Ch) (bs : List (Str × List Ch)) (av : V) (a : Ask) (y : Bool), vs = [v, .ref b, av, .bl y] ∧ IsC K H v c ∧ IsB K H b bs ∧ okB bs ∧ HdsOk bs c ∧ Dt K H av (pyA a) ∧ okAsk a ∧
  ∀ (v' : V) (H' : Hp), Same H H' → IsK K H' v' (leC bs a y c) → Q v' H'
def narK (bs : List (Str × List Ch)) (a : Ask) (y : Bool) (k : List Ch) : List Ch := jn ((k.map (leC bs a y)).flatten)
def spNSide (K : PySem.W.Frag) : Sp := fun vs H Q _ => ∃ (v : V) (b : Addr) (k : List Ch) (bs : List (Str × List Ch)) (av : V) (a : Ask) (y : Bool), vs = [v, .ref b, av, .bl y] ∧ IsK K H v k ∧ IsB K H b bs ∧ okB bs ∧ okA bs 2 k ∧ Dt K H av (pyA a) ∧ okAsk a ∧
  ∀ (v' : V) (H' : Hp), Same H H' → IsK K H' v' (narK bs a y k) → Q v' H'
def spNar (K : PySem.W.Frag) : Sp := fun vs H Q _ => ∃ (v : V) (b : Addr) (k : List Ch) (bs : List (Str × List Ch)) (av : V) (a : Ask), vs = [v, .ref b, av] ∧ IsK K H v k ∧ IsB K H b bs ∧ okB bs ∧ okA bs 2 k ∧ Dt K H av (pyA a) ∧ okAsk a ∧
  ∀ (v' : V) (H' : Hp), Same H H' → Dt K H' v' (.tuple [.tuple (pyL (narK bs a true k)), .tuple (pyL (narK bs a false k))]) → Q v' H'
/-- the heads of such a choice -/
theorem HdsOk.all {bs : List (Str × List Ch)} (ok : okB bs) (nd : (bs.map (·.1)).Nodup) {c : Ch} (h : HdsOk bs c) : (∀ x ∈ hdsOf bs c, GHd x) ∧ (hdsOf bs c).length ≤ 3 := by
  have g : ∀ l k', (l, k') ∈ bs → ∀ x ∈ k'.map hdC, GHd x := fun l k' m x hx => by
    obtain ⟨c, hc, rfl⟩ := List.mem_map.mp hx
    exact ⟨c, hdOk_of (ok.nil m c hc), rfl⟩
  by_cases hl : ∃ l, c = .letter l
  · obtain ⟨l, rfl⟩ := hl
    obtain ⟨k', m⟩ := h.le l rfl
    obtain ⟨_, g3, gy⟩ := hsB_look ok nd m
    exact ⟨fun x hx => g l k' m x (gy x hx), g3⟩
  by_cases hcu : ∃ l hs, c = .cut l hs
  · obtain ⟨l, hs, rfl⟩ := hcu
    obtain ⟨k', m, _, g3, gy⟩ := h.cu l hs rfl
    exact ⟨fun x hx => g l k' m x (gy x hx), g3⟩
  have o := h.ot (fun l e => hl ⟨l, e⟩) fun l hs e => hcu ⟨l, hs, e⟩
  have e : hdsOf bs c = [hdC c] := by
    unfold hdsOf
    split
    · exact absurd ⟨_, rfl⟩ hl
    · exact absurd ⟨_, _, rfl⟩ hcu
    · rfl
  rw [e]
  exact ⟨fun x hx => ⟨c, o, List.mem_singleton.mp hx⟩, by show 1 ≤ 3; decide⟩
end Sc
namespace Sc
open PySem PySem.Spec PyProof.Rows L2
theorem ten {n : Nat} (h : n < 5) : n = 0 ∨ n = 1 ∨ n = 2 ∨ n = 3 ∨ n = 4 := by omega
theorem one_ans (x z : Str) (hx : x ≠ "shape") : decide (([x] : List Str).head? = some z) = (decide (x = z) || (decide (z = "shape") && decide (([x] : List Str) ≠ [] ∧ ([x] : List Str).head? = some ("shape" : Str)))) := by
  have e1 : decide (([x] : List Str) ≠ [] ∧ ([x] : List Str).head? = some ("shape" : Str)) = false := decide_eq_false fun h => hx (Option.some.inj h.2)
  have e2 : decide (([x] : List Str).head? = some z) = decide (x = z) := decide_eq_decide.mpr ⟨fun h => Option.some.inj h, fun h => congrArg some h⟩
  rw [e1, e2, Bool.and_false, Bool.or_false]
/-- the law's own answers -/
theorem is_ans {c : Ch} (h : hdOk c) {z : Str} (hz : okAsk (.is z)) : ans (.is z) (hdC c) = (decide (hdC c = z) || (decide (z = "shape") && Txt.startswith (hdC c) "shape ")) := by
  have e0 : ans (.is z) (hdC c) = decide ((hdWs c).head? = some z) := by
    show decide ((Txt.split (hdC c) " ").head? = some z) = _
    rw [(hd_split h).1]
  rw [e0, sw_hd h]
  have five : z = "number" ∨ z = "text" ∨ z = "row" ∨ z = "book" ∨ z = "shape" := by
    have hz' : z ∈ (["number", "text", "row", "book", "shape"] : List Str) := hz
    simpa only [List.mem_cons, List.not_mem_nil, or_false] using hz'
  cases c with
  | num => exact one_ans "number" z (by decide +kernel)
  | txt => exact one_ans "text" z (by decide +kernel)
  | row _ => exact one_ans "row" z (by decide +kernel)
  | book _ => exact one_ans "book" z (by decide +kernel)
  | shape fs =>
    have fld : Fld (fs.map (·.1)) := h
    have ne : hdC (.shape fs) ≠ z := fun e => by
      have m : 32 ∈ TL.tl (hdC (.shape fs)) := by
        rw [show hdC (.shape fs) = ("shape " : Str) ++ Txt.join " " (fs.map (·.1)) from head_text fld.1, TL.tl_append]
        exact List.mem_append.mpr (.inl (by decide))
      rw [e] at m
      rcases five with rfl | rfl | rfl | rfl | rfl <;> exact absurd m (by decide)
    rw [decide_eq_false ne, Bool.false_or]
    have e1 : decide ((hdWs (.shape fs)).head? = some z) = decide (z = "shape") := decide_eq_decide.mpr ⟨fun h => (Option.some.inj h).symm, fun h => by rw [h]; rfl⟩
    have e2 : decide (hdWs (.shape fs) ≠ [] ∧ (hdWs (.shape fs)).head? = some ("shape" : Str)) = true := decide_eq_true ⟨by simp [hdWs], rfl⟩
    rw [e1, e2, Bool.and_true]
  | letter _ => exact h.elim
  | cut _ _ => exact h.elim
  | any _ => exact h.elim
  | wth _ => exact h.elim
theorem has_ans {c : Ch} (h : hdOk c) (z : Str) : ans (.has z) (hdC c) = (Txt.startswith (hdC c) "shape " && decide (z ∈ (hdWs c).drop 1)) := by
  have e0 : ans (.has z) (hdC c) = decide (z ∈ (hdWs c).drop 1) := by
    show decide (z ∈ (Txt.split (hdC c) " ").drop 1) = _
    rw [(hd_split h).1]
  rw [e0, sw_hd h]
  cases c with
  | shape fs =>
    have e2 : decide (hdWs (.shape fs) ≠ [] ∧ (hdWs (.shape fs)).head? = some ("shape" : Str)) = true := decide_eq_true ⟨by simp [hdWs], rfl⟩
    rw [e2, Bool.true_and]
  | letter _ => exact h.elim
  | cut _ _ => exact h.elim
  | any _ => exact h.elim
  | wth _ => exact h.elim
  | _ =>
    have e : decide (z ∈ ([] : List Str)) = false := decide_eq_false (by simp)
    show decide (z ∈ ([] : List Str)) = (_ && decide (z ∈ ([] : List Str)))
    rw [e, Bool.and_false]
/-- a side of a kind, in the kind's order -/
def sideK (bs : List (Str × List Ch)) (a : Ask) (y : Bool) (k : List Ch) : List Ch := (k.map (leC bs a y)).flatten
def spSide (K : PySem.W.Frag) (S : Hp → Addr → List V → Prop) : Sp := fun vs H Q _ => ∃ (l : Addr) (us : List V) (b : Addr) (k : List Ch) (bs : List (Str × List Ch)) (av : V) (a : Ask) (y : Bool), vs = [.ref l, .ref b, av, .bl y] ∧ S H l us ∧ Dts K H us (pyL k) ∧ IsB K H b bs ∧ okB bs ∧ okA bs 2 k ∧ Dt K H av (pyA a) ∧ okAsk a ∧
  ∀ (v' : V) (H' : Hp), Same H H' → IsK K H' v' (sideK bs a y k) → Q v' H'
def spAsk (K : PySem.W.Frag) : Sp := fun vs H Q _ => ∃ (s : Addr) (i : Inf), vs = [.ref s] ∧ IsS K H s i ∧ ∀ (v : V) (H' : Hp) (a : Ask), Ext s H H' → IsS K H' s i → Dt K H' v (pyA a) → okAsk a → Q v H'
theorem side_next {bs : List (Str × List Ch)} {a : Ask} {y : Bool} {k : List Ch} {j : Nat} {c : Ch} (h : k[j]? = some c) : sideK bs a y (k.take (j + 1)) = sideK bs a y (k.take j) ++ leC bs a y c := by
  unfold sideK
  rw [List.take_add_one, h, List.map_append, List.flatten_append]
  show _ ++ (leC bs a y c ++ []) = _
  rw [List.append_nil]
theorem side_len (bs : List (Str × List Ch)) (a : Ask) (y : Bool) (k : List Ch) : (sideK bs a y k).length ≤ k.length := by
  have := flat_len (m := 1) (ks := k.map (leC bs a y)) fun x hx => by
    obtain ⟨c, _, rfl⟩ := List.mem_map.mp hx
    exact leC_one bs a y c
  rw [List.length_map, Nat.one_mul] at this
  exact this
end Sc
namespace Sc
open PySem PySem.Spec PyProof.Rows L2
/-- a def that the top has under another name too -/
structure DefA (K : PySem.W.Frag) (mg : Str → Option Value) (x y : Str) (st : Stmt) (ps : List Str) : Prop where
  ex : ∃ f fd, Fun K y y st f fd ∧ mg x = some (.ref f) ∧ Binds K fd ps []
theorem DefA.okX {P : Program} {w : World} {K : PySem.W.Frag} {mg : Str → Option Value} {base : Heap} {x y : Str} {st : Stmt} {N ps : List Str} {k : Nat} {sp : Sp} (D : DefA K mg x y st ps) (S : FnScope N ps (defScope st)) (len : ∀ vs H Q E, sp vs H Q E → vs.length = ps.length)
    (body : ∀ (f : Addr) (cdv : Value) (A : Around) (outer : List Env) (s : Shared) (H : Hp) (vs : List V) (Q : VK) (E : XK), Room k (A.deeper (envOfC y (defScope st) s.heap.objs.size f cdv)) → sp vs H Q E →
      ∃ t, PSs (cxOf (L2.CX P w) P w K mg base N y (defScope st) f cdv A outer s H E) (defBody st) t ∧ t { nx := fun _ H' => Q .non H', rt := Q } (start N vs) H) : CalX P w K mg base (k + 1) x ps sp := by
  obtain ⟨f, fd, F, m, b⟩ := D.ex
  exact ⟨f, fd, F.okX S len fun cdv A outer s H vs Q E hr h => body f cdv A outer s H vs Q E hr h, m, F.kp, b⟩
/-- a def that may raise, by its address -/
structure HeldX (P : Program) (w : World) (K : PySem.W.Frag) (mg : Str → Option Value) (base : Heap) (k : Nat) (f : Addr) (sp : Sp) : Prop where
  ex : ∃ (fd : FuncData) (ps : List Str), FnOk P w K mg base (L2.CX P w) k f fd ps sp ∧ PySem.W.keepIn K (.ref f) = true ∧ Binds K fd ps []
theorem HeldX.mono {P : Program} {w : World} {K : PySem.W.Frag} {mg : Str → Option Value} {base : Heap} {j k : Nat} {f : Addr} {sp : Sp} (h : HeldX P w K mg base j f sp) (le : j ≤ k) : HeldX P w K mg base k f sp := by
  obtain ⟨fd, ps, a, b⟩ := h.ex
  exact ⟨fd, ps, a.mono le, b⟩
theorem CalX.held {P : Program} {w : World} {K : PySem.W.Frag} {mg : Str → Option Value} {base : Heap} {k : Nat} {x : Str} {ps : List Str} {sp : Sp} {f : Addr} (C : CalX P w K mg base k x ps sp) (e : mg x = some (.ref f)) : HeldX P w K mg base k f sp := by
  obtain ⟨f', fd, F, m, kp, b⟩ := C.ex
  rw [m] at e
  cases e
  exact ⟨fd, ps, F, kp, b⟩
section
variable {X : Cx} {k i : Nat} {x : Str} {e : Expr} {es : List Expr} {t : TA} {p pos : Pos} {E : XK}
def tCallAX (i : Nat) (S : Addr → Sp → Prop) (E : XK) (t : TA) : TE := fun σ H Q => ∃ f sp, σ[i]? = some (some (.ref f)) ∧ S f sp ∧ t σ H fun vs H1 => sp vs H1 Q E
/-- a call of a local name that holds one of several defs that may raise -/
theorem pe_callAX {S : Addr → Sp → Prop} (A : ∀ f sp, S f sp → HeldX X.prog X.w X.K X.mg X.base k f sp) (hr : Room k X.A) (hN : X.N[i]? = some x) (hv : Vis X.env.scope x) (hx : Passes (L2.CX X.prog X.w) X E) (ha : PA X (e :: es) t)
    (hdb : (x == ("__debug__" : Str)) = false := by decide) (hcd : (x == ("__classdict__" : Str)) = false := by decide)
    (he : starEach (e :: es) X.env = (false, eval e X.env) :: starEach es X.env := by rfl) (hpl : (backTo pos (starEach es X.env)).any (·.1) = false := by rfl) : PE X (.Call (.Name x p) (e :: es) [] pos) (tCallAX i S E t) := by
  refine ⟨fun pins s σ H Q I h => ?_⟩
  obtain ⟨f, sp, hs, hS, ht⟩ := h
  obtain ⟨fd, ps, F, hk, hb⟩ := (A f sp hS).ex
  refine (pe_callL (i := i) (f := f) (sp := sp) (dvs := []) (E := E) F hr hN hv hk hb .nil hx ha hdb hcd he hpl).run pins s σ H Q I ⟨hs, ?_⟩
  have e0 : (fun (vs : List V) (H1 : Hp) => sp (vs ++ []) H1 Q E) = fun vs H1 => sp vs H1 Q E := by
    funext vs H1
    rw [List.append_nil]
  show t σ H (fun vs H1 => sp (vs ++ []) H1 Q E)
  rw [e0]
  exact ht
end
end Sc
set_option linter.all false
namespace ScZ
open PySem PySem.Spec
open PySem.Sem (wp)
theorem zip_no_len : typeLookup (.type "zip") "__len__" = pure none := by rw [typeLookup_type, builtinLookup_eq_fast]; kernel_rfl
theorem zip_no_hint : typeLookup (.type "zip") "__length_hint__" = pure none := by rw [typeLookup_type, builtinLookup_eq_fast]; kernel_rfl
section
variable {prog : Program} {w : World} {A : Around} {E : Value → Shared → Prop} {s : Shared}
theorem held_item {z TI TO T i1 i2 l1 l2 : Addr} {f : Bool} {oT : Obj} {k1 k2 : Nat} {xs ys : Array Value} {x y : Value} {Q : Value → Shared → Prop} (D : ZipApart z TI TO i1 i2 l1 l2)
    (hz : IsZipHeld s.heap z TI TO T f) (hT : s.heap.get? T = some oT) (hTI : IsPair s.heap TI (.ref i1) (.ref i2))
    (h1 : s.heap.IsTupleIter i1 l1 k1) (h2 : s.heap.IsTupleIter i2 l2 k2) (hl1 : s.heap.IsTuple l1 xs) (hl2 : s.heap.IsTuple l2 ys) (hx : xs[k1]? = some x) (hy : ys[k2]? = some y)
    (hQ : ∀ h', IsZipHeld h' z TI TO T true → h'.IsTupleIter i1 l1 (k1 + 1) → h'.IsTupleIter i2 l2 (k2 + 1) → IsPair h' s.heap.objs.size x y → h'.objs.size = s.heap.objs.size + 1 →
      (∀ c o, c ≠ z → c ≠ i1 → c ≠ i2 → s.heap.get? c = some o → h'.get? c = some o) → Q (.ref s.heap.objs.size) { s with heap := h' }) :
    wpAny (model prog w) A (Builtin.«zip.__next__» ⟨[.ref z], []⟩) (fun fin s' => ∃ v, fin = .done (.ret v) ∧ Q v s') E s := by
  show wpAny _ _ (field (.ref z) 2 >>= _) _ _ _
  refine wpAny_bind (wpAny_field hz rfl (x := .bool false) rfl ?_)
  show wpAny _ _ (field (.ref z) 3 >>= _) _ _ _
  refine wpAny_bind (wpAny_field hz rfl (x := .ref TI) rfl ?_)
  refine wpAny_bind (wpAny_seqItems hTI rfl ?_)
  show wpAny _ _ (Builtin.SmallTypes.ownedTupleIsFree (.ref z) >>= _) _ _ _
  refine wpAny_bind (wpAny_tupleHeld_zip hz hT fun h₁ hz₁ hs₁ => ?_)
  simp only [Bool.false_eq_true, if_false]
  refine wpAny_bind ?_
  rw [← Array.forIn_toList]
  simp only [List.forIn_cons, List.forIn_nil]
  refine wpAny_bind (wpAny_bind (wpAny_holding ?_))
  show wpAny _ _ (Builtin.SmallTypes.nextOf (.ref i1) >>= _) _ _ _
  refine wpAny_bind (RZ.nextOf_tuple_item (s := { s with heap := h₁ }) (h1.extBut hs₁.extBut D.i1z) (hl1.extBut hs₁.extBut D.l1z) hx fun h₂ h1₂ hs₂ => wpAny_pure ?_)
  refine wpAny_pure ?_
  refine wpAny_bind (wpAny_bind (wpAny_holding ?_))
  show wpAny _ _ (Builtin.SmallTypes.nextOf (.ref i2) >>= _) _ _ _
  refine wpAny_bind (RZ.nextOf_tuple_item (s := { s with heap := h₂ }) ((h2.extBut hs₁.extBut D.i2z).extBut hs₂.extBut D.i12.symm) ((hl2.extBut hs₁.extBut D.l2z).extBut hs₂.extBut D.l2i1) hy fun h₃ h2₃ hs₃ => wpAny_pure ?_)
  refine wpAny_pure (wpAny_pure ?_)
  show wpAny _ _ (newTuple [x, y] >>= _) _ _ _
  refine wpAny_bind (wpAny_newTuple ?_)
  have hsz : h₃.objs.size = s.heap.objs.size := by rw [hs₃.1, hs₂.1, hs₁.1]
  have hz₃ : IsZipHeld h₃ z TI TO T true := hs₃.extBut _ _ D.i2z.symm (hs₂.extBut _ _ D.i1z.symm hz₁)
  have hk : ∀ c o, c ≠ z → c ≠ i1 → c ≠ i2 → s.heap.get? c = some o → h₃.get? c = some o := fun c o c1 c2 c3 e => hs₃.extBut _ _ c3 (hs₂.extBut _ _ c2 (hs₁.extBut _ _ c1 e))
  have h1₃ : h₃.IsTupleIter i1 l1 (k1 + 1) := h1₂.extBut hs₃.extBut D.i12
  refine wpAny_pure ⟨_, rfl, ?_⟩
  show Q (.ref h₃.objs.size) _
  have hp : IsPair (h₃.push { cls := .type "tuple", data := .seq #[x, y] }) h₃.objs.size x y := Heap.get?_push_size _ rfl
  have hz4 : (h₃.push { cls := .type "tuple", data := .seq #[x, y] }).objs.size = h₃.objs.size + 1 := Heap.size_push ..
  rw [hsz] at hp hz4 ⊢
  exact hQ _ (Heap.get?_push_of_some _ hz₃) (h1₃.at fun o e => Heap.get?_push_of_some _ e) (h2₃.at fun o e => Heap.get?_push_of_some _ e) hp hz4 fun c o c1 c2 c3 e => Heap.get?_push_of_some _ (hk c o c1 c2 c3 e)
theorem held_end {z TI TO T i1 i2 l1 l2 : Addr} {f : Bool} {oT : Obj} {k1 k2 : Nat} {xs ys : Array Value} {Q : PySem.Fin → Shared → Prop} (hh : A.handled = none) (D : ZipApart z TI TO i1 i2 l1 l2)
    (hz : IsZipHeld s.heap z TI TO T f) (hT : s.heap.get? T = some oT) (hTI : IsPair s.heap TI (.ref i1) (.ref i2))
    (h1 : s.heap.IsTupleIter i1 l1 k1) (hl1 : s.heap.IsTuple l1 xs) (hend : xs[k1]? = none)
    (hE : ∀ h' e, (∀ c o, c ≠ z → c ≠ i1 → s.heap.get? c = some o → h'.get? c = some o) → (∃ o, h'.get? e = some o ∧ o.cls = .type "StopIteration") → E (.ref e) { s with heap := h' }) :
    wpAny (model prog w) A (Builtin.«zip.__next__» ⟨[.ref z], []⟩) Q E s := by
  show wpAny _ _ (field (.ref z) 2 >>= _) _ _ _
  refine wpAny_bind (wpAny_field hz rfl (x := .bool false) rfl ?_)
  show wpAny _ _ (field (.ref z) 3 >>= _) _ _ _
  refine wpAny_bind (wpAny_field hz rfl (x := .ref TI) rfl ?_)
  refine wpAny_bind (wpAny_seqItems hTI rfl ?_)
  show wpAny _ _ (Builtin.SmallTypes.ownedTupleIsFree (.ref z) >>= _) _ _ _
  refine wpAny_bind (wpAny_tupleHeld_zip hz hT fun h₁ hz₁ hs₁ => ?_)
  simp only [Bool.false_eq_true, if_false]
  refine wpAny_bind ?_
  rw [← Array.forIn_toList]
  simp only [List.forIn_cons, List.forIn_nil]
  refine wpAny_bind (wpAny_bind (wpAny_holding ?_))
  show wpAny _ _ (Builtin.SmallTypes.nextOf (.ref i1) >>= _) _ _ _
  refine wpAny_bind (RZ.nextOf_tuple_end (s := { s with heap := h₁ }) hh (h1.extBut hs₁.extBut D.i1z) (hl1.extBut hs₁.extBut D.l1z) hend fun h₂ e hs₂ he => ?_)
  exact hE h₂ e (fun c o c1 c2 x => hs₂ _ _ c2 (hs₁.extBut _ _ c1 x)) he
theorem next_item {z TI TO T i1 i2 l1 l2 : Addr} {f : Bool} {oT : Obj} {k1 k2 : Nat} {xs ys : Array Value} {x y : Value} {Q : Option Value → Shared → Prop} (D : ZipApart z TI TO i1 i2 l1 l2)
    (hz : IsZipHeld s.heap z TI TO T f) (hT : s.heap.get? T = some oT) (hTI : IsPair s.heap TI (.ref i1) (.ref i2))
    (h1 : s.heap.IsTupleIter i1 l1 k1) (h2 : s.heap.IsTupleIter i2 l2 k2) (hl1 : s.heap.IsTuple l1 xs) (hl2 : s.heap.IsTuple l2 ys) (hx : xs[k1]? = some x) (hy : ys[k2]? = some y)
    (hQ : ∀ h', IsZipHeld h' z TI TO T true → h'.IsTupleIter i1 l1 (k1 + 1) → h'.IsTupleIter i2 l2 (k2 + 1) → IsPair h' s.heap.objs.size x y → h'.objs.size = s.heap.objs.size + 1 →
      (∀ c o, c ≠ z → c ≠ i1 → c ≠ i2 → s.heap.get? c = some o → h'.get? c = some o) → Q (some (.ref s.heap.objs.size)) { s with heap := h' }) :
    wpAny (model prog w) A (pyNext (.ref z)) Q E s := by
  have hTy : s.TypeIs (.ref z) "zip" := ⟨_, hz, rfl⟩
  unfold pyNext
  exact wpAny_bind (wpAny_attempt (wpAny_callSpecial?_slot (name := Str.ofString "__next__") hTy F.slot_zip_next
    (wpAny_call_entry F.slot_zip_next hTy F.entry_zip_next
      (held_item D hz hT hTI h1 h2 hl1 hl2 hx hy fun h' a1 a3 a4 a5 a6 a7 => wpAny_pure (hQ h' a1 a3 a4 a5 a6 a7)) (F.args_zip_next_1 _))))
theorem next_end {z TI TO T i1 i2 l1 l2 : Addr} {f : Bool} {oT : Obj} {k1 : Nat} {xs : Array Value} {Q : Option Value → Shared → Prop} (hh : A.handled = none) (D : ZipApart z TI TO i1 i2 l1 l2)
    (hz : IsZipHeld s.heap z TI TO T f) (hT : s.heap.get? T = some oT) (hTI : IsPair s.heap TI (.ref i1) (.ref i2))
    (h1 : s.heap.IsTupleIter i1 l1 k1) (hl1 : s.heap.IsTuple l1 xs) (hend : xs[k1]? = none)
    (hQ : ∀ h', (∀ c o, c ≠ z → c ≠ i1 → s.heap.get? c = some o → h'.get? c = some o) → Q none { s with heap := h' }) : wpAny (model prog w) A (pyNext (.ref z)) Q E s := by
  have hTy : s.TypeIs (.ref z) "zip" := ⟨_, hz, rfl⟩
  unfold pyNext
  refine wpAny_bind (wpAny_attempt (wpAny_callSpecial?_slot (name := Str.ofString "__next__") hTy F.slot_zip_next
    (wpAny_call_entry F.slot_zip_next hTy F.entry_zip_next (held_end (k2 := 0) (ys := #[]) hh D hz hT hTI h1 hl1 hend fun h' e hk he => ?_) (F.args_zip_next_1 _))))
  obtain ⟨o, ho, hc⟩ := he
  refine wpAny_bind (wpAny_isInstance (T := "StopIteration") (b := true) ⟨o, ho, hc⟩ isSubtype_stop ?_)
  exact wpAny_pure (hQ _ hk)
/-- where the zip stands -/
structure ZSt (h : Heap) (z TI TO i1 i2 a b S : Addr) (j : Nat) : Prop where
  ti : IsPair h TI (.ref i1) (.ref i2)
  t1 : h.IsTupleIter i1 a j
  t2 : h.IsTupleIter i2 b j
  st : (IsZip h z TI TO .none ∧ ∃ x y, IsPair h TO x y) ∨ ∃ (T : Addr) (f : Bool) (oT : Obj), IsZipHeld h z TI TO T f ∧ h.get? T = some oT ∧ T ≠ z ∧ T ≠ TO ∧ T ≠ i1 ∧ T ≠ i2 ∧ T ≠ S
theorem ZSt.keep {h h' : Heap} {z TI TO i1 i2 a b S : Addr} {j : Nat} (x : ZSt h z TI TO i1 i2 a b S j) (k : ∀ c o, c ≠ S → h.get? c = some o → h'.get? c = some o) (n1 : TI ≠ S) (n2 : i1 ≠ S) (n3 : i2 ≠ S) (n4 : z ≠ S) (n5 : TO ≠ S) : ZSt h' z TI TO i1 i2 a b S j := by
  refine ⟨k _ _ n1 x.ti, x.t1.at fun o e => k _ o n2 e, x.t2.at fun o e => k _ o n3 e, ?_⟩
  rcases x.st with ⟨p, x', y', q⟩ | ⟨T, f, oT, p, q, r⟩
  · exact .inl ⟨k _ _ n4 p, x', y', k _ _ n5 q⟩
  · exact .inr ⟨T, f, oT, k _ _ n4 p, k _ _ r.2.2.2.2 q, r⟩
theorem zs_item {z TI TO i1 i2 a b S : Addr} {j : Nat} {xs ys : Array Value} {x y : Value} {Q : Option Value → Shared → Prop} (D : ZipApart z TI TO i1 i2 a b) (st : ZSt s.heap z TI TO i1 i2 a b S j) (hS : S < s.heap.objs.size)
    (hl1 : s.heap.IsTuple a xs) (hl2 : s.heap.IsTuple b ys) (hx : xs[j]? = some x) (hy : ys[j]? = some y)
    (hQ : ∀ h', ZSt h' z TI TO i1 i2 a b S (j + 1) → IsPair h' s.heap.objs.size x y → h'.objs.size = s.heap.objs.size + 1 → (∀ c o, c ≠ z → c ≠ TO → c ≠ i1 → c ≠ i2 → s.heap.get? c = some o → h'.get? c = some o) → Q (some (.ref s.heap.objs.size)) { s with heap := h' }) :
    wpAny (model prog w) A (pyNext (.ref z)) Q E s := by
  obtain ⟨hTI, h1, h2, st⟩ := st
  have zl : ∀ {c : Addr} {o : Obj}, s.heap.get? c = some o → s.heap.objs.size ≠ c := fun e => Nat.ne_of_gt (Heap.lt_size e)
  have l1 : s.heap.objs.size ≠ i1 := let ⟨_, e, _⟩ := h1; zl e
  have l2 : s.heap.objs.size ≠ i2 := let ⟨_, e, _⟩ := h2; zl e
  rcases st with ⟨hz, x0, y0, hTO⟩ | ⟨T, f, oT, hz, hT, n1, n2, n3, n4, n5⟩
  · refine RZ.pyNext_zipT_item D hz hTI hTO h1 h2 hl1 hl2 hx hy fun h' z' TO' h1' h2' hT hsz hk => ?_
    exact hQ h' ⟨hk _ _ D.TIz D.TITO D.TIi1 D.TIi2 hTI, h1', h2', .inr ⟨_, false, _, z', hT, zl hz, zl hTO, l1, l2, Nat.ne_of_gt hS⟩⟩ hT hsz hk
  · refine next_item D hz hT hTI h1 h2 hl1 hl2 hx hy fun h' z' h1' h2' hp hsz hk => ?_
    exact hQ h' ⟨hk _ _ D.TIz D.TIi1 D.TIi2 hTI, h1', h2', .inr ⟨T, true, oT, z', hk _ _ n1 n3 n4 hT, n1, n2, n3, n4, n5⟩⟩ hp hsz fun c o c1 c2 c3 c4 e => hk c o c1 c3 c4 e
theorem zs_done {z TI TO i1 i2 a b S : Addr} {j : Nat} {xs ys : Array Value} {Q : Option Value → Shared → Prop} (hh : A.handled = none) (D : ZipApart z TI TO i1 i2 a b) (st : ZSt s.heap z TI TO i1 i2 a b S j)
    (hl1 : s.heap.IsTuple a xs) (hl2 : s.heap.IsTuple b ys) (hx : xs[j]? = none)
    (hQ : ∀ h', (∀ c o, c ≠ z → c ≠ TO → c ≠ i1 → c ≠ i2 → s.heap.get? c = some o → h'.get? c = some o) → Q none { s with heap := h' }) : wpAny (model prog w) A (pyNext (.ref z)) Q E s := by
  obtain ⟨hTI, h1, h2, st⟩ := st
  rcases st with ⟨hz, x0, y0, hTO⟩ | ⟨T, f, oT, hz, hT, n1, n2, n3, n4, n5⟩
  · exact RZ.pyNext_zipT_end hh D hz hTI hTO h1 h2 hl1 hl2 (.inl hx) hQ
  · exact next_end hh D hz hT hTI h1 hl1 hx fun h' hk => hQ h' fun c o c1 c2 c3 c4 e => hk c o c1 c3 e
structure ZG (xs ys : Array Value) (lo : Addr) (h : Heap) (as : List Addr) : Prop where
  rise : as.Pairwise (· < ·)
  above : ∀ a ∈ as, lo < a
  pairs : ∀ (j : Nat) (a : Addr), as[j]? = some a → ∃ x y, xs[j]? = some x ∧ ys[j]? = some y ∧ IsPair h a x y
theorem ZG.there {xs ys : Array Value} {lo : Addr} {h : Heap} {as : List Addr} (g : ZG xs ys lo h as) {a : Addr} (ha : a ∈ as) : a < h.objs.size := by
  obtain ⟨j, hj⟩ := List.mem_iff_getElem?.mp ha
  obtain ⟨_, _, _, _, e⟩ := g.pairs j a hj
  exact Heap.lt_size e
end
section
variable {prog : Program} {w : World} {A : Around} {s : Shared} {R : Result → Shared → Prop} {xs ys : Array Value}
theorem zl_loop {S z TI TO i1 i2 a b : Addr} (hh : A.handled = none) (D : ZipApart z TI TO i1 i2 a b) (nz : z < S) (nTI : TI < S) (nTO : TO < S) (n1 : i1 < S) (n2 : i2 < S) (na : a < S) (nb : b < S) (hn : xs.size ≤ sizeLine) (hxy : xs.size = ys.size) (res : Value) {h₁ : Heap}
    (hR : ∀ h' tk acc c as, (∀ b o, b ≠ S → b ≠ z → b ≠ TO → b ≠ i1 → b ≠ i2 → h₁.get? b = some o → h'.get? b = some o) → h'.get? S = some { cls := .type "list", dict := none, data := .seq acc c, slots := #[] } → as.length = xs.size → ZG xs ys S h' as →
      acc.toList = as.map Value.ref → R (.ok (.ret res)) { s with heap := h', toks := tk }) :
    ∀ (k i : Nat) (h : Heap) (tk c : Nat) (acc : Array Value) (as : List Addr), xs.size - i = k → i ≤ xs.size → ZSt h z TI TO i1 i2 a b S i → h.IsTuple a xs → h.IsTuple b ys → (∀ b o, b ≠ S → b ≠ z → b ≠ TO → b ≠ i1 → b ≠ i2 → h₁.get? b = some o → h.get? b = some o) →
      h.get? S = some { cls := .type "list", dict := none, data := .seq acc c, slots := #[] } → acc.toList = as.map Value.ref → as.length = i → ZG xs ys S h as →
      codeAny (model prog w) A (.builtin "list.extend.loop" ⟨[.ref S, .ref z, res], []⟩) R { s with heap := h, toks := tk } := by
  intro k
  induction k with
  | zero =>
    intro i h tk c acc as hk hi hst ha hb hkeep hS hacc hal hG
    have hin : i = xs.size := by omega
    refine codeAny_builtin PySem.F.entry_extend_loop ?_
    rw [Around.under_plainId PySem.F.plain_extend_loop _]
    show wpAny _ A.in1 (pyNext (.ref z) >>= _) _ _ _
    refine wpAny_bind (zs_done (s := { s with heap := h, toks := tk }) (A := A.in1) hh D hst ha hb (by rw [hin]; simp) fun h' he => ?_)
    refine wpAny_pure (hR h' tk acc c as (fun b o c0 c1 c2 c3 c4 e => he b o c1 c2 c3 c4 (hkeep b o c0 c1 c2 c3 c4 e)) (he S _ (Nat.ne_of_gt nz) (Nat.ne_of_gt nTO) (Nat.ne_of_gt n1) (Nat.ne_of_gt n2) hS) (by omega) ⟨hG.rise, hG.above, fun j t hj => ?_⟩ hacc)
    obtain ⟨x, y, e1, e2, e3⟩ := hG.pairs j t hj
    have ht := hG.above t (List.mem_of_getElem? hj)
    exact ⟨x, y, e1, e2, he t _ (Nat.ne_of_gt (Nat.lt_trans nz ht)) (Nat.ne_of_gt (Nat.lt_trans nTO ht)) (Nat.ne_of_gt (Nat.lt_trans n1 ht)) (Nat.ne_of_gt (Nat.lt_trans n2 ht)) e3⟩
  | succ k ih =>
    intro i h tk c acc as hk hi hst ha hb hkeep hS hacc hal hG
    have hlt : i < xs.size := by omega
    have hlt2 : i < ys.size := by omega
    have hx : xs[i]? = some xs[i] := Array.getElem?_eq_getElem hlt
    have hy : ys[i]? = some ys[i] := Array.getElem?_eq_getElem hlt2
    generalize xs[i] = x at hx
    generalize ys[i] = y at hy
    have hsz : acc.size = i := by rw [← Array.length_toList, hacc, List.length_map, hal]
    have hSl : S < h.objs.size := Heap.lt_size hS
    refine codeAny_builtin PySem.F.entry_extend_loop ?_
    rw [Around.under_plainId PySem.F.plain_extend_loop _]
    show wpAny _ A.in1 (pyNext (.ref z) >>= _) _ _ _
    refine wpAny_bind (zs_item (s := { s with heap := h, toks := tk }) (S := S) D hst hSl ha hb hx hy fun h' hst' ht hz hkp => ?_)
    dsimp only at ht hz hkp ⊢
    have hS' := hkp S _ (Nat.ne_of_gt nz) (Nat.ne_of_gt nTO) (Nat.ne_of_gt n1) (Nat.ne_of_gt n2) hS
    have up : ∀ b o, b ≠ S → h'.get? b = some o → (h'.update S (Obj.mapSeq (·.push (Value.ref h.objs.size)))).get? b = some o := fun b o hb e => (Heap.get?_update_other _ _ (Ne.symm hb)).trans e
    show wpAny _ A.in1 (updateSeq S (·.push (Value.ref h.objs.size)) >>= _) _ _ _
    refine wpAny_bind ?_
    refine wpAny_updateSeq hS' rfl (wpAny_pure ⟨plainId_quiet PySem.F.plain_extend_loop _, ih (i + 1) _ tk _ (acc.push (Value.ref h.objs.size)) (as ++ [h.objs.size]) (by omega) hlt (hst'.keep up (Nat.ne_of_lt nTI) (Nat.ne_of_lt n1) (Nat.ne_of_lt n2) (Nat.ne_of_lt nz) (Nat.ne_of_lt nTO))
      (ha.at fun o e => up _ o (Nat.ne_of_lt na) (hkp _ o D.l1z D.l1TO D.l1i1 D.l1i2 e)) (hb.at fun o e => up _ o (Nat.ne_of_lt nb) (hkp _ o D.l2z D.l2TO D.l2i1 D.l2i2 e))
      (fun b o c0 c1 c2 c3 c4 e => up b o c0 (hkp b o c1 c2 c3 c4 (hkeep b o c0 c1 c2 c3 c4 e))) (Heap.get?_update_self _ hS' rfl) (by rw [Array.toList_push, hacc, List.map_append]; rfl) (by rw [List.length_append, hal]; rfl) ⟨?_, ?_, ?_⟩⟩) (by rw [hsz]; omega) (by show (acc.push (Value.ref h.objs.size)).size ≤ sizeLine + 1; rw [Array.size_push, hsz]; omega)
    · refine List.pairwise_append.mpr ⟨hG.rise, List.pairwise_singleton _ _, fun a ha b hb => ?_⟩
      rw [List.mem_singleton.mp hb]
      exact hG.there ha
    · intro t ht'
      rcases List.mem_append.mp ht' with q | q
      · exact hG.above t q
      · rw [List.mem_singleton.mp q]; exact hSl
    · intro j t hj
      rcases Nat.lt_trichotomy j as.length with q | q | q
      · rw [List.getElem?_append_left q] at hj
        obtain ⟨x', y', e1, e2, e3⟩ := hG.pairs j t hj
        have ht' := hG.above t (List.mem_of_getElem? hj)
        exact ⟨x', y', e1, e2, up t _ (Nat.ne_of_gt ht') (hkp t _ (Nat.ne_of_gt (Nat.lt_trans nz ht')) (Nat.ne_of_gt (Nat.lt_trans nTO ht')) (Nat.ne_of_gt (Nat.lt_trans n1 ht')) (Nat.ne_of_gt (Nat.lt_trans n2 ht')) e3)⟩
      · subst q
        have hb' : h.objs.size = t := by simpa using hj
        subst hb'
        exact ⟨x, y, by rw [hal]; exact hx, by rw [hal]; exact hy, up _ _ (Nat.ne_of_gt hSl) ht⟩
      · have hnone : (as ++ [h.objs.size])[j]? = none := List.getElem?_eq_none (by rw [List.length_append, List.length_singleton]; omega)
        rw [hnone] at hj; cases hj
end
section
variable {prog : Program} {w : World} {A : Around} {E : Value → Shared → Prop} {s : Shared} {xs ys : Array Value} {z TI TO i1 i2 a b : Addr}
/-- a fresh zip -/
structure ZNew (h : Heap) (z TI TO i1 i2 a b : Addr) (xs ys : Array Value) : Prop where
  z : IsZip h z TI TO .none
  ti : IsPair h TI (.ref i1) (.ref i2)
  to : ∃ x y, IsPair h TO x y
  t1 : h.IsTupleIter i1 a 0
  t2 : h.IsTupleIter i2 b 0
  ha : h.IsTuple a xs
  hb : h.IsTuple b ys
theorem ZNew.keep {h h' : Heap} (x : ZNew h z TI TO i1 i2 a b xs ys) (k : ∀ c o, h.get? c = some o → h'.get? c = some o) : ZNew h' z TI TO i1 i2 a b xs ys :=
  ⟨k _ _ x.z, k _ _ x.ti, let ⟨p, q, e⟩ := x.to; ⟨p, q, k _ _ e⟩, x.t1.at fun o e => k _ o e, x.t2.at fun o e => k _ o e, x.ha.at fun o e => k _ o e, x.hb.at fun o e => k _ o e⟩
theorem ZNew.keepS {h h' : Heap} {S : Addr} (x : ZNew h z TI TO i1 i2 a b xs ys) (n : z < S ∧ TI < S ∧ TO < S ∧ i1 < S ∧ i2 < S ∧ a < S ∧ b < S) (k : ∀ c o, c ≠ S → h.get? c = some o → h'.get? c = some o) : ZNew h' z TI TO i1 i2 a b xs ys := by
  obtain ⟨m1, m2, m3, m4, m5, m6, m7⟩ := n
  exact ⟨k _ _ (Nat.ne_of_lt m1) x.z, k _ _ (Nat.ne_of_lt m2) x.ti, let ⟨p, q, e⟩ := x.to; ⟨p, q, k _ _ (Nat.ne_of_lt m3) e⟩, x.t1.at fun o e => k _ o (Nat.ne_of_lt m4) e, x.t2.at fun o e => k _ o (Nat.ne_of_lt m5) e, x.ha.at fun o e => k _ o (Nat.ne_of_lt m6) e, x.hb.at fun o e => k _ o (Nat.ne_of_lt m7) e⟩
theorem ZNew.lt {h : Heap} (x : ZNew h z TI TO i1 i2 a b xs ys) : z < h.objs.size ∧ TI < h.objs.size ∧ TO < h.objs.size ∧ i1 < h.objs.size ∧ i2 < h.objs.size ∧ a < h.objs.size ∧ b < h.objs.size :=
  ⟨Heap.lt_size x.z, Heap.lt_size x.ti, let ⟨_, _, e⟩ := x.to; Heap.lt_size e, let ⟨_, e, _⟩ := x.t1; Heap.lt_size e, let ⟨_, e, _⟩ := x.t2; Heap.lt_size e, let ⟨_, e, _⟩ := x.ha; Heap.lt_size e, let ⟨_, e, _⟩ := x.hb; Heap.lt_size e⟩
theorem zl_extend {R : Result → Shared → Prop} (hh : A.handled = none) (D : ZipApart z TI TO i1 i2 a b) (N : ZNew s.heap z TI TO i1 i2 a b xs ys) (S : Addr) (lt : z < S ∧ TI < S ∧ TO < S ∧ i1 < S ∧ i2 < S ∧ a < S ∧ b < S) (res : Value) (c₀ : Nat) (hS : s.heap.get? S = some { cls := .type "list", data := .seq #[] c₀ }) (hn : xs.size ≤ sizeLine) (hxy : xs.size = ys.size)
    (hR : ∀ h' tk acc c as, (∀ b o, b ≠ S → b ≠ z → b ≠ TO → b ≠ i1 → b ≠ i2 → s.heap.get? b = some o → h'.get? b = some o) → h'.get? S = some { cls := .type "list", dict := none, data := .seq acc c, slots := #[] } → as.length = xs.size → ZG xs ys S h' as →
      acc.toList = as.map Value.ref → R (.ok (.ret res)) { s with heap := h', toks := tk }) :
    wpAny (model prog w) A.in1 (Builtin.List.listExtendWith (.ref S) (.ref z) res)
      (fun fin s' => match fin with | .done f => R (.ok f) s' | .again c' => c'.quiet = true ∧ codeAny (model prog w) A c' R s') (fun e s' => R (.error e) s') s := by
  have hT : s.TypeIs (.ref z) "zip" := ⟨_, N.z, rfl⟩
  have nSz : S ≠ z := Nat.ne_of_gt lt.1
  unfold Builtin.List.listExtendWith
  refine wpAny_bind (wpAny_typeOf hT ?_)
  have h1 : Builtin.List.listSameRef (.ref S) (.ref z) = false := by simp [Builtin.List.listSameRef, nSz]
  have h2 : (Value.type "zip" == Value.type "list") = false := by decide
  have h3 : (Value.type "zip" == Value.type "tuple") = false := by decide
  simp only [h1, h2, h3, Bool.or_false, Bool.false_eq_true, if_false]
  refine wpAny_bind (wpAny_pyIter_zip N.z ?_)
  refine wpAny_bind (wpAny_holding ?_)
  unfold Builtin.List.listLengthHint
  refine wpAny_bind (wpAny_specialOf hT zip_no_len ?_)
  show wpAny _ A.in1 (specialOf (Value.ref z) (Str.ofString "__length_hint__") >>= _) _ _ _
  refine wpAny_bind (wpAny_specialOf hT zip_no_hint ?_)
  refine wpAny_pure ?_
  show wpAny _ A.in1 (rule "list.extend.makes-room" >>= fun _ => Builtin.List.listTouch (.ref S) >>= fun _ =>
    again (.builtin "list.extend.loop" ⟨[.ref S, .ref z, res], []⟩)) _ _ _
  refine wpAny_bind (wpAny_rule ?_)
  refine wpAny_bind ?_
  show wpAny _ A.in1 (updateSeq S (·.push .none) >>= fun _ => updateSeq S (·.pop)) _ _ _
  refine wpAny_bind (wpAny_updateSeq hS rfl ?_)
  have hS₂ := Heap.get?_update_self (Obj.mapSeq (·.push Value.none)) hS rfl
  refine wpAny_updateSeq (hz := by seq_fits) hS₂ rfl ?_
  have hS₃ := Heap.get?_update_self (Obj.mapSeq (·.pop)) hS₂ rfl
  have oth : ∀ b o, b ≠ S → s.heap.get? b = some o → ((s.heap.update S (Obj.mapSeq (·.push Value.none))).update S (Obj.mapSeq (·.pop))).get? b = some o :=
    fun b o hb e => (Heap.get?_update_other _ _ (Ne.symm hb)).trans ((Heap.get?_update_other _ _ (Ne.symm hb)).trans e)
  have N3 := N.keepS lt oth
  refine wpAny_pure ⟨plainId_quiet F.plain_extend_loop _, zl_loop (s := s) (h₁ := s.heap) hh D lt.1 lt.2.1 lt.2.2.1 lt.2.2.2.1 lt.2.2.2.2.1 lt.2.2.2.2.2.1 lt.2.2.2.2.2.2 hn hxy res hR xs.size 0 _ s.toks _ #[] [] (Nat.sub_zero _) (Nat.zero_le _)
    ⟨N3.ti, N3.t1, N3.t2, .inl ⟨N3.z, N3.to⟩⟩ N3.ha N3.hb (fun b o c0 _ _ _ _ e => oth b o c0 e) hS₃ rfl rfl ⟨List.Pairwise.nil, (fun _ ha => nomatch ha), (fun j a hj => by simp at hj)⟩⟩
theorem zl_init {R : Result → Shared → Prop} (hh : A.handled = none) (D : ZipApart z TI TO i1 i2 a b) (N : ZNew s.heap z TI TO i1 i2 a b xs ys) (S : Addr) (lt : z < S ∧ TI < S ∧ TO < S ∧ i1 < S ∧ i2 < S ∧ a < S ∧ b < S) (hS : s.heap.get? S = some { cls := .type "list", data := .seq #[] }) (hn : xs.size ≤ sizeLine) (hxy : xs.size = ys.size)
    (hR : ∀ h' tk acc c as, (∀ b o, b ≠ S → b ≠ z → b ≠ TO → b ≠ i1 → b ≠ i2 → s.heap.get? b = some o → h'.get? b = some o) → h'.get? S = some { cls := .type "list", dict := none, data := .seq acc c, slots := #[] } → as.length = xs.size → ZG xs ys S h' as →
      acc.toList = as.map Value.ref → R (.ok (.ret .none)) { s with heap := h', toks := tk }) :
    wpAny (model prog w) A.in1 (Builtin.«list.__init__» ⟨[.ref S, .ref z], []⟩)
      (fun fin s' => match fin with | .done f => R (.ok f) s' | .again c' => c'.quiet = true ∧ codeAny (model prog w) A c' R s') (fun e s' => R (.error e) s') s := by
  show wpAny _ _ (do let old ← Builtin.List.listItems (.ref S); Builtin.List.listUpdate (.ref S) (fun _ => #[]); letGo old.toList.reverse; Builtin.List.listExtendWith (.ref S) (.ref z) .none) _ _ s
  refine wpAny_bind ?_
  unfold Builtin.List.listItems
  refine wpAny_bind (wpAny_seqItems hS rfl (wpAny_pure ?_))
  show wpAny _ _ (updateSeq S (fun _ => #[]) >>= fun _ => letGo (#[] : Array Value).toList.reverse >>= fun _ => Builtin.List.listExtendWith (.ref S) (.ref z) .none) _ _ s
  refine wpAny_bind (wpAny_updateSeq hS rfl ?_)
  have hS₂ := Heap.get?_update_self (Obj.mapSeq (fun _ => (#[] : Array Value))) hS rfl
  have oth : ∀ b o, b ≠ S → s.heap.get? b = some o → (s.heap.update S (Obj.mapSeq (fun _ => (#[] : Array Value)))).get? b = some o :=
    fun b o hb e => (Heap.get?_update_other _ _ (Ne.symm hb)).trans e
  refine wpAny_bind (wpAny_letGo ?_)
  refine zl_extend (s := { s with heap := s.heap.update S (Obj.mapSeq (fun _ => (#[] : Array Value))) }) hh D (N.keepS lt oth) S lt .none _ hS₂ hn hxy (fun h' tk acc c as hk hS' hl hG hacc => ?_)
  exact hR h' tk acc c as (fun b o c0 c1 c2 c3 c4 e => hk b o c0 c1 c2 c3 c4 (oth b o c0 e)) hS' hl hG hacc
theorem zl_call {Q : Value → Shared → Prop} (hh : A.handled = none) (D : ZipApart z TI TO i1 i2 a b) (N : ZNew s.heap z TI TO i1 i2 a b xs ys) (hn : xs.size ≤ sizeLine) (hxy : xs.size = ys.size)
    (hQ : ∀ h' tk acc c as, (∀ b o, b ≠ z → b ≠ TO → b ≠ i1 → b ≠ i2 → s.heap.get? b = some o → h'.get? b = some o) → h'.get? s.heap.objs.size = some { cls := .type "list", dict := none, data := .seq acc c, slots := #[] } → as.length = xs.size → ZG xs ys s.heap.objs.size h' as →
      acc.toList = as.map Value.ref → Q (.ref s.heap.objs.size) { s with heap := h', toks := tk }) :
    wpAny (model prog w) A (call (.type "list") [.ref z]) Q E s := by
  refine callType_codes (Q₁ := fun obj s₁ => obj = .ref s.heap.objs.size ∧ s₁ = { s with heap := s.heap.push { cls := .type "list", data := .seq #[] } }) F.called_list (F.typeCall_list_1 _) F.entry_list_init
    (code_list_new _ ⟨rfl, rfl⟩) fun obj s₁ h₁ => ?_
  obtain ⟨rfl, rfl⟩ := h₁
  have hS : (s.heap.push { cls := .type "list", data := .seq #[] }).get? s.heap.objs.size = some { cls := .type "list", data := .seq #[] } := Heap.get?_push_size _ rfl
  refine ⟨⟨_, hS, rfl⟩, F.args_list_init_2 _ _, zl_init (A := A.in1) (s := { s with heap := s.heap.push { cls := .type "list", data := .seq #[] } }) hh D (N.keep fun c o e => Heap.get?_push_of_some _ e) _ N.lt hS hn hxy (fun h' tk acc c as hk hS' hl hG hacc => ?_)⟩
  exact ⟨rfl, hQ h' tk acc c as (fun b o c1 c2 c3 c4 e => hk b o (Nat.ne_of_lt (Heap.lt_size e)) c1 c2 c3 c4 (Heap.get?_push_of_some _ e)) hS' hl hG hacc⟩
end
end ScZ
set_option linter.all false
namespace ScZ
open PySem PySem.Spec PyProof.Rows L2
def putZ : Hp → List Addr → List (V × V) → Hp
  | H, a :: as, p :: kvs => putZ (upd H a (.tup [p.1, p.2])) as kvs
  | H, _, _ => H
theorem putZ_off {b : Addr} : ∀ (as : List Addr) (kvs : List (V × V)) (H : Hp), b ∉ as → putZ H as kvs b = H b
  | [], _, _, _ => rfl
  | _ :: _, [], _, _ => rfl
  | a :: as, p :: kvs, H, h => by
    show putZ (upd H a (.tup [p.1, p.2])) as kvs b = H b
    rw [putZ_off as kvs _ (fun z => h (List.mem_cons_of_mem _ z)), upd_ne (fun z => h (by rw [z]; exact List.mem_cons_self))]
theorem putZ_at : ∀ (as : List Addr) (kvs : List (V × V)) (H : Hp), as.length = kvs.length → as.Nodup → ∀ (j : Nat) (t : Addr) (p : V × V), as[j]? = some t → kvs[j]? = some p → putZ H as kvs t = some (.tup [p.1, p.2])
  | [], [], _, _, _, _, _, _, h, _ => by cases h
  | [], _ :: _, _, h, _, _, _, _, _, _ => by cases h
  | _ :: _, [], _, h, _, _, _, _, _, _ => by cases h
  | a :: as, q :: kvs, H, h, hn, j, t, p, h1, h2 => by
    have hn' := List.nodup_cons.mp hn
    cases j with
    | zero =>
      obtain rfl := Option.some.inj h1
      obtain rfl := Option.some.inj h2
      show putZ (upd H a (.tup [q.1, q.2])) as kvs a = some (.tup [q.1, q.2])
      rw [putZ_off as kvs _ hn'.1, upd_same]
    | succ j => exact putZ_at as kvs _ (Nat.succ.inj h) hn'.2 j t p h1 h2
section
variable {X : Cx} {e e2 : Expr} {ta : TA} {p p2 pos pos2 : Pos}
theorem zip_laid {pins : List (Addr × Obj)} {σ : L2.St} {H : Hp} {s : Shared} {h' : Heap} {tk : Nat} {xs ys : List V} {us ws : List Value} {acc : Array Value} {c : Nat} {as : List Addr} {S : Addr} (I : Inv X pins σ H s) (hz : xs.length ≤ sizeLine) (r1 : Vals xs us) (r2 : Vals ys ws) (hxy : xs.length = ys.length)
    (hk : ∀ b o, s.heap.get? b = some o → h'.get? b = some o) (hSl : s.heap.objs.size ≤ S) (hS : h'.get? S = some { cls := .type "list", dict := none, data := .seq acc c, slots := #[] }) (hl : as.length = us.toArray.size) (hG : ZG us.toArray ws.toArray S h' as) (hacc : acc.toList = as.map Value.ref) :
    ∃ H' : Hp, (∀ b o, H b = some o → H' b = some o) ∧ H S = none ∧ (∀ t ∈ as, H t = none) ∧ S ∉ as ∧ H' S = some (.lst (as.map V.ref)) ∧ (∀ (j : Nat) (t : Addr), as[j]? = some t → ∃ x y, xs[j]? = some x ∧ ys[j]? = some y ∧ H' t = some (.tup [x, y])) ∧ Inv X pins σ H' { s with heap := h', toks := tk } := by
  have lu := r1.length
  have lw := r2.length
  have la : as.length = xs.length := by rw [hl, lu]; simp
  have lz : (xs.zip ys).length = xs.length := by rw [List.length_zip]; omega
  have hSn : S ∉ as := fun z => Nat.lt_irrefl _ (hG.above _ z)
  have nd : as.Nodup := List.Pairwise.imp (fun {a b} (h : a < b) => Nat.ne_of_lt h) hG.rise
  have new : ∀ t ∈ as, H t = none := fun t ht => I.hok.fresh (Nat.le_of_lt (Nat.lt_of_le_of_lt hSl (hG.above t ht)))
  have newS : H S = none := I.hok.fresh hSl
  have atP := putZ_at as (xs.zip ys) (upd H S (.lst (as.map V.ref))) (by omega) nd
  have off : ∀ b, b ∉ as → b ≠ S → putZ (upd H S (.lst (as.map V.ref))) as (xs.zip ys) b = H b := fun b h1 h2 => by rw [putZ_off as _ _ h1, upd_ne h2]
  have low : ∀ b o, s.heap.get? b = some o → b ∉ as ∧ b ≠ S := fun b o e => ⟨fun z => absurd (Heap.lt_size e) (Nat.not_lt.mpr (Nat.le_of_lt (Nat.lt_of_le_of_lt hSl (hG.above b z)))), Nat.ne_of_lt (Nat.lt_of_lt_of_le (Heap.lt_size e) hSl)⟩
  have kp : ∀ b u, H b = some u → (putZ (upd H S (.lst (as.map V.ref))) as (xs.zip ys)) b = some u := fun b u e => by
    rw [off b (fun z => by rw [new b z] at e; cases e) (fun z => by rw [z, newS] at e; cases e)]
    exact e
  have eS : putZ (upd H S (.lst (as.map V.ref))) as (xs.zip ys) S = some (.lst (as.map V.ref)) := by rw [putZ_off as _ _ hSn, upd_same]
  have pr : ∀ (j : Nat) (t : Addr), as[j]? = some t → ∃ x y, xs[j]? = some x ∧ ys[j]? = some y ∧ putZ (upd H S (.lst (as.map V.ref))) as (xs.zip ys) t = some (.tup [x, y]) := fun j t hj => by
    have jl := (List.getElem?_eq_some_iff.mp hj).1
    have hx : xs[j]? = some (xs[j]'(by omega)) := List.getElem?_eq_getElem _
    have hy : ys[j]? = some (ys[j]'(by omega)) := List.getElem?_eq_getElem _
    exact ⟨_, _, hx, hy, atP j t (_, _) hj (List.getElem?_zip_eq_some.mpr ⟨hx, hy⟩)⟩
  refine ⟨putZ (upd H S (.lst (as.map V.ref))) as (xs.zip ys), kp, newS, new, hSn, eS, pr, ?_⟩
  refine I.call' (ch := []) rfl ⟨fun b o q _ _ _ => hk b o q, fun b o q _ _ _ => ⟨o.slots, hk b o q⟩, fun b o q n _ => ?_, fun b o q _ => ⟨o, hk b o q⟩, fun b xs q => kp b _ q, fun b o u q => kp b _ q, fun b ps q => ⟨#[], by rw [kp b _ q]; simp⟩⟩ (fun b u q => ?_) I.bare fun b z => by simp at z
  · obtain ⟨z1, z2⟩ := low b o q
    rw [off b z1 z2]
    exact n
  · by_cases hb : b ∈ as
    · obtain ⟨j, hj⟩ := List.mem_iff_getElem?.mp hb
      obtain ⟨x, y, e1, e2, e3⟩ := pr j b hj
      rw [e3] at q
      cases q
      obtain ⟨u, w, f1, f2, f3⟩ := hG.pairs j b hj
      obtain ⟨u', g1, g2⟩ := r1.get e1
      obtain ⟨w', g3, g4⟩ := r2.get e2
      have f1' : us[j]? = some u := by simpa using f1
      have f2' : ws[j]? = some w := by simpa using f2
      rw [g1] at f1'
      rw [g3] at f2'
      cases f1'
      cases f2'
      exact ⟨by show 2 ≤ sizeLine; decide, [u, w], .cons g2 (.cons g4 .nil), ⟨_, f3, rfl, _, rfl⟩⟩
    · by_cases hb2 : b = S
      · rw [hb2] at q ⊢
        rw [eS] at q
        cases q
        refine ⟨by rw [List.length_map]; omega, acc.toList, c, by rw [hacc]; exact LiI.vals_refs as, ?_⟩
        rw [Array.toArray_toList]
        exact hS
      · rw [off b hb hb2] at q
        exact (I.hok b u q).stay (fun d v _ y => hk d v y) (fun d y => kp d _ y) fun d xs y => kp d _ y
def tListZip (K : PySem.W.Frag) (ta : TA) : TE := fun σ H Q => ta σ H fun vs H1 => ∃ (a b : Addr) (xs ys : List V), vs = [.ref a, .ref b] ∧ SqT K H1 a xs ∧ SqT K H1 b ys ∧ xs.length = ys.length ∧
  ∀ (H' : Hp) (l : Addr) (ts : List Addr), (∀ b o, H1 b = some o → H' b = some o) → H1 l = none → (∀ t ∈ ts, H1 t = none) → l ∉ ts → H' l = some (.lst (ts.map V.ref)) → ts.length = xs.length →
    (∀ (j : Nat) (t : Addr), ts[j]? = some t → ∃ x y, xs[j]? = some x ∧ ys[j]? = some y ∧ H' t = some (.tup [x, y])) → Q (.ref l) H'
/-- list(zip(e, e2)), two tuples -/
theorem pe_listZip (hc : X.calm = true) (hg : Gl X "list") (hm : X.mg "list" = none) (hg2 : Gl X "zip") (hm2 : X.mg "zip" = none) (ha : PA X [e, e2] ta)
    (hs : starEach [.Call (.Name "zip" p2) [e, e2] [] pos2] X.env = (false, eval (.Call (.Name "zip" p2) [e, e2] [] pos2) X.env) :: starEach [] X.env := by rfl)
    (hs2 : starEach [e, e2] X.env = (false, eval e X.env) :: starEach [e2] X.env := by rfl) (hpl : (backTo pos2 (starEach [e2] X.env)).any (·.1) = false := by rfl) :
    PE X (.Call (.Name "list" p) [.Call (.Name "zip" p2) [e, e2] [] pos2] [] pos) (tListZip X.K ta) := by
  refine ⟨fun pins s σ H Q I hq => ?_⟩
  refine wpAny_Call_Name_kw (ld_blt I hg hm (show bootBuiltins "list" = some (.type "list") by decide +kernel) ?_)
  refine PyProof.Rows.callWith_type1 ?_ hs rfl
  rw [hs]
  show wpAny _ _ (spliced ((false, eval (.Call (.Name "zip" p2) [e, e2] [] pos2) X.env) :: backTo pos (starEach [] X.env))) _ _ s
  refine Calls.spliced_cons ?_
  refine Call_ (ld_blt I hg2 hm2 PyProof.Rows.boot_zip (PyProof.Rows.callWith_type1 (thn (ha.run pos2 pins s σ H _ I hq) fun us s1 ⟨vs, H1, I1, r1, q1⟩ => ?_) hs2 hpl))
  obtain ⟨a, b, xs, ys, ex, hqx, hqy, hxy, q⟩ := q1
  subst ex
  cases r1 with
  | cons r rr =>
    cases rr with
    | cons r' rr =>
      cases rr
      cases r
      cases r'
      obtain ⟨its, rv, p1, z1⟩ := I1.tuple hqx
      obtain ⟨its2, rv2, p2, z2⟩ := I1.tuple hqy
      have l1 := rv.length
      have l2 := rv2.length
      obtain ⟨o1, ho1, _⟩ := _root_.id p1
      obtain ⟨o2, ho2, _⟩ := _root_.id p2
      refine RZ.call_zipT (show s1.heap.IsTuple a its.toArray from p1) (show s1.heap.IsTuple b its2.toArray from p2) fun h' hz hTI hTO h1 h2 hsz hk => ?_
      refine Calls.spliced_nil ?_
      have D := PySem.W.ktu_apart s1.heap.objs.size a b (Heap.lt_size ho1) (Heap.lt_size ho2)
      refine zl_call (s := { s1 with heap := h' }) (xs := its.toArray) (ys := its2.toArray) (I1.ok.hd hc) D ⟨hz, hTI, ⟨_, _, hTO⟩, h1, h2, Heap.IsTuple.at p1 fun o e => hk _ o e, Heap.IsTuple.at p2 fun o e => hk _ o e⟩ (by simp only [List.size_toArray]; omega) (by simp only [List.size_toArray]; omega) fun h'' tk acc c as hk2 hS hl hG hacc => ?_
      have ge : ∀ b o, s1.heap.get? b = some o → b < s1.heap.objs.size := fun b o e => Heap.lt_size e
      have hk3 : ∀ b o, s1.heap.get? b = some o → h''.get? b = some o := fun b o e => by
        have lt : (b : Nat) < s1.heap.objs.size := ge b o e
        exact hk2 b o (Nat.ne_of_lt (Nat.lt_of_lt_of_le lt (Nat.le_add_right _ 4))) (Nat.ne_of_lt (Nat.lt_of_lt_of_le lt (Nat.le_add_right _ 3))) (Nat.ne_of_lt lt) (Nat.ne_of_lt (Nat.lt_of_lt_of_le lt (Nat.le_add_right _ 1))) (hk b o e)
      have hsz' : s1.heap.objs.size ≤ h'.objs.size := by omega
      obtain ⟨H', k1, k2, k3, k4, k5, k6, J⟩ := zip_laid (tk := tk) I1 (by omega) rv rv2 hxy hk3 hsz' hS hl hG hacc
      exact ⟨.ref _, H', J, rfl, q H' _ as k1 k2 k3 k4 k5 (by rw [hl]; simp; omega) k6⟩
end
end ScZ
namespace Sc
open PySem PySem.Spec PyProof.Rows L2
section
variable {P : Program} {w : World} {A : Around} {E : Value → Shared → Prop} {s : Shared}
/-- set(t), t a tuple of texts -/
theorem call_set_txsT {l : Addr} {items : Array Value} (zs : List Str) {Q : Value → Shared → Prop} (calm : A.handled = none) (hl : s.heap.IsTuple l items) (hit : StrsAre items.toList zs) (room : zs.length + 1 < scanBound)
    (fin : ∀ (h' : Heap) (tk m : Nat), TxSet w h' s.heap.objs.size (fun y => decide (y ∈ zs)) m → m ≤ zs.length → (∀ b ob, s.heap.get? b = some ob → h'.get? b = some ob) → Q (.ref s.heap.objs.size) { s with heap := h', toks := tk }) :
    wpAny (model P w) A (call (.type "set") [.ref l]) Q E s := by
  have isz : items.size = zs.length := by
    have z := hit.length
    rw [Array.length_toList] at z
    exact z
  obtain ⟨c, tl, hmro⟩ := F.called_set.mro
  have hmade := F.called_set.made
  have hsub := F.called_set.sub
  refine wpAny_call (codeAny_of_tree ?_)
  show wpAny _ _ (callAny (.type "set") _) _ _ _
  refine wpAny_pure ⟨Code.quiet_builtin _ (by decide +kernel), codeAny_builtin F.entry_type_call ?_⟩
  rw [Around.under_plain (weight_type_call_type "set" [.ref l] []) rfl]
  have no_t := F.called_set.notType
  have can := F.called_set.canCreate
  have chk := PySem.F.typeCall_set_1 (.ref l)
  repeat (any_goals (first | assumption | wp_step))
  refine codeAny_mono (code_set_led1 (.ref l) (E := E) (Q₁ := fun obj s1 => obj = .ref s.heap.objs.size ∧ s1 = { s with heap := s.heap.push (bareSet w) }) ⟨rfl, rfl⟩) fun r s1 hr => ?_
  cases r with
  | error e => exact hr
  | ok fl =>
  cases fl with
  | next => exact hr.elim
  | brk => exact hr.elim
  | cont => exact hr.elim
  | ret obj =>
  obtain ⟨rfl, rfl⟩ := hr
  have atS : (s.heap.push (bareSet w)).get? s.heap.objs.size = some (bareSet w) := Heap.get?_push_size _ rfl
  have tyS : Shared.TypeIs { s with heap := s.heap.push (bareSet w) } (.ref s.heap.objs.size) "set" := ⟨_, atS, rfl⟩
  have ini := F.called_set.init.lookup
  have inb := F.called_set.init.bind (.ref s.heap.objs.size)
  repeat (any_goals (first | assumption | wp_step))
  refine codeAny_mono (codeAny_call_builtin (R := wants (fun r s2 => r = .none ∧ ∃ h' tk m, s2 = { s with heap := h', toks := tk } ∧ TxSet w h' s.heap.objs.size (fun y => decide (y ∈ zs)) m ∧ m ≤ zs.length ∧
      (∀ b ob, s.heap.get? b = some ob → h'.get? b = some ob)) E) F.called_set.init.plain F.entry_set_init (check_set_init_1 tyS ?_)) fun r2 s2 hr2 => ?_
  · obtain ⟨ob, hob, hc, nl, hd⟩ := hl
    obtain ⟨k1, k2, k3, k4⟩ := ob
    simp only at hc hd
    subst hc hd
    have ob1 : (s.heap.push (bareSet w)).get? l = some { cls := .type "tuple", dict := k2, data := .seq items nl, slots := k4 } := Heap.get?_push_of_some _ hob
    have not1 := F.sub_tuple_set
    have not2 := F.sub_tuple_frozenset
    have not3 : (Value.type "tuple" == Value.type "dict") = false := by decide
    have l1 : (s.heap.push (bareSet w)).IsTuple l items := ⟨_, ob1, rfl, nl, rfl⟩
    unfold Builtin.«set.__init__» noKeywords Builtin.Frozenset.updateFrom
    generalize hIt : pyIter = It
    wp_walk
    subst hIt
    refine wpAny_pyIter_tuple l1 (wpAny_bind (wpAny_runValue ?_))
    have low : l < s.heap.objs.size := Heap.lt_size hob
    have calm3 : A.in1.in1.in1.handled = none := by simp [calm]
    have one : (s.heap.push (bareSet w)).objs.size = s.heap.objs.size + 1 := Heap.size_push ..
    have n1 : l ≠ (s.heap.push (bareSet w)).objs.size := Nat.ne_of_lt (by rw [one]; exact Nat.lt_succ_of_lt low)
    have n2 : s.heap.objs.size ∉ [(s.heap.push (bareSet w)).objs.size, l] := by
      rw [List.mem_cons, List.mem_singleton, one]
      exact fun z => z.elim (Nat.ne_of_lt (Nat.lt_succ_self _)) (Nat.ne_of_gt low)
    refine tx_update ((Walks.tuple calm3 _ l n1 items).toS) s.heap.objs.size n2 zs isz room (fun i v hv => tx_item hit i v (by rw [Array.getElem?_toList]; exact hv)) (items.size - 0) 0 _ (by omega) (Nat.zero_le _)
      ⟨⟨_, Heap.get?_push_size _ rfl, rfl, rfl⟩, (l1.push _)⟩ ⟨0, Nat.le_refl 0, tx_bare (Heap.get?_push_of_some _ atS)⟩ ?_
    intro s3 m mv hm R3
    obtain ⟨h3, g3, d3, t3, o3⟩ := s3
    have z1 : g3 = s.gens := mv.gens
    have z2 : d3 = s.drawn := mv.drawn
    have z3 : o3 = s.os := mv.os
    subst z1 z2 z3
    show wpAny _ _ _ _ _ _
    refine wpAny_pure ?_
    show wpAny _ _ (ret Value.none) _ _ _
    refine wpAny_pure ⟨rfl, h3, t3, m, rfl, R3, isz ▸ hm, fun b ob e => ?_⟩
    have lb : b < s.heap.objs.size := Heap.lt_size e
    refine mv.heap b ob ?_ (Heap.get?_push_of_some _ (Heap.get?_push_of_some _ e))
    rw [List.mem_cons, List.mem_singleton, one]
    exact fun z => z.elim (Nat.ne_of_lt lb) (Nat.ne_of_lt (Nat.lt_succ_of_lt lb))
  · cases r2 with
    | error e => exact hr2
    | ok fl2 =>
    cases fl2 with
    | next => exact hr2.elim
    | brk => exact hr2.elim
    | cont => exact hr2.elim
    | ret r =>
    obtain ⟨rfl, h', tk, m, rfl, R2, hm, kp⟩ := hr2
    repeat (any_goals (first | assumption | wp_step))
    exact fin _ _ _ R2 hm kp

end
section
variable {X : Cx}
def rTxSetT (K : PySem.W.Frag) (w : World) : List V → Hp → VK → Prop := fun xs H Q => ∃ (l : Addr) (zs : List Str), xs = [V.ref l] ∧ (SqL K H l (zs.map V.str) ∨ SqT K H l (zs.map V.str)) ∧ zs.length < 1000 ∧
  ∀ a m, H a = none → m ≤ zs.length → Q (.ref a) (upd H a (TxO w a (fun y => decide (y ∈ zs)) m))
theorem cr_txSetT (hc : X.calm = true) : CallR X (.type "set") (rTxSetT X.K X.w) := by
  intro pins s σ H xs us Q I r h
  obtain ⟨l, zs, e, hl | hl, few, q⟩ := h
  · exact cr_txSet hc pins s σ H xs us Q I r ⟨l, zs, e, hl, few, q⟩
  subst e
  rw [Vals.ref1 r]
  obtain ⟨its, rv, pl, hz⟩ := I.tuple hl
  have free : H s.heap.objs.size = none := I.hok.fresh (Nat.le_refl _)
  refine call_set_txsT (P := X.prog) (w := X.w) zs (I.ok.hd hc) pl rv.strs (by unfold scanBound; omega) fun h' tk m R hm kp => ?_
  have R' : ∀ H2 : Hp, ObjOk X.prog X.w H2 h' s.heap.objs.size (TxO X.w s.heap.objs.size (fun y => decide (y ∈ zs)) m) := fun H2 => by
    have ⟨ob, _, _, _, hob, _⟩ := R
    exact ⟨R, ⟨ob, hob⟩, fun h1 h2 p k => p.keep k⟩
  exact ⟨.ref s.heap.objs.size, _, I.laid (t' := tk) kp (Nat.le_refl _) (R' _), rfl, q _ m free hm⟩
/-- len(d), d a set of texts: as many as there are -/
def rTxLen (w : World) : List V → Hp → VK → Prop := fun xs H Q => ∃ (d : Addr) (S : Str → Bool) (n : Nat), xs = [V.ref d] ∧ H d = some (TxO w d S n) ∧
  ∀ ys : List Str, ys.Nodup → (∀ x, x ∈ ys ↔ S x = true) → ys.length = n → Q (.int (n : Nat)) H
theorem cr_txLen : CallR X (.builtin "len") (rTxLen X.w) := by
  intro pins s σ H xs us Q I r h
  obtain ⟨d, S, n, rfl, hd, q⟩ := h
  obtain ⟨ob, cs, ver, tb, hob, ex, dt, gd, nd, mm, sb, ft, sz, ri, ld⟩ : TxSet X.w s.heap d S n := (I.hok d _ hd).1
  rw [Vals.ref1 r]
  have lt : (cs.size : Int) < 2 ^ 63 := by
    have : scanBound ≤ 2 ^ 40 := by decide
    omega
  refine call_len_set hob ex dt ft lt ⟨.int (n : Nat), H, I.tok _, ⟨_, by rw [sz]⟩, q (cs.toList.map txOf) nd (fun x => (mm x).symm) (by rw [List.length_map, Array.length_toList]; exact sz)⟩
end
end Sc
namespace Sc
theorem nodup_sub {α : Type} [DecidableEq α] : ∀ {a b : List α}, a.Nodup → (∀ x ∈ a, x ∈ b) → a.length ≤ b.length
  | [], _, _, _ => Nat.zero_le _
  | x :: a, b, ha, hab => by
    obtain ⟨h1, h2⟩ := List.nodup_cons.mp ha
    have hx := hab x List.mem_cons_self
    have ih := nodup_sub (b := b.erase x) h2 fun y hy => (List.mem_erase_of_ne fun (z : y = x) => h1 (z ▸ hy)).mpr (hab y (List.mem_cons_of_mem _ hy))
    rw [List.length_erase_of_mem hx] at ih
    have : 0 < b.length := List.length_pos_of_mem hx
    rw [List.length_cons]
    omega
theorem dup_one {α : Type} [DecidableEq α] : ∀ {zs : List α}, ¬ zs.Nodup → ∃ x ∈ zs, ∀ y ∈ zs, y ∈ zs.erase x
  | [], h => absurd List.nodup_nil h
  | z :: r, h => by
    by_cases hz : z ∈ r
    · refine ⟨z, List.mem_cons_self, fun y hy => ?_⟩
      rw [List.erase_cons_head]
      rcases List.mem_cons.mp hy with e | e
      · rw [e]; exact hz
      · exact e
    · obtain ⟨x, hx, hr⟩ := dup_one (zs := r) fun n => h (List.nodup_cons.mpr ⟨hz, n⟩)
      have ne : z ≠ x := fun e => hz (e ▸ hx)
      refine ⟨x, List.mem_cons_of_mem _ hx, fun y hy => ?_⟩
      rw [List.erase_cons_tail (by simpa using ne)]
      rcases List.mem_cons.mp hy with e | e
      · rw [e]; exact List.mem_cons_self
      · exact List.mem_cons_of_mem _ (hr y e)
theorem nodup_len {α : Type} [DecidableEq α] {zs ys : List α} {n : Nat} (nd : ys.Nodup) (mem : ∀ x, x ∈ ys ↔ x ∈ zs) (ln : ys.length = n) : (n < zs.length ↔ ¬ zs.Nodup) ∧ n ≤ zs.length := by
  have le : n ≤ zs.length := by rw [← ln]; exact nodup_sub nd fun x hx => (mem x).mp hx
  refine ⟨⟨fun lt hz => ?_, fun hz => ?_⟩, le⟩
  · have := nodup_sub hz fun x hx => (mem x).mpr hx
    omega
  · obtain ⟨x, hx, hr⟩ := dup_one hz
    have := nodup_sub nd fun y hy => hr y ((mem y).mp hy)
    rw [List.length_erase_of_mem hx] at this
    have : 0 < zs.length := List.length_pos_of_mem hx
    omega
end Sc
namespace Sc
open PySem PySem.Spec PyProof.Rows L2
/-! ### programs: what is one, purely -/
inductive Wr where
  | bk | bp | nn | tt
deriving DecidableEq
/-- what is known where a part stands -/
structure Env0 where
  ls : List Str
  fs : List (Str × Nat × Nat)
  ns : List Str
def formTab : List (Str × List Str) :=
  [("num", ["whole"]), ("text", ["text"]), ("name", ["known"]), ("row", ["parts"]), ("norow", ["kind"]), ("nobook", ["kind"]), ("shape", ["fields"]), ("get", ["part", "field"]),
   ("plus", ["part", "part"]), ("minus", ["part", "part"]), ("join", ["part", "part"]), ("size", ["part"]), ("push", ["part", "part"]), ("at", ["part", "part", "part"]), ("put", ["part", "part", "part"]),
   ("look", ["part", "part", "part"]), ("let", ["given", "part", "last"]), ("each", ["given", "part", "last"]), ("fold", ["given", "part", "given", "kind", "part", "last"]), ("if", ["part", "part", "part", "part"]),
   ("is", ["known", "head", "part", "part"]), ("has", ["known", "field", "part", "part"]), ("call", ["function", "kinds", "handed"])]
/-- the first that is wrong -/
def firstBad : List (Option Wr) → Option Wr
  | [] => none
  | some b :: _ => some b
  | none :: r => firstBad r
def whenB (c : Bool) (b : Wr) : Option Wr := if c then none else some b
def gWhole : PyData → Option Wr
  | .int n => whenB (decide (n.natAbs < 10 ^ 30)) .bp
  | _ => some .bp
def gText : PyData → Option Wr
  | .str z => whenB ((z.cps.toList.all fun c => decide (32 ≤ c) && decide (c ≤ 126)) && !(z.cps.toList.any fun c => c == 37)) .bp
  | _ => some .bp
def gWord (d : PyData) : Option Wr := whenB (isWordD d) .bp
def gKnown (E : Env0) : PyData → Option Wr
  | .str z => if isWordD (.str z) then whenB (decide (z ∈ E.ns)) .nn else some .bp
  | _ => some .bp
def gHead : PyData → Option Wr
  | .str z => whenB (decide (z ∈ (["number", "text", "row", "book", "shape"] : List Str))) .bp
  | _ => some .bp
def gKind (ls : List Str) (d : PyData) : Option Wr := whenB (gK ls 9 d) .bk
def gFun (E : Env0) : PyData → Option Wr
  | .str z => if isWordD (.str z) then whenB (decide (z ∈ E.fs.map (·.1))) .nn else some .bp
  | _ => some .bp
def gKinds (ls : List Str) : PyData → Option Wr
  | .tuple ds => firstBad (ds.map (gKind ls))
  | _ => some .bp
def gHanded (rec : PyData → Option Wr) : PyData → Option Wr
  | .tuple ds => firstBad (ds.map rec)
  | _ => some .bp
def gParts (rec : PyData → Option Wr) (d : PyData) : Option Wr := match gHanded rec d with
  | some b => some b
  | none => match d with
    | .tuple [] => some .bp
    | _ => none
def gField (rec : PyData → Option Wr) : PyData → Option Wr
  | .tuple [f, p] => match gWord f with
    | some b => some b
    | none => rec p
  | _ => some .bp
def gFields (rec : PyData → Option Wr) : PyData → Option Wr
  | .tuple ds => if fldD (.tuple ds) then firstBad (ds.map (gField rec)) else some .bp
  | _ => some .bp
/-- what stands in one place of a part -/
def gSlot (rec : Env0 → PyData → Option Wr) (E : Env0) (s : Str) (d : PyData) : Option Wr :=
  if s = ("whole" : Str) then gWhole d else if s = ("text" : Str) then gText d else if s = ("known" : Str) then gKnown E d else if s = ("given" : Str) then gWord d else if s = ("field" : Str) then gWord d else if s = ("head" : Str) then gHead d
  else if s = ("kind" : Str) then gKind E.ls d else if s = ("part" : Str) then rec E d else if s = ("last" : Str) then rec E d else if s = ("parts" : Str) then gParts (rec E) d else if s = ("fields" : Str) then gFields (rec E) d
  else if s = ("function" : Str) then gFun E d else if s = ("kinds" : Str) then gKinds E.ls d else gHanded (rec E) d
def givens (fm : List Str) (ts : List PyData) : List PyData := ((fm.zip ts).filter fun p => p.1 == ("given" : Str)).map (·.2)
def strsD : List PyData → List Str
  | [] => []
  | .str z :: r => z :: strsD r
  | _ :: r => strsD r
def formOf : PyData → Option (Str × List Str × List PyData)
  | .tuple (.str w :: ts) => match formTab.lookup w with
    | some fm => if ts.length = fm.length then some (w, fm, ts) else none
    | none => none
  | _ => none
def callOk (E : Env0) (ts : List PyData) : Bool := match ts with
  | [.str f, .tuple ks, .tuple ps] => (match E.fs.lookup f with
    | some (nl, np) => decide (ks.length = nl) && decide (ps.length = np)
    | none => false)
  | _ => false
def gPart : Nat → Env0 → PyData → Option Wr
  | 0, _, _ => some .bp
  | n + 1, E, d => match formOf d with
    | none => some .bp
    | some (w, fm, ts) =>
      let L : Env0 := { E with ns := E.ns ++ strsD (givens fm ts) }
      match firstBad ((fm.zip ts).map fun p => gSlot (gPart n) (if p.1 = ("last" : Str) then L else E) p.1 p.2) with
      | some b => some b
      | none => if (strsD (givens fm ts)).Nodup then (if w = ("call" : Str) then whenB (callOk E ts) .bp else none) else some .tt
/-! ### where a part stands -/
def placeF (la fa na : Addr) (r : Int) : List (Str × V) := [("letters", V.ref la), ("functions", V.ref fa), ("names", V.ref na), ("room", V.int r)]
/-- the functions told earlier: by their names, how many letters and params -/
def FnsAt (K : PySem.W.Frag) (H : Hp) (fa : Addr) (fs : List (Str × Nat × Nat)) : Prop := ∃ kvs : List (Key × V), H fa = some (.dK kvs) ∧ kvs.map (·.1) = fs.map (fun q => (Sum.inr q.1 : Key)) ∧ (fs.map (·.1)).Nodup ∧
  ∀ (j : Nat) (k : Key) (v : V) (z : Str) (nl np : Nat), kvs[j]? = some (k, v) → fs[j]? = some (z, nl, np) → ∃ (d0 : PyData) (ls ps : List PyData) (d3 d4 : PyData), Dp K H v (.tuple [d0, .tuple ls, .tuple ps, d3, d4]) ∧ ls.length = nl ∧ ps.length = np
structure PlaceAt (K : PySem.W.Frag) (C : Addr) (H : Hp) (p : Addr) (E : Env0) (r : Int) : Prop where
  at_ : ∃ dx la fa na, H p = some (.ins C dx (placeF la fa na r)) ∧ SqT K H la (E.ls.map V.str) ∧ FnsAt K H fa E.fs ∧ SqT K H na (E.ns.map V.str)
theorem FnsAt.keep {K : PySem.W.Frag} {T : List Addr} {H H' : Hp} {fa : Addr} {fs : List (Str × Nat × Nat)} (h : FnsAt K H fa fs) (t : Tb T H) (f : Fr T H H') : FnsAt K H' fa fs := by
  obtain ⟨kvs, h1, h2, nd, h3⟩ := h
  refine ⟨kvs, f.old _ _ h1 fun z => ?_, h2, nd, fun j k v z nl np e1 e2 => ?_⟩
  · obtain ⟨ps, g, _⟩ := t fa z
    rw [h1] at g
    cases g
  · obtain ⟨d0, ls, ps, d3, d4, hd, r⟩ := h3 j k v z nl np e1 e2
    exact ⟨d0, ls, ps, d3, d4, (Fr.keep t f).dp hd, r⟩
theorem PlaceAt.keep {K : PySem.W.Frag} {T : List Addr} {C : Addr} {H H' : Hp} {p : Addr} {E : Env0} {r : Int} (h : PlaceAt K C H p E r) (t : Tb T H) (f : Fr T H H') : PlaceAt K C H' p E r := by
  obtain ⟨dx, la, fa, na, h1, h2, h3, h4⟩ := h.at_
  refine ⟨dx, la, fa, na, f.old _ _ h1 fun z => ?_, (Fr.keep t f).2 _ _ h2, h3.keep t f, (Fr.keep t f).2 _ _ h4⟩
  obtain ⟨ps, g, _⟩ := t p z
  rw [h1] at g
  cases g
/-- the promise of a def that refuses what stands in a place -/
def spAt (K : PySem.W.Frag) (T : List Addr) (C : Addr) (cls : Wr → Addr) (r : Int) (g : Env0 → PyData → Option Wr) : Sp := fun vs H Q Ex => ∃ (v : V) (d : PyData) (p : Addr) (E : Env0), vs = [v, .ref p] ∧ Dp K H v d ∧ okD d ∧ Tb T H ∧ PlaceAt K C H p E r ∧
  (g E d = none → ∀ H', Fr T H H' → Q .non H') ∧ (∀ b, g E d = some b → ∀ H', Fr T H H' → Ex (.ref (cls b)) none H')
/-- the classes -/
structure Ers (K : PySem.W.Frag) (mg : Str → Option Value) (cls : Wr → Addr) : Prop where
  bk : Ec K mg "BadKind" (cls .bk)
  bp : Ec K mg "BadProgram" (cls .bp)
  nn : Ec K mg "NoName" (cls .nn)
  tt : Ec K mg "TwiceTold" (cls .tt)
/-- the class Place -/
structure PlC (P : Program) (w : World) (K : PySem.W.Frag) (mg : Str → Option Value) (base : Heap) (C : Addr) : Prop where
  cl : Cls K C
  n1 : NoAttr K C "letters"
  n2 : NoAttr K C "functions"
  n3 : NoAttr K C "names"
  n4 : NoAttr K C "room"
  g : mg "Place" = some (.ref C)
  ini : ∃ f fd, FnOk P w K mg base CX0 1 f fd ["self", "letters", "functions", "names", "room"] (fun vs H Q _ => ∃ (p dx la fa na : Addr) (r : Int), vs = [.ref p, .ref la, .ref fa, .ref na, .int r] ∧ H p = some (.ins C dx []) ∧
      ∀ (H' : Hp), H' p = some (.ins C dx (placeF la fa na r)) → (∀ c o, H c = some o → c ≠ p → H' c = some o) → Q .non H') ∧ Mk K C f ∧ Binds K fd ["self", "letters", "functions", "names", "room"] []
end Sc
namespace Sc
open PySem PySem.Spec PyProof.Rows L2
/-! ### a generator over a text's signs whose element may read the module's names -/
/-- the module's names and the builtins, as the base has them -/
structure Grd (mg : Str → Option Value) (h : Heap) : Prop where
  own : h.Ns mainGlobals mg
  blt : ∃ mb, h.Ns builtinsNs mb ∧ ∀ x : Str, x ≠ "__name__" → mb x = bootBuiltins x
theorem Grd.but {mg : Str → Option Value} {h h' : Heap} {a : Addr} (G : Grd mg h) (k : ∀ b o, b ≠ a → h.get? b = some o → h'.get? b = some o) (n1 : mainGlobals ≠ a) (n2 : builtinsNs ≠ a) : Grd mg h' :=
  ⟨G.own.extBut (b := a) (fun b o hb e => k b o hb e) n1, let ⟨mb, u, q⟩ := G.blt; ⟨mb, u.extBut (b := a) (fun b o hb e => k b o hb e) n2, q⟩⟩
theorem ns_off {h : Heap} {a b : Addr} {m : Str → Option Value} {ps : Array Value} (n : h.Ns a m) (e : h.get? b = some { cls := .none, data := .fields ps }) : a ≠ b := by
  rintro rfl
  obtain ⟨u, es, ep, hu, hd, _⟩ := n
  rw [e] at hu
  cases hu
  cases hd
/-- the element: a test of the sign c, which may ask the module's names -/
def EltM (prog : Program) (w : World) (mg : Str → Option Value) (scope : Scope) (x : Str) (elt : Expr) (pb : Nat → Bool) : Prop :=
  ∀ (ce : Env) (Ar : Around) (Er : Value → Shared → Prop) (c : Nat) (t : Tok) (z : Shared) (m : Str → Option Value), (ce.scope = scope ∧ ce.globals = mainGlobals ∧ ce.builtins = builtinsNs) → Grd mg z.heap → (z.heap.Ns ce.locals m ∧ m x = some (.str ⟨#[c]⟩ t)) →
    wpAny (model prog w) Ar (eval elt ce) (fun y z' => y = .bool (pb c) ∧ Keeps z z') Er z
/-- ord(x) == G -/
theorem elt_ord {prog : Program} {w : World} {mg : Str → Option Value} {scope : Scope} {x g : Str} {n : Int} {tn : Tok} {p0 p1 p2 p3 p4 : Pos} (hk : scope.kind = .function) (hl : scope.names.lookup x = some .local) (ho : scope.names.lookup ("ord" : Str) = some .globalImplicit) (hg : scope.names.lookup g = some .globalImplicit)
    (mo : mg "ord" = none) (mn : mg g = some (.int n tn)) (hd : (x == ("__debug__" : Str)) = false := by decide) (hd2 : (g == ("__debug__" : Str)) = false := by decide) :
    EltM prog w mg scope x (.Compare (.Call (.Name "ord" p0) [.Name x p1] [] p2) [.Eq] [.Name g p3] p4) (fun c => ((c : Nat) : Int) == n) := by
  intro ce Ar Er c t z m ⟨hs, hgl, hbl⟩ G ⟨hn, hm⟩
  obtain ⟨mb, hb1, hb2⟩ := G.blt
  have kd : ce.scope.kind = .function := by rw [hs]; exact hk
  have he : starEach [.Name x p1] ce = (false, eval (.Name x p1) ce) :: starEach [] ce := rfl
  refine wpAny_Compare1 (wpAny_Call_Name_kw (Calls.Name_function_global kd (show ce.scope.names.lookup ("ord" : Str) = _ by rw [hs]; exact ho) (Calls.loadGlobal_builtin (by rw [hgl]; exact G.own) mo (by rw [hbl]; exact hb1) ((hb2 "ord" (by decide)).trans boot_ord) ?_)))
  refine PyProof.Rows.callWith_builtin1 ?_ he (by rfl)
  rw [he]
  show wpAny _ _ (spliced ((false, eval (.Name x p1) ce) :: backTo p2 (starEach [] ce))) _ _ z
  refine Calls.spliced_cons (wpAny_Name (wpAny_loadName_local kd (show ce.scope.names.lookup x = some .local by rw [hs]; exact hl) hn hm ?_) hd)
  refine Calls.spliced_nil (PySem.P.ord_of_char ?_)
  refine Calls.Name_function_global kd (show ce.scope.names.lookup g = _ by rw [hs]; exact hg) (Calls.loadGlobal_global (by rw [hgl]; exact G.own) mn ?_) hd2
  exact PySem.P.eq_int ⟨rfl, GxR.keeps_tok _ _⟩
section
variable {X : Cx} {pins : List (Addr × Obj)} {σ : L2.St} {H : Hp} {s : Shared}
theorem gen_code {M : Model} {A : Around} {E : Value → Shared → Prop} {env : Env} {c P : Addr} {ps : Array Value} {gpos : Pos} {q : Str} {scope : Scope} {Qc : Value → Shared → Prop} (hc : env.code = .ref c) (cd : s.heap.IsCode c P ps) (tb : s.heap.TableAt c P ps) (gP : s.heap.get? P = some { cls := .none, data := .fields ps }) (tri : TriplesOk ps.toList)
    (h : ∀ (cv : Value) (h3 : Heap) (tk : Nat) (more : Array Value), Heap.ExtBut P s.heap h3 → s.heap.objs.size ≤ h3.objs.size → h3.get? P = some { cls := .none, data := .fields (ps ++ more) } → TriplesOk (ps ++ more).toList → Qc cv { s with heap := h3, toks := tk }) :
    wpAny M A (genexprCode env gpos q scope) Qc E s := by
  cases hf : codeAmong gpos ps.toList with
  | some cv =>
    have e : ps ++ #[] = ps := by simp
    exact wpAny_genexprCode_hit hc cd hf (h cv s.heap s.toks #[] (Heap.ExtBut.refl _ _) (Nat.le_refl _) (by rw [e]; exact gP) (by rw [e]; exact tri))
  | none =>
    apply wpAny_genexprCodeX hc cd tb hf
    intro c' h3 tk hx hge hlt hco _ htab _
    obtain ⟨_, _, _, _, _, _, _, _, _, _, _, _, _, _, _, _, _, _, _, tr3, _⟩ := hco
    exact h _ h3 tk _ hx (Nat.le_trans hge (Nat.le_of_lt hlt)) htab.2 tr3
theorem gen_strM {c P : Addr} {elt iter : Expr} {x : Str} {px gpos : Pos} {scope : Scope} {pb : Nat → Bool} {te : TE} {k : Nat} {Q' : Value → Shared → Prop} {R : Str → Hp → Prop}
    (hr : Room k X.A) (TB : GxR.TabB X.base X.mg c P) (hcode : X.env.code = .ref c) (S : GxR.GenS X.env scope x) (hi : PE X iter te) (hel : EltM X.prog X.w X.mg scope x elt pb)
    (hs : ∀ v, genFold iter X.env v = pure v) (I : Inv X pins σ H s) (h : te σ H fun v H1 => ∃ a : Str, v = .str a ∧ GxR.TabG H1 P ∧ R a H1)
    (hQ : ∀ a H1 g s5, R a H1 → GxR.Ready X pins σ H1 P a pb g s5 → Q' (.ref g) s5) :
    wpAny (model X.prog X.w) X.A (eval (.GeneratorExp elt [⟨.Name x px, iter, [], 0⟩] scope gpos) X.env) Q' X.xe s := by
  apply wpAny_GeneratorExp_walksQ hr.hd S.co (closure_ok S.free) S.cell S.dot S.loc S.kind (Nat.lt_of_lt_of_le (Nat.lt_succ_self _) (by have := hr.dp; omega)) (hs := hs)
  apply thn (hi.run pins s σ H _ I h)
  rintro xv z ⟨v, H1, J, rv, a, rfl, ⟨ps, hP, tri⟩, hR⟩
  obtain ⟨u, rfl⟩ := (show ∃ u, xv = Value.str a u from rv)
  apply wpAny_pyIter_str
  intro it St W at0
  have gP : z.heap.get? P = some { cls := .none, data := .fields ps } := J.hok P _ hP
  have Plt := Heap.lt_size gP
  have base' : ∀ b o, X.base.get? b = some o → z.heap.get? b = some o := fun b o e => J.bk b o e
  have G0 : Grd X.mg z.heap := ⟨J.mod.glob.keeps base', let ⟨mb, q1, q2⟩ := J.mod.blt; ⟨mb, q1.keeps base', q2⟩⟩
  have nPb : builtinsNs ≠ P := let ⟨mb, q1, _⟩ := G0.blt; ns_off q1 gP
  have nPs : cStatics ≠ P := let ⟨mc, q1, _⟩ := J.nolimit; ns_off q1 gP
  have gltS : cStatics < z.heap.objs.size := let ⟨mc, q1, _⟩ := J.nolimit; q1.lt
  have gltG : mainGlobals < z.heap.objs.size := G0.own.lt
  have gltB : builtinsNs < z.heap.objs.size := let ⟨mb, q1, _⟩ := G0.blt; q1.lt
  have up : ∀ b o, z.heap.get? b = some o → (z.heap.push it).get? b = some o := fun b o e => Heap.get?_push_of_some _ e
  have codeP : PySem.W.CodeHd (z.heap.push it) c P := TB.code.keeps fun b o e => up b o (base' b o e)
  refine ⟨J.nolimit.push it, ?_⟩
  have gP' := up P _ gP
  refine gen_code hcode (codeP.code gP' tri) (codeP.tab gP') (show (z.heap.push it).get? P = _ from gP') tri fun cv h3 tk more hx hsz0 hP3 tr3 => ?_
  have hsz : z.heap.objs.size + 1 ≤ h3.objs.size := by
    have e := Heap.size_push z.heap it
    rw [← e]
    exact hsz0
  have k3 : ∀ b o, b ≠ P → z.heap.get? b = some o → h3.get? b = some o := fun b o hb e => hx b o hb (up b o e)
  have G3 : Grd X.mg h3 := G0.but k3 TB.gP nPb
  obtain ⟨bm, ob, e1, e2, e3, e4, e5, e6, e7, e8⟩ := TB.bm
  apply wpAny_builtinsFor (m := X.mg) (by rw [J.ok.glob]; exact G3.own) e1 e2 (k3 _ _ e4 (base' _ _ e5)) e6 e7 e8
  have inFp : ∀ b ∈ [z.heap.objs.size], b < h3.objs.size := fun b hb => by rw [List.mem_singleton.mp hb]; exact hsz
  refine ⟨z.heap.objs.size, [z.heap.objs.size], [z.heap.objs.size], a.cps.size, SignAt a, St, (fun _ => true), (fun i y => ∃ cc, a.cps[i]? = some cc ∧ y = .bool (pb cc)), rfl, W, ?_, inFp, (J.nolimit.push it).extBut hx nPs, ?_, ?_, ?_⟩
  · exact (W X.A hr.hd).frame _ _ _ at0 fun b hb o e => hx b o (fun q => absurd Plt (by rw [← q, List.mem_singleton.mp hb]; exact Nat.lt_irrefl _)) e
  · exact fun q => absurd gltS (by rw [List.mem_singleton.mp q]; exact Nat.lt_irrefl _)
  · intro href hh
    constructor
    · intro _ _ _ _ _ _ _ _ _ _ _
      simp only [List.forIn_nil]
      exact wpAny_pure ⟨rfl, GxR.keeps_refl _⟩
    · intro Ar Er i v z2 m2 _ hPv _ hn hm hk
      obtain ⟨cc, u, hcc, rfl⟩ := hPv
      have G2 : Grd X.mg z2.heap := G3.but (a := z.heap.objs.size) (fun b o hb e => hk b (List.mem_range.mpr (Heap.lt_size e)) (fun q => hb (List.mem_singleton.mp q)) o (hh b o e)) (Nat.ne_of_lt gltG) (Nat.ne_of_lt gltB)
      exact wpAny_mono (hel _ Ar Er cc u z2 m2 ⟨rfl, J.ok.glob, rfl⟩ G2 ⟨hn, hm⟩) (fun y z3 q => ⟨⟨cc, hcc, q.1⟩, q.2⟩) fun _ _ e => e
  · intro g h5 tk5 gs hgb hag hsz5 hk5 W5 hat
    simp only [GxR.passing_true, List.length_range] at W5
    refine hQ a H1 g _ hR ⟨_, _, _, _, _, W5.in4_1, hat, ?_, ?_⟩
    · rintro j y sj Qj Ej ⟨i, hij, cc, hcc, rfl⟩ hQj
      obtain ⟨hj, ej⟩ := List.getElem?_eq_some_iff.mp hij
      rw [List.getElem_range] at ej
      subst ej
      have tr0 : GxR.trF pb a.cps.toList j = pb cc := GxR.trF_some (by rw [Array.getElem?_toList]; exact hcc)
      exact wpAny_truthy_bool (by rw [← tr0]; exact hQj)
    · intro z' mv
      have off : ∀ b o, z.heap.get? b = some o → b ∉ h3.objs.size :: [z.heap.objs.size] := fun b o e q => by
        have lt := Heap.lt_size e
        rcases List.mem_cons.mp q with q | q
        · rw [q] at lt
          exact absurd (Nat.lt_of_lt_of_le lt (Nat.le_of_succ_le hsz)) (Nat.lt_irrefl _)
        · rw [List.mem_singleton.mp q] at lt
          exact Nat.lt_irrefl _ lt
      have J2 := GxR.inv_tab (more := more) (h' := z'.heap) (g' := z'.gens) (d' := z'.drawn) (t' := z'.toks) J hP (fun b o hb e => mv.heap b o (off b o e) (hk5 b o (k3 b o hb e))) (mv.heap P _ (off P _ gP) (hk5 P _ hP3)) (AllBare.movedS (J.bare.push hgb) mv)
      rw [GxR.sh_eta z z' mv.os] at J2
      exact ⟨_, ⟨⟨_, upd_same, tr3⟩, fun b hb => upd_ne hb⟩, J2⟩
/-- any(ord(x) == G for x in e) and its like -/
theorem pe_anyM {c P : Addr} {elt iter : Expr} {x : Str} {px p pos gpos : Pos} {scope : Scope} {pb : Nat → Bool} {te : TE} {k : Nat}
    (hr : Room k X.A) (hg : Gl X "any") (hm : X.mg "any" = none) (TB : GxR.TabB X.base X.mg c P) (hcode : X.env.code = .ref c) (S : GxR.GenS X.env scope x) (hi : PE X iter te) (hel : EltM X.prog X.w X.mg scope x elt pb)
    (hs : ∀ v, genFold iter X.env v = pure v)
    (he : starEach [.GeneratorExp elt [⟨.Name x px, iter, [], 0⟩] scope gpos] X.env = (false, eval (.GeneratorExp elt [⟨.Name x px, iter, [], 0⟩] scope gpos) X.env) :: starEach [] X.env := by rfl) :
    PE X (.Call (.Name "any" p) [.GeneratorExp elt [⟨.Name x px, iter, [], 0⟩] scope gpos] [] pos) (GxR.tAnyS P pb te) := by
  constructor
  intro pins s σ H Q I h
  refine wpAny_Call_Name_kw (ld_blt I hg hm boot_any (PyProof.Rows.callWith_builtin1 ?_ he (by rfl)))
  rw [he]
  show wpAny _ _ (spliced ((false, eval (.GeneratorExp elt [⟨.Name x px, iter, [], 0⟩] scope gpos) X.env) :: backTo pos (starEach [] X.env))) _ _ s
  apply Calls.spliced_cons
  refine gen_strM (R := fun a H1 => ∀ H2, GxR.Tabbed P H1 H2 → Q (.bl (a.cps.toList.any pb)) H2) hr TB hcode S hi hel hs I h ?_
  rintro a H1 g s5 hR ⟨fp, wr, G, F, St, W, hst, htr, hI⟩
  refine Calls.spliced_nil (call_any_walkS (W.self 0 _ _ _ hst ⟨g, fp, wr, G, _, F, St, _, rfl, W, hst, htr, ?_⟩))
  intro s' hmv
  obtain ⟨H2, hT, J⟩ := hI s' hmv
  refine ⟨.bl _, H2, J, rfl, ?_⟩
  rw [GxR.any_signs a pb]
  exact hR H2 hT
end
end Sc
namespace Sc
open PySem PySem.Spec PyProof.Rows L2
/-! ### kinds that stand in programs: no cuts, letters of ls, to n deep -/
inductive Wc (ls : List Str) : Nat → Ch → Prop
  | num (n : Nat) : Wc ls n .num
  | txt (n : Nat) : Wc ls n .txt
  | letter (n : Nat) {l : Str} : l ∈ ls → Wc ls n (.letter l)
  | row {n : Nat} {k : List Ch} : k ≠ [] → k.length ≤ 9 → (∀ c ∈ k, Wc ls n c) → Wc ls (n + 1) (.row k)
  | book {n : Nat} {k : List Ch} : k ≠ [] → k.length ≤ 9 → (∀ c ∈ k, Wc ls n c) → Wc ls (n + 1) (.book k)
  | shape {n : Nat} {fs : List (Str × List Ch)} : fs.length ≤ 2 → Fld (fs.map (·.1)) → (∀ q ∈ fs, q.2 ≠ []) → (∀ q ∈ fs, q.2.length ≤ 9) → (∀ q ∈ fs, ∀ c ∈ q.2, Wc ls n c) → Wc ls (n + 1) (.shape fs)
structure Wk (ls : List Str) (n : Nat) (k : List Ch) : Prop where
  ne : k ≠ []
  few : k.length ≤ 9
  all : ∀ c ∈ k, Wc ls n c
theorem Wc.mono {ls : List Str} {n : Nat} {c : Ch} (h : Wc ls n c) : ∀ {m : Nat}, n ≤ m → Wc ls m c := by
  induction h with
  | num n => exact fun _ => .num _
  | txt n => exact fun _ => .txt _
  | letter n h => exact fun _ => .letter _ h
  | row a b _ ih =>
    intro m hm
    obtain ⟨m', rfl⟩ : ∃ m', m = m' + 1 := ⟨m - 1, by omega⟩
    exact .row a b fun c hc => ih c hc (by omega)
  | book a b _ ih =>
    intro m hm
    obtain ⟨m', rfl⟩ : ∃ m', m = m' + 1 := ⟨m - 1, by omega⟩
    exact .book a b fun c hc => ih c hc (by omega)
  | shape a b c d _ ih =>
    intro m hm
    obtain ⟨m', rfl⟩ : ∃ m', m = m' + 1 := ⟨m - 1, by omega⟩
    exact .shape a b c d fun q hq x hx => ih q hq x hx (by omega)
theorem Wc.sub {ls ls' : List Str} (s : ∀ l ∈ ls, l ∈ ls') {n : Nat} {c : Ch} (h : Wc ls n c) : Wc ls' n c := by
  induction h with
  | num n => exact .num _
  | txt n => exact .txt _
  | letter n h => exact .letter _ (s _ h)
  | row a b _ ih => exact .row a b ih
  | book a b _ ih => exact .book a b ih
  | shape a b c d _ ih => exact .shape a b c d ih
theorem Wk.mono {ls : List Str} {n m : Nat} {k : List Ch} (h : Wk ls n k) (hm : n ≤ m) : Wk ls m k := ⟨h.ne, h.few, fun c hc => (h.all c hc).mono hm⟩
theorem Wk.sub {ls ls' : List Str} (s : ∀ l ∈ ls, l ∈ ls') {n : Nat} {k : List Ch} (h : Wk ls n k) : Wk ls' n k := ⟨h.ne, h.few, fun c hc => (h.all c hc).sub s⟩
theorem Wc.of_ok {ls : List Str} : ∀ {n : Nat} {c : Ch}, okC ls n c → Wc ls n c := by
  intro n
  induction n with
  | zero =>
    intro c h
    cases c with
    | num => exact .num _
    | txt => exact .txt _
    | row k => exact absurd h.1 (Nat.lt_irrefl _)
    | book k => exact absurd h.1 (Nat.lt_irrefl _)
    | shape fs => exact absurd h.1 (Nat.lt_irrefl _)
    | letter l => exact .letter _ (by unfold okC at h; exact h)
    | cut _ _ => unfold okC at h; exact h.elim
    | any _ => unfold okC at h; exact h.elim
    | wth _ => unfold okC at h; exact h.elim
  | succ n ih =>
    intro c h
    cases c with
    | num => exact .num _
    | txt => exact .txt _
    | row k => exact .row h.2.1 (by have := h.2.2.1; omega) fun c hc => ih (okL_mem' h.2.2.2 hc)
    | book k => exact .book h.2.1 (by have := h.2.2.1; omega) fun c hc => ih (okL_mem' h.2.2.2 hc)
    | shape fs =>
      obtain ⟨_, f2, fl, okf⟩ := h
      exact .shape f2 fl (fun q hq => (okF_mem' okf hq).2.1) (fun q hq => by have := (okF_mem' okf hq).2.2.1; omega) fun q hq c hc => ih (okL_mem' (okF_mem' okf hq).2.2.2 hc)
    | letter l => exact .letter _ (by unfold okC at h; exact h)
    | cut _ _ => unfold okC at h; exact h.elim
    | any _ => unfold okC at h; exact h.elim
    | wth _ => unfold okC at h; exact h.elim
theorem Wk.of_ok {ls : List Str} {n : Nat} {k : List Ch} (k0 : k ≠ []) (k3 : k.length ≤ 3) (h : okL ls n k) : Wk ls n k := ⟨k0, by omega, fun _ hc => .of_ok (okL_mem' h hc)⟩
theorem Wc.head {ls : List Str} {n : Nat} {c : Ch} (h : Wc ls n c) : hdOk c ∨ ∃ l, c = .letter l ∧ l ∈ ls := by
  cases h with
  | num => exact .inl trivial
  | txt => exact .inl trivial
  | letter _ h => exact .inr ⟨_, rfl, h⟩
  | row => exact .inl trivial
  | book => exact .inl trivial
  | shape _ fl => exact .inl fl
theorem gK_of {ls : List Str} {n : Nat} {k : List Ch} (k0 : k ≠ []) (h : ∀ c ∈ k, gCh ls (gK ls n) (pyC c) = true) : gK ls (n + 1) (.tuple (pyL k)) = true := by
  show (!(pyL k).isEmpty && (pyL k).all (gCh ls (gK ls n))) = true
  rw [pyL_map, Bool.and_eq_true]
  refine ⟨by cases k with | nil => exact absurd rfl k0 | cons _ _ => rfl, ?_⟩
  rw [List.all_map, List.all_eq_true]
  exact h
theorem Wc.good {ls : List Str} (hl : ∀ l ∈ ls, Lett l) {n : Nat} {c : Ch} (h : Wc ls n c) : ∀ {m : Nat}, n ≤ m → gCh ls (gK ls m) (pyC c) = true := by
  induction h with
  | num n => intro m _; rw [pyC]; rfl
  | txt n => intro m _; rw [pyC]; rfl
  | letter n h =>
    intro m _
    rw [pyC, gCh_two', if_neg (by decide +kernel), if_neg (by decide +kernel), if_pos rfl]
    show (isLettD (.str _) && decide (_ ∈ ls)) = true
    rw [decide_eq_true h, Bool.and_true]
    exact decide_eq_true (hl _ h)
  | row a b _ ih =>
    intro m hm
    obtain ⟨m', rfl⟩ : ∃ m', m = m' + 1 := ⟨m - 1, by omega⟩
    rw [pyC, gCh_two', if_pos (.inl rfl)]
    exact gK_of a fun c hc => ih c hc (by omega)
  | book a b _ ih =>
    intro m hm
    obtain ⟨m', rfl⟩ : ∃ m', m = m' + 1 := ⟨m - 1, by omega⟩
    rw [pyC, gCh_two', if_pos (.inr rfl)]
    exact gK_of a fun c hc => ih c hc (by omega)
  | @shape n fs f2 fl k0 k9 _ ih =>
    intro m hm
    obtain ⟨m', rfl⟩ : ∃ m', m = m' + 1 := ⟨m - 1, by omega⟩
    rw [pyC, gCh_two', if_neg (by decide +kernel), if_pos rfl]
    show (fldD (.tuple (pyF fs)) && (pyF fs).all (gPr (gK ls (m' + 1)))) = true
    rw [Bool.and_eq_true]
    obtain ⟨f0, f26, fnd, fso, fw⟩ := fl
    constructor
    · show (!(pyF fs).isEmpty && (pyF fs).all pairD && ascB ((pyF fs).map nameD)) = true
      rw [pyF_map, Bool.and_eq_true, Bool.and_eq_true]
      refine ⟨⟨by cases fs with | nil => exact absurd rfl f0 | cons _ _ => rfl, ?_⟩, ?_⟩
      · rw [List.all_map, List.all_eq_true]
        intro p _
        rfl
      · rw [List.map_map]
        show ascB (fs.map (·.1)) = true
        unfold ascB
        rw [fso, decide_eq_true fnd]
        rfl
    · rw [pyF_map, List.all_map, List.all_eq_true]
      intro p hp
      show (isWordD (.str p.1) && gK ls (m' + 1) (.tuple (pyL p.2))) = true
      rw [gK_of (k0 p hp) fun c hc => ih p hp c hc (by omega), Bool.and_true]
      exact decide_eq_true (fw p.1 (List.mem_map_of_mem hp))
theorem Wk.good {ls : List Str} (hl : ∀ l ∈ ls, Lett l) {n m : Nat} {k : List Ch} (h : Wk ls n k) (hm : n < m) : gK ls m (.tuple (pyL k)) = true := by
  obtain ⟨m', rfl⟩ : ∃ m', m = m' + 1 := ⟨m - 1, by omega⟩
  exact gK_of h.ne fun c hc => (h.all c hc).good hl (by omega)
theorem okN_L {n : Nat} {k : List Ch} (k9 : k.length ≤ 60) (h : ∀ c ∈ k, OkN n (pyC c)) : OkN (n + 1) (.tuple (pyL k)) := okN_tup (by rw [pyL_map, List.length_map]; exact k9) fun d m => by
  rw [pyL_map] at m
  obtain ⟨c, hc, rfl⟩ := List.mem_map.mp m
  exact h c hc
theorem Wc.okN {ls : List Str} (hl : ∀ l ∈ ls, Lett l) {n : Nat} {c : Ch} (h : Wc ls n c) : OkN (4 * n + 1) (pyC c) := by
  induction h with
  | num n => exact okN_num _
  | txt n => exact okN_txt _
  | letter n h => rw [pyC]; exact okN_two (n := 4 * n) (okN_w (by decide +kernel)) ((okN_lett (hl _ h)).mono (by omega))
  | @row n k a b _ ih => rw [pyC]; exact okN_two (n := 4 * n + 4) (okN_w (by decide +kernel)) ((okN_L (by omega) ih).mono (by omega))
  | @book n k a b _ ih => rw [pyC]; exact okN_two (n := 4 * n + 4) (okN_w (by decide +kernel)) ((okN_L (by omega) ih).mono (by omega))
  | @shape n fs f2 fl k0 k9 _ ih =>
    rw [pyC]
    refine okN_two (n := 4 * n + 4) (okN_w (by decide +kernel)) (okN_tup (n := 4 * n + 3) (by rw [pyF_map, List.length_map]; omega) fun x hx => ?_)
    rw [pyF_map] at hx
    obtain ⟨p, hp, rfl⟩ := List.mem_map.mp hx
    exact okN_two (n := 4 * n + 2) ((okN_word (fl.2.2.2.2 p.1 (List.mem_map_of_mem hp))).mono (by omega)) (okN_L (by have := k9 p hp; omega) (ih p hp))
theorem Wk.okN {ls : List Str} (hl : ∀ l ∈ ls, Lett l) {n : Nat} {k : List Ch} (h : Wk ls n k) : OkN (4 * n + 2) (.tuple (pyL k)) := okN_L (by have := h.few; omega) fun c hc => (h.all c hc).okN hl
/-! ### kinds of names: cuts too -/
def isLt (l : Str) (c : Ch) : Prop := c = .letter l ∨ ∃ hs, c = .cut l hs
def NmC (ls : List Str) (c : Ch) : Prop := OkN 40 (pyC c) ∧ (hdOk c ∨ ∃ l ∈ ls, c = .letter l ∨ ∃ hs, c = .cut l hs ∧ hs.length ≤ 3 ∧ ∀ h ∈ hs, GHd h)
def NmK (ls : List Str) (k : List Ch) : Prop := k.length ≤ 9 ∧ ∀ c ∈ k, NmC ls c
theorem Wk.nm {ls : List Str} (hl : ∀ l ∈ ls, Lett l) {n : Nat} {k : List Ch} (h : Wk ls n k) (hn : n ≤ 9) : NmK ls k := ⟨h.few, fun c hc => ⟨((h.all c hc).okN hl).mono (by omega), (h.all c hc).head.imp id fun ⟨l, e, m⟩ => ⟨l, m, .inl e⟩⟩⟩
/-! ### parts -/
inductive Pt where
  | num (n : Int) | text (t : Str) | name (x : Str)
  | row (ps : List Pt) | empt (w : Str) (k : List Ch)
  | shape (fs : List (Str × Pt)) | get (e : Pt) (f : Str)
  | op (w : Str) (ps : List Pt)
  | bind (w x : Str) (e f : Pt)
  | fold (x : Str) (e : Pt) (y : Str) (k : List Ch) (f g : Pt)
  | ask (w x a : Str) (e f : Pt)
  | call (f : Str) (ks : List (List Ch)) (ps : List Pt)
mutual
def pyP : Pt → PyData
  | .num n => .tuple [.str "num", .int n]
  | .text t => .tuple [.str "text", .str t]
  | .name x => .tuple [.str "name", .str x]
  | .row ps => .tuple [.str "row", .tuple (pyPs ps)]
  | .empt w k => .tuple [.str w, .tuple (pyL k)]
  | .shape fs => .tuple [.str "shape", .tuple (pyPF fs)]
  | .get e f => .tuple [.str "get", pyP e, .str f]
  | .op w ps => .tuple (.str w :: pyPs ps)
  | .bind w x e f => .tuple [.str w, .str x, pyP e, pyP f]
  | .fold x e y k f g => .tuple [.str "fold", .str x, pyP e, .str y, .tuple (pyL k), pyP f, pyP g]
  | .ask w x a e f => .tuple [.str w, .str x, .str a, pyP e, pyP f]
  | .call f ks ps => .tuple [.str "call", .str f, .tuple (ks.map fun k => .tuple (pyL k)), .tuple (pyPs ps)]
def pyPs : List Pt → List PyData
  | [] => []
  | p :: r => pyP p :: pyPs r
def pyPF : List (Str × Pt) → List PyData
  | [] => []
  | (f, p) :: r => .tuple [.str f, pyP p] :: pyPF r
end
theorem pyPs_map : ∀ ps : List Pt, pyPs ps = ps.map pyP
  | [] => by rw [pyPs]; rfl
  | p :: r => by rw [pyPs, pyPs_map r]; rfl
theorem pyPF_map : ∀ fs : List (Str × Pt), pyPF fs = fs.map fun q => .tuple [.str q.1, pyP q.2]
  | [] => by rw [pyPF]; rfl
  | (f, p) :: r => by rw [pyPF, pyPF_map r]; rfl
def opTab : List (Str × Nat) := [("plus", 2), ("minus", 2), ("join", 2), ("size", 1), ("push", 2), ("at", 3), ("put", 3), ("look", 3), ("if", 4)]
/-- a part that may stand there: letters ls, functions fs, n deep, the names N -/
inductive Gp (ls : List Str) (fs : List (Str × Nat × Nat)) : Nat → (Str → Prop) → Pt → Prop
  | num {m : Nat} {N : Str → Prop} {n : Int} : n.natAbs < 10 ^ 30 → Gp ls fs (m + 1) N (.num n)
  | text {m : Nat} {N : Str → Prop} {t : Str} : Tex t → Gp ls fs (m + 1) N (.text t)
  | name {m : Nat} {N : Str → Prop} {x : Str} : N x → Word x → Gp ls fs (m + 1) N (.name x)
  | row {m : Nat} {N : Str → Prop} {ps : List Pt} : ps ≠ [] → ps.length ≤ 9 → (∀ p ∈ ps, Gp ls fs m N p) → Gp ls fs (m + 1) N (.row ps)
  | empt {m : Nat} {N : Str → Prop} {w : Str} {k : List Ch} : w = "norow" ∨ w = "nobook" → Wk ls 4 k → Gp ls fs (m + 1) N (.empt w k)
  | shape {m : Nat} {N : Str → Prop} {qs : List (Str × Pt)} : qs.length ≤ 2 → Fld (qs.map (·.1)) → (∀ q ∈ qs, Gp ls fs m N q.2) → Gp ls fs (m + 1) N (.shape qs)
  | get {m : Nat} {N : Str → Prop} {e : Pt} {f : Str} : Gp ls fs m N e → Word f → Gp ls fs (m + 1) N (.get e f)
  | op {m : Nat} {N : Str → Prop} {w : Str} {ps : List Pt} : (w, ps.length) ∈ opTab → (∀ p ∈ ps, Gp ls fs m N p) → Gp ls fs (m + 1) N (.op w ps)
  | bind {m : Nat} {N : Str → Prop} {w x : Str} {e f : Pt} : w = "let" ∨ w = "each" → Word x → Gp ls fs m N e → Gp ls fs m (fun z => z = x ∨ N z) f → Gp ls fs (m + 1) N (.bind w x e f)
  | fold {m : Nat} {N : Str → Prop} {x y : Str} {e f g : Pt} {k : List Ch} : Word x → Word y → x ≠ y → Wk ls 4 k → Gp ls fs m N e → Gp ls fs m N f → Gp ls fs m (fun z => z = x ∨ z = y ∨ N z) g → Gp ls fs (m + 1) N (.fold x e y k f g)
  | ask {m : Nat} {N : Str → Prop} {w x a : Str} {e f : Pt} : w = "is" ∧ a ∈ (["number", "text", "row", "book", "shape"] : List Str) ∨ w = "has" ∧ Word a → N x → Word x → Gp ls fs m N e → Gp ls fs m N f → Gp ls fs (m + 1) N (.ask w x a e f)
  | call {m : Nat} {N : Str → Prop} {f : Str} {ks : List (List Ch)} {ps : List Pt} : Word f → fs.lookup f = some (ks.length, ps.length) → ks.length ≤ 9 → ps.length ≤ 9 → (∀ k ∈ ks, Wk ls 4 k) → (∀ p ∈ ps, Gp ls fs m N p) → Gp ls fs (m + 1) N (.call f ks ps)
theorem Gp.mono {ls : List Str} {fs : List (Str × Nat × Nat)} {n : Nat} {N : Str → Prop} {p : Pt} (h : Gp ls fs n N p) : ∀ {m : Nat} {M : Str → Prop}, n ≤ m → (∀ z, N z → M z) → Gp ls fs m M p := by
  induction h with
  | num a => intro m M hm s; obtain ⟨m', rfl⟩ : ∃ m', m = m' + 1 := ⟨m - 1, by omega⟩; exact .num a
  | text a => intro m M hm s; obtain ⟨m', rfl⟩ : ∃ m', m = m' + 1 := ⟨m - 1, by omega⟩; exact .text a
  | name a b => intro m M hm s; obtain ⟨m', rfl⟩ : ∃ m', m = m' + 1 := ⟨m - 1, by omega⟩; exact .name (s _ a) b
  | row a b _ ih => intro m M hm s; obtain ⟨m', rfl⟩ : ∃ m', m = m' + 1 := ⟨m - 1, by omega⟩; exact .row a b fun p hp => ih p hp (by omega) s
  | empt a b => intro m M hm s; obtain ⟨m', rfl⟩ : ∃ m', m = m' + 1 := ⟨m - 1, by omega⟩; exact .empt a b
  | shape a b _ ih => intro m M hm s; obtain ⟨m', rfl⟩ : ∃ m', m = m' + 1 := ⟨m - 1, by omega⟩; exact .shape a b fun p hp => ih p hp (by omega) s
  | get _ b ih => intro m M hm s; obtain ⟨m', rfl⟩ : ∃ m', m = m' + 1 := ⟨m - 1, by omega⟩; exact .get (ih (by omega) s) b
  | op a _ ih => intro m M hm s; obtain ⟨m', rfl⟩ : ∃ m', m = m' + 1 := ⟨m - 1, by omega⟩; exact .op a fun p hp => ih p hp (by omega) s
  | bind a b _ _ i1 i2 => intro m M hm s; obtain ⟨m', rfl⟩ : ∃ m', m = m' + 1 := ⟨m - 1, by omega⟩; exact .bind a b (i1 (by omega) s) (i2 (by omega) fun z h => h.imp id (s z))
  | fold a b c d _ _ _ i1 i2 i3 => intro m M hm s; obtain ⟨m', rfl⟩ : ∃ m', m = m' + 1 := ⟨m - 1, by omega⟩; exact .fold a b c d (i1 (by omega) s) (i2 (by omega) s) (i3 (by omega) fun z h => h.imp id fun h => h.imp id (s z))
  | ask a b c _ _ i1 i2 => intro m M hm s; obtain ⟨m', rfl⟩ : ∃ m', m = m' + 1 := ⟨m - 1, by omega⟩; exact .ask a (s _ b) c (i1 (by omega) s) (i2 (by omega) s)
  | call a b c d e _ ih => intro m M hm s; obtain ⟨m', rfl⟩ : ∃ m', m = m' + 1 := ⟨m - 1, by omega⟩; exact .call a b c d e fun p hp => ih p hp (by omega) s
theorem okN_tex {t : Str} (h : Tex t) : OkN 0 (.str t) := by
  refine ⟨?_, ?_, by simp [PyData.depth]⟩
  · show t.cps.all (· < 0x110000) = true
    rw [← Array.all_toList, List.all_eq_true]
    intro c hc
    have := h.2 c hc
    exact decide_eq_true (by omega)
  · show decide (t.length ≤ 1000) = true
    rw [len_list]
    have := h.1
    exact decide_eq_true (by omega)
theorem okN_list {n : Nat} {ds : List PyData} (hl : ds.length ≤ 60) (h : ∀ d ∈ ds, OkN n d) : OkN (n + 1) (.tuple ds) := okN_tup hl h
theorem okN_int {n : Nat} (k : Int) : OkN n (.int k) := ⟨rfl, rfl, by simp [PyData.depth]⟩
theorem Gp.okN {ls : List Str} (hl : ∀ l ∈ ls, Lett l) {fs : List (Str × Nat × Nat)} {n : Nat} {N : Str → Prop} {p : Pt} (h : Gp ls fs n N p) : OkN (3 * n + 22) (pyP p) := by
  have five : ∀ {m : Nat} {ds : List PyData}, ds.length ≤ 60 → (∀ d ∈ ds, OkN (3 * m + 24) d) → OkN (3 * (m + 1) + 22) (.tuple ds) := fun hl h => okN_tup hl h
  induction h with
  | num a =>
    rw [pyP]
    exact five (by show 2 ≤ 60; decide) fun d hd => by
      rcases List.mem_cons.mp hd with e | e
      · rw [e]; exact okN_w (by decide +kernel)
      · rw [List.mem_singleton.mp e]; exact okN_int _
  | text a =>
    rw [pyP]
    exact five (by show 2 ≤ 60; decide) fun d hd => by
      rcases List.mem_cons.mp hd with e | e
      · rw [e]; exact okN_w (by decide +kernel)
      · rw [List.mem_singleton.mp e]; exact (okN_tex a).mono (Nat.zero_le _)
  | name a b =>
    rw [pyP]
    exact five (by show 2 ≤ 60; decide) fun d hd => by
      rcases List.mem_cons.mp hd with e | e
      · rw [e]; exact okN_w (by decide +kernel)
      · rw [List.mem_singleton.mp e]; exact (okN_word b).mono (Nat.zero_le _)
  | @row m N ps a b _ ih =>
    rw [pyP]
    exact five (by show 2 ≤ 60; decide) fun d hd => by
      rcases List.mem_cons.mp hd with e | e
      · rw [e]; exact okN_w (by decide +kernel)
      · rw [List.mem_singleton.mp e]
        refine (okN_tup (n := 3 * m + 22) (by rw [pyPs_map, List.length_map]; omega) fun d hd => ?_).mono (by omega)
        rw [pyPs_map] at hd
        obtain ⟨p, hp, rfl⟩ := List.mem_map.mp hd
        exact ih p hp
  | @empt m N w k a b =>
    rw [pyP]
    exact five (by show 2 ≤ 60; decide) fun d hd => by
      rcases List.mem_cons.mp hd with e | e
      · rw [e]; rcases a with a | a <;> rw [a] <;> exact okN_w (by decide +kernel)
      · rw [List.mem_singleton.mp e]; exact (b.okN hl).mono (by omega)
  | @shape m N qs a b _ ih =>
    rw [pyP]
    exact five (by show 2 ≤ 60; decide) fun d hd => by
      rcases List.mem_cons.mp hd with e | e
      · rw [e]; exact okN_w (by decide +kernel)
      · rw [List.mem_singleton.mp e]
        refine (okN_tup (n := 3 * m + 23) (by rw [pyPF_map, List.length_map]; omega) fun d hd => ?_)
        rw [pyPF_map] at hd
        obtain ⟨q, hq, rfl⟩ := List.mem_map.mp hd
        exact okN_two (n := 3 * m + 22) ((okN_word (b.2.2.2.2 q.1 (List.mem_map_of_mem hq))).mono (Nat.zero_le _)) (ih q hq)
  | get _ b ih =>
    rw [pyP]
    exact five (by show 3 ≤ 60; decide) fun d hd => by
      simp only [List.mem_cons, List.not_mem_nil, or_false] at hd
      rcases hd with e | e | e <;> rw [e]
      · exact okN_w (by decide +kernel)
      · exact ih.mono (by omega)
      · exact (okN_word b).mono (Nat.zero_le _)
  | @op m N w ps a _ ih =>
    have hw : OkN 0 (.str w) ∧ ps.length ≤ 9 := by
      have q : ∀ q ∈ opTab, (PyData.canLay0 (.str q.1) && sm (.str q.1)) = true ∧ q.2 ≤ 9 := by decide +kernel
      exact ⟨okN_w (q _ a).1, (q _ a).2⟩
    rw [pyP]
    exact five (by rw [List.length_cons, pyPs_map, List.length_map]; omega) fun d hd => by
      rcases List.mem_cons.mp hd with e | e
      · rw [e]; exact hw.1.mono (Nat.zero_le _)
      · rw [pyPs_map] at e
        obtain ⟨p, hp, rfl⟩ := List.mem_map.mp e
        exact (ih p hp).mono (by omega)
  | bind a b _ _ i1 i2 =>
    rw [pyP]
    exact five (by show 4 ≤ 60; decide) fun d hd => by
      simp only [List.mem_cons, List.not_mem_nil, or_false] at hd
      rcases hd with e | e | e | e <;> rw [e]
      · rcases a with a | a <;> rw [a] <;> exact okN_w (by decide +kernel)
      · exact (okN_word b).mono (Nat.zero_le _)
      · exact i1.mono (by omega)
      · exact i2.mono (by omega)
  | fold a b c d _ _ _ i1 i2 i3 =>
    rw [pyP]
    exact five (by show 7 ≤ 60; decide) fun x hd => by
      simp only [List.mem_cons, List.not_mem_nil, or_false] at hd
      rcases hd with e | e | e | e | e | e | e <;> rw [e]
      · exact okN_w (by decide +kernel)
      · exact (okN_word a).mono (Nat.zero_le _)
      · exact i1.mono (by omega)
      · exact (okN_word b).mono (Nat.zero_le _)
      · exact (d.okN hl).mono (by omega)
      · exact i2.mono (by omega)
      · exact i3.mono (by omega)
  | ask a b c _ _ i1 i2 =>
    rw [pyP]
    exact five (by show 5 ≤ 60; decide) fun x hd => by
      simp only [List.mem_cons, List.not_mem_nil, or_false] at hd
      rcases hd with e | e | e | e | e <;> rw [e]
      · rcases a with a | a <;> rw [a.1] <;> exact okN_w (by decide +kernel)
      · exact (okN_word c).mono (Nat.zero_le _)
      · rcases a with a | a
        · have q : ∀ z ∈ (["number", "text", "row", "book", "shape"] : List Str), (PyData.canLay0 (.str z) && sm (.str z)) = true := by decide +kernel
          exact okN_w (q _ a.2)
        · exact (okN_word a.2).mono (Nat.zero_le _)
      · exact i1.mono (by omega)
      · exact i2.mono (by omega)
  | @call m N f ks ps a b c d e _ ih =>
    rw [pyP]
    exact five (by show 4 ≤ 60; decide) fun x hd => by
      simp only [List.mem_cons, List.not_mem_nil, or_false] at hd
      rcases hd with e' | e' | e' | e' <;> rw [e']
      · exact okN_w (by decide +kernel)
      · exact (okN_word a).mono (Nat.zero_le _)
      · refine (okN_tup (n := 18) (by rw [List.length_map]; omega) fun y hy => ?_).mono (by omega)
        obtain ⟨k, hk, rfl⟩ := List.mem_map.mp hy
        exact (e k hk).okN hl
      · refine (okN_tup (n := 3 * m + 22) (by rw [pyPs_map, List.length_map]; omega) fun y hy => ?_).mono (by omega)
        rw [pyPs_map] at hy
        obtain ⟨p, hp, rfl⟩ := List.mem_map.mp hy
        exact ih p hp
/-! ### functions -/
structure Fn where
  name : Str
  lets : List (Str × List Ch)
  pars : List (Str × List Ch)
  res : List Ch
  body : Pt
def pairK (q : Str × List Ch) : PyData := .tuple [.str q.1, .tuple (pyL q.2)]
theorem pyF_pairK (fs : List (Str × List Ch)) : pyF fs = fs.map pairK := pyF_map fs
def Fn.py (f : Fn) : PyData := .tuple [.str f.name, .tuple (pyF f.lets), .tuple (pyF f.pars), .tuple (pyL f.res), pyP f.body]
def Fn.sig (f : Fn) : Str × Nat × Nat := (f.name, f.lets.length, f.pars.length)
/-- a function that may stand behind those -/
structure OkFn (fns : List Fn) (f : Fn) : Prop where
  wn : Word f.name
  nf : formTab.lookup f.name = none
  new : f.name ∉ fns.map (·.name)
  l2 : f.lets.length ≤ 2
  lnd : (f.lets.map (·.1)).Nodup
  okb : okB f.lets
  p4 : f.pars.length ≤ 4
  pnd : (f.pars.map (·.1)).Nodup
  pw : ∀ q ∈ f.pars, Word q.1
  pk : ∀ q ∈ f.pars, q.2 ≠ [] ∧ q.2.length ≤ 3 ∧ okL (f.lets.map (·.1)) 1 q.2
  rk : f.res ≠ [] ∧ f.res.length ≤ 3 ∧ okL (f.lets.map (·.1)) 1 f.res
  bd : Gp (f.lets.map (·.1)) (fns.map Fn.sig) 9 (fun z => z ∈ f.pars.map (·.1)) f.body
/-- a program -/
inductive OkPr : List Fn → Prop
  | nil : OkPr []
  | snoc {fns : List Fn} {f : Fn} : OkPr fns → OkFn fns f → OkPr (fns ++ [f])
end Sc
namespace Sc
open PySem PySem.Spec PyProof.Rows L2
/-! ### dict(t), t a tuple of pairs: a tuple whose object is known -/
def SqF (H : Hp) (a : Addr) (xs : List V) : Prop := ∃ o : Obj, o.dict = none ∧ H a = some (.frz o (.tup xs))
theorem SqF.t {K : PySem.W.Frag} {H : Hp} {a : Addr} {xs : List V} (h : SqF H a xs) : SqT K H a xs := let ⟨o, _, e⟩ := h; .inl (.inr ⟨o, e⟩)
theorem SqF.same {H H' : Hp} {a : Addr} {xs : List V} (h : SqF H a xs) (e : Same H H') : SqF H' a xs := let ⟨o, d, q⟩ := h; ⟨o, d, e _ _ q⟩
theorem SqF.ext {H H' : Hp} {s a : Addr} {xs : List V} {kvs : List (Key × V)} (h : SqF H a xs) (hs : H s = some (.dK kvs)) (e : Ext s H H') : SqF H' a xs := let ⟨o, d, q⟩ := h; ⟨o, d, e _ _ (fun z => by rw [z, hs] at q; cases q) q⟩
section
variable {X : Cx}
theorem call_tupleF : CallR X (.type "tuple") (fun xs H Q => ∃ p ys, xs = [.ref p] ∧ SqL X.K H p ys ∧ ∀ (l : Addr) (o : Obj), H l = none → o.dict = none → Q (.ref l) (upd H l (.frz o (.tup ys)))) := by
  intro pins s σ H xs us Q I r h
  obtain ⟨p, ys, rfl, hq, q⟩ := h
  obtain ⟨u, rfl, rx⟩ := vals1 r
  cases rx
  obtain ⟨its, r', pl, hz⟩ := I.list hq
  have hlen := r'.length
  refine call_tuple_list pl.isList (fun h' kp => ?_) (by simp only [List.size_toArray] <;> omega)
  have I1 : Inv X pins σ H { s with heap := h' } := I.kept (t' := s.toks) kp
  have I2 : Inv X pins σ (upd H h'.objs.size (.frz { cls := .type "tuple", data := .seq its.toArray } (.tup ys))) { s with heap := h'.push { cls := .type "tuple", data := .seq its.toArray } } :=
    I1.laid (t' := s.toks) (fun b o e => Heap.get?_push_of_some _ e) (Nat.le_refl _) (show ObjOk X.prog X.w _ _ _ (.frz _ (.tup ys)) from ⟨Heap.get?_push_size _ rfl, hz, its, r', IsTup.new _ _⟩)
  exact ⟨.ref h'.objs.size, _, I2, rfl, q _ _ (I1.hok.fresh (Nat.le_refl _)) rfl⟩
theorem pairs_ofF {pins : List (Addr × Obj)} {σ : L2.St} {H : Hp} {s : Shared} (I : Inv X pins σ H s) : ∀ {ps : List Addr} {kvs : List (Key × V)}, Paired (fun p kv => SqT X.K H p [kV kv.1, kv.2]) ps kvs →
    ∃ (prs : List (Key × Value)) (pvs : List (Value × Value)), KV kvs prs ∧ prs.length = ps.length ∧ pvs.length = ps.length ∧ ∀ (j : Nat) (k v : Value), pvs[j]? = some (k, v) → ∃ (b : Addr) (q : Key), ps[j]? = some b ∧ IsTup s.heap b #[k, v] ∧ prs[j]? = some (q, v) ∧ keyIs q k = true
  | _, _, .nil => ⟨[], [], .nil, rfl, rfl, fun j k v e => by simp at e⟩
  | _, _, .cons (a := p) (b := kv) h t => by
    obtain ⟨prs, pvs, r, hl, hl2, hp⟩ := pairs_ofF I t
    obtain ⟨its, rv, ht, _⟩ := I.tuple h
    obtain ⟨u, y, ei, ru, ry⟩ := vals2 rv
    subst ei
    refine ⟨(kv.1, y) :: prs, (u, y) :: pvs, .cons ⟨rfl, ry⟩ r, by rw [List.length_cons, List.length_cons, hl], by rw [List.length_cons, List.length_cons, hl2], fun j k v e => ?_⟩
    cases j with
    | zero =>
      have e' : (u, y) = (k, v) := Option.some.inj e
      injection e' with e1 e2
      subst e1 e2
      exact ⟨p, kv.1, rfl, ht, rfl, kV_is (P := X.prog) (w := X.w) ru⟩
    | succ j =>
      obtain ⟨b, q, e1, e2, e3, e4⟩ := hp j k v (by simpa using e)
      exact ⟨b, q, by simpa using e1, e2, by simpa using e3, e4⟩
theorem call_dictF (hcalm : X.calm = true) : CallR X (.type "dict") (fun xs H Q => ∃ (a : Addr) (ps : List Addr) (kvs : List (Key × V)), xs = [.ref a] ∧ SqF H a (ps.map V.ref) ∧ Paired (fun p kv => SqT X.K H p [kV kv.1, kv.2]) ps kvs ∧
    ∀ p, H p = none → Q (.ref p) (upd H p (.dK (mergeK [] kvs)))) := by
  intro pins s σ H xs us Q I r q
  obtain ⟨a, ps, kvs, ex, ⟨ob, od, hF⟩, hp, q⟩ := q
  subst ex
  obtain ⟨u, eu, rx⟩ := vals1 r
  subst eu
  cases rx
  obtain ⟨go, hz, its, rv, o', ho', hc, n, hd⟩ := (show ObjOk X.prog X.w H s.heap a (.frz ob (.tup (ps.map V.ref))) from I.hok a _ hF)
  obtain rfl : ob = o' := Option.some.inj (go.symm.trans ho')
  have ei := refs_at rv
  subst ei
  rw [List.length_map] at hz
  obtain ⟨prs, pvs, rel, hl, hl2, hpr⟩ := pairs_ofF I hp
  refine PySem.call_dict_pairs (knd := mixKind X.prog X.w) (kvs := prs) (PairArg.tuple a (ps.map Value.ref).toArray (fun j => ps.getD j 0) pvs) (I.ok.hd hcalm) ⟨⟨ob, n, go, hc, od, hd⟩, ?_, fun j k v e => ?_⟩ ⟨by rw [hl, hl2], fun i key v e => ?_⟩ (by rw [hl2]; exact hz) fun h' tk hd' k => ?_
  · rw [List.size_toArray, List.length_map, hl2]
  · obtain ⟨b, q, e1, e2, _, _⟩ := hpr j k v e
    obtain ⟨o2, g1, g2, n2, g3⟩ := e2
    have eb : ps.getD j 0 = b := by rw [List.getD_eq_getElem?_getD, e1]; rfl
    exact ⟨by show (ps.map Value.ref).toArray[j]? = some (.ref (ps.getD j 0)); rw [eb]; simp [e1], .inl (by show s.heap.IsTuple (ps.getD j 0) _; rw [eb]; exact ⟨o2, g1, g2, n2, g3⟩)⟩
  · obtain ⟨b, q, _, _, e3, e4⟩ := hpr i key v e
    exact ⟨q, e3, e4⟩
  · have hm : (s.heap.objs.size == sysModules) = false := beq_eq_false_iff_ne.mpr (Nat.ne_of_gt I.big)
    have hlen : (mergeK [] kvs).length ≤ sizeLine := by
      refine Nat.le_trans (length_mergeK kvs []) ?_
      rw [List.length_nil, Nat.zero_add, rel.length, hl]
      exact hz
    exact ⟨.ref s.heap.objs.size, upd H s.heap.objs.size (.dK (mergeK [] kvs)), I.laid (t' := tk) (fun b o e => k b o (by simp) e) (Nat.le_refl _) (show ObjOk X.prog X.w _ _ _ (.dK (mergeK [] kvs)) from ⟨hlen, hm, merged [] prs, KV.merge rel .nil, hd'⟩), rfl, q _ (I.hok.fresh (Nat.le_refl _))⟩
end
end Sc
namespace Sc
open PySem PySem.Spec PyProof.Rows L2
/-! ### dicts that are walked -/
/-- a comprehension over a locked dict's keys -/
theorem lc_keysK {d : Addr} {o : Obj} {kvs : List (Key × V)} {g : TG} {tt : TT} {te : TE} {vs : List Nat} {σ : L2.St} {H1 : Hp} {D : Addr} {Qd : Hp → Prop} (Pv : Nat → Hp → Prop) (h0 : Pv 0 (upd H1 D (.lst []))) (hl : ∀ i H, i ≤ kvs.length → Pv i H → H d = some (.frz o (.dK kvs)))
    (hs : ∀ i k v H, kvs[i]? = some (k, v) → Pv i H → g (kV k) (wipe σ vs) H fun σ2 H2 => wipe σ2 vs = wipe σ vs ∧ tt σ2 H2 fun b H3 =>
      if b = true then te σ2 H3 fun y H4 => ∃ acc, H4 D = some (.lst acc) ∧ acc.length < sizeLine ∧ Pv (i + 1) (upd H4 D (.lst (acc ++ [y]))) else Pv (i + 1) H3) (hd : ∀ H, Pv kvs.length H → Qd H) :
    ∃ W : Nat → Nat → Hp → Prop, (∃ m, W 0 m (upd H1 D (.lst []))) ∧ ∀ i m H, W i m H →
      ((Itk d o kvs).stop i H ∧ Qd H) ∨ ((Itk d o kvs).go i H ∧ ∃ Nx : Hp → Prop, (∀ H', Nx H' → ∃ m', m' < m ∧ W (i + 1) m' H') ∧ ∀ x H', (Itk d o kvs).yld i H x H' → g x (wipe σ vs) H' fun σ2 H2 => wipe σ2 vs = wipe σ vs ∧ tt σ2 H2 fun b H3 =>
        if b = true then te σ2 H3 fun y H4 => ∃ acc, H4 D = some (.lst acc) ∧ acc.length < sizeLine ∧ Nx (upd H4 D (.lst (acc ++ [y]))) else Nx H3) := by
  refine ⟨fun i m H => m = kvs.length - i ∧ i ≤ kvs.length ∧ Pv i H, ⟨kvs.length, by simp, Nat.zero_le _, h0⟩, ?_⟩
  rintro i m H ⟨rfl, hi, p⟩
  have q := hl i H hi p
  by_cases hlt : i < kvs.length
  · refine .inr ⟨⟨q, hlt⟩, Pv (i + 1), fun H' p' => ⟨kvs.length - (i + 1), by omega, rfl, hlt, p'⟩, fun x H' y => ?_⟩
    obtain ⟨e, k, v, e1, e2⟩ := y
    subst e e2
    exact hs i k v _ e1 p
  · have e : i = kvs.length := by omega
    subst e
    exact .inl ⟨⟨q, Nat.le_refl _⟩, hd H p⟩
theorem for_keysK {d : Addr} {o : Obj} {kvs : List (Key × V)} {g : TG} {tb : TS} {D : Ends} {σ : L2.St} {H : Hp} (Pv : Nat → L2.St → Hp → Prop) (h0 : Pv 0 σ H) (hq : ∀ i σ H, Pv i σ H → H d = some (.frz o (.dK kvs)))
    (hs : ∀ (i : Nat) (k : Key) (v : V) (σ : L2.St) (H : Hp), kvs[i]? = some (k, v) → Pv i σ H → g (kV k) σ H fun σ2 H2 => tb { D with nx := Pv (i + 1), ct := Pv (i + 1), bk := D.nx } σ2 H2) (hd : ∀ σ H, Pv kvs.length σ H → D.nx σ H) :
    ∃ W : Nat → Nat → L2.St → Hp → Prop, (∃ m, W 0 m σ H) ∧ ∀ i m σ H, W i m σ H →
      ((Itk d o kvs).stop i H ∧ D.nx σ H) ∨ ((Itk d o kvs).go i H ∧ ∃ N : L2.St → Hp → Prop, (∀ σ' H', N σ' H' → ∃ m', m' < m ∧ W (i + 1) m' σ' H') ∧ ∀ v H', (Itk d o kvs).yld i H v H' → g v σ H' fun σ2 H2 => tb { D with nx := N, ct := N, bk := D.nx } σ2 H2) := by
  refine ⟨fun i m σ H => m = kvs.length - i ∧ i ≤ kvs.length ∧ Pv i σ H, ⟨kvs.length, rfl, Nat.zero_le _, h0⟩, ?_⟩
  rintro i m σ H ⟨rfl, hi, p⟩
  have q := hq i σ H p
  by_cases hlt : i < kvs.length
  · refine .inr ⟨⟨q, hlt⟩, Pv (i + 1), fun σ' H' p' => ⟨kvs.length - (i + 1), by omega, rfl, hlt, p'⟩, fun v H' y => ?_⟩
    obtain ⟨rfl, k, v', e1, rfl⟩ := y
    exact hs i k v' σ _ e1 p
  · have e : i = kvs.length := by omega
    subst e
    exact .inl ⟨⟨q, Nat.le_refl _⟩, hd σ H p⟩
theorem zipK_snoc {β : Type} {xs : List (Str × β)} {vs : List V} (hl : vs.length = xs.length) (q : Str × β) (v : V) : zipK (xs ++ [q]) (vs ++ [v]) = zipK xs vs ++ [(Sum.inr q.1, v)] := by
  unfold zipK
  rw [List.map_append, List.zip_append (by rw [List.length_map]; exact hl.symm)]
  rfl
theorem IsS.but {K : PySem.W.Frag} {H : Hp} {s b : Addr} {i : Inf} {o o' : HO} (h : IsS K H s i) (hb : H b = some o') (no : ∀ xs, o' ≠ .lst xs ∧ ∀ u, o' ≠ .frz u (.lst xs)) (n : b ≠ s) : IsS K (L2.upd H b o) s i := by
  obtain ⟨ns, m, a1, a2, a3⟩ := h
  refine ⟨ns, m, by rw [upd_ne n.symm]; exact a1, ?_, a3⟩
  rcases a2 with (h | ⟨u, h⟩) | h
  · exact .inl (.inl (by rw [upd_ne fun z => by rw [z, hb] at h; exact (no _).1 (Option.some.inj h)]; exact h))
  · exact .inl (.inr ⟨u, by rw [upd_ne fun z => by rw [z, hb] at h; exact (no _).2 _ (Option.some.inj h)]; exact h⟩)
  · exact .inr h
end Sc
namespace Sc
open PySem PySem.Spec PyProof.Rows L2
/-! ### rules -/
section
variable {X : Cx}
theorem sw_trueD {kx vx : Expr} {gs : List Comprehension} {scope : Scope} {pos py : Pos} {y : Str} {l : Nat} {env : Env} (hk : env.scope.kind = .function) (hy : env.scope.names.lookup y = some .local) (hl : (py.line == pos.line) = true)
    (ha : (scope.names.any fun (n, k) => n == y && (k == .local || k == .cell)) = false) : swapsWith (.DictComp kx vx gs scope pos) (some (.Name y py)) l env = pure true := by
  have ky : env.kindOf y = some .local := hy
  have hb : env.blockKind = .function := by unfold Env.blockKind; rw [hk]; rfl
  unfold swapsWith
  simp only [hb, ky, ha, Expr.pos, hl]
  rfl
theorem ps_setDc {i : Nat} {y : Str} {py : Pos} {kx vx tg iter : Expr} {ifs : List Expr} {scope : Scope} {own : List (Str × Nat)} {pos spos : Pos} {wi : TI} {g : TG} {tt : TT} {tk tv : TE} (hc : X.calm = true) (hN : X.N.Nodup) (hy : X.N[i]? = some y) (hyl : X.env.scope.names.lookup y = some .local)
    (hsw : swapsWith (.DictComp kx vx [⟨tg, iter, ifs, 0⟩] scope pos) (some (.Name y py)) spos.line X.env = pure true) (hi : PI X tg iter wi) (ok : BlkOk X.N X.env.scope scope own)
    (hg : ∀ (s : Shared) (H : Hp) (C : Addr) (cl : List (Str × Addr)) (fp : List Addr), PG (X.blk s H scope (compEnvC scope cl C X.env) fp) tg g) (ht : ∀ (s : Shared) (H : Hp) (C : Addr) (cl : List (Str × Addr)) (fp : List Addr), PTs (X.blk s H scope (compEnvC scope cl C X.env) fp) ifs tt)
    (hk : ∀ (s : Shared) (H : Hp) (C : Addr) (cl : List (Str × Addr)) (fp : List Addr), PE (X.blk s H scope (compEnvC scope cl C X.env) fp) kx tk) (he : ∀ (s : Shared) (H : Hp) (C : Addr) (cl : List (Str × Addr)) (fp : List Addr), PE (X.blk s H scope (compEnvC scope cl C X.env) fp) vx tv) (hs : ∀ x, foldedSetIterable iter X.env x = pure x := by intro _; rfl) :
    PS X (.Assign [.Name y py] (.DictComp kx vx [⟨tg, iter, ifs, 0⟩] scope pos) spos) (tAsg (tDc wi g tt tk tv (own.map (·.2))) (gName i)) := by
  refine ⟨fun pins s σ H D I h => ?_⟩
  rw [exec_Assign_Name_used _ _ _ _ hsw]
  refine wpAny_bind (wpAny_standAt (wpAny_bind ?_))
  show wpAny _ X.A (do let _ ← comprehension (.DictComp kx vx [⟨tg, iter, ifs, 0⟩] scope pos) scope X.env (firstIterPos [⟨tg, iter, ifs, 0⟩] pos) newDict false (eval iter X.env) (some (assign (.Name y py) X.env))) _ _ s
  have h : tDc wi g tt tk tv (own.map (·.2)) σ H (fun x H1 => gName i x σ H1 D.nx) := h
  refine wpAny_bind (thn (dc_core (Qf := fun _ s' => SP X pins D .next s') hc hN I hi ok hg ht hk he hs h fun L C s' m H' I' q hn f => ?_) fun _ s' hq => wpAny_pure (wpAny_pure hq))
  show wpAny _ _ (assign (.Name y py) X.env (.ref L)) _ _ _
  refine wpAny_assign_Name (store_ok2 (v := V.ref L) I' hN hy (.inl hyl) rfl (fun s2 I2 ⟨a, sb, ha⟩ => ?_) (.inr hyl))
  obtain ⟨f0, f1, f2, f3, f4, f5⟩ := f
  have haC : C ≠ a := by
    rcases ha with z | z
    · rw [z]; exact f1
    · exact fun e => f4 y a z e.symm
  refine ⟨m, hn.sameBut sb haC, fun h3 sb3 => ?_⟩
  exact ⟨_, H', I2.turned (t' := s2.toks) (fun b o hb e => (sb3.2 b hb).trans e) f0 f1 f3 f4 f5, q⟩
/-- x in t, t a tuple of data -/
def rInTD (K : PySem.W.Frag) : R2 := fun x y H Q => ∃ d ds, Dp K H x d ∧ Dp K H y (.tuple ds) ∧ SeqAt.shaped d = true ∧ SeqAt.shaped (.tuple ds) = true ∧ Q (.bl (ds.any fun z => PyData.eqv z d)) H
theorem op_inTD (hu : X.A.units + 65 < cLine) : OpR X (compareOp .In) (rInTD X.K) := by
  intro pins s σ H x y v u Q I rx ry h
  obtain ⟨d, ds, hd, he, sd, se, q⟩ := h
  obtain ⟨as, r1⟩ := Dp.reads I d x v hd rx
  obtain ⟨bs, r2⟩ := Dp.reads I (.tuple ds) y u he ry
  exact SeqAt.in_tuple_reads r2 r1 (SeqAt.canLay_of_shaped se) (SeqAt.canLay_of_shaped sd) (room_in_shaped sd hu) ⟨.bl _, H, I, rfl, q⟩
end
/-! ### kinds of numbers, texts, rows and books; what fits, purely -/
def flC : Nat → Ch → Prop
  | _, .num => True
  | _, .txt => True
  | n + 1, .row k => k ≠ [] ∧ k.length ≤ 3 ∧ ∀ c ∈ k, flC n c
  | n + 1, .book k => k ≠ [] ∧ k.length ≤ 3 ∧ ∀ c ∈ k, flC n c
  | _, _ => False
/-- what is due -/
def flD (n : Nat) (c : Ch) : Prop := flC n c ∨ c = .any "row" ∨ c = .any "book"
def hitR (f : List Ch → Bool) : Ch → Bool
  | .any w => w == "row"
  | .row k' => f k'
  | _ => false
def hitB (f : List Ch → Bool) : Ch → Bool
  | .any w => w == "book"
  | .book k' => f k'
  | _ => false
def fitC : Nat → Ch → List Ch → Bool
  | _, .num, o => o.any fun p => match p with | .num => true | _ => false
  | _, .txt, o => o.any fun p => match p with | .txt => true | _ => false
  | n + 1, .row k, o => o.any (hitR fun k' => k.all fun c => fitC n c k')
  | n + 1, .book k, o => o.any (hitB fun k' => k.all fun c => fitC n c k')
  | _, _, _ => false
def fitL (n : Nat) (k o : List Ch) : Bool := k.all fun c => fitC n c o
theorem fit_self : ∀ (n : Nat) (c : Ch) (o : List Ch), flC n c → c ∈ o → fitC n c o = true := by
  intro n
  induction n with
  | zero =>
    intro c o h m
    cases c with
    | num => unfold fitC; exact List.any_eq_true.mpr ⟨_, m, rfl⟩
    | txt => unfold fitC; exact List.any_eq_true.mpr ⟨_, m, rfl⟩
    | _ => exact h.elim
  | succ n ih =>
    intro c o h m
    cases c with
    | num => unfold fitC; exact List.any_eq_true.mpr ⟨_, m, rfl⟩
    | txt => unfold fitC; exact List.any_eq_true.mpr ⟨_, m, rfl⟩
    | row k => unfold fitC; exact List.any_eq_true.mpr ⟨_, m, List.all_eq_true.mpr fun c hc => ih c k (h.2.2 c hc) hc⟩
    | book k => unfold fitC; exact List.any_eq_true.mpr ⟨_, m, List.all_eq_true.mpr fun c hc => ih c k (h.2.2 c hc) hc⟩
    | _ => exact h.elim
theorem flC_up : ∀ (n : Nat) (c : Ch), flC n c → flC (n + 1) c := by
  intro n
  induction n with
  | zero =>
    intro c h
    cases c with
    | num => exact trivial
    | txt => exact trivial
    | _ => exact h.elim
  | succ n ih =>
    intro c h
    cases c with
    | num => exact trivial
    | txt => exact trivial
    | row k => exact ⟨h.1, h.2.1, fun c hc => ih c (h.2.2 c hc)⟩
    | book k => exact ⟨h.1, h.2.1, fun c hc => ih c (h.2.2 c hc)⟩
    | _ => exact h.elim
/-- equal as data only where the same -/
theorem eqv_two (a b : Str) (x y : PyData) : PyData.eqv (.tuple [.str a, x]) (.tuple [.str b, y]) = ((a == b) && PyData.eqv x y) := by
  simp [PyData.eqv, PyData.eqvAll]
theorem eqv_tupL (xs ys : List PyData) : PyData.eqv (.tuple xs) (.tuple ys) = PyData.eqvAll xs ys := by simp [PyData.eqv]
theorem eqv_12 (a b : Str) (x : PyData) : PyData.eqv (.tuple [.str a]) (.tuple [.str b, x]) = false := by simp [PyData.eqv, PyData.eqvAll]
theorem eqv_21 (a b : Str) (x : PyData) : PyData.eqv (.tuple [.str b, x]) (.tuple [.str a]) = false := by simp [PyData.eqv, PyData.eqvAll]
theorem eqv_11 (a b : Str) : PyData.eqv (.tuple [.str a]) (.tuple [.str b]) = (a == b) := by simp [PyData.eqv, PyData.eqvAll]
theorem eqv_ts (x : Str) (ys : List PyData) : PyData.eqv (.str x) (.tuple ys) = false := by simp [PyData.eqv]
theorem eqvAll_inj {n : Nat} (ih : ∀ p c : Ch, flC n c → flC n p → PyData.eqv (pyC p) (pyC c) = true → p = c) : ∀ (k' k : List Ch), (∀ c ∈ k, flC n c) → (∀ c ∈ k', flC n c) → PyData.eqvAll (pyL k') (pyL k) = true → k' = k
  | [], [], _, _, _ => rfl
  | [], c :: r, _, _, h => by simp [pyL, PyData.eqvAll] at h
  | c :: r, [], _, _, h => by simp [pyL, PyData.eqvAll] at h
  | p :: q, c :: r, h1, h2, h => by
    have h' : (PyData.eqv (pyC p) (pyC c) && PyData.eqvAll (pyL q) (pyL r)) = true := by simpa [pyL, PyData.eqvAll] using h
    rw [Bool.and_eq_true] at h'
    rw [ih p c (h1 c List.mem_cons_self) (h2 p List.mem_cons_self) h'.1, eqvAll_inj ih q r (fun x m => h1 x (List.mem_cons_of_mem _ m)) (fun x m => h2 x (List.mem_cons_of_mem _ m)) h'.2]
theorem eqv_inj : ∀ (n : Nat) (p c : Ch), flC n c → flD n p → PyData.eqv (pyC p) (pyC c) = true → p = c := by
  have ns : ∀ {a b : Str} {x y : PyData}, a ≠ b → PyData.eqv (.tuple [.str a, x]) (.tuple [.str b, y]) ≠ true := fun {a b x y} h e => by
    rw [eqv_two, Bool.and_eq_true, beq_iff_eq] at e
    exact h e.1
  have n1 : ∀ {a b : Str}, a ≠ b → PyData.eqv (.tuple [.str a]) (.tuple [.str b]) ≠ true := fun {a b} h e => by
    rw [eqv_11, beq_iff_eq] at e
    exact h e
  have f12 : ∀ {a b : Str} {x : PyData}, PyData.eqv (.tuple [.str a]) (.tuple [.str b, x]) ≠ true := fun {a b x} e => by rw [eqv_12] at e; cases e
  have f21 : ∀ {a b : Str} {x : PyData}, PyData.eqv (.tuple [.str b, x]) (.tuple [.str a]) ≠ true := fun {a b x} e => by rw [eqv_21] at e; cases e
  have any : ∀ (n : Nat) (w : Str) (c : Ch), flC n c → PyData.eqv (pyC (.any w)) (pyC c) ≠ true := fun n w c h => by
    cases n with
    | zero =>
      cases c with
      | num => rw [pyC, pyC]; exact f21
      | txt => rw [pyC, pyC]; exact f21
      | _ => exact h.elim
    | succ n =>
      cases c with
      | num => rw [pyC, pyC]; exact f21
      | txt => rw [pyC, pyC]; exact f21
      | row k => rw [pyC, pyC]; exact ns (by decide +kernel)
      | book k => rw [pyC, pyC]; exact ns (by decide +kernel)
      | _ => exact h.elim
  intro n
  induction n with
  | zero =>
    intro p c hc hp e
    rcases hp with hp | rfl | rfl
    · cases c with
      | num => cases p with
        | num => rfl
        | txt => rw [pyC, pyC] at e; exact absurd e (n1 (by decide +kernel))
        | _ => exact hp.elim
      | txt => cases p with
        | txt => rfl
        | num => rw [pyC, pyC] at e; exact absurd e (n1 (by decide +kernel))
        | _ => exact hp.elim
      | _ => exact hc.elim
    · exact absurd e (any _ _ _ hc)
    · exact absurd e (any _ _ _ hc)
  | succ n ih =>
    have ih' : ∀ p c : Ch, flC n c → flC n p → PyData.eqv (pyC p) (pyC c) = true → p = c := fun p c a b => ih p c a (.inl b)
    intro p c hc hp e
    rcases hp with hp | rfl | rfl
    · cases c with
      | num => cases p with
        | num => rfl
        | txt => rw [pyC, pyC] at e; exact absurd e (n1 (by decide +kernel))
        | row _ => rw [pyC, pyC] at e; exact absurd e f21
        | book _ => rw [pyC, pyC] at e; exact absurd e f21
        | _ => exact hp.elim
      | txt => cases p with
        | txt => rfl
        | num => rw [pyC, pyC] at e; exact absurd e (n1 (by decide +kernel))
        | row _ => rw [pyC, pyC] at e; exact absurd e f21
        | book _ => rw [pyC, pyC] at e; exact absurd e f21
        | _ => exact hp.elim
      | row k => cases p with
        | txt => rw [pyC, pyC] at e; exact absurd e f12
        | num => rw [pyC, pyC] at e; exact absurd e f12
        | row k' =>
          rw [pyC, pyC, eqv_two, Bool.and_eq_true, eqv_tupL] at e
          rw [eqvAll_inj ih' k' k hc.2.2 hp.2.2 e.2]
        | book _ => rw [pyC, pyC] at e; exact absurd e (ns (by decide +kernel))
        | _ => exact hp.elim
      | book k => cases p with
        | txt => rw [pyC, pyC] at e; exact absurd e f12
        | num => rw [pyC, pyC] at e; exact absurd e f12
        | book k' =>
          rw [pyC, pyC, eqv_two, Bool.and_eq_true, eqv_tupL] at e
          rw [eqvAll_inj ih' k' k hc.2.2 hp.2.2 e.2]
        | row _ => rw [pyC, pyC] at e; exact absurd e (ns (by decide +kernel))
        | _ => exact hp.elim
      | _ => exact hc.elim
    · exact absurd e (any _ _ _ hc)
    · exact absurd e (any _ _ _ hc)
/-! ### how many new numbers -/
def bud : Nat → Int
  | 0 => 3
  | d + 1 => 3 * (8 * bud d + 8)
theorem bud_pos : ∀ d : Nat, 3 ≤ bud d
  | 0 => Int.le_refl _
  | d + 1 => by have := bud_pos d; show 3 ≤ 3 * (8 * bud d + 8); omega
def budC : Nat → Int
  | 0 => 1
  | d + 1 => 8 * bud d + 8
theorem bud_C : ∀ d : Nat, bud d = 3 * budC d
  | 0 => rfl
  | _ + 1 => rfl
theorem budC_pos : ∀ d : Nat, 1 ≤ budC d
  | 0 => Int.le_refl _
  | d + 1 => by have := bud_pos d; show 1 ≤ 8 * bud d + 8; omega
/-! ### the search -/
def flds (b : Addr) (n : Int) : List (Str × V) := [("bounds", V.ref b), ("last", V.int n)]
/-- a search stands at p -/
def SAt (C : Addr) (H : Hp) (p b : Addr) (n : Int) : Prop := ∃ dx, H p = some (.ins C dx (flds b n))
def spInit (C : Addr) : Sp := fun vs H Q _ => ∃ (p dx b : Addr), vs = [.ref p, .ref b] ∧ H p = some (.ins C dx []) ∧ ∀ (H' : Hp), SAt C H' p b 0 → (∀ c o, H c = some o → c ≠ p → H' c = some o) → Q .non H'
def spFresh (C : Addr) : Sp := fun vs H Q _ => ∃ (p b : Addr) (n : Int), vs = [.ref p] ∧ SAt C H p b n ∧ ∀ (H' : Hp), SAt C H' p b (n + 1) → Ext p H H' → Q (.int (n + 1)) H'
structure SrT (K : PySem.W.Frag) (mg : Str → Option Value) (C : Addr) : Prop where
  cl : Cls K C
  nB : NoAttr K C "bounds"
  nL : NoAttr K C "last"
  g : mg "Search" = some (.ref C)
structure SrC (P : Program) (w : World) (K : PySem.W.Frag) (mg : Str → Option Value) (base : Heap) (C : Addr) : Prop where
  t : SrT K mg C
  ini : ∃ f fd, FnOk P w K mg base CX0 1 f fd ["self", "bounds"] (spInit C) ∧ Mk K C f ∧ Binds K fd ["self", "bounds"] []
  fr : ∃ f fd, FnOk P w K mg base CX0 1 f fd ["self"] (spFresh C) ∧ Meth K C "fresh" f ∧ Binds K fd ["self"] []
/-- what is found: a pair of a value and no letters -/
def Found (K : PySem.W.Frag) (H : Hp) (v : V) : Prop := ∃ (t : Addr) (x : V) (e : Addr), v = .ref t ∧ SqT K H t [x, .ref e] ∧ SqT K H e []
theorem Found.keep {K : PySem.W.Frag} {H H' : Hp} {v : V} (h : Found K H v) (e : Keep K H H') : Found K H' v := let ⟨t, x, a, b, c, d⟩ := h; ⟨t, x, a, b, e _ _ c, e _ _ d⟩
theorem SAt.keep {K : PySem.W.Frag} {C : Addr} {H H' : Hp} {p b : Addr} {n : Int} (h : SAt C H p b n) (e : Ext p H H') : Keep K H H' := fun a xs q => by
  obtain ⟨dx, hp⟩ := h
  have ne : ∀ o, (∀ fs, o ≠ .ins C dx fs) → H a = some o → a ≠ p := fun o hq ha z => by
    subst z; rw [hp] at ha; exact hq _ (Option.some.inj ha).symm
  rcases q with (h | ⟨o, h⟩) | h
  · exact .inl (.inl (e _ _ (ne _ (fun _ q => by cases q) h) h))
  · exact .inl (.inr ⟨o, e _ _ (ne _ (fun _ q => by cases q) h) h⟩)
  · exact .inr h
theorem SAt.ne {C : Addr} {H : Hp} {p b a : Addr} {n : Int} {o : HO} (h : SAt C H p b n) (ha : H a = some o) (no : ∀ dx fs, o ≠ .ins C dx fs) : a ≠ p := fun z => by
  obtain ⟨dx, hp⟩ := h
  rw [z, hp] at ha
  exact no _ _ (Option.some.inj ha).symm
theorem SAt.fresh {C : Addr} {H : Hp} {p b a : Addr} {n : Int} (h : SAt C H p b n) (ha : H a = none) : a ≠ p := fun z => by
  obtain ⟨dx, hp⟩ := h
  rw [z, hp] at ha
  cases ha
theorem SAt.same {C : Addr} {H H' : Hp} {p b : Addr} {n : Int} (h : SAt C H p b n) (e : Same H H') : SAt C H' p b n := let ⟨dx, hp⟩ := h; ⟨dx, e _ _ hp⟩
def spFind (K : PySem.W.Frag) (C : Addr) (n : Nat) : Sp := fun vs H Q _ => ∃ (kv ov : V) (p b : Addr) (m : Int) (k o : List Ch) (d : Nat), vs = [kv, ov, .ref p] ∧ IsK K H kv k ∧ IsK K H ov o ∧ SAt C H p b m ∧ d < n ∧ k.length ≤ 3 ∧ (∀ c ∈ k, flC d c) ∧ o.length ≤ 7 ∧ (∀ c ∈ o, flD d c) ∧ d ≤ 3 ∧ 0 ≤ m ∧ m + bud d ≤ 1000000000 ∧
  ∀ (v : V) (H' : Hp) (m' : Int), Ext p H H' → SAt C H' p b m' → m ≤ m' → m' ≤ m + bud d → (fitL d k o = true → v = .non) → (fitL d k o = false → Found K H' v) → Q v H'
def spFindC (K : PySem.W.Frag) (C : Addr) (n : Nat) : Sp := fun vs H Q _ => ∃ (cv ov : V) (p b : Addr) (m : Int) (c : Ch) (o : List Ch) (d : Nat), vs = [cv, ov, .ref p] ∧ IsC K H cv c ∧ IsK K H ov o ∧ SAt C H p b m ∧ d < n ∧ flC d c ∧ o.length ≤ 7 ∧ (∀ c ∈ o, flD d c) ∧ d ≤ 3 ∧ 0 ≤ m ∧ m + budC d ≤ 1000000000 ∧
  ∀ (v : V) (H' : Hp) (m' : Int), Ext p H H' → SAt C H' p b m' → m ≤ m' → m' ≤ m + budC d → (fitC d c o = true → v = .non) → (fitC d c o = false → Found K H' v) → Q v H'
end Sc
namespace Sc
open PySem PySem.Spec PyProof.Rows L2
/-! ### further -/
theorem dc_list {K : PySem.W.Frag} {a : Addr} {xs : List V} {g : TG} {tt : TT} {tk tv : TE} {vs : List Nat} {σ : L2.St} {H1 : Hp} {D : Addr} {Qd : Hp → Prop} (Pv : Nat → Hp → Prop) (h0 : Pv 0 (upd H1 D (.dK []))) (hl : ∀ i H, i ≤ xs.length → Pv i H → SqL K H a xs)
    (hs : ∀ i x H, xs[i]? = some x → Pv i H → g x (wipe σ vs) H fun σ2 H2 => wipe σ2 vs = wipe σ vs ∧ tt σ2 H2 fun b H3 =>
      if b = true then tk σ2 H3 fun y H4 => tv σ2 H4 fun z H5 => ∃ kvs k, y = kV k ∧ H5 D = some (.dK kvs) ∧ kvs.length < sizeLine ∧ Pv (i + 1) (upd H5 D (.dK (putK kvs k z))) else Pv (i + 1) H3) (hd : ∀ H, Pv xs.length H → Qd H) :
    ∃ W : Nat → Nat → Hp → Prop, (∃ m, W 0 m (upd H1 D (.dK []))) ∧ ∀ i m H, W i m H →
      ((Itl K a).stop i H ∧ Qd H) ∨ ((Itl K a).go i H ∧ ∃ Nx : Hp → Prop, (∀ H', Nx H' → ∃ m', m' < m ∧ W (i + 1) m' H') ∧ ∀ x H', (Itl K a).yld i H x H' → g x (wipe σ vs) H' fun σ2 H2 => wipe σ2 vs = wipe σ vs ∧ tt σ2 H2 fun b H3 =>
        if b = true then tk σ2 H3 fun y H4 => tv σ2 H4 fun z H5 => ∃ kvs k, y = kV k ∧ H5 D = some (.dK kvs) ∧ kvs.length < sizeLine ∧ Nx (upd H5 D (.dK (putK kvs k z))) else Nx H3) := by
  refine ⟨fun i m H => m = xs.length - i ∧ i ≤ xs.length ∧ Pv i H, ⟨xs.length, by simp, Nat.zero_le _, h0⟩, ?_⟩
  rintro i m H ⟨rfl, hi, p⟩
  have q := hl i H hi p
  by_cases hlt : i < xs.length
  · refine .inr ⟨⟨xs, xs[i], q, by simp [hlt]⟩, Pv (i + 1), fun H' p' => ⟨xs.length - (i + 1), by omega, rfl, hlt, p'⟩, fun x H' y => ?_⟩
    obtain ⟨e, y⟩ := y
    subst e
    exact hs i x _ (y xs q) p
  · have e : i = xs.length := by omega
    subst e
    exact .inl ⟨⟨xs, q, Nat.le_refl _⟩, hd H p⟩
theorem op_eqDK (K : PySem.W.Frag) {X : Cx} (hu : X.A.units + 64 < cLine) (h : X.K = K := by rfl) : OpR X (compareOp .Eq) (rEqD K) := h ▸ op_eqD hu
theorem flC_okN : ∀ (n : Nat) (c : Ch), flC n c → OkN (2 * n + 1) (pyC c) := by
  intro n
  induction n with
  | zero =>
    intro c h
    cases c with
    | num => exact okN_num 0
    | txt => exact okN_txt 0
    | _ => exact h.elim
  | succ n ih =>
    intro c h
    cases c with
    | num => exact (okN_num 0).mono (by omega)
    | txt => exact (okN_txt 0).mono (by omega)
    | row k =>
      rw [pyC]
      exact okN_two (n := 2 * n + 2) (okN_w (by decide +kernel)) (okN_tup (by rw [pyL_map, List.length_map]; have := h.2.1; omega) fun x hx => by
        rw [pyL_map] at hx
        obtain ⟨c, hc, rfl⟩ := List.mem_map.mp hx
        exact ih c (h.2.2 c hc))
    | book k =>
      rw [pyC]
      exact okN_two (n := 2 * n + 2) (okN_w (by decide +kernel)) (okN_tup (by rw [pyL_map, List.length_map]; have := h.2.1; omega) fun x hx => by
        rw [pyL_map] at hx
        obtain ⟨c, hc, rfl⟩ := List.mem_map.mp hx
        exact ih c (h.2.2 c hc))
    | _ => exact h.elim
theorem any_okN (n : Nat) : OkN (n + 1) (pyC (.any "row")) ∧ OkN (n + 1) (pyC (.any "book")) := by
  constructor
  · rw [pyC]; exact okN_two (okN_w (by decide +kernel)) (okN_w (by decide +kernel))
  · rw [pyC]; exact okN_two (okN_w (by decide +kernel)) (okN_w (by decide +kernel))
theorem flD_okN {n : Nat} {c : Ch} (h : flD n c) : OkN (2 * n + 1) (pyC c) := by
  rcases h with h | rfl | rfl
  · exact flC_okN n c h
  · exact (any_okN 0).1.mono (by omega)
  · exact (any_okN 0).2.mono (by omega)
theorem flD_shaped {n : Nat} {o : List Ch} (n3 : n ≤ 3) (l : o.length ≤ 7) (h : ∀ c ∈ o, flD n c) : SeqAt.shaped (.tuple (pyL o)) = true :=
  ((okN_tup (n := 2 * n + 1) (by rw [pyL_map, List.length_map]; omega) fun x hx => by
    rw [pyL_map] at hx
    obtain ⟨c, hc, rfl⟩ := List.mem_map.mp hx
    exact flD_okN (h c hc)).ok (by omega)).1
theorem in_self {n : Nat} {o : List Ch} (h : ∀ c ∈ o, flD n c) {c : Ch} (hc : flC n c) (e : ((pyL o).any fun z => PyData.eqv z (pyC c)) = true) : c ∈ o := by
  obtain ⟨z, hz, ez⟩ := List.any_eq_true.mp e
  rw [pyL_map] at hz
  obtain ⟨p, hp, rfl⟩ := List.mem_map.mp hz
  rw [← eqv_inj n p c hc (h p hp) ez]
  exact hp
def isAny (w : Str) (p : Ch) : Bool := match p with | .any z => z == w | _ => false
theorem in_any {n : Nat} {w : Str} (hw : w = "row" ∨ w = "book") : ∀ {o : List Ch}, (∀ c ∈ o, flD n c) → ((pyL o).any fun z => PyData.eqv z (.tuple [.str "some", .str w])) = o.any (isAny w)
  | [], _ => rfl
  | p :: r, h => by
    have ih := in_any hw fun c m => h c (List.mem_cons_of_mem _ m)
    rw [pyL, List.any_cons, List.any_cons, ih]
    congr 1
    have two : ∀ (a : Str) (x : PyData), a ≠ "some" → PyData.eqv (.tuple [.str a, x]) (.tuple [.str "some", .str w]) = false := fun a x ha => by
      rw [eqv_two, beq_eq_false_iff_ne.mpr ha, Bool.false_and]
    have an : ∀ z : Str, PyData.eqv (.tuple [.str "some", .str z]) (.tuple [.str "some", .str w]) = (z == w) := fun z => by
      rw [eqv_two, beq_self_eq_true, Bool.true_and]
      simp [PyData.eqv]
    rcases h p List.mem_cons_self with g | rfl | rfl
    · cases n with
      | zero =>
        cases p with
        | num => rw [pyC]; exact eqv_12 _ _ _
        | txt => rw [pyC]; exact eqv_12 _ _ _
        | _ => exact g.elim
      | succ n =>
        cases p with
        | num => rw [pyC]; exact eqv_12 _ _ _
        | txt => rw [pyC]; exact eqv_12 _ _ _
        | row k => rw [pyC]; exact two _ _ (by decide +kernel)
        | book k => rw [pyC]; exact two _ _ (by decide +kernel)
        | _ => exact g.elim
    · rw [pyC]; exact an _
    · rw [pyC]; exact an _
/-- the kinds within the rows, the books of a kind -/
def withinO (w : Str) : List Ch → List (List Ch)
  | [] => []
  | .row k :: r => if w = "row" then k :: withinO w r else withinO w r
  | .book k :: r => if w = "book" then k :: withinO w r else withinO w r
  | _ :: r => withinO w r
theorem withinO_mem {w : Str} {k : List Ch} : ∀ {o : List Ch}, k ∈ withinO w o → (.row k) ∈ o ∨ (.book k) ∈ o
  | p :: r, h => by
    unfold withinO at h
    split at h
    · cases h
    · rename_i e
      cases e
      split at h
      · rcases List.mem_cons.mp h with z | z
        · rw [z]; exact .inl List.mem_cons_self
        · exact (withinO_mem z).imp (List.mem_cons_of_mem _) (List.mem_cons_of_mem _)
      · exact (withinO_mem h).imp (List.mem_cons_of_mem _) (List.mem_cons_of_mem _)
    · rename_i e
      cases e
      split at h
      · rcases List.mem_cons.mp h with z | z
        · rw [z]; exact .inr List.mem_cons_self
        · exact (withinO_mem z).imp (List.mem_cons_of_mem _) (List.mem_cons_of_mem _)
      · exact (withinO_mem h).imp (List.mem_cons_of_mem _) (List.mem_cons_of_mem _)
    · rename_i e
      cases e
      exact (withinO_mem h).imp (List.mem_cons_of_mem _) (List.mem_cons_of_mem _)
theorem withinO_len (w : Str) : ∀ o : List Ch, (withinO w o).length ≤ o.length
  | [] => Nat.le_refl _
  | p :: r => by
    have ih := withinO_len w r
    unfold withinO
    split
    · exact Nat.zero_le _
    · rename_i e; cases e
      split
      · exact Nat.succ_le_succ ih
      · exact Nat.le_succ_of_le ih
    · rename_i e; cases e
      split
      · exact Nat.succ_le_succ ih
      · exact Nat.le_succ_of_le ih
    · rename_i e; cases e
      exact Nat.le_succ_of_le ih
theorem withinO_snoc (w : Str) : ∀ (o : List Ch) (p : Ch), withinO w (o ++ [p]) = withinO w o ++ withinO w [p]
  | [], _ => rfl
  | q :: r, p => by
    have ih := withinO_snoc w r p
    rw [List.cons_append]
    cases q with
    | row k =>
      show (if w = "row" then k :: withinO w (r ++ [p]) else withinO w (r ++ [p])) = (if w = "row" then k :: withinO w r else withinO w r) ++ withinO w [p]
      rw [ih]; split <;> rfl
    | book k =>
      show (if w = "book" then k :: withinO w (r ++ [p]) else withinO w (r ++ [p])) = (if w = "book" then k :: withinO w r else withinO w r) ++ withinO w [p]
      rw [ih]; split <;> rfl
    | _ => show withinO w (r ++ [p]) = withinO w r ++ withinO w [p]; exact ih
theorem fit_row (n : Nat) (k : List Ch) : ∀ o : List Ch, fitC (n + 1) (.row k) o = (o.any (isAny "row") || (withinO "row" o).any fun k' => fitL n k k')
  | [] => rfl
  | p :: r => by
    have h1 := fit_row n k r
    have e0 : fitC (n + 1) (.row k) (p :: r) = (hitR (fun k' => k.all fun c => fitC n c k') p || fitC (n + 1) (.row k) r) := rfl
    have e1 : ¬ (("row" : Str) = "book") := by decide +kernel
    rw [e0, h1, List.any_cons]
    cases p with
    | row k' =>
      show ((k.all fun c => fitC n c k') || _) = ((false || _) || (if ("row" : Str) = "row" then k' :: withinO "row" r else withinO "row" r).any _)
      rw [if_pos rfl, List.any_cons]
      show ((k.all fun c => fitC n c k') || _) = (_ || ((k.all fun c => fitC n c k') || _))
      rw [Bool.false_or]
      generalize (k.all fun c => fitC n c k') = a
      generalize r.any (isAny "row") = b
      cases a <;> cases b <;> rfl
    | book k' =>
      show (false || _) = ((false || _) || (if ("row" : Str) = "book" then k' :: withinO "row" r else withinO "row" r).any _)
      rw [if_neg e1, Bool.false_or, Bool.false_or]
    | any w =>
      show ((w == "row") || (_ || _)) = (((w == "row") || _) || _)
      rw [Bool.or_assoc]
      rfl
    | _ => rfl
theorem fit_book (n : Nat) (k : List Ch) : ∀ o : List Ch, fitC (n + 1) (.book k) o = (o.any (isAny "book") || (withinO "book" o).any fun k' => fitL n k k')
  | [] => rfl
  | p :: r => by
    have h1 := fit_book n k r
    have e0 : fitC (n + 1) (.book k) (p :: r) = (hitB (fun k' => k.all fun c => fitC n c k') p || fitC (n + 1) (.book k) r) := rfl
    have e1 : ¬ (("book" : Str) = "row") := by decide +kernel
    rw [e0, h1, List.any_cons]
    cases p with
    | book k' =>
      show ((k.all fun c => fitC n c k') || _) = ((false || _) || (if ("book" : Str) = "book" then k' :: withinO "book" r else withinO "book" r).any _)
      rw [if_pos rfl, List.any_cons]
      show ((k.all fun c => fitC n c k') || _) = (_ || ((k.all fun c => fitC n c k') || _))
      rw [Bool.false_or]
      generalize (k.all fun c => fitC n c k') = a
      generalize r.any (isAny "book") = b
      cases a <;> cases b <;> rfl
    | row k' =>
      show (false || _) = ((false || _) || (if ("book" : Str) = "row" then k' :: withinO "book" r else withinO "book" r).any _)
      rw [if_neg e1, Bool.false_or, Bool.false_or]
    | any w =>
      show ((w == "book") || (_ || _)) = (((w == "book") || _) || _)
      rw [Bool.or_assoc]
      rfl
    | _ => rfl
def spNo : Sp := fun _ _ _ _ => False
def spWithin (K : PySem.W.Frag) (C : Addr) (n : Nat) : Sp := fun vs H Q _ => ∃ (kv : V) (l p b : Addr) (us : List V) (m : Int) (k : List Ch) (os : List (List Ch)) (d : Nat), vs = [kv, .ref l, .ref p] ∧ IsK K H kv k ∧ SqL K H l us ∧ IsKs K H us os ∧ SAt C H p b m ∧ d < n ∧ k ≠ [] ∧ k.length ≤ 3 ∧ (∀ c ∈ k, flC d c) ∧ os.length ≤ 7 ∧ (∀ o ∈ os, o.length ≤ 7 ∧ ∀ c ∈ o, flD d c) ∧ d ≤ 3 ∧ 0 ≤ m ∧ m + 8 * bud d ≤ 1000000000 ∧
  ∀ (v : V) (H' : Hp) (m' : Int), Ext p H H' → SAt C H' p b m' → m ≤ m' → m' ≤ m + 8 * bud d → ((os.any fun o => fitL d k o) = true → v = .non) → ((os.any fun o => fitL d k o) = false → ∃ (D : Addr) (fs : List V), v = .ref D ∧ H' D = some (.lst fs) ∧ (∀ u ∈ fs, Found K H' u) ∧ fs.length ≤ 7) → Q v H'
def spStands (K : PySem.W.Frag) : Sp := fun vs H Q _ => ∃ (l : Addr) (us : List V), vs = [.ref l] ∧ SqL K H l us ∧ (∀ u ∈ us, Found K H u) ∧ us.length ≤ 7 ∧ ∀ (e : Addr) (H' : Hp), Same H H' → SqT K H' e [] → Q (.ref e) H'
def spStanding (K : PySem.W.Frag) : Sp := fun vs H Q _ => ∃ (e b : Addr), vs = [.ref e, .ref b] ∧ SqT K H e [] ∧ H b = some (.dK []) ∧ ∀ (v : V) (H' : Hp), Same H H' → Q v H'
def spGround (K : PySem.W.Frag) : Sp := fun vs H Q _ => ∃ (kv ov : V) (b : Addr) (k o : List Ch), vs = [kv, ov, .ref b] ∧ IsK K H kv k ∧ IsK K H ov o ∧ H b = some (.dK []) ∧ k.length ≤ 3 ∧ (∀ c ∈ k, flC 3 c) ∧ o.length ≤ 7 ∧ (∀ c ∈ o, flD 3 c) ∧
  ∀ (v : V) (H' : Hp), Same H H' → (fitL 3 k o = true → v = .non) → (fitL 3 k o = false → ∃ t, v = .ref t) → Q v H'
def spFits (K : PySem.W.Frag) : Sp := fun vs H Q _ => ∃ (kv ov : V) (b : Addr) (k o : List Ch), vs = [kv, ov, .ref b] ∧ IsK K H kv k ∧ IsK K H ov o ∧ H b = some (.dK []) ∧ k.length ≤ 3 ∧ (∀ c ∈ k, flC 3 c) ∧ o.length ≤ 7 ∧ (∀ c ∈ o, flD 3 c) ∧
  ∀ (H' : Hp), Same H H' → Q (.bl (fitL 3 k o)) H'
end Sc
namespace Sc
open PySem PySem.Spec PyProof.Rows L2
def spHold (K : PySem.W.Frag) (C : Addr) (n : Nat) : Sp := fun vs H Q _ => ∃ (cv ov : V) (p b : Addr) (m : Int) (c : Ch) (k o : List Ch) (d : Nat), vs = [cv, ov, .ref p] ∧ IsC K H cv c ∧ IsK K H ov o ∧ SAt C H p b m ∧ d < n ∧ (c = .row k ∨ c = .book k) ∧ flC (d + 1) c ∧ o.length ≤ 7 ∧ (∀ c ∈ o, flD (d + 1) c) ∧ d + 1 ≤ 3 ∧ 0 ≤ m ∧ m + budC (d + 1) ≤ 1000000000 ∧
  ∀ (v : V) (H' : Hp) (m' : Int), Ext p H H' → SAt C H' p b m' → m ≤ m' → m' ≤ m + budC (d + 1) → (fitC (d + 1) c o = true → v = .non) → (fitC (d + 1) c o = false → Found K H' v) → Q v H'
theorem flD_within {d : Nat} {w : Str} {o : List Ch} (h : ∀ c ∈ o, flD (d + 1) c) {k : List Ch} (m : k ∈ withinO w o) : k.length ≤ 7 ∧ ∀ c ∈ k, flD d c := by
  have g : ∀ c : Ch, c ∈ o → (c = .row k ∨ c = .book k) → k.length ≤ 7 ∧ ∀ c ∈ k, flD d c := fun c hc e => by
    rcases h c hc with z | z | z
    · rcases e with rfl | rfl
      · exact ⟨Nat.le_trans z.2.1 (by decide), fun x hx => .inl (z.2.2 x hx)⟩
      · exact ⟨Nat.le_trans z.2.1 (by decide), fun x hx => .inl (z.2.2 x hx)⟩
    · rcases e with rfl | rfl <;> cases z
    · rcases e with rfl | rfl <;> cases z
  rcases withinO_mem m with z | z
  · exact g _ z (.inl rfl)
  · exact g _ z (.inr rfl)
/-- the lead of what is due -/
theorem withinO_one (w : Str) (c : Ch) (hw : w = "row" ∨ w = "book") : withinO w [c] = if wdC c = w then (match c with | .row k => [k] | .book k => [k] | _ => []) else [] := by
  have e1 : ¬ (("row" : Str) = "book") := by decide +kernel
  have e2 : ¬ (("book" : Str) = "row") := by decide +kernel
  cases c with
  | row k =>
    show (if w = "row" then [k] else []) = if ("row" : Str) = w then [k] else []
    by_cases e : w = "row"
    · rw [if_pos e, if_pos e.symm]
    · rw [if_neg e, if_neg fun z => e z.symm]
  | book k =>
    show (if w = "book" then [k] else []) = if ("book" : Str) = w then [k] else []
    by_cases e : w = "book"
    · rw [if_pos e, if_pos e.symm]
    · rw [if_neg e, if_neg fun z => e z.symm]
  | _ =>
    show [] = ite _ [] []
    split <;> rfl
end Sc
namespace Sc
open PySem PySem.Spec PyProof.Rows L2
/-! ### names and their kinds -/
/-- nms with x told to be k -/
structure Put (nms : List (Str × List Ch)) (x : Str) (k : List Ch) (nms' : List (Str × List Ch)) : Prop where
  has : (x, k) ∈ nms'
  sub : ∀ q ∈ nms', q = (x, k) ∨ q ∈ nms
  old : ∀ q ∈ nms, q.1 ≠ x → q ∈ nms'
  len : nms'.length ≤ nms.length + 1
theorem zipK_map {x : Str} {k : List Ch} {v : V} : ∀ {nms : List (Str × List Ch)} {vs : List V}, vs.length = nms.length →
    (zipK nms vs).map (fun p => if p.1 = Sum.inr x then (p.1, v) else p) = zipK (nms.map fun q => if q.1 = x then (x, k) else q) ((nms.zip vs).map fun p => if p.1.1 = x then v else p.2)
  | [], [], _ => rfl
  | q :: nms, u :: vs, h => by
    have ih := zipK_map (x := x) (k := k) (v := v) (nms := nms) (vs := vs) (Nat.succ.inj h)
    show (if (Sum.inr q.1 : Key) = Sum.inr x then ((Sum.inr q.1 : Key), v) else (Sum.inr q.1, u)) :: (zipK nms vs).map _ = (Sum.inr (if q.1 = x then (x, k) else q).1, if q.1 = x then v else u) :: zipK (nms.map _) ((nms.zip vs).map _)
    rw [ih]
    by_cases e : q.1 = x
    · rw [if_pos e, if_pos e, if_pos (by rw [e]), e]
    · rw [if_neg e, if_neg e, if_neg (fun z => e (Sum.inr.inj z))]
theorem zipK_put {K : PySem.W.Frag} {H : Hp} {nms : List (Str × List Ch)} {vs : List V} (hl : vs.length = nms.length) (nd : (nms.map (·.1)).Nodup) {x : Str} {k : List Ch} {v : V} (hv : IsK K H v k)
    (hk : ∀ (j : Nat) (u : V) (q : Str × List Ch), vs[j]? = some u → nms[j]? = some q → IsK K H u q.2) :
    ∃ nms' vs', putK (zipK nms vs) (.inr x) v = zipK nms' vs' ∧ vs'.length = nms'.length ∧ (nms'.map (·.1)).Nodup ∧ Put nms x k nms' ∧ (∀ (j : Nat) (u : V) (q : Str × List Ch), vs'[j]? = some u → nms'[j]? = some q → IsK K H u q.2) := by
  by_cases hx : x ∈ nms.map (·.1)
  · have any : (zipK nms vs).any (fun p => decide (p.1 = Sum.inr x)) = true := by
      obtain ⟨q, hq, rfl⟩ := List.mem_map.mp hx
      obtain ⟨j, hj⟩ := List.getElem?_of_mem hq
      have lt : j < vs.length := by rw [hl]; exact (List.getElem?_eq_some_iff.mp hj).1
      have g := zipK_get nd hj (List.getElem?_eq_getElem lt)
      rw [valV_any, g]; rfl
    refine ⟨nms.map fun q => if q.1 = x then (x, k) else q, (nms.zip vs).map fun p => if p.1.1 = x then v else p.2, ?_, ?_, ?_, ⟨?_, ?_, ?_, ?_⟩, ?_⟩
    · unfold putK
      rw [if_pos any]
      exact zipK_map hl
    · rw [List.length_map, List.length_map, List.length_zip, hl, Nat.min_self]
    · have e : (nms.map fun q => if q.1 = x then (x, k) else q).map (·.1) = nms.map (·.1) := by
        rw [List.map_map]
        refine List.map_congr_left fun q _ => ?_
        show (if q.1 = x then (x, k) else q).1 = q.1
        split
        · rename_i e; exact e.symm
        · rfl
      rw [e]; exact nd
    · obtain ⟨q, hq, e⟩ := List.mem_map.mp hx
      exact List.mem_map.mpr ⟨q, hq, if_pos e⟩
    · intro q hq
      obtain ⟨p, hp, rfl⟩ := List.mem_map.mp hq
      split
      · exact .inl rfl
      · exact .inr hp
    · intro q hq ne
      exact List.mem_map.mpr ⟨q, hq, if_neg ne⟩
    · rw [List.length_map]; omega
    · intro j u q h1 h2
      rw [List.getElem?_map] at h1 h2
      obtain ⟨p, hp, rfl⟩ := Option.map_eq_some_iff.mp h1
      obtain ⟨q0, hq, rfl⟩ := Option.map_eq_some_iff.mp h2
      obtain ⟨p1, p2⟩ := List.getElem?_zip_eq_some.mp hp
      rw [hq] at p1
      cases p1
      by_cases e : p.1.1 = x
      · rw [if_pos e, if_pos e]; exact hv
      · rw [if_neg e, if_neg e]; exact hk j _ _ p2 hq
  · have any : ¬ (zipK nms vs).any (fun p => decide (p.1 = Sum.inr x)) = true := fun z => by
      obtain ⟨p, hp, e⟩ := List.any_eq_true.mp z
      have m : p.1 ∈ (zipK nms vs).map (·.1) := List.mem_map_of_mem hp
      rw [of_decide_eq_true e, zipK_fst hl] at m
      obtain ⟨q, hq, e2⟩ := List.mem_map.mp m
      exact hx (List.mem_map.mpr ⟨q, hq, Sum.inr.inj e2⟩)
    refine ⟨nms ++ [(x, k)], vs ++ [v], ?_, ?_, ?_, ⟨?_, ?_, ?_, ?_⟩, ?_⟩
    · unfold putK
      rw [if_neg any]
      exact (zipK_snoc hl (x, k) v).symm
    · rw [List.length_append, List.length_append, hl]; rfl
    · rw [List.map_append]
      exact List.nodup_append.mpr ⟨nd, List.nodup_cons.mpr ⟨by simp, List.nodup_nil⟩, fun y hy z hz e => hx (by have hz2 : z = x := List.mem_singleton.mp hz; rw [← hz2, ← e]; exact hy)⟩
    · exact List.mem_append.mpr (.inr List.mem_cons_self)
    · intro q hq
      rcases List.mem_append.mp hq with m | m
      · exact .inr m
      · exact .inl (List.mem_singleton.mp m)
    · exact fun q hq _ => List.mem_append.mpr (.inl hq)
    · rw [List.length_append]; exact Nat.le_refl _
    · intro j u q h1 h2
      by_cases lt : j < vs.length
      · rw [List.getElem?_append_left lt] at h1
        rw [List.getElem?_append_left (hl ▸ lt)] at h2
        exact hk j u q h1 h2
      · rw [List.getElem?_append_right (by omega)] at h1
        rw [List.getElem?_append_right (by omega)] at h2
        have z : j - vs.length = 0 := by
          have := (List.getElem?_eq_some_iff.mp h1).1
          simp at this
          omega
        rw [z] at h1
        rw [← hl, z] at h2
        cases h1; cases h2; exact hv
def spWith (K : PySem.W.Frag) : Sp := fun vs H Q _ => ∃ (na : Addr) (nms : List (Str × List Ch)) (x : Str) (v : V) (k : List Ch), vs = [.ref na, .str x, v] ∧ IsB K H na nms ∧ IsK K H v k ∧ nms.length ≤ 200 ∧
  ∀ (b : Addr) (H' : Hp) (nms' : List (Str × List Ch)), Same H H' → H b = none → IsB K H' b nms' → Put nms x k nms' → Q (.ref b) H'
/-- not in a tuple of data -/
def rNInTD (K : PySem.W.Frag) : R2 := fun x y H Q => ∃ d ds, Dp K H x d ∧ Dp K H y (.tuple ds) ∧ SeqAt.shaped d = true ∧ SeqAt.shaped (.tuple ds) = true ∧ Q (.bl (!ds.any fun z => PyData.eqv z d)) H
section
variable {X : Cx}
theorem op_nInTD (hu : X.A.units + 65 < cLine) : OpR X (compareOp .NotIn) (rNInTD X.K) := by
  intro pins s σ H x y v u Q I rx ry h
  obtain ⟨d, ds, hd, he, sd, se, q⟩ := h
  obtain ⟨as, r1⟩ := Dp.reads I d x v hd rx
  obtain ⟨bs, r2⟩ := Dp.reads I (.tuple ds) y u he ry
  exact SeqAt.notIn_tuple_reads r2 r1 (SeqAt.canLay_of_shaped se) (SeqAt.canLay_of_shaped sd) (room_in_shaped sd hu) ⟨.bl _, H, I, rfl, q⟩
end
theorem IsK.dp {K : PySem.W.Frag} {H : Hp} {v : V} {k : List Ch} (h : IsK K H v k) : Dp K H v (.tuple (pyL k)) := Dt.dp h
theorem any_eqv_self {d : PyData} {ds : List PyData} (hd : d.canLay0 = true) (m : d ∈ ds) : (ds.any fun z => PyData.eqv z d) = true := List.any_eq_true.mpr ⟨d, m, SeqAt.eqv_refl d hd⟩
def spInside (K : PySem.W.Frag) : Sp := fun vs H Q _ => ∃ (kv dv : V) (k due : List Ch) (ls : List Str), vs = [kv, dv] ∧ IsK K H kv k ∧ IsK K H dv due ∧ NmK ls k ∧ OkN 40 (.tuple (pyL due)) ∧
  ∀ (b : Bool) (H' : Hp), Same H H' → ((∃ l, Ch.letter l ∈ due ∧ ∀ c ∈ k, isLt l c) → b = true) → Q (.bl b) H'
theorem nm_lead {ls : List Str} {c : Ch} (h : NmC ls c) : hdOk c ∨ (∃ l, c = .letter l) ∨ ∃ l hs, c = .cut l hs := by
  rcases h.2 with h | ⟨l, _, h | ⟨hs, h, _⟩⟩
  · exact .inl h
  · exact .inr (.inl ⟨l, h⟩)
  · exact .inr (.inr ⟨l, hs, h⟩)
/-- a thing locked and unlocked again -/
theorem unlock_same {H H' : Hp} {d : Addr} {u : HO} {od : Obj} (h : H d = some u) (e : Same (upd H d (.frz od u)) H') : Same H (upd H' d u) := fun b o hb => by
  by_cases z : b = d
  · rw [z, upd_same, ← h, ← z, hb]
  · rw [upd_ne z]
    exact e b o (by rw [upd_ne z]; exact hb)
/-- tuples stay beside a thing that is locked, or unlocked -/
theorem but_keep {K : PySem.W.Frag} {H : Hp} {d : Addr} {u : HO} (o' : HO) (h : H d = some u) (n : ∀ xs, u ≠ .tup xs ∧ ∀ o, u ≠ .frz o (.tup xs)) : Keep K H (upd H d o') := fun a xs q => by
  rcases q with (q | ⟨o, q⟩) | q
  · exact .inl (.inl (by rw [upd_ne fun z => by rw [z, h] at q; exact (n xs).1 (Option.some.inj q)]; exact q))
  · exact .inl (.inr ⟨o, by rw [upd_ne fun z => by rw [z, h] at q; exact (n xs).2 o (Option.some.inj q)]; exact q⟩)
  · exact .inr q
theorem dk_no (kvs : List (Key × V)) : ∀ xs : List V, HO.dK kvs ≠ .tup xs ∧ ∀ o, HO.dK kvs ≠ .frz o (.tup xs) := fun xs => ⟨(fun z => by cases z), fun o z => by cases z⟩
theorem fz_no (od : Obj) (kvs : List (Key × V)) : ∀ xs : List V, HO.frz od (.dK kvs) ≠ .tup xs ∧ ∀ o, HO.frz od (.dK kvs) ≠ .frz o (.tup xs) := fun xs => ⟨(fun z => by cases z), fun o z => by cases z⟩
theorem dk_nl (kvs : List (Key × V)) : ∀ xs : List V, HO.dK kvs ≠ .lst xs ∧ ∀ u, HO.dK kvs ≠ .frz u (.lst xs) := fun xs => ⟨(fun z => by cases z), fun o z => by cases z⟩
theorem fz_nl (od : Obj) (kvs : List (Key × V)) : ∀ xs : List V, HO.frz od (.dK kvs) ≠ .lst xs ∧ ∀ u, HO.frz od (.dK kvs) ≠ .frz u (.lst xs) := fun xs => ⟨(fun z => by cases z), fun o z => by cases z⟩
theorem unlock_ext {H H' : Hp} {s d : Addr} {u : HO} {od : Obj} (h : H d = some u) (e : Ext s (upd H d (.frz od u)) H') : Ext s H (upd H' d u) := fun b o n hb => by
  by_cases z : b = d
  · rw [z, upd_same, ← h, ← z, hb]
  · rw [upd_ne z]
    exact e b o n (by rw [upd_ne z]; exact hb)
section
variable {X : Cx}
theorem op_nInTDK (K : PySem.W.Frag) (hu : X.A.units + 65 < cLine) (h : X.K = K := by rfl) : OpR X (compareOp .NotIn) (rNInTD K) := h ▸ op_nInTD hu
theorem op_inTDK (K : PySem.W.Frag) (hu : X.A.units + 65 < cLine) (h : X.K = K := by rfl) : OpR X (compareOp .In) (rInTD K) := h ▸ op_inTD hu
end
end Sc
namespace Sc
open PySem PyProof.Rows L2
def top (i : Nat) : Stmt := PySem.Challenge.pw_soothcheck_k16_programs_that_are_one.main.body.getD i (.Pass ⟨0, 0, 0, 0⟩)
abbrev sNeedKind : Stmt := top 9
abbrev sPNeedKindWithin : Stmt := top 10
abbrev sPNeedChoice : Stmt := top 11
abbrev sPNeedFields : Stmt := top 12
abbrev sPNeedLetter : Stmt := top 14
abbrev sIsWord : Stmt := top 15
abbrev sHasWordSigns : Stmt := top 16
abbrev sIsLetter : Stmt := top 17
abbrev sPHasWordLength : Stmt := top 18
abbrev sAreFields : Stmt := top 19
abbrev sNeedProgram : Stmt := top 26
abbrev sPNeedFunction : Stmt := top 27
abbrev sPNeedPairs : Stmt := top 28
abbrev sPNeedPart : Stmt := top 29
abbrev sPFormOf : Stmt := top 30
abbrev sPNeedAllHanded : Stmt := top 31
abbrev sPNeedWithin : Stmt := top 32
abbrev sPNeedWhole : Stmt := top 33
abbrev sPNeedText : Stmt := top 34
abbrev sPNeedKnown : Stmt := top 35
abbrev sPNeedWord : Stmt := top 36
abbrev sPNeedHead : Stmt := top 37
abbrev sPNeedKindHere : Stmt := top 38
abbrev sPNeedParts : Stmt := top 39
abbrev sPNeedHanded : Stmt := top 40
abbrev sPNeedFields2 : Stmt := top 41
abbrev sPNeedToldEarlier : Stmt := top 43
abbrev sPNeedKinds : Stmt := top 44
abbrev sBegun : Stmt := top 47
abbrev sTaken : Stmt := top 48
abbrev sWord : Stmt := top 49
abbrev sKind : Stmt := top 50
abbrev sChoice : Stmt := top 51
abbrev sFields : Stmt := top 52
abbrev sBounds : Stmt := top 53
abbrev sText : Stmt := top 54
abbrev sNumber : Stmt := top 55
abbrev sLHeadOf : Stmt := top 56
abbrev sHeadsOf : Stmt := top 57
abbrev sAnswers : Stmt := top 58
abbrev sSide : Stmt := top 59
abbrev sAsk : Stmt := top 60
abbrev sWithin : Stmt := top 61
abbrev sLWith : Stmt := top 62
abbrev sPart : Stmt := top 63
abbrev sWritten : Stmt := top 64
abbrev sReckoned : Stmt := top 65
abbrev sWay : Stmt := top 66
abbrev sNew : Stmt := top 67
abbrev sCall : Stmt := top 68
abbrev sFunction : Stmt := top 69
abbrev sProgram : Stmt := top 70
abbrev sFill : Stmt := top 71
abbrev sHanded : Stmt := top 72
abbrev sLaw : Stmt := top 73
abbrev sPlaceInit : Stmt := inClass (top 25) 0
structure Tx (K : PySem.W.Frag) (mg : Str → Option Value) : Prop where
  need_kind : Def K mg "need_kind" sNeedKind ["kind", "letters"]
  p_need_kind_within : Def K mg "_need_kind_within" sPNeedKindWithin ["kind", "letters", "room"]
  p_need_choice : Def K mg "_need_choice" sPNeedChoice ["choice", "letters", "room"]
  p_need_fields : DefA K mg "need_fields_kinds" "_need_fields" sPNeedFields ["fields", "letters", "room"]
  p_need_letter : Def K mg "_need_letter" sPNeedLetter ["letter", "letters"]
  is_word : Def K mg "is_word" sIsWord ["thing"]
  has_word_signs : Def K mg "has_word_signs" sHasWordSigns ["text"]
  is_letter : Def K mg "is_letter" sIsLetter ["thing"]
  p_has_word_length : Def K mg "_has_word_length" sPHasWordLength ["thing"]
  are_fields : Def K mg "are_fields" sAreFields ["thing"]
  need_program : Def K mg "need_program" sNeedProgram ["program"]
  p_need_function : Def K mg "_need_function" sPNeedFunction ["function", "earlier"]
  p_need_pairs : Def K mg "_need_pairs" sPNeedPairs ["pairs", "may_lead"]
  p_need_part : Def K mg "_need_part" sPNeedPart ["part", "place"]
  p_form_of : Def K mg "_form_of" sPFormOf ["part"]
  p_need_all_handed : Def K mg "_need_all_handed" sPNeedAllHanded ["part", "function"]
  p_need_within : Def K mg "_need_within" sPNeedWithin ["told", "place"]
  p_need_whole : Def K mg "_need_whole" sPNeedWhole ["told", "place"]
  p_need_text : Def K mg "_need_text" sPNeedText ["told", "place"]
  p_need_known : Def K mg "_need_known" sPNeedKnown ["told", "place"]
  p_need_word : Def K mg "_need_word" sPNeedWord ["told", "place"]
  p_need_head : Def K mg "_need_head" sPNeedHead ["told", "place"]
  p_need_kind_here : Def K mg "_need_kind_here" sPNeedKindHere ["told", "place"]
  p_need_parts : Def K mg "_need_parts" sPNeedParts ["told", "place"]
  p_need_handed : Def K mg "_need_handed" sPNeedHanded ["told", "place"]
  p_need_fields2 : Def K mg "_need_fields" sPNeedFields2 ["told", "place"]
  p_need_told_earlier : Def K mg "_need_told_earlier" sPNeedToldEarlier ["told", "place"]
  p_need_kinds : Def K mg "_need_kinds" sPNeedKinds ["told", "place"]
  begun : Def K mg "_law_begun" sBegun ["_law_script"]
  taken : Def K mg "_law_taken" sTaken ["_law_s", "_law_most"]
  word : Def K mg "_law_word" sWord ["_law_s", "_law_k"]
  kind : Def K mg "_law_kind" sKind ["_law_s", "_law_deep", "_law_letters"]
  choice : Def K mg "_law_choice" sChoice ["_law_s", "_law_deep", "_law_letters"]
  fields : Def K mg "_law_fields" sFields ["_law_s", "_law_deep", "_law_letters"]
  bounds : Def K mg "_law_bounds" sBounds ["_law_s", "_law_most"]
  text : Def K mg "_law_text" sText ["_law_s"]
  number : Def K mg "_law_number" sNumber ["_law_s"]
  l_head_of : Def K mg "_law_head_of" sLHeadOf ["_law_choice_here"]
  heads_of : Def K mg "_law_heads_of" sHeadsOf ["_law_choice_here", "_law_bounds_here"]
  answers : Def K mg "_law_answers" sAnswers ["_law_head", "_law_ask_here"]
  side : Def K mg "_law_side" sSide ["_law_kind_here", "_law_bounds_here", "_law_ask_here", "_law_yes"]
  ask : Def K mg "_law_ask" sAsk ["_law_s"]
  within : Def K mg "_law_within" sWithin ["_law_kind_here", "_law_due"]
  l_with : Def K mg "_law_with" sLWith ["_law_names", "_law_name", "_law_kind_here"]
  part : Def K mg "_law_part" sPart ["_law_s", "_law_due", "_law_names", "_law_bounds_here", "_law_deep"]
  written : Def K mg "_law_written" sWritten ["_law_s", "_law_choice_here", "_law_names", "_law_bounds_here", "_law_deep"]
  reckoned : Def K mg "_law_reckoned" sReckoned ["_law_s", "_law_choice_here", "_law_names", "_law_bounds_here", "_law_deep"]
  way : Def K mg "_law_way" sWay ["_law_s", "_law_due", "_law_names", "_law_bounds_here", "_law_deep", "_law_way_here"]
  new : Def K mg "_law_new" sNew ["_law_s", "_law_due", "_law_names", "_law_bounds_here", "_law_deep"]
  call : Def K mg "_law_call" sCall ["_law_s", "_law_due", "_law_names", "_law_bounds_here", "_law_deep"]
  function : Def K mg "_law_function" sFunction ["_law_s", "_law_k"]
  program : Def K mg "_law_program" sProgram ["_law_s", "_law_many"]
  fill : Def K mg "_law_fill" sFill ["_law_kind_here", "_law_given"]
  handed : Def K mg "_law_handed" sHanded ["_law_s", "_law_bound", "_law_due", "_law_bounds_here"]
  m_ValueError : mg "ValueError" = none
  m_abs : mg "abs" = none
  m_all : mg "all" = none
  m_any : mg "any" = none
  m_bool : mg "bool" = none
  m_dict : mg "dict" = none
  m_int : mg "int" = none
  m_isinstance : mg "isinstance" = none
  m_len : mg "len" = none
  m_list : mg "list" = none
  m_max : mg "max" = none
  m_ord : mg "ord" = none
  m_range : mg "range" = none
  m_set : mg "set" = none
  m_sorted : mg "sorted" = none
  m_str : mg "str" = none
  m_sum : mg "sum" = none
  m_tuple : mg "tuple" = none
  m_zip : mg "zip" = none
end Sc
namespace Sc
open PySem PyProof.Rows L2
section
variable {P : Program} {w : World} {K : PySem.W.Frag} {mg : Str → Option Value} {base : Heap}
theorem scTaken : FnScope ["_law_s", "_law_most", "_law_found"] ["_law_s", "_law_most"] (defScope sTaken) := ⟨rfl, rfl, rfl, by decide +kernel, rfl, by decide +kernel, by decide +kernel⟩
theorem c_taken (T : Tx K mg) : Cal P w K mg base 1 "_law_taken" ["_law_s", "_law_most"] (spTaken K) := by
  refine T.taken.ok scTaken (fun vs H Q E h => ?_) (fun f cdv A outer s H vs Q E hr h => ?_)
  · obtain ⟨s, i, m, rfl, _⟩ := h
    rfl
  obtain ⟨s, i, m, rfl, ⟨ns, g, hs, hc, hl, iok, ok⟩, m0, mb, q⟩ := h
  have hu := hu_of hr
  have ml := T.m_len
  refine ⟨_, pss_cons (ps_if (pt_cmpR op_eq (pe_dget hu (pv 0) pe_str (fun _ _ => rfl)) pe_int (nomark _))
      (pss_cons (ps_dput hu (pv 0) pe_str (pe_op op_add (pe_dget hu (pv 0) pe_str (fun _ _ => rfl)) pe_int) rfl)
      (pss_cons (ps_if (pt_cmpR op_gt (pe_dget hu (pv 0) pe_str (fun _ _ => rfl)) (pe_callB call_len_seq (by rfl) ml PySem.boot_len (pa_cons (pe_dget hu (pv 0) pe_str (fun _ _ => rfl)) pa_nil)) (nomark _))
        (pss_cons (ps_dput hu (pv 0) pe_str (pe_op op_mod (pe_op op_add (pe_op op_mul (pe_dget hu (pv 0) pe_str (fun _ _ => rfl)) pe_int) pe_int) pe_int) rfl)
        (pss_cons (ps_set (i := 2) scTaken.nd rfl (Or.inl rfl) (pe_op op_fdiv (pe_dget hu (pv 0) pe_str (fun _ _ => rfl)) pe_int))
        (pss_one (ps_ret (pe_ifExp (pt_cmpR op_gt (pv 1) (pe_op op_pow pe_int pe_int) (nomark _)) (pe_op op_modN (pe_op op_pow (pv 2) pe_int) (pv 1)) (pe_op op_modN (pv 2) (pv 1)))))))
        pss_nil)
      (pss_cons (ps_if (pt_cmpR op_lt (pe_ix ix_list (pe_dget hu (pv 0) pe_str (fun _ _ => rfl)) (pe_op op_sub (pe_dget hu (pv 0) pe_str (fun _ _ => rfl)) pe_int) (fun _ _ => rfl)) (pe_op op_pow pe_int pe_int) (nomark _))
        (pss_one (ps_ret (pe_op op_modN (pe_ix ix_list (pe_dget hu (pv 0) pe_str (fun _ _ => rfl)) (pe_op op_sub (pe_dget hu (pv 0) pe_str (fun _ _ => rfl)) pe_int) (fun _ _ => rfl)) (pv 1))))
        pss_nil)
      (pss_one (ps_dput hu (pv 0) pe_str (pe_ix ix_list (pe_dget hu (pv 0) pe_str (fun _ _ => rfl)) (pe_op op_sub (pe_dget hu (pv 0) pe_str (fun _ _ => rfl)) pe_int) (fun _ _ => rfl)) rfl)))))
      pss_nil)
    (pss_cons (ps_set (i := 2) scTaken.nd rfl (Or.inl rfl) (pe_op op_modN (pe_dget hu (pv 0) pe_str (fun _ _ => rfl)) (pv 1)))
    (pss_cons (ps_dput hu (pv 0) pe_str (pe_op op_fdivW (pe_dget hu (pv 0) pe_str (fun _ _ => rfl)) (pv 1)) rfl)
    (pss_one (ps_ret (pv 2))))), ?_⟩
  -- the rows behind the if, from any state
  have last : ∀ (H1 : Hp) (g1 : Mv) (v2 : Option V), H1 s = some (.dK (stD i g1)) → SqL K H1 i.c (ns.map V.int) → g1.Ok → Ext s H H1 →
      tSeq (tAsg (tOp (rI (fun _ j => j ≠ 0) fun i j => V.int (i.fmod j)) (tDGet (tVar 0) (tC (.str "rest"))) (tVar 1)) (gName 2))
        (tSeq (sDPut (tVar 0) (tC (.str "rest")) (tOp (rI CDivW fun i j => V.int (i / j)) (tDGet (tVar 0) (tC (.str "rest"))) (tVar 1))) (tRet (tVar 2)))
        { nx := fun _ H' => Q .non H', rt := Q } [some (.ref s), some (.int m), v2] H1 := fun H1 g1 v2 hs1 hc1 ok1 e1 => by
    refine ⟨_, rfl, s, _, rfl, gS hs1 rfl, _, rfl, _, _, rfl, rfl, by omega, ?_⟩
    refine ⟨_, rfl, s, _, rfl, gS hs1 rfl, _, rfl, _, _, rfl, rfl, ⟨m0, ?_⟩, _, rfl, s, _, rfl, pS hs1 (p_rest i g1 _), _, rfl, ?_⟩
    · exact Nat.lt_trans (PySem.Flt.log2_lt_of (by decide) mb) (by decide)
    have em : g1.rest.fmod m = g1.rest % m := Int.fmod_eq_emod_of_nonneg _ (by omega)
    refine q _ _ (by rw [em]; exact Int.emod_nonneg _ (by omega)) (by rw [em]; exact Int.emod_lt_of_pos _ m0) (e1.trans (Ext.upd _ _ _)) ⟨ns, _, upd_same, (Ext.upd s H1 _).seq hs1 hc1, hl, iok, ?_⟩
    exact { ok1 with r0 := Int.ediv_nonneg ok1.r0 (by omega) }
  refine ⟨_, rfl, s, _, rfl, gS hs rfl, rfl, _, rfl, ite2 (fun c1 => ?_) (fun c1 => last H g none hs hc ok (Ext.refl s H))⟩
  refine ⟨_, rfl, s, _, rfl, gS hs rfl, _, _, rfl, rfl, _, rfl, s, _, rfl, pS hs (p_at i g _), ?_⟩
  have hs1 : (upd H s (.dK (stD i { g with att := g.att + 1 }))) s = _ := upd_same
  have e1 := Ext.upd s H (.dK (stD i { g with att := g.att + 1 }))
  have hc1 := e1.seq hs hc
  have ok1 : ({ g with att := g.att + 1 } : Mv).Ok := { ok with a0 := by have := ok.a0; show 0 ≤ g.att + 1; omega }
  generalize upd H s (.dK (stD i { g with att := g.att + 1 })) = H1 at hs1 e1 hc1 ⊢
  have a1 : 1 ≤ ({ g with att := g.att + 1 } : Mv).att := by have := ok.a0; show 1 ≤ g.att + 1; omega
  generalize ({ g with att := g.att + 1 } : Mv) = g1 at hs1 ok1 a1 ⊢
  refine ⟨_, rfl, s, _, rfl, gS hs1 rfl, _, rfl, s, _, rfl, gS hs1 rfl, i.c, _, rfl, .inl hc1, _, _, rfl, rfl, _, rfl, ite2 (fun c2 => ?_) (fun c2 => ?_)⟩
  · refine ⟨_, rfl, s, _, rfl, gS hs1 rfl, _, _, rfl, rfl, .inr (by decide), _, _, rfl, rfl, _, _, rfl, rfl, (by show (0 : Int) < 2147483647; decide), _, rfl, s, _, rfl, pS hs1 (p_seed i g1 _), ?_⟩
    have s0 : 0 ≤ (g1.seed * 48271 + 11) % 2147483647 := Int.emod_nonneg _ (by decide)
    have s1 : (g1.seed * 48271 + 11) % 2147483647 < 2147483647 := Int.emod_lt_of_pos _ (by decide)
    generalize (g1.seed * 48271 + 11) % 2147483647 = sd at s0 s1 ⊢
    have hs2 : (upd H1 s (.dK (stD i { g1 with seed := sd }))) s = _ := upd_same
    have e2 := Ext.upd s H1 (.dK (stD i { g1 with seed := sd }))
    have hc2 := e2.seq hs1 hc1
    have ok2 : ({ g1 with seed := sd } : Mv).Ok := { ok1 with e0 := s0 }
    generalize upd H1 s (.dK (stD i { g1 with seed := sd })) = H2 at hs2 e2 hc2 ⊢
    refine ⟨_, rfl, s, _, rfl, gS hs2 rfl, _, _, rfl, rfl, ⟨by decide, by decide⟩, _, rfl, _, _, rfl, rfl, ⟨by decide, by decide, by decide⟩, _, _, rfl, rfl, _, rfl, ?_⟩
    have fin : ∀ x : Int, Q (.int (x.fmod m)) H2 := fun x => by
      have em : x.fmod m = x % m := Int.fmod_eq_emod_of_nonneg _ (by omega)
      rw [em]
      exact q _ _ (Int.emod_nonneg _ (by omega)) (Int.emod_lt_of_pos _ m0) (e1.trans e2) ⟨ns, _, hs2, hc2, hl, iok, ok2⟩
    refine ite2 (fun c3 => ?_) (fun c3 => ?_)
    · refine ⟨_, rfl, _, _, rfl, rfl, ⟨by decide, by decide, ?_⟩, _, rfl, _, _, rfl, rfl, by omega, fin _⟩
      show (sd / 64).natAbs < 2 ^ 64
      omega
    · exact ⟨_, rfl, _, rfl, _, _, rfl, rfl, by omega, fin _⟩
  · have hlt : g1.att - 1 < (ns.length : Int) := by
      have c2' : ¬ (((ns.map V.int).length : Nat) : Int) < g1.att := of_decide_eq_false (Bool.eq_false_iff.mpr c2)
      rw [List.length_map] at c2'
      omega
    obtain ⟨j, hj⟩ : ∃ j : Nat, g1.att - 1 = (j : Int) := ⟨(g1.att - 1).toNat, by omega⟩
    have hjl : j < ns.length := by omega
    have hat : atI (ns.map V.int) (g1.att - 1) = some (.int ns[j]) := by
      rw [hj]
      exact atI_nat (by rw [List.getElem?_map, List.getElem?_eq_getElem hjl] <;> rfl)
    refine ⟨_, rfl, s, _, rfl, gS hs1 rfl, _, rfl, s, _, rfl, gS hs1 rfl, _, _, rfl, rfl, i.c, _, _, _, rfl, rfl, hc1, hat, _, _, rfl, rfl, ⟨by decide, by decide, by decide⟩, _, _, rfl, rfl, _, rfl, ite2 (fun c3 => ?_) (fun c3 => ?_)⟩
    · have em : ns[j].fmod m = ns[j] % m := Int.fmod_eq_emod_of_nonneg _ (by omega)
      refine ⟨_, rfl, s, _, rfl, gS hs1 rfl, _, rfl, s, _, rfl, gS hs1 rfl, _, _, rfl, rfl, i.c, _, _, _, rfl, rfl, hc1, hat, _, rfl, _, _, rfl, rfl, by omega, ?_⟩
      exact q _ _ (by rw [em]; exact Int.emod_nonneg _ (by omega)) (by rw [em]; exact Int.emod_lt_of_pos _ m0) e1 ⟨ns, _, hs1, hc1, hl, iok, ok1⟩
    · refine ⟨_, rfl, s, _, rfl, gS hs1 rfl, _, rfl, s, _, rfl, gS hs1 rfl, _, _, rfl, rfl, i.c, _, _, _, rfl, rfl, hc1, hat, _, rfl, s, _, rfl, pS hs1 (p_rest i g1 _), ?_⟩
      have c3' : ¬ ns[j] < 10 ^ 18 := of_decide_eq_false (Bool.eq_false_iff.mpr c3)
      exact last _ _ none upd_same ((Ext.upd s H1 _).seq hs1 hc1) { ok1 with r0 := by show 0 ≤ ns[j]; omega } (e1.trans (Ext.upd _ _ _))
end
end Sc
namespace Sc
open PySem PyProof.Rows L2
section
variable {P : Program} {w : World} {K : PySem.W.Frag} {mg : Str → Option Value} {base : Heap}
def d9 (c fl : Addr) : List (Key × V) := [(.inr "cells", .ref c), (.inr "at", .int 0), (.inr "size", .int 1), (.inr "place", .int 0), (.inr "turn", .int 0), (.inr "rest", .int 0),
  (.inr "functions", .ref fl), (.inr "odd", .int 0), (.inr "talk", .int 0)]
theorem merge9 (c fl : Addr) : mergeK [] (d9 c fl) = d9 c fl := by kernel_rfl
theorem seed9 (c fl : Addr) (n : Int) : putK (d9 c fl) (.inr "seed") (.int n) = stD ⟨c, fl, 1, 0, 0, 0, 0⟩ ⟨0, 0, n⟩ := by rfl
theorem scBegun : FnScope ["_law_script", "_law_s", "_law_cell"] ["_law_script"] (defScope sBegun) := ⟨rfl, rfl, rfl, by decide +kernel, rfl, by decide +kernel, by decide +kernel⟩
theorem c_begun (T : Tx K mg) : Cal P w K mg base 2 "_law_begun" ["_law_script"] (spBegun K) := by
  have CT : Cal P w K mg base 1 "_law_taken" ["_law_s", "_law_most"] (spTaken K) := c_taken T
  refine T.begun.ok scBegun (fun vs H Q E h => ?_) (fun f cdv A outer s H vs Q E hr h => ?_)
  · obtain ⟨c, ns, rfl, _⟩ := h
    rfl
  obtain ⟨c, ns, rfl, hc, hl, q⟩ := h
  have hu := hu_of hr
  refine ⟨_, pss_cons (ps_set (i := 1) scBegun.nd rfl (Or.inl rfl) (pe_disp (pps_cons pe_str (pv 0) (pps_cons pe_str pe_int (pps_cons pe_str pe_int (pps_cons pe_str pe_int (pps_cons pe_str pe_int (pps_cons pe_str pe_int
        (pps_cons pe_str (pe_lst pa_nil) (pps_cons pe_str pe_int (pps_cons pe_str pe_int pps_nil))))))))) (by rfl) (by rfl) (fun z => by cases z) (by decide)))
    (pss_cons (ps_dput hu (pv 1) pe_str (pe_op op_add pe_int (pe_callB (cr_sum rfl) (by rfl) T.m_sum (by decide +kernel) (pa_cons
        (pe_lc (own := [("_law_cell", 2)]) (g := gName 2) (tt := tYes) rfl scBegun.nd (pi_list (pv 0)) (blkOk_by (N := ["_law_script", "_law_s", "_law_cell"]) (sc := defScope sBegun) (by decide +kernel))
          (fun _ _ _ _ _ => pg_name (i := 2) scBegun.nd rfl (Or.inl rfl)) (fun _ _ _ _ _ => pts_nil)
          (fun _ _ _ _ _ => pe_op op_mul pe_int (pe_callB call_abs (by rfl) T.m_abs (by decide +kernel) (pa_cons (pv 2) pa_nil)))) pa_nil))) rfl)
    (pss_cons (ps_dput hu (pv 1) pe_str (pe_op op_add pe_int (pe_cal CT hr (pa_cons (pv 1) (pa_cons pe_int pa_nil)))) rfl)
    (pss_cons (ps_dput hu (pv 1) pe_str (pe_cal CT hr (pa_cons (pv 1) (pa_cons (pe_dget hu (pv 1) pe_str (fun _ _ => rfl)) pa_nil))) rfl)
    (pss_cons (ps_dput hu (pv 1) pe_str (pe_cal CT hr (pa_cons (pv 1) (pa_cons pe_int pa_nil))) rfl)
    (pss_cons (ps_dput hu (pv 1) pe_str (pe_callTy call_int1 (by rfl) T.m_int (by decide +kernel) (pa_cons (pe_cmpR op_eq (pe_cal CT hr (pa_cons (pv 1) (pa_cons pe_int pa_nil))) pe_int (nomark _)) pa_nil)) rfl)
    (pss_one (ps_ret (pv 1)))))))), ?_⟩
  refine fun s hs0 => ⟨_, rfl, Nat.zero_le _, fun fl hfl => ⟨?_, d9 c fl, rfl, by show 9 ≤ 15; decide, ?_⟩⟩
  · rw [upd_ne (ne_of_none upd_same hfl)]
    exact upd_same
  have hfl0 : H fl = none := (same_new hs0 (.dK [])).free hfl
  have nsf : s ≠ fl := ne_of_none upd_same hfl
  have e0 : Same H (upd (upd (upd H s (.dK [])) fl (.lst [])) s (.dK (mergeK [] (d9 c fl)))) := fun b o h => by
    rw [upd_ne (ne_of_none h hs0), upd_ne (ne_of_none h hfl0), upd_ne (ne_of_none h hs0)]
    exact h
  have f0 : (upd (upd (upd H s (.dK [])) fl (.lst [])) s (.dK (mergeK [] (d9 c fl)))) fl = some (.lst []) := by rw [upd_ne nsf.symm, upd_same]
  have d0 : (upd (upd (upd H s (.dK [])) fl (.lst [])) s (.dK (mergeK [] (d9 c fl)))) s = some (.dK (d9 c fl)) := by rw [upd_same, merge9]
  generalize (upd (upd (upd H s (.dK [])) fl (.lst [])) s (.dK (mergeK [] (d9 c fl)))) = H1 at e0 f0 d0 ⊢
  refine ⟨_, rfl, c, rfl, ⟨_, Same.seq e0 hc⟩, fun D hD => lc_list (K := K) (a := c) (xs := ns.map V.int) (fun j H2 => Same H1 H2 ∧ H2 D = some (.lst ((ns.take j).map fun z => V.int (31 * (if z < 0 then -z else z))))) ⟨same_new hD _, upd_same⟩
    (fun j H2 _ h => Same.seq (e0.trans h.1) hc) ?_ ?_⟩
  · rintro j x H2 hx ⟨e2, h2⟩
    rw [List.getElem?_map] at hx
    obtain ⟨z, hz, rfl⟩ := Option.map_eq_some_iff.mp hx
    refine ⟨rfl, _, rfl, z, rfl, _, _, rfl, rfl, .inl ⟨by decide, by decide⟩, _, h2, ?_, fun b o hb => ?_, ?_⟩
    · rw [List.length_map]
      exact small1000 (Nat.le_trans (List.length_take_le' _ _) (by omega))
    · rw [upd_ne (ne_of_none hb hD)]
      exact e2 b o hb
    · rw [upd_same, List.take_add_one, hz, List.map_append]
      rfl
  rintro H2 ⟨e2, h2⟩
  refine ⟨D, ns.map fun z => 31 * (if z < 0 then -z else z), rfl, ?_, _, _, rfl, rfl, _, rfl, s, _, rfl, DPut.k (k := Sum.inr "seed") (e2 _ _ d0) (by show 9 < sizeLine; decide), ?_⟩
  · rw [List.length_map, List.take_length] at h2
    rw [List.map_map]
    exact SqL.of h2
  rw [seed9]
  have hc2 : SqL K H2 c (ns.map V.int) := Same.seq (e0.trans e2) hc
  have x3 := Ext.upd s H2 (.dK (stD ⟨c, fl, 1, 0, 0, 0, 0⟩ ⟨0, 0, 7 + (ns.map fun z => 31 * (if z < 0 then -z else z)).sum⟩))
  have hs2 : (upd H2 s (.dK (stD ⟨c, fl, 1, 0, 0, 0, 0⟩ ⟨0, 0, 7 + (ns.map fun z => 31 * (if z < 0 then -z else z)).sum⟩))) s = _ := upd_same
  have hf2 : (upd H2 s (.dK (stD ⟨c, fl, 1, 0, 0, 0, 0⟩ ⟨0, 0, 7 + (ns.map fun z => 31 * (if z < 0 then -z else z)).sum⟩))) fl = some (.lst []) := by rw [upd_ne nsf.symm]; exact e2 _ _ f0
  have x03 : Ext s H (upd H2 s (.dK (stD ⟨c, fl, 1, 0, 0, 0, 0⟩ ⟨0, 0, 7 + (ns.map fun z => 31 * (if z < 0 then -z else z)).sum⟩))) := (Ext.same (e0.trans e2)).trans x3
  have hc3 := x3.seq (e2 _ _ d0) hc2
  generalize (upd H2 s (.dK (stD ⟨c, fl, 1, 0, 0, 0, 0⟩ ⟨0, 0, 7 + (ns.map fun z => 31 * (if z < 0 then -z else z)).sum⟩))) = H3 at hs2 hf2 x03 hc3 ⊢
  have sum0 : ∀ l : List Int, 0 ≤ (l.map fun z => 31 * (if z < 0 then -z else z)).sum := fun l => by
    induction l with
    | nil => exact Int.le_refl 0
    | cons z l ih =>
      rw [List.map_cons, List.sum_cons]
      split <;> omega
  have S3 : IsS K H3 s ⟨c, fl, 1, 0, 0, 0, 0⟩ := ⟨ns, _, hs2, hc3, hl, ⟨by show (1 : Int) ≤ 1; decide, by show (1 : Int) ≤ 8; decide, by show (0 : Int) ≤ 0; decide, by show (0 : Int) < 1; decide, by show (0 : Int) ≤ 0; decide, by show (0 : Int) < 26; decide, by show (0 : Int) ≤ 0; decide, by show (0 : Int) ≤ 1; decide⟩,
    ⟨by show (0 : Int) ≤ 0; decide, by show (0 : Int) ≤ 0; decide, by have := sum0 ns; show 0 ≤ 7 + _; omega⟩⟩
  -- the four draws
  have put : ∀ {H4 : Hp} {i i' : Inf} {k : Str} {v : V}, IsS K H4 s i → (∀ m, putK (stD i m) (.inr k) v = stD i' m) → i'.c = i.c → i'.Ok → ∃ H5, DPut H4 s (.str k) v H5 ∧ IsS K H5 s i' ∧ Ext s H4 H5 := fun {H4 i i' k v} h hp hi ho => by
    obtain ⟨ns, m, a1, a2, a3, a4, a5⟩ := h
    exact ⟨_, pS a1 (hp m), ⟨ns, m, upd_same, by rw [hi]; exact (Ext.upd s H4 _).seq a1 a2, a3, ho, a5⟩, Ext.upd s H4 _⟩
  refine ⟨_, rfl, s, _, 8, rfl, S3, by decide, by decide, fun r1 H4 a1 b1 x4 S4 => ?_⟩
  obtain ⟨H5, p5, S5, x5⟩ := put (k := "size") (v := .int (1 + r1)) S4 (fun m => p_size _ m _) rfl { s1 := by show 1 ≤ 1 + r1; omega, s8 := by show 1 + r1 ≤ 8; omega, p0 := by show (0 : Int) ≤ 0; decide, p1 := by show 0 < 1 + r1; omega, t0 := by show (0 : Int) ≤ 0; decide, t1 := by show (0 : Int) < 26; decide, k0 := by show (0 : Int) ≤ 0; decide, k1 := by show (0 : Int) ≤ 1; decide }
  refine ⟨_, _, rfl, rfl, _, rfl, s, _, rfl, p5, ?_⟩
  obtain ⟨ns5, m5, h5, _⟩ := id S5
  refine ⟨_, rfl, _, rfl, s, _, rfl, gS h5 rfl, s, _, _, rfl, S5, by show 0 < 1 + r1; omega, ?_, fun r2 H6 a2 b2 x6 S6 => ?_⟩
  · show (1 + r1).natAbs < 2 ^ 200
    exact Nat.lt_trans (show (1 + r1).natAbs < 100 by omega) (by decide)
  have b2' : r2 < 1 + r1 := b2
  obtain ⟨H7, p7, S7, x7⟩ := put (k := "place") (v := .int r2) S6 (fun m => p_place _ m _) rfl { s1 := by show 1 ≤ 1 + r1; omega, s8 := by show 1 + r1 ≤ 8; omega, p0 := a2, p1 := b2, t0 := by show (0 : Int) ≤ 0; decide, t1 := by show (0 : Int) < 26; decide, k0 := by show (0 : Int) ≤ 0; decide, k1 := by show (0 : Int) ≤ 1; decide }
  refine ⟨_, rfl, s, _, rfl, p7, ?_⟩
  refine ⟨_, rfl, s, _, 26, rfl, S7, by decide, by decide, fun r3 H8 a3 b3 x8 S8 => ?_⟩
  obtain ⟨H9, p9, S9, x9⟩ := put (k := "turn") (v := .int r3) S8 (fun m => p_turn _ m _) rfl { s1 := by show 1 ≤ 1 + r1; omega, s8 := by show 1 + r1 ≤ 8; omega, p0 := a2, p1 := b2, t0 := a3, t1 := b3, k0 := by show (0 : Int) ≤ 0; decide, k1 := by show (0 : Int) ≤ 1; decide }
  refine ⟨_, rfl, s, _, rfl, p9, ?_⟩
  refine ⟨_, rfl, s, _, 9, rfl, S9, by decide, by decide, fun r4 Ha a4 b4 xa Sa => ⟨rfl, .inr ⟨_, rfl, ?_⟩⟩⟩
  obtain ⟨Hb, pb, Sb, xb⟩ := put (k := "talk") (v := .int (if decide (V.int r4 = V.int 8) = true then 1 else 0)) Sa (fun m => p_talk _ m _) rfl { s1 := by show 1 ≤ 1 + r1; omega, s8 := by show 1 + r1 ≤ 8; omega, p0 := a2, p1 := b2, t0 := a3, t1 := b3, k0 := by show (0 : Int) ≤ ite _ _ _; split <;> decide, k1 := by show ite _ _ _ ≤ (1 : Int); split <;> decide }
  refine ⟨_, rfl, s, _, rfl, pb, _, rfl, ?_⟩
  have xx := x4.trans (x5.trans (x6.trans (x7.trans (x8.trans (x9.trans (xa.trans xb))))))
  refine q s _ Hb (fun b o h => ?_) hs0 rfl rfl (xx _ _ nsf.symm hf2) hfl0 Sb
  exact (x03.trans xx) b o (ne_of_none h hs0) h
end
end Sc
namespace Sc
open PySem PyProof.Rows L2
section
variable {P : Program} {w : World} {K : PySem.W.Frag} {mg : Str → Option Value} {base : Heap}
theorem scWord : FnScope ["_law_s", "_law_k", "_law_words", "_law_sign"] ["_law_s", "_law_k"] (defScope sWord) := ⟨rfl, rfl, rfl, by decide +kernel, rfl, by decide +kernel, by decide +kernel⟩
theorem abc_at : ∀ n : Nat, n < 26 → ("abcdefghijklmnopqrstuvwxyz" : Str).cps[n]? = some (97 + n) := by decide +kernel
theorem abc_len : ("abcdefghijklmnopqrstuvwxyz" : Str).length = 26 := by decide +kernel
theorem c_word (T : Tx K mg) : Cal P w K mg base 1 "_law_word" ["_law_s", "_law_k"] (spWord K) := by
  refine T.word.ok scWord (fun vs H Q E h => ?_) (fun f cdv A outer s H vs Q E hr h => ?_)
  · obtain ⟨s, i, k, rfl, _⟩ := h
    rfl
  obtain ⟨s, i, k, rfl, ⟨ns, m, hs, hc, hl, iok, ok⟩, k0, q⟩ := h
  have hu := hu_of hr
  refine ⟨_, pss_cons (ps_if (PW.pt (pw_and (pt_cmpR op_eq (pe_dget hu (pv 0) pe_str (fun _ _ => rfl)) pe_int (nomark _)) (pw_and1 (pt_cmpR op_lt (pv 1) pe_int (nomark _)))))
      (pss_cons (ps_set (i := 2) scWord.nd rfl (Or.inl rfl) (pe_lst (pa_cons pe_str (pa_cons pe_str (pa_cons pe_str (pa_cons pe_str (pa_cons pe_str (pa_cons pe_str (pa_cons pe_str (pa_cons pe_str
          (pa_cons pe_str (pa_cons pe_str (pa_cons pe_str (pa_cons pe_str (pa_cons pe_str (pa_cons pe_str pa_nil))))))))))))))))
      (pss_one (ps_ret (pe_ix ix_list (pe_op op_cat (pv 2) (pe_lst (pa_cons pe_str (pa_cons pe_str (pa_cons pe_str (pa_cons pe_str (pa_cons pe_str pa_nil))))))) (pv 1) (fun _ _ => rfl)))))
      pss_nil)
    (pss_cons (ps_set (i := 3) scWord.nd rfl (Or.inl rfl) (pe_item_str pe_str (pe_op op_mod (pe_op op_add (pv 1) (pe_dget hu (pv 0) pe_str (fun _ _ => rfl))) pe_int) (fun _ _ => rfl)))
    (pss_one (ps_ret (pe_op op_add_str (pe_op op_add_str (pe_op op_reps pe_str (pe_dget hu (pv 0) pe_str (fun _ _ => rfl))) (pv 3))
      (pe_op op_reps pe_str (pe_op op_sub (pe_op op_sub (pe_dget hu (pv 0) pe_str (fun _ _ => rfl)) (pe_dget hu (pv 0) pe_str (fun _ _ => rfl))) pe_int)))))), ?_⟩
  have plain : ¬ (i.talk = 1 ∧ k < 19) → ∀ v2, tSeq (tAsg (tOp (fun x y H Q => ∃ z i c, x = .str z ∧ y = .int i ∧ 0 ≤ i ∧ i < 2 ^ 63 ∧ i < z.length ∧ z.cps[i.toNat]? = some c ∧ Q (.str ⟨#[c]⟩) H) (tC (.str "abcdefghijklmnopqrstuvwxyz"))
      (tOp (rI (fun _ j => 0 < j) fun i j => V.int (i % j)) (tOp (rI0 fun i j => V.int (i + j)) (tVar 1) (tDGet (tVar 0) (tC (.str "turn")))) (tC (.int 26)))) (gName 3))
      (tRet (tOp (fun x y H Q => ∃ i j, x = .str i ∧ y = .str j ∧ i.length + j.length ≤ sizeLine ∧ Q (.str (i ++ j)) H) (tOp (fun x y H Q => ∃ i j, x = .str i ∧ y = .str j ∧ i.length + j.length ≤ sizeLine ∧ Q (.str (i ++ j)) H)
        (tOp rReps (tC (.str "q")) (tDGet (tVar 0) (tC (.str "place")))) (tVar 3)) (tOp rReps (tC (.str "q")) (tOp (rI0 fun i j => V.int (i - j)) (tOp (rI0 fun i j => V.int (i - j)) (tDGet (tVar 0) (tC (.str "size"))) (tDGet (tVar 0) (tC (.str "place")))) (tC (.int 1))))))
      { nx := fun _ H' => Q .non H', rt := Q } [some (.ref s), some (.int k), v2, none] H := fun no v2 => by
    have j0 : 0 ≤ (k + i.turn) % 26 := Int.emod_nonneg _ (by decide)
    have j1 : (k + i.turn) % 26 < 26 := Int.emod_lt_of_pos _ (by decide)
    have ew : wordOf i k = reps 113 i.place.toNat ++ signAt (97 + ((k + i.turn) % 26).toNat) ++ reps 113 (i.size - i.place - 1).toNat := if_neg no
    obtain ⟨s1, s8, p0, p1, t0, t1, _, _⟩ := iok
    refine ⟨_, rfl, _, rfl, s, _, rfl, gS hs rfl, _, _, rfl, rfl, _, _, rfl, rfl, (by show (0 : Int) < 26; decide), _, _, _, rfl, rfl, j0, by omega, by rw [abc_len]; exact j1, abc_at _ (by omega), ?_⟩
    refine ⟨_, rfl, s, _, rfl, gS hs rfl, 113, _, rfl, rfl, p0, by omega, _, rfl, _, _, rfl, rfl, ?_, _, rfl, s, _, rfl, gS hs rfl, _, rfl, s, _, rfl, gS hs rfl, _, _, rfl, rfl, _, _, rfl, rfl, 113, _, rfl, rfl, by omega, by omega, _, _, rfl, rfl, ?_, ?_⟩
    · rw [len_list, len_list, reps_list, List.length_replicate]
      show _ + 1 ≤ sizeLine
      rw [sizeLine_eq]; omega
    · rw [len_list, len_list, app_list, reps_list, reps_list, List.length_append, List.length_replicate, List.length_replicate]
      show _ + 1 + _ ≤ sizeLine
      rw [sizeLine_eq]; omega
    · have z := q H (Same.refl H)
      rw [ew] at z
      exact z
  refine ⟨_, rfl, s, _, rfl, gS hs rfl, rfl, _, rfl, ite2 (fun c1 => ?_) (fun c1 => ?_)⟩
  · refine ⟨_, rfl, _, _, rfl, rfl, _, rfl, ite2 (fun c2 => ?_) (fun c2 => plain (fun z => c2 (decide_eq_true z.2)) none)⟩
    have c1' : i.talk = 1 := by
      have z := of_decide_eq_true c1
      injection z
    have c2' : k < 19 := of_decide_eq_true c2
    refine ⟨(by show 14 ≤ sizeLine; decide), fun p hp => ⟨_, rfl, (by show 5 ≤ sizeLine; decide), fun p2 hp2 => ?_⟩⟩
    refine ⟨p, p2, _, _, rfl, rfl, by rw [upd_ne (ne_of_none upd_same hp2)]; exact upd_same, upd_same, (by show 14 + 5 ≤ sizeLine; decide), fun p3 hp3 => ⟨_, rfl, p3, talks.map V.str, k, .str (wordOf i k), rfl, rfl, SqL.of upd_same, ?_, ?_⟩⟩
    · have lt : k.toNat < talks.length := by show k.toNat < 19; omega
      have e : wordOf i k = talks[k.toNat] := by
        unfold wordOf
        rw [if_pos ⟨c1', c2'⟩, List.getD_eq_getElem?_getD, List.getElem?_eq_getElem lt]
        rfl
      rw [e]
      exact at_of (j := k.toNat) (by omega) (by rw [List.getElem?_map, List.getElem?_eq_getElem lt]; rfl)
    · exact q _ (((same_new hp _).trans (same_new hp2 _)).trans (same_new hp3 _))
  · refine plain (fun z => c1 (decide_eq_true ?_)) none
    show V.int i.talk = V.int 1
    rw [z.1]
end
end Sc
namespace Sc
open PySem PyProof.Rows L2
section
variable {P : Program} {w : World} {K : PySem.W.Frag} {mg : Str → Option Value} {base : Heap}
theorem scKind : FnScope ["_law_s", "_law_deep", "_law_letters", "_law_k"] ["_law_s", "_law_deep", "_law_letters"] (defScope sKind) := ⟨rfl, rfl, rfl, by decide +kernel, rfl, by decide +kernel, by decide +kernel⟩
theorem c_kind {n lv : Nat} (T : Tx K mg) (lv1 : 1 ≤ lv) (CC : Cal P w K mg base lv "_law_choice" ["_law_s", "_law_deep", "_law_letters"] (spChoice K n)) : Cal P w K mg base (lv + 1) "_law_kind" ["_law_s", "_law_deep", "_law_letters"] (spKind K n) := by
  have CT : Cal P w K mg base 1 "_law_taken" ["_law_s", "_law_most"] (spTaken K) := c_taken T
  refine T.kind.ok scKind (fun vs H Q E h => ?_) (fun f cdv A outer s H vs Q E hr h => ?_)
  · obtain ⟨s, l, i, d, ls, rfl, _⟩ := h
    rfl
  obtain ⟨s, l, i, d, ls, rfl, S, dn, hl, hls, q⟩ := h
  have hr1 : Room 1 _ := hr.mono lv1
  refine ⟨_, pss_one (ps_ret (pe_callTy call_tuple_of (by rfl) T.m_tuple (by decide +kernel) (pa_cons
      (pe_lc (own := [("_law_k", 3)]) (g := gName 3) (tt := tYes) rfl scKind.nd (pi_range1 rfl T.m_range (pa_cons (pe_op op_add pe_int (pe_cal CT hr1 (pa_cons (pv 0) (pa_cons pe_int pa_nil)))) pa_nil))
        (blkOk_by (N := ["_law_s", "_law_deep", "_law_letters", "_law_k"]) (sc := defScope sKind) (by decide +kernel))
        (fun _ _ _ _ _ => pg_name (i := 3) scKind.nd rfl (Or.inl rfl)) (fun _ _ _ _ _ => pts_nil)
        (fun _ _ _ _ _ => pe_cal CC hr (pa_cons (pv 0) (pa_cons (pv 1) (pa_cons (pv 2) pa_nil))))) pa_nil))), ?_⟩
  refine ⟨_, rfl, s, i, 3, rfl, S, by decide, by decide, fun r H1 r0 r3 x1 S1 => ⟨_, _, rfl, rfl, _, rfl, by omega, by omega, fun D hD => ?_⟩⟩
  have nds : D ≠ s := S1.ne hD
  have hl1 : SqL K H1 l (ls.map V.str) := S.seq x1 hl
  refine lc_range (lo := 0) (n := (1 + r).toNat) (fun j H2 => Ext s H1 H2 ∧ IsS K H2 s i ∧ ∃ vs k, H2 D = some (.lst vs) ∧ Dts K H2 vs (pyL k) ∧ okL ls d k ∧ k.length = j)
    ⟨Ext.new _ hD, S1.same (same_new hD _), [], [], upd_same, .nil, trivial, rfl⟩ ?_ ?_
  · rintro j H2 hj ⟨x2, S2, us, k, hd, dp, okk, lk⟩
    refine ⟨rfl, _, rfl, _, rfl, _, rfl, s, l, i, d, ls, rfl, S2, dn, S1.seq x2 hl1, hls, fun v H3 c x3 S3 dv oc => ⟨us, x3 _ _ nds hd, ?_, ?_⟩⟩
    · rw [dp.1, pyL_map, List.length_map]
      exact small1000 (by omega)
    · have x4 : Ext s H1 (upd H3 D (.lst (us ++ [v]))) := (x2.trans x3).over hD _
      have k4 : Keep K H3 (upd H3 D (.lst (us ++ [v]))) := Keep.upd (x3 _ _ nds hd) trivial _
      refine ⟨x4, S1.over S3 x4 nds, us ++ [v], k ++ [c], upd_same, ?_, okL_snoc oc okk, by rw [List.length_append, lk]; rfl⟩
      rw [pyL_map, List.map_append, ← pyL_map]
      exact (k4.dts ((S2.keep x3).dts dp)).snoc (k4.dt dv)
  · rintro H2 ⟨x2, S2, us, k, hd, dp, okk, lk⟩
    refine ⟨D, us, rfl, .inl ⟨SqL.of hd, fun t ht => ?_⟩⟩
    refine q _ _ k (x1.trans (x2.trans (Ext.new _ ht))) (S2.same (same_new ht _)) (((Same.keep (same_new ht _)).dts dp).tup (SqT.of upd_same)) ?_ ?_ okk
    · intro z
      rw [z] at lk
      have : 0 = (1 + r).toNat := lk
      omega
    · omega
end
end Sc
namespace Sc
open PySem PyProof.Rows L2
section
variable {P : Program} {w : World} {K : PySem.W.Frag} {mg : Str → Option Value} {base : Heap}
theorem scChoice : FnScope ["_law_s", "_law_deep", "_law_letters", "_law_way_here"] ["_law_s", "_law_deep", "_law_letters"] (defScope sChoice) := ⟨rfl, rfl, rfl, by decide +kernel, rfl, by decide +kernel, by decide +kernel⟩
theorem c_choice {n lv : Nat} (T : Tx K mg) (lv1 : 1 ≤ lv) (CK : Cal P w K mg base lv "_law_kind" ["_law_s", "_law_deep", "_law_letters"] (spKind K n)) (CF : Cal P w K mg base lv "_law_fields" ["_law_s", "_law_deep", "_law_letters"] (spFields K n)) :
    Cal P w K mg base (lv + 1) "_law_choice" ["_law_s", "_law_deep", "_law_letters"] (spChoice K (n + 1)) := by
  have CT : Cal P w K mg base 1 "_law_taken" ["_law_s", "_law_most"] (spTaken K) := c_taken T
  refine T.choice.ok scChoice (fun vs H Q E h => ?_) (fun f cdv A outer s H vs Q E hr h => ?_)
  · obtain ⟨s, l, i, d, ls, rfl, _⟩ := h
    rfl
  obtain ⟨s, l, i, d, ls, rfl, S, dn, hl, hls, q⟩ := h
  have hr1 : Room 1 _ := hr.mono lv1
  refine ⟨_, pss_cons (ps_set (i := 3) scChoice.nd rfl (Or.inl rfl) (pe_cal CT hr1 (pa_cons (pv 0) (pa_cons pe_int pa_nil))))
    (pss_cons (ps_if (PW.pt (pw_and (pt_cmpR op_eq (pv 3) pe_int (nomark _)) (pw_and1 (pt_cmpR op_gt (pe_callB call_len_seq (by rfl) T.m_len PySem.boot_len (pa_cons (pv 2) pa_nil)) pe_int (nomark _)))))
      (pss_one (ps_ret (pe_tup (pa_cons pe_str (pa_cons (pe_ix ix_list (pv 2) (pe_cal CT hr1 (pa_cons (pv 0) (pa_cons (pe_callB call_len_seq (by rfl) T.m_len PySem.boot_len (pa_cons (pv 2) pa_nil)) pa_nil))) (fun _ _ => rfl)) pa_nil))))) pss_nil)
    (pss_cons (ps_if (PW.pt (pw_and (pt_cmpR op_gt (pv 1) pe_int (nomark _)) (pw_and1 (pt_chain op_le op_le pe_int (pv 3) pe_int))))
      (pss_one (ps_ret (pe_tup (pa_cons (pe_ix ix_list (pe_lst (pa_cons pe_str (pa_cons pe_str pa_nil))) (pe_op op_sub (pv 3) pe_int) (fun _ _ => rfl)) (pa_cons (pe_cal CK hr (pa_cons (pv 0) (pa_cons (pe_op op_sub (pv 1) pe_int) (pa_cons (pv 2) pa_nil)))) pa_nil))))) pss_nil)
    (pss_cons (ps_if (PW.pt (pw_and (pt_cmpR op_gt (pv 1) pe_int (nomark _)) (pw_and1 (pt_cmpR op_ge (pv 3) pe_int (nomark _)))))
      (pss_one (ps_ret (pe_tup (pa_cons pe_str (pa_cons (pe_cal CF hr (pa_cons (pv 0) (pa_cons (pv 1) (pa_cons (pv 2) pa_nil)))) pa_nil))))) pss_nil)
    (pss_one (ps_ret (pe_ix ix_list (pe_lst (pa_cons (pe_tup (pa_cons pe_str pa_nil)) (pa_cons (pe_tup (pa_cons pe_str pa_nil)) pa_nil))) (pe_op op_mod (pv 3) pe_int) (fun _ _ => rfl))))))), ?_⟩
  refine ⟨_, rfl, s, i, 7, rfl, S, by decide, by decide, fun r H1 r0 r7 x1 S1 => ?_⟩
  have hl1 : SqL K H1 l (ls.map V.str) := S.seq x1 hl
  -- the last row
  have last : tRet (tOp (rIxL K) (tLst (tCons (tTup (tCons (tC (.str "number")) tNil)) (tCons (tTup (tCons (tC (.str "text")) tNil)) tNil))) (tOp (rI (fun _ j => 0 < j) fun i j => V.int (i % j)) (tVar 3) (tC (.int 2))))
      { nx := fun _ H' => Q .non H', rt := Q } [some (.ref s), some (.int d), some (.ref l), some (.int r)] H1 := by
    refine ⟨(by show 1 ≤ sizeLine; decide), fun p1 hp1 => ⟨(by show 1 ≤ sizeLine; decide), fun p2 hp2 => ⟨(by show 2 ≤ sizeLine; decide), fun p3 hp3 => ?_⟩⟩⟩
    have e1 := same_new hp1 (.tup [.str "number"])
    have e2 := same_new hp2 (.tup [.str "text"])
    have e3 := same_new hp3 (.lst [.ref p1, .ref p2])
    have g1 := e3 _ _ (e2 _ _ (upd_same (H := H1) (a := p1) (o := .tup [.str "number"])))
    have g2 := e3 _ _ (upd_same (a := p2) (o := .tup [.str "text"]) (H := upd H1 p1 (.tup [.str "number"])))
    have ee := e1.trans (e2.trans e3)
    have h01 : r % 2 = 0 ∨ r % 2 = 1 := by omega
    refine ⟨_, rfl, _, _, rfl, rfl, (by show (0 : Int) < 2; decide), p3, [.ref p1, .ref p2], r % 2, (if r % 2 = 0 then .ref p1 else .ref p2), rfl, rfl, SqL.of upd_same, ?_, ?_⟩
    · rcases h01 with h | h <;> rw [h] <;> rfl
    · rcases h01 with h | h <;> rw [h]
      · exact q _ _ .num (x1.trans (Ext.same ee)) (S1.same ee) ((Dts.nil.cons (.str _)).tup (SqT.of g1)) trivial
      · exact q _ _ .txt (x1.trans (Ext.same ee)) (S1.same ee) ((Dts.nil.cons (.str _)).tup (SqT.of g2)) trivial
  have hd1 : ∀ {k : Nat}, d = k + 1 → k < n := fun h => by omega
  dsimp only [tNext, gName]
  show tAnd _ _ _ _ _
  refine and_pure (decide (V.int r = V.int 6)) (decide ((((ls.map V.str).length : Nat) : Int) > 0)) (fun R h => ⟨_, rfl, rfl, _, rfl, h⟩) (fun _ R h => ⟨_, rfl, l, _, rfl, .inl hl1, _, _, rfl, rfl, _, rfl, h⟩) (fun c1 c2 => iteT ?_) (fun _ => iteF ?_)
  · have c2' : 0 < (ls.length : Int) := by
      have z := of_decide_eq_true c2
      rw [List.length_map] at z
      exact z
    refine ⟨_, rfl, _, rfl, _, rfl, l, _, rfl, .inl hl1, s, i, ls.length, by simp, S1, c2', ?_, fun r2 H2 a2 b2 x2 S2 => ?_⟩
    · exact Nat.lt_of_le_of_lt (show (ls.length : Int).natAbs ≤ 1000 by omega) (by decide)
    have lt : r2.toNat < ls.length := by omega
    refine ⟨l, ls.map V.str, r2, .str ls[r2.toNat], rfl, rfl, S1.seq x2 hl1, at_of (j := r2.toNat) (by omega) (by rw [List.getElem?_map, List.getElem?_eq_getElem lt]; rfl), (by show 2 ≤ sizeLine; decide), fun t ht => ?_⟩
    exact q _ _ (.letter ls[r2.toNat]) (x1.trans (x2.trans (Ext.new _ ht))) (S2.same (same_new ht _)) (((Dts.nil.cons (.str _)).cons (.str _)).tup (SqT.of upd_same)) (List.getElem_mem lt)
  dsimp only [tNext, gName]
  show tAnd _ _ _ _ _
  refine and_pure (decide ((d : Int) > 0)) (decide (2 ≤ r) && decide (r ≤ 3)) (fun R h => ⟨_, rfl, _, _, rfl, rfl, _, rfl, h⟩) (fun _ R h => ⟨_, rfl, _, _, rfl, rfl, _, rfl, ?_⟩) (fun c1 c2 => iteT ?_) (fun _ => iteF ?_)
  · by_cases a : 2 ≤ r
    · rw [decide_eq_true a] at h ⊢
      exact iteT ⟨_, _, rfl, rfl, _, rfl, h⟩
    · rw [decide_eq_false a] at h ⊢
      exact iteF ⟨_, rfl, h⟩
  · have c1' : (d : Int) > 0 := of_decide_eq_true c1
    rw [Bool.and_eq_true, decide_eq_true_eq, decide_eq_true_eq] at c2
    obtain ⟨k, rfl⟩ : ∃ k : Nat, d = k + 1 := ⟨d - 1, by omega⟩
    have r23 : r = 2 ∨ r = 3 := by omega
    refine ⟨(by show 2 ≤ sizeLine; decide), fun p hp => ⟨_, rfl, _, _, rfl, rfl, p, [.str "row", .str "book"], r - 2, .str (if r = 2 then "row" else "book"), rfl, rfl, SqL.of upd_same, ?_, _, rfl, _, rfl, _, _, rfl, rfl, _, rfl, s, l, i, k, ls, ?_, S1.same (same_new hp _), hd1 rfl, Same.seq (same_new hp _) hl1, hls,
      fun v H2 kk x2 S2 dv k0 k3 ok => ⟨(by show 2 ≤ sizeLine; decide), fun t ht => ?_⟩⟩⟩
    · rcases r23 with h | h <;> rw [h] <;> rfl
    · show ([.ref s, .int (((k + 1 : Nat) : Int) - 1), .ref l] : List V) = _
      rw [show ((k + 1 : Nat) : Int) - 1 = (k : Int) by omega]
    · have ex : Ext s H (upd H2 t (.tup [.str (if r = 2 then "row" else "book"), v])) := x1.trans ((Ext.same (same_new hp _)).trans (x2.trans (Ext.new _ ht)))
      have dt : Dt K (upd H2 t (.tup [.str (if r = 2 then "row" else "book"), v])) (.ref t) (.tuple [.str (if r = 2 then "row" else "book"), .tuple (pyL kk)]) := ((Dts.nil.cons ((Same.keep (same_new ht _)).dt dv)).cons (.str _)).tup (SqT.of upd_same)
      have S3 := S2.same (same_new ht (.tup [.str (if r = 2 then "row" else "book"), v]))
      rcases r23 with h | h
      · rw [if_pos h] at ex dt S3 ⊢
        exact q _ _ (.row kk) ex S3 dt ⟨Nat.succ_pos _, k0, k3, ok⟩
      · rw [if_neg (by omega)] at ex dt S3 ⊢
        exact q _ _ (.book kk) ex S3 dt ⟨Nat.succ_pos _, k0, k3, ok⟩
  dsimp only [tNext, gName]
  show tAnd _ _ _ _ _
  refine and_pure (decide ((d : Int) > 0)) (decide (r ≥ 4)) (fun R h => ⟨_, rfl, _, _, rfl, rfl, _, rfl, h⟩) (fun _ R h => ⟨_, rfl, _, _, rfl, rfl, _, rfl, h⟩) (fun c1 c2 => iteT ?_) (fun _ => iteF last)
  have c1' : (d : Int) > 0 := of_decide_eq_true c1
  obtain ⟨k, rfl⟩ : ∃ k : Nat, d = k + 1 := ⟨d - 1, by omega⟩
  refine ⟨_, rfl, _, rfl, _, rfl, s, l, i, k, ls, rfl, S1, hd1 rfl, hl1, hls, fun v H2 fs x2 S2 dv f2 fld ok => ⟨(by show 2 ≤ sizeLine; decide), fun t ht => ?_⟩⟩
  exact q _ _ (.shape fs) (x1.trans (x2.trans (Ext.new _ ht))) (S2.same (same_new ht _)) (((Dts.nil.cons ((Same.keep (same_new ht _)).dt dv)).cons (.str _)).tup (SqT.of upd_same)) ⟨Nat.succ_pos _, f2, fld, ok⟩
end
end Sc
namespace Sc
open PySem PyProof.Rows L2
section
variable {P : Program} {w : World} {K : PySem.W.Frag} {mg : Str → Option Value} {base : Heap}
theorem scFields : FnScope ["_law_s", "_law_deep", "_law_letters", "_law_words", "_law_k", "_law_word_here"] ["_law_s", "_law_deep", "_law_letters"] (defScope sFields) := ⟨rfl, rfl, rfl, by decide +kernel, rfl, by decide +kernel, by decide +kernel⟩
theorem c_fields {n lv : Nat} (T : Tx K mg) (lv1 : 1 ≤ lv) (CK : Cal P w K mg base lv "_law_kind" ["_law_s", "_law_deep", "_law_letters"] (spKind K n)) :
    Cal P w K mg base (lv + 1) "_law_fields" ["_law_s", "_law_deep", "_law_letters"] (spFields K n) := by
  have CT : Cal P w K mg base 1 "_law_taken" ["_law_s", "_law_most"] (spTaken K) := c_taken T
  have CW : Cal P w K mg base 1 "_law_word" ["_law_s", "_law_k"] (spWord K) := c_word T
  refine T.fields.ok scFields (fun vs H Q E h => ?_) (fun f cdv A outer s H vs Q E hr h => ?_)
  · obtain ⟨s, l, i, d, ls, rfl, _⟩ := h
    rfl
  obtain ⟨s, l, i, d, ls, rfl, S, dn, hl, hls, q⟩ := h
  have hr1 : Room 1 _ := hr.mono lv1
  refine ⟨_, pss_cons (ps_set (i := 3) scFields.nd rfl (Or.inl rfl) (pe_callB (cr_txSorted rfl) (by rfl) T.m_sorted (by decide +kernel) (pa_cons (pe_callTy (cr_txSet rfl) (by rfl) T.m_set (by decide +kernel) (pa_cons
        (pe_lc (own := [("_law_k", 4)]) (g := gName 4) (tt := tYes) rfl scFields.nd (pi_range1 rfl T.m_range (pa_cons (pe_op op_add pe_int (pe_cal CT hr1 (pa_cons (pv 0) (pa_cons pe_int pa_nil)))) pa_nil))
        (blkOk_by (N := ["_law_s", "_law_deep", "_law_letters", "_law_words", "_law_k", "_law_word_here"]) (sc := defScope sFields) (by decide +kernel))
        (fun _ _ _ _ _ => pg_name (i := 4) scFields.nd rfl (Or.inl rfl)) (fun _ _ _ _ _ => pts_nil)
        (fun _ _ _ _ _ => pe_cal CW hr1 (pa_cons (pv 0) (pa_cons (pe_cal CT hr1 (pa_cons (pv 0) (pa_cons pe_int pa_nil))) pa_nil)))) pa_nil)) pa_nil)))
    (pss_one (ps_ret (pe_callTy call_tuple_of (by rfl) T.m_tuple (by decide +kernel) (pa_cons
      (pe_lc (own := [("_law_word_here", 5)]) (g := gName 5) (tt := tYes) rfl scFields.nd (pi_list (pv 3))
        (blkOk_by (N := ["_law_s", "_law_deep", "_law_letters", "_law_words", "_law_k", "_law_word_here"]) (sc := defScope sFields) (by decide +kernel))
        (fun _ _ _ _ _ => pg_name (i := 5) scFields.nd rfl (Or.inl rfl)) (fun _ _ _ _ _ => pts_nil)
        (fun _ _ _ _ _ => pe_tup (pa_cons (pv 5) (pa_cons (pe_cal CK hr (pa_cons (pv 0) (pa_cons (pe_op op_sub (pv 1) pe_int) (pa_cons (pv 2) pa_nil)))) pa_nil)))) pa_nil)))), ?_⟩
  refine ⟨_, rfl, s, i, 2, rfl, S, by decide, by decide, fun r H1 r0 r2 x1 S1 => ⟨_, _, rfl, rfl, _, rfl, by omega, by omega, fun D hD => ?_⟩⟩
  have nds : D ≠ s := S1.ne hD
  refine lc_range (lo := 0) (n := (1 + r).toNat) (fun j H2 => Ext s H1 H2 ∧ IsS K H2 s i ∧ ∃ zs : List Str, H2 D = some (.lst (zs.map V.str)) ∧ (∀ z ∈ zs, Word z) ∧ zs.length = j)
    ⟨Ext.new _ hD, S1.same (same_new hD _), [], upd_same, (fun z hz => by cases hz), rfl⟩ ?_ ?_
  · rintro j H2 hj ⟨x2, S2, zs, hd, wd, lz⟩
    refine ⟨rfl, _, rfl, _, rfl, s, i, 3, rfl, S2, by decide, by decide, fun k H3 k0 k3 x3 S3 => ⟨s, i, k, rfl, S3, k0, fun H4 e4 => ⟨zs.map V.str, e4 _ _ (x3 _ _ nds hd), ?_, ?_⟩⟩⟩
    · rw [List.length_map]
      exact small1000 (by omega)
    · have x5 : Ext s H1 (upd H4 D (.lst (zs.map V.str ++ [.str (wordOf i k)]))) := ((x2.trans x3).trans (Ext.same e4)).over hD _
      obtain ⟨_, _, _, _, _, iok, _⟩ := id S1
      refine ⟨x5, S1.over (S3.same e4) x5 nds, zs ++ [wordOf i k], by rw [upd_same, List.map_append]; rfl, fun z hz => ?_, by rw [List.length_append, lz]; rfl⟩
      rcases List.mem_append.mp hz with h | h
      · exact wd z h
      · rw [List.mem_singleton.mp h]
        exact word_of iok k0
  rintro H2 ⟨x2, S2, zs, hd, wd, lz⟩
  have lz' : zs.length = (1 + r).toNat := lz
  refine ⟨D, zs, rfl, SqL.of hd, by omega, fun a m ha hm => ⟨a, _, m, rfl, upd_same, by omega, fun ys p so nd mem len hp => ?_⟩⟩
  generalize TxO _ a (fun y => decide (y ∈ zs)) m = o3 at hp ⊢
  have e3 := (same_new ha o3).trans (same_new hp (.lst (ys.map V.str)))
  have hp3 : (upd (upd H2 a o3) p (.lst (ys.map V.str))) p = _ := upd_same
  have x3 := x1.trans (x2.trans (Ext.same e3))
  have S3 := S2.same e3
  have wy : ∀ y ∈ ys, Word y := fun y hy => wd y (of_decide_eq_true ((mem y).mp hy))
  have y0 : ys ≠ [] := fun z => by
    cases zs with
    | nil => 
      have : 0 = (1 + r).toNat := lz'
      omega
    | cons z0 zs =>
      have h := (mem z0).mpr (decide_eq_true List.mem_cons_self)
      rw [z] at h
      cases h
  have y2 : ys.length ≤ 2 := by omega
  generalize (upd (upd H2 a o3) p (.lst (ys.map V.str))) = H3 at hp3 x3 S3 ⊢
  have hl3 : SqL K H3 l (ls.map V.str) := S.seq x3 hl
  refine ⟨_, rfl, p, rfl, ⟨_, SqL.of hp3⟩, fun F hF => ?_⟩
  have nfs : F ≠ s := S3.ne hF
  refine lc_list (K := K) (a := p) (xs := ys.map V.str) (fun j H4 => Ext s H3 H4 ∧ IsS K H4 s i ∧ ∃ vs fs, H4 F = some (.lst vs) ∧ Dts K H4 vs (pyF fs) ∧ okF ls d fs ∧ fs.map (·.1) = ys.take j)
    ⟨Ext.new _ hF, S3.same (same_new hF _), [], [], upd_same, .nil, trivial, rfl⟩ (fun j H4 _ h => S3.seq h.1 (SqL.of hp3)) ?_ ?_
  · rintro j x H4 hx ⟨x4, S4, us, fs, hf, dts, okf, efs⟩
    rw [List.getElem?_map] at hx
    obtain ⟨z, hz, rfl⟩ := Option.map_eq_some_iff.mp hx
    have hlen : fs.length ≤ 2 := by
      have e := congrArg List.length efs
      rw [List.length_map, List.length_take] at e
      omega
    refine ⟨rfl, _, rfl, _, rfl, _, rfl, _, _, rfl, rfl, _, rfl, s, l, i, d, ls, ?_, S4, dn, S3.seq x4 hl3, hls, fun v H5 kk x5 S5 dv k0 k3 ok => ⟨(by show 2 ≤ sizeLine; decide), fun t ht => ⟨us, (same_new ht _) _ _ (x5 _ _ nfs hf), ?_, ?_⟩⟩⟩
    · show ([.ref s, .int (((d + 1 : Nat) : Int) - 1), .ref l] : List V) = _
      rw [show ((d + 1 : Nat) : Int) - 1 = (d : Int) by omega]
    · rw [dts.1, pyF_map, List.length_map]
      exact small1000 (by omega)
    · have e6 := same_new ht (.tup [.str z, v])
      have x7 : Ext s H3 (upd (upd H5 t (.tup [.str z, v])) F (.lst (us ++ [.ref t]))) := ((x4.trans x5).trans (Ext.same e6)).over hF _
      have k7 : Keep K (upd H5 t (.tup [.str z, v])) (upd (upd H5 t (.tup [.str z, v])) F (.lst (us ++ [.ref t]))) := Keep.upd (e6 _ _ (x5 _ _ nfs hf)) trivial _
      refine ⟨x7, S3.over (S5.same e6) x7 nfs, us ++ [.ref t], fs ++ [(z, kk)], upd_same, ?_, okF_snoc (wy z (List.mem_of_getElem? hz)) k0 k3 ok okf, ?_⟩
      · rw [pyF_map, List.map_append, ← pyF_map]
        refine (k7.dts ((Same.keep e6).dts ((S4.keep x5).dts dts))).snoc (k7.dt ?_)
        exact ((Dts.nil.cons ((Same.keep e6).dt dv)).cons (.str _)).tup (SqT.of upd_same)
      · rw [List.map_append, efs, List.take_add_one, hz]
        rfl
  rintro H4 ⟨x4, S4, us, fs, hf, dts, okf, efs⟩
  rw [List.length_map, List.take_length] at efs
  refine ⟨F, us, rfl, .inl ⟨SqL.of hf, fun t ht => ?_⟩⟩
  have e5 := same_new ht (.tup us)
  have fl2 : fs.length ≤ 2 := by
    have e := congrArg List.length efs
    rw [List.length_map] at e
    omega
  refine q _ _ fs (x3.trans (x4.trans (Ext.same e5))) (S4.same e5) (((Same.keep e5).dts dts).tup (SqT.of upd_same)) fl2 ?_ okf
  rw [efs]
  exact ⟨y0, by omega, nd, so, wy⟩
end
end Sc
namespace Sc
open PySem PyProof.Rows L2
section
variable {P : Program} {w : World} {K : PySem.W.Frag} {mg : Str → Option Value} {base : Heap}
theorem c_kinds (T : Tx K mg) : ∀ n : Nat, Cal P w K mg base (3 * n + 1) "_law_kind" ["_law_s", "_law_deep", "_law_letters"] (spKind K n)
  | 0 => (T.kind.never fun vs H Q E ⟨_, _, _, _, _, _, _, h, _⟩ => absurd h (Nat.not_lt_zero _)).mono (Nat.zero_le _)
  | n + 1 => by
    have ih := c_kinds T n
    have cf := c_fields T (by omega) ih
    have cc := c_choice T (lv := 3 * n + 1 + 1) (by omega) (ih.mono (by omega)) cf
    exact c_kind T (by omega) cc
end
end Sc
namespace Sc
open PySem PyProof.Rows L2
section
variable {P : Program} {w : World} {K : PySem.W.Frag} {mg : Str → Option Value} {base : Heap}
theorem scText : FnScope ["_law_s", "_law_some", "_law_k"] ["_law_s"] (defScope sText) := ⟨rfl, rfl, rfl, by decide +kernel, rfl, by decide +kernel, by decide +kernel⟩
def signs : Str := (" !\"#$&'()*+,-./0123456789:;<=>?@ABCDEFGHIJKLMNOPQRSTUVWXYZ[\\]^_`" : Str) ++ ("abcdefghijklmnopqrstuvwxyz{|}~" : Str)
theorem signs_len : signs.length = 94 := by decide +kernel
theorem signs_at : ∀ n : Nat, n < 94 → ∃ c, signs.cps[n]? = some c ∧ 32 ≤ c ∧ c ≤ 126 ∧ c ≠ 37 := by
  have h : ∀ n : Nat, n < 94 → (signs.cps[n]?.any fun c => decide (32 ≤ c ∧ c ≤ 126 ∧ c ≠ 37)) = true := by decide +kernel
  intro n hn
  have e := h n hn
  cases z : signs.cps[n]? with
  | none => rw [z] at e; cases e
  | some c => rw [z] at e; exact ⟨c, rfl, of_decide_eq_true e⟩
theorem c_text (T : Tx K mg) : Cal P w K mg base 2 "_law_text" ["_law_s"] (spText K) := by
  have CT : Cal P w K mg base 1 "_law_taken" ["_law_s", "_law_most"] (spTaken K) := c_taken T
  refine T.text.ok scText (fun vs H Q E h => ?_) (fun f cdv A outer s H vs Q E hr h => ?_)
  · obtain ⟨s, i, rfl, _⟩ := h
    rfl
  obtain ⟨s, i, rfl, S, q⟩ := h
  refine ⟨_, pss_cons (ps_set (i := 1) scText.nd rfl (Or.inr rfl) pe_str)
    (pss_cons (ps_set (i := 1) scText.nd rfl (Or.inr rfl) (pe_op op_add_str (pv 1) pe_str))
    (pss_one (ps_ret (pe_join pe_str (pe_lc (own := [("_law_k", 2)]) (g := gName 2) (tt := tYes) rfl scText.nd (pi_range1 rfl T.m_range (pa_cons (pe_cal CT hr (pa_cons (pv 0) (pa_cons pe_int pa_nil))) pa_nil))
        (blkOk_by (N := ["_law_s", "_law_some", "_law_k"]) (sc := defScope sText) (by decide +kernel))
        (fun _ _ _ _ _ => pg_name (i := 2) scText.nd rfl (Or.inl rfl)) (fun _ _ _ _ _ => pts_nil)
        (fun _ _ _ _ _ => pe_item_str (pv 1) (pe_cal CT hr (pa_cons (pv 0) (pa_cons pe_int pa_nil))) (fun _ _ => rfl))))))), ?_⟩
  refine ⟨_, rfl, _, _, rfl, rfl, (by decide +kernel), ⟨_, rfl⟩, _, rfl, s, i, 4, rfl, S, by decide, by decide, fun r H1 r0 r4 x1 S1 => ⟨_, rfl, by omega, by omega, fun D hD => ?_⟩⟩
  have nds : D ≠ s := S1.ne hD
  refine lc_range (lo := 0) (n := r.toNat) (fun j H2 => Ext s H1 H2 ∧ IsS K H2 s i ∧ ∃ cs : List Nat, H2 D = some (.lst (cs.map fun c => V.str (signAt c))) ∧ (∀ c ∈ cs, 32 ≤ c ∧ c ≤ 126 ∧ c ≠ 37) ∧ cs.length = j)
    ⟨Ext.new _ hD, S1.same (same_new hD _), [], upd_same, (fun z hz => by cases hz), rfl⟩ ?_ ?_
  · rintro j H2 hj ⟨x2, S2, cs, hd, wd, lz⟩
    refine ⟨rfl, _, rfl, _, rfl, s, i, 94, rfl, S2, by decide, by decide, fun k H3 k0 k3 x3 S3 => ?_⟩
    obtain ⟨c, hc, hb⟩ := signs_at k.toNat (by omega)
    refine ⟨signs, k, c, rfl, rfl, k0, by omega, by rw [signs_len]; exact k3, hc, cs.map (fun c => V.str (signAt c)), x3 _ _ nds hd, ?_, ?_⟩
    · rw [List.length_map]
      exact small1000 (by omega)
    · have x5 : Ext s H1 (upd H3 D (.lst (cs.map (fun c => V.str (signAt c)) ++ [.str (signAt c)]))) := (x2.trans x3).over hD _
      refine ⟨x5, S1.over S3 x5 nds, cs ++ [c], by rw [upd_same, List.map_append]; rfl, fun z hz => ?_, by rw [List.length_append, lz]; rfl⟩
      rcases List.mem_append.mp hz with h | h
      · exact wd z h
      · rw [List.mem_singleton.mp h]
        exact hb
  rintro H2 ⟨x2, S2, cs, hd, wd, lz⟩
  have lz' : cs.length = r.toNat := lz
  have hj : ∀ cs : List Nat, TL.joinL [] (cs.map fun c => [c]) = cs := fun cs => by
    induction cs with
    | nil => rfl
    | cons c cs ih =>
      cases cs with
      | nil => rfl
      | cons c' cs => rw [List.map_cons, joinL_cons _ _ _ (by simp), ih]; rfl
  have ej : (Txt.join Str.empty (cs.map signAt)).cps.toList = cs := by
    have e := congrArg TL.tl (TL.join_eq Str.empty (cs.map signAt))
    rw [TL.tl_join] at e
    refine e.trans ?_
    rw [List.map_map]
    exact hj cs
  refine ⟨Str.empty, D, cs.map signAt, rfl, rfl, .inl (SqL.of (by rw [List.map_map]; exact hd)), ?_, ?_⟩
  · have s1 : ∀ cs : List Nat, ((cs.map signAt).map (·.length)).sum = cs.length := fun cs => by
      induction cs with
      | nil => rfl
      | cons c cs ih => rw [List.map_cons, List.map_cons, List.sum_cons, ih, List.length_cons]; show 1 + _ = _; omega
    rw [s1]
    show _ + _ * 0 ≤ _
    omega
  · exact q _ _ (x1.trans x2) S2 ⟨by rw [ej]; omega, by rw [ej]; exact wd⟩
end
end Sc
namespace Sc
open PySem PyProof.Rows L2
section
variable {P : Program} {w : World} {K : PySem.W.Frag} {mg : Str → Option Value} {base : Heap}
theorem scNumber : FnScope ["_law_s"] ["_law_s"] (defScope sNumber) := ⟨rfl, rfl, rfl, by decide +kernel, rfl, by decide +kernel, by decide +kernel⟩
theorem c_number (T : Tx K mg) : Cal P w K mg base 2 "_law_number" ["_law_s"] (spNumber K) := by
  have CT : Cal P w K mg base 1 "_law_taken" ["_law_s", "_law_most"] (spTaken K) := c_taken T
  refine T.number.ok scNumber (fun vs H Q E h => ?_) (fun f cdv A outer s H vs Q E hr h => ?_)
  · obtain ⟨s, i, rfl, _⟩ := h
    rfl
  obtain ⟨s, i, rfl, S, q⟩ := h
  refine ⟨_, pss_cons (ps_if (pt_cmpR op_eq (pe_cal CT hr (pa_cons (pv 0) (pa_cons pe_int pa_nil))) pe_int (nomark _))
      (pss_one (ps_ret (pe_op op_add (pe_op op_sub (pe_cal CT hr (pa_cons (pv 0) (pa_cons (pe_op op_sub (pe_op op_mul pe_int (pe_op op_pow pe_int pe_int)) pe_int) pa_nil))) (pe_op op_pow pe_int pe_int)) pe_int))) pss_nil)
    (pss_one (ps_ret (pe_op op_sub (pe_cal CT hr (pa_cons (pv 0) (pa_cons pe_int pa_nil))) pe_int))), ?_⟩
  refine ⟨_, rfl, s, i, 4, rfl, S, by decide, by decide, fun r H1 r0 r4 x1 S1 => ⟨rfl, _, rfl, ite2 (fun _ => ?_) (fun _ => ?_)⟩⟩
  · refine ⟨_, rfl, _, _, rfl, rfl, ⟨by decide, by decide, by decide⟩, _, _, rfl, rfl, .inl ⟨by decide, by decide⟩, _, _, rfl, rfl, s, i, _, rfl, S1, by decide, by decide, fun r2 H2 a2 b2 x2 S2 => ⟨_, _, rfl, rfl, ⟨by decide, by decide, by decide⟩, _, _, rfl, rfl, _, _, rfl, rfl, ?_⟩⟩
    refine q _ _ (x1.trans x2) S2 ?_ ?_
    · show -10 ^ 30 < r2 - 10 ^ 30 + 1
      omega
    · have b2' : r2 < 2 * 10 ^ 30 - 1 := b2
      show r2 - 10 ^ 30 + 1 < 10 ^ 30
      omega
  · refine ⟨_, rfl, s, i, 12, rfl, S1, by decide, by decide, fun r2 H2 a2 b2 x2 S2 => ⟨_, _, rfl, rfl, q _ _ (x1.trans x2) S2 ?_ ?_⟩⟩
    · show -10 ^ 30 < r2 - 3
      omega
    · show r2 - 3 < 10 ^ 30
      omega
end
end Sc
namespace Sc
open PySem PyProof.Rows L2
section
variable {P : Program} {w : World} {K : PySem.W.Frag} {mg : Str → Option Value} {base : Heap}
theorem scBounds : FnScope ["_law_s", "_law_most", "_law_bounds_here", "_law_k"] ["_law_s", "_law_most"] (defScope sBounds) := ⟨rfl, rfl, rfl, by decide +kernel, rfl, by decide +kernel, by decide +kernel⟩
theorem c_bounds (T : Tx K mg) : Cal P w K mg base 8 "_law_bounds" ["_law_s", "_law_most"] (spBounds K) := by
  have CT : Cal P w K mg base 1 "_law_taken" ["_law_s", "_law_most"] (spTaken K) := c_taken T
  have CW : Cal P w K mg base 1 "_law_word" ["_law_s", "_law_k"] (spWord K) := c_word T
  have CK : Cal P w K mg base 7 "_law_kind" ["_law_s", "_law_deep", "_law_letters"] (spKind K 2) := c_kinds T 2
  refine T.bounds.ok scBounds (fun vs H Q E h => ?_) (fun f cdv A outer s H vs Q E hr h => ?_)
  · obtain ⟨s, i, m, rfl, _⟩ := h
    rfl
  obtain ⟨s, i, m, rfl, S, hm, q⟩ := h
  have r1 : Room 1 _ := hr.mono (by decide)
  have hu := hu_of hr
  refine ⟨_, pss_cons (ps_set (i := 2) scBounds.nd rfl (Or.inl rfl) pe_dnewK)
    (pss_cons (ps_for PassesOwn.never rfl (pi_range1 rfl T.m_range (pa_cons (pe_cal CT r1 (pa_cons (pv 0) (pa_cons (pe_op op_add (pv 1) pe_int) pa_nil))) pa_nil)) (pg_name (i := 3) scBounds.nd rfl (Or.inl rfl))
      (pss_one (ps_dput hu (pv 2) (pe_upper (pe_cal CW r1 (pa_cons (pv 0) (pa_cons (pv 3) pa_nil)))) (pe_cal CK hr (pa_cons (pv 0) (pa_cons pe_int (pa_cons (pe_lst pa_nil) pa_nil)))) rfl)))
    (pss_one (ps_ret (pv 2)))), ?_⟩
  refine fun b hb => ?_
  have S0 := S.same (same_new hb (.dK []))
  have nbs : b ≠ s := S.ne hb
  refine ⟨_, rfl, _, rfl, _, _, rfl, rfl, s, i, _, rfl, S0, by omega, ?_, fun r H1 r0 r1' x1 S1 => ⟨_, rfl, by omega, by omega, ?_⟩⟩
  · exact Nat.lt_of_le_of_lt (show ((m : Int) + 1).natAbs ≤ 100 by omega) (by decide)
  have hb1 : H1 b = some (.dK []) := x1 _ _ nbs upd_same
  refine for_range (lo := 0) (n := r.toNat) (fun j σ H2 => (∃ v3, σ = [some (.ref s), some (.int m), some (.ref b), v3]) ∧ Ext s H H2 ∧ IsS K H2 s i ∧
      ∃ kvs : List (Key × V), H2 b = some (.dK kvs) ∧ kvs.length ≤ j ∧ (kvs.map (·.1)).Nodup ∧ ∀ p ∈ kvs, ∃ t k, p.1 = Sum.inr t ∧ Lett t ∧ (IsK K H2 p.2 k ∧ k ≠ [] ∧ k.length ≤ 3 ∧ okL [] 1 k))
    ⟨⟨none, rfl⟩, (Ext.same (same_new hb _)).trans x1, S1, [], hb1, Nat.le_refl _, List.nodup_nil, fun p h => by cases h⟩ ?_ ?_
  · rintro j σ H2 hj ⟨⟨v3, rfl⟩, x2, S2, kvs, hd, lk, nd, hV⟩
    refine ⟨_, rfl, Nat.zero_le _, fun l hl => ⟨s, l, i, 1, [], rfl, S2.same (same_new hl _), by decide, SqL.of upd_same, Nat.zero_le _, fun v H3 k x3 S3 dk k0 k3 okk => ?_⟩⟩
    have x23 : Ext s H2 H3 := (Ext.same (same_new hl _)).trans x3
    obtain ⟨_, _, _, _, _, iok, _⟩ := id S
    refine ⟨_, rfl, _, rfl, _, rfl, s, i, 0 + (j : Int), rfl, S3, by omega, fun H4 e4 => ⟨⟨_, rfl⟩, _, rfl, rfl, ?_, ?_⟩⟩
    · have := (word_of iok (k := 0 + (j : Int)) (by omega)).2.1
      rw [len_list]
      omega
    have hw := upper_word (word_of iok (k := 0 + (j : Int)) (by omega))
    generalize Txt.upper (wordOf i (0 + (j : Int))) = z at hw ⊢
    have hd4 : H4 b = some (.dK kvs) := e4 _ _ (x23 _ _ nbs hd)
    refine ⟨b, _, rfl, DPut.k (k := Sum.inr z) hd4 (small1000 (by omega)), ?_⟩
    have x24 : Ext s H2 H4 := x23.trans (Ext.same e4)
    have x5 : Ext s H (upd H4 b (.dK (putK kvs (Sum.inr z) v))) := fun c o nc hc => by
      rw [upd_ne (ne_of_none hc hb)]
      exact x24 _ _ nc (x2 _ _ nc hc)
    have k4 : Keep K H4 (upd H4 b (.dK (putK kvs (Sum.inr z) v))) := Keep.upd hd4 trivial _
    have S5 : IsS K (upd H4 b (.dK (putK kvs (Sum.inr z) v))) s i := S.over (S3.same e4) x5 nbs
    refine ⟨⟨_, rfl⟩, x5, S5, _, upd_same, ?_, nd_put _ v nd, fun p hp => ?_⟩
    · have := put_len kvs (Sum.inr z) v
      omega
    rcases mem_put hp with e | e
    · subst e
      exact ⟨z, k, rfl, hw, k4.dt ((Same.keep e4).dt dk), k0, k3, okk⟩
    · obtain ⟨t, k', h1, h2, h3, h4⟩ := hV p e
      exact ⟨t, k', h1, h2, k4.dt ((S2.keep x24).dt h3), h4⟩
  · rintro σ H2 ⟨⟨v3, rfl⟩, x2, S2, kvs, hd, lk, nd, hV⟩
    obtain ⟨us, bs, e, hl, nd2, _, ha⟩ := zip_of (Pt := Lett) (R := fun v k => IsK K H2 v k ∧ k ≠ [] ∧ k.length ≤ 3 ∧ okL [] 1 k) kvs hV nd
    rw [e] at hd lk
    rw [zipK_len hl] at lk
    refine ⟨_, rfl, q b H2 bs x2 S2 hb ⟨us, hd, hl, nd2, fun j v p h1 h2 => (ha j v p h1 h2).2.1⟩ (fun p hp => ?_) (by omega)⟩
    obtain ⟨j, hj⟩ := List.getElem?_of_mem hp
    have lt : j < us.length := by rw [hl]; exact (List.getElem?_eq_some_iff.mp hj).1
    obtain ⟨h1, _, h2⟩ := ha j us[j] p (List.getElem?_eq_getElem lt) hj
    exact ⟨h1, h2⟩
end
end Sc
namespace Sc
open PySem PyProof.Rows L2
section
variable {P : Program} {w : World} {K : PySem.W.Frag} {mg : Str → Option Value} {base : Heap}
theorem scLHeadOf : FnScope ["_law_choice_here", "_law_pair"] ["_law_choice_here"] (defScope sLHeadOf) := ⟨rfl, rfl, rfl, by decide +kernel, rfl, by decide +kernel, by decide +kernel⟩
theorem c_l_head_of (T : Tx K mg) : Cal P w K mg base 1 "_law_head_of" ["_law_choice_here"] (spHead K) := by
  refine T.l_head_of.ok scLHeadOf (fun vs H Q E h => ?_) (fun f cdv A outer s H vs Q E hr h => ?_)
  · obtain ⟨v, c, rfl, _⟩ := h
    rfl
  obtain ⟨v, c, rfl, hc, ok, q⟩ := h
  refine ⟨_, pss_cons (ps_if (pt_cmpR op_eq (pe_ix ix_tup (pv 0) pe_int (fun _ _ => rfl)) pe_str (nomark _))
      (pss_one (ps_ret (pe_op op_add_str pe_str (pe_join pe_str (pe_lc (own := [("_law_pair", 1)]) (g := gName 1) (tt := tYes) rfl scLHeadOf.nd (pi_tup (pe_ix ix_tup (pv 0) pe_int (fun _ _ => rfl))) (blkOk_by (N := ["_law_choice_here", "_law_pair"]) (sc := defScope sLHeadOf) (by decide +kernel))
        (fun _ _ _ _ _ => pg_name (i := 1) scLHeadOf.nd rfl (Or.inl rfl)) (fun _ _ _ _ _ => pts_nil) (fun _ _ _ _ _ => pe_ix (ix_tupK K) (pv 1) pe_int (fun _ _ => rfl))))))) pss_nil)
    (pss_one (ps_ret (pe_ix ix_tup (pv 0) pe_int (fun _ _ => rfl)))), ?_⟩
  obtain ⟨a, us, rfl, ht, hd⟩ := hc.lead
  generalize hw : wdC c = wd at ht ⊢
  refine ⟨_, rfl, a, _, _, _, rfl, rfl, ht, at_of (j := 0) rfl rfl, rfl, _, rfl, ite2 (fun h => ?_) (fun h => ⟨_, rfl, a, _, _, _, rfl, rfl, ht, at_of (j := 0) rfl rfl, ?_⟩)⟩
  rotate_left
  · have ns : wd ≠ "shape" := fun e => h (decide_eq_true (congrArg V.str e))
    have z := q H (Same.refl H)
    cases c with
    | shape fs => exact absurd hw.symm ns
    | letter l => exact ok.elim
    | cut l _ => exact ok.elim
    | any l => exact ok.elim
    | wth l => exact ok.elim
    | _ =>
      rw [← hw]
      exact z
  obtain ⟨fs, rfl⟩ := wd_shape (hw.trans (V.str.inj (of_decide_eq_true h)))
  have fld : Fld (fs.map (·.1)) := ok
  obtain ⟨u, rfl, hu⟩ := Dts.one (d := .tuple (pyF fs)) hd
  obtain ⟨b, rfl, ps, hb, lp, hp⟩ := names_kind hu
  have zl := fld.2.1
  have zs1 := fld.sum
  have hq : hdC (.shape fs) = ("shape " : Str) ++ Txt.join " " (fs.map (·.1)) := head_text fld.1
  rw [hq] at q
  generalize fs.map (·.1) = zs at lp hp zl zs1 q
  refine ⟨⟨_, rfl⟩, _, rfl, a, _, _, _, rfl, rfl, ht, at_of (j := 1) rfl rfl, b, rfl, ⟨_, hb⟩, fun D hD => ?_⟩
  refine lc_tup (K := K) (a := b) (xs := ps) (fun j H2 => Same H H2 ∧ H2 D = some (.lst ((zs.take j).map V.str))) ⟨same_new hD _, upd_same⟩ (fun j H2 _ h => (Same.keep h.1) _ _ hb) ?_ ?_
  · rintro j x H2 hx ⟨e2, h2⟩
    have lt : j < zs.length := lp ▸ (List.getElem?_eq_some_iff.mp hx).1
    obtain ⟨b2, us2, rfl, hb2⟩ := hp j x zs[j] hx (List.getElem?_eq_getElem lt)
    refine ⟨rfl, _, rfl, b2, _, _, _, rfl, rfl, (Same.keep e2) _ _ hb2, at_of (j := 0) rfl rfl, _, h2, ?_, fun c o hc => ?_, ?_⟩
    · rw [List.length_map]
      exact small1000 (Nat.le_trans (List.length_take_le' _ _) (by omega))
    · rw [upd_ne (ne_of_none hc hD)]
      exact e2 c o hc
    · rw [upd_same, List.take_add_one, List.getElem?_eq_getElem lt, List.map_append]
      rfl
  rintro H2 ⟨e2, h2⟩
  rw [List.take_of_length_le (by omega)] at h2
  refine ⟨" ", D, zs, rfl, rfl, .inl (SqL.of h2), ?_, _, _, rfl, rfl, ?_, q _ e2⟩
  · show _ + _ * 1 ≤ _
    omega
  · have hj : (Txt.join " " zs).length ≤ _ + _ * 1 := join_len " " zs
    show 6 + _ ≤ sizeLine
    rw [sizeLine_eq]; omega
theorem scHeadsOf : FnScope ["_law_choice_here", "_law_bounds_here", "_law_one"] ["_law_choice_here", "_law_bounds_here"] (defScope sHeadsOf) := ⟨rfl, rfl, rfl, by decide +kernel, rfl, by decide +kernel, by decide +kernel⟩
theorem c_heads_of (T : Tx K mg) : Cal P w K mg base 2 "_law_heads_of" ["_law_choice_here", "_law_bounds_here"] (spHeads K) := by
  have CH : Cal P w K mg base 1 "_law_head_of" ["_law_choice_here"] (spHead K) := c_l_head_of T
  refine T.heads_of.ok scHeadsOf (fun vs H Q E h => ?_) (fun f cdv A outer s H vs Q E hr h => ?_)
  · obtain ⟨v, b, c, bs, rfl, _⟩ := h
    rfl
  obtain ⟨v, b, c, bs, rfl, hc, hB, okb, form, q⟩ := h
  have hu := hu_of hr
  refine ⟨_, pss_cons (ps_if (pt_cmpR op_eq (pe_ix ix_tup (pv 0) pe_int (fun _ _ => rfl)) pe_str (nomark _)) (pss_one (ps_ret (pe_ix ix_tup (pv 0) pe_int (fun _ _ => rfl)))) pss_nil)
    (pss_one (ps_ret (pe_callTy call_tuple_of (by rfl) T.m_tuple (by decide +kernel) (pa_cons (pe_callB (cr_txSorted rfl) (by rfl) T.m_sorted (by decide +kernel) (pa_cons (pe_callTy (cr_txSet rfl) (by rfl) T.m_set (by decide +kernel) (pa_cons
      (pe_lc (own := [("_law_one", 2)]) (g := gName 2) (tt := tYes) rfl scHeadsOf.nd (pi_tup (pe_dget hu (pv 1) (pe_ix ix_tup (pv 0) pe_int (fun _ _ => rfl)) (fun _ _ => rfl))) (blkOk_by (N := ["_law_choice_here", "_law_bounds_here", "_law_one"]) (sc := defScope sHeadsOf) (by decide +kernel))
        (fun _ _ _ _ _ => pg_name (i := 2) scHeadsOf.nd rfl (Or.inl rfl)) (fun _ _ _ _ _ => pts_nil) (fun _ _ _ _ _ => pe_cal CH hr (pa_cons (pv 2) pa_nil))) pa_nil)) pa_nil)) pa_nil)))), ?_⟩
  rcases form with ⟨l, k, rfl, hm⟩ | ⟨l, hs, rfl⟩
  · obtain ⟨a, u, rfl, ht, hu'⟩ := (show Dt K H v (.tuple [.str "letter", .str l]) from hc).two
    rw [hu'.strOf] at ht
    obtain ⟨j, hj⟩ := List.getElem?_of_mem hm
    obtain ⟨kv, hg, hk⟩ := hB.at hj
    obtain ⟨ka, kvs, rfl, hkt, hkd⟩ := hk.open
    obtain ⟨_, k0, k3, okk⟩ := okb _ hm
    have kl : kvs.length = k.length := by rw [hkd.1, pyL_map, List.length_map]
    refine ⟨_, rfl, a, _, _, _, rfl, rfl, ht, at_of (j := 0) rfl rfl, rfl, _, rfl, iteNo (by decide +kernel) ⟨_, rfl, _, rfl, a, _, _, _, rfl, rfl, ht, at_of (j := 1) rfl rfl, b, _, rfl, hg, ka, rfl, ⟨_, hkt⟩, fun D hD => ?_⟩⟩
    refine lc_tup (K := K) (a := ka) (xs := kvs) (fun j H2 => Same H H2 ∧ H2 D = some (.lst (((k.take j).map hdC).map V.str))) ⟨same_new hD _, upd_same⟩ (fun j H2 _ h => (Same.keep h.1) _ _ hkt) ?_ ?_
    · rintro j x H2 hx ⟨e2, h2⟩
      obtain ⟨d, hd1, hd2⟩ := hkd.at hx
      rw [pyL_map, List.getElem?_map] at hd1
      obtain ⟨c, hc', rfl⟩ := Option.map_eq_some_iff.mp hd1
      refine ⟨rfl, _, rfl, x, c, rfl, (Same.keep e2).dt hd2, hdOk_of (okL_mem okk (List.mem_of_getElem? hc')), fun H3 e3 => ⟨_, e3 _ _ h2, ?_, fun c o hb => ?_, ?_⟩⟩
      · rw [List.length_map, List.length_map]
        exact small1000 (Nat.le_trans (List.length_take_le' _ _) (Nat.le_trans k3 (by decide)))
      · rw [upd_ne (ne_of_none hb hD)]
        exact e3 _ _ (e2 c o hb)
      · rw [upd_same, List.take_add_one, hc', List.map_append, List.map_append]
        rfl
    rintro H2 ⟨e2, h2⟩
    rw [List.take_of_length_le (by omega)] at h2
    have lk : (k.map hdC).length = k.length := List.length_map _
    have k3' : k.length ≤ 3 := k3
    refine ⟨D, k.map hdC, rfl, SqL.of h2, by omega, fun d m hd' hm' => ⟨d, _, m, rfl, upd_same, by omega, fun ys p so nd mem len hp => ⟨p, _, rfl, .inl ⟨SqL.of upd_same, fun t ht' => ?_⟩⟩⟩⟩
    generalize TxO _ d (fun y => decide (y ∈ k.map hdC)) m = o3 at hp ht' ⊢
    refine q _ _ ys (e2.trans ((same_new hd' o3).trans ((same_new hp _).trans (same_new ht' _)))) ((strs_dts ys).tup (SqT.of upd_same)) (.inl ⟨l, k, rfl, hm, so, nd, by omega, fun x => ?_⟩)
    rw [mem x, decide_eq_true_eq]
  · obtain ⟨a, us, rfl, ht, hd⟩ := hc.lead
    obtain ⟨u, us', rfl, hu1, hd2⟩ := Dts.uncons (d := .str l) hd
    obtain ⟨u2, rfl, hu2⟩ := hd2.one
    refine ⟨_, rfl, a, _, _, _, rfl, rfl, ht, at_of (j := 0) rfl rfl, rfl, _, rfl, iteYes ?_ ⟨_, rfl, a, _, _, _, rfl, rfl, ht, at_of (j := 2) rfl rfl, q _ _ hs (Same.refl H) hu2 (.inr ⟨l, rfl⟩)⟩⟩
    exact decide_eq_true rfl
end
end Sc
namespace Sc
open PySem PyProof.Rows L2
section
variable {P : Program} {w : World} {K : PySem.W.Frag} {mg : Str → Option Value} {base : Heap}
theorem scAnswers : FnScope ["_law_head", "_law_ask_here"] ["_law_head", "_law_ask_here"] (defScope sAnswers) := ⟨rfl, rfl, rfl, by decide +kernel, rfl, by decide +kernel, by decide +kernel⟩
theorem c_answers (T : Tx K mg) : Cal P w K mg base 1 "_law_answers" ["_law_head", "_law_ask_here"] (spAns K) := by
  refine T.answers.ok scAnswers (fun vs H Q E h => ?_) (fun f cdv A outer s H vs Q E hr h => ?_)
  · obtain ⟨hd, v, a, rfl, _⟩ := h
    rfl
  obtain ⟨hd, v, a, rfl, ⟨c, hok, rfl⟩, da, oka, q⟩ := h
  refine ⟨_, pss_cons (ps_if (pt_cmpR op_eq (pe_ix ix_tup (pv 1) pe_int (fun _ _ => rfl)) pe_str (nomark _)) (pss_one (ps_ret (pe_or (pe_cmpR op_eq (pv 0) (pe_ix ix_tup (pv 1) pe_int (fun _ _ => rfl)) (nomark _))
      (pe_one (pe_and (pe_cmpR op_eq (pe_ix ix_tup (pv 1) pe_int (fun _ _ => rfl)) pe_str (nomark _)) (pe_one (pe_m1 PySem.F.slot_str_startswith PySem.F.type_str_startswith mt_startswith (pv 0) pe_str))))))) pss_nil)
    (pss_one (ps_ret (pe_and (pe_m1 PySem.F.slot_str_startswith PySem.F.type_str_startswith mt_startswith (pv 0) pe_str) (pe_one (pe_cmpR op_in_seq (pe_ix ix_tup (pv 1) pe_int (fun _ _ => rfl)) (pe_slice sl_list (pe_split (pv 0) pe_str) (po_some pe_int) po_none) (by rfl)))))), ?_⟩
  have es := (hd_split hok).1
  have w0 := (hd_split hok).2
  have l3 := hd_short hok
  cases a with
  | is z =>
    obtain ⟨aa, u, rfl, ht, hu⟩ := (show Dt K H v (.tuple [.str "is", .str z]) from da).two
    rw [hu.strOf] at ht
    refine ⟨_, rfl, aa, _, _, _, rfl, rfl, ht, at_of (j := 0) rfl rfl, rfl, _, rfl, iteYes (by decide +kernel) ?_⟩
    have z2 := q H (Same.refl H)
    rw [is_ans hok oka] at z2
    refine ⟨_, rfl, _, rfl, aa, _, _, _, rfl, rfl, ht, at_of (j := 1) rfl rfl, rfl, _, rfl, ite2 (fun e => ?_) (fun e => ?_)⟩
    · rw [eqV_str] at e
      rw [e, Bool.true_or] at z2
      exact z2
    · rw [eqV_str] at e
      rw [Bool.eq_false_iff.mpr e, Bool.false_or] at z2
      refine ⟨_, rfl, aa, _, _, _, rfl, rfl, ht, at_of (j := 1) rfl rfl, rfl, _, rfl, ite2 (fun e => ?_) (fun e => ?_)⟩
      · rw [eqV_str] at e
        rw [e, Bool.true_and] at z2
        exact ⟨_, rfl, ⟨_, rfl⟩, _, _, rfl, rfl, z2⟩
      · rw [eqV_str] at e
        rw [Bool.eq_false_iff.mpr e, Bool.false_and] at z2
        exact z2
  | has z =>
    obtain ⟨aa, u, rfl, ht, hu⟩ := (show Dt K H v (.tuple [.str "has", .str z]) from da).two
    rw [hu.strOf] at ht
    refine ⟨_, rfl, aa, _, _, _, rfl, rfl, ht, at_of (j := 0) rfl rfl, rfl, _, rfl, iteNo (by decide +kernel) ?_⟩
    refine ⟨_, rfl, ⟨_, rfl⟩, _, _, rfl, rfl, _, rfl, ite2 (fun e => ?_) (fun e => ?_)⟩
    · have m0 : (hdWs c).map V.str ≠ [] := fun z => w0 (List.map_eq_nil_iff.mp z)
      refine ⟨_, rfl, aa, _, _, _, rfl, rfl, ht, at_of (j := 1) rfl rfl, _, rfl, ⟨_, rfl⟩, _, _, rfl, rfl, rfl, sizeOk (by omega), fun p hp => ?_⟩
      have hp1 : (upd H p (.lst ((Txt.split (hdC c) " ").map V.str))) p = some (.lst ((hdWs c).map V.str)) := by rw [upd_same, es]
      have e1 := same_new hp (.lst ((Txt.split (hdC c) " ").map V.str))
      generalize (upd H p (.lst ((Txt.split (hdC c) " ").map V.str))) = H1 at hp1 e1 ⊢
      refine ⟨1, rfl, p, _, rfl, SqL.of hp1, fun p2 hp2 => ?_⟩
      have hp3 : (upd H1 p2 (.lst (cutV ((hdWs c).map V.str) (some 1) none))) p2 = some (.lst (((hdWs c).drop 1).map V.str)) := by rw [upd_same, cut_one m0, ← List.map_drop]
      refine ⟨p2, _, rfl, .inl (SqL.of hp3), rfl, flat_strs _, ?_⟩
      have z2 := q _ (Same.trans e1 (same_new hp2 (.lst (cutV ((hdWs c).map V.str) (some 1) none))))
      rw [has_ans hok, e, Bool.true_and, ← in_strs] at z2
      exact z2
    · have z2 := q H (Same.refl H)
      rw [has_ans hok, Bool.eq_false_iff.mpr e, Bool.false_and] at z2
      exact z2
theorem scAsk : FnScope ["_law_s"] ["_law_s"] (defScope sAsk) := ⟨rfl, rfl, rfl, by decide +kernel, rfl, by decide +kernel, by decide +kernel⟩
theorem c_ask (T : Tx K mg) : Cal P w K mg base 2 "_law_ask" ["_law_s"] (spAsk K) := by
  have CT : Cal P w K mg base 1 "_law_taken" ["_law_s", "_law_most"] (spTaken K) := c_taken T
  have CW : Cal P w K mg base 1 "_law_word" ["_law_s", "_law_k"] (spWord K) := c_word T
  refine T.ask.ok scAsk (fun vs H Q E h => ?_) (fun f cdv A outer s0 H vs Q E hr h => ?_)
  · obtain ⟨s, i, rfl, _⟩ := h
    rfl
  obtain ⟨s, i, rfl, S, q⟩ := h
  refine ⟨_, pss_cons (ps_if (pt_cmpR op_eq (pe_cal CT hr (pa_cons (pv 0) (pa_cons pe_int pa_nil))) pe_int (nomark _)) (pss_one (ps_ret (pe_tup (pa_cons pe_str (pa_cons (pe_cal CW hr (pa_cons (pv 0) (pa_cons (pe_cal CT hr (pa_cons (pv 0) (pa_cons pe_int pa_nil))) pa_nil))) pa_nil))))) pss_nil)
    (pss_one (ps_ret (pe_tup (pa_cons pe_str (pa_cons (pe_ix ix_list (pe_lst (pa_cons pe_str (pa_cons pe_str (pa_cons pe_str (pa_cons pe_str (pa_cons pe_str pa_nil)))))) (pe_cal CT hr (pa_cons (pv 0) (pa_cons pe_int pa_nil))) (fun _ _ => rfl)) pa_nil))))), ?_⟩
  refine ⟨_, rfl, s, i, 3, rfl, S, by decide, by decide, fun r H1 _ _ x1 S1 => ⟨rfl, _, rfl, ite2 (fun _ => ?_) (fun _ => ?_)⟩⟩
  · refine ⟨_, rfl, _, rfl, s, i, 3, rfl, S1, by decide, by decide, fun k H2 k0 _ x2 S2 => ⟨s, i, k, rfl, S2, k0, fun H3 e3 => ⟨(by show 2 ≤ sizeLine; decide), fun p hp => ?_⟩⟩⟩
    obtain ⟨_, _, _, _, _, iok, _⟩ := id S1
    refine q _ _ (.has (wordOf i k)) (x1.trans (x2.trans (Ext.same (Same.trans e3 (same_new hp _))))) (S2.same (Same.trans e3 (same_new hp _))) ?_ (word_of iok k0)
    exact ((Dts.nil.cons (.str (wordOf i k))).cons (.str "has")).tup (SqT.of upd_same)
  · refine ⟨(by show 5 ≤ sizeLine; decide), fun L hL => ?_⟩
    have e2 := same_new hL (.lst [.str "number", .str "text", .str "row", .str "book", .str "shape"])
    refine ⟨_, rfl, s, i, 5, rfl, S1.same e2, by decide, by decide, fun r H2 r0 r5 x2 S2 => ?_⟩
    have nLs : L ≠ s := S1.ne hL
    obtain ⟨z, hz, mz⟩ : ∃ z : Str, ([.str "number", .str "text", .str "row", .str "book", .str "shape"] : List V)[r.toNat]? = some (.str z) ∧ okAsk (.is z) := by
      rcases ten (show r.toNat < 5 by omega) with e | e | e | e | e <;> rw [e] <;> refine ⟨_, rfl, ?_⟩ <;> (show _ ∈ (["number", "text", "row", "book", "shape"] : List Str)) <;> decide +kernel
    refine ⟨L, _, r, .str z, rfl, rfl, SqL.of (x2 _ _ nLs upd_same), by rw [show r = ((r.toNat : Nat) : Int) by omega]; exact atI_nat hz, (by show 2 ≤ sizeLine; decide), fun p hp => ?_⟩
    refine q _ _ (.is z) (x1.trans ((Ext.same e2).trans (x2.trans (Ext.same (same_new hp _))))) (S2.same (same_new hp _)) ?_ mz
    exact ((Dts.nil.cons (.str z)).cons (.str "is")).tup (SqT.of upd_same)

end
end Sc
namespace Sc
open PySem PyProof.Rows L2
section
variable {P : Program} {w : World} {K : PySem.W.Frag} {mg : Str → Option Value} {base : Heap}
theorem scWith : FnScope ["_law_names", "_law_name", "_law_kind_here", "_law_more"] ["_law_names", "_law_name", "_law_kind_here"] (defScope sLWith) := ⟨rfl, rfl, rfl, by decide +kernel, rfl, by decide +kernel, by decide +kernel⟩
theorem c_with (T : Tx K mg) : Cal P w K mg base 1 "_law_with" ["_law_names", "_law_name", "_law_kind_here"] (spWith K) := by
  refine T.l_with.ok scWith (fun vs H Q E h => ?_) (fun f cdv A outer s H vs Q E hr h => ?_)
  · obtain ⟨na, nms, x, v, k, rfl, _⟩ := h
    rfl
  obtain ⟨na, nms, x, v, k, rfl, hB, hk, l2, q⟩ := h
  have hu := hu_of hr
  refine ⟨_, pss_cons (ps_set (i := 3) scWith.nd rfl (Or.inl rfl) (pe_callTy call_dictD (by rfl) T.m_dict (by decide +kernel) (pa_cons (pv 0) pa_nil)))
    (pss_cons (ps_dput hu (pv 3) (pv 1) (pv 2) rfl)
    (pss_one (ps_ret (pv 3)))), ?_⟩
  obtain ⟨us, h1, h2, nd, h4⟩ := hB
  refine ⟨_, rfl, na, _, rfl, .inl h1, fun p hp => ?_⟩
  have e1 := same_new hp (.dK (zipK nms us))
  have hp1 : (upd H p (.dK (zipK nms us))) p = some (.dK (zipK nms us)) := upd_same
  generalize hH1 : (upd H p (.dK (zipK nms us))) = H1 at e1 hp1 ⊢
  dsimp only [gName]
  refine ⟨_, rfl, _, rfl, _, rfl, p, _, rfl, DPut.k (k := Sum.inr x) hp1 (small1000 (by rw [zipK_len h2]; omega)), ?_⟩
  have k5 : Keep K H1 (upd H1 p (.dK (putK (zipK nms us) (.inr x) v))) := Keep.upd hp1 trivial _
  obtain ⟨nms', vs', e, hl', nd', pt, hk'⟩ := zipK_put (H := upd H1 p (.dK (putK (zipK nms us) (.inr x) v))) h2 nd (k5.dt ((Same.keep e1).dt hk)) fun j u q a b => k5.dt ((Same.keep e1).dt (h4 j u q a b))
  refine ⟨_, rfl, q p _ nms' (fun b o hb => ?_) hp ⟨vs', by rw [upd_same, e], hl', nd', hk'⟩ pt⟩
  rw [upd_ne (ne_of_none hb hp)]
  exact e1 _ _ hb
theorem scWithin : FnScope ["_law_kind_here", "_law_due", "_law_choice_here"] ["_law_kind_here", "_law_due"] (defScope sWithin) := ⟨rfl, rfl, rfl, by decide +kernel, rfl, by decide +kernel, by decide +kernel⟩
theorem c_within (T : Tx K mg) : Cal P w K mg base 1 "_law_within" ["_law_kind_here", "_law_due"] (spInside K) := by
  refine T.within.ok scWithin (fun vs H Q E h => ?_) (fun f cdv A outer s H vs Q E hr h => ?_)
  · obtain ⟨kv, dv, k, due, ls, rfl, _⟩ := h
    rfl
  obtain ⟨kv, dv, k, due, ls, rfl, hk, hd, nm, okd, q⟩ := h
  have hu65 : (A.deeper (envOfC "_law_within" (defScope sWithin) s.heap.objs.size f cdv)).units + 65 < cLine := by have := hr.un; omega
  refine ⟨_, pss_cons (ps_for PassesOwn.never rfl (pi_tup (pv 0)) (pg_name (i := 2) scWithin.nd rfl (Or.inl rfl))
      (pss_one (ps_if (PW.pt (pw_and (pt_cmpR (op_nInTD hu65) (pv 2) (pv 1) (by rfl))
        (pw_and1 (pt_not (PW.pt (pw_and (pt_cmpR op_eq (pe_ix ix_tup (pv 2) pe_int (fun _ _ => rfl)) pe_str (nomark _))
          (pw_and1 (pt_cmpR (op_inTD hu65) (pe_tup (pa_cons pe_str (pa_cons (pe_ix ix_tup (pv 2) pe_int (fun _ _ => rfl)) pa_nil))) (pv 1) (by rfl)))))))))
        (pss_one (ps_ret pe_bl)) pss_nil)))
    (pss_one (ps_ret pe_bl)), ?_⟩
  obtain ⟨a, us, rfl, ht, hcs⟩ := hk.open
  obtain ⟨da, ds, rfl, hdt, hds⟩ := hd.open
  refine ⟨_, rfl, a, rfl, ⟨_, ht⟩, ?_⟩
  refine for_tup (K := K) (a := a) (xs := us) (fun j σ2 H2 => Same H H2 ∧ ∃ o, σ2 = [some (.ref a), some (.ref da), o]) ⟨Same.refl H, _, rfl⟩ (fun j σ2 H2 _ h => (Same.keep h.1) _ _ ht) ?_ ?_
  · rintro j x σ2 H2 hx ⟨e2, o, rfl⟩
    obtain ⟨d', hd1, hd2⟩ := hcs.at hx
    rw [pyL_map, List.getElem?_map] at hd1
    obtain ⟨c, hc, rfl⟩ := Option.map_eq_some_iff.mp hd1
    have mc := List.mem_of_getElem? hc
    obtain ⟨okc, lead⟩ := nm.2 c mc
    have shd : SeqAt.shaped (.tuple (pyL due)) = true := (okd.ok (by decide)).1
    have dc2 : Dp K H2 x (pyC c) := Dt.dp ((Same.keep e2).dt hd2)
    have dd2 : Dp K H2 (.ref da) (.tuple (pyL due)) := Dt.dp ((Same.keep e2).dt hd)
    dsimp only [gName]
    show tAnd _ _ _ _ _
    refine ⟨_, rfl, _, rfl, pyC c, pyL due, dc2, dd2, (okc.ok (by decide)).1, shd, _, rfl, ite2 (fun h => ?_) (fun h => iteF ⟨e2, _, rfl⟩)⟩
    have notin : ¬ c ∈ due := fun m => by
      rw [any_eqv_self okc.1 (by rw [pyL_map]; exact List.mem_map_of_mem m)] at h
      cases h
    obtain ⟨ca, cs, rfl, hct, hcd⟩ := ((Same.keep (K := K) e2).dt hd2).lead
    have fin : ∀ H3, Same H2 H3 → (∀ l, Ch.letter l ∈ due → (∀ c ∈ k, isLt l c) → False) → Q (.bl false) H3 := fun H3 e3 no => q false H3 (Same.trans e2 e3) fun ⟨l, m, al⟩ => (no l m al).elim
    show tAnd _ _ _ _ _
    refine ⟨_, rfl, ca, _, _, _, rfl, rfl, hct, at_of (j := 0) rfl rfl, rfl, _, rfl, ite2 (fun hcut => ?_) (fun hcut => ?_)⟩
    · obtain ⟨lt, hs, rfl⟩ := wd_cut (V.str.inj (of_decide_eq_true hcut))
      obtain ⟨u, us', rfl, hu, hd2'⟩ := Dts.uncons (d := .str lt) hcd
      rw [hu.strOf] at hct
      refine ⟨_, rfl, ca, _, _, _, rfl, rfl, hct, at_of (j := 1) rfl rfl, (by show 2 ≤ sizeLine; decide), fun p hp => ?_⟩
      have e3 := same_new hp (.tup [.str "letter", .str lt])
      have oklt : OkN 1 (.tuple [.str "letter", .str lt]) := by
        have e : pyC (.cut lt hs) = .tuple [.str "cut", .str lt, .tuple (hs.map .str)] := by rw [pyC]
        have ok2 := okc
        rw [e] at ok2
        have z := (ok2.ok (n := 40) (by decide)).sub.2 (.str lt) (List.mem_cons_of_mem _ List.mem_cons_self)
        exact okN_two (n := 0) (okN_w (by decide +kernel)) (okN_w (by rw [Bool.and_eq_true]; exact ⟨SeqAt.canLay_of_shaped z.1, z.2⟩))
      refine ⟨_, rfl, .tuple [.str "letter", .str lt], pyL due, .tup (SqT.of upd_same) (.cons (.str _) (.cons (.str _) .nil)), Dt.dp ((Same.keep (Same.trans e2 e3)).dt hd), (oklt.ok (by decide)).1, shd, _, rfl, ?_⟩
      refine ite2 (fun h2 => fin _ e3 fun l m al => ?_) (fun h2 => ⟨Same.trans e2 e3, _, rfl⟩)
      rcases al _ mc with e | ⟨hs', e⟩
      · cases e
      · cases e
        have z : (pyL due).any (fun z => PyData.eqv z (.tuple [.str "letter", .str lt])) = true := by
          refine any_eqv_self oklt.1 ?_
          rw [pyL_map]
          have : pyC (.letter lt) ∈ due.map pyC := List.mem_map_of_mem m
          rw [pyC] at this
          exact this
        rw [z] at h2
        cases h2
    · refine iteT (fin H2 (Same.refl H2) fun l m al => ?_)
      rcases al _ mc with e | ⟨hs', e⟩
      · exact notin (e ▸ m)
      · subst e
        exact hcut (decide_eq_true rfl)
  · rintro σ2 H2 ⟨e2, o, rfl⟩
    exact q true H2 e2 fun _ => rfl
end
end Sc
namespace Sc
open PySem PyProof.Rows L2
theorem hd_lay {c : Ch} (h : hdOk c) : OkN 0 (.str (hdC c)) := by
  have l := hd_short h
  have lay : ∀ z ∈ (hdC c).cps.toList, z ≤ 122 := by
    cases c with
    | num => exact (by decide +kernel : ∀ z ∈ ("number" : Str).cps.toList, z ≤ 122)
    | txt => exact (by decide +kernel : ∀ z ∈ ("text" : Str).cps.toList, z ≤ 122)
    | row _ => exact (by decide +kernel : ∀ z ∈ ("row" : Str).cps.toList, z ≤ 122)
    | book _ => exact (by decide +kernel : ∀ z ∈ ("book" : Str).cps.toList, z ≤ 122)
    | shape fs =>
      have fld : Fld (fs.map (·.1)) := h
      intro z hz
      have e : (hdC (.shape fs)).cps.toList = TL.tl (Txt.join " " (("shape" : Str) :: fs.map (·.1))) := rfl
      rw [e, TL.join_eq, TL.tl_join] at hz
      have jl : ∀ ps : List (List Nat), (∀ p ∈ ps, ∀ z ∈ p, z ≤ 122) → ∀ z ∈ TL.joinL (TL.tl " ") ps, z ≤ 122 := fun ps => by
        induction ps with
        | nil => intro _ z hz; cases hz
        | cons p ps ih =>
          intro hp z hz
          cases ps with
          | nil => exact hp p List.mem_cons_self z hz
          | cons q r =>
            rw [joinL_cons _ _ _ (by simp)] at hz
            rcases List.mem_append.mp hz with m | m
            · exact hp p List.mem_cons_self z m
            rcases List.mem_append.mp m with m | m
            · have : z = 32 := List.mem_singleton.mp m
              omega
            · exact ih (fun x hx => hp x (List.mem_cons_of_mem _ hx)) z m
      refine jl _ (fun p hp z hz => ?_) z hz
      obtain ⟨y, hy, rfl⟩ := List.mem_map.mp hp
      rcases List.mem_cons.mp hy with m | m
      · rw [m] at hz
        exact (by decide +kernel : ∀ z ∈ TL.tl ("shape" : Str), z ≤ 122) z hz
      · exact ((fld.2.2.2.2 y m).2.2 z hz).2
    | letter _ => exact h.elim
    | cut _ _ => exact h.elim
    | any _ => exact h.elim
    | wth _ => exact h.elim
  refine ⟨?_, ?_, by simp [PyData.depth]⟩
  · show (hdC c).cps.all (· < 0x110000) = true
    rw [← Array.all_toList, List.all_eq_true]
    intro z hz
    have := lay z hz
    exact decide_eq_true (by omega)
  · show decide ((hdC c).length ≤ 1000) = true
    exact decide_eq_true (by omega)
theorem ghd_okN {h : Str} (g : GHd h) : OkN 0 (.str h) := by obtain ⟨c, hc, rfl⟩ := g; exact hd_lay hc
theorem okN_cut {l : Str} (hl : Lett l) {hs : List Str} (h3 : hs.length ≤ 3) (g : ∀ h ∈ hs, GHd h) : OkN 40 (pyC (.cut l hs)) := by
  rw [pyC]
  refine (okN_tup (n := 1) (by show 3 ≤ 60; decide) fun x m => ?_).mono (by decide)
  simp only [List.mem_cons, List.not_mem_nil, or_false] at m
  rcases m with e | e | e <;> rw [e]
  · exact okN_w (by decide +kernel)
  · exact (okN_lett hl).mono (Nat.zero_le _)
  · refine okN_tup (by rw [List.length_map]; omega) fun y hy => ?_
    obtain ⟨z, hz, rfl⟩ := List.mem_map.mp hy
    exact ghd_okN (g z hz)
def spSideN (K : PySem.W.Frag) : Sp := fun vs H Q _ => ∃ (kv : V) (ba : Addr) (av : V) (y : Bool) (k : List Ch) (bs : List (Str × List Ch)) (a : Ask), vs = [kv, .ref ba, av, .bl y] ∧ IsK K H kv k ∧ IsB K H ba bs ∧ okB bs ∧ NmK (bs.map (·.1)) k ∧ Dt K H av (pyA a) ∧ okAsk a ∧
  ∀ (v : V) (H' : Hp) (k' : List Ch), Same H H' → IsK K H' v k' → NmK (bs.map (·.1)) k' → (∀ l, (∀ c ∈ k, isLt l c) → ∀ c ∈ k', isLt l c) → Q v H'
theorem eq_strs (xs ys : List Str) : PyData.eqv (.tuple (xs.map .str)) (.tuple (ys.map .str)) = decide (xs = ys) := by rw [← eqv_strs]; simp [PyData.eqv]
section
variable {P : Program} {w : World} {K : PySem.W.Frag} {mg : Str → Option Value} {base : Heap}
theorem scSide : FnScope ["_law_kind_here", "_law_bounds_here", "_law_ask_here", "_law_yes", "_law_found", "_law_choice_here", "_law_every", "_law_heads", "_law_head"] ["_law_kind_here", "_law_bounds_here", "_law_ask_here", "_law_yes"] (defScope sSide) := ⟨rfl, rfl, rfl, by decide +kernel, rfl, by decide +kernel, by decide +kernel⟩
theorem c_side (T : Tx K mg) : Cal P w K mg base 3 "_law_side" ["_law_kind_here", "_law_bounds_here", "_law_ask_here", "_law_yes"] (spSideN K) := by
  have CE : Cal P w K mg base 2 "_law_heads_of" ["_law_choice_here", "_law_bounds_here"] (spHeads K) := c_heads_of T
  have CH : Cal P w K mg base 1 "_law_head_of" ["_law_choice_here"] (spHead K) := c_l_head_of T
  have CA : Cal P w K mg base 1 "_law_answers" ["_law_head", "_law_ask_here"] (spAns K) := c_answers T
  refine T.side.ok scSide (fun vs H Q E h => ?_) (fun f cdv A outer s H vs Q E hr h => ?_)
  · obtain ⟨kv, ba, av, y, k, bs, a, rfl, _⟩ := h
    rfl
  obtain ⟨kv, b, av, y, k, bs, ak, rfl, hk, hB, ok, nm, da, oka, q⟩ := h
  have r1 : Room 1 _ := hr.mono (by decide)
  refine ⟨_, pss_cons (ps_set (i := 4) scSide.nd rfl (Or.inl rfl) (pe_lst pa_nil))
    (pss_cons (ps_for PassesOwn.never rfl (pi_tup (pv 0)) (pg_name (i := 5) scSide.nd rfl (Or.inl rfl))
      (pss_one (ps_if (PW.pt (pw_or (pt_cmpR op_eq (pe_ix ix_tup (pv 5) pe_int (fun _ _ => rfl)) pe_str (nomark _)) (pw_or1 (pt_cmpR op_eq (pe_ix ix_tup (pv 5) pe_int (fun _ _ => rfl)) pe_str (nomark _)))))
        (pss_cons (ps_set (i := 6) scSide.nd rfl (Or.inl rfl) (pe_cal CE hr (pa_cons (pe_tup (pa_cons pe_str (pa_cons (pe_ix ix_tup (pv 5) pe_int (fun _ _ => rfl)) pa_nil))) (pa_cons (pv 1) pa_nil))))
        (pss_cons (ps_set (i := 7) scSide.nd rfl (Or.inl rfl) (pe_callTy call_tuple_of (by rfl) T.m_tuple (by decide +kernel) (pa_cons
            (pe_lc (own := [("_law_head", 8)]) (g := gName 8) rfl scSide.nd (pi_tup (pe_cal CE hr (pa_cons (pv 5) (pa_cons (pv 1) pa_nil)))) (blkOk_by (N := ["_law_kind_here", "_law_bounds_here", "_law_ask_here", "_law_yes", "_law_found", "_law_choice_here", "_law_every", "_law_heads", "_law_head"]) (sc := defScope sSide) (by decide +kernel))
              (fun _ _ _ _ _ => pg_name (i := 8) scSide.nd rfl (Or.inl rfl)) (fun _ _ _ _ _ => pts_one (pt_cmpR op_eq (pe_cal CA r1 (pa_cons (pv 8) (pa_cons (pv 2) pa_nil))) (pv 3) (nomark _))) (fun _ _ _ _ _ => pv 8)) pa_nil)))
        (pss_one (ps_if (pt_cmpR (op_eqD hr.units) (pv 7) (pv 6) (nomark _))
          (pss_one (ps_expr (pe_bm PySem.F.plainAttrs_list PySem.F.slot_list_append PySem.F.type_list_append mt_append (pv 4) (pa_cons (pe_tup (pa_cons pe_str (pa_cons (pe_ix ix_tup (pv 5) pe_int (fun _ _ => rfl)) pa_nil))) pa_nil))))
          (pss_one (ps_if (pt_cmpR op_gt (pe_callB call_len_seq (by rfl) T.m_len PySem.boot_len (pa_cons (pv 7) pa_nil)) pe_int (nomark _))
            (pss_one (ps_expr (pe_bm PySem.F.plainAttrs_list PySem.F.slot_list_append PySem.F.type_list_append mt_append (pv 4) (pa_cons (pe_tup (pa_cons pe_str (pa_cons (pe_ix ix_tup (pv 5) pe_int (fun _ _ => rfl)) (pa_cons (pv 7) pa_nil)))) pa_nil)))) pss_nil))))))
        (pss_one (ps_if (pt_cmpR op_eq (pe_cal CA r1 (pa_cons (pe_cal CH r1 (pa_cons (pv 5) pa_nil)) (pa_cons (pv 2) pa_nil))) (pv 3) (nomark _))
          (pss_one (ps_expr (pe_bm PySem.F.plainAttrs_list PySem.F.slot_list_append PySem.F.type_list_append mt_append (pv 4) (pa_cons (pv 5) pa_nil)))) pss_nil)))))
    (pss_one (ps_ret (pe_callTy call_tuple_of (by rfl) T.m_tuple (by decide +kernel) (pa_cons (pv 4) pa_nil))))), ?_⟩
  obtain ⟨l, vs, rfl, ht, hd⟩ := hk.open
  refine ⟨(by show 0 ≤ sizeLine; decide), fun D hD => ?_⟩
  have nd := hB.nd
  have k9 := nm.1
  have e0 := same_new hD (.lst [])
  have kq : ∀ {H2 : Hp}, Same H H2 → SqT K H2 l vs := fun e => (Same.keep e) _ _ ht
  -- what is left so far
  let Lf : List Ch → List Ch → Prop := fun k0 k' => k'.length ≤ k0.length ∧ (∀ c ∈ k', NmC (bs.map (·.1)) c) ∧ ∀ l, (∀ c ∈ k, isLt l c) → ∀ c ∈ k', isLt l c
  have lf0 : Lf [] [] := ⟨Nat.le_refl _, (fun c m => by cases m), fun l _ c m => by cases m⟩
  dsimp only [gName]
  refine ⟨_, rfl, l, rfl, ⟨_, kq e0⟩, ?_⟩
  refine for_tup (K := K) (a := l) (xs := vs) (fun j σ2 H2 => Same H H2 ∧ (∃ o5 o6 o7, σ2 = [some (.ref l), some (.ref b), some av, some (.bl y), some (.ref D), o5, o6, o7, none]) ∧ ∃ us k', H2 D = some (.lst us) ∧ Dts K H2 us (k'.map pyC) ∧ Lf (k.take j) k')
    ⟨e0, ⟨_, _, _, rfl⟩, [], [], upd_same, Dts.nil, lf0⟩ (fun j σ2 H2 _ h => kq h.1) ?_ ?_
  · rintro j x σ2 H2 hx ⟨e2, ⟨o5, o6, o7, rfl⟩, us, k', h2, hus, lf⟩
    obtain ⟨d', hd1, hd2⟩ := hd.at hx
    rw [pyL_map, List.getElem?_map] at hd1
    obtain ⟨c, hc, rfl⟩ := Option.map_eq_some_iff.mp hd1
    have mc := List.mem_of_getElem? hc
    obtain ⟨okc, lead⟩ := nm.2 c mc
    have hB2 := hB.same e2
    have da2 := (Same.keep (K := K) e2).dt da
    have dc : IsC K H2 x c := (Same.keep e2).dt hd2
    have dc0 := dc
    obtain ⟨ca, cs, rfl, hct, hcd⟩ := dc.lead
    have tk : (k.take (j + 1)).length = (k.take j).length + 1 := by
      rw [List.length_take, List.length_take]
      have := (List.getElem?_eq_some_iff.mp hc).1
      omega
    dsimp only [gName]
    have small : us.length < sizeLine := by
      rw [hus.1, List.length_map]
      exact small1000 (by have := lf.1; have := List.length_take_le' j k; omega)
    have keepL : ∀ (H3 : Hp) (o6 o7 : Option V), Same H2 H3 →
        Same H H3 ∧ (∃ o5' o6' o7', [some (.ref l), some (.ref b), some av, some (.bl y), some (.ref D), some (.ref ca), o6, o7, none] = [some (V.ref l), some (.ref b), some av, some (.bl y), some (.ref D), o5', o6', o7', none]) ∧ ∃ us k', H3 D = some (.lst us) ∧ Dts K H3 us (k'.map pyC) ∧ Lf (k.take (j + 1)) k' := fun H3 o6 o7 e3 =>
      ⟨Same.trans e2 e3, ⟨_, _, _, rfl⟩, us, k', e3 _ _ h2, (Same.keep e3).dts hus, by have := lf.1; rw [tk]; omega, lf.2⟩
    have step : ∀ (H3 : Hp) (v : V) (c' : Ch) (o6 o7 : Option V), Same H2 H3 → IsC K H3 v c' → NmC (bs.map (·.1)) c' → (∀ l, isLt l c → isLt l c') →
        Same H (upd H3 D (.lst (us ++ [v]))) ∧ (∃ o5' o6' o7', [some (.ref l), some (.ref b), some av, some (.bl y), some (.ref D), some (.ref ca), o6, o7, none] = [some (V.ref l), some (.ref b), some av, some (.bl y), some (.ref D), o5', o6', o7', none]) ∧ ∃ ws k', (upd H3 D (.lst (us ++ [v]))) D = some (.lst ws) ∧ Dts K (upd H3 D (.lst (us ++ [v]))) ws (k'.map pyC) ∧ Lf (k.take (j + 1)) k' := fun H3 v c' o6 o7 e3 dv nc il => by
      have h3 := e3 _ _ h2
      have k4 : Keep K H3 (upd H3 D (.lst (us ++ [v]))) := Keep.upd h3 trivial _
      refine ⟨fun b o hb => ?_, ⟨_, _, _, rfl⟩, us ++ [v], k' ++ [c'], upd_same, ?_, ?_, fun c2 m => ?_, fun l' al c2 m => ?_⟩
      · rw [upd_ne (ne_of_none hb hD)]
        exact e3 _ _ (e2 _ _ hb)
      · rw [List.map_append]
        exact (k4.dts ((Same.keep e3).dts hus)).snoc (k4.dt dv)
      · rw [tk, List.length_append]
        exact Nat.succ_le_succ lf.1
      · rcases List.mem_append.mp m with m | m
        · exact lf.2.1 c2 m
        · rw [List.mem_singleton.mp m]; exact nc
      · rcases List.mem_append.mp m with m | m
        · exact lf.2.2 l' al c2 m
        · rw [List.mem_singleton.mp m]; exact il l' (al c mc)
    generalize hw : wdC c = wd at hct ⊢
    have ors : ∀ Qt : Bool → Hp → Prop, ((wd = "letter" ∨ wd = "cut") → Qt true H2) → (¬ (wd = "letter" ∨ wd = "cut") → Qt false H2) →
        tOr (tTest (tOp rEq (tOp (rIxT K) (tVar 5) (tC (.int 0))) (tC (.str "letter")))) (tTest (tOp rEq (tOp (rIxT K) (tVar 5) (tC (.int 0))) (tC (.str "cut")))) [some (.ref l), some (.ref b), some av, some (.bl y), some (.ref D), some (.ref ca), o6, o7, none] H2 Qt := fun Qt hT hF => by
      refine or_pure (decide (V.str wd = V.str "letter")) (decide (V.str wd = V.str "cut")) (fun R h => ⟨_, rfl, ca, _, _, _, rfl, rfl, hct, at_of (j := 0) rfl rfl, rfl, _, rfl, h⟩) (fun _ R h => ⟨_, rfl, ca, _, _, _, rfl, rfl, hct, at_of (j := 0) rfl rfl, rfl, _, rfl, h⟩) (fun h => hT ?_) (fun h1 h2 => hF ?_)
      · rcases h with h | h
        · exact .inl (V.str.inj (of_decide_eq_true h))
        · exact .inr (V.str.inj (of_decide_eq_true h))
      · rintro (h | h)
        · exact absurd (decide_eq_true (congrArg V.str h)) (by rw [h1]; exact Bool.false_ne_true)
        · exact absurd (decide_eq_true (congrArg V.str h)) (by rw [h2]; exact Bool.false_ne_true)
    refine ors _ (fun h => iteT ?_) (fun n2 => iteF ?_)
    · have form : ∃ (lt : Str) (cr : List V), lt ∈ bs.map (·.1) ∧ cs = .str lt :: cr ∧ isLt lt c ∧ ((∃ l k, c = .letter l ∧ (l, k) ∈ bs) ∨ ∃ l hs, c = .cut l hs) ∧ ∀ ys, headsR bs c ys → ys.length ≤ 3 ∧ ∀ h ∈ ys, GHd h := by
        rcases h with h | h
        · obtain ⟨lt, rfl⟩ := wd_letter (hw.trans h)
          have ml : lt ∈ bs.map (·.1) := by
            rcases lead with e | ⟨l', m, e | ⟨hs, e, _⟩⟩
            · exact e.elim
            · cases e; exact m
            · cases e
          obtain ⟨q0, hq0, e0⟩ := List.mem_map.mp ml
          obtain ⟨u, rfl, hu⟩ := Dts.one (d := .str lt) hcd
          refine ⟨lt, [], ml, by rw [hu.strOf], .inl rfl, .inl ⟨lt, q0.2, rfl, by rw [← e0]; exact hq0⟩, fun ys hy => ?_⟩
          rcases hy with ⟨l', k2, e, hm', hs⟩ | ⟨_, e⟩
          · obtain ⟨_, _, k3, okk⟩ := ok _ hm'
            have k3' : k2.length ≤ 3 := k3
            refine ⟨Nat.le_trans hs.few k3', fun h hh => ?_⟩
            obtain ⟨c2, hc2, rfl⟩ := List.mem_map.mp ((hs.2.2.2 h).mp hh)
            exact ⟨c2, hdOk_of (okL_mem okk hc2), rfl⟩
          · cases e
        · obtain ⟨lt, hs, rfl⟩ := wd_cut (hw.trans h)
          have ml : lt ∈ bs.map (·.1) ∧ hs.length ≤ 3 ∧ ∀ h ∈ hs, GHd h := by
            rcases lead with e | ⟨l', m, e | ⟨hs', e, g⟩⟩
            · exact e.elim
            · cases e
            · cases e; exact ⟨m, g⟩
          obtain ⟨u, us', rfl, hu, hd2⟩ := Dts.uncons (d := .str lt) hcd
          refine ⟨lt, us', ml.1, by rw [hu.strOf], .inr ⟨hs, rfl⟩, .inr ⟨lt, hs, rfl⟩, fun ys hy => ?_⟩
          rcases hy with ⟨l', k2, e, _⟩ | ⟨l', e⟩
          · cases e
          · cases e; exact ml.2
      obtain ⟨lt, cr, hm, rfl, hcl, fm, eo⟩ := form
      obtain ⟨q0, hq0, eq0⟩ := List.mem_map.mp hm
      have hq0' : (lt, q0.2) ∈ bs := by rw [← eq0]; exact hq0
      have ltl : Lett lt := (ok _ hq0').1
      have isl : ∀ l', isLt l' c → l' = lt := fun l' e => by
        rcases hcl with h1 | ⟨_, h1⟩ <;> rcases e with h2 | ⟨_, h2⟩ <;> rw [h1] at h2 <;> cases h2 <;> rfl
      refine ⟨_, rfl, ca, _, _, _, rfl, rfl, hct, at_of (j := 1) rfl rfl, (by show 2 ≤ sizeLine; decide), fun p0 hp0 => ?_⟩
      have e3 := same_new hp0 (.tup [.str "letter", .str lt])
      have dl : IsC K (upd H2 p0 (.tup [.str "letter", .str lt])) (.ref p0) (.letter lt) := by
        show Dt K _ _ (pyC (.letter lt))
        rw [pyC]
        exact ((Dts.nil.cons (.str lt)).cons (.str "letter")).tup (SqT.of upd_same)
      refine ⟨_, rfl, .ref p0, b, .letter lt, bs, rfl, dl, hB2.same e3, ok, .inl ⟨lt, q0.2, rfl, hq0'⟩, fun ev H4 ys1 e4 de hE => ?_⟩
      have gE : ys1.length ≤ 3 ∧ ∀ h ∈ ys1, GHd h := by
        rcases hE with ⟨l', k2, e, hm', hs⟩ | ⟨_, e⟩
        · obtain ⟨_, _, k3, okk⟩ := ok _ hm'
          have k3' : k2.length ≤ 3 := k3
          refine ⟨Nat.le_trans hs.few k3', fun h hh => ?_⟩
          obtain ⟨c2, hc2, rfl⟩ := List.mem_map.mp ((hs.2.2.2 h).mp hh)
          exact ⟨c2, hdOk_of (okL_mem okk hc2), rfl⟩
        · cases e
      have e24 := Same.trans e3 e4
      clear e3 dl
      dsimp only [gName]
      refine ⟨_, rfl, _, rfl, .ref ca, b, c, bs, rfl, (Same.keep e24).dt dc0, hB2.same e24, ok, fm, fun hv H5 ys e5 dh hR => ?_⟩
      obtain ⟨y3, yg⟩ := eo ys hR
      have e25 := Same.trans e24 e5
      obtain ⟨hb, hvs, rfl, hbt, hbd⟩ := dh.open
      rw [hbd.strs] at hbt
      refine ⟨hb, rfl, ⟨_, hbt⟩, fun F hF => ?_⟩
      refine lc_tup (K := K) (a := hb) (xs := ys.map V.str) (fun i H6 => Same H5 H6 ∧ ∃ L : List Str, H6 F = some (.lst (L.map V.str)) ∧ L.length ≤ i ∧ ∀ h ∈ L, GHd h) ⟨same_new hF _, [], upd_same, Nat.le_refl _, fun h m => by cases m⟩ (fun i H6 _ h => (Same.keep h.1) _ _ hbt) ?_ ?_
      · rintro i x H6 hx ⟨e6, L, h6, l6, g6⟩
        rw [List.getElem?_map] at hx
        obtain ⟨z, hz, rfl⟩ := Option.map_eq_some_iff.mp hx
        have gz := yg z (List.mem_of_getElem? hz)
        have il := (List.getElem?_eq_some_iff.mp hz).1
        refine ⟨rfl, _, rfl, _, rfl, z, av, ak, rfl, gz, (Same.keep (Same.trans e25 e6)).dt da2, oka, fun H7 e7 => ⟨_, rfl, rfl, _, rfl, ?_⟩⟩
        rw [eqV_bl]
        refine ite2 (fun hin => ?_) (fun hin => ?_)
        · refine ⟨_, rfl, _, e7 _ _ h6, ?_, fun a o h => ?_, L ++ [z], ?_, ?_, fun h m => ?_⟩
          · rw [List.length_map]
            exact small1000 (by omega)
          · rw [upd_ne (ne_of_none h hF)]
            exact e7 _ _ (e6 a o h)
          · rw [upd_same, List.map_append]
            rfl
          · rw [List.length_append]; exact Nat.succ_le_succ l6
          · rcases List.mem_append.mp m with m | m
            · exact g6 h m
            · rw [List.mem_singleton.mp m]; exact gz
        · exact ⟨Same.trans e6 e7, L, e7 _ _ h6, Nat.le_succ_of_le l6, g6⟩
      rintro H6 ⟨e6, L, h6, l6, g6⟩
      rw [List.length_map] at l6
      refine ⟨F, _, rfl, .inl ⟨SqL.of h6, fun t1 ht1 => ?_⟩⟩
      have e67 := same_new ht1 (.tup (L.map V.str))
      have ht7 : (upd H6 t1 (.tup (L.map V.str))) t1 = some (.tup (L.map V.str)) := upd_same
      have e47 := Same.trans e5 (Same.trans e6 e67)
      have e27 := Same.trans e24 e47
      generalize (upd H6 t1 (.tup (L.map V.str))) = H7 at e67 ht7 e47 e27 ⊢
      have hct7 : SqT K H7 ca (.str wd :: .str lt :: cr) := (Same.keep e27) _ _ hct
      have de7 := (Same.keep (K := K) e47).dt de
      have sh : ∀ {hs : List Str}, hs.length ≤ 3 → (∀ x ∈ hs, GHd x) → SeqAt.shaped (.tuple (hs.map .str)) = true := fun {hs} l h => ((okN_tup (n := 0) (by rw [List.length_map]; omega) fun d m => by
        obtain ⟨z, hz, rfl⟩ := List.mem_map.mp m
        exact ghd_okN (h z hz)).ok (by decide)).1
      dsimp only [gName]
      refine ⟨_, rfl, _, rfl, .tuple (L.map .str), .tuple (ys1.map .str), .tup (SqT.of ht7) (dp_strs _), Dt.dp de7, sh (by omega) g6, sh gE.1 gE.2, _, rfl, ?_⟩
      refine ite2 (fun e => ?_) (fun e => ?_)
      · refine ⟨_, rfl, .inl ⟨rfl, _, SqL.of (e27 _ _ h2)⟩, _, rfl, ca, _, _, _, rfl, rfl, hct7, at_of (j := 1) rfl rfl, (by show 2 ≤ sizeLine; decide), fun p hp => ?_⟩
        have e8 := same_new hp (.tup [.str "letter", .str lt])
        refine ⟨D, us, _, rfl, rfl, e8 _ _ (e27 _ _ h2), small, step _ _ (.letter lt) _ _ (Same.trans e27 e8) ?_ ⟨?_, .inr ⟨lt, hm, .inl rfl⟩⟩ fun l' e => .inl (by rw [isl l' e])⟩
        · show Dt K _ _ (pyC (.letter lt))
          rw [pyC]
          exact ((Dts.nil.cons (.str lt)).cons (.str "letter")).tup (SqT.of upd_same)
        · rw [pyC]
          exact (okN_two (n := 0) (okN_w (by decide +kernel)) (okN_lett ltl)).mono (by decide)
      · refine ⟨_, rfl, t1, _, rfl, .inr (SqT.of ht7), _, _, rfl, rfl, _, rfl, ite2 (fun g => ?_) (fun g => ?_)⟩
        · refine ⟨_, rfl, .inl ⟨rfl, _, SqL.of (e27 _ _ h2)⟩, _, rfl, ca, _, _, _, rfl, rfl, hct7, at_of (j := 1) rfl rfl, _, rfl, (by show 3 ≤ sizeLine; decide), fun p hp => ?_⟩
          have e8 := same_new hp (.tup [.str "cut", .str lt, .ref t1])
          refine ⟨D, us, _, rfl, rfl, e8 _ _ (e27 _ _ h2), small, step _ _ (.cut lt L) _ _ (Same.trans e27 e8) ?_ ⟨okN_cut ltl (by omega) g6, .inr ⟨lt, hm, .inr ⟨L, rfl, by omega, g6⟩⟩⟩ fun l' e => .inr ⟨L, by rw [isl l' e]⟩⟩
          show Dt K _ _ (pyC (.cut lt L))
          rw [pyC]
          have d7 : Dt K H7 (.ref t1) (.tuple (L.map .str)) := (strs_dts L).tup (SqT.of ht7)
          exact (((Dts.nil.cons ((Same.keep e8).dt d7)).cons (.str lt)).cons (.str "cut")).tup (SqT.of upd_same)
        · exact keepL _ _ _ e27
    · have ho : hdOk c := by
        rcases lead with e | ⟨l', m, e | ⟨hs, e, _⟩⟩
        · exact e
        · subst e; exact absurd (.inl hw.symm) n2
        · subst e; exact absurd (.inr hw.symm) n2
      refine ⟨_, rfl, .ref ca, c, rfl, dc0, ho, fun H3 e3 => ⟨_, rfl, hdC c, av, ak, rfl, ⟨c, ho, rfl⟩, (Same.keep e3).dt da2, oka, fun H4 e4 => ⟨_, rfl, rfl, _, rfl, ?_⟩⟩⟩
      have e34 := Same.trans e3 e4
      rw [eqV_bl]
      refine ite2 (fun e => ?_) (fun e => ?_)
      · exact ⟨_, rfl, .inl ⟨rfl, _, SqL.of (e34 _ _ h2)⟩, _, rfl, D, us, _, rfl, rfl, e34 _ _ h2, small, step _ _ c _ _ e34 ((Same.keep e34).dt dc0) (nm.2 c mc) fun _ e => e⟩
      · exact keepL _ _ _ e34
  · rintro σ2 H2 ⟨e2, ⟨o5, o6, o7, rfl⟩, us, k', h2, hus, lf⟩
    have lf1 : k'.length ≤ (k.take vs.length).length := lf.1
    refine ⟨_, rfl, D, us, rfl, .inl ⟨SqL.of h2, fun t ht => q _ _ k' (Same.trans e2 (same_new ht _)) ?_ ⟨?_, lf.2.1⟩ lf.2.2⟩⟩
    · rw [IsK, pyL_map]
      exact ((Same.keep (same_new ht _)).dts hus).tup (SqT.of upd_same)
    · have := List.length_take_le' vs.length k
      omega
end
end Sc
namespace Sc
open PySem PyProof.Rows L2
/-- kinds to stand for letters -/
def GvO (ls : List Str) (gs : List (Str × List Ch)) : Prop := ∀ q ∈ gs, Wk ls 1 q.2 ∧ q.2.length ≤ 3
def spFill (K : PySem.W.Frag) (n : Nat) : Sp := fun vs H Q _ => ∃ (v : V) (ga : Addr) (k : List Ch) (d : Nat) (gs : List (Str × List Ch)) (ls : List Str), vs = [v, .ref ga] ∧ IsK K H v k ∧ IsB K H ga gs ∧ GvO ls gs ∧ d < n ∧ k ≠ [] ∧ k.length ≤ 3 ∧ okL (gs.map (·.1)) d k ∧
  ∀ (v' : V) (H' : Hp) (k' : List Ch), Same H H' → IsK K H' v' k' → Wk ls (d + 1) k' → Q v' H'
theorem Dts.app {K : PySem.W.Frag} {H : Hp} {vs : List V} {ds : List PyData} (h : Dts K H vs ds) : ∀ {us : List V} {es : List PyData}, Dts K H us es → Dts K H (vs ++ us) (ds ++ es) := by
  intro us es g
  refine ⟨by rw [List.length_append, List.length_append, h.1, g.1], fun j v d h1 h2 => ?_⟩
  by_cases lt : j < vs.length
  · rw [List.getElem?_append_left lt] at h1
    rw [List.getElem?_append_left (h.1 ▸ lt)] at h2
    exact h.2 j v d h1 h2
  · rw [List.getElem?_append_right (by omega)] at h1
    rw [List.getElem?_append_right (by have := h.1; omega), ← h.1] at h2
    exact g.2 _ v d h1 h2
theorem wd_row {c : Ch} (h : wdC c = "row") : ∃ k, c = .row k := by
  obtain ⟨k, e | e⟩ := wd_rb (.inl h)
  · exact ⟨k, e⟩
  · subst e; exact absurd (show ("book" : Str) = "row" from h) (by decide +kernel)
theorem wd_book {c : Ch} (h : wdC c = "book") : ∃ k, c = .book k := by
  obtain ⟨k, e | e⟩ := wd_rb (.inr h)
  · subst e; exact absurd (show ("row" : Str) = "book" from h) (by decide +kernel)
  · exact ⟨k, e⟩
section
variable {P : Program} {w : World} {K : PySem.W.Frag} {mg : Str → Option Value} {base : Heap}
theorem scFill : FnScope ["_law_kind_here", "_law_given", "_law_parts", "_law_choice_here", "_law_pair"] ["_law_kind_here", "_law_given"] (defScope sFill) := ⟨rfl, rfl, rfl, by decide +kernel, rfl, by decide +kernel, by decide +kernel⟩
theorem c_fill {n lv : Nat} (T : Tx K mg) (CP : Cal P w K mg base lv "_law_fill" ["_law_kind_here", "_law_given"] (spFill K n)) :
    Cal P w K mg base (lv + 1) "_law_fill" ["_law_kind_here", "_law_given"] (spFill K (n + 1)) := by
  refine T.fill.ok scFill (fun vs H Q E h => ?_) (fun f cdv A outer s H vs Q E hr h => ?_)
  · obtain ⟨v, ga, k, d, gs, ls, rfl, _⟩ := h
    rfl
  obtain ⟨v, ga, k, d, gs, ls, rfl, hk, hB, gv, dn, k0, k3, okk, q⟩ := h
  have hu := hu_of hr
  refine ⟨_, pss_cons (ps_set (i := 2) scFill.nd rfl (Or.inl rfl) (pe_lst pa_nil))
    (pss_cons (ps_for PassesOwn.never rfl (pi_tup (pv 0)) (pg_name (i := 3) scFill.nd rfl (Or.inl rfl))
      (pss_one (ps_if (pt_cmpR op_eq (pe_ix ix_tup (pv 3) pe_int (fun _ _ => rfl)) pe_str (nomark _))
        (pss_one (ps_expr (pe_bm PySem.F.plainAttrs_list PySem.F.slot_list_extend PySem.F.type_list_extend mt_extend (pv 2) (pa_cons (pe_callTy call_list_of (by rfl) T.m_list (by decide +kernel) (pa_cons (pe_dget hu (pv 1) (pe_ix ix_tup (pv 3) pe_int (fun _ _ => rfl)) (fun _ _ => rfl)) pa_nil)) pa_nil))))
        (pss_one (ps_if (PW.pt (pw_or (pt_cmpR op_eq (pe_ix ix_tup (pv 3) pe_int (fun _ _ => rfl)) pe_str (nomark _)) (pw_or1 (pt_cmpR op_eq (pe_ix ix_tup (pv 3) pe_int (fun _ _ => rfl)) pe_str (nomark _)))))
          (pss_one (ps_expr (pe_bm PySem.F.plainAttrs_list PySem.F.slot_list_append PySem.F.type_list_append mt_append (pv 2) (pa_cons (pe_tup (pa_cons (pe_ix ix_tup (pv 3) pe_int (fun _ _ => rfl)) (pa_cons (pe_cal CP hr (pa_cons (pe_ix ix_tup (pv 3) pe_int (fun _ _ => rfl)) (pa_cons (pv 1) pa_nil))) pa_nil))) pa_nil))))
          (pss_one (ps_if (pt_cmpR op_eq (pe_ix ix_tup (pv 3) pe_int (fun _ _ => rfl)) pe_str (nomark _))
            (pss_one (ps_expr (pe_bm PySem.F.plainAttrs_list PySem.F.slot_list_append PySem.F.type_list_append mt_append (pv 2) (pa_cons (pe_tup (pa_cons pe_str (pa_cons (pe_callTy call_tuple_of (by rfl) T.m_tuple (by decide +kernel) (pa_cons
                (pe_lc (own := [("_law_pair", 4)]) (g := gName 4) (tt := tYes) rfl scFill.nd (pi_tup (pe_ix ix_tup (pv 3) pe_int (fun _ _ => rfl))) (blkOk_by (N := ["_law_kind_here", "_law_given", "_law_parts", "_law_choice_here", "_law_pair"]) (sc := defScope sFill) (by decide +kernel))
                  (fun _ _ _ _ _ => pg_name (i := 4) scFill.nd rfl (Or.inl rfl)) (fun _ _ _ _ _ => pts_nil)
                  (fun _ _ _ _ _ => pe_tup (pa_cons (pe_ix (ix_tupK K) (pv 4) pe_int (fun _ _ => rfl)) (pa_cons (pe_cal CP hr (pa_cons (pe_ix (ix_tupK K) (pv 4) pe_int (fun _ _ => rfl)) (pa_cons (pv 1) pa_nil))) pa_nil)))) pa_nil)) pa_nil))) pa_nil))))
            (pss_one (ps_expr (pe_bm PySem.F.plainAttrs_list PySem.F.slot_list_append PySem.F.type_list_append mt_append (pv 2) (pa_cons (pv 3) pa_nil)))))))))))
    (pss_one (ps_ret (pe_callTy call_tuple_of (by rfl) T.m_tuple (by decide +kernel) (pa_cons (pv 2) pa_nil))))), ?_⟩
  obtain ⟨a, vs, rfl, ht, hd⟩ := hk.open
  have nd := hB.nd
  have kl : vs.length = k.length := by rw [hd.1, pyL_map, List.length_map]
  refine ⟨(by show 0 ≤ sizeLine; decide), fun D hD => ?_⟩
  have e0 := same_new hD (.lst [])
  have kq : ∀ {H2 : Hp}, Same H H2 → SqT K H2 a vs := fun e => (Same.keep e) _ _ ht
  dsimp only [gName]
  refine ⟨_, rfl, a, rfl, ⟨_, kq e0⟩, ?_⟩
  refine for_tup (K := K) (a := a) (xs := vs) (fun j σ2 H2 => Same H H2 ∧ (∃ o3, σ2 = [some (.ref a), some (.ref ga), some (.ref D), o3, none]) ∧ ∃ (us : List V) (k' : List Ch), H2 D = some (.lst us) ∧ Dts K H2 us (k'.map pyC) ∧ j ≤ k'.length ∧ k'.length ≤ 3 * j ∧ ∀ c ∈ k', Wc ls (d + 1) c)
    ⟨e0, ⟨_, rfl⟩, [], [], upd_same, Dts.nil, Nat.le_refl _, Nat.le_refl _, fun c m => by cases m⟩ (fun j σ2 H2 _ h => kq h.1) ?_ ?_
  · rintro j x σ2 H2 hx ⟨e2, ⟨o3, rfl⟩, us, k', h2, hus, lo, hi, wk⟩
    obtain ⟨d', hd1, hd2⟩ := hd.at hx
    rw [pyL_map, List.getElem?_map] at hd1
    obtain ⟨c, hc, rfl⟩ := Option.map_eq_some_iff.mp hd1
    have mc := List.mem_of_getElem? hc
    have jl := (List.getElem?_eq_some_iff.mp hc).1
    have okc := okL_mem' okk mc
    have hB2 := hB.same e2
    have dc : IsC K H2 x c := (Same.keep e2).dt hd2
    have dc0 := dc
    obtain ⟨ca, cs, rfl, hct, hcd⟩ := dc.lead
    have lu : us.length = k'.length := by rw [hus.1, List.length_map]
    have small : us.length < sizeLine := small1000 (by omega)
    have step : ∀ (H3 : Hp) (v : V) (c' : Ch), Same H2 H3 → IsC K H3 v c' → Wc ls (d + 1) c' →
        Same H (upd H3 D (.lst (us ++ [v]))) ∧ (∃ o3, [some (.ref a), some (.ref ga), some (.ref D), some (.ref ca), none] = [some (V.ref a), some (.ref ga), some (.ref D), o3, none]) ∧ ∃ (ws : List V) (k' : List Ch), (upd H3 D (.lst (us ++ [v]))) D = some (.lst ws) ∧ Dts K (upd H3 D (.lst (us ++ [v]))) ws (k'.map pyC) ∧ j + 1 ≤ k'.length ∧ k'.length ≤ 3 * (j + 1) ∧ ∀ c ∈ k', Wc ls (d + 1) c := fun H3 v c' e3 dv wc => by
      have h3 := e3 _ _ h2
      have k4 : Keep K H3 (upd H3 D (.lst (us ++ [v]))) := Keep.upd h3 trivial _
      refine ⟨fun b o hb => ?_, ⟨_, rfl⟩, us ++ [v], k' ++ [c'], upd_same, ?_, ?_, ?_, fun c2 m => ?_⟩
      · rw [upd_ne (ne_of_none hb hD)]
        exact e3 _ _ (e2 _ _ hb)
      · rw [List.map_append]
        exact (k4.dts ((Same.keep e3).dts hus)).snoc (k4.dt dv)
      · rw [List.length_append]; exact Nat.succ_le_succ lo
      · rw [List.length_append]; show k'.length + 1 ≤ _; omega
      · rcases List.mem_append.mp m with m | m
        · exact wk c2 m
        · rw [List.mem_singleton.mp m]; exact wc
    dsimp only [gName]
    generalize hw : wdC c = wd at hct ⊢
    refine ⟨_, rfl, ca, _, _, _, rfl, rfl, hct, at_of (j := 0) rfl rfl, rfl, _, rfl, ?_⟩
    have ors : ∀ Qt : Bool → Hp → Prop, ((wd = "row" ∨ wd = "book") → Qt true H2) → (¬ (wd = "row" ∨ wd = "book") → Qt false H2) →
        tOr (tTest (tOp rEq (tOp (rIxT K) (tVar 3) (tC (.int 0))) (tC (.str "row")))) (tTest (tOp rEq (tOp (rIxT K) (tVar 3) (tC (.int 0))) (tC (.str "book")))) [some (.ref a), some (.ref ga), some (.ref D), some (.ref ca), none] H2 Qt := fun Qt hT hF => by
      refine or_pure (decide (V.str wd = V.str "row")) (decide (V.str wd = V.str "book")) (fun R h => ⟨_, rfl, ca, _, _, _, rfl, rfl, hct, at_of (j := 0) rfl rfl, rfl, _, rfl, h⟩) (fun _ R h => ⟨_, rfl, ca, _, _, _, rfl, rfl, hct, at_of (j := 0) rfl rfl, rfl, _, rfl, h⟩) (fun h => hT ?_) (fun h1 h2 => hF ?_)
      · rcases h with h | h
        · exact .inl (V.str.inj (of_decide_eq_true h))
        · exact .inr (V.str.inj (of_decide_eq_true h))
      · rintro (h | h)
        · exact absurd (decide_eq_true (congrArg V.str h)) (by rw [h1]; exact Bool.false_ne_true)
        · exact absurd (decide_eq_true (congrArg V.str h)) (by rw [h2]; exact Bool.false_ne_true)
    refine ite2 (fun h => ?_) (fun h1 => ors _ (fun h => iteT ?_) fun n2 => iteF ⟨_, rfl, ca, _, _, _, rfl, rfl, hct, at_of (j := 0) rfl rfl, rfl, _, rfl, ite2 (fun h => ?_) fun h3 => ?_⟩)
    · obtain ⟨l, rfl⟩ := wd_letter (hw.trans (V.str.inj (of_decide_eq_true h)))
      obtain ⟨u, rfl, hu⟩ := Dts.one (d := .str l) hcd
      rw [hu.strOf] at hct
      obtain ⟨j', qq, hj', rfl, el, _⟩ := look_mem nd (show l ∈ gs.map (·.1) by unfold okC at okc; exact okc)
      obtain ⟨v, g, dk⟩ := hB2.at hj'
      obtain ⟨wkq, q3⟩ := gv qq (List.mem_of_getElem? hj')
      obtain ⟨va, vus, rfl, hvt, hvd⟩ := dk.open
      refine ⟨_, rfl, .inl ⟨rfl, _, SqL.of h2⟩, _, rfl, _, rfl, ca, _, _, _, rfl, rfl, hct, at_of (j := 1) rfl rfl, ga, .ref va, rfl, g, va, vus, rfl, .inr hvt, fun L hL => ?_⟩
      have e3 := same_new hL (.lst vus)
      have hL3 : (upd H2 L (.lst vus)) L = some (.lst vus) := upd_same
      have hD3 := e3 _ _ h2
      have lv2 : vus.length = qq.2.length := by rw [hvd.1, pyL_map, List.length_map]
      generalize (upd H2 L (.lst vus)) = H3 at e3 hL3 hD3 ⊢
      refine ⟨D, L, us, vus, rfl, rfl, hD3, hL3, sizeOk (by omega), ?_⟩
      have k4 : Keep K H3 (upd H3 D (.lst (us ++ vus))) := Keep.upd hD3 trivial _
      refine ⟨fun b o hb => ?_, ⟨_, rfl⟩, us ++ vus, k' ++ qq.2, upd_same, ?_, ?_, ?_, fun c2 m => ?_⟩
      · rw [upd_ne (ne_of_none hb hD)]
        exact e3 _ _ (e2 _ _ hb)
      · rw [List.map_append, ← pyL_map qq.2]
        exact (k4.dts ((Same.keep e3).dts hus)).app (k4.dts ((Same.keep e3).dts hvd))
      · rw [List.length_append]
        have : 0 < qq.2.length := List.length_pos_iff.mpr wkq.ne
        omega
      · rw [List.length_append]; omega
      · rcases List.mem_append.mp m with m | m
        · exact wk c2 m
        · exact (wkq.all c2 m).mono (by omega)
    · have rb : ∃ (wd' : Str) (kk : List Ch) (mk : List Ch → Ch), wd' = wd ∧ (∀ k2, pyC (mk k2) = .tuple [.str wd', .tuple (pyL k2)]) ∧ c = mk kk ∧ 0 < d ∧ kk ≠ [] ∧ kk.length ≤ 3 ∧ okL (gs.map (·.1)) (d - 1) kk ∧ ∀ m k2, Wk ls m k2 → Wc ls (m + 1) (mk k2) := by
        rcases h with h | h
        · obtain ⟨kk, rfl⟩ := wd_row (hw.trans h)
          unfold okC at okc
          exact ⟨"row", kk, .row, h.symm, fun k2 => by rw [pyC], rfl, okc.1, okc.2.1, okc.2.2.1, okc.2.2.2, fun m k2 h => .row h.ne h.few h.all⟩
        · obtain ⟨kk, rfl⟩ := wd_book (hw.trans h)
          unfold okC at okc
          exact ⟨"book", kk, .book, h.symm, fun k2 => by rw [pyC], rfl, okc.1, okc.2.1, okc.2.2.1, okc.2.2.2, fun m k2 h => .book h.ne h.few h.all⟩
      obtain ⟨wd', kk, mk, rfl, em, rfl, d0, kk0, kk3, okkk, mkw⟩ := rb
      obtain ⟨a2, u2, ea2, hat, hu2⟩ := (show Dt K H2 (.ref ca) (.tuple [.str wd', .tuple (pyL kk)]) from by rw [← em]; exact dc0).two
      cases ea2
      refine ⟨_, rfl, .inl ⟨rfl, _, SqL.of h2⟩, _, rfl, ca, _, _, _, rfl, rfl, hat, at_of (j := 0) rfl rfl, _, rfl, ca, _, _, _, rfl, rfl, hat, at_of (j := 1) rfl rfl, _, rfl, u2, ga, kk, d - 1, gs, ls, rfl, hu2, hB2, gv, by omega, kk0, kk3, okkk, fun v3 H3 k3' e3 dv wk3 => ⟨(by show 2 ≤ sizeLine; decide), fun p hp => ?_⟩⟩
      have e4 := same_new hp (.tup [.str wd', v3])
      refine ⟨D, us, _, rfl, rfl, e4 _ _ (e3 _ _ h2), small, step _ _ (mk k3') (Same.trans e3 e4) ?_ ?_⟩
      · show Dt K _ _ (pyC (mk k3'))
        rw [em]
        exact ((Dts.nil.cons ((Same.keep e4).dt dv)).cons (.str wd')).tup (SqT.of upd_same)
      · refine mkw d k3' ?_
        rw [show d - 1 + 1 = d by omega] at wk3
        exact wk3
    · obtain ⟨fs, rfl⟩ := wd_shape (hw.trans (V.str.inj (of_decide_eq_true h)))
      have h' : 0 < d ∧ fs.length ≤ 2 ∧ Fld (fs.map (·.1)) ∧ okF (gs.map (·.1)) (d - 1) fs := by unfold okC at okc; exact okc
      obtain ⟨u, rfl, hu⟩ := Dts.one (d := .tuple (pyF fs)) hcd
      obtain ⟨b, ps, rfl, hb, hbd⟩ := hu.open
      refine ⟨_, rfl, .inl ⟨rfl, _, SqL.of h2⟩, _, rfl, ca, _, _, _, rfl, rfl, hct, at_of (j := 1) rfl rfl, b, rfl, ⟨_, hb⟩, fun F hF => ?_⟩
      have nFD : F ≠ D := fun z => by rw [z, h2] at hF; cases hF
      refine lc_tup (K := K) (a := b) (xs := ps) (fun i H3 => Same H2 H3 ∧ ∃ ws fs', H3 F = some (.lst ws) ∧ Dts K H3 ws (pyF fs') ∧ fs'.map (·.1) = (fs.map (·.1)).take i ∧ ∀ q ∈ fs', Wk ls d q.2) ⟨same_new hF _, [], [], upd_same, Dts.nil, rfl, fun q m => by cases m⟩ (fun i H3 _ h => (Same.keep h.1) _ _ hb) ?_ ?_
      · rintro i x H3 hx ⟨e3, ws, fs', h3, hws, nm, wf⟩
        obtain ⟨d', hd1, hd2⟩ := hbd.at hx
        rw [pyF_map, List.getElem?_map] at hd1
        obtain ⟨p, hp1, rfl⟩ := Option.map_eq_some_iff.mp hd1
        have mp := List.mem_of_getElem? hp1
        have il := (List.getElem?_eq_some_iff.mp hp1).1
        have lf : fs'.length = i := by
          have := congrArg List.length nm
          rw [List.length_map, List.length_take, List.length_map] at this
          omega
        obtain ⟨pa, pk, rfl, hpt, hpk⟩ := ((Same.keep (K := K) e3).dt hd2).two
        obtain ⟨w1, k1, k33, o1⟩ := okF_mem' h'.2.2.2 mp
        refine ⟨rfl, _, rfl, pa, _, _, _, rfl, rfl, hpt, at_of (j := 0) rfl rfl, _, rfl, pa, _, _, _, rfl, rfl, hpt, at_of (j := 1) rfl rfl, _, rfl, pk, ga, p.2, d - 1, gs, ls, rfl, hpk, hB2.same e3, gv, by omega, k1, k33, o1, fun v3 H4 k3' e4 dv wk3 => ⟨(by show 2 ≤ sizeLine; decide), fun p1 hp2 => ⟨ws, (same_new hp2 _) _ _ (e4 _ _ h3), ?_, fun c o hb => ?_, ?_⟩⟩⟩
        · rw [hws.1, pyF_map, List.length_map]
          exact small1000 (by omega)
        · rw [upd_ne (ne_of_none hb hF)]
          exact (same_new hp2 _) _ _ (e4 _ _ (e3 c o hb))
        · have e5 := same_new hp2 (.tup [.str p.1, v3])
          have k6 : Keep K (upd H4 p1 (.tup [.str p.1, v3])) (upd (upd H4 p1 (.tup [.str p.1, v3])) F (.lst (ws ++ [.ref p1]))) := Keep.upd (e5 _ _ (e4 _ _ h3)) trivial _
          refine ⟨ws ++ [.ref p1], fs' ++ [(p.1, k3')], upd_same, ?_, ?_, fun q m => ?_⟩
          · rw [pyF_map, List.map_append, ← pyF_map]
            exact (k6.dts ((Same.keep (Same.trans e4 e5)).dts hws)).snoc (k6.dt (((Dts.nil.cons ((Same.keep e5).dt dv)).cons (.str p.1)).tup (SqT.of upd_same)))
          · rw [List.map_append, nm, List.take_add_one, List.getElem?_map, hp1]
            rfl
          · rcases List.mem_append.mp m with m | m
            · exact wf q m
            · rw [List.mem_singleton.mp m]
              rw [show d - 1 + 1 = d by omega] at wk3
              exact wk3
      · rintro H3 ⟨e3, ws, fs', h3, hws, nm, wf⟩
        have lp : ps.length = fs.length := by rw [hbd.1, pyF_map, List.length_map]
        rw [lp, List.take_of_length_le (by rw [List.length_map]; exact Nat.le_refl _)] at nm
        refine ⟨F, ws, rfl, .inl ⟨SqL.of h3, fun t1 ht1 => ⟨(by show 2 ≤ sizeLine; decide), fun p1 hp1 => ?_⟩⟩⟩
        have e4 := same_new ht1 (.tup ws)
        have e5 := same_new hp1 (.tup [.str "shape", .ref t1])
        have e35 := Same.trans e3 (Same.trans e4 e5)
        refine ⟨D, us, _, rfl, rfl, e35 _ _ h2, small, step _ _ (.shape fs') e35 ?_ ?_⟩
        · show Dt K _ _ (pyC (.shape fs'))
          rw [pyC]
          exact ((Dts.nil.cons ((Same.keep e5).dt (((Same.keep e4).dts hws).tup (SqT.of upd_same)))).cons (.str "shape")).tup (SqT.of upd_same)
        · have l2 : fs'.length ≤ 2 := by
            have := congrArg List.length nm
            rw [List.length_map, List.length_map] at this
            omega
          exact .shape l2 (by rw [nm]; exact h'.2.2.1) (fun q m => (wf q m).ne) (fun q m => (wf q m).few) fun q m => (wf q m).all
    · refine ⟨_, rfl, .inl ⟨rfl, _, SqL.of h2⟩, _, rfl, D, us, _, rfl, rfl, h2, small, step H2 _ c (Same.refl _) dc0 ?_⟩
      cases c with
      | num => exact .num _
      | txt => exact .txt _
      | letter _ => exact absurd (decide_eq_true (congrArg V.str hw.symm)) h1
      | row _ => exact absurd (Or.inl hw.symm) n2
      | book _ => exact absurd (Or.inr hw.symm) n2
      | shape _ => exact absurd (decide_eq_true (congrArg V.str hw.symm)) h3
      | cut _ _ => unfold okC at okc; exact okc.elim
      | any _ => unfold okC at okc; exact okc.elim
      | wth _ => unfold okC at okc; exact okc.elim
  · rintro σ2 H2 ⟨e2, ⟨o3, rfl⟩, us, k', h2, hus, lo, hi, wk⟩
    refine ⟨_, rfl, D, us, rfl, .inl ⟨SqL.of h2, fun t ht2 => q _ _ k' (Same.trans e2 (same_new ht2 _)) ?_ ⟨fun z => ?_, by omega, wk⟩⟩⟩
    · rw [IsK, pyL_map]
      exact ((Same.keep (same_new ht2 _)).dts hus).tup (SqT.of upd_same)
    · rw [z] at lo
      have : 0 < k.length := List.length_pos_iff.mpr k0
      have : vs.length ≤ 0 := lo
      omega
theorem c_fills (T : Tx K mg) : ∀ n : Nat, Cal P w K mg base n "_law_fill" ["_law_kind_here", "_law_given"] (spFill K n)
  | 0 => T.fill.never (P := P) (w := w) (base := base) (sp := spFill K 0) fun vs H Q E ⟨_, _, _, _, _, _, _, _, _, _, h, _⟩ => absurd h (Nat.not_lt_zero _)
  | n + 1 => c_fill T (c_fills T n)
end
end Sc
namespace Sc
open PySem PyProof.Rows L2
def spHanded (K : PySem.W.Frag) : Sp := fun vs H Q _ => ∃ (s : Addr) (i : Inf) (bv dv : V) (ba : Addr) (bd : List Ch) (bs : List (Str × List Ch)), vs = [.ref s, bv, dv, .ref ba] ∧ IsS K H s i ∧ IsB K H ba bs ∧ ba ≠ s ∧ okB bs ∧ bs.length ≤ 10 ∧ IsK K H bv bd ∧ OkN 40 (.tuple (pyL bd)) ∧
  (dv = .non ∨ ∃ due, IsK K H dv due ∧ OkN 40 (.tuple (pyL due))) ∧
  (∀ H', Ext s H H' → IsS K H' s i → Q .non H') ∧ ∀ (v : V) (H' : Hp) (l : Str), Ext s H H' → IsS K H' s i → l ∈ bs.map (·.1) → IsK K H' v [.letter l] → Q v H'
section
variable {P : Program} {w : World} {K : PySem.W.Frag} {mg : Str → Option Value} {base : Heap}
def nHan : List Str := ["_law_s", "_law_bound", "_law_due", "_law_bounds_here", "_law_letter", "_law_strange", "_law_one"]
theorem scHan : FnScope nHan ["_law_s", "_law_bound", "_law_due", "_law_bounds_here"] (defScope sHanded) := ⟨rfl, rfl, rfl, by decide +kernel, rfl, by decide +kernel, by decide +kernel⟩
theorem c_handed (T : Tx K mg) : Cal P w K mg base 2 "_law_handed" ["_law_s", "_law_bound", "_law_due", "_law_bounds_here"] (spHanded K) := by
  have CT : Cal P w K mg base 1 "_law_taken" ["_law_s", "_law_most"] (spTaken K) := c_taken T
  refine T.handed.ok scHan (fun vs H Q E h => ?_) (fun f cdv A outer s0 H vs Q E hr h => ?_)
  · obtain ⟨s, i, bv, dv, ba, bd, bs, rfl, _⟩ := h
    rfl
  obtain ⟨s, i, bv, dv, b, bd, bs, rfl, S, hB, nbs, okb, b10, hbd, okd, hdue, q0, q1⟩ := h
  have hu := hu_of hr
  have hu65 : (A.deeper (envOfC "_law_handed" (defScope sHanded) s0.heap.objs.size f cdv)).units + 65 < cLine := by have := hr.un; omega
  refine ⟨_, pss_cons (ps_lock (ps_for PassesOwn.never rfl (pi_keys (pv 3)) (pg_name (i := 4) scHan.nd rfl (Or.inl rfl))
      (pss_cons (ps_setLc (i := 5) (own := [("_law_one", 6)]) (g := gName 6) rfl scHan.nd rfl rfl (sw_true rfl rfl rfl (by decide +kernel)) (pi_tup (pe_dget hu (pv 3) (pv 4) (fun _ _ => rfl)))
          (blkOk_by (N := nHan) (sc := defScope sHanded) (by decide +kernel))
          (fun _ _ _ _ _ => pg_name (i := 6) scHan.nd rfl (Or.inl rfl)) (fun _ _ _ _ _ => pts_one (pt_cmpR (op_nInTDK K hu65) (pv 6) (pv 1) (by rfl))) (fun _ _ _ _ _ => pv 6))
      (pss_one (ps_if (PW.pt (pw_and (pt_cmpR (op_eqD hr.units) (pv 5) (pe_lst pa_nil) (nomark _)) (pw_and1 (pt_cmpR op_eq (pe_cal CT hr (pa_cons (pv 0) (pa_cons pe_int pa_nil))) pe_int (nomark _)))))
        (pss_one (ps_if (PW.pt (pw_or (pt_cmpR op_isN (pv 2) pe_non (nomark _)) (pw_or1 (pt_cmpR (op_inTD hu65) (pe_tup (pa_cons pe_str (pa_cons (pv 4) pa_nil))) (pv 2) (by rfl)))))
          (pss_one (ps_ret (pe_tup (pa_cons (pe_tup (pa_cons pe_str (pa_cons (pv 4) pa_nil))) pa_nil)))) pss_nil)) pss_nil)))))
    (pss_one (ps_ret pe_non)), ?_⟩
  obtain ⟨us, hb, bl, nd, hk⟩ := hB
  refine ⟨b, _, hb, trivial, fun od => ⟨_, rfl, b, od, rfl, .inl ⟨_, upd_same, ?_⟩⟩⟩
  have SG : IsS K (upd H b (.frz od (.dK (zipK bs us)))) s i := S.but hb (dk_nl _) nbs
  have KG : Keep K H (upd H b (.frz od (.dK (zipK bs us)))) := but_keep _ hb (dk_no _)
  have Gb : (upd H b (.frz od (.dK (zipK bs us)))) b = some (.frz od (.dK (zipK bs us))) := upd_same
  have un : ∀ {H' : Hp}, Ext s (upd H b (.frz od (.dK (zipK bs us)))) H' → Ext s H (upd H' b (.dK (zipK bs us))) := fun e => unlock_ext hb e
  generalize (upd H b (.frz od (.dK (zipK bs us)))) = G at SG KG Gb un ⊢
  have unS : ∀ {H' : Hp}, IsS K H' s i → Ext s G H' → IsS K (upd H' b (.dK (zipK bs us))) s i := fun h e => h.but (e _ _ nbs Gb) (fz_nl _ _) nbs
  have KX : ∀ {H' : Hp}, Ext s G H' → Keep K G H' := fun e => SG.keep e
  refine for_keysK (fun j σ H2 => (∃ o4 o5, σ = [some (.ref s), some bv, some dv, some (.ref b), o4, o5, none]) ∧ Ext s G H2 ∧ IsS K H2 s i) ⟨⟨_, _, rfl⟩, Ext.refl s G, SG⟩ (fun j σ H2 h => h.2.1 _ _ nbs Gb) ?_ ?_
  · rintro j k v σ H2 hkv ⟨⟨o4, o5, rfl⟩, x2, S2⟩
    obtain ⟨hk1, hv1⟩ := List.getElem?_zip_eq_some.mp (show ((bs.map fun q => (Sum.inr q.1 : Key)).zip us)[j]? = some (k, v) from hkv)
    rw [List.getElem?_map] at hk1
    obtain ⟨pb, hpb, rfl⟩ := Option.map_eq_some_iff.mp hk1
    have mb := List.mem_of_getElem? hpb
    obtain ⟨ltb, kb0, kb3, kbo⟩ := okb pb mb
    have gx := zipK_get nd hpb hv1
    have dkG : IsK K H2 v pb.2 := (KX x2).dt (KG.dt (hk j v pb hv1 hpb))
    have dbG : IsK K H2 bv bd := (KX x2).dt (KG.dt hbd)
    obtain ⟨va, vus, rfl, hvt, hvd⟩ := dkG.open
    have wkb : Wk [] 1 pb.2 := Wk.of_ok kb0 kb3 kbo
    have okv : ∀ c ∈ pb.2, OkN 40 (pyC c) := fun c m => ((wkb.all c m).okN (fun l h => by cases h)).mono (by decide)
    have lvu : vus.length = pb.2.length := by rw [hvd.1, pyL_map, List.length_map]
    dsimp only [gName]
    refine ⟨_, rfl, _, rfl, b, .ref va, rfl, .inl ⟨_, Sum.inr pb.1, .inr ⟨od, x2 _ _ nbs Gb⟩, rfl, gx.symm⟩, va, rfl, ⟨_, hvt⟩, fun D hD => ?_⟩
    have e0 := same_new hD (.lst [])
    refine lc_tup (K := K) (a := va) (xs := vus) (fun m H3 => Same H2 H3 ∧ ∃ ws ds, H3 D = some (.lst ws) ∧ Dts K H3 ws ds ∧ ws.length ≤ m ∧ ∀ d ∈ ds, OkN 40 d) ⟨e0, [], [], upd_same, Dts.nil, Nat.le_refl _, fun d m => by cases m⟩ (fun m H3 _ h => (Same.keep h.1) _ _ hvt) ?_ ?_
    · rintro m x H3 hx ⟨e3, ws, ds, h3, hws, lw, od'⟩
      obtain ⟨d', hd1, hd2⟩ := hvd.at hx
      rw [pyL_map, List.getElem?_map] at hd1
      obtain ⟨c, hc, rfl⟩ := Option.map_eq_some_iff.mp hd1
      have il := (List.getElem?_eq_some_iff.mp hc).1
      have mc := List.mem_of_getElem? hc
      have dx : Dt K H3 x (pyC c) := (Same.keep e3).dt hd2
      refine ⟨rfl, _, rfl, _, rfl, pyC c, pyL bd, Dt.dp dx, Dt.dp ((Same.keep e3).dt dbG), ((okv c mc).ok (by decide)).1, (okd.ok (by decide)).1, _, rfl, ite2 (fun _ => ?_) (fun _ => ?_)⟩
      · refine ⟨_, rfl, ws, h3, small1000 (by omega), fun a o ha => ?_, ws ++ [x], ds ++ [pyC c], upd_same, ?_, by rw [List.length_append]; exact Nat.succ_le_succ lw, fun d md => ?_⟩
        · rw [upd_ne (ne_of_none ha hD)]; exact e3 _ _ ha
        · have k4 : Keep K H3 (upd H3 D (.lst (ws ++ [x]))) := Keep.upd h3 trivial _
          exact (k4.dts hws).snoc (k4.dt dx)
        · rcases List.mem_append.mp md with m1 | m1
          · exact od' d m1
          · rw [List.mem_singleton.mp m1]; exact okv c mc
      · exact ⟨e3, ws, ds, h3, hws, by omega, od'⟩
    rintro H3 ⟨e3, ws, ds, h3, hws, lw, od'⟩
    have x3 : Ext s G H3 := x2.trans (Ext.same e3)
    have S3 := S2.same e3
    dsimp only [gName]
    show tAnd _ _ _ _ _
    refine ⟨_, rfl, (by show 0 ≤ sizeLine; decide), fun L hL => ?_⟩
    have e4 := same_new hL (.lst [])
    have hL4 : (upd H3 L (.lst [])) L = some (.lst []) := upd_same
    have h4 := e4 _ _ h3
    have x4 : Ext s G (upd H3 L (.lst [])) := x3.trans (Ext.same e4)
    have S4 := S3.same e4
    have hws4 := (Same.keep (K := K) e4).dts hws
    generalize (upd H3 L (.lst [])) = H4 at e4 hL4 h4 x4 S4 hws4 ⊢
    refine ⟨.list ds, .list [], .lst (SqL.of h4) (dpAll_of hws4.1 fun j v d a b => Dt.dp (hws4.2 j v d a b)), .lst (SqL.of hL4) .nil, shaped_lst od' (by decide), (by decide +kernel), _, rfl, ite2 (fun _ => ?_) (fun _ => iteF ⟨⟨_, _, rfl⟩, x4, S4⟩)⟩
    refine ⟨_, rfl, s, i, 2, rfl, S4, by decide, by decide, fun r H5 r0 r2 x5 S5 => ⟨rfl, _, rfl, ite2 (fun _ => ?_) (fun _ => ⟨⟨_, _, rfl⟩, x4.trans x5, S5⟩)⟩⟩
    have x45 := x4.trans x5
    -- the letter is told
    have fin : ∀ H6, Same H5 H6 → tRet (tTup (tCons (tTup (tCons (tC (.str "letter")) (tCons (tVar 4) tNil))) tNil)) ⟨fun σ' H' => (∃ o4 o5, σ' = [some (.ref s), some bv, some dv, some (.ref b), o4, o5, none]) ∧ Ext s G H' ∧ IsS K H' s i, fun v H' => H' b = some (.frz od (.dK (zipK bs us))) ∧ Q v (upd H' b (.dK (zipK bs us))), fun _ _ => False, fun _ _ => False⟩
        [some (.ref s), some bv, some dv, some (.ref b), some (.str pb.1), some (.ref D), none] H6 := fun H6 e6 => by
      refine ⟨_, rfl, (by show 2 ≤ sizeLine; decide), fun p1 hp1 => ⟨(by show 1 ≤ sizeLine; decide), fun p2 hp2 => ?_⟩⟩
      have e7 := same_new hp1 (.tup [.str "letter", .str pb.1])
      have e8 := same_new hp2 (.tup [.ref p1])
      have x8 : Ext s G (upd (upd H6 p1 (.tup [.str "letter", .str pb.1])) p2 (.tup [.ref p1])) := x45.trans (Ext.same (Same.trans e6 (Same.trans e7 e8)))
      have S8 := S5.same (Same.trans e6 (Same.trans e7 e8))
      refine ⟨x8 _ _ nbs Gb, q1 _ _ pb.1 (un x8) (unS S8 x8) (List.mem_map_of_mem mb) ((but_keep _ (x8 _ _ nbs Gb) (fz_no _ _)).dt ?_)⟩
      show Dt K _ _ (.tuple (pyL [.letter pb.1]))
      rw [pyL, pyL, pyC]
      exact (Dts.nil.cons ((Same.keep e8).dt (((Dts.nil.cons (.str pb.1)).cons (.str "letter")).tup (SqT.of upd_same)))).tup (SqT.of upd_same)
    show tOr _ _ _ _ _
    rcases hdue with rfl | ⟨due, hdd, okdd⟩
    · exact ⟨_, rfl, rfl, _, rfl, iteT (iteT (fin H5 (Same.refl _)))⟩
    · refine ⟨_, rfl, rfl, _, rfl, ?_⟩
      have dvn : decide (dv = V.non) = false := decide_eq_false fun z => by
        obtain ⟨_, _, e, _⟩ := hdd.open
        rw [z] at e; cases e
      rw [dvn]
      refine iteF ⟨_, rfl, (by show 2 ≤ sizeLine; decide), fun p hp => ?_⟩
      have e6 := same_new hp (.tup [.str "letter", .str pb.1])
      have okl : OkN 1 (.tuple [.str "letter", .str pb.1]) := okN_two (n := 0) (okN_w (by decide +kernel)) (okN_lett ltb)
      refine ⟨_, rfl, .tuple [.str "letter", .str pb.1], pyL due, .tup (SqT.of upd_same) (.cons (.str _) (.cons (.str _) .nil)), Dt.dp ((Same.keep e6).dt ((KX x45).dt (KG.dt hdd))), (okl.ok (by decide)).1, (okdd.ok (by decide)).1, _, rfl, ite2 (fun _ => fin _ e6) (fun _ => ⟨⟨_, _, rfl⟩, x45.trans (Ext.same e6), S5.same e6⟩)⟩
  · rintro σ H2 ⟨⟨o4, o5, rfl⟩, x2, S2⟩
    exact ⟨x2 _ _ nbs Gb, q0 _ (un x2) (unS S2 x2)⟩
end
end Sc
namespace Sc
open PySem PySem.Spec PyProof.Rows L2
/-! ### what stands while a program is drawn -/
/-- a function at v -/
structure FnAt (K : PySem.W.Frag) (H : Hp) (v : V) (f : Fn) : Prop where
  at_ : ∃ (a la : Addr) (ps : List Addr) (pv rv bv : V), v = .ref a ∧ SqT K H a [.str f.name, .ref la, pv, rv, bv] ∧ SqF H la (ps.map V.ref) ∧ Dts K H (ps.map V.ref) (pyF f.lets) ∧ Dt K H pv (.tuple (pyF f.pars)) ∧ IsK K H rv f.res ∧ Dt K H bv (pyP f.body)
theorem FnAt.keep {K : PySem.W.Frag} {H H' : Hp} {v : V} {f : Fn} (h : FnAt K H v f) (k : Keep K H H') (kf : ∀ a xs, SqF H a xs → SqF H' a xs) : FnAt K H' v f := by
  obtain ⟨a, la, ps, pv, rv, bv, h0, h1, h2, h3, h4, h5, h6⟩ := h.at_
  exact ⟨a, la, ps, pv, rv, bv, h0, k _ _ h1, kf _ _ h2, k.dts h3, k.dt h4, k.dt h5, k.dt h6⟩
theorem FnAt.dt {K : PySem.W.Frag} {H : Hp} {v : V} {f : Fn} (h : FnAt K H v f) : Dt K H v f.py := by
  obtain ⟨a, la, ps, pv, rv, bv, rfl, h1, h2, h3, h4, h5, h6⟩ := h.at_
  exact (((((Dts.nil.cons h6).cons h5).cons h4).cons (h3.tup h2.t)).cons (.str f.name)).tup h1
def FnsL (K : PySem.W.Frag) (H : Hp) (us : List V) (fns : List Fn) : Prop := us.length = fns.length ∧ ∀ (j : Nat) (v : V) (f : Fn), us[j]? = some v → fns[j]? = some f → FnAt K H v f
theorem FnsL.keep {K : PySem.W.Frag} {H H' : Hp} {us : List V} {fns : List Fn} (h : FnsL K H us fns) (k : Keep K H H') (kf : ∀ a xs, SqF H a xs → SqF H' a xs) : FnsL K H' us fns := ⟨h.1, fun j v f a b => (h.2 j v f a b).keep k kf⟩
theorem FnsL.dts {K : PySem.W.Frag} {H : Hp} {us : List V} {fns : List Fn} (h : FnsL K H us fns) : Dts K H us (fns.map Fn.py) := ⟨by rw [List.length_map]; exact h.1, fun j v d a b => by
  rw [List.getElem?_map] at b
  obtain ⟨f, hf, rfl⟩ := Option.map_eq_some_iff.mp b
  exact (h.2 j v f a hf).dt⟩
/-- the state, the functions told so far -/
structure Ev (K : PySem.W.Frag) (H : Hp) (s : Addr) (i : Inf) (fns : List Fn) : Prop where
  S : IsS K H s i
  o0 : 0 ≤ i.odd
  o8 : i.odd ≤ 8
  nf : i.f ≠ s
  fn : ∃ us, H i.f = some (.lst us) ∧ FnsL K H us fns
  pr : OkPr fns
  f3 : fns.length ≤ 3
  cf : i.c ≠ i.f ∨ ∃ ns : List Int, ns.length ≤ 63 ∧ ∀ H, SqL K H i.c (ns.map V.int)
theorem Ev.ext {K : PySem.W.Frag} {H H' : Hp} {s : Addr} {i : Inf} {fns : List Fn} (h : Ev K H s i fns) (x : Ext s H H') (S' : IsS K H' s i) : Ev K H' s i fns := by
  obtain ⟨us, h1, h2⟩ := h.fn
  obtain ⟨kvs, hs⟩ := h.S.dk
  exact ⟨S', h.o0, h.o8, h.nf, ⟨us, x _ _ h.nf h1, h2.keep (h.S.keep x) fun a xs q => q.ext hs x⟩, h.pr, h.f3, h.cf⟩
theorem Ev.same {K : PySem.W.Frag} {H H' : Hp} {s : Addr} {i : Inf} {fns : List Fn} (h : Ev K H s i fns) (e : Same H H') : Ev K H' s i fns := h.ext (Ext.same e) (h.S.same e)
/-- bounds and names -/
structure Nm (K : PySem.W.Frag) (H : Hp) (s : Addr) (i : Inf) (ba : Addr) (bs : List (Str × List Ch)) (na : Addr) (nms : List (Str × List Ch)) : Prop where
  nb : ba ≠ s
  hB : IsB K H ba bs
  okb : okB bs
  b2 : bs.length ≤ 2
  nn : na ≠ s
  hN : IsB K H na nms
  ok : ∀ q ∈ nms, Word q.1 ∧ NmK (bs.map (·.1)) q.2
  cov : ∀ l ∈ bs.map (·.1), ∃ q ∈ nms, (∃ k : Int, 10 ≤ k ∧ k < 26 ∧ q.1 = wordOf i k) ∧ ∀ c ∈ q.2, isLt l c
section
variable {K : PySem.W.Frag} {H H' : Hp} {s ba na : Addr} {i : Inf} {bs nms : List (Str × List Ch)}
theorem Nm.ext (h : Nm K H s i ba bs na nms) (S : IsS K H s i) (x : Ext s H H') : Nm K H' s i ba bs na nms := ⟨h.nb, h.hB.ext S x h.nb, h.okb, h.b2, h.nn, h.hN.ext S x h.nn, h.ok, h.cov⟩
theorem Nm.same (h : Nm K H s i ba bs na nms) (e : Same H H') : Nm K H' s i ba bs na nms := ⟨h.nb, h.hB.same e, h.okb, h.b2, h.nn, h.hN.same e, h.ok, h.cov⟩
theorem Nm.lets (h : Nm K H s i ba bs na nms) : ∀ l ∈ bs.map (·.1), Lett l := fun l m => by
  obtain ⟨q, hq, rfl⟩ := List.mem_map.mp m
  exact (h.okb q hq).1
/-- a new name, by a word of the first ten -/
theorem Nm.put (h : Nm K H s i ba bs na nms) (iok : i.Ok) {b : Addr} {nms' : List (Str × List Ch)} {j : Int} {k : List Ch} (j0 : 0 ≤ j) (j9 : j < 10) (nbs : b ≠ s) (hB : IsB K H b nms') (p : Put nms (wordOf i j) k nms') (hk : NmK (bs.map (·.1)) k) : Nm K H s i ba bs b nms' := by
  refine ⟨h.nb, h.hB, h.okb, h.b2, nbs, hB, fun q hq => ?_, fun l m => ?_⟩
  · rcases p.sub q hq with e | e
    · rw [e]; exact ⟨word_of iok j0, hk⟩
    · exact h.ok q e
  · obtain ⟨q, hq, ⟨k2, k0, k1, ek⟩, al⟩ := h.cov l m
    refine ⟨q, p.old q hq fun e => ?_, ⟨k2, k0, k1, ek⟩, al⟩
    have := word_inj iok (by omega) k1 j0 (by omega) (ek.symm.trans e)
    omega
/-- a name whose kind is narrowed -/
theorem Nm.narrow (h : Nm K H s i ba bs na nms) {b : Addr} {nms' : List (Str × List Ch)} {x : Str} {k0 k : List Ch} (mx : (x, k0) ∈ nms) (nbs : b ≠ s) (hB : IsB K H b nms') (p : Put nms x k nms') (hk : NmK (bs.map (·.1)) k) (il : ∀ l, (∀ c ∈ k0, isLt l c) → ∀ c ∈ k, isLt l c) : Nm K H s i ba bs b nms' := by
  obtain ⟨us, _, _, nd, _⟩ := h.hN
  refine ⟨h.nb, h.hB, h.okb, h.b2, nbs, hB, fun q hq => ?_, fun l m => ?_⟩
  · rcases p.sub q hq with e | e
    · rw [e]; exact ⟨(h.ok _ mx).1, hk⟩
    · exact h.ok q e
  · obtain ⟨q, hq, kk, al⟩ := h.cov l m
    by_cases e : q.1 = x
    · have eq : q = (x, k0) := by
        obtain ⟨a, ha⟩ := List.getElem?_of_mem hq
        obtain ⟨b, hb⟩ := List.getElem?_of_mem mx
        have e1 : (nms.map (·.1))[a]? = some x := by rw [List.getElem?_map, ha, ← e]; rfl
        have e2 : (nms.map (·.1))[b]? = some x := by rw [List.getElem?_map, hb]; rfl
        have := nd_ix nd e1 e2
        rw [this, hb] at ha
        exact (Option.some.inj ha).symm
      subst eq
      exact ⟨(x, k), p.has, kk, il l al⟩
    · exact ⟨q, p.old q hq e, kk, al⟩
theorem Put.keys {x : Str} {k : List Ch} {nms' : List (Str × List Ch)} (p : Put nms x k nms') {z : Str} (h : z ∈ nms'.map (·.1)) : z = x ∨ z ∈ nms.map (·.1) := by
  obtain ⟨q, hq, rfl⟩ := List.mem_map.mp h
  rcases p.sub q hq with e | e
  · rw [e]; exact .inl rfl
  · exact .inr (List.mem_map_of_mem e)
end
/-! ### the promises -/
abbrev GpOf (bs nms : List (Str × List Ch)) (fns : List Fn) (n : Nat) (p : Pt) : Prop := Gp (bs.map (·.1)) (fns.map Fn.sig) n (fun z => z ∈ nms.map (·.1)) p
/-- what comes of drawing a part: that, the state moved on -/
def Pts (K : PySem.W.Frag) (H : Hp) (s : Addr) (i : Inf) (bs nms : List (Str × List Ch)) (fns : List Fn) (n : Nat) (Q : VK) : Prop := ∀ (r : V) (H' : Hp) (p : Pt), Ext s H H' → IsS K H' s i → Dt K H' r (pyP p) → GpOf bs nms fns n p → Q r H'
def Non (K : PySem.W.Frag) (H : Hp) (s : Addr) (i : Inf) (Q : VK) : Prop := ∀ H', Ext s H H' → IsS K H' s i → Q .non H'
def spPart (K : PySem.W.Frag) (m : Nat) : Sp := fun vs H Q _ => ∃ (s : Addr) (i : Inf) (fns : List Fn) (ba : Addr) (bs : List (Str × List Ch)) (na : Addr) (nms : List (Str × List Ch)) (v : V) (k : List Ch) (d n : Nat), vs = [.ref s, v, .ref na, .ref ba, .int d] ∧
  Ev K H s i fns ∧ Nm K H s i ba bs na nms ∧ nms.length + 2 * d ≤ 12 ∧ IsK K H v k ∧ Wk (bs.map (·.1)) n k ∧ n + d ≤ 4 ∧ (0 < d → 1 ≤ n) ∧ 2 * d + n + 1 ≤ m ∧ Pts K H s i bs nms fns (2 * d + n + 2) Q
def spWritten (K : PySem.W.Frag) (m : Nat) : Sp := fun vs H Q _ => ∃ (s : Addr) (i : Inf) (fns : List Fn) (ba : Addr) (bs : List (Str × List Ch)) (na : Addr) (nms : List (Str × List Ch)) (v : V) (c : Ch) (d n e r : Nat), vs = [.ref s, v, .ref na, .ref ba, .int d] ∧
  Ev K H s i fns ∧ Nm K H s i ba bs na nms ∧ nms.length + 2 * d ≤ 12 ∧ IsC K H v c ∧ Wc (bs.map (·.1)) n c ∧ (∀ l, c ≠ .letter l) ∧ n ≤ e + 1 ∧ e + d ≤ 4 ∧ (0 < d → 1 ≤ e) ∧ (1 ≤ n → 2 * d + e + 1 ≤ m) ∧ 1 ≤ r ∧ (1 ≤ n → 2 * d + e + 3 ≤ r) ∧ Pts K H s i bs nms fns r Q
/-- by a way, with more parts -/
def spBy (K : PySem.W.Frag) (m : Nat) (g : Addr → V → Addr → Addr → Nat → List V) : Sp := fun vs H Q _ => ∃ (s : Addr) (i : Inf) (fns : List Fn) (ba : Addr) (bs : List (Str × List Ch)) (na : Addr) (nms : List (Str × List Ch)) (v : V) (k : List Ch) (d n : Nat), vs = g s v na ba d ∧
  Ev K H s i fns ∧ Nm K H s i ba bs na nms ∧ nms.length + 2 * d ≤ 10 ∧ IsK K H v k ∧ Wk (bs.map (·.1)) n k ∧ n + d ≤ 3 ∧ 1 ≤ n ∧ 2 * d + n + 2 ≤ m ∧ Non K H s i Q ∧ Pts K H s i bs nms fns (2 * d + n + 4) Q
def spReck (K : PySem.W.Frag) (m : Nat) : Sp := fun vs H Q _ => ∃ (s : Addr) (i : Inf) (fns : List Fn) (ba : Addr) (bs : List (Str × List Ch)) (na : Addr) (nms : List (Str × List Ch)) (v : V) (c : Ch) (d n : Nat), vs = [.ref s, v, .ref na, .ref ba, .int d] ∧
  Ev K H s i fns ∧ Nm K H s i ba bs na nms ∧ nms.length + 2 * d ≤ 10 ∧ IsC K H v c ∧ Wc (bs.map (·.1)) n c ∧ (∀ l, c ≠ .letter l) ∧ n + d ≤ 3 ∧ 1 ≤ n ∧ 2 * d + n + 2 ≤ m ∧ Non K H s i Q ∧ Pts K H s i bs nms fns (2 * d + n + 4) Q
section
variable {K : PySem.W.Frag} {H H' : Hp} {s : Addr} {i : Inf} {bs nms : List (Str × List Ch)} {fns : List Fn} {n m : Nat} {Q : VK}
theorem Pts.ext (h : Pts K H s i bs nms fns n Q) (x : Ext s H H') : Pts K H' s i bs nms fns n Q := fun r H2 p x2 S2 d g => h r H2 p (x.trans x2) S2 d g
theorem Non.ext (h : Non K H s i Q) (x : Ext s H H') : Non K H' s i Q := fun H2 x2 S2 => h H2 (x.trans x2) S2
theorem Pts.mono (h : Pts K H s i bs nms fns n Q) (hm : m ≤ n) : Pts K H s i bs nms fns m Q := fun r H2 p x2 S2 d g => h r H2 p x2 S2 d (g.mono hm fun _ z => z)
end
end Sc
namespace Sc
open PySem PyProof.Rows L2
section
variable {P : Program} {w : World} {K : PySem.W.Frag} {mg : Str → Option Value} {base : Heap}
def spWay (K : PySem.W.Frag) (m : Nat) : Sp := fun vs H Q E => ∃ w : Int, spBy K m (fun s v na ba d => [.ref s, v, .ref na, .ref ba, .int d, .int w]) vs H Q E
def psPart : List Str := ["_law_s", "_law_due", "_law_names", "_law_bounds_here", "_law_deep"]
def psWri : List Str := ["_law_s", "_law_choice_here", "_law_names", "_law_bounds_here", "_law_deep"]
def psWay : List Str := ["_law_s", "_law_due", "_law_names", "_law_bounds_here", "_law_deep", "_law_way_here"]
def nPar : List Str := ["_law_s", "_law_due", "_law_names", "_law_bounds_here", "_law_deep", "_law_plain", "_law_ready", "_law_way_here", "_law_made", "_law_choice_here", "_law_name"]
theorem scPar : FnScope nPar psPart (defScope sPart) := ⟨rfl, rfl, rfl, by decide +kernel, rfl, by decide +kernel, by decide +kernel⟩
theorem lt_dec {ls : List Str} {k : List Ch} : (∃ c ∈ k, ∀ l, c ≠ Ch.letter l) ∨ ∀ c ∈ k, ∃ l, c = .letter l := by
  induction k with
  | nil => exact .inr fun c m => by cases m
  | cons c r ih =>
    have : (∃ l, c = .letter l) ∨ ∀ l, c ≠ .letter l := by
      cases c with
      | letter l => exact .inl ⟨l, rfl⟩
      | _ => exact .inr fun l e => by cases e
    rcases this with ⟨l, e⟩ | n
    · rcases ih with ⟨c', m, h⟩ | h
      · exact .inl ⟨c', List.mem_cons_of_mem _ m, h⟩
      · exact .inr fun c' m => by
          rcases List.mem_cons.mp m with z | z
          · exact ⟨l, z.trans e⟩
          · exact h c' z
    · exact .inl ⟨c, List.mem_cons_self, n⟩
theorem atI_some {vs : List V} {r : Int} (r0 : 0 ≤ r) (lt : r < vs.length) : ∃ v, atI vs r = some v ∧ vs[r.toNat]? = some v := by
  have l : r.toNat < vs.length := by omega
  refine ⟨vs[r.toNat], ?_, List.getElem?_eq_getElem l⟩
  have e := atI_nat (xs := vs) (List.getElem?_eq_getElem l)
  rw [show ((r.toNat : Nat) : Int) = r by omega] at e
  exact e
theorem seq_asgC {v : V} {i : Nat} {u : TS} {D : Ends} {σ : L2.St} {H : Hp} (h : u D (σ.set i (some v)) H) : tSeq (tAsg (tC v) (gName i)) u D σ H := h
theorem c_part {m lv : Nat} (T : Tx K mg) (lv8 : 8 ≤ lv) (CY : Cal P w K mg base lv "_law_way" psWay (spWay K m)) (CR : Cal P w K mg base lv "_law_reckoned" psWri (spReck K m)) (CW : Cal P w K mg base lv "_law_written" psWri (spWritten K m)) :
    Cal P w K mg base (lv + 1) "_law_part" psPart (spPart K (m + 1)) := by
  have CT : Cal P w K mg base 1 "_law_taken" ["_law_s", "_law_most"] (spTaken K) := c_taken T
  have CK : Cal P w K mg base 7 "_law_kind" ["_law_s", "_law_deep", "_law_letters"] (spKind K 2) := c_kinds T 2
  have CI : Cal P w K mg base 1 "_law_within" ["_law_kind_here", "_law_due"] (spInside K) := c_within T
  refine T.part.ok scPar (fun vs H Q E h => ?_) (fun f cdv A outer s0 H vs Q E hr h => ?_)
  · obtain ⟨s, i, fns, ba, bs, na, nms, v, k, d, n, rfl, _⟩ := h
    rfl
  obtain ⟨s, i, fns, ba, bs, na, nms, v, k, d, n, rfl, W0, N, n12, hk, wk, nd4, dn, dm, q⟩ := h
  have r1 : Room 1 _ := hr.mono (show 1 ≤ lv by omega)
  have r7 : Room 7 _ := hr.mono (show 7 ≤ lv by omega)
  have hu := hu_of hr
  refine ⟨_, pss_cons (ps_if (PW.pt (pw_and (pt_cmpR op_gt (pv 4) pe_int (nomark _)) (pw_and (pt_cmpR op_gt (pe_dget hu (pv 0) pe_str (fun _ _ => rfl)) pe_int (nomark _)) (pw_and1 (pt_cmpR op_eq (pe_cal CT r1 (pa_cons (pv 0) (pa_cons (pe_dget hu (pv 0) pe_str (fun _ _ => rfl)) pa_nil))) pe_int (nomark _))))))
      (pss_one (ps_set (i := 1) scPar.nd rfl (Or.inr rfl) (pe_cal CK r7 (pa_cons (pv 0) (pa_cons pe_int (pa_cons (pe_callTy (call_listD rfl) (by rfl) T.m_list (by decide +kernel) (pa_cons (pv 3) pa_nil)) pa_nil)))))) pss_nil) <|
    pss_cons (ps_setLc (i := 5) (own := [("_law_choice_here", 9)]) (g := gName 9) rfl scPar.nd rfl rfl (sw_true rfl rfl rfl (by decide +kernel)) (pi_tup (pv 1)) (blkOk_by (N := nPar) (sc := defScope sPart) (by decide +kernel))
        (fun _ _ _ _ _ => pg_name (i := 9) scPar.nd rfl (Or.inl rfl)) (fun _ _ _ _ _ => pts_one (pt_cmpR op_ne (pe_ix (ix_tupK K) (pv 9) pe_int (fun _ _ => rfl)) pe_str (nomark _))) (fun _ _ _ _ _ => pv 9)) <|
    pss_cons (ps_lock (ps_setLc (i := 6) (own := [("_law_name", 10)]) (g := gName 10) rfl scPar.nd rfl rfl (sw_true rfl rfl rfl (by decide +kernel)) (pi_keys (pv 2)) (blkOk_by (N := nPar) (sc := defScope sPart) (by decide +kernel))
        (fun _ _ _ _ _ => pg_name (i := 10) scPar.nd rfl (Or.inl rfl)) (fun _ _ _ _ _ => pts_one (pt_val (pe_cal CI r1 (pa_cons (pe_dget hu (pv 2) (pv 10) (fun _ _ => rfl)) (pa_cons (pv 1) pa_nil))))) (fun _ _ _ _ _ => pv 10))) <|
    pss_cons (ps_set (i := 7) scPar.nd rfl (Or.inl rfl) (pe_cal CT r1 (pa_cons (pv 0) (pa_cons pe_int pa_nil)))) <|
    pss_cons (ps_set (i := 8) scPar.nd rfl (Or.inl rfl) pe_non) <|
    pss_cons (ps_if (PW.pt (pw_and (pt_cmpR op_gt (pv 4) pe_int (nomark _)) (pw_and1 (pt_cmpR op_gt (pv 7) pe_int (nomark _)))))
      (pss_one (ps_set (i := 8) scPar.nd rfl (Or.inl rfl) (pe_cal CY hr (pa_cons (pv 0) (pa_cons (pv 1) (pa_cons (pv 2) (pa_cons (pv 3) (pa_cons (pe_op op_sub (pv 4) pe_int) (pa_cons (pv 7) pa_nil)))))))))
      (pss_one (ps_if (PW.pt (pw_and (pt_cmpR op_gt (pv 4) pe_int (nomark _)) (pw_and (pt_cmpR op_gt (pv 7) pe_int (nomark _)) (pw_and1 (pt_cmpR op_gt (pe_callB call_len_seq (by rfl) T.m_len PySem.boot_len (pa_cons (pv 5) pa_nil)) pe_int (nomark _))))))
        (pss_one (ps_set (i := 8) scPar.nd rfl (Or.inl rfl) (pe_cal CR hr (pa_cons (pv 0) (pa_cons (pe_ix ix_list (pv 5) (pe_cal CT r1 (pa_cons (pv 0) (pa_cons (pe_callB call_len_seq (by rfl) T.m_len PySem.boot_len (pa_cons (pv 5) pa_nil)) pa_nil))) (fun _ _ => rfl)) (pa_cons (pv 2) (pa_cons (pv 3) (pa_cons (pe_op op_sub (pv 4) pe_int) pa_nil)))))))) pss_nil))) <|
    pss_cons (ps_if (pt_cmpR op_notN (pv 8) pe_non (nomark _)) (pss_one (ps_ret (pv 8))) pss_nil) <|
    pss_cons (ps_if (PW.pt (pw_and (pt_cmpR op_gt (pe_callB call_len_seq (by rfl) T.m_len PySem.boot_len (pa_cons (pv 6) pa_nil)) pe_int (nomark _)) (pw_and1 (PW.pt (pw_or (pt_cmpR op_eq (pe_op op_mod (pv 7) pe_int) pe_int (nomark _)) (pw_or1 (pt_cmpR op_eq (pe_callB call_len_seq (by rfl) T.m_len PySem.boot_len (pa_cons (pv 5) pa_nil)) pe_int (nomark _))))))))
      (pss_one (ps_ret (pe_tup (pa_cons pe_str (pa_cons (pe_ix ix_list (pv 6) (pe_cal CT r1 (pa_cons (pv 0) (pa_cons (pe_callB call_len_seq (by rfl) T.m_len PySem.boot_len (pa_cons (pv 6) pa_nil)) pa_nil))) (fun _ _ => rfl)) pa_nil))))) pss_nil) <|
    pss_one (ps_ret (pe_cal CW hr (pa_cons (pv 0) (pa_cons (pe_ix ix_list (pv 5) (pe_cal CT r1 (pa_cons (pv 0) (pa_cons (pe_callB call_len_seq (by rfl) T.m_len PySem.boot_len (pa_cons (pv 5) pa_nil)) pa_nil))) (fun _ _ => rfl)) (pa_cons (pv 2) (pa_cons (pv 3) (pa_cons (pe_callB (call_max2 rfl) (by rfl) T.m_max (by decide +kernel) (pa_cons (pe_op op_sub (pv 4) pe_int) (pa_cons pe_int pa_nil))) pa_nil))))))), ?_⟩
  -- the kind that is due may be another
  refine seq_with (fun R => ∀ (dv : V) (H1 : Hp) (k1 : List Ch) (n1 : Nat), Ext s H H1 → IsS K H1 s i → IsK K H1 dv k1 → Wk (bs.map (·.1)) n1 k1 → n1 ≤ n → (0 < d → 1 ≤ n1) → R [some (.ref s), some dv, some (.ref na), some (.ref ba), some (.int d), none, none, none, none, none, none] H1) ?_ ?_
  rotate_left
  · intro rest
    have same := fun (H1 : Hp) (x1 : Ext s H H1) (S1 : IsS K H1 s i) => rest v H1 k n x1 S1 ((W0.S.keep x1).dt hk) wk (Nat.le_refl _) dn
    show tAnd _ _ _ _ _
    refine ⟨_, rfl, _, _, rfl, rfl, _, rfl, ite2 (fun c1 => ?_) (fun _ => iteF (same H (Ext.refl s H) W0.S))⟩
    have d0 : 0 < d := by
      have z : (0 : Int) < (d : Int) := of_decide_eq_true c1
      omega
    obtain ⟨ns, mv, hS, hS2⟩ := id W0.S
    refine ⟨_, rfl, s, .int i.odd, rfl, gS hS rfl, _, _, rfl, rfl, _, rfl, ite2 (fun c2 => ?_) (fun _ => iteF (same H (Ext.refl s H) W0.S))⟩
    have o1 : 0 < i.odd := of_decide_eq_true c2
    refine ⟨_, rfl, _, rfl, s, .int i.odd, rfl, gS hS rfl, s, i, i.odd, rfl, W0.S, o1, ?_, fun r H1 r0 r7' x1 S1 => ⟨rfl, _, rfl, ite2 (fun c3 => ?_) (fun _ => same H1 x1 S1)⟩⟩
    · have := W0.o8
      exact Nat.lt_of_le_of_lt (show i.odd.natAbs ≤ 8 by omega) (by decide)
    have N1 := N.ext W0.S x1
    obtain ⟨us, hb, bl, nd, hkb⟩ := N1.hB
    refine ⟨_, rfl, _, rfl, ba, _, rfl, .inl hb, fun L hL => ?_⟩
    have e2 := same_new hL (.lst ((zipK bs us).map fun kv => kV kv.1))
    rw [zipK_keys bl] at e2 ⊢
    refine ⟨s, L, i, 1, bs.map (·.1), rfl, S1.same e2, by decide, SqL.of (by rw [upd_same, List.map_map]; rfl), by rw [List.length_map]; have := N.b2; omega, fun v2 H2 k2 x2 S2 dk2 k0 k3 okk => ?_⟩
    exact rest v2 H2 k2 1 (x1.trans ((Ext.same e2).trans x2)) S2 dk2 (Wk.of_ok k0 k3 okk) (dn d0) (fun _ => Nat.le_refl _)
  intro dv H1 k1 n1 x1 S1 dk1 wk1 n1n dn1
  have V1 := W0.ext x1 S1
  have N1 := N.ext W0.S x1
  have q1 := q.ext x1
  clear hk wk W0 N x1 S1
  dsimp only [tNext, gName]
  -- what is plain
  obtain ⟨da, ds, rfl, hdt, hdd⟩ := dk1.open
  have ld : ds.length = k1.length := by rw [hdd.1, pyL_map, List.length_map]
  refine ⟨_, rfl, da, rfl, ⟨_, hdt⟩, fun D hD => ?_⟩
  have e0 := same_new hD (.lst [])
  refine lc_tup (K := K) (a := da) (xs := ds) (fun j H2 => Same H1 H2 ∧ ∃ us cs, H2 D = some (.lst us) ∧ Dts K H2 us (pyL cs) ∧ cs.length ≤ j ∧ (∀ c ∈ cs, c ∈ k1 ∧ ∀ l, c ≠ .letter l) ∧ (cs = [] → ∀ c ∈ k1.take j, ∃ l, c = .letter l)) ⟨e0, [], [], upd_same, Dts.nil, Nat.le_refl _, (fun c m => by cases m), fun _ c m => by cases m⟩ (fun j H2 _ h => (Same.keep h.1) _ _ hdt) ?_ ?_
  · rintro j x H2 hx ⟨e2, us, cs, h2, hus, lc, ok, no⟩
    obtain ⟨d', hd1, hd2⟩ := hdd.at hx
    rw [pyL_map, List.getElem?_map] at hd1
    obtain ⟨c, hc, rfl⟩ := Option.map_eq_some_iff.mp hd1
    have mc := List.mem_of_getElem? hc
    have jl := (List.getElem?_eq_some_iff.mp hc).1
    have dc : IsC K H2 x c := (Same.keep e2).dt hd2
    have dc0 := dc
    obtain ⟨ca, cr, rfl, hct, hcd⟩ := dc.lead
    refine ⟨rfl, _, rfl, ca, _, _, _, rfl, rfl, hct, at_of (j := 0) rfl rfl, rfl, _, rfl, ite2 (fun h => ?_) (fun h => ?_)⟩
    · have nl : ∀ l, c ≠ .letter l := fun l e => by
        subst e
        have h' : (!decide (V.str "letter" = V.str "letter")) = true := h
        rw [decide_eq_true rfl] at h'
        cases h'
      have lu : us.length = cs.length := by rw [hus.1, pyL_map, List.length_map]
      have k4 : Keep K H2 (upd H2 D (.lst (us ++ [.ref ca]))) := Keep.upd h2 trivial _
      refine ⟨_, rfl, us, h2, small1000 (by have := wk1.few; omega), fun a o ha => ?_, us ++ [.ref ca], cs ++ [c], upd_same, ?_, by rw [List.length_append]; exact Nat.succ_le_succ lc, fun c' m => ?_, fun z => by simp at z⟩
      · rw [upd_ne (ne_of_none ha hD)]; exact e2 _ _ ha
      · rw [pyL_map, List.map_append, ← pyL_map]
        exact (k4.dts hus).snoc (k4.dt dc0)
      · rcases List.mem_append.mp m with m | m
        · exact ok c' m
        · rw [List.mem_singleton.mp m]; exact ⟨mc, nl⟩
    · refine ⟨e2, us, cs, h2, hus, by omega, ok, fun z c' m => ?_⟩
      rw [List.take_add_one, hc] at m
      rcases List.mem_append.mp m with m | m
      · exact no z c' m
      · have ec : c' = c := List.mem_singleton.mp m
        have h' : (!decide (V.str (wdC c) = V.str "letter")) = false := Bool.eq_false_iff.mpr h
        rw [Bool.not_eq_false', decide_eq_true_eq] at h'
        obtain ⟨l, e⟩ := wd_letter (V.str.inj h')
        exact ⟨l, ec.trans e⟩
  rintro H2 ⟨e2, us, cs, h2, hus, lc, ok, no⟩
  rw [ld] at lc no
  rw [List.take_of_length_le (Nat.le_refl _)] at no
  have V2 := V1.same e2
  have N2 := N1.same e2
  have q2 := q1.ext (Ext.same e2)
  have dk2 : IsK K H2 (.ref da) k1 := (Same.keep e2).dt dk1
  clear hD e0 e2 V1 N1 q1 q dk1 hdt hdd
  have lus : us.length = cs.length := by rw [hus.1, pyL_map, List.length_map]
  dsimp only [tNext, gName]
  -- which names are ready
  obtain ⟨ws, hn, nl, nnd, hkn⟩ := N2.hN
  refine ⟨na, _, hn, trivial, fun od => ⟨_, rfl, na, od, rfl, .inl ⟨_, upd_same, fun F hF => ?_⟩⟩⟩
  have G0 : (upd H2 na (.frz od (.dK (zipK nms ws)))) na = some (.frz od (.dK (zipK nms ws))) := upd_same
  have KG : Keep K H2 (upd H2 na (.frz od (.dK (zipK nms ws)))) := but_keep _ hn (dk_no _)
  have eF := same_new hF (.lst [])
  have un : ∀ {H' : Hp}, Same (upd H2 na (.frz od (.dK (zipK nms ws)))) H' → Same H2 (upd H' na (.dK (zipK nms ws))) := fun e => unlock_same hn e
  generalize (upd H2 na (.frz od (.dK (zipK nms ws)))) = G at G0 KG eF un hF ⊢
  have okd : OkN 40 (.tuple (pyL k1)) := (wk1.okN N2.lets).mono (by omega)
  refine lc_keysK (d := na) (o := od) (kvs := zipK nms ws) (fun j H3 => Same G H3 ∧ ∃ zs : List Str, H3 F = some (.lst (zs.map V.str)) ∧ zs.length ≤ j ∧ (∀ z ∈ zs, z ∈ nms.map (·.1)) ∧ ((∃ q ∈ nms.take j, ∃ l, Ch.letter l ∈ k1 ∧ ∀ c ∈ q.2, isLt l c) → zs ≠ [])) ⟨eF, [], upd_same, Nat.zero_le _, (fun z m => by cases m), fun ⟨q, m, _⟩ => by cases m⟩ (fun j H3 _ h => h.1 _ _ G0) ?_ ?_
  · rintro j kk v' H3 hkv ⟨e3, zs, h3, lz, mz, rd⟩
    obtain ⟨hk1, hv1⟩ := List.getElem?_zip_eq_some.mp (show ((nms.map fun q => (Sum.inr q.1 : Key)).zip ws)[j]? = some (kk, v') from hkv)
    rw [List.getElem?_map] at hk1
    obtain ⟨pb, hpb, rfl⟩ := Option.map_eq_some_iff.mp hk1
    have mb := List.mem_of_getElem? hpb
    have jl := (List.getElem?_eq_some_iff.mp hpb).1
    have gx := zipK_get nnd hpb hv1
    have tk : nms.take (j + 1) = nms.take j ++ [pb] := by rw [List.take_add_one, hpb]; rfl
    refine ⟨rfl, _, rfl, _, rfl, na, v', rfl, .inl ⟨_, Sum.inr pb.1, .inr ⟨od, e3 _ _ G0⟩, rfl, gx.symm⟩, _, rfl, v', .ref da, pb.2, k1, bs.map (·.1), rfl, (Same.keep e3).dt (KG.dt (hkn j v' pb hv1 hpb)), (Same.keep e3).dt (KG.dt dk2), (N2.ok pb mb).2, okd, fun b H4 e4 hb => ⟨_, rfl, ?_⟩⟩
    cases b with
    | true =>
      refine iteT ⟨_, rfl, _, e4 _ _ h3, by rw [List.length_map]; exact small1000 (by omega), fun a o ha => ?_, zs ++ [pb.1], by rw [upd_same, List.map_append]; rfl, by rw [List.length_append]; exact Nat.succ_le_succ lz, fun z m => ?_, fun _ z => by simp at z⟩
      · rw [upd_ne (ne_of_none ha hF)]; exact e4 _ _ (e3 _ _ ha)
      · rcases List.mem_append.mp m with m | m
        · exact mz z m
        · rw [List.mem_singleton.mp m]; exact List.mem_map_of_mem mb
    | false =>
      refine iteF ⟨Same.trans e3 e4, zs, e4 _ _ h3, by omega, mz, fun ⟨q, m, l, ml, al⟩ => ?_⟩
      rw [tk] at m
      rcases List.mem_append.mp m with m | m
      · exact rd ⟨q, m, l, ml, al⟩
      · rw [List.mem_singleton.mp m] at al
        exact absurd (hb ⟨l, ml, al⟩) Bool.false_ne_true
  rintro H3 ⟨e3, zs, h3, lz, mz, rd⟩
  rw [zipK_len nl] at lz rd
  rw [List.take_of_length_le (Nat.le_refl _)] at rd
  have e23 := un e3
  have nFn : F ≠ na := fun z => by rw [z, G0] at hF; cases hF
  have h4 : (upd H3 na (.dK (zipK nms ws))) F = some (.lst (zs.map V.str)) := by rw [upd_ne nFn]; exact h3
  have ready : cs = [] → zs ≠ [] := fun z => rd (by
    obtain ⟨c, hc⟩ := List.exists_mem_of_ne_nil _ wk1.ne
    obtain ⟨l, rfl⟩ := no z c hc
    have ml : l ∈ bs.map (·.1) := by
      have := wk1.all _ hc
      cases this with
      | letter _ h => exact h
    obtain ⟨q, hq, _, al⟩ := N2.cov l ml
    exact ⟨q, hq, l, hc, al⟩)
  refine ⟨e3 _ _ G0, ?_⟩
  have V4 := V2.same e23
  have N4 := N2.same e23
  have q4 := q2.ext (Ext.same e23)
  have dk4 : IsK K _ (.ref da) k1 := (Same.keep e23).dt dk2
  have hus4 := (Same.keep (K := K) e23).dts hus
  have hD4 := e23 _ _ h2
  have n12' : nms.length ≤ 12 := by omega
  generalize (upd H3 na (.dK (zipK nms ws))) = H4 at e23 h4 V4 N4 q4 dk4 hus4 hD4 ⊢
  clear hF G0 KG eF un e3 h3 rd e23 V2 N2 q2 dk2 hus h2 no
  dsimp only [tNext, gName]
  -- which way
  refine ⟨_, rfl, s, i, 17, rfl, V4.S, by decide, by decide, fun way H5 y0 y17 x5 S5 => ?_⟩
  have V5 := V4.ext x5 S5
  have N5 := N4.ext V4.S x5
  have q5 := q4.ext x5
  have dk5 : IsK K H5 (.ref da) k1 := (V4.S.keep x5).dt dk4
  have hus5 := (V4.S.keep x5).dts hus4
  have nDs : D ≠ s := fun z => by
    obtain ⟨kvs, e⟩ := V4.S.dk
    rw [z, e] at hD4; cases hD4
  have nFs : F ≠ s := fun z => by
    obtain ⟨kvs, e⟩ := V4.S.dk
    rw [z, e] at h4; cases h4
  have hD5 := x5 _ _ nDs hD4
  have hF5 := x5 _ _ nFs h4
  clear x5 S5 V4 N4 q4 dk4 hus4 hD4 h4
  dsimp only [tNext, gName]
  refine seq_asgC ?_
  refine seq_with (fun R => (∀ H6, Ext s H5 H6 → IsS K H6 s i → R [some (.ref s), some (.ref da), some (.ref na), some (.ref ba), some (.int d), some (.ref D), some (.ref F), some (.int way), some .non, none, none] H6) ∧
    ∀ (r : V) (H6 : Hp) (p : Pt), Ext s H5 H6 → IsS K H6 s i → Dt K H6 r (pyP p) → GpOf bs nms fns (2 * d + n + 2) p → R [some (.ref s), some (.ref da), some (.ref na), some (.ref ba), some (.int d), some (.ref D), some (.ref F), some (.int way), some r, none, none] H6) ?_ ?_
  rotate_left
  · rintro ⟨rn, rp⟩
    have dd : ∀ {d' : Nat}, d = d' + 1 → ((d : Int) - 1) = (d' : Int) := fun h => by omega
    dsimp only [tNext, gName]
    show tAnd _ _ _ _ _
    refine and_pure (decide ((d : Int) > 0)) (decide (way > 10)) (fun R h => ⟨_, rfl, _, _, rfl, rfl, _, rfl, h⟩) (fun _ R h => ⟨_, rfl, _, _, rfl, rfl, _, rfl, h⟩) (fun c1 _ => iteT ?_) (fun _ => iteF ?_)
    · have c1' : (d : Int) > 0 := of_decide_eq_true c1
      obtain ⟨d', rfl⟩ : ∃ d', d = d' + 1 := ⟨d - 1, by omega⟩
      refine ⟨_, rfl, _, rfl, _, rfl, _, rfl, _, rfl, _, _, rfl, rfl, _, rfl, way, s, i, fns, ba, bs, na, nms, .ref da, k1, d', n1, ?_, V5, N5, by omega, dk5, wk1, by omega, dn1 (by omega), by omega, rn, fun r H6 p x6 S6 dp gp => rp r H6 p x6 S6 dp (gp.mono (by omega) fun _ z => z)⟩
      show ([.ref s, .ref da, .ref na, .ref ba, .int (((d' + 1 : Nat) : Int) - 1), .int way] : List V) = _
      rw [dd rfl]
    · show tAnd _ _ _ _ _
      refine and_pure (decide ((d : Int) > 0)) (decide (way > 6) && decide ((us.length : Int) > 0)) (fun R h => ⟨_, rfl, _, _, rfl, rfl, _, rfl, h⟩) (fun _ R h => ?_) (fun c1 c2 => iteT ?_) (fun _ => iteF (rn H5 (Ext.refl _ _) V5.S))
      · show tAnd _ _ _ _ _
        refine and_pure (decide (way > 6)) (decide ((us.length : Int) > 0)) (fun R2 h => ⟨_, rfl, _, _, rfl, rfl, _, rfl, h⟩) (fun _ R2 h => ⟨_, rfl, D, us, rfl, .inl (SqL.of hD5), _, _, rfl, rfl, _, rfl, h⟩) (fun a b => by rw [a, b] at h; exact h) (fun a => ?_)
        have e : (decide (way > 6) && decide ((us.length : Int) > 0)) = false := Bool.eq_false_iff.mpr fun z => a ((Bool.and_eq_true _ _).mp z)
        rw [e] at h
        exact h
      · have c1' : (d : Int) > 0 := of_decide_eq_true c1
        rw [Bool.and_eq_true, decide_eq_true_eq, decide_eq_true_eq] at c2
        obtain ⟨d', rfl⟩ : ∃ d', d = d' + 1 := ⟨d - 1, by omega⟩
        refine ⟨_, rfl, _, rfl, _, rfl, _, rfl, D, us, rfl, .inl (SqL.of hD5), s, i, us.length, by simp, V5.S, by omega, ?_, fun r H6 r0 r1' x6 S6 => ?_⟩
        · exact Nat.lt_of_le_of_lt (show ((us.length : Nat) : Int).natAbs ≤ 100 by have := wk1.few; omega) (by decide)
        obtain ⟨cv, hcv, hcv2⟩ := atI_some r0 r1'
        have hus6 := (V5.S.keep x6).dts hus5
        obtain ⟨dc, hdc1, hdc2⟩ := hus6.at hcv2
        rw [pyL_map, List.getElem?_map] at hdc1
        obtain ⟨c, hc, rfl⟩ := Option.map_eq_some_iff.mp hdc1
        obtain ⟨mc, nlc⟩ := ok c (List.mem_of_getElem? hc)
        refine ⟨D, us, r, cv, rfl, rfl, SqL.of (x6 _ _ nDs hD5), hcv, _, rfl, _, rfl, _, rfl, _, _, rfl, rfl, s, i, fns, ba, bs, na, nms, cv, c, d', n1, ?_, V5.ext x6 S6, N5.ext V5.S x6, by omega, hdc2, wk1.all c mc, nlc, by omega, dn1 (by omega), by omega, fun H7 x7 S7 => rn H7 (x6.trans x7) S7, fun r H7 p x7 S7 dp gp => rp r H7 p (x6.trans x7) S7 dp (gp.mono (by omega) fun _ z => z)⟩
        show ([.ref s, cv, .ref na, .ref ba, .int (((d' + 1 : Nat) : Int) - 1)] : List V) = _
        rw [dd rfl]
  refine ⟨fun H6 x6 S6 => ?_, fun r H6 p x6 S6 dp gp => ?_⟩
  rotate_left
  · refine ⟨_, rfl, rfl, _, rfl, ?_⟩
    have rn : decide (r = V.non) = false := decide_eq_false fun z => by
      obtain ⟨ds', e⟩ : ∃ ds', pyP p = .tuple ds' := by cases p <;> rw [pyP] <;> exact ⟨_, rfl⟩
      rw [e] at dp
      obtain ⟨_, _, e2, _⟩ := dp.open
      rw [z] at e2; cases e2
    rw [rn]
    exact iteT ⟨_, rfl, q5 r H6 p x6 S6 dp gp⟩
  refine ⟨_, rfl, rfl, _, rfl, ?_⟩
  rw [decide_eq_true (rfl : V.non = V.non)]
  refine iteF ?_
  have V6 := V5.ext x6 S6
  have N6 := N5.ext V5.S x6
  have q6 := q5.ext x6
  have hus6 := (V5.S.keep x6).dts hus5
  have hD6 := x6 _ _ nDs hD5
  have hF6 := x6 _ _ nFs hF5
  clear V5 N5 q5 hus5 hD5 hF5 dk5 x6 S6
  dsimp only [tNext, gName]
  -- written, or not
  have zl : (zs.map V.str).length = zs.length := List.length_map _
  refine seq_with (fun R => cs ≠ [] → R [some (.ref s), some (.ref da), some (.ref na), some (.ref ba), some (.int d), some (.ref D), some (.ref F), some (.int way), some .non, none, none] H6) ?_ ?_
  rotate_left
  · intro rest
    show tAnd _ _ _ _ _
    refine and_pure (decide ((((zs.map V.str).length : Nat) : Int) > 0)) (decide (V.int (way % 2) = V.int 1) || decide (V.int ((us.length : Nat) : Int) = V.int 0)) (fun R h => ⟨_, rfl, F, _, rfl, .inl (SqL.of hF6), _, _, rfl, rfl, _, rfl, h⟩) (fun _ R h => ?_) (fun c1 _ => iteT ?_) (fun c => iteF (rest fun z => ?_))
    · show tOr _ _ _ _ _
      refine or_pure (decide (V.int (way % 2) = V.int 1)) (decide (V.int ((us.length : Nat) : Int) = V.int 0)) (fun R2 h => ⟨_, rfl, _, _, rfl, rfl, (by show (0 : Int) < 2; decide), rfl, _, rfl, h⟩) (fun _ R2 h => ⟨_, rfl, D, us, rfl, .inl (SqL.of hD6), rfl, _, rfl, h⟩) (fun z => ?_) (fun z1 z2 => ?_)
      · rw [(Bool.or_eq_true _ _).mpr z] at h
        exact h
      · rw [z1, z2] at h
        exact h
    · have c1' : 0 < zs.length := by
        have z : (0 : Int) < (((zs.map V.str).length : Nat) : Int) := of_decide_eq_true c1
        omega
      refine ⟨_, rfl, _, rfl, _, rfl, F, _, rfl, .inl (SqL.of hF6), s, i, _, rfl, V6.S, by omega, ?_, fun r H7 r0 r1' x7 S7 => ?_⟩
      · exact Nat.lt_of_le_of_lt (show (((zs.map V.str).length : Nat) : Int).natAbs ≤ 100 by omega) (by decide)
      obtain ⟨nv, hnv, hnv2⟩ := atI_some r0 r1'
      rw [List.getElem?_map] at hnv2
      obtain ⟨z, hz, rfl⟩ := Option.map_eq_some_iff.mp hnv2
      have mk := mz z (List.mem_of_getElem? hz)
      have wz : Word z := by
        obtain ⟨q', hq', rfl⟩ := List.mem_map.mp mk
        exact (N6.ok q' hq').1
      refine ⟨F, _, r, .str z, rfl, rfl, SqL.of (x7 _ _ nFs hF6), hnv, (by show 2 ≤ sizeLine; decide), fun t ht => ?_⟩
      refine q6 _ _ (.name z) (x7.trans (Ext.new _ ht)) (S7.same (same_new ht _)) ?_ (.name mk wz)
      rw [pyP]
      exact ((Dts.nil.cons (.str z)).cons (.str "name")).tup (SqT.of upd_same)
    · subst z
      refine c ⟨decide_eq_true ?_, ?_⟩
      · have := List.length_pos_iff.mpr (ready rfl)
        show (0 : Int) < _
        omega
      · have u0 : us.length = 0 := lus
        rw [u0]
        exact (Bool.or_eq_true _ _).mpr (.inr (decide_eq_true rfl))
  intro cne
  have lu0 : 0 < us.length := by rw [lus]; exact List.length_pos_iff.mpr cne
  refine ⟨_, rfl, _, rfl, _, rfl, _, rfl, D, us, rfl, .inl (SqL.of hD6), s, i, us.length, rfl, V6.S, by omega, ?_, fun r H7 r0 r1' x7 S7 => ?_⟩
  · exact Nat.lt_of_le_of_lt (show ((us.length : Nat) : Int).natAbs ≤ 100 by have := wk1.few; omega) (by decide)
  obtain ⟨cv, hcv, hcv2⟩ := atI_some r0 r1'
  have hus7 := (V6.S.keep x7).dts hus6
  obtain ⟨dc, hdc1, hdc2⟩ := hus7.at hcv2
  rw [pyL_map, List.getElem?_map] at hdc1
  obtain ⟨c, hc, rfl⟩ := Option.map_eq_some_iff.mp hdc1
  obtain ⟨mc, nlc⟩ := ok c (List.mem_of_getElem? hc)
  have V7 := V6.ext x7 S7
  have N7 := N6.ext V6.S x7
  have q7 := q6.ext x7
  refine ⟨D, us, r, cv, rfl, rfl, SqL.of (x7 _ _ nDs hD6), hcv, _, rfl, _, rfl, _, rfl, _, _, rfl, rfl, _, _, rfl, ?_⟩
  cases d with
  | zero =>
    refine ⟨s, i, fns, ba, bs, na, nms, cv, c, 0, n1, n1 - 1, 2 * 0 + n + 2, ?_, V7, N7, by omega, hdc2, wk1.all c mc, nlc, by omega, by omega, fun h => absurd h (Nat.lt_irrefl _), fun _ => by omega, by omega, fun _ => by omega, q7⟩
    show ([.ref s, cv, .ref na, .ref ba, .int (if (0 : Int) > (0 : Int) - 1 then 0 else (0 : Int) - 1)] : List V) = _
    rw [if_pos (by decide)]
    rfl
  | succ d' =>
    refine ⟨s, i, fns, ba, bs, na, nms, cv, c, d', n1, n1, 2 * (d' + 1) + n + 2, ?_, V7, N7, by omega, hdc2, wk1.all c mc, nlc, by omega, by omega, fun _ => dn1 (by omega), fun _ => by omega, by omega, fun _ => by omega, q7⟩
    show ([.ref s, cv, .ref na, .ref ba, .int (if (0 : Int) > ((d' + 1 : Nat) : Int) - 1 then 0 else ((d' + 1 : Nat) : Int) - 1)] : List V) = _
    rw [if_neg (by omega), show ((d' + 1 : Nat) : Int) - 1 = (d' : Int) by omega]
end
end Sc
namespace Sc
open PySem PyProof.Rows L2
section
variable {P : Program} {w : World} {K : PySem.W.Frag} {mg : Str → Option Value} {base : Heap}
def nWri : List Str := ["_law_s", "_law_choice_here", "_law_names", "_law_bounds_here", "_law_deep", "_law_many", "_law_under", "_law_pair", "_law_k"]
theorem scWri : FnScope nWri psWri (defScope sWritten) := ⟨rfl, rfl, rfl, by decide +kernel, rfl, by decide +kernel, by decide +kernel⟩
theorem IsK.text {K : PySem.W.Frag} {H : Hp} {t1 t2 : Addr} {w : Str} {c : Ch} (e : pyC c = .tuple [.str w]) (h1 : SqT K H t1 [.str w]) (h2 : SqT K H t2 [.ref t1]) : IsK K H (.ref t2) [c] := by
  show Dt K H _ (.tuple (pyL [c]))
  rw [pyL, pyL, e]
  exact (Dts.nil.cons ((Dts.nil.cons (.str w)).tup h1)).tup h2
theorem c_written {m lv : Nat} (T : Tx K mg) (lv2 : 2 ≤ lv) (CP : Cal P w K mg base lv "_law_part" psPart (spPart K m)) : Cal P w K mg base (lv + 1) "_law_written" psWri (spWritten K m) := by
  have CT : Cal P w K mg base 1 "_law_taken" ["_law_s", "_law_most"] (spTaken K) := c_taken T
  have CN : Cal P w K mg base 2 "_law_number" ["_law_s"] (spNumber K) := c_number T
  have CX : Cal P w K mg base 2 "_law_text" ["_law_s"] (spText K) := c_text T
  refine T.written.ok scWri (fun vs H Q E h => ?_) (fun f cdv A outer s0 H vs Q E hr h => ?_)
  · obtain ⟨s, i, fns, ba, bs, na, nms, v, c, d, n, e, r, rfl, _⟩ := h
    rfl
  obtain ⟨s, i, fns, ba, bs, na, nms, v, c, d, n, e, r, rfl, W0, N, n12, hc, wc, nl, ne, ed, de, nm, r1', nr, q⟩ := h
  have r1 : Room 1 _ := hr.mono (show 1 ≤ lv by omega)
  have r2 : Room 2 _ := hr.mono lv2
  refine ⟨_, pss_cons (ps_if (pt_cmpR op_eq (pe_ix ix_tup (pv 1) pe_int (fun _ _ => rfl)) pe_str (nomark _)) (pss_one (ps_ret (pe_tup (pa_cons pe_str (pa_cons (pe_cal CN r2 (pa_cons (pv 0) pa_nil)) pa_nil))))) pss_nil) <|
    pss_cons (ps_if (pt_cmpR op_eq (pe_ix ix_tup (pv 1) pe_int (fun _ _ => rfl)) pe_str (nomark _)) (pss_one (ps_ret (pe_tup (pa_cons pe_str (pa_cons (pe_cal CX r2 (pa_cons (pv 0) pa_nil)) pa_nil))))) pss_nil) <|
    pss_cons (ps_if (pt_cmpR op_eq (pe_ix ix_tup (pv 1) pe_int (fun _ _ => rfl)) pe_str (nomark _))
      (pss_one (ps_ret (pe_tup (pa_cons pe_str (pa_cons (pe_callTy call_tuple_of (by rfl) T.m_tuple (by decide +kernel) (pa_cons
        (pe_lc (own := [("_law_pair", 7)]) (g := gName 7) (tt := tYes) rfl scWri.nd (pi_tup (pe_ix ix_tup (pv 1) pe_int (fun _ _ => rfl))) (blkOk_by (N := nWri) (sc := defScope sWritten) (by decide +kernel))
          (fun _ _ _ _ _ => pg_name (i := 7) scWri.nd rfl (Or.inl rfl)) (fun _ _ _ _ _ => pts_nil)
          (fun _ _ _ _ _ => pe_tup (pa_cons (pe_ix (ix_tupK K) (pv 7) pe_int (fun _ _ => rfl)) (pa_cons (pe_cal CP hr (pa_cons (pv 0) (pa_cons (pe_ix (ix_tupK K) (pv 7) pe_int (fun _ _ => rfl)) (pa_cons (pv 2) (pa_cons (pv 3) (pa_cons (pv 4) pa_nil)))))) pa_nil)))) pa_nil)) pa_nil))))) pss_nil) <|
    pss_cons (ps_set (i := 5) scWri.nd rfl (Or.inl rfl) (pe_cal CT r1 (pa_cons (pv 0) (pa_cons pe_int pa_nil)))) <|
    pss_cons (ps_if (pt_cmpR op_eq (pe_ix ix_tup (pv 1) pe_int (fun _ _ => rfl)) pe_str (nomark _))
      (pss_cons (ps_if (pt_cmpR op_eq (pv 5) pe_int (nomark _)) (pss_one (ps_ret (pe_tup (pa_cons pe_str (pa_cons (pe_ix ix_tup (pv 1) pe_int (fun _ _ => rfl)) pa_nil))))) pss_nil)
      (pss_cons (ps_set (i := 6) scWri.nd rfl (Or.inl rfl) (pe_cal CP hr (pa_cons (pv 0) (pa_cons (pe_tup (pa_cons (pe_tup (pa_cons pe_str pa_nil)) pa_nil)) (pa_cons (pv 2) (pa_cons (pv 3) (pa_cons pe_int pa_nil)))))))
      (pss_one (ps_ret (pe_tup (pa_cons pe_str (pa_cons (pe_tup (pa_cons pe_str (pa_cons (pe_ix ix_tup (pv 1) pe_int (fun _ _ => rfl)) pa_nil))) (pa_cons (pv 6) (pa_cons (pe_cal CP hr (pa_cons (pv 0) (pa_cons (pe_ix ix_tup (pv 1) pe_int (fun _ _ => rfl)) (pa_cons (pv 2) (pa_cons (pv 3) (pa_cons pe_int pa_nil)))))) pa_nil))))))))) pss_nil) <|
    pss_cons (ps_if (pt_cmpR op_eq (pv 5) pe_int (nomark _)) (pss_one (ps_ret (pe_tup (pa_cons pe_str (pa_cons (pe_ix ix_tup (pv 1) pe_int (fun _ _ => rfl)) pa_nil))))) pss_nil) <|
    pss_one (ps_ret (pe_tup (pa_cons pe_str (pa_cons (pe_callTy call_tuple_of (by rfl) T.m_tuple (by decide +kernel) (pa_cons
        (pe_lc (own := [("_law_k", 8)]) (g := gName 8) (tt := tYes) rfl scWri.nd (pi_range1 rfl T.m_range (pa_cons (pv 5) pa_nil)) (blkOk_by (N := nWri) (sc := defScope sWritten) (by decide +kernel))
          (fun _ _ _ _ _ => pg_name (i := 8) scWri.nd rfl (Or.inl rfl)) (fun _ _ _ _ _ => pts_nil)
          (fun _ _ _ _ _ => pe_cal CP hr (pa_cons (pv 0) (pa_cons (pe_ix (ix_tupK K) (pv 1) pe_int (fun _ _ => rfl)) (pa_cons (pv 2) (pa_cons (pv 3) (pa_cons (pv 4) pa_nil))))))) pa_nil)) pa_nil)))), ?_⟩
  have hc0 := hc
  obtain ⟨ca, cs, rfl, hct, hcd⟩ := hc.lead
  generalize hw : wdC c = wd at hct ⊢
  obtain ⟨r', rfl⟩ : ∃ r', r = r' + 1 := ⟨r - 1, by omega⟩
  cases wc with
  | letter => exact absurd rfl (nl _)
  | num =>
    replace hw : ("number" : Str) = wd := hw
    subst hw
    refine ⟨_, rfl, ca, _, _, _, rfl, rfl, hct, at_of (j := 0) rfl rfl, rfl, _, rfl, iteYes (by decide +kernel) ⟨_, rfl, s, i, rfl, W0.S, fun z H1 x1 S1 z0 z1 => ⟨(by show 2 ≤ sizeLine; decide), fun t ht => ?_⟩⟩⟩
    refine q _ _ (.num z) (x1.trans (Ext.new _ ht)) (S1.same (same_new ht _)) ?_ (.num (by omega))
    rw [pyP]
    exact ((Dts.nil.cons (.int z)).cons (.str "num")).tup (SqT.of upd_same)
  | txt =>
    replace hw : ("text" : Str) = wd := hw
    subst hw
    refine ⟨_, rfl, ca, _, _, _, rfl, rfl, hct, at_of (j := 0) rfl rfl, rfl, _, rfl, iteNo (by decide +kernel) ⟨_, rfl, ca, _, _, _, rfl, rfl, hct, at_of (j := 0) rfl rfl, rfl, _, rfl, iteYes (by decide +kernel) ⟨_, rfl, s, i, rfl, W0.S, fun z H1 x1 S1 hz => ⟨(by show 2 ≤ sizeLine; decide), fun t ht => ?_⟩⟩⟩⟩
    refine q _ _ (.text z) (x1.trans (Ext.new _ ht)) (S1.same (same_new ht _)) ?_ (.text hz)
    rw [pyP]
    exact ((Dts.nil.cons (.str z)).cons (.str "text")).tup (SqT.of upd_same)
  | @shape n0 fs f2 fl k0 k9 wf =>
    replace hw : ("shape" : Str) = wd := hw
    subst hw
    obtain ⟨u, rfl, hu⟩ := Dts.one (d := .tuple (pyF fs)) hcd
    obtain ⟨b, ps, rfl, hb, hbd⟩ := hu.open
    have nm := nm (by omega)
    have nr := nr (by omega)
    refine ⟨_, rfl, ca, _, _, _, rfl, rfl, hct, at_of (j := 0) rfl rfl, rfl, _, rfl, iteNo (by decide +kernel) ⟨_, rfl, ca, _, _, _, rfl, rfl, hct, at_of (j := 0) rfl rfl, rfl, _, rfl, iteNo (by decide +kernel) ⟨_, rfl, ca, _, _, _, rfl, rfl, hct, at_of (j := 0) rfl rfl, rfl, _, rfl, iteYes (by decide +kernel) ?_⟩⟩⟩
    refine ⟨_, rfl, ca, _, _, _, rfl, rfl, hct, at_of (j := 1) rfl rfl, b, rfl, ⟨_, hb⟩, fun F hF => ?_⟩
    have nFs : F ≠ s := W0.S.ne hF
    refine lc_tup (K := K) (a := b) (xs := ps) (fun j H2 => Ext s H H2 ∧ IsS K H2 s i ∧ ∃ (ws : List V) (qs : List (Str × Pt)), H2 F = some (.lst ws) ∧ Dts K H2 ws (pyPF qs) ∧ qs.map (·.1) = (fs.map (·.1)).take j ∧ ∀ q ∈ qs, GpOf bs nms fns r' q.2) ⟨Ext.new _ hF, W0.S.same (same_new hF _), [], [], upd_same, by rw [pyPF]; exact Dts.nil, rfl, fun q m => by cases m⟩ (fun j H2 _ h => (W0.S.keep h.1) _ _ hb) ?_ ?_
    · rintro j x H2 hx ⟨x2, S2, ws, qs, h2, hws, nmq, gq⟩
      obtain ⟨d', hd1, hd2⟩ := hbd.at hx
      rw [pyF_map, List.getElem?_map] at hd1
      obtain ⟨p, hp1, rfl⟩ := Option.map_eq_some_iff.mp hd1
      have mp := List.mem_of_getElem? hp1
      have il := (List.getElem?_eq_some_iff.mp hp1).1
      have lq : qs.length = j := by
        have := congrArg List.length nmq
        rw [List.length_map, List.length_take, List.length_map] at this
        omega
      obtain ⟨pa, pk, rfl, hpt, hpk⟩ := ((W0.S.keep x2).dt hd2).two
      refine ⟨rfl, _, rfl, pa, _, _, _, rfl, rfl, hpt, at_of (j := 0) rfl rfl, _, rfl, _, rfl, pa, _, _, _, rfl, rfl, hpt, at_of (j := 1) rfl rfl, _, rfl, _, rfl, _, rfl, s, i, fns, ba, bs, na, nms, pk, p.2, d, e, rfl, W0.ext x2 S2, N.ext W0.S x2, n12, hpk, ⟨k0 p mp, k9 p mp, fun c hc => (wf p mp c hc).mono (by omega)⟩, ed, de, nm, fun v3 H3 p3 x3 S3 dp gp => ⟨(by show 2 ≤ sizeLine; decide), fun t ht => ⟨ws, (same_new ht _) _ _ (x3 _ _ nFs h2), ?_, ?_⟩⟩⟩
      · rw [hws.1, pyPF_map, List.length_map]
        exact small1000 (by omega)
      · have e4 := same_new ht (.tup [.str p.1, v3])
        have h4 := e4 _ _ (x3 _ _ nFs h2)
        have x5 : Ext s H (upd (upd H3 t (.tup [.str p.1, v3])) F (.lst (ws ++ [.ref t]))) := ((x2.trans x3).trans (Ext.same e4)).over hF _
        have k6 : Keep K (upd H3 t (.tup [.str p.1, v3])) (upd (upd H3 t (.tup [.str p.1, v3])) F (.lst (ws ++ [.ref t]))) := Keep.upd h4 trivial _
        refine ⟨x5, W0.S.over (S3.same e4) x5 nFs, ws ++ [.ref t], qs ++ [(p.1, p3)], upd_same, ?_, ?_, fun q' m => ?_⟩
        · rw [pyPF_map, List.map_append, ← pyPF_map]
          exact (k6.dts ((Same.keep e4).dts ((S2.keep x3).dts hws))).snoc (k6.dt (((Dts.nil.cons ((Same.keep e4).dt dp)).cons (.str p.1)).tup (SqT.of upd_same)))
        · rw [List.map_append, nmq, List.take_add_one, List.getElem?_map, hp1]
          rfl
        · rcases List.mem_append.mp m with m | m
          · exact gq q' m
          · rw [List.mem_singleton.mp m]
            exact gp.mono (by omega) fun _ z => z
    · rintro H2 ⟨x2, S2, ws, qs, h2, hws, nmq, gq⟩
      have lp : ps.length = fs.length := by rw [hbd.1, pyF_map, List.length_map]
      rw [lp, List.take_of_length_le (by rw [List.length_map]; exact Nat.le_refl _)] at nmq
      refine ⟨F, ws, rfl, .inl ⟨SqL.of h2, fun t1 ht1 => ⟨(by show 2 ≤ sizeLine; decide), fun t2 ht2 => ?_⟩⟩⟩
      have e3 := same_new ht1 (.tup ws)
      have e4 := same_new ht2 (.tup [.str "shape", .ref t1])
      refine q _ _ (.shape qs) (x2.trans (Ext.same (Same.trans e3 e4))) (S2.same (Same.trans e3 e4)) ?_ (.shape ?_ ?_ gq)
      · rw [pyP]
        exact ((Dts.nil.cons ((Same.keep e4).dt (((Same.keep e3).dts hws).tup (SqT.of upd_same)))).cons (.str "shape")).tup (SqT.of upd_same)
      · have := congrArg List.length nmq
        rw [List.length_map, List.length_map] at this
        omega
      · rw [nmq]; exact fl
  | @book n0 k k0 k9 wk =>
    replace hw : ("book" : Str) = wd := hw
    subst hw
    obtain ⟨u, rfl, hu⟩ := Dts.one (d := .tuple (pyL k)) hcd
    have nm := nm (by omega)
    have nr := nr (by omega)
    have wkk : Wk (bs.map (·.1)) n0 k := ⟨k0, k9, wk⟩
    have wk4 : Wk (bs.map (·.1)) 4 k := wkk.mono (by omega)
    refine ⟨_, rfl, ca, _, _, _, rfl, rfl, hct, at_of (j := 0) rfl rfl, rfl, _, rfl, iteNo (by decide +kernel) ⟨_, rfl, ca, _, _, _, rfl, rfl, hct, at_of (j := 0) rfl rfl, rfl, _, rfl, iteNo (by decide +kernel) ⟨_, rfl, ca, _, _, _, rfl, rfl, hct, at_of (j := 0) rfl rfl, rfl, _, rfl, iteNo (by decide +kernel) ?_⟩⟩⟩
    refine ⟨_, rfl, s, i, 3, rfl, W0.S, by decide, by decide, fun mn H1 m0 m3 x1 S1 => ?_⟩
    have W1 := W0.ext x1 S1
    have N1 := N.ext W0.S x1
    have hct1 := (W0.S.keep x1) _ _ hct
    have hu1 := (W0.S.keep x1).dt hu
    have q1 := q.ext x1
    dsimp only [tNext, gName]
    refine ⟨_, rfl, ca, _, _, _, rfl, rfl, hct1, at_of (j := 0) rfl rfl, rfl, _, rfl, iteYes (by decide +kernel) ⟨_, rfl, rfl, _, rfl, ite2 (fun _ => ?_) (fun _ => ?_)⟩⟩
    · refine ⟨_, rfl, ca, _, _, _, rfl, rfl, hct1, at_of (j := 1) rfl rfl, (by show 2 ≤ sizeLine; decide), fun t ht => ?_⟩
      refine q1 _ _ (.empt "nobook" k) (Ext.new _ ht) (S1.same (same_new ht _)) ?_ (.empt (.inr rfl) wk4)
      rw [pyP]
      exact ((Dts.nil.cons ((Same.keep (same_new ht _)).dt hu1)).cons (.str "nobook")).tup (SqT.of upd_same)
    refine ⟨_, rfl, (by show 1 ≤ sizeLine; decide), fun t1 ht1 => ⟨(by show 1 ≤ sizeLine; decide), fun t2 ht2 => ?_⟩⟩
    have e2 := same_new ht1 (.tup [.str "text"])
    have e3 := same_new ht2 (.tup [.ref t1])
    have e23 := Same.trans e2 e3
    have kt : IsK K (upd (upd H1 t1 (.tup [.str "text"])) t2 (.tup [.ref t1])) (.ref t2) [.txt] := IsK.text (by rw [pyC]) (SqT.of (e3 _ _ upd_same)) (SqT.of upd_same)
    have W2 := W1.same e23
    have N2 := N1.same e23
    have q2 := q1.ext (Ext.same e23)
    have hct2 := (Same.keep (K := K) e23) _ _ hct1
    have hu2 := (Same.keep (K := K) e23).dt hu1
    generalize (upd (upd H1 t1 (.tup [.str "text"])) t2 (.tup [.ref t1])) = H2 at e23 kt W2 N2 q2 hct2 hu2 ⊢
    clear ht1 ht2 e2 e3 W1 N1 q1 hct1 hu1
    refine ⟨_, rfl, _, rfl, s, i, fns, ba, bs, na, nms, .ref t2, [.txt], 0, 0, rfl, W2, N2, by omega, kt, ⟨by simp, by decide, fun c hc => by rw [List.mem_singleton.mp hc]; exact .txt _⟩, by omega, fun h => absurd h (Nat.lt_irrefl _), by omega, fun uv H3 up x3 S3 du gu => ?_⟩
    dsimp only [tNext, gName]
    have hct3 := (W2.S.keep x3) _ _ hct2
    have hu3 := (W2.S.keep x3).dt hu2
    refine ⟨_, rfl, ca, _, _, _, rfl, rfl, hct3, at_of (j := 1) rfl rfl, (by show 2 ≤ sizeLine; decide), fun t3 ht3 => ?_⟩
    have e4 := same_new ht3 (.tup [.str "nobook", u])
    have W3 := (W2.ext x3 S3).same e4
    have N3 := (N2.ext W2.S x3).same e4
    have q3 := (q2.ext x3).ext (Ext.same e4)
    have dn3 : Dt K (upd H3 t3 (.tup [.str "nobook", u])) (.ref t3) (pyP (.empt "nobook" k)) := by
      rw [pyP]
      exact ((Dts.nil.cons ((Same.keep e4).dt hu3)).cons (.str "nobook")).tup (SqT.of upd_same)
    have du3 := (Same.keep (K := K) e4).dt du
    have hu4 := (Same.keep (K := K) e4).dt hu3
    have hct4 := (Same.keep (K := K) e4) _ _ hct3
    generalize (upd H3 t3 (.tup [.str "nobook", u])) = H4 at e4 W3 N3 q3 dn3 du3 hu4 hct4 ⊢
    refine ⟨_, rfl, _, rfl, _, rfl, ca, _, _, _, rfl, rfl, hct4, at_of (j := 1) rfl rfl, _, rfl, _, rfl, s, i, fns, ba, bs, na, nms, u, k, 0, e, rfl, W3, N3, by omega, hu4, wkk.mono (by omega), by omega, fun h => absurd h (Nat.lt_irrefl _), by omega, fun pvv H5 pp x5 S5 dpp gpp => ⟨(by show 4 ≤ sizeLine; decide), fun t5 ht5 => ?_⟩⟩
    have e6 := same_new ht5 (.tup [.str "put", .ref t3, uv, pvv])
    refine q3 _ _ (.op "put" [.empt "nobook" k, up, pp]) (x5.trans (Ext.same e6)) (S5.same e6) ?_ (.op (by show (("put" : Str), 3) ∈ opTab; decide +kernel) fun p' m => ?_)
    · rw [pyP, pyPs, pyPs, pyPs, pyPs]
      exact ((((Dts.nil.cons ((Same.keep e6).dt dpp)).cons ((Same.keep e6).dt ((W3.S.keep x5).dt du3))).cons ((Same.keep e6).dt ((W3.S.keep x5).dt dn3))).cons (.str "put")).tup (SqT.of upd_same)
    · simp only [List.mem_cons, List.not_mem_nil, or_false] at m
      obtain ⟨r2', rfl⟩ : ∃ r2', r' = r2' + 1 := ⟨r' - 1, by omega⟩
      rcases m with h | h | h <;> rw [h]
      · exact .empt (.inr rfl) wk4
      · exact gu.mono (by omega) fun _ z => z
      · exact gpp.mono (by omega) fun _ z => z
  | @row n0 k k0 k9 wk =>
    replace hw : ("row" : Str) = wd := hw
    subst hw
    obtain ⟨u, rfl, hu⟩ := Dts.one (d := .tuple (pyL k)) hcd
    have nm := nm (by omega)
    have nr := nr (by omega)
    have wkk : Wk (bs.map (·.1)) n0 k := ⟨k0, k9, wk⟩
    have wk4 : Wk (bs.map (·.1)) 4 k := wkk.mono (by omega)
    refine ⟨_, rfl, ca, _, _, _, rfl, rfl, hct, at_of (j := 0) rfl rfl, rfl, _, rfl, iteNo (by decide +kernel) ⟨_, rfl, ca, _, _, _, rfl, rfl, hct, at_of (j := 0) rfl rfl, rfl, _, rfl, iteNo (by decide +kernel) ⟨_, rfl, ca, _, _, _, rfl, rfl, hct, at_of (j := 0) rfl rfl, rfl, _, rfl, iteNo (by decide +kernel) ?_⟩⟩⟩
    refine ⟨_, rfl, s, i, 3, rfl, W0.S, by decide, by decide, fun mn H1 m0 m3 x1 S1 => ?_⟩
    have W1 := W0.ext x1 S1
    have N1 := N.ext W0.S x1
    have hct1 := (W0.S.keep x1) _ _ hct
    have hu1 := (W0.S.keep x1).dt hu
    have q1 := q.ext x1
    dsimp only [tNext, gName]
    refine ⟨_, rfl, ca, _, _, _, rfl, rfl, hct1, at_of (j := 0) rfl rfl, rfl, _, rfl, iteNo (by decide +kernel) ⟨_, rfl, rfl, _, rfl, ite2 (fun _ => ?_) (fun hm => ?_)⟩⟩
    · refine ⟨_, rfl, ca, _, _, _, rfl, rfl, hct1, at_of (j := 1) rfl rfl, (by show 2 ≤ sizeLine; decide), fun t ht => ?_⟩
      refine q1 _ _ (.empt "norow" k) (Ext.new _ ht) (S1.same (same_new ht _)) ?_ (.empt (.inl rfl) wk4)
      rw [pyP]
      exact ((Dts.nil.cons ((Same.keep (same_new ht _)).dt hu1)).cons (.str "norow")).tup (SqT.of upd_same)
    have mn0 : mn ≠ 0 := fun z => hm (decide_eq_true (by rw [z]))
    refine ⟨_, rfl, _, rfl, by omega, by omega, fun F hF => ?_⟩
    have nFs : F ≠ s := S1.ne hF
    refine lc_range (lo := 0) (n := mn.toNat) (fun j H2 => Ext s H1 H2 ∧ IsS K H2 s i ∧ ∃ (ws : List V) (ps : List Pt), H2 F = some (.lst ws) ∧ Dts K H2 ws (pyPs ps) ∧ ps.length = j ∧ ∀ p ∈ ps, GpOf bs nms fns r' p) ⟨Ext.new _ hF, S1.same (same_new hF _), [], [], upd_same, by rw [pyPs]; exact Dts.nil, rfl, fun q m => by cases m⟩ ?_ ?_
    · rintro j H2 hj ⟨x2, S2, ws, ps, h2, hws, lp, gq⟩
      refine ⟨rfl, _, rfl, _, rfl, ca, _, _, _, rfl, rfl, (S1.keep x2) _ _ hct1, at_of (j := 1) rfl rfl, _, rfl, _, rfl, _, rfl, s, i, fns, ba, bs, na, nms, u, k, d, e, rfl, W1.ext x2 S2, N1.ext W1.S x2, n12, (S1.keep x2).dt hu1, wkk.mono (by omega), ed, de, nm, fun v3 H3 p3 x3 S3 dp gp => ⟨ws, x3 _ _ nFs h2, ?_, ?_⟩⟩
      · rw [hws.1, pyPs_map, List.length_map]
        exact small1000 (by omega)
      · have h3 := x3 _ _ nFs h2
        have x5 : Ext s H1 (upd H3 F (.lst (ws ++ [v3]))) := (x2.trans x3).over hF _
        have k6 : Keep K H3 (upd H3 F (.lst (ws ++ [v3]))) := Keep.upd h3 trivial _
        refine ⟨x5, S1.over S3 x5 nFs, ws ++ [v3], ps ++ [p3], upd_same, ?_, by rw [List.length_append, lp]; rfl, fun q' m => ?_⟩
        · rw [pyPs_map, List.map_append, ← pyPs_map]
          exact (k6.dts ((S2.keep x3).dts hws)).snoc (k6.dt dp)
        · rcases List.mem_append.mp m with m | m
          · exact gq q' m
          · rw [List.mem_singleton.mp m]
            exact gp.mono (by omega) fun _ z => z
    · rintro H2 ⟨x2, S2, ws, ps, h2, hws, lp, gq⟩
      have lp' : ps.length = mn.toNat := lp
      refine ⟨F, ws, rfl, .inl ⟨SqL.of h2, fun t1 ht1 => ⟨(by show 2 ≤ sizeLine; decide), fun t2 ht2 => ?_⟩⟩⟩
      have e3 := same_new ht1 (.tup ws)
      have e4 := same_new ht2 (.tup [.str "row", .ref t1])
      refine q1 _ _ (.row ps) (x2.trans (Ext.same (Same.trans e3 e4))) (S2.same (Same.trans e3 e4)) ?_ (.row ?_ (by omega) gq)
      · rw [pyP]
        exact ((Dts.nil.cons ((Same.keep e4).dt (((Same.keep e3).dts hws).tup (SqT.of upd_same)))).cons (.str "row")).tup (SqT.of upd_same)
      · intro z
        rw [z] at lp'
        have : (0 : Nat) = mn.toNat := lp'
        omega
end
end Sc
namespace Sc
open PySem PyProof.Rows L2
mutual
def tupD : PyData → Bool
  | .tuple ds => tupAll ds
  | .list _ => false
  | .dict _ => false
  | _ => true
def tupAll : List PyData → Bool
  | [] => true
  | d :: ds => tupD d && tupAll ds
end
mutual
theorem Dp.dtT {K : PySem.W.Frag} {H : Hp} : ∀ {v : V} {d : PyData}, Dp K H v d → tupD d = true → Dt K H v d
  | _, _, .non, _ => .non
  | _, _, .bl b, _ => .bl b
  | _, _, .int i, _ => .int i
  | _, _, .str x, _ => .str x
  | _, _, .lst _ _, t => by unfold tupD at t; cases t
  | _, _, .tup h a, t => (Dp.dtsT a (by unfold tupD at t; exact t)).tup h
theorem Dp.dtsT {K : PySem.W.Frag} {H : Hp} : ∀ {vs : List V} {ds : List PyData}, DpAll K H vs ds → tupAll ds = true → Dts K H vs ds
  | _, _, .nil, _ => .nil
  | _, _, .cons h t, e => by
    simp only [tupAll, Bool.and_eq_true] at e
    exact (Dp.dtsT t e.2).cons (Dp.dtT h e.1)
end
theorem IsK.one {K : PySem.W.Frag} {H : Hp} {v : V} {t : Addr} {c : Ch} (h : IsC K H v c) (ht : SqT K H t [v]) : IsK K H (.ref t) [c] := by
  show Dt K H _ (.tuple (pyL [c]))
  rw [pyL, pyL]
  exact (Dts.nil.cons h).tup ht
theorem IsC.rowOf {K : PySem.W.Frag} {H : Hp} {v : V} {t : Addr} {k : List Ch} (h : IsK K H v k) (ht : SqT K H t [.str "row", v]) : IsC K H (.ref t) (.row k) := by
  show Dt K H _ (pyC (.row k))
  rw [pyC]
  exact ((Dts.nil.cons h).cons (.str "row")).tup ht
theorem IsC.bookOf {K : PySem.W.Frag} {H : Hp} {v : V} {t : Addr} {k : List Ch} (h : IsK K H v k) (ht : SqT K H t [.str "book", v]) : IsC K H (.ref t) (.book k) := by
  show Dt K H _ (pyC (.book k))
  rw [pyC]
  exact ((Dts.nil.cons h).cons (.str "book")).tup ht
theorem Wk.one {ls : List Str} {n : Nat} {c : Ch} (h : Wc ls n c) : Wk ls n [c] := ⟨by simp, by show 1 ≤ 9; decide, fun x m => by rw [List.mem_singleton.mp m]; exact h⟩
theorem Wk.rowOf {ls : List Str} {n : Nat} {k : List Ch} (h : Wk ls n k) : Wk ls (n + 1) [.row k] := .one (.row h.ne h.few h.all)
theorem Wk.bookOf {ls : List Str} {n : Nat} {k : List Ch} (h : Wk ls n k) : Wk ls (n + 1) [.book k] := .one (.book h.ne h.few h.all)
section
variable {P : Program} {w : World} {K : PySem.W.Frag} {mg : Str → Option Value} {base : Heap}
def nRec : List Str := ["_law_s", "_law_choice_here", "_law_names", "_law_bounds_here", "_law_deep", "_law_some", "_law_word_here", "_law_one", "_law_name", "_law_kind_here", "_law_row", "_law_held", "_law_under"]
theorem scRec : FnScope nRec psWri (defScope sReckoned) := ⟨rfl, rfl, rfl, by decide +kernel, rfl, by decide +kernel, by decide +kernel⟩
theorem c_reckoned {m lv : Nat} (T : Tx K mg) (lv7 : 7 ≤ lv) (CP : Cal P w K mg base lv "_law_part" psPart (spPart K m)) : Cal P w K mg base (lv + 1) "_law_reckoned" psWri (spReck K m) := by
  have CT : Cal P w K mg base 1 "_law_taken" ["_law_s", "_law_most"] (spTaken K) := c_taken T
  have CK : Cal P w K mg base 7 "_law_kind" ["_law_s", "_law_deep", "_law_letters"] (spKind K 2) := c_kinds T 2
  have CW : Cal P w K mg base 1 "_law_word" ["_law_s", "_law_k"] (spWord K) := c_word T
  have CI : Cal P w K mg base 1 "_law_with" ["_law_names", "_law_name", "_law_kind_here"] (spWith K) := c_with T
  refine T.reckoned.ok scRec (fun vs H Q E h => ?_) (fun f cdv A outer s0 H vs Q E hr h => ?_)
  · obtain ⟨s, i, fns, ba, bs, na, nms, v, c, d, n, rfl, _⟩ := h
    rfl
  obtain ⟨s, i, fns, ba, bs, na, nms, v, c, d, n, rfl, W0, N, n10, hc, wc, nl, nd3, n1, dm, qn, q⟩ := h
  have r1 : Room 1 _ := hr.mono (show 1 ≤ lv by omega)
  have r7 : Room 7 _ := hr.mono lv7
  refine ⟨_, pss_cons (ps_if (pt_cmpR op_eq (pe_ix ix_tup (pv 1) pe_int (fun _ _ => rfl)) pe_str (nomark _)) (pss_one (ps_ret pe_non)) pss_nil) <|
    pss_cons (ps_if (PW.pt (pw_and (pt_cmpR op_eq (pe_ix ix_tup (pv 1) pe_int (fun _ _ => rfl)) pe_str (nomark _)) (pw_and1 (pt_cmpR op_eq (pe_cal CT r1 (pa_cons (pv 0) (pa_cons pe_int pa_nil))) pe_int (nomark _)))))
      (pss_cons (ps_set (i := 5) scRec.nd rfl (Or.inl rfl) (lit_lst (K := K) (i := 4) (g := .int d) (lits_cons (lit_tup (lits_cons (lit_tup (lits_cons lit_str lits_nil) (by decide)) lits_nil) (by decide))
          (lits_cons (lit_tup (lits_cons (lit_tup (lits_cons lit_str (lits_cons (lit_tup (lits_cons (lit_tup (lits_cons lit_str lits_nil) (by decide)) lits_nil) (by decide)) lits_nil)) (by decide)) lits_nil) (by decide))
          (lits_cons (lit_tup (lits_cons (lit_tup (lits_cons lit_str (lits_cons (lit_tup (lits_cons (lit_tup (lits_cons lit_str lits_nil) (by decide)) lits_nil) (by decide)) lits_nil)) (by decide)) lits_nil) (by decide)) lits_nil))) (by decide)))
      (pss_one (ps_ret (pe_tup (pa_cons pe_str (pa_cons (pe_cal CP hr (pa_cons (pv 0) (pa_cons (pe_ix ix_list (pv 5) (pe_cal CT r1 (pa_cons (pv 0) (pa_cons pe_int pa_nil))) (fun _ _ => rfl)) (pa_cons (pv 2) (pa_cons (pv 3) (pa_cons (pv 4) pa_nil)))))) pa_nil)))))) pss_nil) <|
    pss_cons (ps_if (PW.pt (pw_or (pt_cmpR op_eq (pe_ix ix_tup (pv 1) pe_int (fun _ _ => rfl)) pe_str (nomark _)) (pw_or1 (pt_cmpR op_eq (pe_ix ix_tup (pv 1) pe_int (fun _ _ => rfl)) pe_str (nomark _)))))
      (pss_cons (ps_set (i := 6) scRec.nd rfl (Or.inl rfl) pe_str)
      (pss_cons (ps_if (pt_cmpR op_eq (pe_ix ix_tup (pv 1) pe_int (fun _ _ => rfl)) pe_str (nomark _)) (pss_one (ps_set (i := 6) scRec.nd rfl (Or.inl rfl) (pe_ix ix_list (pe_lst (pa_cons pe_str (pa_cons pe_str pa_nil))) (pe_cal CT r1 (pa_cons (pv 0) (pa_cons pe_int pa_nil))) (fun _ _ => rfl)))) pss_nil)
      (pss_cons (ps_set (i := 7) scRec.nd rfl (Or.inl rfl) (pe_cal CP hr (pa_cons (pv 0) (pa_cons (pe_tup (pa_cons (pv 1) pa_nil)) (pa_cons (pv 2) (pa_cons (pv 3) (pa_cons (pv 4) pa_nil)))))))
      (pss_one (ps_ret (pe_tup (pa_cons (pv 6) (pa_cons (pv 7) (pa_cons (pe_cal CP hr (pa_cons (pv 0) (pa_cons (pe_tup (pa_cons (pv 1) pa_nil)) (pa_cons (pv 2) (pa_cons (pv 3) (pa_cons (pv 4) pa_nil)))))) pa_nil))))))))) pss_nil) <|
    pss_cons (ps_if (PW.pt (pw_and (pt_cmpR op_eq (pe_ix ix_tup (pv 1) pe_int (fun _ _ => rfl)) pe_str (nomark _)) (pw_and1 (pt_cmpR op_eq (pe_cal CT r1 (pa_cons (pv 0) (pa_cons pe_int pa_nil))) pe_int (nomark _)))))
      (pss_cons (ps_set (i := 8) scRec.nd rfl (Or.inl rfl) (pe_cal CW r1 (pa_cons (pv 0) (pa_cons (pe_cal CT r1 (pa_cons (pv 0) (pa_cons pe_int pa_nil))) pa_nil))))
      (pss_cons (ps_set (i := 9) scRec.nd rfl (Or.inl rfl) (pe_cal CK r7 (pa_cons (pv 0) (pa_cons pe_int (pa_cons (pe_lst pa_nil) pa_nil)))))
      (pss_cons (ps_set (i := 10) scRec.nd rfl (Or.inl rfl) (pe_cal CP hr (pa_cons (pv 0) (pa_cons (pe_tup (pa_cons (pe_tup (pa_cons pe_str (pa_cons (pv 9) pa_nil))) pa_nil)) (pa_cons (pv 2) (pa_cons (pv 3) (pa_cons (pv 4) pa_nil)))))))
      (pss_one (ps_ret (pe_tup (pa_cons pe_str (pa_cons (pv 8) (pa_cons (pv 10) (pa_cons (pe_cal CP hr (pa_cons (pv 0) (pa_cons (pe_ix ix_tup (pv 1) pe_int (fun _ _ => rfl)) (pa_cons (pe_cal CI r1 (pa_cons (pv 2) (pa_cons (pv 8) (pa_cons (pv 9) pa_nil)))) (pa_cons (pv 3) (pa_cons (pv 4) pa_nil)))))) pa_nil)))))))))) pss_nil) <|
    pss_cons (ps_set (i := 11) scRec.nd rfl (Or.inl rfl) (pe_cal CP hr (pa_cons (pv 0) (pa_cons (pe_tup (pa_cons (pv 1) pa_nil)) (pa_cons (pv 2) (pa_cons (pv 3) (pa_cons (pv 4) pa_nil))))))) <|
    pss_cons (ps_if (pt_cmpR op_eq (pe_ix ix_tup (pv 1) pe_int (fun _ _ => rfl)) pe_str (nomark _))
      (pss_one (ps_ret (pe_tup (pa_cons pe_str (pa_cons (pv 11) (pa_cons (pe_cal CP hr (pa_cons (pv 0) (pa_cons (pe_ix ix_tup (pv 1) pe_int (fun _ _ => rfl)) (pa_cons (pv 2) (pa_cons (pv 3) (pa_cons (pv 4) pa_nil)))))) pa_nil)))))) pss_nil) <|
    pss_cons (ps_set (i := 12) scRec.nd rfl (Or.inl rfl) (pe_cal CP hr (pa_cons (pv 0) (pa_cons (pe_tup (pa_cons (pe_tup (pa_cons pe_str pa_nil)) pa_nil)) (pa_cons (pv 2) (pa_cons (pv 3) (pa_cons (pv 4) pa_nil))))))) <|
    pss_one (ps_ret (pe_tup (pa_cons pe_str (pa_cons (pv 11) (pa_cons (pv 12) (pa_cons (pe_cal CP hr (pa_cons (pv 0) (pa_cons (pe_ix ix_tup (pv 1) pe_int (fun _ _ => rfl)) (pa_cons (pv 2) (pa_cons (pv 3) (pa_cons (pv 4) pa_nil)))))) pa_nil)))))), ?_⟩
  have hc0 := hc
  obtain ⟨ca, cs, rfl, hct, hcd⟩ := hc.lead
  generalize hw : wdC c = wd at hct ⊢
  have w1 : ∀ {H1 : Hp} {t : Addr}, Ext s H H1 → SqT K H1 t [.ref ca] → IsK K H1 (.ref t) [c] := fun x h => IsK.one ((W0.S.keep x).dt hc0) h
  by_cases fl : wd = "number" ∨ wd = "text"
  · have ns : ¬ decide (V.str wd = V.str "shape") = true := fun z => by
      have e := V.str.inj (of_decide_eq_true z)
      rcases fl with h | h <;> rw [h] at e <;> exact absurd e (by decide +kernel)
    refine ⟨_, rfl, ca, _, _, _, rfl, rfl, hct, at_of (j := 0) rfl rfl, rfl, _, rfl, iteNo ns ?_⟩
    dsimp only [tNext, gName]
    refine seq_with (fun R => ∀ H1, Ext s H H1 → IsS K H1 s i → R [some (.ref s), some (.ref ca), some (.ref na), some (.ref ba), some (.int d), none, none, none, none, none, none, none, none] H1) ?_ ?_
    rotate_left
    · intro rest
      show tAnd _ _ _ _ _
      refine ⟨_, rfl, ca, _, _, _, rfl, rfl, hct, at_of (j := 0) rfl rfl, rfl, _, rfl, ite2 (fun _ => ?_) (fun _ => iteF (rest H (Ext.refl s H) W0.S))⟩
      refine ⟨_, rfl, s, i, 3, rfl, W0.S, by decide, by decide, fun r H1 _ _ x1 S1 => ⟨rfl, _, rfl, ite2 (fun _ => ?_) (fun _ => rest H1 x1 S1)⟩⟩
      refine ⟨⟨.int d, rfl, .int _⟩, fun L us H2 e2 hL du => ?_⟩
      dsimp only [tNext, gName]
      have W2 := (W0.ext x1 S1).same e2
      have N2 := (N.ext W0.S x1).same e2
      have nLs : L ≠ s := fun z => by
        obtain ⟨kvs, e⟩ := W2.S.dk
        rw [z, e] at hL; cases hL
      refine ⟨_, rfl, _, rfl, _, rfl, s, i, 3, rfl, W2.S, by decide, by decide, fun r2 H3 r0 r3 x3 S3 => ?_⟩
      obtain ⟨u, hu1, hu2⟩ : ∃ u, atI us r2 = some u ∧ ∃ k2, IsK K H3 u k2 ∧ Wk (bs.map (·.1)) 1 k2 := by
        have dts := KeepL.dps (W2.S.keepL x3) du
        have h3 : r2 = 0 ∨ r2 = 1 ∨ r2 = 2 := by omega
        cases dts with
        | cons d0 dts => cases dts with
          | cons d1 dts => cases dts with
            | cons d2 dts => cases dts with
              | nil =>
                rcases h3 with h | h | h <;> subst h
                · refine ⟨_, rfl, [.txt], ?_, .one (.txt _)⟩
                  have := Sc.Dp.dtT d0 (by decide +kernel)
                  show Dt K _ _ (.tuple (pyL [.txt]))
                  rw [pyL, pyL, pyC]; exact this
                · refine ⟨_, rfl, [.row [.num]], ?_, .one (.row (by simp) (by decide) fun c m => by rw [List.mem_singleton.mp m]; exact .num _)⟩
                  have := Sc.Dp.dtT d1 (by decide +kernel)
                  show Dt K _ _ (.tuple (pyL [.row [.num]]))
                  rw [pyL, pyL, pyC, pyL, pyL, pyC]; exact this
                · refine ⟨_, rfl, [.book [.txt]], ?_, .one (.book (by simp) (by decide) fun c m => by rw [List.mem_singleton.mp m]; exact .txt _)⟩
                  have := Sc.Dp.dtT d2 (by decide +kernel)
                  show Dt K _ _ (.tuple (pyL [.book [.txt]]))
                  rw [pyL, pyL, pyC, pyL, pyL, pyC]; exact this
      obtain ⟨k2, hk2, wk2⟩ := hu2
      refine ⟨L, us, r2, u, rfl, rfl, SqL.of (x3 _ _ nLs hL), hu1, _, rfl, _, rfl, _, rfl, s, i, fns, ba, bs, na, nms, u, k2, d, 1, rfl, W2.ext x3 S3, N2.ext W2.S x3, by omega, hk2, wk2, by omega, fun _ => Nat.le_refl _, by omega, fun pv H4 pp x4 S4 dp gp => ⟨(by show 2 ≤ sizeLine; decide), fun t ht => ?_⟩⟩
      have e5 := same_new ht (.tup [.str "size", pv])
      refine q _ _ (.op "size" [pp]) (x1.trans ((Ext.same e2).trans (x3.trans (x4.trans (Ext.same e5))))) (S4.same e5) ?_ (.op (by show (("size" : Str), 1) ∈ opTab; decide +kernel) fun p' m => by rw [List.mem_singleton.mp m]; exact gp.mono (by omega) fun _ z => z)
      rw [pyP, pyPs, pyPs]
      exact ((Dts.nil.cons ((Same.keep e5).dt dp)).cons (.str "size")).tup (SqT.of upd_same)
    intro H1 x1 S1
    have W1 := W0.ext x1 S1
    have N1 := N.ext W0.S x1
    have q1 := q.ext x1
    have hct1 := (W0.S.keep x1) _ _ hct
    have w2 : ∀ {H2 : Hp} {t : Addr}, Ext s H1 H2 → SqT K H2 t [.ref ca] → IsK K H2 (.ref t) [c] := fun x h => w1 (x1.trans x) h
    clear hct hc0 w1 qn q W0 N
    show tOr _ _ _ _ _
    refine or_pure (decide (V.str wd = V.str "number")) (decide (V.str wd = V.str "text")) (fun R h => ⟨_, rfl, ca, _, _, _, rfl, rfl, hct1, at_of (j := 0) rfl rfl, rfl, _, rfl, h⟩) (fun _ R h => ⟨_, rfl, ca, _, _, _, rfl, rfl, hct1, at_of (j := 0) rfl rfl, rfl, _, rfl, h⟩) (fun _ => iteT ?_) (fun z1 z2 => ?_)
    rotate_left
    · rcases fl with h | h
      · rw [h] at z1; exact absurd z1 (by decide +kernel)
      · rw [h] at z2; exact absurd z2 (by decide +kernel)
    refine seq_asgC ?_
    dsimp only [tNext, gName]
    refine seq_with (fun R => ∀ (wd2 : Str) (H2 : Hp), Ext s H1 H2 → IsS K H2 s i → (wd2, 2) ∈ opTab → R [some (.ref s), some (.ref ca), some (.ref na), some (.ref ba), some (.int d), none, some (.str wd2), none, none, none, none, none, none] H2) ?_ ?_
    rotate_left
    · intro rest
      refine ⟨_, rfl, ca, _, _, _, rfl, rfl, hct1, at_of (j := 0) rfl rfl, rfl, _, rfl, ite2 (fun _ => ?_) (fun _ => rest "join" H1 (Ext.refl _ _) W1.S (by decide +kernel))⟩
      refine ⟨(by show 2 ≤ sizeLine; decide), fun L hL => ?_⟩
      have e2 := same_new hL (.lst [.str "plus", .str "minus"])
      have nLs : L ≠ s := W1.S.ne hL
      refine ⟨_, rfl, s, i, 2, rfl, W1.S.same e2, by decide, by decide, fun r H3 r0 r2 x3 S3 => ?_⟩
      have h3 : r = 0 ∨ r = 1 := by omega
      refine ⟨L, _, r, .str (if r = 0 then "plus" else "minus"), rfl, rfl, SqL.of (x3 _ _ nLs upd_same), ?_, ?_⟩
      · rcases h3 with h | h <;> subst h <;> rfl
      · refine rest (if r = 0 then "plus" else "minus") H3 ((Ext.same e2).trans x3) S3 ?_
        rcases h3 with h | h <;> subst h <;> decide +kernel
    intro wd2 H2 x2 S2 mo
    have W2 := W1.ext x2 S2
    have N2 := N1.ext W1.S x2
    refine ⟨_, rfl, _, rfl, (by show 1 ≤ sizeLine; decide), fun t1 ht1 => ?_⟩
    have e3 := same_new ht1 (.tup [.ref ca])
    refine ⟨_, rfl, _, rfl, _, rfl, s, i, fns, ba, bs, na, nms, .ref t1, [c], d, n, rfl, W2.same e3, N2.same e3, by omega, w2 (x2.trans (Ext.same e3)) (SqT.of upd_same), .one wc, by omega, fun _ => n1, by omega, fun v1 H4 p1 x4 S4 dp1 gp1 => ?_⟩
    dsimp only [tNext, gName]
    refine ⟨_, rfl, _, rfl, _, rfl, _, rfl, (by show 1 ≤ sizeLine; decide), fun t2 ht2 => ?_⟩
    have x24 := x2.trans ((Ext.same e3).trans x4)
    have e5 := same_new ht2 (.tup [.ref ca])
    refine ⟨_, rfl, _, rfl, _, rfl, s, i, fns, ba, bs, na, nms, .ref t2, [c], d, n, rfl, (W1.ext x24 S4).same e5, (N1.ext W1.S x24).same e5, by omega, w2 (x24.trans (Ext.same e5)) (SqT.of upd_same), .one wc, by omega, fun _ => n1, by omega, fun v2 H6 p2 x6 S6 dp2 gp2 => ⟨(by show 3 ≤ sizeLine; decide), fun t3 ht3 => ?_⟩⟩
    have e7 := same_new ht3 (.tup [.str wd2, v1, v2])
    have dp1' := (Same.keep (K := K) e7).dt ((S4.keep ((Ext.same e5).trans x6)).dt dp1)
    refine q1 _ _ (.op wd2 [p1, p2]) (x24.trans ((Ext.same e5).trans (x6.trans (Ext.same e7)))) (S6.same e7) ?_ (.op mo fun p' m => ?_)
    · rw [pyP, pyPs, pyPs, pyPs]
      exact (((Dts.nil.cons ((Same.keep e7).dt dp2)).cons dp1').cons (.str wd2)).tup (SqT.of upd_same)
    · simp only [List.mem_cons, List.not_mem_nil, or_false] at m
      rcases m with h | h <;> rw [h]
      · exact gp1.mono (by omega) fun _ z => z
      · exact gp2.mono (by omega) fun _ z => z
  have nn : ¬ decide (V.str wd = V.str "number") = true := fun z => fl (.inl (V.str.inj (of_decide_eq_true z)))
  have nt : ¬ decide (V.str wd = V.str "text") = true := fun z => fl (.inr (V.str.inj (of_decide_eq_true z)))
  refine ⟨_, rfl, ca, _, _, _, rfl, rfl, hct, at_of (j := 0) rfl rfl, rfl, _, rfl, ite2 (fun _ => qn H (Ext.refl s H) W0.S) (fun nsh => ?_)⟩
  have rb : ∃ (kk : List Ch) (n0 : Nat), cs = cs ∧ (wd = "row" ∨ wd = "book") ∧ restC c = [.tuple (pyL kk)] ∧ n0 ≤ n ∧ Wk (bs.map (·.1)) n0 kk := by
    cases wc with
    | letter => exact absurd rfl (nl _)
    | num => exact absurd (.inl hw.symm) fl
    | txt => exact absurd (.inr hw.symm) fl
    | shape => exact absurd (decide_eq_true (congrArg V.str hw.symm)) nsh
    | @row n0 k a b c => exact ⟨k, n0, rfl, .inl hw.symm, rfl, by omega, ⟨a, b, c⟩⟩
    | @book n0 k a b c => exact ⟨k, n0, rfl, .inr hw.symm, rfl, by omega, ⟨a, b, c⟩⟩
  obtain ⟨kk, n0, _, rbk, erest, n0n, wkk⟩ := rb
  rw [erest] at hcd
  obtain ⟨u, rfl, hu⟩ := Dts.one (d := .tuple (pyL kk)) hcd
  have wkn : Wk (bs.map (·.1)) n kk := wkk.mono n0n
  clear erest hcd
  dsimp only [tNext, gName]
  show tAnd _ _ _ _ _
  refine ⟨_, rfl, ca, _, _, _, rfl, rfl, hct, at_of (j := 0) rfl rfl, rfl, _, rfl, ite2 (fun z => absurd z nn) (fun _ => iteF ?_)⟩
  dsimp only [tNext, gName]
  show tOr _ _ _ _ _
  refine or_pure (decide (V.str wd = V.str "number")) (decide (V.str wd = V.str "text")) (fun R h => ⟨_, rfl, ca, _, _, _, rfl, rfl, hct, at_of (j := 0) rfl rfl, rfl, _, rfl, h⟩) (fun _ R h => ⟨_, rfl, ca, _, _, _, rfl, rfl, hct, at_of (j := 0) rfl rfl, rfl, _, rfl, h⟩) (fun z => ?_) (fun _ _ => iteF ?_)
  · rcases z with z | z
    · exact absurd z nn
    · exact absurd z nt
  dsimp only [tNext, gName]
  refine seq_with (fun R => ∀ H1, Ext s H H1 → IsS K H1 s i → R [some (.ref s), some (.ref ca), some (.ref na), some (.ref ba), some (.int d), none, none, none, none, none, none, none, none] H1) ?_ ?_
  rotate_left
  · intro rest
    show tAnd _ _ _ _ _
    refine ⟨_, rfl, ca, _, _, _, rfl, rfl, hct, at_of (j := 0) rfl rfl, rfl, _, rfl, ite2 (fun _ => ?_) (fun _ => iteF (rest H (Ext.refl s H) W0.S))⟩
    refine ⟨_, rfl, s, i, 2, rfl, W0.S, by decide, by decide, fun r H1 _ _ x1 S1 => ⟨rfl, _, rfl, ite2 (fun _ => ?_) (fun _ => rest H1 x1 S1)⟩⟩
    -- each
    have W1 := W0.ext x1 S1
    have N1 := N.ext W0.S x1
    obtain ⟨_, _, _, _, _, iok, _⟩ := id S1
    refine ⟨_, rfl, _, rfl, s, i, 9, rfl, S1, by decide, by decide, fun j H2 j0 j9 x2 S2 => ⟨s, i, j, rfl, S2, j0, fun H3 e3 => ?_⟩⟩
    have W3 := (W1.ext x2 S2).same e3
    have N3 := (N1.ext W1.S x2).same e3
    have x13 : Ext s H H3 := x1.trans (x2.trans (Ext.same e3))
    have S3 := S2.same e3
    dsimp only [tNext, gName]
    refine ⟨_, rfl, (by show 0 ≤ sizeLine; decide), fun L hL => ⟨s, L, i, 1, [], rfl, S3.same (same_new hL _), by decide, SqL.of upd_same, Nat.zero_le _, fun kv H4 k4 x4 S4 dk4 k0 k3 okk => ?_⟩⟩
    have x34 : Ext s H3 H4 := (Ext.same (same_new hL _)).trans x4
    have W4 := W3.ext x34 S4
    have N4 := N3.ext W3.S x34
    have wk4 : Wk [] 1 k4 := Wk.of_ok k0 k3 okk
    have wk4' : Wk (bs.map (·.1)) 1 k4 := wk4.sub fun l h => by cases h
    dsimp only [tNext, gName]
    refine ⟨_, rfl, _, rfl, (by show 2 ≤ sizeLine; decide), fun t1 ht1 => ⟨(by show 1 ≤ sizeLine; decide), fun t2 ht2 => ?_⟩⟩
    have e5 := same_new ht1 (.tup [.str "row", kv])
    have e6 := same_new ht2 (.tup [.ref t1])
    have e56 := Same.trans e5 e6
    have dr : IsK K (upd (upd H4 t1 (.tup [.str "row", kv])) t2 (.tup [.ref t1])) (.ref t2) [.row k4] := IsK.one (IsC.rowOf ((Same.keep e56).dt dk4) (SqT.of (e6 _ _ upd_same))) (SqT.of upd_same)
    have W6 := W4.same e56
    have N6 := N4.same e56
    have dk6 := (Same.keep (K := K) e56).dt dk4
    generalize (upd (upd H4 t1 (.tup [.str "row", kv])) t2 (.tup [.ref t1])) = H6 at e56 dr W6 N6 dk6 ⊢
    refine ⟨_, rfl, _, rfl, _, rfl, s, i, fns, ba, bs, na, nms, .ref t2, [.row k4], d, 2, rfl, W6, N6, by omega, dr, wk4'.rowOf, by omega, fun _ => by omega, by omega, fun rv H7 rp x7 S7 drv grv => ?_⟩
    have x37 : Ext s H3 H7 := x34.trans ((Ext.same e56).trans x7)
    have W7 := W6.ext x7 S7
    have N7 := N6.ext W6.S x7
    have dk7 := (W6.S.keep x7).dt dk6
    have hct7 := (W0.S.keep (x13.trans x37)) _ _ hct
    have hu7 := (W0.S.keep (x13.trans x37)).dt hu
    dsimp only [tNext, gName]
    refine ⟨_, rfl, _, rfl, _, rfl, _, rfl, ca, _, _, _, rfl, rfl, hct7, at_of (j := 1) rfl rfl, _, rfl, _, rfl, _, rfl, na, nms, wordOf i j, kv, k4, rfl, N7.hN, dk7, by omega, fun b H8 nms' e8 hb hB8 pt => ?_⟩
    have nbs : b ≠ s := W7.S.ne hb
    have N8 := (N7.same e8).put iok j0 (by omega) nbs hB8 pt (wk4'.nm N7.lets (by decide))
    have l8 := pt.len
    refine ⟨_, rfl, _, rfl, s, i, fns, ba, bs, b, nms', u, kk, d, n, rfl, W7.same e8, N8, by omega, (Same.keep e8).dt hu7, wkn, by omega, fun _ => n1, by omega, fun lv H9 lp x9 S9 dlv glv => ⟨(by show 4 ≤ sizeLine; decide), fun t3 ht3 => ?_⟩⟩
    have e10 := same_new ht3 (.tup [.str "each", .str (wordOf i j), rv, lv])
    have x79 : Ext s H7 H9 := (Ext.same e8).trans x9
    refine q _ _ (.bind "each" (wordOf i j) rp lp) (x13.trans (x37.trans (x79.trans (Ext.same e10)))) (S9.same e10) ?_ (.bind (.inr rfl) (word_of iok j0) (grv.mono (by omega) fun _ z => z) (glv.mono (by omega) fun z h => pt.keys h))
    rw [pyP]
    exact ((((Dts.nil.cons ((Same.keep e10).dt dlv)).cons ((Same.keep e10).dt ((W7.S.keep x79).dt drv))).cons (.str _)).cons (.str "each")).tup (SqT.of upd_same)
  intro H1 x1 S1
  have W1 := W0.ext x1 S1
  have N1 := N.ext W0.S x1
  have q1 := q.ext x1
  have hct1 := (W0.S.keep x1) _ _ hct
  have hu1 := (W0.S.keep x1).dt hu
  have w2 : ∀ {H2 : Hp} {t : Addr}, Ext s H1 H2 → SqT K H2 t [.ref ca] → IsK K H2 (.ref t) [c] := fun x h => w1 (x1.trans x) h
  clear hct hc0 w1 qn q N hu
  refine ⟨_, rfl, _, rfl, (by show 1 ≤ sizeLine; decide), fun t1 ht1 => ?_⟩
  have e2 := same_new ht1 (.tup [.ref ca])
  refine ⟨_, rfl, _, rfl, _, rfl, s, i, fns, ba, bs, na, nms, .ref t1, [c], d, n, rfl, W1.same e2, N1.same e2, by omega, w2 (Ext.same e2) (SqT.of upd_same), .one wc, by omega, fun _ => n1, by omega, fun v1 H3 p1 x3 S3 dp1 gp1 => ?_⟩
  have x13 : Ext s H1 H3 := (Ext.same e2).trans x3
  have W3 := W1.ext x13 S3
  have N3 := N1.ext W1.S x13
  have q3 := q1.ext x13
  have hct3 := (W1.S.keep x13) _ _ hct1
  have hu3 := (W1.S.keep x13).dt hu1
  dsimp only [tNext, gName]
  refine ⟨_, rfl, ca, _, _, _, rfl, rfl, hct3, at_of (j := 0) rfl rfl, rfl, _, rfl, ite2 (fun _ => ?_) (fun _ => ?_)⟩
  · refine ⟨_, rfl, _, rfl, _, rfl, ca, _, _, _, rfl, rfl, hct3, at_of (j := 1) rfl rfl, _, rfl, _, rfl, _, rfl, s, i, fns, ba, bs, na, nms, u, kk, d, n, rfl, W3, N3, by omega, hu3, wkn, by omega, fun _ => n1, by omega, fun v2 H4 p2 x4 S4 dp2 gp2 => ⟨(by show 3 ≤ sizeLine; decide), fun t ht => ?_⟩⟩
    have e5 := same_new ht (.tup [.str "push", v1, v2])
    refine q3 _ _ (.op "push" [p1, p2]) (x4.trans (Ext.same e5)) (S4.same e5) ?_ (.op (by show (("push" : Str), 2) ∈ opTab; decide +kernel) fun p' m => ?_)
    · rw [pyP, pyPs, pyPs, pyPs]
      exact (((Dts.nil.cons ((Same.keep e5).dt dp2)).cons ((Same.keep e5).dt ((W3.S.keep x4).dt dp1))).cons (.str "push")).tup (SqT.of upd_same)
    · simp only [List.mem_cons, List.not_mem_nil, or_false] at m
      rcases m with h | h <;> rw [h]
      · exact gp1.mono (by omega) fun _ z => z
      · exact gp2.mono (by omega) fun _ z => z
  · refine ⟨_, rfl, (by show 1 ≤ sizeLine; decide), fun t2 ht2 => ⟨(by show 1 ≤ sizeLine; decide), fun t3 ht3 => ?_⟩⟩
    have e4 := same_new ht2 (.tup [.str "text"])
    have e5 := same_new ht3 (.tup [.ref t2])
    have e45 := Same.trans e4 e5
    have kt : IsK K (upd (upd H3 t2 (.tup [.str "text"])) t3 (.tup [.ref t2])) (.ref t3) [.txt] := IsK.text (by rw [pyC]) (SqT.of (e5 _ _ upd_same)) (SqT.of upd_same)
    refine ⟨_, rfl, _, rfl, _, rfl, s, i, fns, ba, bs, na, nms, .ref t3, [.txt], d, n, rfl, W3.same e45, N3.same e45, by omega, kt, .one (.txt _), by omega, fun _ => n1, by omega, fun v2 H6 p2 x6 S6 dp2 gp2 => ?_⟩
    have x36 : Ext s H3 H6 := (Ext.same e45).trans x6
    have hct6 := (W3.S.keep x36) _ _ hct3
    dsimp only [tNext, gName]
    refine ⟨_, rfl, _, rfl, _, rfl, _, rfl, ca, _, _, _, rfl, rfl, hct6, at_of (j := 1) rfl rfl, _, rfl, _, rfl, _, rfl, s, i, fns, ba, bs, na, nms, u, kk, d, n, rfl, W3.ext x36 S6, N3.ext W3.S x36, by omega, (W3.S.keep x36).dt hu3, wkn, by omega, fun _ => n1, by omega, fun v3 H7 p3 x7 S7 dp3 gp3 => ⟨(by show 4 ≤ sizeLine; decide), fun t ht => ?_⟩⟩
    have e8 := same_new ht (.tup [.str "put", v1, v2, v3])
    refine q3 _ _ (.op "put" [p1, p2, p3]) (x36.trans (x7.trans (Ext.same e8))) (S7.same e8) ?_ (.op (by show (("put" : Str), 3) ∈ opTab; decide +kernel) fun p' m => ?_)
    · rw [pyP, pyPs, pyPs, pyPs, pyPs]
      exact ((((Dts.nil.cons ((Same.keep e8).dt dp3)).cons ((Same.keep e8).dt ((S6.keep x7).dt dp2))).cons ((Same.keep e8).dt ((W3.S.keep (x36.trans x7)).dt dp1))).cons (.str "put")).tup (SqT.of upd_same)
    · simp only [List.mem_cons, List.not_mem_nil, or_false] at m
      rcases m with h | h | h <;> rw [h]
      · exact gp1.mono (by omega) fun _ z => z
      · exact gp2.mono (by omega) fun _ z => z
      · exact gp3.mono (by omega) fun _ z => z
end
end Sc
namespace Sc
open PySem PyProof.Rows L2
section
variable {P : Program} {w : World} {K : PySem.W.Frag} {mg : Str → Option Value} {base : Heap}
abbrev gBy : Addr → V → Addr → Addr → Nat → List V := fun s v na ba d => [.ref s, v, .ref na, .ref ba, .int d]
def nNew : List Str := ["_law_s", "_law_due", "_law_names", "_law_bounds_here", "_law_deep", "_law_k", "_law_name", "_law_kind_here", "_law_held", "_law_under", "_law_one", "_law_row", "_law_begun_here", "_law_so_far", "_law_inner"]
theorem scNew : FnScope nNew psPart (defScope sNew) := ⟨rfl, rfl, rfl, by decide +kernel, rfl, by decide +kernel, by decide +kernel⟩
theorem c_new {m lv : Nat} (T : Tx K mg) (lv7 : 7 ≤ lv) (CP : Cal P w K mg base lv "_law_part" psPart (spPart K m)) : Cal P w K mg base (lv + 1) "_law_new" psPart (spBy K m gBy) := by
  have CT : Cal P w K mg base 1 "_law_taken" ["_law_s", "_law_most"] (spTaken K) := c_taken T
  have CK : Cal P w K mg base 7 "_law_kind" ["_law_s", "_law_deep", "_law_letters"] (spKind K 2) := c_kinds T 2
  have CW : Cal P w K mg base 1 "_law_word" ["_law_s", "_law_k"] (spWord K) := c_word T
  have CI : Cal P w K mg base 1 "_law_with" ["_law_names", "_law_name", "_law_kind_here"] (spWith K) := c_with T
  refine T.new.ok scNew (fun vs H Q E h => ?_) (fun f cdv A outer s0 H vs Q E hr h => ?_)
  · obtain ⟨s, i, fns, ba, bs, na, nms, v, k, d, n, rfl, _⟩ := h
    rfl
  obtain ⟨s, i, fns, ba, bs, na, nms, v, k, d, n, rfl, W0, N, n10, hk, wk, nd3, n1, dm, qn, q⟩ := h
  have r1 : Room 1 _ := hr.mono (show 1 ≤ lv by omega)
  have r7 : Room 7 _ := hr.mono lv7
  refine ⟨_, pss_cons (ps_set (i := 5) scNew.nd rfl (Or.inl rfl) (pe_cal CT r1 (pa_cons (pv 0) (pa_cons pe_int pa_nil)))) <|
    pss_cons (ps_set (i := 6) scNew.nd rfl (Or.inl rfl) (pe_cal CW r1 (pa_cons (pv 0) (pa_cons (pv 5) pa_nil)))) <|
    pss_cons (ps_set (i := 7) scNew.nd rfl (Or.inl rfl) (pe_cal CK r7 (pa_cons (pv 0) (pa_cons pe_int (pa_cons (pe_lst pa_nil) pa_nil))))) <|
    pss_cons (ps_if (pt_cmpR op_eq (pe_cal CT r1 (pa_cons (pv 0) (pa_cons pe_int pa_nil))) pe_int (nomark _))
      (pss_cons (ps_set (i := 8) scNew.nd rfl (Or.inl rfl) (pe_cal CP hr (pa_cons (pv 0) (pa_cons (pe_tup (pa_cons (pe_tup (pa_cons pe_str (pa_cons (pv 1) pa_nil))) pa_nil)) (pa_cons (pv 2) (pa_cons (pv 3) (pa_cons (pv 4) pa_nil)))))))
      (pss_cons (ps_set (i := 9) scNew.nd rfl (Or.inl rfl) (pe_cal CP hr (pa_cons (pv 0) (pa_cons (pe_tup (pa_cons (pe_tup (pa_cons pe_str pa_nil)) pa_nil)) (pa_cons (pv 2) (pa_cons (pv 3) (pa_cons pe_int pa_nil)))))))
      (pss_one (ps_ret (pe_tup (pa_cons pe_str (pa_cons (pv 8) (pa_cons (pv 9) (pa_cons (pe_cal CP hr (pa_cons (pv 0) (pa_cons (pv 1) (pa_cons (pv 2) (pa_cons (pv 3) (pa_cons (pv 4) pa_nil)))))) pa_nil))))))))) pss_nil) <|
    pss_cons (ps_if (pt_cmpR op_eq (pe_cal CT r1 (pa_cons (pv 0) (pa_cons pe_int pa_nil))) pe_int (nomark _))
      (pss_cons (ps_set (i := 10) scNew.nd rfl (Or.inl rfl) (pe_cal CP hr (pa_cons (pv 0) (pa_cons (pv 7) (pa_cons (pv 2) (pa_cons (pv 3) (pa_cons (pv 4) pa_nil)))))))
      (pss_one (ps_ret (pe_tup (pa_cons pe_str (pa_cons (pv 6) (pa_cons (pv 10) (pa_cons (pe_cal CP hr (pa_cons (pv 0) (pa_cons (pv 1) (pa_cons (pe_cal CI r1 (pa_cons (pv 2) (pa_cons (pv 6) (pa_cons (pv 7) pa_nil)))) (pa_cons (pv 3) (pa_cons (pv 4) pa_nil)))))) pa_nil)))))))) pss_nil) <|
    pss_cons (ps_set (i := 11) scNew.nd rfl (Or.inl rfl) (pe_cal CP hr (pa_cons (pv 0) (pa_cons (pe_tup (pa_cons (pe_tup (pa_cons pe_str (pa_cons (pv 7) pa_nil))) pa_nil)) (pa_cons (pv 2) (pa_cons (pv 3) (pa_cons (pv 4) pa_nil))))))) <|
    pss_cons (ps_set (i := 12) scNew.nd rfl (Or.inl rfl) (pe_cal CP hr (pa_cons (pv 0) (pa_cons (pv 1) (pa_cons (pv 2) (pa_cons (pv 3) (pa_cons pe_int pa_nil))))))) <|
    pss_cons (ps_set (i := 13) scNew.nd rfl (Or.inl rfl) (pe_cal CW r1 (pa_cons (pv 0) (pa_cons (pe_op op_mod (pe_op op_add (pv 5) pe_int) pe_int) pa_nil)))) <|
    pss_cons (ps_set (i := 14) scNew.nd rfl (Or.inl rfl) (pe_cal CI r1 (pa_cons (pe_cal CI r1 (pa_cons (pv 2) (pa_cons (pv 6) (pa_cons (pv 7) pa_nil)))) (pa_cons (pv 13) (pa_cons (pv 1) pa_nil))))) <|
    pss_one (ps_ret (pe_tup (pa_cons pe_str (pa_cons (pv 6) (pa_cons (pv 11) (pa_cons (pv 13) (pa_cons (pv 1) (pa_cons (pv 12) (pa_cons (pe_cal CP hr (pa_cons (pv 0) (pa_cons (pv 1) (pa_cons (pv 14) (pa_cons (pv 3) (pa_cons (pv 4) pa_nil)))))) pa_nil))))))))), ?_⟩
  refine ⟨_, rfl, s, i, 9, rfl, W0.S, by decide, by decide, fun j H1 j0 j9 x1 S1 => ?_⟩
  dsimp only [tNext, gName]
  refine ⟨_, rfl, _, rfl, s, i, j, rfl, S1, j0, fun H2 e2 => ?_⟩
  obtain ⟨_, _, _, _, _, iok, _⟩ := id S1
  have S2 := S1.same e2
  dsimp only [tNext, gName]
  refine ⟨_, rfl, (by show 0 ≤ sizeLine; decide), fun L hL => ⟨s, L, i, 1, [], rfl, S2.same (same_new hL _), by decide, SqL.of upd_same, Nat.zero_le _, fun kv H3 k4 x3 S3 dk4 k0 k3 okk => ?_⟩⟩
  have x03 : Ext s H H3 := x1.trans ((Ext.same (Same.trans e2 (same_new hL _))).trans x3)
  have wk4 : Wk [] 1 k4 := Wk.of_ok k0 k3 okk
  have wk4' : Wk (bs.map (·.1)) 1 k4 := wk4.sub fun l h => by cases h
  dsimp only [tNext, gName]
  refine ⟨_, rfl, s, i, 3, rfl, S3, by decide, by decide, fun r H4 _ _ x4 S4 => ⟨rfl, _, rfl, ?_⟩⟩
  have x04 := x03.trans x4
  have W4 := W0.ext x04 S4
  have N4 := N.ext W0.S x04
  have q4 := q.ext x04
  have hk4 := (W0.S.keep x04).dt hk
  have dk44 := (S3.keep x4).dt dk4
  clear q N hk x03 x04 dk4 x3 S3 hL x4
  refine ite2 (fun _ => ?_) (fun _ => ?_)
  · -- look
    refine ⟨_, rfl, _, rfl, (by show 2 ≤ sizeLine; decide), fun t1 ht1 => ⟨(by show 1 ≤ sizeLine; decide), fun t2 ht2 => ?_⟩⟩
    have e5 := same_new ht1 (.tup [.str "book", v])
    have e6 := same_new ht2 (.tup [.ref t1])
    have e56 := Same.trans e5 e6
    have dr : IsK K (upd (upd H4 t1 (.tup [.str "book", v])) t2 (.tup [.ref t1])) (.ref t2) [.book k] := IsK.one (IsC.bookOf ((Same.keep e56).dt hk4) (SqT.of (e6 _ _ upd_same))) (SqT.of upd_same)
    refine ⟨_, rfl, _, rfl, _, rfl, s, i, fns, ba, bs, na, nms, .ref t2, [.book k], d, n + 1, rfl, W4.same e56, N4.same e56, by omega, dr, wk.bookOf, by omega, fun _ => by omega, by omega, fun v1 H5 p1 x5 S5 dp1 gp1 => ?_⟩
    have x45 : Ext s H4 H5 := (Ext.same e56).trans x5
    have W5 := W4.ext x45 S5
    have N5 := N4.ext W4.S x45
    dsimp only [tNext, gName]
    refine ⟨_, rfl, (by show 1 ≤ sizeLine; decide), fun t3 ht3 => ⟨(by show 1 ≤ sizeLine; decide), fun t4 ht4 => ?_⟩⟩
    have e7 := same_new ht3 (.tup [.str "text"])
    have e8 := same_new ht4 (.tup [.ref t3])
    have e78 := Same.trans e7 e8
    have kt : IsK K (upd (upd H5 t3 (.tup [.str "text"])) t4 (.tup [.ref t3])) (.ref t4) [.txt] := IsK.text (by rw [pyC]) (SqT.of (e8 _ _ upd_same)) (SqT.of upd_same)
    refine ⟨_, rfl, _, rfl, s, i, fns, ba, bs, na, nms, .ref t4, [.txt], 0, 0, rfl, W5.same e78, N5.same e78, by omega, kt, .one (.txt _), by omega, fun h => absurd h (Nat.lt_irrefl _), by omega, fun v2 H6 p2 x6 S6 dp2 gp2 => ?_⟩
    have x56 : Ext s H5 H6 := (Ext.same e78).trans x6
    have W6 := W5.ext x56 S6
    have N6 := N5.ext W5.S x56
    dsimp only [tNext, gName]
    refine ⟨_, rfl, _, rfl, _, rfl, _, rfl, _, rfl, _, rfl, _, rfl, s, i, fns, ba, bs, na, nms, v, k, d, n, rfl, W6, N6, by omega, (W4.S.keep (x45.trans x56)).dt hk4, wk, by omega, fun _ => n1, by omega, fun v3 H7 p3 x7 S7 dp3 gp3 => ⟨(by show 4 ≤ sizeLine; decide), fun t ht => ?_⟩⟩
    have e9 := same_new ht (.tup [.str "look", v1, v2, v3])
    refine q4 _ _ (.op "look" [p1, p2, p3]) (x45.trans (x56.trans (x7.trans (Ext.same e9)))) (S7.same e9) ?_ (.op (by show (("look" : Str), 3) ∈ opTab; decide +kernel) fun p' m => ?_)
    · rw [pyP, pyPs, pyPs, pyPs, pyPs]
      exact ((((Dts.nil.cons ((Same.keep e9).dt dp3)).cons ((Same.keep e9).dt ((S6.keep x7).dt dp2))).cons ((Same.keep e9).dt ((W5.S.keep (x56.trans x7)).dt dp1))).cons (.str "look")).tup (SqT.of upd_same)
    · simp only [List.mem_cons, List.not_mem_nil, or_false] at m
      rcases m with h | h | h <;> rw [h]
      · exact gp1.mono (by omega) fun _ z => z
      · exact gp2.mono (by omega) fun _ z => z
      · exact gp3.mono (by omega) fun _ z => z
  dsimp only [tNext, gName]
  refine ⟨_, rfl, s, i, 2, rfl, W4.S, by decide, by decide, fun r H5 _ _ x5 S5 => ⟨rfl, _, rfl, ?_⟩⟩
  have W5 := W4.ext x5 S5
  have N5 := N4.ext W4.S x5
  have q5 := q4.ext x5
  have hk5 := (W4.S.keep x5).dt hk4
  have dk5 := (W4.S.keep x5).dt dk44
  clear W4 N4 q4 hk4 dk44 x5 S5
  refine ite2 (fun _ => ?_) (fun _ => ?_)
  · -- let
    refine ⟨_, rfl, _, rfl, _, rfl, _, rfl, _, rfl, s, i, fns, ba, bs, na, nms, kv, k4, d, 1, rfl, W5, N5, by omega, dk5, wk4', by omega, fun _ => Nat.le_refl _, by omega, fun v1 H6 p1 x6 S6 dp1 gp1 => ?_⟩
    have W6 := W5.ext x6 S6
    have N6 := N5.ext W5.S x6
    dsimp only [tNext, gName]
    refine ⟨_, rfl, _, rfl, _, rfl, _, rfl, _, rfl, _, rfl, _, rfl, na, nms, wordOf i j, kv, k4, rfl, N6.hN, (W5.S.keep x6).dt dk5, by omega, fun b H7 nms' e7 hb hB7 pt => ?_⟩
    have nbs : b ≠ s := W6.S.ne hb
    have N7 := (N6.same e7).put iok j0 (by omega) nbs hB7 pt (wk4'.nm N6.lets (by decide))
    have l7 := pt.len
    refine ⟨_, rfl, _, rfl, s, i, fns, ba, bs, b, nms', v, k, d, n, rfl, W6.same e7, N7, by omega, (W5.S.keep (x6.trans (Ext.same e7))).dt hk5, wk, by omega, fun _ => n1, by omega, fun v2 H8 p2 x8 S8 dp2 gp2 => ⟨(by show 4 ≤ sizeLine; decide), fun t ht => ?_⟩⟩
    have e9 := same_new ht (.tup [.str "let", .str (wordOf i j), v1, v2])
    have x68 : Ext s H6 H8 := (Ext.same e7).trans x8
    refine q5 _ _ (.bind "let" (wordOf i j) p1 p2) (x6.trans (x68.trans (Ext.same e9))) (S8.same e9) ?_ (.bind (.inl rfl) (word_of iok j0) (gp1.mono (by omega) fun _ z => z) (gp2.mono (by omega) fun z h => pt.keys h))
    rw [pyP]
    exact ((((Dts.nil.cons ((Same.keep e9).dt dp2)).cons ((Same.keep e9).dt ((W6.S.keep x68).dt dp1))).cons (.str _)).cons (.str "let")).tup (SqT.of upd_same)
  -- fold
  dsimp only [tNext, gName]
  refine ⟨_, rfl, _, rfl, (by show 2 ≤ sizeLine; decide), fun t1 ht1 => ⟨(by show 1 ≤ sizeLine; decide), fun t2 ht2 => ?_⟩⟩
  have e6 := same_new ht1 (.tup [.str "row", kv])
  have e7 := same_new ht2 (.tup [.ref t1])
  have e67 := Same.trans e6 e7
  have dr : IsK K (upd (upd H5 t1 (.tup [.str "row", kv])) t2 (.tup [.ref t1])) (.ref t2) [.row k4] := IsK.one (IsC.rowOf ((Same.keep e67).dt dk5) (SqT.of (e7 _ _ upd_same))) (SqT.of upd_same)
  refine ⟨_, rfl, _, rfl, _, rfl, s, i, fns, ba, bs, na, nms, .ref t2, [.row k4], d, 2, rfl, W5.same e67, N5.same e67, by omega, dr, wk4'.rowOf, by omega, fun _ => by omega, by omega, fun v1 H6 p1 x6 S6 dp1 gp1 => ?_⟩
  have x56 : Ext s H5 H6 := (Ext.same e67).trans x6
  have W6 := W5.ext x56 S6
  have N6 := N5.ext W5.S x56
  have hk6 := (W5.S.keep x56).dt hk5
  have dk6 := (W5.S.keep x56).dt dk5
  dsimp only [tNext, gName]
  refine ⟨_, rfl, _, rfl, _, rfl, _, rfl, s, i, fns, ba, bs, na, nms, v, k, 0, n, rfl, W6, N6, by omega, hk6, wk, by omega, fun h => absurd h (Nat.lt_irrefl _), by omega, fun v2 H7 p2 x7 S7 dp2 gp2 => ?_⟩
  have W7 := W6.ext x7 S7
  have N7 := N6.ext W6.S x7
  have hk7 := (W6.S.keep x7).dt hk6
  have dk7 := (W6.S.keep x7).dt dk6
  have m0 : 0 ≤ (j + 1) % 9 := Int.emod_nonneg _ (by decide)
  have m9 : (j + 1) % 9 < 9 := Int.emod_lt_of_pos _ (by decide)
  dsimp only [tNext, gName]
  refine ⟨_, rfl, _, rfl, _, _, rfl, rfl, _, _, rfl, rfl, (by show (0 : Int) < 9; decide), s, i, (j + 1) % 9, rfl, W7.S, m0, fun H8 e8 => ?_⟩
  have ne : wordOf i j ≠ wordOf i ((j + 1) % 9) := fun z => by
    have := word_inj iok j0 (by omega) m0 (by omega) z
    omega
  have W8 := W7.same e8
  have N8 := N7.same e8
  have hk8 := (Same.keep (K := K) e8).dt hk7
  have dk8 := (Same.keep (K := K) e8).dt dk7
  dsimp only [tNext, gName]
  refine ⟨_, rfl, _, rfl, _, rfl, na, nms, wordOf i j, kv, k4, rfl, N8.hN, dk8, by omega, fun b H9 nms' e9 hb hB9 pt => ?_⟩
  have nbs : b ≠ s := W8.S.ne hb
  have N9 := (N8.same e9).put iok j0 (by omega) nbs hB9 pt (wk4'.nm N8.lets (by decide))
  have l9 := pt.len
  refine ⟨_, rfl, _, rfl, b, nms', wordOf i ((j + 1) % 9), v, k, rfl, N9.hN, (Same.keep e9).dt hk8, by omega, fun b2 H10 nms2 e10 hb2 hB10 pt2 => ?_⟩
  have W9 := W8.same e9
  have nbs2 : b2 ≠ s := W9.S.ne hb2
  have N10 := (N9.same e10).put iok m0 (by omega) nbs2 hB10 pt2 (wk.nm N9.lets (by omega))
  have l10 := pt2.len
  have W10 := W9.same e10
  have e810 := Same.trans e8 (Same.trans e9 e10)
  have hk10 := (Same.keep (K := K) e810).dt hk7
  dsimp only [tNext, gName]
  refine ⟨_, rfl, _, rfl, _, rfl, _, rfl, _, rfl, _, rfl, _, rfl, _, rfl, _, rfl, _, rfl, s, i, fns, ba, bs, b2, nms2, v, k, d, n, rfl, W10, N10, by omega, hk10, wk, by omega, fun _ => n1, by omega, fun v3 H11 p3 x11 S11 dp3 gp3 => ⟨(by show 7 ≤ sizeLine; decide), fun t ht => ?_⟩⟩
  have e12 := same_new ht (.tup [.str "fold", .str (wordOf i j), v1, .str (wordOf i ((j + 1) % 9)), v, v2, v3])
  have x711 : Ext s H7 H11 := (Ext.same e810).trans x11
  refine q5 _ _ (.fold (wordOf i j) p1 (wordOf i ((j + 1) % 9)) k p2 p3) (x56.trans (x7.trans (x711.trans (Ext.same e12)))) (S11.same e12) ?_ (.fold (word_of iok j0) (word_of iok m0) ne (wk.mono (by omega)) (gp1.mono (by omega) fun _ z => z) (gp2.mono (by omega) fun _ z => z) (gp3.mono (by omega) fun z h => ?_))
  · rw [pyP]
    exact (((((((Dts.nil.cons ((Same.keep e12).dt dp3)).cons ((Same.keep e12).dt ((W7.S.keep x711).dt dp2))).cons ((Same.keep e12).dt ((W7.S.keep x711).dt hk7))).cons (.str _)).cons ((Same.keep e12).dt ((W6.S.keep (x7.trans x711)).dt dp1))).cons (.str _)).cons (.str "fold")).tup (SqT.of upd_same)
  · rcases pt2.keys h with h | h
    · exact .inr (.inl h)
    · rcases pt.keys h with h | h
      · exact .inl h
      · exact .inr (.inr h)
end
end Sc
namespace Sc
open PySem PySem.Spec PyProof.Rows L2
theorem pairs_dts {K : PySem.W.Frag} {H : Hp} : ∀ {ps : List Addr} {fs : List (Str × List Ch)}, Dts K H (ps.map V.ref) (pyF fs) →
    ∃ us : List V, us.length = fs.length ∧ Paired (fun p (kv : Key × V) => SqT K H p [kV kv.1, kv.2]) ps (zipK fs us) ∧ ∀ (j : Nat) (u : V) (q : Str × List Ch), us[j]? = some u → fs[j]? = some q → IsK K H u q.2
  | [], [], _ => ⟨[], rfl, .nil, fun j u q h => by simp at h⟩
  | [], (_, _) :: _, h => absurd h.1 (by rw [pyF]; simp)
  | _ :: _, [], h => absurd h.1 (by rw [pyF]; simp)
  | p :: ps, (l, k) :: fs, h => by
    have h' : Dts K H (V.ref p :: ps.map V.ref) (.tuple [.str l, .tuple (pyL k)] :: pyF fs) := by rw [pyF] at h; exact h
    obtain ⟨us, hl, pr, hk⟩ := pairs_dts h'.tail
    obtain ⟨a, u, e, ht, hu⟩ := h'.head.two
    cases e
    refine ⟨u :: us, congrArg (· + 1) hl, .cons ht pr, fun j v q h1 h2 => ?_⟩
    cases j with
    | zero => cases h1; cases h2; exact hu
    | succ j => exact hk j v q h1 h2
theorem putK_fresh {kvs : List (Key × V)} {k : Key} {v : V} (h : k ∉ kvs.map (·.1)) : putK kvs k v = kvs ++ [(k, v)] := by
  unfold putK
  rw [if_neg]
  intro z
  obtain ⟨q, hq, e⟩ := List.any_eq_true.mp z
  exact h (List.mem_map.mpr ⟨q, hq, of_decide_eq_true e⟩)
theorem mergeK_nd : ∀ (more kvs : List (Key × V)), ((kvs ++ more).map (·.1)).Nodup → mergeK kvs more = kvs ++ more
  | [], kvs, _ => by show kvs = _; rw [List.append_nil]
  | (k, v) :: more, kvs, nd => by
    have e : putK kvs k v = kvs ++ [(k, v)] := putK_fresh fun m => by
      rw [List.map_append, List.nodup_append] at nd
      exact nd.2.2 k m k (by rw [List.map_cons]; exact List.mem_cons_self) rfl
    show mergeK (putK kvs k v) more = _
    rw [e, mergeK_nd more _ (by rw [List.append_assoc]; exact nd), List.append_assoc]
    rfl
theorem putK_twice (kvs : List (Key × V)) (k : Key) (a b : V) : putK (putK kvs k a) k b = putK kvs k b := by
  by_cases h : k ∈ kvs.map (·.1)
  · have any : kvs.any (fun p => decide (p.1 = k)) = true := by
      obtain ⟨q, hq, e⟩ := List.mem_map.mp h
      exact List.any_eq_true.mpr ⟨q, hq, decide_eq_true e⟩
    have e1 : ∀ v, putK kvs k v = kvs.map fun p => if p.1 = k then (p.1, v) else p := fun v => by unfold putK; rw [if_pos any]
    have any2 : (putK kvs k a).any (fun p => decide (p.1 = k)) = true := by
      rw [e1, List.any_map]
      obtain ⟨q, hq, e⟩ := List.mem_map.mp h
      refine List.any_eq_true.mpr ⟨q, hq, ?_⟩
      show decide ((if q.1 = k then (q.1, a) else q).1 = k) = true
      rw [if_pos e]
      exact decide_eq_true e
    have e2 : putK (putK kvs k a) k b = (putK kvs k a).map fun p => if p.1 = k then (p.1, b) else p := by rw [show putK (putK kvs k a) k b = _ from by unfold putK; rw [if_pos (by unfold putK at any2; exact any2)]]; unfold putK; rfl
    rw [e2, e1, e1, List.map_map]
    refine List.map_congr_left fun p _ => ?_
    show (if (if p.1 = k then (p.1, a) else p).1 = k then ((if p.1 = k then (p.1, a) else p).1, b) else (if p.1 = k then (p.1, a) else p)) = if p.1 = k then (p.1, b) else p
    by_cases e : p.1 = k
    · simp only [if_pos e]
    · simp only [if_neg e]
  · rw [putK_fresh h, putK_fresh h]
    unfold putK
    rw [if_pos (List.any_eq_true.mpr ⟨(k, a), List.mem_append.mpr (.inr List.mem_cons_self), decide_eq_true rfl⟩), List.map_append]
    have e : kvs.map (fun p => if p.1 = k then (p.1, b) else p) = kvs := by
      refine (List.map_congr_left fun p hp => ?_).trans (List.map_id _)
      exact if_neg fun z => h (List.mem_map.mpr ⟨p, hp, z⟩)
    rw [e]
    show _ ++ [if k = k then (k, b) else (k, a)] = _
    rw [if_pos rfl]
theorem OkPr.mem {fns : List Fn} (h : OkPr fns) : ∀ {f : Fn}, f ∈ fns → (∃ pre, OkFn pre f) ∧ (fns.map Fn.sig).lookup f.name = some (f.lets.length, f.pars.length) := by
  have look_app : ∀ {l l2 : List (Str × Nat × Nat)} {z : Str}, (∀ q ∈ l, q.1 ≠ z) → (l ++ l2).lookup z = l2.lookup z := fun {l l2 z} hn => by
    induction l with
    | nil => rfl
    | cons q l ih =>
      rw [List.cons_append, List.lookup_cons]
      have : (z == q.1) = false := beq_eq_false_iff_ne.mpr fun e => hn q List.mem_cons_self e.symm
      rw [this]
      exact ih fun x m => hn x (List.mem_cons_of_mem _ m)
  have look_left : ∀ {l l2 : List (Str × Nat × Nat)} {z : Str} {v : Nat × Nat}, l.lookup z = some v → (l ++ l2).lookup z = some v := fun {l l2 z v} hl => by
    induction l with
    | nil => cases hl
    | cons q l ih =>
      rw [List.cons_append, List.lookup_cons]
      rw [List.lookup_cons] at hl
      split
      · rename_i e; rw [e] at hl; exact hl
      · rename_i e; rw [e] at hl; exact ih hl
  induction h with
  | nil => intro f m; cases m
  | @snoc fns g _ og ih =>
    intro f m
    rcases List.mem_append.mp m with m | m
    · obtain ⟨a, b⟩ := ih m
      refine ⟨a, ?_⟩
      rw [List.map_append]
      exact look_left b
    · rw [List.mem_singleton.mp m]
      refine ⟨⟨fns, og⟩, ?_⟩
      rw [List.map_append, look_app fun q hq e => og.new (by
        obtain ⟨x, hx, rfl⟩ := List.mem_map.mp hq
        rw [← e]
        exact List.mem_map_of_mem hx)]
      show ([(g.name, g.lets.length, g.pars.length)] : List (Str × Nat × Nat)).lookup g.name = _
      rw [List.lookup_cons, beq_self_eq_true]
/-- kinds that stand for a function's letters -/
structure Gv (K : PySem.W.Frag) (H : Hp) (s : Addr) (ls lets : List Str) (g : Addr) (gs : List (Str × List Ch)) : Prop where
  ns : g ≠ s
  hB : IsB K H g gs
  ok : GvO ls gs
  sup : ∀ l ∈ lets, l ∈ gs.map (·.1)
theorem Gv.ext {K : PySem.W.Frag} {H H' : Hp} {s g : Addr} {i : Inf} {ls lets : List Str} {gs : List (Str × List Ch)} (h : Gv K H s ls lets g gs) (S : IsS K H s i) (x : Ext s H H') : Gv K H' s ls lets g gs := ⟨h.ns, h.hB.ext S x h.ns, h.ok, h.sup⟩
theorem Gv.put {K : PySem.W.Frag} {H : Hp} {s g : Addr} {ls lets : List Str} {gs : List (Str × List Ch)} {us : List V} (h : Gv K H s ls lets g gs) {l : Str} {k : List Ch} {v : V} (hv : IsK K H v k) (wk : Wk ls 1 k) (k3 : k.length ≤ 3)
    (hg : H g = some (.dK (zipK gs us))) (hl : us.length = gs.length) (hk : ∀ (j : Nat) (u : V) (q : Str × List Ch), us[j]? = some u → gs[j]? = some q → IsK K H u q.2) :
    ∃ gs', Gv K (upd H g (.dK (putK (zipK gs us) (.inr l) v))) s ls lets g gs' ∧ gs'.length ≤ gs.length + 1 ∧ (l, k) ∈ gs' := by
  have k5 : Keep K H (upd H g (.dK (putK (zipK gs us) (.inr l) v))) := Keep.upd hg trivial _
  obtain ⟨gs', us', e, hl', nd', pt, hk'⟩ := zipK_put (H := upd H g (.dK (putK (zipK gs us) (.inr l) v))) hl h.hB.nd (k5.dt hv) fun j u q a b => k5.dt (hk j u q a b)
  refine ⟨gs', ⟨h.ns, ⟨us', by rw [upd_same, e], hl', nd', hk'⟩, fun q hq => ?_, fun x m => ?_⟩, pt.len, pt.has⟩
  · rcases pt.sub q hq with e | e
    · rw [e]; exact ⟨wk, k3⟩
    · exact h.ok q e
  · obtain ⟨q, hq, rfl⟩ := List.mem_map.mp (h.sup x m)
    by_cases e : q.1 = l
    · rw [e]; exact List.mem_map.mpr ⟨(l, k), pt.has, rfl⟩
    · exact List.mem_map_of_mem (pt.old q hq e)
section
variable {P : Program} {w : World} {K : PySem.W.Frag} {mg : Str → Option Value} {base : Heap}
def nCal : List Str := ["_law_s", "_law_due", "_law_names", "_law_bounds_here", "_law_deep", "_law_function_here", "_law_given", "_law_pair", "_law_handed_here", "_law_letter", "_law_bound", "_law_parts", "_law_one"]
theorem scCal : FnScope nCal psPart (defScope sCall) := ⟨rfl, rfl, rfl, by decide +kernel, rfl, by decide +kernel, by decide +kernel⟩
theorem c_call {m lv : Nat} (T : Tx K mg) (lv2 : 2 ≤ lv) (CP : Cal P w K mg base lv "_law_part" psPart (spPart K m)) : Cal P w K mg base (lv + 1) "_law_call" psPart (spBy K m gBy) := by
  have CT : Cal P w K mg base 1 "_law_taken" ["_law_s", "_law_most"] (spTaken K) := c_taken T
  have CH : Cal P w K mg base 2 "_law_handed" ["_law_s", "_law_bound", "_law_due", "_law_bounds_here"] (spHanded K) := c_handed T
  have CF : Cal P w K mg base 2 "_law_fill" ["_law_kind_here", "_law_given"] (spFill K 2) := c_fills T 2
  have CI : Cal P w K mg base 1 "_law_within" ["_law_kind_here", "_law_due"] (spInside K) := c_within T
  refine T.call.ok scCal (fun vs H Q E h => ?_) (fun f cdv A outer s0 H vs Q E hr h => ?_)
  · obtain ⟨s, i, fns, ba, bs, na, nms, v, k, d, n, rfl, _⟩ := h
    rfl
  obtain ⟨s, i, fns, ba, bs, na, nms, v, k, d, n, rfl, W0, N, n10, hk, wk, nd3, n1, dm, qn, q⟩ := h
  have r1 : Room 1 _ := hr.mono (show 1 ≤ lv by omega)
  have r2 : Room 2 _ := hr.mono lv2
  have hu := hu_of hr
  have hu65 : (A.deeper (envOfC "_law_call" (defScope sCall) s0.heap.objs.size f cdv)).units + 65 < cLine := by have := hr.un; omega
  refine ⟨_, pss_cons (ps_if (pt_cmpR op_eq (pe_callB call_len_seq (by rfl) T.m_len PySem.boot_len (pa_cons (pe_dget hu (pv 0) pe_str (fun _ _ => rfl)) pa_nil)) pe_int (nomark _)) (pss_one (ps_ret pe_non)) pss_nil) <|
    pss_cons (ps_set (i := 5) scCal.nd rfl (Or.inl rfl) (pe_ix ix_list (pe_dget hu (pv 0) pe_str (fun _ _ => rfl)) (pe_cal CT r1 (pa_cons (pv 0) (pa_cons (pe_callB call_len_seq (by rfl) T.m_len PySem.boot_len (pa_cons (pe_dget hu (pv 0) pe_str (fun _ _ => rfl)) pa_nil)) pa_nil))) (fun _ _ => rfl))) <|
    pss_cons (ps_set (i := 6) scCal.nd rfl (Or.inr rfl) (pe_callTy (call_dictF rfl) (by rfl) T.m_dict (by decide +kernel) (pa_cons (pe_ix ix_tup (pv 5) pe_int (fun _ _ => rfl)) pa_nil))) <|
    pss_cons (ps_for PassesOwn.never rfl (pi_tup (pe_ix ix_tup (pv 5) pe_int (fun _ _ => rfl))) (pg_name (i := 7) scCal.nd rfl (Or.inl rfl))
      (pss_cons (ps_set (i := 8) scCal.nd rfl (Or.inl rfl) (pe_cal CH r2 (pa_cons (pv 0) (pa_cons (pe_ix ix_tup (pv 7) pe_int (fun _ _ => rfl)) (pa_cons pe_non (pa_cons (pv 3) pa_nil))))))
      (pss_one (ps_if (pt_cmpR op_notN (pv 8) pe_non (nomark _)) (pss_one (ps_dput hu (pv 6) (pe_ix ix_tup (pv 7) pe_int (fun _ _ => rfl)) (pv 8) rfl)) pss_nil)))) <|
    pss_cons (ps_if (PW.pt (pw_and (pt_cmpR op_eq (pe_callB call_len_seq (by rfl) T.m_len PySem.boot_len (pa_cons (pe_ix ix_tup (pv 5) pe_int (fun _ _ => rfl)) pa_nil)) pe_int (nomark _)) (pw_and1 (pt_cmpR op_eq (pe_ix ix_tup (pe_ix ix_tup (pe_ix ix_tup (pv 5) pe_int (fun _ _ => rfl)) pe_int (fun _ _ => rfl)) pe_int (fun _ _ => rfl)) pe_str (nomark _)))))
      (pss_cons (ps_set (i := 9) scCal.nd rfl (Or.inl rfl) (pe_ix ix_tup (pe_ix ix_tup (pe_ix ix_tup (pv 5) pe_int (fun _ _ => rfl)) pe_int (fun _ _ => rfl)) pe_int (fun _ _ => rfl)))
      (pss_cons (ps_set (i := 10) scCal.nd rfl (Or.inl rfl) (pe_dget hu (pe_callTy (call_dictF rfl) (by rfl) T.m_dict (by decide +kernel) (pa_cons (pe_ix ix_tup (pv 5) pe_int (fun _ _ => rfl)) pa_nil)) (pv 9) (fun _ _ => rfl)))
      (pss_cons (ps_set (i := 8) scCal.nd rfl (Or.inl rfl) (pe_cal CH r2 (pa_cons (pv 0) (pa_cons (pv 10) (pa_cons (pv 1) (pa_cons (pv 3) pa_nil))))))
      (pss_cons (ps_dput hu (pv 6) (pv 9) (pv 8) rfl)
      (pss_cons (ps_if (pt_cmpR op_isN (pv 8) pe_non (nomark _)) (pss_one (ps_dput hu (pv 6) (pv 9) (pe_callTy call_tuple_of (by rfl) T.m_tuple (by decide +kernel) (pa_cons
          (pe_lc (own := [("_law_one", 12)]) (g := gName 12) rfl scCal.nd (pi_tup (pv 10)) (blkOk_by (N := nCal) (sc := defScope sCall) (by decide +kernel))
            (fun _ _ _ _ _ => pg_name (i := 12) scCal.nd rfl (Or.inl rfl)) (fun _ _ _ _ _ => pts_one (pt_cmpR (op_inTDK K hu65) (pv 12) (pv 1) (by rfl))) (fun _ _ _ _ _ => pv 12)) pa_nil)) rfl)) pss_nil)
      (pss_one (ps_if (pt_cmpR op_eq (pe_callB call_len_seq (by rfl) T.m_len PySem.boot_len (pa_cons (pe_dget hu (pv 6) (pv 9) (fun _ _ => rfl)) pa_nil)) pe_int (nomark _)) (pss_one (ps_ret pe_non)) pss_nil)))))))
      (pss_one (ps_if (pt_not (pt_val (pe_cal CI r1 (pa_cons (pe_cal CF r2 (pa_cons (pe_ix ix_tup (pv 5) pe_int (fun _ _ => rfl)) (pa_cons (pv 6) pa_nil))) (pa_cons (pv 1) pa_nil))))) (pss_one (ps_ret pe_non)) pss_nil))) <|
    pss_cons (ps_set (i := 11) scCal.nd rfl (Or.inl rfl) (pe_lst pa_nil)) <|
    pss_cons (ps_for PassesOwn.never rfl (pi_tup (pe_ix ix_tup (pv 5) pe_int (fun _ _ => rfl))) (pg_name (i := 7) scCal.nd rfl (Or.inl rfl))
      (pss_one (ps_expr (pe_bm PySem.F.plainAttrs_list PySem.F.slot_list_append PySem.F.type_list_append mt_append (pv 11) (pa_cons (pe_cal CP hr (pa_cons (pv 0) (pa_cons (pe_cal CF r2 (pa_cons (pe_ix ix_tup (pv 7) pe_int (fun _ _ => rfl)) (pa_cons (pv 6) pa_nil))) (pa_cons (pv 2) (pa_cons (pv 3) (pa_cons (pv 4) pa_nil)))))) pa_nil))))) <|
    pss_one (ps_ret (pe_tup (pa_cons pe_str (pa_cons (pe_ix ix_tup (pv 5) pe_int (fun _ _ => rfl)) (pa_cons (pe_callTy call_tuple_of (by rfl) T.m_tuple (by decide +kernel) (pa_cons
        (pe_lc (own := [("_law_pair", 7)]) (g := gName 7) (tt := tYes) rfl scCal.nd (pi_tup (pe_ix ix_tup (pv 5) pe_int (fun _ _ => rfl))) (blkOk_by (N := nCal) (sc := defScope sCall) (by decide +kernel))
            (fun _ _ _ _ _ => pg_name (i := 7) scCal.nd rfl (Or.inl rfl)) (fun _ _ _ _ _ => pts_nil) (fun _ _ _ _ _ => pe_dget hu (pv 6) (pe_ix (ix_tupK K) (pv 7) pe_int (fun _ _ => rfl)) (fun _ _ => rfl))) pa_nil))
      (pa_cons (pe_callTy call_tuple_of (by rfl) T.m_tuple (by decide +kernel) (pa_cons (pv 11) pa_nil)) pa_nil)))))), ?_⟩
  have ls : ∀ l ∈ bs.map (·.1), Lett l := N.lets
  obtain ⟨ns0, mv0, hS0, _⟩ := id W0.S
  obtain ⟨fus, hf0, hfl⟩ := W0.fn
  refine ⟨_, rfl, s, .ref i.f, rfl, gS hS0 rfl, i.f, fus, rfl, .inl (SqL.of hf0), rfl, _, rfl, ite2 (fun _ => qn H (Ext.refl s H) W0.S) (fun z0 => ?_)⟩
  have f0 : fus.length ≠ 0 := fun z => z0 (decide_eq_true (by rw [z]; rfl))
  dsimp only [tNext, gName]
  refine ⟨_, rfl, s, .ref i.f, rfl, gS hS0 rfl, _, rfl, _, rfl, s, .ref i.f, rfl, gS hS0 rfl, i.f, fus, rfl, .inl (SqL.of hf0), s, i, fus.length, rfl, W0.S, by omega, ?_, fun r H1 r0 r1' x1 S1 => ?_⟩
  · have := W0.f3
    have := hfl.1
    exact Nat.lt_of_le_of_lt (show ((fus.length : Nat) : Int).natAbs ≤ 3 by omega) (by decide)
  obtain ⟨fv, hfv, hfv2⟩ := atI_some r0 r1'
  have lf : r.toNat < fns.length := by rw [← hfl.1]; exact (List.getElem?_eq_some_iff.mp hfv2).1
  have W1 := W0.ext x1 S1
  have N1 := N.ext W0.S x1
  have q1 := q.ext x1
  have qn1 := qn.ext x1
  have hk1 := (W0.S.keep x1).dt hk
  obtain ⟨kvs0, hs0⟩ := W0.S.dk
  have fa1 : FnAt K H1 fv fns[r.toNat] := (hfl.2 r.toNat fv _ hfv2 (List.getElem?_eq_getElem lf)).keep (W0.S.keep x1) fun a xs q => q.ext hs0 x1
  obtain ⟨⟨pre, og⟩, lk⟩ := W0.pr.mem (List.getElem_mem lf)
  generalize fns[r.toNat] = fn at fa1 og lk
  refine ⟨i.f, fus, r, fv, rfl, rfl, SqL.of (x1 _ _ W0.nf hf0), hfv, ?_⟩
  obtain ⟨a, la, ps, pav, rv, bv, rfl, hat, hla, hld, hpar, hres, hbod⟩ := fa1.at_
  clear hk qn q N W0 x1 hs0 hfv hfv2 hf0 hfl hS0 z0 f0
  dsimp only [tNext, gName]
  -- what is given
  obtain ⟨lus, hll, hpr, hlk⟩ := pairs_dts hld
  refine ⟨_, rfl, a, _, _, _, rfl, rfl, hat, at_of (j := 1) rfl rfl, la, ps, zipK fn.lets lus, rfl, hla, hpr, fun g hg => ?_⟩
  rw [mergeK_nd _ _ (by rw [List.nil_append, zipK_fst hll]; exact List.pairwise_map.mpr ((List.pairwise_map.mp og.lnd).imp fun h z => h (Sum.inr.inj z))), List.nil_append]
  have ngs : g ≠ s := S1.ne hg
  have e2 := same_new hg (.dK (zipK fn.lets lus))
  have gv0 : Gv K (upd H1 g (.dK (zipK fn.lets lus))) s (bs.map (·.1)) (fn.lets.map (·.1)) g fn.lets := ⟨ngs, ⟨lus, upd_same, hll, og.lnd, fun j u q h1 h2 => (Same.keep e2).dt (hlk j u q h1 h2)⟩, fun q hq => by
    obtain ⟨_, k0, k3, okk⟩ := og.okb q hq
    exact ⟨(Wk.of_ok k0 k3 okk).sub (fun l h => by cases h), k3⟩, fun l m => m⟩
  have x2 : Ext s H1 (upd H1 g (.dK (zipK fn.lets lus))) := Ext.same e2
  have S2 := S1.same e2
  generalize (upd H1 g (.dK (zipK fn.lets lus))) = H2 at e2 gv0 x2 S2 ⊢
  have KX : ∀ {H' : Hp}, Ext s H1 H' → Keep K H1 H' := fun x => S1.keep x
  obtain ⟨kvs1, hs1⟩ := S1.dk
  have lla : SqT K H1 la (ps.map V.ref) := hla.t
  have lps : ps.length = fn.lets.length := by have := hld.1; rw [List.length_map, pyF_map, List.length_map] at this; exact this
  have l2 := og.l2
  dsimp only [tNext, gName]
  refine ⟨_, rfl, a, _, _, _, rfl, rfl, KX x2 _ _ hat, at_of (j := 1) rfl rfl, la, rfl, ⟨_, KX x2 _ _ lla⟩, ?_⟩
  refine for_tup (K := K) (a := la) (xs := ps.map V.ref) (fun j σ H3 => (∃ o7 o8, σ = [some (.ref s), some v, some (.ref na), some (.ref ba), some (.int d), some (.ref a), some (.ref g), o7, o8, none, none, none, none]) ∧ Ext s H1 H3 ∧ IsS K H3 s i ∧ ∃ gs, Gv K H3 s (bs.map (·.1)) (fn.lets.map (·.1)) g gs ∧ gs.length ≤ 2 + j)
    ⟨⟨_, _, rfl⟩, x2, S2, fn.lets, gv0, by omega⟩ (fun j σ H3 _ h => KX h.2.1 _ _ lla) ?_ ?_
  · rintro j x σ H3 hx ⟨⟨o7, o8, rfl⟩, x3, S3, gs, gv, lg⟩
    have jl := (List.getElem?_eq_some_iff.mp hx).1
    rw [List.length_map] at jl
    obtain ⟨dd, hd1, hd2⟩ := hld.at hx
    rw [pyF_map, List.getElem?_map] at hd1
    obtain ⟨pb, hpb, rfl⟩ := Option.map_eq_some_iff.mp hd1
    have mb := List.mem_of_getElem? hpb
    obtain ⟨pa, u, rfl, hpt, hpu⟩ := ((KX x3).dt hd2).two
    obtain ⟨_, k0, k3, okk⟩ := og.okb pb mb
    have wkb : Wk [] 1 pb.2 := Wk.of_ok k0 k3 okk
    have W3 := W1.ext x3 S3
    have N3 := N1.ext S1 x3
    dsimp only [tNext, gName]
    refine ⟨_, rfl, _, rfl, pa, _, _, _, rfl, rfl, hpt, at_of (j := 1) rfl rfl, _, rfl, s, i, u, .non, ba, pb.2, bs, rfl, S3, N3.hB, N3.nb, N3.okb, by have := N3.b2; omega, hpu, ((wkb.okN fun l h => by cases h)).mono (by decide), .inl rfl, fun H4 x4 S4 => ?_, fun v4 H4 l4 x4 S4 ml dk4 => ?_⟩
    · refine ⟨_, rfl, rfl, _, rfl, ?_⟩
      rw [decide_eq_true (rfl : V.non = V.non)]
      exact iteF ⟨⟨_, _, rfl⟩, x3.trans x4, S4, gs, gv.ext S3 x4, by omega⟩
    · refine ⟨_, rfl, rfl, _, rfl, ?_⟩
      have vn : decide (v4 = V.non) = false := decide_eq_false fun z => by
        obtain ⟨_, _, e, _⟩ := dk4.open
        rw [z] at e; cases e
      rw [vn]
      have gv4 := gv.ext S3 x4
      obtain ⟨us, hg4, hl4, nd4, hk4⟩ := id gv4.hB
      have hpt4 := (S3.keep x4) _ _ hpt
      refine iteT ⟨_, rfl, _, rfl, _, rfl, pa, _, _, _, rfl, rfl, hpt4, at_of (j := 0) rfl rfl, g, _, rfl, DPut.k (k := Sum.inr pb.1) hg4 (small1000 (by rw [zipK_len hl4]; omega)), ?_⟩
      obtain ⟨gs', gv', lg', _⟩ := gv4.put (l := pb.1) dk4 ⟨by simp, by show 1 ≤ 9; decide, fun c m => by rw [List.mem_singleton.mp m]; exact .letter _ ml⟩ (by show 1 ≤ 3; decide) hg4 hl4 hk4
      refine ⟨⟨_, _, rfl⟩, (x3.trans x4).over hg _, S4.but hg4 (dk_nl _) ngs, gs', gv', by omega⟩
  rintro σ H3 ⟨⟨o7, o8, rfl⟩, x3, S3, gs, gv, lg⟩
  rw [List.length_map] at lg
  have lg4 : gs.length ≤ 4 := by omega
  clear gv0 x2 S2 e2 lg
  have W3 := W1.ext x3 S3
  have N3 := N1.ext S1 x3
  have hres3 : IsK K H3 rv fn.res := (KX x3).dt hres
  have hat3 := KX x3 _ _ hat
  obtain ⟨ra, rvs, rfl, hrt, hrd⟩ := hres3.open
  obtain ⟨rk0, rk3, rok⟩ := og.rk
  dsimp only [tNext, gName]
  refine seq_with (fun R => ∀ (H4 : Hp) (gs4 : List (Str × List Ch)) (o7 o8 o9 o10 : Option V), Ext s H1 H4 → IsS K H4 s i → Gv K H4 s (bs.map (·.1)) (fn.lets.map (·.1)) g gs4 → gs4.length ≤ 10 → R [some (.ref s), some v, some (.ref na), some (.ref ba), some (.int d), some (.ref a), some (.ref g), o7, o8, o9, o10, none, none] H4) ?_ ?_
  rotate_left
  · intro rest
    obtain ⟨c0, rr, eres⟩ : ∃ c0 rr, fn.res = c0 :: rr := by
      cases h : fn.res with
      | nil => exact absurd h rk0
      | cons c r => exact ⟨c, r, rfl⟩
    rw [eres, pyL] at hrd
    obtain ⟨x0, rvr, rfl, hx0, hrr⟩ := hrd.uncons
    have okc0 : okC (fn.lets.map (·.1)) 1 c0 := okL_mem' rok (by rw [eres]; exact List.mem_cons_self)
    have hx00 : IsC K H3 x0 c0 := hx0
    obtain ⟨ca, cs, rfl, hct, hcd⟩ := hx00.lead
    show tAnd _ _ _ _ _
    refine and_pure (decide (V.int (((V.ref ca :: rvr).length : Nat) : Int) = V.int 1)) (decide (V.str (wdC c0) = V.str "letter")) (fun R h => ⟨_, rfl, a, _, _, _, rfl, rfl, hat3, at_of (j := 3) rfl rfl, ra, _, rfl, .inr hrt, rfl, _, rfl, h⟩)
      (fun _ R h => ⟨_, rfl, a, _, _, _, rfl, rfl, hat3, at_of (j := 3) rfl rfl, ra, _, _, _, rfl, rfl, hrt, at_of (j := 0) rfl rfl, ca, _, _, _, rfl, rfl, hct, at_of (j := 0) rfl rfl, rfl, _, rfl, h⟩) (fun c1 c2 => iteT ?_) (fun _ => iteF ?_)
    · -- a letter alone
      obtain ⟨lt, rfl⟩ := wd_letter (V.str.inj (of_decide_eq_true c2))
      obtain ⟨ul, rfl, hul⟩ := Dts.one (d := .str lt) hcd
      rw [hul.strOf] at hct
      have mlt : lt ∈ fn.lets.map (·.1) := by unfold okC at okc0; exact okc0
      obtain ⟨j', qq, hj', rfl, _, _⟩ := look_mem og.lnd mlt
      have lj' : j' < lus.length := by rw [hll]; exact (List.getElem?_eq_some_iff.mp hj').1
      have gx := zipK_get og.lnd hj' (List.getElem?_eq_getElem lj')
      have hub : IsK K H1 lus[j'] qq.2 := hlk j' _ qq (List.getElem?_eq_getElem lj') hj'
      obtain ⟨_, bk0, bk3, bok⟩ := og.okb qq (List.mem_of_getElem? hj')
      have wkb : Wk [] 1 qq.2 := Wk.of_ok bk0 bk3 bok
      have okb40 : OkN 40 (.tuple (pyL qq.2)) := (wkb.okN fun l h => by cases h).mono (by decide)
      refine ⟨_, rfl, a, _, _, _, rfl, rfl, hat3, at_of (j := 3) rfl rfl, ra, _, _, _, rfl, rfl, hrt, at_of (j := 0) rfl rfl, ca, _, _, _, rfl, rfl, hct, at_of (j := 1) rfl rfl, ?_⟩
      dsimp only [tNext, gName]
      have hla3 : SqF H3 la (ps.map V.ref) := hla.ext hs1 x3
      obtain ⟨lus3, hll3, hpr3, hlk3⟩ := pairs_dts ((KX x3).dts hld)
      have gx3 := zipK_get og.lnd hj' (List.getElem?_eq_getElem (show j' < lus3.length by rw [hll3]; exact (List.getElem?_eq_some_iff.mp hj').1))
      have lj3 : j' < lus3.length := by rw [hll3]; exact (List.getElem?_eq_some_iff.mp hj').1
      refine ⟨_, rfl, a, _, _, _, rfl, rfl, hat3, at_of (j := 1) rfl rfl, la, ps, zipK fn.lets lus3, rfl, hla3, hpr3, fun g2 hg2 => ?_⟩
      rw [mergeK_nd _ _ (by rw [List.nil_append, zipK_fst hll3]; exact List.pairwise_map.mpr ((List.pairwise_map.mp og.lnd).imp fun h z => h (Sum.inr.inj z))), List.nil_append]
      have e4 := same_new hg2 (.dK (zipK fn.lets lus3))
      have hg24 : (upd H3 g2 (.dK (zipK fn.lets lus3))) g2 = some (.dK (zipK fn.lets lus3)) := upd_same
      have x34 : Ext s H3 (upd H3 g2 (.dK (zipK fn.lets lus3))) := Ext.same e4
      have S4 := S3.same e4
      have hub4 := (Same.keep (K := K) e4).dt (hlk3 j' _ qq (List.getElem?_eq_getElem lj3) hj')
      generalize (upd H3 g2 (.dK (zipK fn.lets lus3))) = H4 at e4 hg24 x34 S4 hub4 ⊢
      refine ⟨_, rfl, g2, lus3[j'], rfl, (by rw [← gx3]; exact DGet.k (k := Sum.inr qq.1) hg24), ?_⟩
      generalize lus3[j'] = bv at hub4 gx3 ⊢
      clear gx3 hlk3 hpr3 hla3 gx hub hg24
      have W4 := W3.ext x34 S4
      have N4 := N3.ext S3 x34
      have x14 := x3.trans x34
      dsimp only [tNext, gName]
      have hkk4 : IsK K H4 v k := (KX x14).dt hk1
      refine ⟨_, rfl, _, rfl, _, rfl, _, rfl, s, i, bv, v, ba, qq.2, bs, rfl, S4, N4.hB, N4.nb, N4.okb, by have := N4.b2; omega, hub4, okb40, .inr ⟨k, hkk4, (wk.okN N4.lets).mono (by omega)⟩, fun H5 x5 S5 => ?_, fun v5 H5 l5 x5 S5 ml dk5 => ?_⟩
      · -- none of the caller's
        have gv5 := (gv.ext S3 x34).ext S4 x5
        obtain ⟨us, hg5, hl5, nd5, hk5⟩ := id gv5.hB
        dsimp only [tNext, gName]
        refine ⟨_, rfl, _, rfl, _, rfl, g, _, rfl, DPut.k (k := Sum.inr qq.1) hg5 (small1000 (by rw [zipK_len hl5]; omega)), ?_⟩
        have k56 : Keep K H5 (upd H5 g (.dK (putK (zipK gs us) (.inr qq.1) .non))) := Keep.upd hg5 trivial _
        have x16 := (x14.trans x5).over hg (.dK (putK (zipK gs us) (.inr qq.1) .non))
        have S6 : IsS K (upd H5 g (.dK (putK (zipK gs us) (.inr qq.1) .non))) s i := S5.but hg5 (dk_nl _) ngs
        have hg6 : (upd H5 g (.dK (putK (zipK gs us) (.inr qq.1) .non))) g = some (.dK (putK (zipK gs us) (.inr qq.1) .non)) := upd_same
        have hb6 : IsK K (upd H5 g (.dK (putK (zipK gs us) (.inr qq.1) .non))) bv qq.2 := k56.dt ((S4.keep x5).dt hub4)
        have hk6 : IsK K (upd H5 g (.dK (putK (zipK gs us) (.inr qq.1) .non))) v k := k56.dt ((S4.keep x5).dt hkk4)
        generalize (upd H5 g (.dK (putK (zipK gs us) (.inr qq.1) .non))) = H6 at k56 x16 S6 hg6 hb6 hk6 ⊢
        obtain ⟨b2a, bws, rfl, hbt, hbd⟩ := hb6.open
        have lbw : bws.length = qq.2.length := by rw [hbd.1, pyL_map, List.length_map]
        dsimp only [tNext, gName]
        refine ⟨_, rfl, rfl, _, rfl, ?_⟩
        rw [decide_eq_true (rfl : V.non = V.non)]
        refine iteT ⟨_, rfl, b2a, rfl, ⟨_, hbt⟩, fun D hD => ?_⟩
        refine lc_tup (K := K) (a := b2a) (xs := bws) (fun m H7 => Same H6 H7 ∧ ∃ (ws : List V) (cs : List Ch), H7 D = some (.lst ws) ∧ Dts K H7 ws (pyL cs) ∧ cs.length ≤ m ∧ ∀ c ∈ cs, c ∈ qq.2) ⟨same_new hD _, [], [], upd_same, Dts.nil, Nat.le_refl _, fun c m => by cases m⟩ (fun m H7 _ h => (Same.keep h.1) _ _ hbt) ?_ ?_
        · rintro m x H7 hx ⟨e7, ws, cs7, h7, hws, lc, mc⟩
          obtain ⟨d', hd1, hd2⟩ := hbd.at hx
          rw [pyL_map, List.getElem?_map] at hd1
          obtain ⟨c, hc, rfl⟩ := Option.map_eq_some_iff.mp hd1
          have il := (List.getElem?_eq_some_iff.mp hc).1
          have mcq := List.mem_of_getElem? hc
          have dx : Dt K H7 x (pyC c) := (Same.keep e7).dt hd2
          refine ⟨rfl, _, rfl, _, rfl, pyC c, pyL k, Dt.dp dx, Dt.dp ((Same.keep e7).dt hk6), ((((wkb.all c mcq).okN fun l h => by cases h).mono (show 4 * 1 + 1 ≤ 40 by decide)).ok (by decide)).1, (((wk.okN ls).mono (show 4 * n + 2 ≤ 40 by omega)).ok (by decide)).1, _, rfl, ite2 (fun _ => ?_) (fun _ => ⟨e7, ws, cs7, h7, hws, by omega, mc⟩)⟩
          have lws : ws.length = cs7.length := by rw [hws.1, pyL_map, List.length_map]
          have k4 : Keep K H7 (upd H7 D (.lst (ws ++ [x]))) := Keep.upd h7 trivial _
          refine ⟨_, rfl, ws, h7, small1000 (by omega), fun a o ha => ?_, ws ++ [x], cs7 ++ [c], upd_same, ?_, by rw [List.length_append]; exact Nat.succ_le_succ lc, fun c' m' => ?_⟩
          · rw [upd_ne (ne_of_none ha hD)]; exact e7 _ _ ha
          · rw [pyL_map, List.map_append, ← pyL_map]
            exact (k4.dts hws).snoc (k4.dt dx)
          · rcases List.mem_append.mp m' with m1 | m1
            · exact mc c' m1
            · rw [List.mem_singleton.mp m1]; exact mcq
        rintro H7 ⟨e7, ws, cs7, h7, hws, lc, mc⟩
        have lws : ws.length = cs7.length := by rw [hws.1, pyL_map, List.length_map]
        have bk3' : qq.2.length ≤ 3 := bk3
        refine ⟨D, ws, rfl, .inl ⟨SqL.of h7, fun t ht => ?_⟩⟩
        have e8 := same_new ht (.tup ws)
        have e68 := Same.trans e7 e8
        have ht8 : (upd H7 t (.tup ws)) t = some (.tup ws) := upd_same
        have hws8 := (Same.keep (K := K) e8).dts hws
        have hg8 := e68 _ _ hg6
        generalize (upd H7 t (.tup ws)) = H8 at e8 e68 ht8 hws8 hg8 ⊢
        refine ⟨_, rfl, _, rfl, g, _, rfl, DPut.k (k := Sum.inr qq.1) hg8 (small1000 (by have := put_len (zipK gs us) (Sum.inr qq.1) .non; rw [zipK_len hl5] at this; omega)), ?_⟩
        rw [putK_twice]
        have S8 := S6.same e68
        have x18 := x16.trans (Ext.same e68)
        have x19 := x18.over hg (.dK (putK (zipK gs us) (.inr qq.1) (.ref t)))
        have S9 : IsS K (upd H8 g (.dK (putK (zipK gs us) (.inr qq.1) (.ref t)))) s i := S8.but hg8 (dk_nl _) ngs
        have k89 : Keep K H8 (upd H8 g (.dK (putK (zipK gs us) (.inr qq.1) (.ref t)))) := Keep.upd hg8 trivial _
        have gg9 : DGet (upd H8 g (.dK (putK (zipK gs us) (.inr qq.1) (.ref t)))) g (.str qq.1) (some (.ref t)) := by
          have e : valV (putK (zipK gs us) (.inr qq.1) (.ref t)) (.inr qq.1) = some (.ref t) := by rw [valV_put, if_pos rfl]
          rw [← e]
          exact DGet.k (k := Sum.inr qq.1) upd_same
        have ht9 : SqT K (upd H8 g (.dK (putK (zipK gs us) (.inr qq.1) (.ref t)))) t ws := k89 _ _ (SqT.of ht8)
        dsimp only [tNext, gName]
        refine ⟨_, rfl, _, rfl, g, .ref t, rfl, gg9, t, ws, rfl, .inr ht9, rfl, _, rfl, ite2 (fun _ => qn1 _ x19 S9) (fun hz => ?_)⟩
        have cne : cs7 ≠ [] := fun z => hz (by
          rw [z] at lws
          have : ws.length = 0 := lws
          rw [this]
          exact decide_eq_true rfl)
        -- the heap as if the letter had not been told yet
        have k8b : Keep K H8 (upd H8 g (.dK (zipK gs us))) := Keep.upd hg8 trivial _
        have gvb : Gv K (upd H8 g (.dK (zipK gs us))) s (bs.map (·.1)) (fn.lets.map (·.1)) g gs := ⟨ngs, ⟨us, upd_same, hl5, nd5, fun j u q a b => k8b.dt ((Same.keep e68).dt (k56.dt (hk5 j u q a b)))⟩, gv5.ok, gv5.sup⟩
        obtain ⟨gs', gv', lg', _⟩ := gvb.put (l := qq.1) (k := cs7) (v := .ref t) (k8b.dt (hws8.tup (SqT.of ht8))) ⟨cne, by omega, fun c m => ((wkb.all c (mc c m)).sub fun l h => by cases h)⟩ (by omega) upd_same hl5 (fun j u q a b => k8b.dt ((Same.keep e68).dt (k56.dt (hk5 j u q a b))))
        rw [upd_upd] at gv'
        exact rest _ gs' _ _ _ _ x19 S9 gv' (by omega)
      · -- one of the caller's
        have gv5 := (gv.ext S3 x34).ext S4 x5
        obtain ⟨us, hg5, hl5, nd5, hk5⟩ := id gv5.hB
        dsimp only [tNext, gName]
        refine ⟨_, rfl, _, rfl, _, rfl, g, _, rfl, DPut.k (k := Sum.inr qq.1) hg5 (small1000 (by rw [zipK_len hl5]; omega)), ?_⟩
        obtain ⟨gs', gv', lg', mem'⟩ := gv5.put (l := qq.1) dk5 ⟨by simp, by show 1 ≤ 9; decide, fun c m => by rw [List.mem_singleton.mp m]; exact .letter _ ml⟩ (by show 1 ≤ 3; decide) hg5 hl5 hk5
        have x16 := (x14.trans x5).over hg (.dK (putK (zipK gs us) (.inr qq.1) v5))
        have S6 : IsS K (upd H5 g (.dK (putK (zipK gs us) (.inr qq.1) v5))) s i := S5.but hg5 (dk_nl _) ngs
        generalize (upd H5 g (.dK (putK (zipK gs us) (.inr qq.1) v5))) = H6 at gv' x16 S6 ⊢
        dsimp only [tNext, gName]
        have vn : decide (v5 = V.non) = false := decide_eq_false fun z => by
          obtain ⟨_, _, e, _⟩ := dk5.open
          rw [z] at e; cases e
        refine ⟨_, rfl, rfl, _, rfl, ?_⟩
        rw [vn]
        refine iteF ?_
        obtain ⟨jj, hjj⟩ := List.getElem?_of_mem mem'
        obtain ⟨uu, gg, du⟩ := gv'.hB.at hjj
        obtain ⟨ua, uus, rfl, hut, hud⟩ := (show IsK K H6 uu [.letter l5] from du).open
        have luu : uus.length = 1 := by rw [hud.1, pyL_map]; rfl
        dsimp only [tNext, gName]
        refine ⟨_, rfl, _, rfl, g, .ref ua, rfl, gg, ua, uus, rfl, .inr hut, rfl, _, rfl, ?_⟩
        rw [luu]
        exact iteF (rest H6 gs' _ _ _ _ x16 S6 gv' (by omega))
    · -- any other
      have wr : Wk (bs.map (·.1)) 2 fn.res ∨ True := .inr trivial
      refine ⟨_, rfl, a, _, _, _, rfl, rfl, hat3, at_of (j := 3) rfl rfl, _, rfl, .ref ra, g, fn.res, 1, gs, bs.map (·.1), rfl, hres3, gv.hB, gv.ok, by decide, rk0, rk3, okL_sub gv.sup rok, fun fv4 H4 k4 e4 dk4 wk4 => ?_⟩
      have x4 : Ext s H1 H4 := x3.trans (Ext.same e4)
      refine ⟨_, rfl, fv4, v, k4, k, bs.map (·.1), rfl, dk4, (KX x4).dt hk1, wk4.nm ls (by decide), (wk.okN ls).mono (by omega), fun b H5 e5 _ => ⟨_, rfl, ?_⟩⟩
      have e45 := Same.trans e4 e5
      cases b with
      | true => exact iteF (rest H5 gs _ _ _ _ (x3.trans (Ext.same e45)) (S3.same e45) (gv.ext S3 (Ext.same e45)) (by omega))
      | false => exact iteT (qn1 H5 (x3.trans (Ext.same e45)) (S3.same e45))
  -- the parts, then all
  intro H4 gs4 o7' o8' o9' o10' x4 S4 gv4 lg
  refine ⟨(by show 0 ≤ sizeLine; decide), fun D hD => ?_⟩
  have e5 := same_new hD (.lst [])
  have hD5 : (upd H4 D (.lst [])) D = some (.lst []) := upd_same
  have nDs : D ≠ s := S4.ne hD
  have x5 : Ext s H1 (upd H4 D (.lst [])) := x4.trans (Ext.same e5)
  have S5 := S4.same e5
  have gv5 := gv4.ext S4 (Ext.same e5)
  have hD1 : H1 D = none := by
    cases h : H1 D with
    | none => rfl
    | some o => 
      have := x4 D o nDs h
      rw [this] at hD; cases hD
  have nDg : D ≠ g := fun z => by
    obtain ⟨us, h, _⟩ := gv4.hB
    rw [z, h] at hD; cases hD
  generalize (upd H4 D (.lst [])) = H5 at e5 hD5 x5 S5 gv5 ⊢
  obtain ⟨pa, pvs, rfl, hpt, hpd⟩ := hpar.open
  have lpv : pvs.length = fn.pars.length := by rw [hpd.1, pyF_map, List.length_map]
  have p4 := og.p4
  dsimp only [tNext, gName]
  refine ⟨_, rfl, a, _, _, _, rfl, rfl, KX x5 _ _ hat, at_of (j := 2) rfl rfl, pa, rfl, ⟨_, KX x5 _ _ hpt⟩, ?_⟩
  refine for_tup (K := K) (a := pa) (xs := pvs) (fun j σ H6 => (∃ o7, σ = [some (.ref s), some v, some (.ref na), some (.ref ba), some (.int d), some (.ref a), some (.ref g), o7, o8', o9', o10', some (.ref D), none]) ∧ Ext s H1 H6 ∧ IsS K H6 s i ∧ Gv K H6 s (bs.map (·.1)) (fn.lets.map (·.1)) g gs4 ∧
      ∃ (ws : List V) (ps : List Pt), H6 D = some (.lst ws) ∧ Dts K H6 ws (pyPs ps) ∧ ps.length = j ∧ ∀ p ∈ ps, GpOf bs nms fns (2 * d + n + 3) p)
    ⟨⟨_, rfl⟩, x5, S5, gv5, [], [], hD5, by rw [pyPs]; exact Dts.nil, rfl, fun p m => by cases m⟩ (fun j σ H6 _ h => KX h.2.1 _ _ hpt) ?_ ?_
  · rintro j x σ H6 hx ⟨⟨o7, rfl⟩, x6, S6, gv6, ws, ps6, hD6, hws, lp, gp6⟩
    have jl := (List.getElem?_eq_some_iff.mp hx).1
    obtain ⟨dd, hd1, hd2⟩ := hpd.at hx
    rw [pyF_map, List.getElem?_map] at hd1
    obtain ⟨pb, hpb, rfl⟩ := Option.map_eq_some_iff.mp hd1
    have mb := List.mem_of_getElem? hpb
    obtain ⟨pra, u, rfl, hprt, hpru⟩ := ((KX x6).dt hd2).two
    obtain ⟨k0, k3, okk⟩ := og.pk pb mb
    dsimp only [tNext, gName]
    refine ⟨_, rfl, .inl ⟨rfl, _, SqL.of hD6⟩, _, rfl, _, rfl, pra, _, _, _, rfl, rfl, hprt, at_of (j := 1) rfl rfl, _, rfl, u, g, pb.2, 1, gs4, bs.map (·.1), rfl, hpru, gv6.hB, gv6.ok, by decide, k0, k3, okL_sub gv6.sup okk, fun kv7 H7 k7 e7 dk7 wk7 => ?_⟩
    have x7 : Ext s H1 H7 := x6.trans (Ext.same e7)
    refine ⟨_, rfl, _, rfl, _, rfl, s, i, fns, ba, bs, na, nms, kv7, k7, d, 2, rfl, W1.ext x7 (S6.same e7), N1.ext S1 x7, by omega, dk7, wk7, by omega, fun _ => by omega, by omega, fun v8 H8 p8 x8 S8 dp8 gp8 => ?_⟩
    have x68 : Ext s H6 H8 := (Ext.same e7).trans x8
    have hD8 := x68 _ _ nDs hD6
    refine ⟨D, ws, _, rfl, rfl, hD8, small1000 (by rw [hws.1, pyPs_map, List.length_map]; omega), ?_⟩
    have k9 : Keep K H8 (upd H8 D (.lst (ws ++ [v8]))) := Keep.upd hD8 trivial _
    have x9 : Ext s H1 (upd H8 D (.lst (ws ++ [v8]))) := (x6.trans x68).over hD1 _
    have gv8 := gv6.ext S6 x68
    refine ⟨⟨_, rfl⟩, x9, S1.over S8 x9 nDs, ⟨gv8.ns, gv8.hB.keep k9 fun o ho => by rw [upd_ne nDg.symm]; exact ho, gv8.ok, gv8.sup⟩, ws ++ [v8], ps6 ++ [p8], upd_same, ?_, by rw [List.length_append, lp]; rfl, fun p m => ?_⟩
    · rw [pyPs_map, List.map_append, ← pyPs_map]
      exact (k9.dts ((S6.keep x68).dts hws)).snoc (k9.dt dp8)
    · rcases List.mem_append.mp m with m | m
      · exact gp6 p m
      · rw [List.mem_singleton.mp m]
        exact gp8.mono (by omega) fun _ z => z
  rintro σ H6 ⟨⟨o7, rfl⟩, x6, S6, gv6, ws, ps6, hD6, hws, lp, gp6⟩
  have hat6 := KX x6 _ _ hat
  have lla6 := KX x6 _ _ lla
  dsimp only [tNext, gName]
  refine ⟨_, rfl, a, _, _, _, rfl, rfl, hat6, at_of (j := 0) rfl rfl, _, rfl, a, _, _, _, rfl, rfl, hat6, at_of (j := 1) rfl rfl, la, rfl, ⟨_, lla6⟩, fun F hF => ?_⟩
  have nFs : F ≠ s := S6.ne hF
  refine lc_tup (K := K) (a := la) (xs := ps.map V.ref) (fun j H7 => Same H6 H7 ∧ ∃ (us : List V) (ks : List (List Ch)), H7 F = some (.lst us) ∧ Dts K H7 us (ks.map fun k => .tuple (pyL k)) ∧ ks.length = j ∧ ∀ k ∈ ks, Wk (bs.map (·.1)) 1 k) ⟨same_new hF _, [], [], upd_same, Dts.nil, rfl, fun k m => by cases m⟩ (fun j H7 _ h => (Same.keep h.1) _ _ lla6) ?_ ?_
  · rintro j x H7 hx ⟨e7, us, ks, hF7, hus, lk7, wk7⟩
    have jl := (List.getElem?_eq_some_iff.mp hx).1
    rw [List.length_map] at jl
    obtain ⟨dd, hd1, hd2⟩ := hld.at hx
    rw [pyF_map, List.getElem?_map] at hd1
    obtain ⟨pb, hpb, rfl⟩ := Option.map_eq_some_iff.mp hd1
    have mb := List.mem_of_getElem? hpb
    obtain ⟨pra, u, rfl, hprt, hpru⟩ := ((Same.keep (K := K) e7).dt ((KX x6).dt hd2)).two
    obtain ⟨jj, qq, hjj, eq, _, _⟩ := look_mem gv6.hB.nd (gv6.sup pb.1 (List.mem_map_of_mem mb))
    obtain ⟨uu, gg, du⟩ := (gv6.hB.same e7).at hjj
    rw [eq] at gg
    obtain ⟨wkq, _⟩ := gv6.ok qq (List.mem_of_getElem? hjj)
    refine ⟨rfl, _, rfl, _, rfl, pra, _, _, _, rfl, rfl, hprt, at_of (j := 0) rfl rfl, g, uu, rfl, gg, us, hF7, ?_, fun c o hb => ?_, us ++ [uu], ks ++ [qq.2], upd_same, ?_, by rw [List.length_append, lk7]; rfl, fun k' m => ?_⟩
    · rw [hus.1, List.length_map]
      exact small1000 (by omega)
    · rw [upd_ne (ne_of_none hb hF)]; exact e7 c o hb
    · have k4 : Keep K H7 (upd H7 F (.lst (us ++ [uu]))) := Keep.upd hF7 trivial _
      rw [List.map_append]
      exact (k4.dts hus).snoc (k4.dt du)
    · rcases List.mem_append.mp m with m | m
      · exact wk7 k' m
      · rw [List.mem_singleton.mp m]; exact wkq
  rintro H7 ⟨e7, us, ks, hF7, hus, lk7, wk7⟩
  rw [List.length_map] at lk7
  refine ⟨F, us, rfl, .inl ⟨SqL.of hF7, fun t1 ht1 => ?_⟩⟩
  have e8 := same_new ht1 (.tup us)
  have hD8 := e8 _ _ (e7 _ _ hD6)
  refine ⟨_, rfl, D, ws, rfl, .inl ⟨SqL.of hD8, fun t2 ht2 => ⟨(by show 4 ≤ sizeLine; decide), fun t3 ht3 => ?_⟩⟩⟩
  have e9 := same_new ht2 (.tup ws)
  have e10 := same_new ht3 (.tup [.str "call", .str fn.name, .ref t1, .ref t2])
  have e710 := Same.trans e7 (Same.trans e8 (Same.trans e9 e10))
  have lpp : ps6.length = fn.pars.length := by rw [lp]; exact lpv
  refine q1 _ _ (.call fn.name ks ps6) (x6.trans (Ext.same e710)) (S6.same e710) ?_ (.call og.wn ?_ (by omega) (by omega) (fun k' m => (wk7 k' m).mono (by decide)) gp6)
  · rw [pyP]
    exact ((((Dts.nil.cons ((Same.keep e10).dt (((Same.keep (Same.trans e7 (Same.trans e8 e9))).dts hws).tup (SqT.of upd_same)))).cons ((Same.keep (Same.trans e9 e10)).dt (((Same.keep e8).dts hus).tup (SqT.of upd_same)))).cons (.str fn.name)).cons (.str "call")).tup (SqT.of upd_same)
  · rw [lk, lpp, lk7, lps]
end
end Sc
namespace Sc
open PySem PyProof.Rows L2
section
variable {P : Program} {w : World} {K : PySem.W.Frag} {mg : Str → Option Value} {base : Heap}
def nWay : List Str := ["_law_s", "_law_due", "_law_names", "_law_bounds_here", "_law_deep", "_law_way_here", "_law_name", "_law_ask_here", "_law_parts", "_law_yes", "_law_inner", "_law_one", "_law_other", "_law_held", "_law_place", "_law_words", "_law_kinds", "_law_k", "_law_kind_here"]
theorem scWay : FnScope nWay psWay (defScope sWay) := ⟨rfl, rfl, rfl, by decide +kernel, rfl, by decide +kernel, by decide +kernel⟩
theorem ask_two {K : PySem.W.Frag} {H : Hp} {v : V} {a : Ask} (h : Dt K H v (pyA a)) (ok : okAsk a) : ∃ (aa : Addr) (w z : Str), v = .ref aa ∧ SqT K H aa [.str w, .str z] ∧ (w = "is" ∧ z ∈ (["number", "text", "row", "book", "shape"] : List Str) ∨ w = "has" ∧ Word z) := by
  cases a with
  | is z =>
    obtain ⟨aa, u, rfl, ht, hu⟩ := (show Dt K H v (.tuple [.str "is", .str z]) from h).two
    rw [hu.strOf] at ht
    exact ⟨aa, _, _, rfl, ht, .inl ⟨rfl, ok⟩⟩
  | has z =>
    obtain ⟨aa, u, rfl, ht, hu⟩ := (show Dt K H v (.tuple [.str "has", .str z]) from h).two
    rw [hu.strOf] at ht
    exact ⟨aa, _, _, rfl, ht, .inr ⟨rfl, ok⟩⟩
theorem two_of {α : Type} {l : List α} (h : l.length = 2) : ∃ a b, l = [a, b] := by
  match l, h with
  | [a, b], _ => exact ⟨a, b, rfl⟩
theorem c_way {m lv : Nat} (T : Tx K mg) (lv7 : 7 ≤ lv) (CP : Cal P w K mg base lv "_law_part" psPart (spPart K m)) (CC : Cal P w K mg base lv "_law_call" psPart (spBy K m gBy)) (CN : Cal P w K mg base lv "_law_new" psPart (spBy K m gBy)) : Cal P w K mg base (lv + 1) "_law_way" psWay (spWay K m) := by
  have CT : Cal P w K mg base 1 "_law_taken" ["_law_s", "_law_most"] (spTaken K) := c_taken T
  have CK : Cal P w K mg base 7 "_law_kind" ["_law_s", "_law_deep", "_law_letters"] (spKind K 2) := c_kinds T 2
  have CW : Cal P w K mg base 1 "_law_word" ["_law_s", "_law_k"] (spWord K) := c_word T
  have CI : Cal P w K mg base 1 "_law_with" ["_law_names", "_law_name", "_law_kind_here"] (spWith K) := c_with T
  have CA : Cal P w K mg base 2 "_law_ask" ["_law_s"] (spAsk K) := c_ask T
  have CS : Cal P w K mg base 3 "_law_side" ["_law_kind_here", "_law_bounds_here", "_law_ask_here", "_law_yes"] (spSideN K) := c_side T
  refine T.way.ok scWay (fun vs H Q E h => ?_) (fun f cdv A outer s0 H vs Q E hr h => ?_)
  · obtain ⟨way, s, i, fns, ba, bs, na, nms, v, k, d, n, rfl, _⟩ := h
    rfl
  obtain ⟨way, s, i, fns, ba, bs, na, nms, v, k, d, n, rfl, W0, N, n10, hk, wk, nd3, n1, dm, qn, q⟩ := h
  have r1 : Room 1 _ := hr.mono (show 1 ≤ lv by omega)
  have r2 : Room 2 _ := hr.mono (show 2 ≤ lv by omega)
  have r3 : Room 3 _ := hr.mono (show 3 ≤ lv by omega)
  have r7 : Room 7 _ := hr.mono lv7
  have hu := hu_of hr
  refine ⟨_, pss_cons (ps_if (PW.pt (pw_and (pt_cmpR op_eq (pv 5) pe_int (nomark _)) (pw_and1 (pt_cmpR op_gt (pe_callB call_lenD (by rfl) T.m_len PySem.boot_len (pa_cons (pv 2) pa_nil)) pe_int (nomark _)))))
      (pss_cons (ps_set (i := 6) scWay.nd rfl (Or.inl rfl) (pe_ix ix_list (pe_callTy (call_listD rfl) (by rfl) T.m_list (by decide +kernel) (pa_cons (pv 2) pa_nil)) (pe_cal CT r1 (pa_cons (pv 0) (pa_cons (pe_callB call_lenD (by rfl) T.m_len PySem.boot_len (pa_cons (pv 2) pa_nil)) pa_nil))) (fun _ _ => rfl)))
      (pss_cons (ps_set (i := 7) scWay.nd rfl (Or.inl rfl) (pe_cal CA r2 (pa_cons (pv 0) pa_nil)))
      (pss_cons (ps_set (i := 8) scWay.nd rfl (Or.inl rfl) (pe_lst pa_nil))
      (pss_cons (ps_for PassesOwn.never rfl (pi_list (pe_lst (pa_cons pe_bl (pa_cons pe_bl pa_nil)))) (pg_name (i := 9) scWay.nd rfl (Or.inl rfl))
        (pss_cons (ps_set (i := 10) scWay.nd rfl (Or.inl rfl) (pe_cal CI r1 (pa_cons (pv 2) (pa_cons (pv 6) (pa_cons (pe_cal CS r3 (pa_cons (pe_dget hu (pv 2) (pv 6) (fun _ _ => rfl)) (pa_cons (pv 3) (pa_cons (pv 7) (pa_cons (pv 9) pa_nil))))) pa_nil)))))
        (pss_one (ps_expr (pe_bm PySem.F.plainAttrs_list PySem.F.slot_list_append PySem.F.type_list_append mt_append (pv 8) (pa_cons (pe_cal CP hr (pa_cons (pv 0) (pa_cons (pv 1) (pa_cons (pv 10) (pa_cons (pv 3) (pa_cons (pv 4) pa_nil)))))) pa_nil))))))
      (pss_one (ps_ret (pe_tup (pa_cons (pe_ix ix_tup (pv 7) pe_int (fun _ _ => rfl)) (pa_cons (pv 6) (pa_cons (pe_ix ix_tup (pv 7) pe_int (fun _ _ => rfl)) (pa_cons (pe_ix ix_list (pv 8) pe_int (fun _ _ => rfl)) (pa_cons (pe_ix ix_list (pv 8) pe_int (fun _ _ => rfl)) pa_nil)))))))))))) pss_nil) <|
    pss_cons (ps_if (pt_cmpR op_eq (pv 5) pe_int (nomark _))
      (pss_cons (ps_set (i := 11) scWay.nd rfl (Or.inl rfl) (pe_cal CP hr (pa_cons (pv 0) (pa_cons (pe_tup (pa_cons (pe_tup (pa_cons pe_str pa_nil)) pa_nil)) (pa_cons (pv 2) (pa_cons (pv 3) (pa_cons (pv 4) pa_nil)))))))
      (pss_cons (ps_set (i := 12) scWay.nd rfl (Or.inl rfl) (pe_cal CP hr (pa_cons (pv 0) (pa_cons (pe_tup (pa_cons (pe_tup (pa_cons pe_str pa_nil)) pa_nil)) (pa_cons (pv 2) (pa_cons (pv 3) (pa_cons pe_int pa_nil)))))))
      (pss_cons (ps_set (i := 9) scWay.nd rfl (Or.inl rfl) (pe_cal CP hr (pa_cons (pv 0) (pa_cons (pv 1) (pa_cons (pv 2) (pa_cons (pv 3) (pa_cons (pv 4) pa_nil)))))))
      (pss_one (ps_ret (pe_tup (pa_cons pe_str (pa_cons (pv 11) (pa_cons (pv 12) (pa_cons (pv 9) (pa_cons (pe_cal CP hr (pa_cons (pv 0) (pa_cons (pv 1) (pa_cons (pv 2) (pa_cons (pv 3) (pa_cons (pv 4) pa_nil)))))) pa_nil))))))))))) pss_nil) <|
    pss_cons (ps_if (pt_cmpR op_eq (pv 5) pe_int (nomark _))
      (pss_cons (ps_set (i := 13) scWay.nd rfl (Or.inl rfl) (pe_cal CP hr (pa_cons (pv 0) (pa_cons (pe_tup (pa_cons (pe_tup (pa_cons pe_str (pa_cons (pv 1) pa_nil))) pa_nil)) (pa_cons (pv 2) (pa_cons (pv 3) (pa_cons (pv 4) pa_nil)))))))
      (pss_cons (ps_set (i := 14) scWay.nd rfl (Or.inl rfl) (pe_cal CP hr (pa_cons (pv 0) (pa_cons (pe_tup (pa_cons (pe_tup (pa_cons pe_str pa_nil)) pa_nil)) (pa_cons (pv 2) (pa_cons (pv 3) (pa_cons pe_int pa_nil)))))))
      (pss_one (ps_ret (pe_tup (pa_cons pe_str (pa_cons (pv 13) (pa_cons (pv 14) (pa_cons (pe_cal CP hr (pa_cons (pv 0) (pa_cons (pv 1) (pa_cons (pv 2) (pa_cons (pv 3) (pa_cons (pv 4) pa_nil)))))) pa_nil))))))))) pss_nil) <|
    pss_cons (ps_if (pt_cmpR op_eq (pv 5) pe_int (nomark _)) (pss_one (ps_ret (pe_cal CC hr (pa_cons (pv 0) (pa_cons (pv 1) (pa_cons (pv 2) (pa_cons (pv 3) (pa_cons (pv 4) pa_nil)))))))) pss_nil) <|
    pss_cons (ps_if (pt_cmpR op_eq (pv 5) pe_int (nomark _))
      (pss_cons (ps_set (i := 15) scWay.nd rfl (Or.inl rfl) (pe_callB cr_sortedS (by rfl) T.m_sorted (by decide +kernel) (pa_cons
          (pe_lc (own := [("_law_k", 17)]) (g := gName 17) (tt := tYes) rfl scWay.nd (pi_range1 rfl T.m_range (pa_cons pe_int pa_nil)) (blkOk_by (N := nWay) (sc := defScope sWay) (by decide +kernel))
            (fun _ _ _ _ _ => pg_name (i := 17) scWay.nd rfl (Or.inl rfl)) (fun _ _ _ _ _ => pts_nil) (fun _ _ _ _ _ => pe_cal CW r1 (pa_cons (pv 0) (pa_cons (pv 17) pa_nil)))) pa_nil)))
      (pss_cons (ps_set (i := 16) scWay.nd rfl (Or.inl rfl) (pe_lst (pa_cons (pv 1) (pa_cons (pe_cal CK r7 (pa_cons (pv 0) (pa_cons pe_int (pa_cons (pe_lst pa_nil) pa_nil)))) pa_nil))))
      (pss_cons (ps_setLc (i := 8) (own := [("_law_kind_here", 18)]) (g := gName 18) (tt := tYes) rfl scWay.nd rfl rfl (sw_true rfl rfl rfl (by decide +kernel)) (pi_list (pv 16)) (blkOk_by (N := nWay) (sc := defScope sWay) (by decide +kernel))
            (fun _ _ _ _ _ => pg_name (i := 18) scWay.nd rfl (Or.inl rfl)) (fun _ _ _ _ _ => pts_nil) (fun _ _ _ _ _ => pe_cal CP hr (pa_cons (pv 0) (pa_cons (pv 18) (pa_cons (pv 2) (pa_cons (pv 3) (pa_cons (pv 4) pa_nil)))))))
      (pss_one (ps_ret (pe_tup (pa_cons pe_str (pa_cons (pe_tup (pa_cons pe_str (pa_cons (pe_tup (pa_cons (pe_tup (pa_cons (pe_ix ix_list (pv 15) pe_int (fun _ _ => rfl)) (pa_cons (pe_ix ix_list (pv 8) pe_int (fun _ _ => rfl)) pa_nil))) (pa_cons (pe_tup (pa_cons (pe_ix ix_list (pv 15) pe_int (fun _ _ => rfl)) (pa_cons (pe_ix ix_list (pv 8) pe_int (fun _ _ => rfl)) pa_nil))) pa_nil))) pa_nil)))
        (pa_cons (pe_ix ix_list (pv 15) pe_int (fun _ _ => rfl)) pa_nil))))))))) pss_nil) <|
    pss_one (ps_ret (pe_cal CN hr (pa_cons (pv 0) (pa_cons (pv 1) (pa_cons (pv 2) (pa_cons (pv 3) (pa_cons (pv 4) pa_nil))))))), ?_⟩
  have ls : ∀ l ∈ bs.map (·.1), Lett l := N.lets
  have nums : ∀ {H1 : Hp} {t1 t2 : Addr}, SqT K H1 t1 [.str "number"] → SqT K H1 t2 [.ref t1] → IsK K H1 (.ref t2) [.num] := fun h1 h2 => IsK.text (by rw [pyC]) h1 h2
  obtain ⟨ws, hn, nl, nnd, hkn⟩ := N.hN
  have zl : (zipK nms ws).length = nms.length := zipK_len nl
  show tAnd _ _ _ _ _
  refine and_pure (decide (V.int way = V.int 11)) (decide ((((zipK nms ws).length : Nat) : Int) > 0)) (fun R h => ⟨_, rfl, rfl, _, rfl, h⟩) (fun _ R h => ⟨_, rfl, na, _, rfl, hn, _, _, rfl, rfl, _, rfl, h⟩) (fun _ c2 => iteT ?_) (fun _ => iteF ?_)
  · -- is, has
    have l0 : 0 < nms.length := by
      have z : (0 : Int) < (((zipK nms ws).length : Nat) : Int) := of_decide_eq_true c2
      omega
    refine ⟨_, rfl, na, _, rfl, .inl hn, fun L hL => ?_⟩
    have eL := same_new hL (.lst ((zipK nms ws).map fun kv => kV kv.1))
    have hL1 : (upd H L (.lst ((zipK nms ws).map fun kv => kV kv.1))) L = some (.lst (nms.map fun q => V.str q.1)) := by rw [upd_same, zipK_keys nl]
    have W1 := W0.same eL
    have hn1 := eL _ _ hn
    have nLs : L ≠ s := W0.S.ne hL
    generalize (upd H L (.lst ((zipK nms ws).map fun kv => kV kv.1))) = H1 at eL hL1 W1 hn1 ⊢
    refine ⟨_, rfl, _, rfl, na, _, rfl, hn1, s, i, _, rfl, W1.S, by omega, ?_, fun r H2 r0 r1' x2 S2 => ?_⟩
    · exact Nat.lt_of_le_of_lt (show (((zipK nms ws).length : Nat) : Int).natAbs ≤ 100 by omega) (by decide)
    have x02 : Ext s H H2 := (Ext.same eL).trans x2
    have rl : r.toNat < nms.length := by omega
    obtain ⟨nv, hnv, hnv2⟩ := atI_some (vs := nms.map fun q => V.str q.1) r0 (by rw [List.length_map]; omega)
    rw [List.getElem?_map, List.getElem?_eq_getElem rl] at hnv2
    obtain rfl : V.str (nms[r.toNat]).1 = nv := Option.some.inj hnv2
    have mq : nms[r.toNat] ∈ nms := List.getElem_mem rl
    have hq : nms[r.toNat]? = some nms[r.toNat] := List.getElem?_eq_getElem rl
    generalize nms[r.toNat] = qq at hnv mq hq
    obtain ⟨z, k0⟩ := qq
    refine ⟨L, _, r, .str z, rfl, rfl, SqL.of (x2 _ _ nLs hL1), hnv, ?_⟩
    dsimp only [tNext, gName]
    refine ⟨_, rfl, s, i, rfl, S2, fun av H3 ak x3 S3 da oka => ?_⟩
    have x03 := x02.trans x3
    obtain ⟨aa, aw, az, rfl, hat, hok⟩ := ask_two da oka
    dsimp only [tNext, gName]
    refine ⟨(by show 0 ≤ sizeLine; decide), fun D hD => ?_⟩
    have nDs : D ≠ s := S3.ne hD
    have eD := same_new hD (.lst [])
    refine ⟨(by show 2 ≤ sizeLine; decide), fun B hB => ⟨B, rfl, ⟨_, SqL.of upd_same⟩, ?_⟩⟩
    have eB := same_new hB (.lst [.bl true, .bl false])
    have eDB := Same.trans eD eB
    have nBs : B ≠ s := (S3.same eD).ne hB
    have nBD : B ≠ D := fun y => by rw [y, upd_same] at hB; cases hB
    have hB0 : (upd (upd H3 D (.lst [])) B (.lst [.bl true, .bl false])) B = some (.lst [.bl true, .bl false]) := upd_same
    have hD0 := eB _ _ (upd_same (H := H3) (a := D) (o := .lst []))
    have S0' := S3.same eDB
    generalize (upd (upd H3 D (.lst [])) B (.lst [.bl true, .bl false])) = H4 at eDB hB0 hD0 S0' ⊢
    refine for_list (K := K) (a := B) (xs := [.bl true, .bl false]) (fun j σ H5 => (∃ o9 o10, σ = [some (.ref s), some v, some (.ref na), some (.ref ba), some (.int d), some (.int way), some (.str z), some (.ref aa), some (.ref D), o9, o10, none, none, none, none, none, none, none, none]) ∧ Ext s H3 H5 ∧ IsS K H5 s i ∧ H5 B = some (.lst [.bl true, .bl false]) ∧
        ∃ (us : List V) (ps : List Pt), H5 D = some (.lst us) ∧ Dts K H5 us (pyPs ps) ∧ ps.length = j ∧ ∀ p ∈ ps, GpOf bs nms fns (2 * d + n + 3) p)
      ⟨⟨_, _, rfl⟩, Ext.same eDB, S0', hB0, [], [], hD0, by rw [pyPs]; exact Dts.nil, rfl, fun p m => by cases m⟩ (fun j σ H5 _ h => SqL.of h.2.2.2.1) ?_ ?_
    · rintro j x σ H5 hx ⟨⟨o9, o10, rfl⟩, x5, S5, hB5, us, ps, hD5, hus, lp, gps⟩
      have jl : j < 2 := (List.getElem?_eq_some_iff.mp hx).1
      obtain ⟨y, rfl⟩ : ∃ y, x = V.bl y := by
        have : j = 0 ∨ j = 1 := by omega
        rcases this with h | h <;> subst h <;> cases hx <;> exact ⟨_, rfl⟩
      have x05 := x03.trans x5
      have N5 := N.ext W0.S x05
      have W5 := W0.ext x05 S5
      obtain ⟨kv, gg, dk0⟩ := N5.hN.at hq
      have nmk := (N5.ok _ mq).2
      dsimp only [gName]
      refine ⟨_, rfl, _, rfl, _, rfl, _, rfl, na, kv, rfl, gg, _, rfl, _, rfl, _, rfl, kv, ba, .ref aa, y, k0, bs, ak, rfl, dk0, N5.hB, N5.okb, nmk, (S3.keep x5).dt da, oka, fun sv H6 k6 e6 dk6 nm6 il => ?_⟩
      refine ⟨na, nms, z, sv, k6, rfl, N5.hN.same e6, dk6, by omega, fun b H7 nms' e7 hb hB7 pt => ?_⟩
      have e67 := Same.trans e6 e7
      have W7 := W5.same e67
      have nbs : b ≠ s := (W5.same e6).S.ne hb
      have N7 := ((N5.same e6).same e7).narrow mq nbs hB7 pt nm6 il
      have l7 := pt.len
      have hD7 := e67 _ _ hD5
      dsimp only [tNext, gName]
      refine ⟨_, rfl, .inl ⟨rfl, _, SqL.of hD7⟩, _, rfl, _, rfl, _, rfl, _, rfl, _, rfl, s, i, fns, ba, bs, b, nms', v, k, d, n, rfl, W7, N7, by omega, (W0.S.keep (x05.trans (Ext.same e67))).dt hk, wk, by omega, fun _ => n1, by omega, fun v8 H8 p8 x8 S8 dp8 gp8 => ?_⟩
      have x58 : Ext s H5 H8 := (Ext.same e67).trans x8
      have hD8 := x58 _ _ nDs hD5
      refine ⟨D, us, _, rfl, rfl, hD8, small1000 (by rw [hus.1, pyPs_map, List.length_map]; omega), ?_⟩
      have k9 : Keep K H8 (upd H8 D (.lst (us ++ [v8]))) := Keep.upd hD8 trivial _
      have x9 : Ext s H3 (upd H8 D (.lst (us ++ [v8]))) := (x5.trans x58).over hD _
      refine ⟨⟨_, _, rfl⟩, x9, S3.over S8 x9 nDs, by rw [upd_ne nBD]; exact x58 _ _ nBs hB5, us ++ [v8], ps ++ [p8], upd_same, ?_, by rw [List.length_append, lp]; rfl, fun p m => ?_⟩
      · rw [pyPs_map, List.map_append, ← pyPs_map]
        exact (k9.dts ((S5.keep x58).dts hus)).snoc (k9.dt dp8)
      · rcases List.mem_append.mp m with m | m
        · exact gps p m
        · rw [List.mem_singleton.mp m]
          exact gp8.mono (by omega) fun y h => by
            rcases pt.keys h with h | h
            · rw [h]; exact List.mem_map_of_mem mq
            · exact h
    · rintro σ H5 ⟨⟨o9, o10, rfl⟩, x5, S5, hB5, us, ps, hD5, hus, lp, gps⟩
      obtain ⟨p1, p2, rfl⟩ := two_of lp
      have lu : us.length = 2 := by rw [hus.1, pyPs_map, List.length_map]; exact lp
      obtain ⟨u1, u2, rfl⟩ := two_of lu
      rw [pyPs, pyPs, pyPs] at hus
      have hat5 := (S3.keep x5) _ _ hat
      dsimp only [tNext, gName]
      refine ⟨_, rfl, aa, _, _, _, rfl, rfl, hat5, at_of (j := 0) rfl rfl, _, rfl, _, rfl, aa, _, _, _, rfl, rfl, hat5, at_of (j := 1) rfl rfl, _, rfl, D, _, 0, u1, rfl, rfl, SqL.of hD5, at_of (j := 0) rfl rfl, _, rfl, D, _, 1, u2, rfl, rfl, SqL.of hD5, at_of (j := 1) rfl rfl, (by show 5 ≤ sizeLine; decide), fun t ht => ?_⟩
      have e6 := same_new ht (.tup [.str aw, .str z, .str az, u1, u2])
      refine q _ _ (.ask aw z az p1 p2) ((x03.trans x5).trans (Ext.same e6)) (S5.same e6) ?_ (.ask hok (List.mem_map_of_mem mq) (N.ok _ mq).1 ((gps p1 List.mem_cons_self).mono (by omega) fun _ h => h) ((gps p2 (List.mem_cons_of_mem _ List.mem_cons_self)).mono (by omega) fun _ h => h))
      rw [pyP]
      exact (((((Dts.nil.cons ((Same.keep e6).dt hus.tail.head)).cons ((Same.keep e6).dt hus.head)).cons (.str az)).cons (.str z)).cons (.str aw)).tup (SqT.of upd_same)
  clear hn nl nnd hkn zl
  dsimp only [tNext, gName]
  refine ⟨_, rfl, rfl, _, rfl, ite2 (fun _ => ?_) (fun _ => ?_)⟩
  · -- if
    refine ⟨_, rfl, (by show 1 ≤ sizeLine; decide), fun t1 ht1 => ⟨(by show 1 ≤ sizeLine; decide), fun t2 ht2 => ?_⟩⟩
    have e1 := same_new ht1 (.tup [.str "number"])
    have e2 := same_new ht2 (.tup [.ref t1])
    have e12 := Same.trans e1 e2
    refine ⟨_, rfl, _, rfl, _, rfl, s, i, fns, ba, bs, na, nms, .ref t2, [.num], d, n, rfl, W0.same e12, N.same e12, by omega, nums (SqT.of (e2 _ _ upd_same)) (SqT.of upd_same), .one (.num _), by omega, fun _ => n1, by omega, fun v1 H3 p1 x3 S3 dp1 gp1 => ?_⟩
    have x03 : Ext s H H3 := (Ext.same e12).trans x3
    have W3 := W0.ext x03 S3
    have N3 := N.ext W0.S x03
    dsimp only [tNext, gName]
    refine ⟨_, rfl, (by show 1 ≤ sizeLine; decide), fun t3 ht3 => ⟨(by show 1 ≤ sizeLine; decide), fun t4 ht4 => ?_⟩⟩
    have e3 := same_new ht3 (.tup [.str "number"])
    have e4 := same_new ht4 (.tup [.ref t3])
    have e34 := Same.trans e3 e4
    refine ⟨_, rfl, _, rfl, s, i, fns, ba, bs, na, nms, .ref t4, [.num], 0, 0, rfl, W3.same e34, N3.same e34, by omega, nums (SqT.of (e4 _ _ upd_same)) (SqT.of upd_same), .one (.num _), by omega, fun h => absurd h (Nat.lt_irrefl _), by omega, fun v2 H5 p2 x5 S5 dp2 gp2 => ?_⟩
    have x35 : Ext s H3 H5 := (Ext.same e34).trans x5
    have W5 := W3.ext x35 S5
    have N5 := N3.ext W3.S x35
    have hk5 := (W0.S.keep (x03.trans x35)).dt hk
    dsimp only [tNext, gName]
    refine ⟨_, rfl, _, rfl, _, rfl, _, rfl, _, rfl, s, i, fns, ba, bs, na, nms, v, k, d, n, rfl, W5, N5, by omega, hk5, wk, by omega, fun _ => n1, by omega, fun v3 H6 p3 x6 S6 dp3 gp3 => ?_⟩
    have W6 := W5.ext x6 S6
    have N6 := N5.ext W5.S x6
    have hk6 := (W5.S.keep x6).dt hk5
    dsimp only [tNext, gName]
    refine ⟨_, rfl, _, rfl, _, rfl, _, rfl, _, rfl, _, rfl, _, rfl, _, rfl, s, i, fns, ba, bs, na, nms, v, k, d, n, rfl, W6, N6, by omega, hk6, wk, by omega, fun _ => n1, by omega, fun v4 H7 p4 x7 S7 dp4 gp4 => ⟨(by show 5 ≤ sizeLine; decide), fun t ht => ?_⟩⟩
    have e8 := same_new ht (.tup [.str "if", v1, v2, v3, v4])
    refine q _ _ (.op "if" [p1, p2, p3, p4]) (x03.trans (x35.trans (x6.trans (x7.trans (Ext.same e8))))) (S7.same e8) ?_ (.op (by show (("if" : Str), 4) ∈ opTab; decide +kernel) fun p' m => ?_)
    · rw [pyP, pyPs, pyPs, pyPs, pyPs, pyPs]
      exact (((((Dts.nil.cons ((Same.keep e8).dt dp4)).cons ((Same.keep e8).dt ((S6.keep x7).dt dp3))).cons ((Same.keep e8).dt ((S5.keep (x6.trans x7)).dt dp2))).cons ((Same.keep e8).dt ((S3.keep (x35.trans (x6.trans x7))).dt dp1))).cons (.str "if")).tup (SqT.of upd_same)
    · simp only [List.mem_cons, List.not_mem_nil, or_false] at m
      rcases m with h | h | h | h <;> rw [h]
      · exact gp1.mono (by omega) fun _ z => z
      · exact gp2.mono (by omega) fun _ z => z
      · exact gp3.mono (by omega) fun _ z => z
      · exact gp4.mono (by omega) fun _ z => z
  dsimp only [tNext, gName]
  refine ⟨_, rfl, rfl, _, rfl, ite2 (fun _ => ?_) (fun _ => ?_)⟩
  · -- at
    refine ⟨_, rfl, _, rfl, (by show 2 ≤ sizeLine; decide), fun t1 ht1 => ⟨(by show 1 ≤ sizeLine; decide), fun t2 ht2 => ?_⟩⟩
    have e1 := same_new ht1 (.tup [.str "row", v])
    have e2 := same_new ht2 (.tup [.ref t1])
    have e12 := Same.trans e1 e2
    have dr : IsK K (upd (upd H t1 (.tup [.str "row", v])) t2 (.tup [.ref t1])) (.ref t2) [.row k] := IsK.one (IsC.rowOf ((Same.keep e12).dt hk) (SqT.of (e2 _ _ upd_same))) (SqT.of upd_same)
    refine ⟨_, rfl, _, rfl, _, rfl, s, i, fns, ba, bs, na, nms, .ref t2, [.row k], d, n + 1, rfl, W0.same e12, N.same e12, by omega, dr, wk.rowOf, by omega, fun _ => by omega, by omega, fun v1 H3 p1 x3 S3 dp1 gp1 => ?_⟩
    have x03 : Ext s H H3 := (Ext.same e12).trans x3
    have W3 := W0.ext x03 S3
    have N3 := N.ext W0.S x03
    dsimp only [tNext, gName]
    refine ⟨_, rfl, (by show 1 ≤ sizeLine; decide), fun t3 ht3 => ⟨(by show 1 ≤ sizeLine; decide), fun t4 ht4 => ?_⟩⟩
    have e3 := same_new ht3 (.tup [.str "number"])
    have e4 := same_new ht4 (.tup [.ref t3])
    have e34 := Same.trans e3 e4
    refine ⟨_, rfl, _, rfl, s, i, fns, ba, bs, na, nms, .ref t4, [.num], 0, 0, rfl, W3.same e34, N3.same e34, by omega, nums (SqT.of (e4 _ _ upd_same)) (SqT.of upd_same), .one (.num _), by omega, fun h => absurd h (Nat.lt_irrefl _), by omega, fun v2 H5 p2 x5 S5 dp2 gp2 => ?_⟩
    have x35 : Ext s H3 H5 := (Ext.same e34).trans x5
    have W5 := W3.ext x35 S5
    have N5 := N3.ext W3.S x35
    have hk5 := (W0.S.keep (x03.trans x35)).dt hk
    dsimp only [tNext, gName]
    refine ⟨_, rfl, _, rfl, _, rfl, _, rfl, _, rfl, _, rfl, _, rfl, s, i, fns, ba, bs, na, nms, v, k, d, n, rfl, W5, N5, by omega, hk5, wk, by omega, fun _ => n1, by omega, fun v3 H6 p3 x6 S6 dp3 gp3 => ⟨(by show 4 ≤ sizeLine; decide), fun t ht => ?_⟩⟩
    have e8 := same_new ht (.tup [.str "at", v1, v2, v3])
    refine q _ _ (.op "at" [p1, p2, p3]) (x03.trans (x35.trans (x6.trans (Ext.same e8)))) (S6.same e8) ?_ (.op (by show (("at" : Str), 3) ∈ opTab; decide +kernel) fun p' m => ?_)
    · rw [pyP, pyPs, pyPs, pyPs, pyPs]
      exact ((((Dts.nil.cons ((Same.keep e8).dt dp3)).cons ((Same.keep e8).dt ((S5.keep x6).dt dp2))).cons ((Same.keep e8).dt ((S3.keep (x35.trans x6)).dt dp1))).cons (.str "at")).tup (SqT.of upd_same)
    · simp only [List.mem_cons, List.not_mem_nil, or_false] at m
      rcases m with h | h | h <;> rw [h]
      · exact gp1.mono (by omega) fun _ z => z
      · exact gp2.mono (by omega) fun _ z => z
      · exact gp3.mono (by omega) fun _ z => z
  dsimp only [tNext, gName]
  refine ⟨_, rfl, rfl, _, rfl, ite2 (fun _ => ?_) (fun _ => ?_)⟩
  · exact ⟨_, rfl, _, rfl, _, rfl, _, rfl, _, rfl, s, i, fns, ba, bs, na, nms, v, k, d, n, rfl, W0, N, n10, hk, wk, nd3, n1, dm, qn, q⟩
  dsimp only [tNext, gName]
  refine ⟨_, rfl, rfl, _, rfl, ite2 (fun _ => ?_) (fun _ => ?_)⟩
  · -- get
    obtain ⟨_, _, _, _, _, iok, _⟩ := id W0.S
    refine ⟨_, rfl, by decide, by decide, fun D hD => ?_⟩
    refine lc_range (lo := 0) (n := 2) (fun j H1 => Same H H1 ∧ H1 D = some (.lst (((List.range j).map fun (n : Nat) => wordOf i (n : Int)).map V.str))) ⟨same_new hD _, upd_same⟩ ?_ ?_
    · rintro j H1 hj ⟨e1, h1⟩
      refine ⟨rfl, _, rfl, _, rfl, s, i, 0 + (j : Int), rfl, W0.S.same e1, by omega, fun H2 e2 => ⟨_, e2 _ _ h1, ?_, fun c o hb => ?_, ?_⟩⟩
      · rw [List.length_map, List.length_map, List.length_range]
        exact small1000 (by omega)
      · rw [upd_ne (ne_of_none hb hD)]
        exact e2 _ _ (e1 c o hb)
      · rw [upd_same, List.range_succ, List.map_append, List.map_append, Int.zero_add]
        rfl
    rintro H1 ⟨e1, h1⟩
    have ezs : True := trivial
    have h1' : H1 D = some (.lst ([wordOf i 0, wordOf i 1].map V.str)) := h1
    refine ⟨D, [wordOf i 0, wordOf i 1], rfl, SqL.of h1', by show 2 < 64; decide, fun ys p perm so hp => ?_⟩
    have ly : ys.length = 2 := perm.length_eq
    have fld : Fld ys := by
      refine ⟨(fun z => by rw [z] at ly; cases ly), by omega, perm.nodup_iff.mpr ?_, so, fun z hz => ?_⟩
      · refine List.nodup_cons.mpr ⟨fun m => ?_, List.nodup_cons.mpr ⟨by simp, List.nodup_nil⟩⟩
        exact absurd (word_inj iok (by decide) (by decide) (by decide) (by decide) (List.mem_singleton.mp m)) (by decide)
      · have := perm.mem_iff.mp hz
        simp only [List.mem_cons, List.not_mem_nil, or_false] at this
        rcases this with h | h <;> rw [h]
        · exact word_of iok (by decide)
        · exact word_of iok (by decide)
    obtain ⟨y0, y1, rfl⟩ := two_of ly
    have e2 := same_new hp (.lst ([y0, y1].map V.str))
    have e02 := Same.trans e1 e2
    have hp2 : (upd H1 p (.lst ([y0, y1].map V.str))) p = some (.lst [.str y0, .str y1]) := upd_same
    have nps : p ≠ s := (W0.S.same e1).ne hp
    have W2 := W0.same e02
    have N2 := N.same e02
    have hk2 := (Same.keep (K := K) e02).dt hk
    generalize (upd H1 p (.lst ([y0, y1].map V.str))) = H2 at e2 e02 hp2 W2 N2 hk2 ⊢
    dsimp only [tNext, gName]
    refine ⟨_, rfl, _, rfl, (by show 0 ≤ sizeLine; decide), fun L hL => ⟨s, L, i, 1, [], rfl, W2.S.same (same_new hL _), by decide, SqL.of upd_same, Nat.zero_le _, fun kv H3 k3 x3 S3 dk3 k0 k33 okk => ⟨(by show 2 ≤ sizeLine; decide), fun L2 hL2 => ?_⟩⟩⟩
    have e4 := same_new hL2 (.lst [v, kv])
    have x24 : Ext s H2 (upd H3 L2 (.lst [v, kv])) := (Ext.same (same_new hL _)).trans (x3.trans (Ext.same e4))
    have hL4 : (upd H3 L2 (.lst [v, kv])) L2 = some (.lst [v, kv]) := upd_same
    have nL2s : L2 ≠ s := S3.ne hL2
    have W4 := W2.ext x24 (S3.same e4)
    have N4 := N2.ext W2.S x24
    have hk4 := (W2.S.keep x24).dt hk2
    have dk4 := (Same.keep (K := K) e4).dt dk3
    have hp4 := x24 _ _ nps hp2
    have wk3 : Wk (bs.map (·.1)) n k3 := ((Wk.of_ok k0 k33 okk).sub fun l h => by cases h).mono n1
    generalize (upd H3 L2 (.lst [v, kv])) = H4 at e4 x24 hL4 W4 N4 hk4 dk4 hp4 ⊢
    dsimp only [tNext, gName]
    refine ⟨_, rfl, L2, rfl, ⟨_, SqL.of hL4⟩, fun F hF => ?_⟩
    have nFs : F ≠ s := W4.S.ne hF
    refine lc_list (K := K) (a := L2) (xs := [v, kv]) (fun j H5 => Ext s H4 H5 ∧ IsS K H5 s i ∧ ∃ (us : List V) (ps : List Pt), H5 F = some (.lst us) ∧ Dts K H5 us (pyPs ps) ∧ ps.length = j ∧ ∀ p ∈ ps, GpOf bs nms fns (2 * d + n + 2) p) ⟨Ext.new _ hF, W4.S.same (same_new hF _), [], [], upd_same, by rw [pyPs]; exact Dts.nil, rfl, fun p m => by cases m⟩ (fun j H5 _ h => SqL.of (h.1 _ _ nL2s hL4)) ?_ ?_
    · rintro j x H5 hx ⟨x5, S5, us, ps, hF5, hus, lp, gps⟩
      have jl : j < 2 := (List.getElem?_eq_some_iff.mp hx).1
      obtain ⟨kx, hkx, wkx⟩ : ∃ kx, IsK K H5 x kx ∧ Wk (bs.map (·.1)) n kx := by
        have : j = 0 ∨ j = 1 := by omega
        rcases this with h | h <;> subst h <;> cases hx
        · exact ⟨k, (W4.S.keep x5).dt hk4, wk⟩
        · exact ⟨k3, (W4.S.keep x5).dt dk4, wk3⟩
      refine ⟨rfl, _, rfl, _, rfl, _, rfl, _, rfl, _, rfl, s, i, fns, ba, bs, na, nms, x, kx, d, n, rfl, W4.ext x5 S5, N4.ext W4.S x5, by omega, hkx, wkx, by omega, fun _ => n1, by omega, fun v6 H6 p6 x6 S6 dp6 gp6 => ⟨us, x6 _ _ nFs hF5, ?_, ?_⟩⟩
      · rw [hus.1, pyPs_map, List.length_map]
        exact small1000 (by omega)
      · have hF6 := x6 _ _ nFs hF5
        have x7 : Ext s H4 (upd H6 F (.lst (us ++ [v6]))) := (x5.trans x6).over hF _
        have k7 : Keep K H6 (upd H6 F (.lst (us ++ [v6]))) := Keep.upd hF6 trivial _
        refine ⟨x7, W4.S.over S6 x7 nFs, us ++ [v6], ps ++ [p6], upd_same, ?_, by rw [List.length_append, lp]; rfl, fun p' m => ?_⟩
        · rw [pyPs_map, List.map_append, ← pyPs_map]
          exact (k7.dts ((S5.keep x6).dts hus)).snoc (k7.dt dp6)
        · rcases List.mem_append.mp m with m | m
          · exact gps p' m
          · rw [List.mem_singleton.mp m]; exact gp6
    rintro H5 ⟨x5, S5, us, ps, hF5, hus, lp, gps⟩
    obtain ⟨p1, p2, rfl⟩ := two_of lp
    have lu : us.length = 2 := by rw [hus.1, pyPs_map, List.length_map]; exact lp
    obtain ⟨u1, u2, rfl⟩ := two_of lu
    rw [pyPs, pyPs, pyPs] at hus
    have hp5 := x5 _ _ nps hp4
    dsimp only [tNext, gName]
    refine ⟨_, rfl, p, _, 0, .str y0, rfl, rfl, SqL.of hp5, at_of (j := 0) rfl rfl, _, rfl, F, _, 0, u1, rfl, rfl, SqL.of hF5, at_of (j := 0) rfl rfl, (by show 2 ≤ sizeLine; decide), fun t1 ht1 => ?_⟩
    have e6 := same_new ht1 (.tup [.str y0, u1])
    have hp6 := e6 _ _ hp5
    have hF6 := e6 _ _ hF5
    refine ⟨_, rfl, p, _, 1, .str y1, rfl, rfl, SqL.of hp6, at_of (j := 1) rfl rfl, _, rfl, F, _, 1, u2, rfl, rfl, SqL.of hF6, at_of (j := 1) rfl rfl, (by show 2 ≤ sizeLine; decide), fun t2 ht2 => ?_⟩
    have e7 := same_new ht2 (.tup [.str y1, u2])
    refine ⟨(by show 2 ≤ sizeLine; decide), fun t3 ht3 => ⟨(by show 2 ≤ sizeLine; decide), fun t4 ht4 => ?_⟩⟩
    have e8 := same_new ht3 (.tup [.ref t1, .ref t2])
    have e9 := same_new ht4 (.tup [.str "shape", .ref t3])
    have hp9 := e9 _ _ (e8 _ _ (e7 _ _ hp6))
    refine ⟨_, rfl, p, _, 0, .str y0, rfl, rfl, SqL.of hp9, at_of (j := 0) rfl rfl, (by show 3 ≤ sizeLine; decide), fun t5 ht5 => ?_⟩
    have e10 := same_new ht5 (.tup [.str "get", .ref t4, .str y0])
    have e610 := Same.trans e6 (Same.trans e7 (Same.trans e8 (Same.trans e9 e10)))
    refine q _ _ (.get (.shape [(y0, p1), (y1, p2)]) y0) ((Ext.same e02).trans (x24.trans (x5.trans (Ext.same e610)))) (S5.same e610) ?_ (.get (.shape (by show 2 ≤ 2; decide) fld fun q' m => ?_) (fld.2.2.2.2 y0 List.mem_cons_self))
    · rw [pyP, pyP, pyPF, pyPF, pyPF]
      have d1 : Dt K _ (.ref t1) (.tuple [.str y0, pyP p1]) := ((Dts.nil.cons ((Same.keep e6).dt hus.head)).cons (.str y0)).tup (SqT.of upd_same)
      have d2 : Dt K _ (.ref t2) (.tuple [.str y1, pyP p2]) := ((Dts.nil.cons ((Same.keep (Same.trans e6 e7)).dt hus.tail.head)).cons (.str y1)).tup (SqT.of upd_same)
      have d3 := ((Dts.nil.cons ((Same.keep e8).dt d2)).cons ((Same.keep (Same.trans e7 e8)).dt d1)).tup (SqT.of (K := K) (upd_same (a := t3)))
      have d4 := ((Dts.nil.cons ((Same.keep e9).dt d3)).cons (.str "shape")).tup (SqT.of (K := K) (upd_same (a := t4)))
      exact (((Dts.nil.cons (.str y0)).cons ((Same.keep e10).dt d4)).cons (.str "get")).tup (SqT.of upd_same)
    · simp only [List.mem_cons, List.not_mem_nil, or_false] at m
      rcases m with h | h <;> rw [h]
      · exact gps p1 List.mem_cons_self
      · exact gps p2 (List.mem_cons_of_mem _ List.mem_cons_self)
  exact ⟨_, rfl, _, rfl, _, rfl, _, rfl, _, rfl, s, i, fns, ba, bs, na, nms, v, k, d, n, rfl, W0, N, n10, hk, wk, nd3, n1, dm, qn, q⟩
end
end Sc
namespace Sc
open PySem PySem.Spec PyProof.Rows L2
theorem form_odds19 : ∀ z ∈ formTab.map (·.1), 2 ≤ odds z := by decide +kernel
theorem lookup_in {α : Type} : ∀ {l : List (Str × α)} {z : Str}, (l.lookup z).isSome = true → z ∈ l.map (·.1)
  | [], _, h => by cases h
  | (a, b) :: l, z, h => by
    rw [List.lookup_cons] at h
    cases e : z == a with
    | true => rw [eq_of_beq e]; exact List.mem_cons_self
    | false => rw [e] at h; exact List.mem_cons_of_mem _ (lookup_in h)
theorem form_none19 {i : Inf} {k : Int} (k19 : 19 ≤ k) : formTab.lookup (wordOf i k) = none := by
  cases e : formTab.lookup (wordOf i k) with
  | none => rfl
  | some fm =>
    have m := form_odds19 _ (lookup_in (z := wordOf i k) (by rw [e]; rfl))
    have ew : wordOf i k = reps 113 i.place.toNat ++ signAt (97 + ((k + i.turn) % 26).toNat) ++ reps 113 (i.size - i.place - 1).toNat := if_neg fun z => by omega
    rw [ew] at m
    exact absurd (Nat.le_trans m (plain_odds _ _ _)) (by decide)
theorem refs_of {K : PySem.W.Frag} {H : Hp} : ∀ {us : List V} {fs : List (Str × List Ch)}, Dts K H us (pyF fs) → ∃ ps : List Addr, us = ps.map V.ref
  | [], [], _ => ⟨[], rfl⟩
  | [], (_, _) :: _, h => absurd h.1 (by rw [pyF]; simp)
  | _ :: _, [], h => absurd h.1 (by rw [pyF]; simp)
  | u :: us, (l, k) :: fs, h => by
    have h' : Dts K H (u :: us) (.tuple [.str l, .tuple (pyL k)] :: pyF fs) := by rw [pyF] at h; exact h
    obtain ⟨ps, e⟩ := refs_of h'.tail
    obtain ⟨a, _, e2, _, _⟩ := h'.head.two
    exact ⟨a :: ps, by rw [e, e2]; rfl⟩
theorem IsB.of_pairs {K : PySem.W.Frag} {H : Hp} {g : Addr} {fs : List (Str × List Ch)} {us : List V} (nd : (fs.map (·.1)).Nodup) (hl : us.length = fs.length) (hg : H g = some (.dK (mergeK [] (zipK fs us)))) (hk : ∀ (j : Nat) (u : V) (q : Str × List Ch), us[j]? = some u → fs[j]? = some q → IsK K H u q.2) : IsB K H g fs := by
  rw [mergeK_nd _ _ (by rw [List.nil_append, zipK_fst hl]; exact List.pairwise_map.mpr ((List.pairwise_map.mp nd).imp fun h z => h (Sum.inr.inj z))), List.nil_append] at hg
  exact ⟨us, hg, hl, nd, hk⟩
def spFunc (K : PySem.W.Frag) : Sp := fun vs H Q _ => ∃ (s : Addr) (i : Inf) (fns : List Fn) (k : Nat), vs = [.ref s, .int k] ∧ Ev K H s i fns ∧ k ≤ 2 ∧ wordOf i (22 + (k : Int)) ∉ fns.map (·.name) ∧
  ∀ (v : V) (H' : Hp) (f : Fn), Ext s H H' → IsS K H' s i → FnAt K H' v f → OkFn fns f → f.name = wordOf i (22 + (k : Int)) → Q v H'
theorem nodup_words {i : Inf} (iok : i.Ok) {l : List Str} {f : Nat → Int} (h : ∀ (n : Nat) (z : Str), l[n]? = some z → z = wordOf i (f n) ∧ 0 ≤ f n ∧ f n < 26) (inj : ∀ a b, a < b → b < l.length → f a ≠ f b) : l.Nodup := by
  refine List.pairwise_iff_getElem.mpr fun a b ha hb lt e => ?_
  obtain ⟨h1, h2, h3⟩ := h a _ (List.getElem?_eq_getElem ha)
  obtain ⟨g1, g2, g3⟩ := h b _ (List.getElem?_eq_getElem hb)
  exact inj a b lt hb (word_inj iok h2 h3 g2 g3 (h1.symm.trans (e.trans g1)))
section
variable {P : Program} {w : World} {K : PySem.W.Frag} {mg : Str → Option Value} {base : Heap}
theorem c_partsD (T : Tx K mg) : ∀ m : Nat, Cal P w K mg base (3 * m + 8) "_law_part" psPart (spPart K m)
  | 0 => (T.part.never (P := P) (w := w) (base := base) (sp := spPart K 0) fun vs H Q E ⟨_, _, _, _, _, _, _, _, _, _, _, _, _, _, _, _, _, _, _, h, _⟩ => absurd h (by omega)).mono (Nat.zero_le _)
  | m + 1 => by
    have cp := c_partsD T m
    have cw := c_written T (by omega) cp
    have cr := c_reckoned T (by omega) cp
    have cc := c_call T (by omega) cp
    have cn := c_new T (by omega) cp
    have cy := c_way T (by omega) (cp.mono (Nat.le_succ _)) cc cn
    exact (c_part T (by omega) cy (cr.mono (Nat.le_succ _)) (cw.mono (Nat.le_succ _))).mono (by omega)
def nFun : List Str := ["_law_s", "_law_k", "_law_bounds_here", "_law_letters", "_law_j", "_law_params", "_law_result", "_law_body", "_law_pairs", "_law_letter"]
theorem scFun : FnScope nFun ["_law_s", "_law_k"] (defScope sFunction) := ⟨rfl, rfl, rfl, by decide +kernel, rfl, by decide +kernel, by decide +kernel⟩
theorem c_function (T : Tx K mg) : Cal P w K mg base 33 "_law_function" ["_law_s", "_law_k"] (spFunc K) := by
  have CT : Cal P w K mg base 1 "_law_taken" ["_law_s", "_law_most"] (spTaken K) := c_taken T
  have CK : Cal P w K mg base 7 "_law_kind" ["_law_s", "_law_deep", "_law_letters"] (spKind K 2) := c_kinds T 2
  have CW : Cal P w K mg base 1 "_law_word" ["_law_s", "_law_k"] (spWord K) := c_word T
  have CB : Cal P w K mg base 8 "_law_bounds" ["_law_s", "_law_most"] (spBounds K) := c_bounds T
  have CP : Cal P w K mg base 32 "_law_part" psPart (spPart K 8) := c_partsD T 8
  refine T.function.ok scFun (fun vs H Q E h => ?_) (fun f cdv A outer s0 H vs Q E hr h => ?_)
  · obtain ⟨s, i, fns, k, rfl, _⟩ := h
    rfl
  obtain ⟨s, i, fns, k, rfl, W0, k2, new, q⟩ := h
  have r1 : Room 1 _ := hr.mono (show 1 ≤ 32 by decide)
  have r7 : Room 7 _ := hr.mono (show 7 ≤ 32 by decide)
  have r8 : Room 8 _ := hr.mono (show 8 ≤ 32 by decide)
  have hu := hu_of hr
  refine ⟨_, pss_cons (ps_set (i := 2) scFun.nd rfl (Or.inr rfl) (pe_cal CB r8 (pa_cons (pv 0) (pa_cons pe_int pa_nil)))) <|
    pss_cons (ps_set (i := 3) scFun.nd rfl (Or.inr rfl) (pe_callTy (call_listD rfl) (by rfl) T.m_list (by decide +kernel) (pa_cons (pv 2) pa_nil))) <|
    pss_cons (ps_setLc (i := 5) (own := [("_law_j", 4)]) (g := gName 4) (tt := tYes) rfl scFun.nd rfl rfl (sw_true rfl rfl rfl (by decide +kernel)) (pi_range1 rfl T.m_range (pa_cons (pe_callB call_len_seq (by rfl) T.m_len PySem.boot_len (pa_cons (pv 3) pa_nil)) pa_nil)) (blkOk_by (N := nFun) (sc := defScope sFunction) (by decide +kernel))
        (fun _ _ _ _ _ => pg_name (i := 4) scFun.nd rfl (Or.inl rfl)) (fun _ _ _ _ _ => pts_nil)
        (fun _ _ _ _ _ => pe_tup (pa_cons (pe_cal CW r1 (pa_cons (pv 0) (pa_cons (pe_op op_add (pe_op op_add pe_int (pe_op op_mul pe_int (pv 1))) (pv 4)) pa_nil))) (pa_cons (pe_tup (pa_cons (pe_tup (pa_cons pe_str (pa_cons (pe_ix (ix_listK K) (pv 3) (pv 4) (fun _ _ => rfl)) pa_nil))) pa_nil)) pa_nil)))) <|
    pss_cons (ps_for PassesOwn.never rfl (pi_range1 rfl T.m_range (pa_cons (pe_cal CT r1 (pa_cons (pv 0) (pa_cons pe_int pa_nil))) pa_nil)) (pg_name (i := 4) scFun.nd rfl (Or.inl rfl))
      (pss_one (ps_expr (pe_bm PySem.F.plainAttrs_list PySem.F.slot_list_append PySem.F.type_list_append mt_append (pv 5) (pa_cons (pe_tup (pa_cons (pe_cal CW r1 (pa_cons (pv 0) (pa_cons (pe_op op_add (pe_op op_add pe_int (pe_op op_mul pe_int (pv 1))) (pv 4)) pa_nil))) (pa_cons (pe_cal CK r7 (pa_cons (pv 0) (pa_cons pe_int (pa_cons (pv 3) pa_nil)))) pa_nil))) pa_nil))))) <|
    pss_cons (ps_set (i := 6) scFun.nd rfl (Or.inl rfl) (pe_cal CK r7 (pa_cons (pv 0) (pa_cons pe_int (pa_cons (pv 3) pa_nil))))) <|
    pss_cons (ps_if (PW.pt (pw_and (pt_cmpR op_gt (pe_callB call_len_seq (by rfl) T.m_len PySem.boot_len (pa_cons (pv 3) pa_nil)) pe_int (nomark _)) (pw_and1 (pt_cmpR op_eq (pe_cal CT r1 (pa_cons (pv 0) (pa_cons pe_int pa_nil))) pe_int (nomark _)))))
      (pss_one (ps_set (i := 6) scFun.nd rfl (Or.inl rfl) (pe_tup (pa_cons (pe_tup (pa_cons pe_str (pa_cons (pe_ix ix_list (pv 3) (pe_cal CT r1 (pa_cons (pv 0) (pa_cons (pe_callB call_len_seq (by rfl) T.m_len PySem.boot_len (pa_cons (pv 3) pa_nil)) pa_nil))) (fun _ _ => rfl)) pa_nil))) pa_nil)))) pss_nil) <|
    pss_cons (ps_set (i := 7) scFun.nd rfl (Or.inl rfl) (pe_cal CP hr (pa_cons (pv 0) (pa_cons (pv 6) (pa_cons (pe_callTy (call_dictP rfl) (by rfl) T.m_dict (by decide +kernel) (pa_cons (pv 5) pa_nil)) (pa_cons (pv 2) (pa_cons pe_int pa_nil))))))) <|
    pss_cons (ps_set (i := 8) scFun.nd rfl (Or.inl rfl) (pe_callTy call_tupleF (by rfl) T.m_tuple (by decide +kernel) (pa_cons
        (pe_lc (own := [("_law_letter", 9)]) (g := gName 9) (tt := tYes) rfl scFun.nd (pi_list (pv 3)) (blkOk_by (N := nFun) (sc := defScope sFunction) (by decide +kernel))
          (fun _ _ _ _ _ => pg_name (i := 9) scFun.nd rfl (Or.inl rfl)) (fun _ _ _ _ _ => pts_nil) (fun _ _ _ _ _ => pe_tup (pa_cons (pv 9) (pa_cons (pe_dget hu (pv 2) (pv 9) (fun _ _ => rfl)) pa_nil)))) pa_nil))) <|
    pss_one (ps_ret (pe_tup (pa_cons (pe_cal CW r1 (pa_cons (pv 0) (pa_cons (pe_op op_add pe_int (pv 1)) pa_nil))) (pa_cons (pv 8) (pa_cons (pe_callTy call_tuple_of (by rfl) T.m_tuple (by decide +kernel) (pa_cons (pv 5) pa_nil)) (pa_cons (pv 6) (pa_cons (pv 7) pa_nil))))))), ?_⟩
  obtain ⟨_, _, _, _, _, iok, _⟩ := id W0.S
  refine ⟨_, rfl, s, i, 2, rfl, W0.S, by decide, fun b H1 bs x1 S1 hb hB okb b2 => ?_⟩
  have nbs : b ≠ s := W0.S.ne hb
  obtain ⟨bus, hbd, hbl, bnd, hbk⟩ := id hB
  dsimp only [tNext, gName]
  refine ⟨_, rfl, b, _, rfl, .inl hbd, fun L hL => ?_⟩
  have eL := same_new hL (.lst ((zipK bs bus).map fun kv => kV kv.1))
  have hL2 : (upd H1 L (.lst ((zipK bs bus).map fun kv => kV kv.1))) L = some (.lst ((bs.map (·.1)).map V.str)) := by rw [upd_same, zipK_keys hbl, List.map_map]; rfl
  have S2 := S1.same eL
  have x02 : Ext s H (upd H1 L (.lst ((zipK bs bus).map fun kv => kV kv.1))) := x1.trans (Ext.same eL)
  have hB2 := hB.same eL
  have nLs : L ≠ s := S1.ne hL
  generalize (upd H1 L (.lst ((zipK bs bus).map fun kv => kV kv.1))) = H2 at eL hL2 S2 x02 hB2 ⊢
  clear x1 S1 hb hB hbd hbl bnd hbk eL hL
  have lls : ((bs.map (·.1)).map V.str).length = bs.length := by rw [List.length_map, List.length_map]
  dsimp only [tNext, gName]
  refine ⟨_, rfl, L, _, rfl, .inl (SqL.of hL2), _, rfl, by omega, by omega, fun D hD => ?_⟩
  have nDs : D ≠ s := S2.ne hD
  rw [lls]
  refine lc_range (lo := 0) (n := bs.length) (fun j H3 => Ext s H2 H3 ∧ IsS K H3 s i ∧ ∃ (us : List V) (fs : List (Str × List Ch)), H3 D = some (.lst us) ∧ Dts K H3 us (pyF fs) ∧ fs.length = j ∧
      ∀ (n : Nat) (q : Str × List Ch), fs[n]? = some q → q.1 = wordOf i (10 + 4 * (k : Int) + (n : Int)) ∧ ∃ l, (bs.map (·.1))[n]? = some l ∧ q.2 = [.letter l])
    ⟨Ext.new _ hD, S2.same (same_new hD _), [], [], upd_same, Dts.nil, rfl, fun n q h => by simp at h⟩ ?_ ?_
  · rintro j H3 hj ⟨x3, S3, us, fs, hD3, hus, lf, hfs⟩
    have hl : (bs.map (·.1))[j]? = some (bs[j]).1 := by rw [List.getElem?_map, List.getElem?_eq_getElem hj]; rfl
    have hL3 := x3 _ _ nLs hL2
    refine ⟨rfl, _, rfl, _, rfl, _, _, rfl, rfl, .inl ⟨by decide, by decide⟩, _, _, rfl, rfl, _, rfl, _, _, rfl, rfl, s, i, 10 + 4 * (k : Int) + (0 + (j : Int)), rfl, S3, by omega, fun H4 e4 => ⟨_, rfl, _, rfl, L, _, 0 + (j : Int), .str (bs[j]).1, rfl, rfl, SqL.of (e4 _ _ hL3), ?_, (by show 2 ≤ sizeLine; decide), fun t1 ht1 => ⟨(by show 1 ≤ sizeLine; decide), fun t2 ht2 => ⟨(by show 2 ≤ sizeLine; decide), fun t3 ht3 => ⟨us, ?_, ?_, ?_⟩⟩⟩⟩⟩
    · refine at_of (j := j) (by omega) ?_
      rw [List.getElem?_map, hl]; rfl
    · exact (same_new ht3 _) _ _ ((same_new ht2 _) _ _ ((same_new ht1 _) _ _ (e4 _ _ hD3)))
    · rw [hus.1, pyF_map, List.length_map]
      exact small1000 (by omega)
    · have e5 := same_new ht1 (.tup [.str "letter", .str (bs[j]).1])
      have e6 := same_new ht2 (.tup [.ref t1])
      have e7 := same_new ht3 (.tup [.str (wordOf i (10 + 4 * (k : Int) + (0 + (j : Int)))), .ref t2])
      have e47 := Same.trans e4 (Same.trans e5 (Same.trans e6 e7))
      have hD7 := e47 _ _ hD3
      have dk : IsK K (upd (upd (upd H4 t1 (.tup [.str "letter", .str (bs[j]).1])) t2 (.tup [.ref t1])) t3 (.tup [.str (wordOf i (10 + 4 * (k : Int) + (0 + (j : Int)))), .ref t2])) (.ref t2) [.letter (bs[j]).1] := by
        refine IsK.one (v := .ref t1) ?_ (SqT.of (e7 _ _ upd_same))
        show Dt K _ _ (pyC (.letter (bs[j]).1))
        rw [pyC]
        exact (Same.keep (Same.trans e6 e7)).dt (((Dts.nil.cons (.str (bs[j]).1)).cons (.str "letter")).tup (SqT.of upd_same))
      have k8 : Keep K (upd (upd (upd H4 t1 (.tup [.str "letter", .str (bs[j]).1])) t2 (.tup [.ref t1])) t3 (.tup [.str (wordOf i (10 + 4 * (k : Int) + (0 + (j : Int)))), .ref t2])) (upd (upd (upd (upd H4 t1 (.tup [.str "letter", .str (bs[j]).1])) t2 (.tup [.ref t1])) t3 (.tup [.str (wordOf i (10 + 4 * (k : Int) + (0 + (j : Int)))), .ref t2])) D (.lst (us ++ [.ref t3]))) := Keep.upd hD7 trivial _
      have x8 : Ext s H2 (upd (upd (upd (upd H4 t1 (.tup [.str "letter", .str (bs[j]).1])) t2 (.tup [.ref t1])) t3 (.tup [.str (wordOf i (10 + 4 * (k : Int) + (0 + (j : Int)))), .ref t2])) D (.lst (us ++ [.ref t3]))) := (x3.trans (Ext.same e47)).over hD _
      refine ⟨x8, S2.over (S3.same e47) x8 nDs, us ++ [.ref t3], fs ++ [(wordOf i (10 + 4 * (k : Int) + (0 + (j : Int))), [.letter (bs[j]).1])], upd_same, ?_, by rw [List.length_append, lf]; rfl, fun n q hq => ?_⟩
      · rw [pyF_map, List.map_append, ← pyF_map]
        exact (k8.dts ((Same.keep e47).dts hus)).snoc (k8.dt (((Dts.nil.cons dk).cons (.str _)).tup (SqT.of upd_same)))
      · by_cases lt : n < fs.length
        · rw [List.getElem?_append_left lt] at hq
          exact hfs n q hq
        · rw [List.getElem?_append_right (by omega)] at hq
          have z : n - fs.length = 0 := by
            have := (List.getElem?_eq_some_iff.mp hq).1
            simp at this
            omega
          rw [z] at hq
          cases hq
          have en : n = j := by omega
          subst en
          exact ⟨by rw [Int.zero_add], (bs[n]).1, hl, rfl⟩
  rintro H3 ⟨x3, S3, us, fs, hD3, hus, lf, hfs⟩
  dsimp only [tNext, gName]
  refine ⟨_, rfl, s, i, 3, rfl, S3, by decide, by decide, fun r H4 r0 r3 x4 S4 => ⟨_, rfl, by omega, by omega, ?_⟩⟩
  have x24 := x3.trans x4
  refine for_range (lo := 0) (n := r.toNat) (fun j σ H5 => (∃ o4, σ = [some (.ref s), some (.int k), some (.ref b), some (.ref L), o4, some (.ref D), none, none, none, none]) ∧ Ext s H2 H5 ∧ IsS K H5 s i ∧ ∃ (us : List V) (gs : List (Str × List Ch)), H5 D = some (.lst us) ∧ Dts K H5 us (pyF (fs ++ gs)) ∧ gs.length = j ∧
      ∀ (n : Nat) (q : Str × List Ch), gs[n]? = some q → q.1 = wordOf i (12 + 4 * (k : Int) + (n : Int)) ∧ q.2 ≠ [] ∧ q.2.length ≤ 3 ∧ okL (bs.map (·.1)) 1 q.2)
    ⟨⟨_, rfl⟩, x24, S4, us, [], x4 _ _ nDs hD3, by rw [List.append_nil]; exact (S3.keep x4).dts hus, rfl, fun n q h => by simp at h⟩ ?_ ?_
  · rintro j σ H5 hj ⟨⟨o4, rfl⟩, x5, S5, us, gs, hD5, hus, lg, hgs⟩
    have hL5 := x5 _ _ nLs hL2
    dsimp only [gName]
    refine ⟨_, rfl, .inl ⟨rfl, _, SqL.of hD5⟩, _, rfl, _, rfl, _, _, rfl, rfl, .inl ⟨by decide, by decide⟩, _, _, rfl, rfl, _, rfl, _, _, rfl, rfl, s, i, 12 + 4 * (k : Int) + (0 + (j : Int)), rfl, S5, by omega, fun H6 e6 => ⟨_, rfl, _, rfl, s, L, i, 1, bs.map (·.1), rfl, S5.same e6, by decide, SqL.of (e6 _ _ hL5), by rw [List.length_map]; omega, fun kv H7 k7 x7 S7 dk7 k0 k33 okk => ⟨(by show 2 ≤ sizeLine; decide), fun t ht => ?_⟩⟩⟩
    have e8 := same_new ht (.tup [.str (wordOf i (12 + 4 * (k : Int) + (0 + (j : Int)))), kv])
    have x58 : Ext s H5 (upd H7 t (.tup [.str (wordOf i (12 + 4 * (k : Int) + (0 + (j : Int)))), kv])) := (Ext.same e6).trans (x7.trans (Ext.same e8))
    have hD8 := x58 _ _ nDs hD5
    refine ⟨D, us, _, rfl, rfl, hD8, small1000 (by rw [hus.1, pyF_map, List.length_map, List.length_append]; omega), ?_⟩
    have k9 : Keep K (upd H7 t (.tup [.str (wordOf i (12 + 4 * (k : Int) + (0 + (j : Int)))), kv])) (upd (upd H7 t (.tup [.str (wordOf i (12 + 4 * (k : Int) + (0 + (j : Int)))), kv])) D (.lst (us ++ [.ref t]))) := Keep.upd hD8 trivial _
    have x9 : Ext s H2 (upd (upd H7 t (.tup [.str (wordOf i (12 + 4 * (k : Int) + (0 + (j : Int)))), kv])) D (.lst (us ++ [.ref t]))) := (x5.trans x58).over hD _
    refine ⟨⟨_, rfl⟩, x9, S2.over (S7.same e8) x9 nDs, us ++ [.ref t], gs ++ [(wordOf i (12 + 4 * (k : Int) + (0 + (j : Int))), k7)], upd_same, ?_, by rw [List.length_append, lg]; rfl, fun n q hq => ?_⟩
    · rw [← List.append_assoc, pyF_map, List.map_append, ← pyF_map]
      exact (k9.dts ((S5.keep x58).dts hus)).snoc (k9.dt (((Dts.nil.cons ((Same.keep e8).dt dk7)).cons (.str _)).tup (SqT.of upd_same)))
    · by_cases lt : n < gs.length
      · rw [List.getElem?_append_left lt] at hq
        exact hgs n q hq
      · rw [List.getElem?_append_right (by omega)] at hq
        have z : n - gs.length = 0 := by
          have := (List.getElem?_eq_some_iff.mp hq).1
          simp at this
          omega
        rw [z] at hq
        cases hq
        have en : n = j := by omega
        subst en
        exact ⟨by rw [Int.zero_add], k0, k33, okk⟩
  rintro σ H5 ⟨⟨o4, rfl⟩, x5, S5, us5, gs, hD5, hus5, lg, hgs⟩
  clear x3 S3 hus hD3 us x4 S4 x24
  have lg' : gs.length = r.toNat := lg
  have hL5 := x5 _ _ nLs hL2
  dsimp only [tNext, gName]
  refine ⟨_, rfl, _, rfl, s, L, i, 1, bs.map (·.1), rfl, S5, by decide, SqL.of hL5, by rw [List.length_map]; omega, fun rv H6 res x6 S6 dres r0' r3' okr => ?_⟩
  have x26 := x5.trans x6
  have hus6 := (S5.keep x6).dts hus5
  have hD6 := x6 _ _ nDs hD5
  have hL6 := x6 _ _ nLs hL5
  dsimp only [tNext, gName]
  refine seq_with (fun R => ∀ (rv : V) (H7 : Hp) (res : List Ch), Ext s H6 H7 → IsS K H7 s i → IsK K H7 rv res → res ≠ [] → res.length ≤ 3 → okL (bs.map (·.1)) 1 res → R [some (.ref s), some (.int k), some (.ref b), some (.ref L), o4, some (.ref D), some rv, none, none, none] H7) ?_ ?_
  rotate_left
  · intro rest
    show tAnd _ _ _ _ _
    refine ⟨_, rfl, L, _, rfl, .inl (SqL.of hL6), _, _, rfl, rfl, _, rfl, ite2 (fun c1 => ?_) (fun _ => iteF (rest rv H6 res (Ext.refl _ _) S6 dres r0' r3' okr))⟩
    have l0 : 0 < bs.length := by
      have z : (0 : Int) < ((((bs.map (·.1)).map V.str).length : Nat) : Int) := of_decide_eq_true c1
      omega
    refine ⟨_, rfl, s, i, 2, rfl, S6, by decide, by decide, fun r2 H7 _ _ x7 S7 => ⟨rfl, _, rfl, ite2 (fun _ => ?_) (fun _ => rest rv H7 res x7 S7 ((S6.keep x7).dt dres) r0' r3' okr)⟩⟩
    have hL7 := x7 _ _ nLs hL6
    refine ⟨_, rfl, _, rfl, _, rfl, L, _, rfl, .inl (SqL.of hL7), s, i, _, rfl, S7, by omega, ?_, fun r4 H8 q0 q1 x8 S8 => ?_⟩
    · exact Nat.lt_of_le_of_lt (show ((((bs.map (·.1)).map V.str).length : Nat) : Int).natAbs ≤ 100 by omega) (by decide)
    obtain ⟨lv, hlv, hlv2⟩ := atI_some q0 q1
    rw [List.getElem?_map] at hlv2
    obtain ⟨l, hl, rfl⟩ := Option.map_eq_some_iff.mp hlv2
    have ml : l ∈ bs.map (·.1) := List.mem_of_getElem? hl
    refine ⟨L, _, r4, .str l, rfl, rfl, SqL.of (x8 _ _ nLs hL7), hlv, (by show 2 ≤ sizeLine; decide), fun t1 ht1 => ⟨(by show 1 ≤ sizeLine; decide), fun t2 ht2 => ?_⟩⟩
    have e9 := same_new ht1 (.tup [.str "letter", .str l])
    have e10 := same_new ht2 (.tup [.ref t1])
    refine rest (.ref t2) _ [.letter l] (x7.trans (x8.trans (Ext.same (Same.trans e9 e10)))) (S8.same (Same.trans e9 e10)) (IsK.one (v := .ref t1) ?_ (SqT.of upd_same)) (by simp) (by show 1 ≤ 3; decide) ⟨?_, trivial⟩
    · show Dt K _ _ (pyC (.letter l))
      rw [pyC]
      exact (Same.keep e10).dt (((Dts.nil.cons (.str l)).cons (.str "letter")).tup (SqT.of upd_same))
    · unfold okC; exact ml
  intro rv H7 res x7 S7 dres rne r3' okr
  have x27 := x26.trans x7
  have hus7 := (S6.keep x7).dts hus6
  have hD7 := x7 _ _ nDs hD6
  have hL7 := x7 _ _ nLs hL6
  clear hD5 hus5 hL5 x5 S5 x6 S6 hus6 hD6 hL6 x7 x26
  have lfs : fs.length ≤ 2 := by omega
  have lgs : gs.length ≤ 2 := by omega
  -- the params
  have pnd : ((fs ++ gs).map (·.1)).Nodup := by
    refine nodup_words iok (f := fun n => if n < fs.length then 10 + 4 * (k : Int) + (n : Int) else 12 + 4 * (k : Int) + ((n - fs.length : Nat) : Int)) (fun n z hz => ?_) (fun a b ab hb => ?_)
    · rw [List.getElem?_map] at hz
      obtain ⟨p, hp, rfl⟩ := Option.map_eq_some_iff.mp hz
      by_cases lt : n < fs.length
      · rw [List.getElem?_append_left lt] at hp
        simp only [if_pos lt]
        exact ⟨(hfs n p hp).1, by omega, by omega⟩
      · rw [List.getElem?_append_right (by omega)] at hp
        have := (List.getElem?_eq_some_iff.mp hp).1
        simp only [if_neg lt]
        exact ⟨(hgs _ p hp).1, by omega, by omega⟩
    · rw [List.length_map, List.length_append] at hb
      by_cases la : a < fs.length <;> by_cases lb : b < fs.length
      · simp only [if_pos la, if_pos lb]; omega
      · simp only [if_pos la, if_neg lb]; omega
      · omega
      · simp only [if_neg la, if_neg lb]; omega
  have pk : ∀ q ∈ fs ++ gs, Word q.1 ∧ q.2 ≠ [] ∧ q.2.length ≤ 3 ∧ okL (bs.map (·.1)) 1 q.2 := fun q hq => by
    rcases List.mem_append.mp hq with m | m
    · obtain ⟨n, hn⟩ := List.getElem?_of_mem m
      obtain ⟨e1, l, hl, e2⟩ := hfs n q hn
      rw [e1, e2]
      refine ⟨word_of iok (by omega), by simp, by show 1 ≤ 3; decide, ?_, trivial⟩
      unfold okC
      exact List.mem_of_getElem? hl
    · obtain ⟨n, hn⟩ := List.getElem?_of_mem m
      obtain ⟨e1, e2⟩ := hgs n q hn
      rw [e1]
      exact ⟨word_of iok (by omega), e2⟩
  have lss : ∀ l ∈ bs.map (·.1), Lett l := fun l m => by
    obtain ⟨q, hq, rfl⟩ := List.mem_map.mp m
    exact (okb q hq).1
  have hB7 := hB2.ext S2 x27 nbs
  have W7 := W0.ext (x02.trans x27) S7
  obtain ⟨pps, rfl⟩ := refs_of hus7
  obtain ⟨lus, hll, hpr, hlk⟩ := pairs_dts hus7
  refine ⟨_, rfl, _, rfl, _, rfl, D, pps, _, rfl, SqL.of hD7, hpr, fun g hg => ?_⟩
  have e8 := same_new hg (.dK (mergeK [] (zipK (fs ++ gs) lus)))
  have hN8 : IsB K (upd H7 g (.dK (mergeK [] (zipK (fs ++ gs) lus)))) g (fs ++ gs) := IsB.of_pairs pnd hll upd_same fun j u q a b => (Same.keep e8).dt (hlk j u q a b)
  have ngs : g ≠ s := S7.ne hg
  have x28 := x27.trans (Ext.same e8)
  have W8 := W7.same e8
  have hB8 := hB7.same e8
  have dres8 := (Same.keep (K := K) e8).dt dres
  have hus8 := (Same.keep (K := K) e8).dts hus7
  have hD8 := e8 _ _ hD7
  have hL8 := e8 _ _ hL7
  generalize (upd H7 g (.dK (mergeK [] (zipK (fs ++ gs) lus)))) = H8 at e8 hN8 x28 W8 hB8 dres8 hus8 hD8 hL8 ⊢
  have N8 : Nm K H8 s i b bs g (fs ++ gs) := ⟨nbs, hB8, okb, b2, ngs, hN8, fun q hq => ⟨(pk q hq).1, (Wk.of_ok (pk q hq).2.1 (pk q hq).2.2.1 (pk q hq).2.2.2).nm lss (by decide)⟩, fun l m => by
    obtain ⟨n, hn⟩ := List.getElem?_of_mem m
    have ln : n < fs.length := by
      have := (List.getElem?_eq_some_iff.mp hn).1
      rw [List.length_map] at this
      omega
    obtain ⟨e1, l', hl', e2⟩ := hfs n fs[n] (List.getElem?_eq_getElem ln)
    rw [hn] at hl'
    cases hl'
    refine ⟨fs[n], List.mem_append.mpr (.inl (List.getElem_mem ln)), ⟨10 + 4 * (k : Int) + (n : Int), by omega, by omega, e1⟩, fun c hc => ?_⟩
    rw [e2] at hc
    exact .inl (List.mem_singleton.mp hc)⟩
  refine ⟨_, rfl, s, i, fns, b, bs, g, fs ++ gs, rv, res, 3, 1, rfl, W8, N8, by rw [List.length_append]; omega, dres8, Wk.of_ok rne r3' okr, by decide, fun _ => by decide, by decide, fun bv H9 bp x9 S9 dbp gbp => ?_⟩
  have x29 := x28.trans x9
  have hL9 := x9 _ _ nLs hL8
  have hB9 := hB8.ext W8.S x9 nbs
  dsimp only [tNext, gName]
  -- the letters and their bounds
  refine ⟨_, rfl, L, rfl, ⟨_, SqL.of hL9⟩, fun F hF => ?_⟩
  have nFs : F ≠ s := S9.ne hF
  refine lc_list (K := K) (a := L) (xs := (bs.map (·.1)).map V.str) (fun j H10 => Same H9 H10 ∧ ∃ us : List V, H10 F = some (.lst us) ∧ Dts K H10 us (pyF (bs.take j))) ⟨same_new hF _, [], upd_same, Dts.nil⟩ (fun j H10 _ h => SqL.of (h.1 _ _ hL9)) ?_ ?_
  · rintro j x H10 hx ⟨e10, us, hF10, hus10⟩
    rw [List.getElem?_map, List.getElem?_map] at hx
    obtain ⟨l, hl, rfl⟩ := Option.map_eq_some_iff.mp hx
    obtain ⟨qq, hqq, rfl⟩ := Option.map_eq_some_iff.mp hl
    obtain ⟨u, gg, du⟩ := (hB9.same e10).at hqq
    refine ⟨rfl, _, rfl, _, rfl, _, rfl, b, u, rfl, gg, (by show 2 ≤ sizeLine; decide), fun t ht => ?_⟩
    have e11 := same_new ht (.tup [.str qq.1, u])
    have hF11 := e11 _ _ hF10
    have jl := (List.getElem?_eq_some_iff.mp hqq).1
    refine ⟨us, hF11, ?_, fun c o hc => ?_, us ++ [.ref t], upd_same, ?_⟩
    · rw [hus10.1, pyF_map, List.length_map, List.length_take]
      exact small1000 (by omega)
    · rw [upd_ne (ne_of_none hc hF)]
      exact e11 _ _ (e10 c o hc)
    · have k12 : Keep K (upd H10 t (.tup [.str qq.1, u])) (upd (upd H10 t (.tup [.str qq.1, u])) F (.lst (us ++ [.ref t]))) := Keep.upd hF11 trivial _
      rw [List.take_add_one, hqq, pyF_map, List.map_append, ← pyF_map]
      exact (k12.dts ((Same.keep e11).dts hus10)).snoc (k12.dt (((Dts.nil.cons ((Same.keep e11).dt du)).cons (.str qq.1)).tup (SqT.of upd_same)))
  rintro H10 ⟨e10, us, hF10, hus10⟩
  rw [lls, List.take_of_length_le (Nat.le_refl _)] at hus10
  obtain ⟨lps, rfl⟩ := refs_of hus10
  refine ⟨F, _, rfl, SqL.of hF10, fun la o hla od => ?_⟩
  have e11 := same_new hla (.frz o (.tup (lps.map V.ref)))
  have sqf : SqF (upd H10 la (.frz o (.tup (lps.map V.ref)))) la (lps.map V.ref) := ⟨o, od, upd_same⟩
  have hus11 := (Same.keep (K := K) e11).dts hus10
  have e911 := Same.trans e10 e11
  generalize (upd H10 la (.frz o (.tup (lps.map V.ref)))) = H11 at e11 sqf hus11 e911 ⊢
  have S11 := S9.same e911
  dsimp only [tNext, gName]
  refine ⟨_, rfl, _, rfl, _, _, rfl, rfl, s, i, 22 + (k : Int), rfl, S11, by omega, fun H12 e12 => ?_⟩
  have e912 := Same.trans e911 e12
  have hD12 := e912 _ _ (x9 _ _ nDs hD8)
  refine ⟨_, rfl, _, rfl, D, _, rfl, .inl ⟨SqL.of hD12, fun t1 ht1 => ⟨_, rfl, _, rfl, (by show 5 ≤ sizeLine; decide), fun t2 ht2 => ?_⟩⟩⟩
  have e13 := same_new ht1 (.tup (pps.map V.ref))
  have e14 := same_new ht2 (.tup [.str (wordOf i (22 + (k : Int))), .ref la, .ref t1, rv, bv])
  have e914 := Same.trans e912 (Same.trans e13 e14)
  have x014 := (x02.trans x29).trans (Ext.same e914)
  refine q _ _ ⟨wordOf i (22 + (k : Int)), bs, fs ++ gs, res, bp⟩ x014 (S9.same e914) ⟨t2, la, lps, .ref t1, rv, bv, rfl, SqT.of upd_same, sqf.same (Same.trans e12 (Same.trans e13 e14)), (Same.keep (Same.trans e12 (Same.trans e13 e14))).dts hus11, ?_, ?_, ?_⟩ ?_ rfl
  · exact (Same.keep e14).dt (((Same.keep (Same.trans e912 e13)).dts ((W8.S.keep x9).dts hus8)).tup (SqT.of upd_same))
  · exact (Same.keep e914).dt ((W8.S.keep x9).dt dres8)
  · exact (Same.keep e914).dt dbp
  · exact ⟨word_of iok (by omega), form_none19 (by omega), new, b2, hB2.nd, okb, by show (fs ++ gs).length ≤ 4; rw [List.length_append]; omega, pnd, fun q hq => (pk q hq).1, fun q hq => (pk q hq).2, ⟨rne, r3', okr⟩, gbp⟩
end
end Sc
namespace Sc
open PySem PyProof.Rows L2
def ExtF (s f : Addr) (H H' : Hp) : Prop := ∀ b o, b ≠ s → b ≠ f → H b = some o → H' b = some o
theorem IsS.updF {K : PySem.W.Frag} {H : Hp} {s : Addr} {i : Inf} (S : IsS K H s i) (nf : i.f ≠ s) (cf : i.c ≠ i.f ∨ ∃ ns : List Int, ns.length ≤ 63 ∧ ∀ H, SqL K H i.c (ns.map V.int)) (o : HO) : IsS K (L2.upd H i.f o) s i := by
  obtain ⟨ns, m, a1, a2, a3, a4⟩ := S
  rcases cf with c | ⟨ns', l, k⟩
  · refine ⟨ns, m, by rw [upd_ne nf.symm]; exact a1, ?_, a3, a4⟩
    rcases a2 with (h | ⟨u, h⟩) | h
    · exact .inl (.inl (by rw [upd_ne c]; exact h))
    · exact .inl (.inr ⟨u, by rw [upd_ne c]; exact h⟩)
    · exact .inr h
  · exact ⟨ns', m, by rw [upd_ne nf.symm]; exact a1, k _, l, a4⟩
def spProgram (K : PySem.W.Frag) : Sp := fun vs H Q _ => ∃ (s : Addr) (i : Inf) (n : Nat), vs = [.ref s, .int n] ∧ Ev K H s i [] ∧ n ≤ 3 ∧
  ∀ (l : Addr) (H' : Hp) (fns : List Fn) (us : List V), ExtF s i.f H H' → Ev K H' s i fns → fns.length = n → H' l = some (.lst us) → FnsL K H' us fns → l ≠ s → l ≠ i.f → H l = none → Q (.ref l) H'
section
variable {P : Program} {w : World} {K : PySem.W.Frag} {mg : Str → Option Value} {base : Heap}
theorem scPg : FnScope ["_law_s", "_law_many", "_law_k"] ["_law_s", "_law_many"] (defScope sProgram) := ⟨rfl, rfl, rfl, by decide +kernel, rfl, by decide +kernel, by decide +kernel⟩
theorem c_program (T : Tx K mg) : Cal P w K mg base 34 "_law_program" ["_law_s", "_law_many"] (spProgram K) := by
  have CF : Cal P w K mg base 33 "_law_function" ["_law_s", "_law_k"] (spFunc K) := c_function T
  refine T.program.ok scPg (fun vs H Q E h => ?_) (fun f cdv A outer s0 H vs Q E hr h => ?_)
  · obtain ⟨s, i, n, rfl, _⟩ := h
    rfl
  obtain ⟨s, i, n, rfl, W0, n3, q⟩ := h
  have hu := hu_of hr
  refine ⟨_, pss_cons (ps_for PassesOwn.never rfl (pi_range1 rfl T.m_range (pa_cons (pv 1) pa_nil)) (pg_name (i := 2) scPg.nd rfl (Or.inl rfl))
      (pss_one (ps_expr (pe_bm PySem.F.plainAttrs_list PySem.F.slot_list_append PySem.F.type_list_append mt_append (pe_dget hu (pv 0) pe_str (fun _ _ => rfl)) (pa_cons (pe_cal CF hr (pa_cons (pv 0) (pa_cons (pv 2) pa_nil))) pa_nil))))) <|
    pss_one (ps_ret (pe_callTy call_list_of (by rfl) T.m_list (by decide +kernel) (pa_cons (pe_dget hu (pv 0) pe_str (fun _ _ => rfl)) pa_nil))), ?_⟩
  obtain ⟨_, _, _, _, _, iok, _⟩ := id W0.S
  refine ⟨_, rfl, _, rfl, by omega, by omega, ?_⟩
  refine for_range (lo := 0) (n := n) (fun j σ H2 => (∃ o, σ = [some (.ref s), some (.int n), o]) ∧ ExtF s i.f H H2 ∧ ∃ fns, Ev K H2 s i fns ∧ fns.length = j ∧ ∀ f ∈ fns, ∃ k : Nat, k < j ∧ f.name = wordOf i (22 + (k : Int)))
    ⟨⟨_, rfl⟩, fun _ _ _ _ h => h, [], W0, rfl, fun f m => by cases m⟩ ?_ ?_
  · rintro j σ H2 hj ⟨⟨o, rfl⟩, x2, fns, W2, lf, nm⟩
    obtain ⟨ns, mv, hs2, _⟩ := id W2.S
    obtain ⟨us, hf2, hfl⟩ := W2.fn
    have new : wordOf i (22 + (j : Int)) ∉ fns.map (·.name) := fun m => by
      obtain ⟨f, hf, e⟩ := List.mem_map.mp m
      obtain ⟨k, kj, ek⟩ := nm f hf
      have := word_inj iok (by omega) (by omega) (by omega) (by omega) (ek.symm.trans e)
      omega
    refine ⟨_, rfl, s, .ref i.f, rfl, gS hs2 rfl, .inl ⟨rfl, _, SqL.of hf2⟩, _, rfl, _, rfl, s, i, fns, j, ?_, W2, by omega, new, fun v H3 f3 x3 S3 fa3 ok3 nm3 => ?_⟩
    · show ([.ref s, .int (0 + (j : Int))] : List V) = _; rw [Int.zero_add]
    have hf3 := x3 _ _ W2.nf hf2
    have W3 := W2.ext x3 S3
    have lu : us.length = fns.length := hfl.1
    refine ⟨i.f, us, v, rfl, rfl, hf3, small1000 (by omega), ?_⟩
    have k4 : Keep K H3 (upd H3 i.f (.lst (us ++ [v]))) := Keep.upd hf3 trivial _
    have kf4 : ∀ a xs, SqF H3 a xs → SqF (upd H3 i.f (.lst (us ++ [v]))) a xs := fun a xs ⟨ob, od, h⟩ => ⟨ob, od, by rw [upd_ne fun z => by rw [z, hf3] at h; cases h]; exact h⟩
    obtain ⟨kvs2, hs2'⟩ := W2.S.dk
    have fl3 : FnsL K H3 us fns := hfl.keep (W2.S.keep x3) fun a xs q => q.ext hs2' x3
    refine ⟨⟨_, rfl⟩, fun b o' n1 n2 h => ?_, fns ++ [f3], ⟨S3.updF W2.nf W2.cf _, W2.o0, W2.o8, W2.nf, ⟨us ++ [v], upd_same, ?_, fun m v' f' h1 h2 => ?_⟩, .snoc W2.pr ok3, by rw [List.length_append]; show fns.length + 1 ≤ 3; omega, W2.cf⟩, by rw [List.length_append, lf]; rfl, fun f' m => ?_⟩
    · rw [upd_ne n2]; exact x3 _ _ n1 (x2 _ _ n1 n2 h)
    · rw [List.length_append, List.length_append, lu]; rfl
    · by_cases lt : m < us.length
      · rw [List.getElem?_append_left lt] at h1
        rw [List.getElem?_append_left (by omega)] at h2
        exact (fl3.2 m v' f' h1 h2).keep k4 kf4
      · rw [List.getElem?_append_right (by omega)] at h1
        rw [List.getElem?_append_right (by omega)] at h2
        have z : m - us.length = 0 := by
          have := (List.getElem?_eq_some_iff.mp h1).1
          simp at this
          omega
        rw [z] at h1
        rw [← lu, z] at h2
        cases h1; cases h2
        exact fa3.keep k4 kf4
    · rcases List.mem_append.mp m with m | m
      · obtain ⟨k, kj, ek⟩ := nm f' m
        exact ⟨k, by omega, ek⟩
      · rw [List.mem_singleton.mp m]
        exact ⟨j, by omega, nm3⟩
  · rintro σ H2 ⟨⟨o, rfl⟩, x2, fns, W2, lf, nm⟩
    obtain ⟨ns, mv, hs2, _⟩ := id W2.S
    obtain ⟨us, hf2, hfl⟩ := W2.fn
    have lf' : fns.length = n := lf
    refine ⟨_, rfl, s, .ref i.f, rfl, gS hs2 rfl, i.f, us, rfl, .inl (SqL.of hf2), fun l hl => ?_⟩
    have e3 := same_new hl (.lst us)
    have nls : l ≠ s := fun z => by rw [z, hs2] at hl; cases hl
    have nlf : l ≠ i.f := fun z => by rw [z, hf2] at hl; cases hl
    refine q l _ fns us (fun b o' n1 n2 h => e3 _ _ (x2 _ _ n1 n2 h)) (W2.same e3) lf' upd_same (hfl.keep (Same.keep e3) fun a xs q => q.same e3) nls nlf ?_
    cases h : H l with
    | none => rfl
    | some o' => rw [x2 _ _ nls nlf h] at hl; cases hl
end
end Sc
namespace Sc
open PySem PyProof.Rows L2
section
variable {P : Program} {w : World} {K : PySem.W.Frag} {mg : Str → Option Value} {base : Heap} {T0 : List Addr}
theorem scHasLen : FnScope ["thing"] ["thing"] (defScope sPHasWordLength) := ⟨rfl, rfl, rfl, by decide +kernel, rfl, by decide +kernel, by decide +kernel⟩
theorem c_has_len (T : Tx K mg) (hl8 : ∃ t, mg "LONGEST_WORD" = some (.int 8 t)) : Cal P w K mg base 1 "_has_word_length" ["thing"] (spTest K T0 lenOkD) := by
  refine T.p_has_word_length.ok scHasLen (fun vs H Q E h => ?_) (fun f cdv A outer s H vs Q E hr h => ?_)
  · obtain ⟨v, d, rfl, _⟩ := h
    rfl
  obtain ⟨v, d, rfl, hd, ok, tb, q⟩ := h
  obtain ⟨t8, m8⟩ := hl8
  refine ⟨_, pss_one (ps_ret (pe_and (pe_callB call_isi (by rfl) T.m_isinstance boot_isinstance (pa_cons (pv 0) (pa_cons (pe_bltn (v := .ty "str") (by rfl) T.m_str boot_str rfl) pa_nil)))
    (pe_one (pe_chain op_le op_le pe_int (pe_callB call_len_str (by rfl) T.m_len PySem.boot_len (pa_cons (pv 0) pa_nil)) (pe_glob (v := .int 8) (by rfl) m8 ⟨_, rfl⟩))))), ?_⟩
  refine ⟨_, rfl, v, _, _, _, _, rfl, .ty _, Dp.ty hd, kit_ty (isStr hd), _, rfl, ?_⟩
  have fin := q H (Fr.refl tb)
  cases hd with
  | str z =>
    refine iteT ⟨_, rfl, z, rfl, ?_, _, _, rfl, rfl, _, rfl, ?_⟩
    · have h2 : decide (z.length ≤ 1000) = true := ok.2
      exact sizeOk (by have := of_decide_eq_true h2; omega)
    · have e1 : decide ((1 : Int) ≤ (z.length : Int)) = decide (1 ≤ z.length) := decide_eq_decide.mpr (by omega)
      have e2 : decide ((z.length : Int) ≤ 8) = decide (z.length ≤ 8) := decide_eq_decide.mpr (by omega)
      have fin' : Q (.bl (decide (1 ≤ z.length) && decide (z.length ≤ 8))) H := fin
      rw [e1]
      cases h1 : decide (1 ≤ z.length) with
      | false =>
        rw [h1, Bool.false_and] at fin'
        exact iteF fin'
      | true =>
        rw [h1, Bool.true_and, ← e2] at fin'
        exact iteT ⟨_, _, rfl, rfl, fin'⟩
  | non => exact iteF fin
  | bl b => exact iteF fin
  | int b => exact iteF fin
  | lst _ _ => exact iteF fin
  | tup _ _ => exact iteF fin
end
end Sc
namespace Sc
open PySem PyProof.Rows L2
section
variable {P : Program} {w : World} {K : PySem.W.Frag} {mg : Str → Option Value} {base : Heap} {T0 : List Addr}
theorem word_iff (z : Str) : decide (Word z) = ((decide (1 ≤ z.length) && decide (z.length ≤ 8)) && z.cps.toList.all fun c => decide (97 ≤ c) && decide (c ≤ 122)) := by
  rw [Bool.eq_iff_iff]
  simp only [Bool.and_eq_true, decide_eq_true_eq, List.all_eq_true]
  exact ⟨fun h => ⟨⟨h.1, h.2.1⟩, h.2.2⟩, fun h => ⟨h.1.1, h.1.2, h.2⟩⟩
theorem lett_iff (z : Str) : decide (Lett z) = ((decide (1 ≤ z.length) && decide (z.length ≤ 8)) && z.cps.toList.all fun c => decide (65 ≤ c) && decide (c ≤ 90)) := by
  rw [Bool.eq_iff_iff]
  simp only [Bool.and_eq_true, decide_eq_true_eq, List.all_eq_true]
  exact ⟨fun h => ⟨⟨h.1, h.2.1⟩, h.2.2⟩, fun h => ⟨h.1.1, h.1.2, h.2⟩⟩
theorem scIsWord : FnScope ["thing"] ["thing"] (defScope sIsWord) := ⟨rfl, rfl, rfl, by decide +kernel, rfl, by decide +kernel, by decide +kernel⟩
theorem scIsLetter : FnScope ["thing"] ["thing"] (defScope sIsLetter) := ⟨rfl, rfl, rfl, by decide +kernel, rfl, by decide +kernel, by decide +kernel⟩
def spSigns (T : List Addr) : Sp := fun vs H Q _ => ∃ z : Str, vs = [.str z] ∧ Tb T H ∧ ∀ (H' : Hp), Fr T H H' → Q (.bl (z.cps.toList.all fun c => decide (97 ≤ c) && decide (c ≤ 122))) H'
theorem scWordSigns : FnScope ["text"] ["text"] (defScope sHasWordSigns) := ⟨rfl, rfl, rfl, by decide +kernel, rfl, by decide +kernel, by decide +kernel⟩
theorem c_word_signs {c Pa : Addr} (T : Tx K mg) (D : DefT K mg "has_word_signs" sHasWordSigns ["text"] c) (TB : GxR.TabB base mg c Pa) (hP : Pa ∈ T0) : Cal P w K mg base 1 "has_word_signs" ["text"] (spSigns T0) := by
  refine D.ok scWordSigns (fun vs H Q E h => ?_) (fun f A outer s H vs Q E hr h => ?_)
  · obtain ⟨z, rfl, _⟩ := h
    rfl
  obtain ⟨z, rfl, tb, q⟩ := h
  refine ⟨_, pss_one (ps_ret (GxR.pe_allS hr (by rfl) T.m_all (by decide +kernel) TB (by rfl) (gen_by (by decide +kernel)) (pv 0) (elt_between (a := 97) (b := 122) (by rfl) (by rfl)) (fun _ => rfl))), ?_⟩
  obtain ⟨ps, g, tr⟩ := tb Pa hP
  exact ⟨_, rfl, z, rfl, ⟨ps, g, tr⟩, fun H2 t2 => q H2 (Fr.tabbed tb t2 hP)⟩
theorem c_is_word (T : Tx K mg) (CS : Cal P w K mg base 1 "has_word_signs" ["text"] (spSigns T0)) (hl8 : ∃ t, mg "LONGEST_WORD" = some (.int 8 t)) : Cal P w K mg base 2 "is_word" ["thing"] (spTest K T0 isWordD) := by
  have CL : Cal P w K mg base 1 "_has_word_length" ["thing"] (spTest K T0 lenOkD) := c_has_len T hl8
  refine T.is_word.ok scIsWord (fun vs H Q E h => ?_) (fun f cdv A outer s H vs Q E hr h => ?_)
  · obtain ⟨v, d, rfl, _⟩ := h
    rfl
  obtain ⟨v, d, rfl, hd, ok, tb, q⟩ := h
  refine ⟨_, pss_one (ps_ret (pe_and (pe_cal CL hr (pa_cons (pv 0) pa_nil)) (pe_one (pe_cal CS hr (pa_cons (pv 0) pa_nil))))), ?_⟩
  refine ⟨_, rfl, v, d, rfl, hd, ok, tb, fun H1 f1 => ⟨_, rfl, ?_⟩⟩
  cases h1 : lenOkD d with
  | false =>
    have e : isWordD d = false := by
      cases d with
      | str z =>
        show decide (Word z) = false
        rw [word_iff, show (decide (1 ≤ z.length) && decide (z.length ≤ 8)) = false from h1, Bool.false_and]
      | _ => rfl
    have fin := q H1 f1
    rw [e] at fin
    exact iteF fin
  | true =>
    cases hd with
    | str z =>
      refine iteT ⟨_, rfl, z, rfl, f1.tab, fun H2 f2 => ?_⟩
      have fin := q H2 (f1.trans f2)
      have e : isWordD (.str z) = z.cps.toList.all fun c => decide (97 ≤ c) && decide (c ≤ 122) := by
        show decide (Word z) = _
        rw [word_iff, show (decide (1 ≤ z.length) && decide (z.length ≤ 8)) = true from h1, Bool.true_and]
      rw [e] at fin
      exact fin
    | non => cases h1
    | bl _ => cases h1
    | int _ => cases h1
    | lst _ _ => cases h1
    | tup _ _ => cases h1
theorem c_is_letter {c Pa : Addr} (T : Tx K mg) (D : DefT K mg "is_letter" sIsLetter ["thing"] c) (TB : GxR.TabB base mg c Pa) (hP : Pa ∈ T0) (hl8 : ∃ t, mg "LONGEST_WORD" = some (.int 8 t)) : Cal P w K mg base 2 "is_letter" ["thing"] (spTest K T0 isLettD) := by
  have CL : Cal P w K mg base 1 "_has_word_length" ["thing"] (spTest K T0 lenOkD) := c_has_len T hl8
  refine D.ok scIsLetter (fun vs H Q E h => ?_) (fun f A outer s H vs Q E hr h => ?_)
  · obtain ⟨v, d, rfl, _⟩ := h
    rfl
  obtain ⟨v, d, rfl, hd, ok, tb, q⟩ := h
  refine ⟨_, pss_one (ps_ret (pe_and (pe_cal CL hr (pa_cons (pv 0) pa_nil)) (pe_one (GxR.pe_allS hr (by rfl) T.m_all (by decide +kernel) TB (by rfl) (gen_by (by decide +kernel)) (pv 0) (elt_between (a := 65) (b := 90) (by rfl) (by rfl)) (fun _ => rfl))))), ?_⟩
  refine ⟨_, rfl, v, d, rfl, hd, ok, tb, fun H1 f1 => ⟨_, rfl, ?_⟩⟩
  cases h1 : lenOkD d with
  | false =>
    have e : isLettD d = false := by
      cases d with
      | str z =>
        show decide (Lett z) = false
        rw [lett_iff, show (decide (1 ≤ z.length) && decide (z.length ≤ 8)) = false from h1, Bool.false_and]
      | _ => rfl
    have fin := q H1 f1
    rw [e] at fin
    exact iteF fin
  | true =>
    cases hd with
    | str z =>
      obtain ⟨ps, g, tr⟩ := f1.tab Pa hP
      refine iteT ⟨_, rfl, z, rfl, ⟨ps, g, tr⟩, fun H2 t2 => ?_⟩
      have fin := q H2 (f1.trans (Fr.tabbed f1.tab t2 hP))
      have e : isLettD (.str z) = z.cps.toList.all fun c => decide (65 ≤ c) && decide (c ≤ 90) := by
        show decide (Lett z) = _
        rw [lett_iff, show (decide (1 ≤ z.length) && decide (z.length ≤ 8)) = true from h1, Bool.true_and]
      rw [e] at fin
      exact fin
    | non => cases h1
    | bl _ => cases h1
    | int _ => cases h1
    | lst _ _ => cases h1
    | tup _ _ => cases h1
end
end Sc
namespace Sc
open PySem PyProof.Rows L2
section
variable {P : Program} {w : World} {K : PySem.W.Frag} {mg : Str → Option Value} {base : Heap} {T0 : List Addr}
theorem scAreFields : FnScope ["thing", "pair", "fields"] ["thing"] (defScope sAreFields) := ⟨rfl, rfl, rfl, by decide +kernel, rfl, by decide +kernel, by decide +kernel⟩
theorem c_are_fields (T : Tx K mg) : Cal P w K mg base 1 "are_fields" ["thing"] (spTest K T0 fldD) := by
  refine T.are_fields.ok scAreFields (fun vs H Q E h => ?_) (fun f cdv A outer s H vs Q E hr h => ?_)
  · obtain ⟨v, d, rfl, _⟩ := h
    rfl
  obtain ⟨v, d, rfl, hd, ok, tb, q⟩ := h
  have hu := hr.units
  refine ⟨_, pss_cons (ps_if (PW.pt (pw_or (pt_not (pt_val (pe_callB call_isi (by rfl) T.m_isinstance boot_isinstance (pa_cons (pv 0) (pa_cons (pe_bltn (v := .ty "tuple") (by rfl) T.m_tuple boot_tuple rfl) pa_nil)))))
        (pw_or1 (pt_cmpR op_eq (pe_callB call_len_seq (by rfl) T.m_len PySem.boot_len (pa_cons (pv 0) pa_nil)) pe_int (nomark _))))) (pss_one (ps_ret pe_bl)) pss_nil)
    (pss_cons (ps_for PassesOwn.never rfl (pi_tup (pv 0)) (pg_name (i := 1) scAreFields.nd rfl (Or.inl rfl))
      (pss_one (ps_if (PW.pt (pw_or (pt_not (pt_val (pe_callB call_isi (by rfl) T.m_isinstance boot_isinstance (pa_cons (pv 1) (pa_cons (pe_bltn (v := .ty "tuple") (by rfl) T.m_tuple boot_tuple rfl) pa_nil)))))
        (pw_or (pt_cmpR op_ne (pe_callB call_len_seq (by rfl) T.m_len PySem.boot_len (pa_cons (pv 1) pa_nil)) pe_int (nomark _))
        (pw_or1 (pt_not (pt_val (pe_callB call_isi (by rfl) T.m_isinstance boot_isinstance (pa_cons (pe_ix ix_tup (pv 1) pe_int (fun _ _ => rfl)) (pa_cons (pe_bltn (v := .ty "str") (by rfl) T.m_str boot_str rfl) pa_nil)))))))))
        (pss_one (ps_ret pe_bl)) pss_nil)))
    (pss_cons (ps_setLc (i := 2) (own := [("pair", 1)]) (g := gName 1) (tt := tYes) rfl scAreFields.nd rfl rfl (sw_true rfl rfl rfl (by decide +kernel)) (pi_tup (pv 0)) (blkOk_by (N := ["thing", "pair", "fields"]) (sc := defScope sAreFields) (by decide +kernel))
        (fun _ _ _ _ _ => pg_name (i := 1) scAreFields.nd rfl (Or.inl rfl)) (fun _ _ _ _ _ => pts_nil) (fun _ _ _ _ _ => pe_ix (ix_tupK K) (pv 1) pe_int (fun _ _ => rfl)))
    (pss_one (ps_ret (pe_cmpR (op_eqD hu) (pv 2) (pe_callB (cr_txSorted rfl) (by rfl) T.m_sorted (by decide +kernel) (pa_cons (pe_callTy (cr_txSet rfl) (by rfl) T.m_set (by decide +kernel) (pa_cons (pv 2) pa_nil)) pa_nil)) (nomark _)))))), ?_⟩
  dsimp only [gName]
  have neg : fldD d = false → Q (.bl false) H := fun e => by
    have fin := q H (Fr.refl tb)
    rw [e] at fin
    exact fin
  show tOr _ _ _ _ _
  have ty := Dp.ty hd
  have it := isTup hd
  have dp := hd
  cases hd with
  | tup ht hds =>
    rename_i a vs ds
    obtain ⟨len, okx⟩ := ok.sub
    have lv := DpAll.len hds
    refine or_pure false (decide (vs.length = 0)) (fun R h => ⟨_, rfl, _, _, _, _, _, rfl, .ty _, ty, kit_ty it, _, rfl, h⟩) (fun _ R h => ⟨_, rfl, a, vs, rfl, .inr ht, rfl, _, rfl, ?_⟩) (fun h => ?_) (fun _ h => ?_)
    · rw [eqV_int, decide_eq_decide.mpr (show ((vs.length : Nat) : Int) = 0 ↔ vs.length = 0 by omega)]
      exact h
    · have z : vs.length = 0 := of_decide_eq_true (h.elim (fun z => by cases z) id)
      have z2 : ds = [] := List.length_eq_zero_iff.mp (lv.symm.trans z)
      exact neg (by rw [z2]; rfl)
    have n0 : vs.length ≠ 0 := of_decide_eq_false h
    have d0 : ds ≠ [] := fun z => n0 (by rw [lv, z]; rfl)
    refine ⟨_, rfl, a, rfl, ⟨_, ht⟩, ?_⟩
    refine for_tup (K := K) (a := a) (xs := vs) (fun j σ2 H2 => H2 = H ∧ (∃ o, σ2 = [some (.ref a), o, none]) ∧ (ds.take j).all pairD = true) ⟨rfl, ⟨_, rfl⟩, rfl⟩ (fun j σ2 H2 _ h => by rw [h.1]; exact ht) ?_ ?_
    · rintro j x σ2 H2 hx ⟨rfl, ⟨o, rfl⟩, hp⟩
      obtain ⟨d, hd1, hd2⟩ := DpAll.get hds hx
      have md := List.mem_of_getElem? hd1
      have negd : pairD d = false → Q (.bl false) H2 := fun e => neg (by
        have z : ds.all pairD = false := Bool.eq_false_iff.mpr fun z => by
          have := List.all_eq_true.mp z d md
          rw [e] at this
          cases this
        show (!ds.isEmpty && ds.all pairD && _) = false
        rw [z, Bool.and_false, Bool.false_and])
      dsimp only [gName]
      show tOr _ _ _ _ _
      have ty := Dp.ty hd2
      have it := isTup hd2
      have next : pairD d = true → H2 = H2 ∧ (∃ o, (([some (.ref a), o, none] : L2.St).set 1 (some x)) = [some (.ref a), o, none]) ∧ (ds.take (j + 1)).all pairD = true := fun e =>
        ⟨rfl, ⟨_, rfl⟩, by rw [List.take_add_one, hd1, List.all_append, hp]; simp [e]⟩
      cases hd2 with
      | tup ht2 hds2 =>
        rename_i a2 vs2 ds2
        have lv2 := DpAll.len hds2
        refine or_pure false (!pairD (.tuple ds2)) (fun R h => ⟨_, rfl, _, _, _, _, _, rfl, .ty _, ty, kit_ty it, _, rfl, h⟩) (fun _ R hR => ?_) (fun h => ?_) (fun _ h => ?_)
        · show tOr _ _ _ _ _
          refine or_pure (decide (¬ vs2.length = 2)) (!pairD (.tuple ds2)) (fun R h => ⟨_, rfl, a2, vs2, rfl, .inr ht2, rfl, _, rfl, ?_⟩) (fun e R h => ?_) (fun h => ?_) (fun _ h => ?_)
          · rw [eqV_int, decide_eq_decide.mpr (show ((vs2.length : Nat) : Int) = 2 ↔ vs2.length = 2 by omega), ← decide_not]
            exact h
          · have two : vs2.length = 2 := Classical.byContradiction fun z => by rw [decide_eq_true z] at e; cases e
            obtain ⟨x1, x2, d1, d2, rfl, rfl, h1, h2⟩ := two_open hds2 two
            rw [pair_two] at h
            exact ⟨_, rfl, a2, _, _, _, rfl, rfl, ht2, rfl, _, _, _, _, _, rfl, .ty _, Dp.ty h1, kit_ty (isStr h1), _, rfl, h⟩
          · have e5 : pairD (.tuple ds2) = false := h.elim (fun z => pair_len (by rw [← lv2]; exact of_decide_eq_true z)) (fun z => by simpa using z)
            rw [e5] at hR
            exact hR
          · rw [h] at hR
            exact hR
        · exact negd (by simpa using h.elim (fun z => by cases z) id)
        · exact next (by simpa using h)
      | str _ => exact or_pure true true (fun R h => ⟨_, rfl, _, _, _, _, _, rfl, .ty _, ty, kit_ty it, _, rfl, h⟩) (fun h => by cases h) (fun _ => negd rfl) (fun h => by cases h)
      | non => exact or_pure true true (fun R h => ⟨_, rfl, _, _, _, _, _, rfl, .ty _, ty, kit_ty it, _, rfl, h⟩) (fun h => by cases h) (fun _ => negd rfl) (fun h => by cases h)
      | bl b => exact or_pure true true (fun R h => ⟨_, rfl, _, _, _, _, _, rfl, .ty _, ty, kit_ty it, _, rfl, h⟩) (fun h => by cases h) (fun _ => negd rfl) (fun h => by cases h)
      | int b => exact or_pure true true (fun R h => ⟨_, rfl, _, _, _, _, _, rfl, .ty _, ty, kit_ty it, _, rfl, h⟩) (fun h => by cases h) (fun _ => negd rfl) (fun h => by cases h)
      | lst _ _ => exact or_pure true true (fun R h => ⟨_, rfl, _, _, _, _, _, rfl, .ty _, ty, kit_ty it, _, rfl, h⟩) (fun h => by cases h) (fun _ => negd rfl) (fun h => by cases h)
    · rintro σ2 H2 ⟨rfl, ⟨o, rfl⟩, hp⟩
      rw [lv, List.take_length] at hp
      have fields : ∀ {j : Nat} {x : V}, vs[j]? = some x → ∃ (a2 : Addr) (x1 x2 : V) (d2 : PyData) (z : Str), x = .ref a2 ∧ SqT K H2 a2 [x1, x2] ∧ x1 = .str z ∧ ds[j]? = some (.tuple [.str z, d2]) ∧ (ds.map nameD)[j]? = some z := fun {j x} hx => by
        obtain ⟨d, hd1, hd2⟩ := DpAll.get hds hx
        have pd := List.all_eq_true.mp hp d (List.mem_of_getElem? hd1)
        cases hd2 with
        | tup ht2 hds2 =>
          rename_i a2 vs2 ds2
          have two : vs2.length = 2 := Classical.byContradiction fun z => by rw [pair_len (by rw [← DpAll.len hds2]; exact z)] at pd; cases pd
          obtain ⟨x1, x2, d1, d2, rfl, rfl, h1, h2⟩ := two_open hds2 two
          cases h1 with
          | str z => exact ⟨a2, _, _, d2, z, rfl, ht2, rfl, hd1, by rw [List.getElem?_map, hd1]; rfl⟩
          | non => cases pd
          | bl _ => cases pd
          | int _ => cases pd
          | lst _ _ => cases pd
          | tup _ _ => cases pd
        | str _ => cases pd
        | non => cases pd
        | bl _ => cases pd
        | int _ => cases pd
        | lst _ _ => cases pd
      refine ⟨_, rfl, a, rfl, ⟨_, ht⟩, fun D hD => ?_⟩
      refine lc_tup (K := K) (a := a) (xs := vs) (fun j H3 => Same H2 H3 ∧ H3 D = some (.lst (((ds.map nameD).take j).map V.str))) ⟨same_new hD _, upd_same⟩ (fun j H3 _ h => (Same.keep h.1) _ _ ht) ?_ ?_
      · rintro j x H3 hx ⟨e3, h3⟩
        obtain ⟨a2, x1, x2, d2, z, rfl, ht2, rfl, hd1, hz⟩ := fields hx
        refine ⟨rfl, _, rfl, a2, _, _, _, rfl, rfl, (Same.keep e3) _ _ ht2, rfl, _, h3, ?_, fun b o hb => ?_, ?_⟩
        · rw [List.length_map]
          exact small1000 (Nat.le_trans (List.length_take_le' _ _) (by rw [List.length_map]; omega))
        · rw [upd_ne (ne_of_none hb hD)]
          exact e3 b o hb
        · rw [upd_same, List.take_add_one, hz, List.map_append]
          rfl
      rintro H3 ⟨e3, h3⟩
      rw [lv, List.take_of_length_le (by rw [List.length_map]; exact Nat.le_refl _)] at h3
      have zl : (ds.map nameD).length ≤ 60 := by rw [List.length_map]; exact len
      have zk : ∀ z ∈ ds.map nameD, PyData.canLay0 (.str z) = true := fun z hz => by
        obtain ⟨d, md, rfl⟩ := List.mem_map.mp hz
        have pd := List.all_eq_true.mp hp d md
        have l := SeqAt.canLay_of_shaped (okx d md).1
        match d, pd, l with
        | .tuple [.str y, e], _, l =>
          have l' : (PyData.canLay0 (.str y) && PyData.canLayAll0 [e]) = true := l
          exact (Bool.and_eq_true_iff.mp l').1
      have res : fldD (.tuple ds) = ascB (ds.map nameD) := by
        show (!ds.isEmpty && ds.all pairD && ascB (ds.map nameD)) = _
        rw [hp, show ds.isEmpty = false from by cases ds with | nil => exact absurd rfl d0 | cons _ _ => rfl]
        rfl
      generalize ds.map nameD = zs at h3 zl zk res
      refine ⟨_, rfl, _, rfl, D, zs, rfl, SqL.of h3, by omega, fun t m ht0 hm => ⟨t, _, m, rfl, upd_same, by omega, fun ys p so nd mem ln hp0 => ?_⟩⟩
      have mem' : ∀ x, x ∈ ys ↔ x ∈ zs := fun x => (mem x).trans decide_eq_true_iff
      generalize TxO _ t (fun y => decide (y ∈ zs)) m = o3 at hp0 ⊢
      have e5 := (same_new ht0 o3).trans (same_new hp0 (.lst (ys.map V.str)))
      refine ⟨.list (zs.map .str), .list (ys.map .str), .lst (SqL.of (e5 _ _ h3)) (dp_strs zs), .lst (SqL.of upd_same) (dp_strs ys), shaped_strs zk, shaped_strs fun z hz => zk z ((mem' z).mp hz), ?_⟩
      have fin := q _ ((Fr.same tb e3).trans (Fr.same (Fr.same tb e3).tab e5))
      rw [res, ← asc_eq so nd mem', ← eqv_strs] at fin
      exact fin
  | str _ => exact or_pure true true (fun R h => ⟨_, rfl, _, _, _, _, _, rfl, .ty _, ty, kit_ty it, _, rfl, h⟩) (fun h => by cases h) (fun _ => neg rfl) (fun h => by cases h)
  | non => exact or_pure true true (fun R h => ⟨_, rfl, _, _, _, _, _, rfl, .ty _, ty, kit_ty it, _, rfl, h⟩) (fun h => by cases h) (fun _ => neg rfl) (fun h => by cases h)
  | bl b => exact or_pure true true (fun R h => ⟨_, rfl, _, _, _, _, _, rfl, .ty _, ty, kit_ty it, _, rfl, h⟩) (fun h => by cases h) (fun _ => neg rfl) (fun h => by cases h)
  | int b => exact or_pure true true (fun R h => ⟨_, rfl, _, _, _, _, _, rfl, .ty _, ty, kit_ty it, _, rfl, h⟩) (fun h => by cases h) (fun _ => neg rfl) (fun h => by cases h)
  | lst _ _ => exact or_pure true true (fun R h => ⟨_, rfl, _, _, _, _, _, rfl, .ty _, ty, kit_ty it, _, rfl, h⟩) (fun h => by cases h) (fun _ => neg rfl) (fun h => by cases h)
end
end Sc
namespace Sc
open PySem PyProof.Rows L2
theorem len_app (x y : Str) : (x ++ y).length = x.length + y.length := by rw [len_list, len_list x, len_list y, app_list, List.length_append]
section
variable {P : Program} {w : World} {K : PySem.W.Frag} {mg : Str → Option Value} {base : Heap} {T0 : List Addr} {CB : Addr}
theorem scNeedLetter : FnScope ["letter", "letters"] ["letter", "letters"] (defScope sPNeedLetter) := ⟨rfl, rfl, rfl, by decide +kernel, rfl, by decide +kernel, by decide +kernel⟩
theorem c_need_letter (T : Tx K mg) (B : Ec K mg "BadKind" CB) (CL : Cal P w K mg base 2 "is_letter" ["thing"] (spTest K T0 isLettD)) (hl8 : ∃ t, mg "LONGEST_WORD" = some (.int 8 t)) : CalX P w K mg base 3 "_need_letter" ["letter", "letters"] (spNeed K T0 CB [] letD) := by
  refine T.p_need_letter.okX scNeedLetter (fun vs H Q E h => ?_) (fun f cdv A outer s H vs Q E hr h => ?_)
  · obtain ⟨ls, v, d, la, rfl, _⟩ := h
    rfl
  obtain ⟨ls, v, d, la, rfl, hd, ok, tb, hla, q1, q2⟩ := h
  obtain ⟨t8, m8⟩ := hl8
  refine ⟨_, pss_cons (ps_if (pt_not (pt_val (pe_cal CL hr (pa_cons (pv 0) pa_nil))))
      (pss_one (ps_raise rfl (takes_of rfl rfl rfl rfl) (SkE.pmk_own1 PySem.F.excBase_ValueError B.q B.g B.k (raises_own B.b B.t) (by exact rfl) (pe_fs (.cons pe_str (.cons (pe_fmt (pe_glob (v := .int 8) (by rfl) m8 ⟨_, rfl⟩)) (.cons pe_str .nil))))))) pss_nil)
    (pss_one (ps_if (pt_cmpR op_notIn_seq (pv 0) (pv 1) (by rfl))
      (pss_one (ps_raise rfl (takes_of rfl rfl rfl rfl) (SkE.pmk_own1 PySem.F.excBase_ValueError B.q B.g B.k (raises_own B.b B.t) (by exact rfl) (pe_fs (.cons pe_str (.cons (pe_fmt (pv 0)) (.cons pe_str .nil))))))) pss_nil)), ?_⟩
  refine ⟨_, rfl, v, d, rfl, hd, ok, tb, fun H1 f1 => ⟨_, rfl, ?_⟩⟩
  cases h1 : isLettD d with
  | false =>
    refine ⟨_, rfl, by decide +kernel, .inr ⟨8, rfl, by decide, _, rfl, by decide +kernel, _, rfl, by decide +kernel, ?_⟩⟩
    exact q2 (by cases d with | str z => show (isLettD (.str z) && _) = false; rw [h1]; rfl | _ => rfl) H1 f1
  | true =>
    cases hd with
    | str z =>
      have hla1 := (Fr.keep tb f1).2 _ _ hla
      refine ⟨_, rfl, _, rfl, la, _, rfl, .inr hla1, rfl, flat_strs ls, ?_⟩
      rw [in_strs]
      have z8 : z.length ≤ 8 := (of_decide_eq_true (show decide (Lett z) = true from h1)).2.1
      have e : letD ls (.str z) = decide (z ∈ ls) := by show (isLettD (.str z) && decide (z ∈ ls)) = _; rw [h1, Bool.true_and]
      cases h2 : decide (z ∈ ls) with
      | true =>
        exact ⟨_, rfl, q1 (by rw [e, h2]) H1 f1⟩
      | false =>
        refine ⟨_, rfl, _, rfl, by decide +kernel, _, rfl, .inl ⟨z, rfl, sizeOk (by omega), _, rfl, ?_, _, rfl, ?_, ?_⟩⟩
        · rw [len_app]
          have : (Str.empty ++ "the letter " : Str).length ≤ 100 := by decide +kernel
          exact sizeOk (by omega)
        · rw [len_app, len_app]
          have : (Str.empty ++ "the letter " : Str).length ≤ 100 := by decide +kernel
          have : (" is not among the told ones" : Str).length ≤ 100 := by decide +kernel
          exact sizeOk (by omega)
        · exact q2 (by rw [e, h2]) H1 f1
    | non => cases h1
    | bl _ => cases h1
    | int _ => cases h1
    | lst _ _ => cases h1
    | tup _ _ => cases h1
end
end Sc
namespace Sc
open PySem PyProof.Rows L2
section
variable {P : Program} {w : World} {K : PySem.W.Frag} {mg : Str → Option Value} {base : Heap} {T0 : List Addr} {CB : Addr}
theorem scNeedFields : FnScope ["fields", "letters", "room", "field", "kind"] ["fields", "letters", "room"] (defScope sPNeedFields) := ⟨rfl, rfl, rfl, by decide +kernel, rfl, by decide +kernel, by decide +kernel⟩
theorem c_need_fields {lv : Nat} {r : Int} {g : List Str → PyData → Bool} (T : Tx K mg) (B : Ec K mg "BadKind" CB) (lv2 : 2 ≤ lv) (CW : Cal P w K mg base 2 "is_word" ["thing"] (spTest K T0 isWordD)) (CF : Cal P w K mg base 1 "are_fields" ["thing"] (spTest K T0 fldD))
    (CK : CalX P w K mg base lv "_need_kind_within" ["kind", "letters", "room"] (spNeed K T0 CB [.int r] g)) (hl8 : ∃ t, mg "LONGEST_WORD" = some (.int 8 t)) :
    CalX P w K mg base (lv + 1) "need_fields_kinds" ["fields", "letters", "room"] (spNeed K T0 CB [.int r] (fun ls => gFl (g ls))) := by
  refine T.p_need_fields.okX scNeedFields (fun vs H Q E h => ?_) (fun f cdv A outer s H vs Q E hr h => ?_)
  · obtain ⟨ls, v, d, la, rfl, _⟩ := h
    rfl
  obtain ⟨ls, v, d, la, rfl, hd, ok, tb, hla, q1, q2⟩ := h
  dsimp only at q1 q2
  obtain ⟨t8, m8⟩ := hl8
  have r1 : Room 1 _ := hr.mono (by omega)
  have r2 : Room 2 _ := hr.mono lv2
  refine ⟨_, pss_cons (ps_if (pt_not (pt_val (pe_cal CF r1 (pa_cons (pv 0) pa_nil))))
      (pss_one (ps_raise rfl (takes_of rfl rfl rfl rfl) (pmk_own PySem.F.excBase_ValueError B.q B.g B.k (raises_own B.b B.t) (by exact rfl)))) pss_nil)
    (pss_one (ps_for (passes_of rfl) rfl (pi_tup (pv 0)) (pg_tup (by rfl) (pgs_cons (pg_name (i := 3) scNeedFields.nd rfl (Or.inl rfl)) (pgs_cons (pg_name (i := 4) scNeedFields.nd rfl (Or.inl rfl)) pgs_nil)))
      (pss_cons (ps_if (pt_not (pt_val (pe_cal CW r2 (pa_cons (pv 3) pa_nil))))
        (pss_one (ps_raise rfl (takes_of rfl rfl rfl rfl) (SkE.pmk_own1 PySem.F.excBase_ValueError B.q B.g B.k (raises_own B.b B.t) (by exact rfl) (pe_fs (.cons pe_str (.cons (pe_fmt (pe_glob (v := .int 8) (by rfl) m8 ⟨_, rfl⟩)) (.cons pe_str .nil))))))) pss_nil)
      (pss_one (ps_expr (pe_calX CK hr (passes_call (takes_of rfl rfl rfl rfl) (fun _ _ _ _ h => h)) (pa_cons (pv 4) (pa_cons (pv 1) (pa_cons (pv 2) pa_nil))))))))), ?_⟩
  refine ⟨_, rfl, v, d, rfl, hd, ok, tb, fun H1 f1 => ⟨_, rfl, ?_⟩⟩
  cases h1 : fldD d with
  | false => exact q2 (by cases d with | tuple ds => show (fldD (.tuple ds) && _) = false; rw [h1]; rfl | _ => rfl) H1 f1
  | true =>
    cases hd with
    | tup ht hds =>
      rename_i a vs ds
      obtain ⟨len, okx⟩ := ok.sub
      have lv0 := DpAll.len hds
      have hp : ds.all pairD = true := by
        have h' : (!ds.isEmpty && ds.all pairD && ascB (ds.map nameD)) = true := h1
        rw [Bool.and_eq_true, Bool.and_eq_true] at h'
        exact h'.1.2
      have eg : gFl (g ls) (.tuple ds) = ds.all (gPr (g ls)) := by show (fldD (.tuple ds) && ds.all (gPr (g ls))) = _; rw [h1, Bool.true_and]
      refine ⟨_, rfl, a, rfl, ⟨_, (Fr.keep tb f1).2 _ _ ht⟩, ?_⟩
      refine for_tup (K := K) (a := a) (xs := vs) (fun j σ2 H2 => Fr T0 H H2 ∧ (∃ o1 o2, σ2 = [some (.ref a), some (.ref la), some (.int r), o1, o2]) ∧ (ds.take j).all (gPr (g ls)) = true) ⟨f1, ⟨_, _, rfl⟩, rfl⟩ (fun j σ2 H2 _ h => (Fr.keep tb h.1).2 _ _ ht) ?_ ?_
      · rintro j x σ2 H2 hx ⟨f2, ⟨o1, o2, rfl⟩, hq⟩
        obtain ⟨d, hd1, hd2⟩ := DpAll.get hds hx
        have md := List.mem_of_getElem? hd1
        have pd := List.all_eq_true.mp hp d md
        have okd := okx d md
        have bad : gPr (g ls) d = false → ∀ H' : Hp, Fr T0 H H' → E (.ref CB) none H' := fun e => q2 (by
          rw [eg]
          refine Bool.eq_false_iff.mpr fun z => ?_
          have := List.all_eq_true.mp z d md
          rw [e] at this
          cases this)
        have good : gPr (g ls) d = true → (ds.take (j + 1)).all (gPr (g ls)) = true := fun e => by rw [List.take_add_one, hd1, List.all_append, hq]; simp [e]
        cases hd2 with
        | tup ht2 hds2 =>
          rename_i a2 vs2 ds2
          have two : vs2.length = 2 := Classical.byContradiction fun z => by rw [pair_len (by rw [← DpAll.len hds2]; exact z)] at pd; cases pd
          obtain ⟨x1, x2, d1, d2, rfl, rfl, h3, h4⟩ := two_open hds2 two
          have ok1 := okd.sub.2 d1 List.mem_cons_self
          have ok2 := okd.sub.2 d2 (List.mem_cons_of_mem _ List.mem_cons_self)
          refine ⟨a2, _, rfl, (Fr.keep tb f2).2 _ _ ht2, rfl, ?_⟩
          refine ⟨_, _, rfl, _, _, rfl, rfl, ?_⟩
          refine ⟨_, rfl, x1, d1, rfl, KeepL.dp (Fr.keep tb f2) h3, ok1, f2.tab, fun H3 f3 => ⟨_, rfl, ?_⟩⟩
          have f03 := f2.trans f3
          cases h5 : isWordD d1 with
          | false =>
            refine ⟨_, rfl, by decide +kernel, .inr ⟨8, rfl, by decide, _, rfl, by decide +kernel, _, rfl, by decide +kernel, ?_⟩⟩
            exact bad (by show (isWordD d1 && g ls d2) = false; rw [h5]; rfl) H3 f03
          | true =>
            refine ⟨_, rfl, _, rfl, _, rfl, ls, x2, d2, la, rfl, KeepL.dp (Fr.keep tb f03) h4, ok2, f03.tab, (Fr.keep tb f03).2 _ _ hla, fun e H4 f4 => ?_, fun e H4 f4 => ?_⟩
            · exact ⟨f03.trans f4, ⟨_, _, rfl⟩, good (by show (isWordD d1 && g ls d2) = true; rw [h5, e]; rfl)⟩
            · exact bad (by show (isWordD d1 && g ls d2) = false; rw [e, Bool.and_false]) H4 (f03.trans f4)
        | str _ => cases pd
        | non => cases pd
        | bl _ => cases pd
        | int _ => cases pd
        | lst _ _ => cases pd
      · rintro σ2 H2 ⟨f2, ⟨o1, o2, rfl⟩, hq⟩
        rw [lv0, List.take_length] at hq
        exact q1 (by rw [eg, hq]) H2 f2
    | str _ => cases h1
    | non => cases h1
    | bl _ => cases h1
    | int _ => cases h1
    | lst _ _ => cases h1
end
end Sc
namespace Sc
open PySem PyProof.Rows L2
theorem eqv_one (d : PyData) (w : Str) : PyData.eqv d (.tuple [.str w]) = true ↔ d = .tuple [.str w] := by
  constructor
  · intro h
    match d, h with
    | .tuple [.str z], h =>
      have h' : ((z == w) && true) = true := by simpa [PyData.eqv, PyData.eqvAll] using h
      rw [Bool.and_true, beq_iff_eq] at h'
      rw [h']
    | .tuple [], h => simp [PyData.eqv, PyData.eqvAll] at h
    | .tuple (_ :: _ :: _), h => simp [PyData.eqv, PyData.eqvAll] at h
    | .tuple [.none], h => simp [PyData.eqv, PyData.eqvAll] at h
    | .tuple [.bool _], h => simp [PyData.eqv, PyData.eqvAll] at h
    | .tuple [.int _], h => simp [PyData.eqv, PyData.eqvAll] at h
    | .tuple [.list _], h => simp [PyData.eqv, PyData.eqvAll] at h
    | .tuple [.tuple _], h => simp [PyData.eqv, PyData.eqvAll] at h
    | .tuple [.dict _], h => simp [PyData.eqv, PyData.eqvAll] at h
    | .none, h => simp [PyData.eqv] at h
    | .bool _, h => simp [PyData.eqv] at h
    | .int _, h => simp [PyData.eqv] at h
    | .str _, h => simp [PyData.eqv] at h
    | .list _, h => simp [PyData.eqv] at h
    | .dict _, h => simp [PyData.eqv] at h
  · rintro rfl
    simp [PyData.eqv, PyData.eqvAll]
theorem eqv_word (d : PyData) (w : Str) : PyData.eqv d (.str w) = true ↔ d = .str w := by
  cases d <;> simp [PyData.eqv]
theorem gCh_len {ls : List Str} {g : PyData → Bool} : ∀ {ds : List PyData}, ds.length ≠ 2 → PyData.tuple ds ≠ .tuple [.str "number"] → PyData.tuple ds ≠ .tuple [.str "text"] → gCh ls g (.tuple ds) = false
  | [], _, _, _ => rfl
  | [.str w], _, n1, n2 => by
    show (w == "number" || w == "text") = false
    rw [Bool.or_eq_false_iff, beq_eq_false_iff_ne, beq_eq_false_iff_ne]
    exact ⟨fun z => n1 (by rw [z]), fun z => n2 (by rw [z])⟩
  | [.none], _, _, _ => rfl
  | [.bool _], _, _, _ => rfl
  | [.int _], _, _, _ => rfl
  | [.list _], _, _, _ => rfl
  | [.tuple _], _, _, _ => rfl
  | [.dict _], _, _, _ => rfl
  | [_, _], e, _, _ => absurd rfl e
  | u :: _ :: _ :: _, _, _, _ => by cases u <;> rfl
theorem gCh_two {ls : List Str} {g : PyData → Bool} (w : Str) (t : PyData) : gCh ls g (.tuple [.str w, t]) = if w = "row" ∨ w = "book" then g t else if w = "shape" then gFl g t else if w = "letter" then letD ls t else false := rfl
theorem gCh_ns {ls : List Str} {g : PyData → Bool} {d1 d2 : PyData} (h : isStrB d1 = false) : gCh ls g (.tuple [d1, d2]) = false := by
  cases d1 with
  | str _ => cases h
  | _ => rfl
section
variable {P : Program} {w : World} {K : PySem.W.Frag} {mg : Str → Option Value} {base : Heap} {T0 : List Addr} {CB : Addr}
theorem scNeedChoice : FnScope ["choice", "letters", "room", "word", "told"] ["choice", "letters", "room"] (defScope sPNeedChoice) := ⟨rfl, rfl, rfl, by decide +kernel, rfl, by decide +kernel, by decide +kernel⟩
theorem c_need_choice {lv : Nat} {r : Int} {g : List Str → PyData → Bool} (T : Tx K mg) (B : Ec K mg "BadKind" CB) (lv2 : 3 ≤ lv)
    (CK : CalX P w K mg base lv "_need_kind_within" ["kind", "letters", "room"] (spNeed K T0 CB [.int (r - 1)] g)) (CF : CalX P w K mg base lv "need_fields_kinds" ["fields", "letters", "room"] (spNeed K T0 CB [.int (r - 1)] (fun ls => gFl (g ls))))
    (CL : CalX P w K mg base 3 "_need_letter" ["letter", "letters"] (spNeed K T0 CB [] letD)) :
    CalX P w K mg base (lv + 1) "_need_choice" ["choice", "letters", "room"] (spNeed K T0 CB [.int r] (fun ls => gCh ls (g ls))) := by
  refine T.p_need_choice.okX scNeedChoice (fun vs H Q E h => ?_) (fun f cdv A outer s H vs Q E hr h => ?_)
  · obtain ⟨ls, v, d, la, rfl, _⟩ := h
    rfl
  obtain ⟨ls, v, d, la, rfl, hd, ok, tb, hla, q1, q2⟩ := h
  dsimp only at q1 q2
  have r3 : Room 3 _ := hr.mono lv2
  have hu := hr.units
  refine ⟨_, pss_cons (ps_if (PW.pt (pw_or (pt_cmpR (op_eqD hu) (pv 0) (pe_tup (pa_cons pe_str pa_nil)) (nomark _)) (pw_or1 (pt_cmpR (op_eqD hu) (pv 0) (pe_tup (pa_cons pe_str pa_nil)) (nomark _)))))
      (pss_one ps_retN) pss_nil)
    (pss_cons (ps_if (PW.pt (pw_or (pt_not (pt_val (pe_callB call_isi (by rfl) T.m_isinstance boot_isinstance (pa_cons (pv 0) (pa_cons (pe_bltn (v := .ty "tuple") (by rfl) T.m_tuple boot_tuple rfl) pa_nil)))))
        (pw_or1 (pt_cmpR op_ne (pe_callB call_len_seq (by rfl) T.m_len PySem.boot_len (pa_cons (pv 0) pa_nil)) pe_int (nomark _)))))
      (pss_one (ps_raise rfl (takes_of rfl rfl rfl rfl) (pmk_own PySem.F.excBase_ValueError B.q B.g B.k (raises_own B.b B.t) (by exact rfl)))) pss_nil)
    (pss_cons (ps_asg (pv 0) (pg_tup (by rfl) (pgs_cons (pg_name (i := 3) scNeedChoice.nd rfl (Or.inl rfl)) (pgs_cons (pg_name (i := 4) scNeedChoice.nd rfl (Or.inl rfl)) pgs_nil))))
    (pss_one (ps_if (PW.pt (pw_or (pt_cmpR (op_eqD hu) (pv 3) pe_str (nomark _)) (pw_or1 (pt_cmpR (op_eqD hu) (pv 3) pe_str (nomark _)))))
      (pss_one (ps_expr (pe_calX CK hr (passes_call (takes_of rfl rfl rfl rfl) (fun _ _ _ _ h => h)) (pa_cons (pv 4) (pa_cons (pv 1) (pa_cons (pe_op op_sub (pv 2) pe_int) pa_nil))))))
      (pss_one (ps_if (pt_cmpR (op_eqD hu) (pv 3) pe_str (nomark _))
        (pss_one (ps_expr (pe_calX CF hr (passes_call (takes_of rfl rfl rfl rfl) (fun _ _ _ _ h => h)) (pa_cons (pv 4) (pa_cons (pv 1) (pa_cons (pe_op op_sub (pv 2) pe_int) pa_nil))))))
        (pss_one (ps_if (pt_cmpR (op_eqD hu) (pv 3) pe_str (nomark _))
          (pss_one (ps_expr (pe_calX CL r3 (passes_call (takes_of rfl rfl rfl rfl) (fun _ _ _ _ h => h)) (pa_cons (pv 4) (pa_cons (pv 1) pa_nil)))))
          (pss_one (ps_raise rfl (takes_of rfl rfl rfl rfl) (pmk_own PySem.F.excBase_ValueError B.q B.g B.k (raises_own B.b B.t) (by exact rfl)))))))))))), ?_⟩
  refine seq_with (fun R => ∀ H2, Fr T0 H H2 → d ≠ .tuple [.str "number"] → d ≠ .tuple [.str "text"] → R [some v, some (.ref la), some (.int r), none, none] H2) ?_ ?_
  · intro H2 f2 n1 n2
    have ty := Dp.ty (KeepL.dp (Fr.keep tb f2) hd)
    have it := isTup hd
    show tOr _ _ _ _ _
    cases hd with
    | tup ht hds =>
      rename_i a vs ds
      obtain ⟨len, okx⟩ := ok.sub
      have lv0 := DpAll.len hds
      refine or_pure false (decide (¬ vs.length = 2)) (fun R h => ⟨_, rfl, _, _, _, _, _, rfl, .ty _, ty, kit_ty it, _, rfl, h⟩) (fun _ R h => ⟨_, rfl, a, vs, rfl, .inr ((Fr.keep tb f2).2 _ _ ht), rfl, _, rfl, ?_⟩) (fun h => ?_) (fun _ h => ?_)
      · rw [eqV_int, decide_eq_decide.mpr (show ((vs.length : Nat) : Int) = 2 ↔ vs.length = 2 by omega), ← decide_not]
        exact h
      · have n : ds.length ≠ 2 := by rw [← lv0]; exact of_decide_eq_true (h.elim (fun z => by cases z) id)
        exact q2 (gCh_len n n1 n2) H2 f2
      have two : vs.length = 2 := Classical.byContradiction fun z => by rw [decide_eq_true z] at h; cases h
      obtain ⟨x1, x2, d1, d2, rfl, rfl, h1, h2⟩ := two_open hds two
      have ok1 := ok.sub.2 d1 List.mem_cons_self
      have ok2 := ok.sub.2 d2 (List.mem_cons_of_mem _ List.mem_cons_self)
      have g1 := KeepL.dp (Fr.keep tb f2) h1
      have g2 := KeepL.dp (Fr.keep tb f2) h2
      have hla2 := (Fr.keep tb f2).2 _ _ hla
      refine ⟨_, rfl, a, _, rfl, (Fr.keep tb f2).2 _ _ ht, rfl, _, _, rfl, _, _, rfl, rfl, ?_⟩
      dsimp only
      show tOr _ _ _ _ _
      refine or_pure (PyData.eqv d1 (.str "row")) (PyData.eqv d1 (.str "book")) (fun R h => ⟨_, rfl, d1, .str "row", g1, .str _, ok1.1, by decide +kernel, _, rfl, h⟩) (fun _ R h => ⟨_, rfl, d1, .str "book", g1, .str _, ok1.1, by decide +kernel, _, rfl, h⟩) (fun h => ?_) (fun e1 e2 => ?_)
      · have eg : gCh ls (g ls) (.tuple [d1, d2]) = g ls d2 := by
          rcases h with h | h
          · rw [(eqv_word _ _).mp h, gCh_two, if_pos (Or.inl rfl)]
          · rw [(eqv_word _ _).mp h, gCh_two, if_pos (Or.inr rfl)]
        rw [eg] at q1 q2
        refine ⟨_, rfl, _, rfl, _, rfl, _, _, rfl, rfl, ls, x2, d2, la, rfl, g2, ok2, f2.tab, hla2, fun e H3 f3 => q1 e H3 (f2.trans f3), fun e H3 f3 => q2 e H3 (f2.trans f3)⟩
      have n1 : ∀ w : Str, d1 = .str w → ¬ (w = "row" ∨ w = "book") := fun w e z => by
        rcases z with z | z
        · rw [(eqv_word d1 "row").mpr (by rw [e, z])] at e1; cases e1
        · rw [(eqv_word d1 "book").mpr (by rw [e, z])] at e2; cases e2
      refine ⟨_, rfl, d1, .str "shape", g1, .str _, ok1.1, by decide +kernel, _, rfl, ite2 (fun e => ?_) (fun e3 => ?_)⟩
      · have e' := (eqv_word _ _).mp e
        have eg : gCh ls (g ls) (.tuple [d1, d2]) = gFl (g ls) d2 := by rw [e', gCh_two, if_neg (n1 _ e'), if_pos rfl]
        rw [eg] at q1 q2
        exact ⟨_, rfl, _, rfl, _, rfl, _, _, rfl, rfl, ls, x2, d2, la, rfl, g2, ok2, f2.tab, hla2, fun e H3 f3 => q1 e H3 (f2.trans f3), fun e H3 f3 => q2 e H3 (f2.trans f3)⟩
      refine ⟨_, rfl, d1, .str "letter", g1, .str _, ok1.1, by decide +kernel, _, rfl, ite2 (fun e => ?_) (fun e4 => ?_)⟩
      · have e' := (eqv_word _ _).mp e
        have eg : gCh ls (g ls) (.tuple [d1, d2]) = letD ls d2 := by rw [e', gCh_two, if_neg (n1 _ e'), if_neg (by decide +kernel), if_pos rfl]
        rw [eg] at q1 q2
        exact ⟨_, rfl, _, rfl, ls, x2, d2, la, rfl, g2, ok2, f2.tab, hla2, fun e H3 f3 => q1 e H3 (f2.trans f3), fun e H3 f3 => q2 e H3 (f2.trans f3)⟩
      refine q2 ?_ H2 f2
      cases hs : isStrB d1 with
      | false => exact gCh_ns hs
      | true =>
        match d1, hs, n1, e3, e4 with
        | .str w, _, n1, e3, e4 =>
          rw [gCh_two, if_neg (n1 w rfl), if_neg fun z => e3 ((eqv_word _ _).mpr (by rw [z])), if_neg fun z => e4 ((eqv_word _ _).mpr (by rw [z]))]
    | str _ => exact or_pure true true (fun R h => ⟨_, rfl, _, _, _, _, _, rfl, .ty _, ty, kit_ty it, _, rfl, h⟩) (fun h => by cases h) (fun _ => q2 rfl H2 f2) (fun h => by cases h)
    | non => exact or_pure true true (fun R h => ⟨_, rfl, _, _, _, _, _, rfl, .ty _, ty, kit_ty it, _, rfl, h⟩) (fun h => by cases h) (fun _ => q2 rfl H2 f2) (fun h => by cases h)
    | bl b => exact or_pure true true (fun R h => ⟨_, rfl, _, _, _, _, _, rfl, .ty _, ty, kit_ty it, _, rfl, h⟩) (fun h => by cases h) (fun _ => q2 rfl H2 f2) (fun h => by cases h)
    | int b => exact or_pure true true (fun R h => ⟨_, rfl, _, _, _, _, _, rfl, .ty _, ty, kit_ty it, _, rfl, h⟩) (fun h => by cases h) (fun _ => q2 rfl H2 f2) (fun h => by cases h)
    | lst _ _ => exact or_pure true true (fun R h => ⟨_, rfl, _, _, _, _, _, rfl, .ty _, ty, kit_ty it, _, rfl, h⟩) (fun h => by cases h) (fun _ => q2 rfl H2 f2) (fun h => by cases h)
  · intro rest
    refine ⟨_, rfl, (by show 1 ≤ sizeLine; decide), fun p1 hp1 => ⟨d, .tuple [.str "number"], ?_, .tup (SqT.of upd_same) (.cons (.str _) .nil), ok.1, by decide +kernel, _, rfl, ite2 (fun e => ?_) (fun e => ?_)⟩⟩
    · exact KeepL.dp (Fr.keep tb (Fr.same tb (same_new hp1 _))) hd
    · have f1 := Fr.same tb (same_new hp1 (.tup [.str "number"]))
      exact q1 (by rw [(eqv_one _ _).mp e]; rfl) _ f1
    have f1 := Fr.same tb (same_new hp1 (.tup [.str "number"]))
    refine ⟨_, rfl, (by show 1 ≤ sizeLine; decide), fun p2 hp2 => ⟨d, .tuple [.str "text"], ?_, .tup (SqT.of upd_same) (.cons (.str _) .nil), ok.1, by decide +kernel, _, rfl, ite2 (fun e2 => ?_) (fun e2 => ?_)⟩⟩
    · exact KeepL.dp (Fr.keep tb (f1.trans (Fr.same f1.tab (same_new hp2 _)))) hd
    · exact q1 (by rw [(eqv_one _ _).mp e2]; rfl) _ (f1.trans (Fr.same f1.tab (same_new hp2 _)))
    · exact rest _ (f1.trans (Fr.same f1.tab (same_new hp2 _))) (fun z => e ((eqv_one _ _).mpr z)) (fun z => e2 ((eqv_one _ _).mpr z))
end
end Sc
namespace Sc
open PySem PyProof.Rows L2
section
variable {P : Program} {w : World} {K : PySem.W.Frag} {mg : Str → Option Value} {base : Heap} {T0 : List Addr} {CB : Addr}
theorem scNeedWithin : FnScope ["kind", "letters", "room", "choice"] ["kind", "letters", "room"] (defScope sPNeedKindWithin) := ⟨rfl, rfl, rfl, by decide +kernel, rfl, by decide +kernel, by decide +kernel⟩
theorem c_need_within {lv n : Nat} (T : Tx K mg) (B : Ec K mg "BadKind" CB) (h8 : ∃ t, mg "DEEPEST_KIND" = some (.int 8 t))
    (CC : 0 < n → CalX P w K mg base lv "_need_choice" ["choice", "letters", "room"] (spNeed K T0 CB [.int ((n : Int) - 1)] (fun ls => gCh ls (gK ls (n - 1)))))
    (CN : CalX P w K mg base lv "_need_choice" ["choice", "letters", "room"] (fun _ _ _ _ => False)) :
    CalX P w K mg base (lv + 1) "_need_kind_within" ["kind", "letters", "room"] (spNeed K T0 CB [.int ((n : Int) - 1)] (fun ls => gK ls n)) := by
  refine T.p_need_kind_within.okX scNeedWithin (fun vs H Q E h => ?_) (fun f cdv A outer s H vs Q E hr h => ?_)
  · obtain ⟨ls, v, d, la, rfl, _⟩ := h
    rfl
  obtain ⟨ls, v, d, la, rfl, hd, ok, tb, hla, q1, q2⟩ := h
  dsimp only at q1 q2
  obtain ⟨t8, m8⟩ := h8
  have CC' : ∃ sp, CalX P w K mg base lv "_need_choice" ["choice", "letters", "room"] sp ∧ (0 < n → sp = spNeed K T0 CB [.int ((n : Int) - 1)] (fun ls => gCh ls (gK ls (n - 1)))) := by
    by_cases h : 0 < n
    · exact ⟨_, CC h, fun _ => rfl⟩
    · exact ⟨_, CN, fun z => absurd z h⟩
  obtain ⟨sp, CS, es⟩ := CC'
  refine ⟨_, pss_cons (ps_if (pt_cmpR op_lt (pv 2) pe_int (nomark _))
      (pss_one (ps_raise rfl (takes_of rfl rfl rfl rfl) (SkE.pmk_own1 PySem.F.excBase_ValueError B.q B.g B.k (raises_own B.b B.t) (by exact rfl) (pe_fs (.cons pe_str (.cons (pe_fmt (pe_glob (v := .int 8) (by rfl) m8 ⟨_, rfl⟩)) (.cons pe_str .nil))))))) pss_nil)
    (pss_cons (ps_if (PW.pt (pw_or (pt_not (pt_val (pe_callB call_isi (by rfl) T.m_isinstance boot_isinstance (pa_cons (pv 0) (pa_cons (pe_bltn (v := .ty "tuple") (by rfl) T.m_tuple boot_tuple rfl) pa_nil)))))
        (pw_or1 (pt_cmpR op_eq (pe_callB call_len_seq (by rfl) T.m_len PySem.boot_len (pa_cons (pv 0) pa_nil)) pe_int (nomark _)))))
      (pss_one (ps_raise rfl (takes_of rfl rfl rfl rfl) (pmk_own PySem.F.excBase_ValueError B.q B.g B.k (raises_own B.b B.t) (by exact rfl)))) pss_nil)
    (pss_one (ps_for (passes_of rfl) rfl (pi_tup (pv 0)) (pg_name (i := 3) scNeedWithin.nd rfl (Or.inl rfl))
      (pss_one (ps_expr (pe_calX CS hr (passes_call (takes_of rfl rfl rfl rfl) (fun _ _ _ _ h => h)) (pa_cons (pv 3) (pa_cons (pv 1) (pa_cons (pv 2) pa_nil))))))))), ?_⟩
  refine ⟨_, rfl, _, _, rfl, rfl, _, rfl, ite2 (fun e => ?_) (fun e => ?_)⟩
  · have n0 : n = 0 := by have := of_decide_eq_true e; omega
    refine ⟨_, rfl, by decide +kernel, .inr ⟨8, rfl, by decide, _, rfl, by decide +kernel, _, rfl, by decide +kernel, ?_⟩⟩
    exact q2 (by rw [n0]; rfl) H (Fr.refl tb)
  have n1 : 0 < n := by
    have := of_decide_eq_false (Bool.eq_false_iff.mpr e)
    omega
  obtain ⟨m, rfl⟩ : ∃ m, n = m + 1 := ⟨n - 1, by omega⟩
  have es := es n1
  subst es
  dsimp only [tNext]
  show tOr _ _ _ _ _
  have ty := Dp.ty hd
  have it := isTup hd
  have dp := hd
  cases hd with
  | tup ht hds =>
    rename_i a vs ds
    obtain ⟨len, okx⟩ := ok.sub
    have lv0 := DpAll.len hds
    have bad0 : gK ls (m + 1) (.tuple ds) = (!ds.isEmpty && ds.all (gCh ls (gK ls m))) := rfl
    refine or_pure false (decide (vs.length = 0)) (fun R h => ⟨_, rfl, _, _, _, _, _, rfl, .ty _, ty, kit_ty it, _, rfl, h⟩) (fun _ R h => ⟨_, rfl, a, vs, rfl, .inr ht, rfl, _, rfl, ?_⟩) (fun h => ?_) (fun _ h => ?_)
    · rw [eqV_int, decide_eq_decide.mpr (show ((vs.length : Nat) : Int) = 0 ↔ vs.length = 0 by omega)]
      exact h
    · have z : vs.length = 0 := of_decide_eq_true (h.elim (fun z => by cases z) id)
      have z2 : ds = [] := List.length_eq_zero_iff.mp (lv0.symm.trans z)
      exact q2 (by rw [z2]; rfl) H (Fr.refl tb)
    have d0 : ds.isEmpty = false := by
      cases ds with
      | nil => exact absurd lv0 (of_decide_eq_false h)
      | cons _ _ => rfl
    rw [bad0, d0] at q1 q2
    refine ⟨_, rfl, a, rfl, ⟨_, ht⟩, ?_⟩
    refine for_tup (K := K) (a := a) (xs := vs) (fun j σ2 H2 => Fr T0 H H2 ∧ (∃ o, σ2 = [some (.ref a), some (.ref la), some (.int (((m + 1 : Nat) : Int) - 1)), o]) ∧ (ds.take j).all (gCh ls (gK ls m)) = true) ⟨Fr.refl tb, ⟨_, rfl⟩, rfl⟩ (fun j σ2 H2 _ h => (Fr.keep tb h.1).2 _ _ ht) ?_ ?_
    · rintro j x σ2 H2 hx ⟨f2, ⟨o, rfl⟩, hq⟩
      obtain ⟨d, hd1, hd2⟩ := DpAll.get hds hx
      have md := List.mem_of_getElem? hd1
      refine ⟨_, rfl, _, rfl, _, rfl, ls, x, d, la, rfl, KeepL.dp (Fr.keep tb f2) hd2, okx d md, f2.tab, (Fr.keep tb f2).2 _ _ hla, fun e H3 f3 => ?_, fun e H3 f3 => ?_⟩
      · exact ⟨f2.trans f3, ⟨_, rfl⟩, by rw [List.take_add_one, hd1, List.all_append, hq]; simpa using e⟩
      · refine q2 ?_ H3 (f2.trans f3)
        refine Bool.eq_false_iff.mpr fun z => ?_
        have := List.all_eq_true.mp z d md
        rw [show gCh ls (gK ls m) d = false from e] at this
        cases this
    · rintro σ2 H2 ⟨f2, ⟨o, rfl⟩, hq⟩
      rw [lv0, List.take_length] at hq
      exact q1 hq H2 f2
  | str _ => exact or_pure true true (fun R h => ⟨_, rfl, _, _, _, _, _, rfl, .ty _, ty, kit_ty it, _, rfl, h⟩) (fun h => by cases h) (fun _ => q2 rfl H (Fr.refl tb)) (fun h => by cases h)
  | non => exact or_pure true true (fun R h => ⟨_, rfl, _, _, _, _, _, rfl, .ty _, ty, kit_ty it, _, rfl, h⟩) (fun h => by cases h) (fun _ => q2 rfl H (Fr.refl tb)) (fun h => by cases h)
  | bl b => exact or_pure true true (fun R h => ⟨_, rfl, _, _, _, _, _, rfl, .ty _, ty, kit_ty it, _, rfl, h⟩) (fun h => by cases h) (fun _ => q2 rfl H (Fr.refl tb)) (fun h => by cases h)
  | int b => exact or_pure true true (fun R h => ⟨_, rfl, _, _, _, _, _, rfl, .ty _, ty, kit_ty it, _, rfl, h⟩) (fun h => by cases h) (fun _ => q2 rfl H (Fr.refl tb)) (fun h => by cases h)
  | lst _ _ => exact or_pure true true (fun R h => ⟨_, rfl, _, _, _, _, _, rfl, .ty _, ty, kit_ty it, _, rfl, h⟩) (fun h => by cases h) (fun _ => q2 rfl H (Fr.refl tb)) (fun h => by cases h)
end
end Sc
namespace Sc
open PySem PyProof.Rows L2
/-- what the errors' classes are -/
structure Er (K : PySem.W.Frag) (mg : Str → Option Value) (CS CB CP : Addr) : Prop where
  b : Ec K mg "BadKind" CB
  gS : mg "SoothError" = some (.ref CS)
  gP : mg "BadProgram" = some (.ref CP)
  xm : PySem.W.exmOne K (.ref CB) (.ref CS) = some true
  ec : ExcC K CB
  kP : PySem.W.kitOne K (.ref CB) (.ref CP) = some false
  kV : PySem.W.kitOne K (.ref CB) (.type "ValueError") = some true
  kB : PySem.W.kitOne K (.ref CB) (.ref CB) = some true
section
variable {P : Program} {w : World} {K : PySem.W.Frag} {mg : Str → Option Value} {base : Heap} {T0 : List Addr} {CB : Addr}
theorem c_withins (T : Tx K mg) (B : Ec K mg "BadKind" CB) (hl8 : ∃ t, mg "LONGEST_WORD" = some (.int 8 t)) (h8 : ∃ t, mg "DEEPEST_KIND" = some (.int 8 t))
    (CW : Cal P w K mg base 2 "is_word" ["thing"] (spTest K T0 isWordD)) (CF : Cal P w K mg base 1 "are_fields" ["thing"] (spTest K T0 fldD)) (CL : CalX P w K mg base 3 "_need_letter" ["letter", "letters"] (spNeed K T0 CB [] letD)) :
    ∀ n : Nat, CalX P w K mg base (3 * n + 3) "_need_kind_within" ["kind", "letters", "room"] (spNeed K T0 CB [.int ((n : Int) - 1)] (fun ls => gK ls n))
  | 0 => (c_need_within (lv := 2) (n := 0) T B h8 (fun z => absurd z (Nat.lt_irrefl _)) ((T.p_need_choice.neverX fun _ _ _ _ z => z).mono (by omega)))
  | n + 1 => by
    have ih := c_withins T B hl8 h8 CW CF CL n
    have cf := c_need_fields T B (by omega) CW CF ih hl8
    have cc := c_need_choice (r := (n : Int)) (g := fun ls => gK ls n) (lv := 3 * n + 4) T B (by omega) (ih.mono (by omega)) cf CL
    refine c_need_within (lv := 3 * n + 5) (n := n + 1) T B h8 (fun _ => ?_) ((T.p_need_choice.neverX fun _ _ _ _ z => z).mono (by omega))
    rw [show (((n + 1 : Nat) : Int) - 1) = (n : Int) by omega]
    exact cc
theorem scNeedKind : FnScope ["kind", "letters"] ["kind", "letters"] (defScope sNeedKind) := ⟨rfl, rfl, rfl, by decide +kernel, rfl, by decide +kernel, by decide +kernel⟩
theorem c_need_kind (T : Tx K mg) (h8 : ∃ t, mg "DEEPEST_KIND" = some (.int 8 t)) (CK : CalX P w K mg base 30 "_need_kind_within" ["kind", "letters", "room"] (spNeed K T0 CB [.int (((9 : Nat) : Int) - 1)] (fun ls => gK ls 9))) :
    CalX P w K mg base 31 "need_kind" ["kind", "letters"] (spNeed K T0 CB [] (fun ls => gK ls 9)) := by
  refine T.need_kind.okX scNeedKind (fun vs H Q E h => ?_) (fun f cdv A outer s H vs Q E hr h => ?_)
  · obtain ⟨ls, v, d, la, rfl, _⟩ := h
    rfl
  obtain ⟨ls, v, d, la, rfl, hd, ok, tb, hla, q1, q2⟩ := h
  dsimp only at q1 q2
  obtain ⟨t8, m8⟩ := h8
  refine ⟨_, pss_one (ps_expr (pe_calX CK hr (passes_call (takes_of rfl rfl rfl rfl) (fun _ _ _ _ h => h)) (pa_cons (pv 0) (pa_cons (pv 1) (pa_cons (pe_glob (v := .int 8) (by rfl) m8 ⟨_, rfl⟩) pa_nil))))), ?_⟩
  exact ⟨_, rfl, _, rfl, ls, v, d, la, rfl, hd, ok, tb, hla, q1, q2⟩
end
end Sc
namespace Sc
open PySem PyProof.Rows L2
abbrev sPlInit : Stmt := sPlaceInit
theorem noM {K : PySem.W.Frag} {H : Hp} {v : V} {d : PyData} (h : Dp K H v d) : kitB (tyD d) "bool" = some (match d with | .bool _ => true | _ => false) := by
  cases h with
  | non => exact (by decide +kernel : kitB "NoneType" "bool" = some false)
  | bl b => exact (by decide +kernel : kitB "bool" "bool" = some true)
  | int i => exact (by decide +kernel : kitB "int" "bool" = some false)
  | str x => exact (by decide +kernel : kitB "str" "bool" = some false)
  | lst _ _ => exact (by decide +kernel : kitB "list" "bool" = some false)
  | tup _ _ => exact (by decide +kernel : kitB "tuple" "bool" = some false)
theorem isIntD {K : PySem.W.Frag} {H : Hp} {v : V} {d : PyData} (h : Dp K H v d) : kitB (tyD d) "int" = some (match d with | .bool _ => true | .int _ => true | _ => false) := by
  cases h with
  | non => exact (by decide +kernel : kitB "NoneType" "int" = some false)
  | bl b => exact (by decide +kernel : kitB "bool" "int" = some true)
  | int i => exact (by decide +kernel : kitB "int" "int" = some true)
  | str x => exact (by decide +kernel : kitB "str" "int" = some false)
  | lst _ _ => exact (by decide +kernel : kitB "list" "int" = some false)
  | tup _ _ => exact (by decide +kernel : kitB "tuple" "int" = some false)
theorem plF (la fa na : Addr) (r : Int) : putF "room" (.int r) (putF "names" (.ref na) (putF "functions" (.ref fa) (putF "letters" (.ref la) []))) = placeF la fa na r := by
  have d1 : ¬ (("letters" : Str) = "functions") := by decide +kernel
  have d2 : ¬ (("letters" : Str) = "names") := by decide +kernel
  have d3 : ¬ (("letters" : Str) = "room") := by decide +kernel
  have d4 : ¬ (("functions" : Str) = "names") := by decide +kernel
  have d5 : ¬ (("functions" : Str) = "room") := by decide +kernel
  have d6 : ¬ (("names" : Str) = "room") := by decide +kernel
  simp only [putF, if_neg d1, if_neg d2, if_neg d3, if_neg d4, if_neg d5, if_neg d6]
  rfl
section
variable {P : Program} {w : World} {K : PySem.W.Frag} {mg : Str → Option Value} {base : Heap} {T0 : List Addr} {C : Addr} {cls : Wr → Addr} {r : Int}
theorem pl_letters (la fa na : Addr) : (placeF la fa na r).lookup ("letters" : Str) = some (.ref la) := rfl
theorem pl_functions (la fa na : Addr) : (placeF la fa na r).lookup ("functions" : Str) = some (.ref fa) := rfl
theorem pl_names (la fa na : Addr) : (placeF la fa na r).lookup ("names" : Str) = some (.ref na) := rfl
theorem pl_room (la fa na : Addr) : (placeF la fa na r).lookup ("room" : Str) = some (.int r) := rfl
theorem scPI : FnScope ["self", "letters", "functions", "names", "room"] ["self", "letters", "functions", "names", "room"] (defScope sPlInit) := ⟨rfl, rfl, rfl, by decide +kernel, rfl, by decide +kernel, by decide +kernel⟩
theorem ok_plinit {f : Addr} {fd : FuncData} (F : Fun K "__init__" "Place.__init__" sPlInit f fd) (cl : Cls K C) (n1 : NoAttr K C "letters") (n2 : NoAttr K C "functions") (n3 : NoAttr K C "names") (n4 : NoAttr K C "room") :
    FnOk P w K mg base CX0 1 f fd ["self", "letters", "functions", "names", "room"] (fun vs H Q _ => ∃ (p dx la fa na : Addr) (r : Int), vs = [.ref p, .ref la, .ref fa, .ref na, .int r] ∧ H p = some (.ins C dx []) ∧
      ∀ (H' : Hp), H' p = some (.ins C dx (placeF la fa na r)) → (∀ c o, H c = some o → c ≠ p → H' c = some o) → Q .non H') := by
  refine F.ok scPI (fun vs H Q E h => ?_) (fun cdv A outer s H vs Q E hr h => ?_)
  · obtain ⟨p, dx, la, fa, na, r, rfl, _⟩ := h
    rfl
  obtain ⟨p, dx, la, fa, na, r, rfl, hp, k⟩ := h
  refine ⟨_, pss_cons (ps_fld (pv 0) (pv 1) rfl) (pss_cons (ps_fld (pv 0) (pv 2) rfl) (pss_cons (ps_fld (pv 0) (pv 3) rfl) (pss_one (ps_fld (pv 0) (pv 4) rfl)))), ?_⟩
  have len : ∀ {x : Str} {v : V} {fs : List (Str × V)}, (putF x v fs).length ≤ fs.length + 1 := fun {x v fs} => by
    induction fs with
    | nil => exact Nat.le_refl _
    | cons q fs ih =>
      obtain ⟨a, b⟩ := q
      show (if a = x then _ else _ : List (Str × V)).length ≤ _
      split
      · exact Nat.le_succ _
      · exact Nat.succ_le_succ ih
  refine ⟨_, rfl, _, rfl, p, C, dx, [], rfl, hp, cl, n1, (by show 0 < 1000; decide), _, rfl, _, rfl, p, C, dx, _, rfl, upd_same, cl, n2, ?_, _, rfl, _, rfl, p, C, dx, _, rfl, upd_same, cl, n3, ?_, _, rfl, _, rfl, p, C, dx, _, rfl, upd_same, cl, n4, ?_, ?_⟩
  · have := len (x := "letters") (v := .ref la) (fs := []); exact Nat.lt_of_le_of_lt this (by decide)
  · have a1 := len (x := "letters") (v := .ref la) (fs := [])
    have a2 := len (x := "functions") (v := .ref fa) (fs := putF "letters" (.ref la) [])
    simp at a1
    omega
  · have a1 := len (x := "letters") (v := .ref la) (fs := [])
    have a2 := len (x := "functions") (v := .ref fa) (fs := putF "letters" (.ref la) [])
    have a3 := len (x := "names") (v := .ref na) (fs := putF "functions" (.ref fa) (putF "letters" (.ref la) []))
    simp at a1
    omega
  refine k _ (by rw [upd_same, plF]) fun c o e hc => ?_
  rw [upd_ne hc, upd_ne hc, upd_ne hc, upd_ne hc]
  exact e
/-- raising with a plain text -/
theorem scNeedWord : FnScope ["told", "place"] ["told", "place"] (defScope sPNeedWord) := ⟨rfl, rfl, rfl, by decide +kernel, rfl, by decide +kernel, by decide +kernel⟩
theorem c_need_word (T : Tx K mg) (R : Ers K mg cls) (CW : Cal P w K mg base 2 "is_word" ["thing"] (spTest K T0 isWordD)) : CalX P w K mg base 3 "_need_word" ["told", "place"] (spAt K T0 C cls r fun _ => gWord) := by
  refine T.p_need_word.okX scNeedWord (fun vs H Q E h => ?_) (fun f cdv A outer s H vs Q Ex hr h => ?_)
  · obtain ⟨v, d, p, E, rfl, _⟩ := h
    rfl
  obtain ⟨v, d, p, E, rfl, hd, ok, tb, hp, q1, q2⟩ := h
  refine ⟨_, pss_one (ps_if (pt_not (pt_val (pe_cal CW hr (pa_cons (pv 0) pa_nil))))
      (pss_one (ps_raise rfl (takes_of rfl rfl rfl rfl) (pmk_own PySem.F.excBase_ValueError R.bp.q R.bp.g R.bp.k (raises_own R.bp.b R.bp.t) (by exact rfl)))) pss_nil), ?_⟩
  refine ⟨_, rfl, v, d, rfl, hd, ok, tb, fun H1 f1 => ⟨_, rfl, ?_⟩⟩
  cases h1 : isWordD d with
  | false => exact q2 .bp (by show whenB (isWordD d) .bp = some .bp; rw [h1]; rfl) H1 f1
  | true => exact q1 (by show whenB (isWordD d) .bp = none; rw [h1]; rfl) H1 f1
theorem gWord_none {d : PyData} (h : gWord d = none) : ∃ z, d = .str z ∧ isWordD (.str z) = true := by
  cases d with
  | str z =>
    refine ⟨z, rfl, ?_⟩
    cases h1 : isWordD (.str z) with
    | true => rfl
    | false => rw [show gWord (.str z) = some .bp by show whenB (isWordD (.str z)) .bp = _; rw [h1]; rfl] at h; cases h
  | _ => cases h
theorem gWord_some {d : PyData} {b : Wr} (h : gWord d = some b) : b = .bp ∧ isWordD d = false := by
  have h' : whenB (isWordD d) .bp = some b := h
  cases h1 : isWordD d with
  | true => rw [h1] at h'; cases h'
  | false => rw [h1] at h'; exact ⟨(Option.some.inj h').symm, rfl⟩
theorem scNeedKnown : FnScope ["told", "place"] ["told", "place"] (defScope sPNeedKnown) := ⟨rfl, rfl, rfl, by decide +kernel, rfl, by decide +kernel, by decide +kernel⟩
theorem c_need_known (T : Tx K mg) (R : Ers K mg cls) (L : PlC P w K mg base C) (CW : CalX P w K mg base 3 "_need_word" ["told", "place"] (spAt K T0 C cls r fun _ => gWord)) : CalX P w K mg base 4 "_need_known" ["told", "place"] (spAt K T0 C cls r gKnown) := by
  refine T.p_need_known.okX scNeedKnown (fun vs H Q E h => ?_) (fun f cdv A outer s H vs Q Ex hr h => ?_)
  · obtain ⟨v, d, p, E, rfl, _⟩ := h
    rfl
  obtain ⟨v, d, p, E, rfl, hd, ok, tb, hp, q1, q2⟩ := h
  refine ⟨_, pss_cons (ps_expr (pe_calX CW hr (passes_call (takes_of rfl rfl rfl rfl) (fun _ _ _ _ h => h)) (pa_cons (pv 0) (pa_cons (pv 1) pa_nil))))
    (pss_one (ps_if (pt_cmpR op_notIn_seq (pv 0) (pe_fld (pv 1) rfl) (by rfl))
      (pss_one (ps_raise rfl (takes_of rfl rfl rfl rfl) (SkE.pmk_own1 PySem.F.excBase_ValueError R.nn.q R.nn.g R.nn.k (raises_own R.nn.b R.nn.t) (by exact rfl) (pe_fs (.cons pe_str (.cons (pe_fmt (pv 0)) (.cons pe_str .nil))))))) pss_nil)), ?_⟩
  refine ⟨_, rfl, _, rfl, v, d, p, E, rfl, hd, ok, tb, hp, fun e H1 f1 => ?_, fun b e H1 f1 => ?_⟩
  · obtain ⟨z, rfl, hz⟩ := gWord_none e
    cases hd
    have hp1 := hp.keep tb f1
    obtain ⟨dx, la, fa, na, h1, h2, h3, h4⟩ := hp1.at_
    have eg : gKnown E (.str z) = whenB (decide (z ∈ E.ns)) .nn := by show (if isWordD (.str z) = true then _ else _) = _; rw [if_pos hz]
    refine ⟨_, rfl, _, rfl, p, C, dx, _, _, rfl, h1, L.cl, L.n3, pl_names la fa na, na, _, rfl, .inr h4, rfl, flat_strs _, ?_⟩
    rw [in_strs]
    have z8 : z.length ≤ 8 := (of_decide_eq_true (show decide (Word z) = true from hz)).2.1
    cases hm : decide (z ∈ E.ns) with
    | true => exact ⟨_, rfl, q1 (by rw [eg, hm]; rfl) H1 f1⟩
    | false =>
      refine ⟨_, rfl, _, rfl, by decide +kernel, _, rfl, .inl ⟨z, rfl, sizeOk (by omega), _, rfl, ?_, _, rfl, ?_, ?_⟩⟩
      · rw [len_app]
        have : (Str.empty ++ "the name " : Str).length ≤ 100 := by decide +kernel
        exact sizeOk (by omega)
      · rw [len_app, len_app]
        have : (Str.empty ++ "the name " : Str).length ≤ 100 := by decide +kernel
        have : (" is not known where it stands" : Str).length ≤ 100 := by decide +kernel
        exact sizeOk (by omega)
      · exact q2 .nn (by rw [eg, hm]; rfl) H1 f1
  · obtain ⟨rfl, hw⟩ := gWord_some e
    refine q2 .bp ?_ H1 f1
    cases d with
    | str z => show (if isWordD (.str z) = true then _ else _) = _; rw [if_neg (by rw [hw]; decide)]
    | _ => rfl
end
end Sc
namespace Sc
open PySem PyProof.Rows L2
section
variable {X : Cx}
def rNotInTD (K : PySem.W.Frag) : R2 := fun x y H Q => ∃ d ds, Dp K H x d ∧ Dp K H y (.tuple ds) ∧ SeqAt.shaped d = true ∧ SeqAt.shaped (.tuple ds) = true ∧ Q (.bl (!ds.any fun z => PyData.eqv z d)) H
theorem op_notInTD (hu : X.A.units + 65 < cLine) : OpR X (compareOp .NotIn) (rNotInTD X.K) := by
  intro pins s σ H x y v u Q I rx ry h
  obtain ⟨d, ds, hd, he, sd, se, q⟩ := h
  obtain ⟨as, r1⟩ := Dp.reads I d x v hd rx
  obtain ⟨bs, r2⟩ := Dp.reads I (.tuple ds) y u he ry
  exact SeqAt.notIn_tuple_reads r2 r1 (SeqAt.canLay_of_shaped se) (SeqAt.canLay_of_shaped sd) (room_in_shaped sd hu) ⟨.bl _, H, I, rfl, q⟩
end
def strIn (ls : List Str) : PyData → Bool
  | .str z => decide (z ∈ ls)
  | _ => false
theorem any_strD (d : PyData) : ∀ ls : List Str, ((ls.map PyData.str).any fun z => PyData.eqv z d) = strIn ls d
  | [] => by cases d <;> rfl
  | l :: ls => by
    rw [List.map_cons, List.any_cons, any_strD d ls]
    cases d with
    | str z =>
      have e : PyData.eqv (.str l) (.str z) = decide (l = z) := by
        rw [Bool.eq_iff_iff, decide_eq_true_eq]
        exact ⟨fun h => PyData.str.inj ((eqv_word _ _).mp h), fun h => (eqv_word _ _).mpr (by rw [h])⟩
      show (PyData.eqv (.str l) (.str z) || decide (z ∈ ls)) = decide (z ∈ l :: ls)
      rw [e, Bool.eq_iff_iff, Bool.or_eq_true, decide_eq_true_eq, decide_eq_true_eq, decide_eq_true_eq, List.mem_cons]
      exact ⟨fun h => h.imp Eq.symm id, fun h => h.imp Eq.symm id⟩
    | _ => simp [PyData.eqv, strIn]
section
variable {P : Program} {w : World} {K : PySem.W.Frag} {mg : Str → Option Value} {base : Heap} {T0 : List Addr} {C : Addr} {cls : Wr → Addr} {r : Int}
theorem scNeedHead : FnScope ["told", "place"] ["told", "place"] (defScope sPNeedHead) := ⟨rfl, rfl, rfl, by decide +kernel, rfl, by decide +kernel, by decide +kernel⟩
theorem c_need_head (T : Tx K mg) (R : Ers K mg cls) : CalX P w K mg base 1 "_need_head" ["told", "place"] (spAt K T0 C cls r fun _ => gHead) := by
  refine T.p_need_head.okX scNeedHead (fun vs H Q E h => ?_) (fun f cdv A outer s H vs Q Ex hr h => ?_)
  · obtain ⟨v, d, p, E, rfl, _⟩ := h
    rfl
  obtain ⟨v, d, p, E, rfl, hd, ok, tb, hp, q1, q2⟩ := h
  have hu65 : (A.deeper (envOfC "_need_head" (defScope sPNeedHead) s.heap.objs.size f cdv)).units + 65 < cLine := by have := hr.un; omega
  refine ⟨_, pss_one (ps_if (pt_cmpR (op_notInTD hu65) (pv 0) (pe_tup (pa_cons pe_str (pa_cons pe_str (pa_cons pe_str (pa_cons pe_str (pa_cons pe_str pa_nil)))))) (by rfl))
      (pss_one (ps_raise rfl (takes_of rfl rfl rfl rfl) (pmk_own PySem.F.excBase_ValueError R.bp.q R.bp.g R.bp.k (raises_own R.bp.b R.bp.t) (by exact rfl)))) pss_nil), ?_⟩
  refine ⟨_, rfl, (by show 5 ≤ sizeLine; decide), fun t ht => ?_⟩
  have e1 := same_new ht (.tup [.str "number", .str "text", .str "row", .str "book", .str "shape"])
  have f1 : Fr T0 H (upd H t (.tup [.str "number", .str "text", .str "row", .str "book", .str "shape"])) := Fr.same tb e1
  refine ⟨d, (["number", "text", "row", "book", "shape"] : List Str).map .str, (Same.keepL e1).dp hd, .tup (SqT.of upd_same) (.cons (.str _) (.cons (.str _) (.cons (.str _) (.cons (.str _) (.cons (.str _) .nil))))), ok.1, by decide +kernel, _, rfl, ?_⟩
  rw [any_strD]
  have eg : gHead d = whenB (strIn ["number", "text", "row", "book", "shape"] d) .bp := by cases d <;> rfl
  cases hm : strIn ["number", "text", "row", "book", "shape"] d with
  | true => exact q1 (by show gHead d = none; rw [eg, hm]; rfl) _ f1
  | false => exact q2 .bp (by show gHead d = some .bp; rw [eg, hm]; rfl) _ f1
theorem scNeedKindHere : FnScope ["told", "place"] ["told", "place"] (defScope sPNeedKindHere) := ⟨rfl, rfl, rfl, by decide +kernel, rfl, by decide +kernel, by decide +kernel⟩
theorem c_need_kind_here (T : Tx K mg) (L : PlC P w K mg base C) (CN : CalX P w K mg base 31 "need_kind" ["kind", "letters"] (spNeed K T0 (cls .bk) [] (fun ls => gK ls 9))) : CalX P w K mg base 32 "_need_kind_here" ["told", "place"] (spAt K T0 C cls r fun E => gKind E.ls) := by
  refine T.p_need_kind_here.okX scNeedKindHere (fun vs H Q E h => ?_) (fun f cdv A outer s H vs Q Ex hr h => ?_)
  · obtain ⟨v, d, p, E, rfl, _⟩ := h
    rfl
  obtain ⟨v, d, p, E, rfl, hd, ok, tb, hp, q1, q2⟩ := h
  dsimp only at q1 q2
  refine ⟨_, pss_one (ps_expr (pe_calX CN hr (passes_call (takes_of rfl rfl rfl rfl) (fun _ _ _ _ h => h)) (pa_cons (pv 0) (pa_cons (pe_fld (pv 1) rfl) pa_nil)))), ?_⟩
  obtain ⟨dx, la, fa, na, h1, h2, h3, h4⟩ := hp.at_
  refine ⟨_, rfl, _, rfl, p, C, dx, _, _, rfl, h1, L.cl, L.n1, pl_letters la fa na, E.ls, v, d, la, rfl, hd, ok, tb, h2, fun e H1 f1 => ?_, fun e H1 f1 => ?_⟩
  · exact q1 (by show whenB (gK E.ls 9 d) .bk = none; rw [show gK E.ls 9 d = true from e]; rfl) H1 f1
  · exact q2 .bk (by show whenB (gK E.ls 9 d) .bk = some .bk; rw [show gK E.ls 9 d = false from e]; rfl) H1 f1
theorem fb_none {l : List (Option Wr)} : firstBad l = none ↔ ∀ x ∈ l, x = none := by
  induction l with
  | nil => exact ⟨fun _ x h => (by cases h), fun _ => rfl⟩
  | cons a l ih =>
    cases a with
    | none => exact ⟨fun h x m => (List.mem_cons.mp m).elim id fun m => ih.mp h x m, fun h => ih.mpr fun x m => h x (List.mem_cons_of_mem _ m)⟩
    | some b => exact ⟨fun h => (by cases h), fun h => (by cases h _ List.mem_cons_self)⟩
theorem fb_at {l : List (Option Wr)} {j : Nat} {b : Wr} (h1 : ∀ i x, i < j → l[i]? = some x → x = none) (h2 : l[j]? = some (some b)) : firstBad l = some b := by
  induction l generalizing j with
  | nil => cases h2
  | cons a l ih =>
    cases j with
    | zero =>
      obtain rfl := Option.some.inj h2
      rfl
    | succ j =>
      obtain rfl := h1 0 a (Nat.succ_pos _) rfl
      exact ih (fun i x hi hx => h1 (i + 1) x (Nat.succ_lt_succ hi) hx) h2
/-- a loop over a tuple that asks each thing in turn -/
theorem loop_bad {g : PyData → Option Wr} {ds : List PyData} {j : Nat} (h : ∀ i d, i < j → ds[i]? = some d → g d = none) {d : PyData} (hd : ds[j]? = some d) :
    (g d = none → ∀ i d, i < j + 1 → ds[i]? = some d → g d = none) ∧ (∀ b, g d = some b → firstBad (ds.map g) = some b) := by
  refine ⟨fun e i x hi hx => ?_, fun b e => fb_at (j := j) (fun i x hi hx => ?_) (by rw [List.getElem?_map, hd]; exact congrArg some e)⟩
  · rcases Nat.lt_succ_iff_lt_or_eq.mp hi with z | z
    · exact h i x z hx
    · subst z
      rw [hd] at hx
      cases hx
      exact e
  · rw [List.getElem?_map] at hx
    obtain ⟨y, hy, rfl⟩ := Option.map_eq_some_iff.mp hx
    exact h i y hi hy
theorem loop_good {g : PyData → Option Wr} {ds : List PyData} (h : ∀ i d, i < ds.length → ds[i]? = some d → g d = none) : firstBad (ds.map g) = none := fb_none.mpr fun x m => by
  obtain ⟨d, hd, rfl⟩ := List.mem_map.mp m
  obtain ⟨i, hi⟩ := List.getElem?_of_mem hd
  exact h i d (List.getElem?_eq_some_iff.mp hi).1 hi
theorem scNeedKinds : FnScope ["told", "place", "kind"] ["told", "place"] (defScope sPNeedKinds) := ⟨rfl, rfl, rfl, by decide +kernel, rfl, by decide +kernel, by decide +kernel⟩
theorem c_need_kinds (T : Tx K mg) (R : Ers K mg cls) (L : PlC P w K mg base C) (CN : CalX P w K mg base 31 "need_kind" ["kind", "letters"] (spNeed K T0 (cls .bk) [] (fun ls => gK ls 9))) : CalX P w K mg base 32 "_need_kinds" ["told", "place"] (spAt K T0 C cls r fun E => gKinds E.ls) := by
  refine T.p_need_kinds.okX scNeedKinds (fun vs H Q E h => ?_) (fun f cdv A outer s H vs Q Ex hr h => ?_)
  · obtain ⟨v, d, p, E, rfl, _⟩ := h
    rfl
  obtain ⟨v, d, p, E, rfl, hd, ok, tb, hp, q1, q2⟩ := h
  dsimp only at q1 q2
  refine ⟨_, pss_cons (ps_if (pt_not (pt_val (pe_callB call_isi (by rfl) T.m_isinstance boot_isinstance (pa_cons (pv 0) (pa_cons (pe_bltn (v := .ty "tuple") (by rfl) T.m_tuple boot_tuple rfl) pa_nil)))))
      (pss_one (ps_raise rfl (takes_of rfl rfl rfl rfl) (pmk_own PySem.F.excBase_ValueError R.bp.q R.bp.g R.bp.k (raises_own R.bp.b R.bp.t) (by exact rfl)))) pss_nil)
    (pss_one (ps_for (passes_of rfl) rfl (pi_tup (pv 0)) (pg_name (i := 2) scNeedKinds.nd rfl (Or.inl rfl))
      (pss_one (ps_expr (pe_calX CN hr (passes_call (takes_of rfl rfl rfl rfl) (fun _ _ _ _ h => h)) (pa_cons (pv 2) (pa_cons (pe_fld (pv 1) rfl) pa_nil))))))), ?_⟩
  refine ⟨_, rfl, _, _, _, _, _, rfl, .ty _, Dp.ty hd, kit_ty (isTup hd), _, rfl, ?_⟩
  cases hd with
  | tup ht hds =>
    rename_i a vs ds
    have okx := ok.sub.2
    have lv := DpAll.len hds
    refine ⟨_, rfl, a, rfl, ⟨_, ht⟩, ?_⟩
    refine for_tup (K := K) (a := a) (xs := vs) (fun j σ2 H2 => Fr T0 H H2 ∧ (∃ o, σ2 = [some (.ref a), some (.ref p), o]) ∧ ∀ i d, i < j → ds[i]? = some d → gKind E.ls d = none) ⟨Fr.refl tb, ⟨_, rfl⟩, fun i d h => absurd h (Nat.not_lt_zero _)⟩ (fun j σ2 H2 _ h => (Fr.keep tb h.1).2 _ _ ht) ?_ ?_
    · rintro j x σ2 H2 hx ⟨f2, ⟨o, rfl⟩, al⟩
      obtain ⟨d, hd1, hd2⟩ := DpAll.get hds hx
      obtain ⟨n1, n2⟩ := loop_bad (g := gKind E.ls) al hd1
      obtain ⟨dx, la, fa, na, h1, h2, h3, h4⟩ := (hp.keep tb f2).at_
      dsimp only [gName]
      refine ⟨_, rfl, _, rfl, p, C, dx, _, _, rfl, h1, L.cl, L.n1, pl_letters la fa na, E.ls, x, d, la, rfl, (Fr.keep tb f2).dp hd2, okx d (List.mem_of_getElem? hd1), f2.tab, h2, fun e H3 f3 => ?_, fun e H3 f3 => ?_⟩
      · exact ⟨f2.trans f3, ⟨_, rfl⟩, n1 (by show whenB (gK E.ls 9 d) .bk = none; rw [show gK E.ls 9 d = true from e]; rfl)⟩
      · exact q2 .bk (n2 .bk (by show whenB (gK E.ls 9 d) .bk = some .bk; rw [show gK E.ls 9 d = false from e]; rfl)) H3 (f2.trans f3)
    · rintro σ2 H2 ⟨f2, ⟨o, rfl⟩, al⟩
      exact q1 (loop_good (g := gKind E.ls) (by rw [← lv]; exact al)) H2 f2
  | str _ => exact q2 .bp rfl H (Fr.refl tb)
  | non => exact q2 .bp rfl H (Fr.refl tb)
  | bl b => exact q2 .bp rfl H (Fr.refl tb)
  | int b => exact q2 .bp rfl H (Fr.refl tb)
  | lst _ _ => exact q2 .bp rfl H (Fr.refl tb)
theorem scNeedWhole : FnScope ["told", "place"] ["told", "place"] (defScope sPNeedWhole) := ⟨rfl, rfl, rfl, by decide +kernel, rfl, by decide +kernel, by decide +kernel⟩
theorem c_need_whole (T : Tx K mg) (R : Ers K mg cls) : CalX P w K mg base 1 "_need_whole" ["told", "place"] (spAt K T0 C cls r fun _ => gWhole) := by
  refine T.p_need_whole.okX scNeedWhole (fun vs H Q E h => ?_) (fun f cdv A outer s H vs Q Ex hr h => ?_)
  · obtain ⟨v, d, p, E, rfl, _⟩ := h
    rfl
  obtain ⟨v, d, p, E, rfl, hd, ok, tb, hp, q1, q2⟩ := h
  dsimp only at q1 q2
  refine ⟨_, pss_one (ps_if (PW.pt (pw_or (pt_val (pe_callB call_isi (by rfl) T.m_isinstance boot_isinstance (pa_cons (pv 0) (pa_cons (pe_bltn (v := .ty "bool") (by rfl) T.m_bool boot_bool rfl) pa_nil))))
      (pw_or (pt_not (pt_val (pe_callB call_isi (by rfl) T.m_isinstance boot_isinstance (pa_cons (pv 0) (pa_cons (pe_bltn (v := .ty "int") (by rfl) T.m_int boot_int rfl) pa_nil)))))
      (pw_or1 (pt_cmpR op_ge (pe_callB call_abs (by rfl) T.m_abs (by decide +kernel) (pa_cons (pv 0) pa_nil)) (pe_op op_pow pe_int pe_int) (nomark _))))))
      (pss_one (ps_raise rfl (takes_of rfl rfl rfl rfl) (pmk_own PySem.F.excBase_ValueError R.bp.q R.bp.g R.bp.k (raises_own R.bp.b R.bp.t) (by exact rfl)))) pss_nil), ?_⟩
  have neg : gWhole d = some .bp → Ex (.ref (cls .bp)) none H := fun e => q2 .bp e H (Fr.refl tb)
  have ty := Dp.ty hd
  have i1 := noM hd
  have i2 := isIntD hd
  show tOr _ _ _ _ _
  cases hd with
  | int n =>
    refine or_pure false (decide ((10 : Int) ^ 30 ≤ (if n < 0 then -n else n))) (fun R1 h => ⟨_, rfl, _, _, _, _, _, rfl, .ty _, ty, kit_ty i1, _, rfl, h⟩) (fun _ R1 h => ?_) (fun h => ?_) (fun _ h => ?_)
    · show tOr _ _ _ _ _
      refine or_pure false (decide ((10 : Int) ^ 30 ≤ (if n < 0 then -n else n))) (fun R2 h => ⟨_, rfl, _, _, _, _, _, rfl, .ty _, ty, kit_ty i2, _, rfl, h⟩) (fun _ R2 h => ⟨_, rfl, n, rfl, _, _, rfl, rfl, ⟨by decide, by decide, by decide⟩, _, _, rfl, rfl, _, rfl, h⟩) (fun e => ?_) (fun _ e => ?_)
      · rw [e.elim (fun z => by cases z) id] at h
        exact h
      · rw [e] at h
        exact h
    · have e := of_decide_eq_true (h.elim (fun z => by cases z) id)
      refine neg ?_
      show whenB (decide (n.natAbs < 10 ^ 30)) .bp = some .bp
      rw [decide_eq_false (by split at e <;> omega)]
      rfl
    · have e := of_decide_eq_false h
      refine q1 ?_ H (Fr.refl tb)
      show whenB (decide (n.natAbs < 10 ^ 30)) .bp = none
      rw [decide_eq_true (by split at e <;> omega)]
      rfl
  | bl b => exact or_pure true true (fun R1 h => ⟨_, rfl, _, _, _, _, _, rfl, .ty _, ty, kit_ty i1, _, rfl, h⟩) (fun h => by cases h) (fun _ => neg rfl) (fun h => by cases h)
  | str _ => exact or_pure false true (fun R1 h => ⟨_, rfl, _, _, _, _, _, rfl, .ty _, ty, kit_ty i1, _, rfl, h⟩) (fun _ R1 h => by
      show tOr _ _ _ _ _
      exact or_pure true true (fun R2 h => ⟨_, rfl, _, _, _, _, _, rfl, .ty _, ty, kit_ty i2, _, rfl, h⟩) (fun h => by cases h) (fun _ => h) (fun h => by cases h)) (fun _ => neg rfl) (fun _ h => by cases h)
  | non => exact or_pure false true (fun R1 h => ⟨_, rfl, _, _, _, _, _, rfl, .ty _, ty, kit_ty i1, _, rfl, h⟩) (fun _ R1 h => by
      show tOr _ _ _ _ _
      exact or_pure true true (fun R2 h => ⟨_, rfl, _, _, _, _, _, rfl, .ty _, ty, kit_ty i2, _, rfl, h⟩) (fun h => by cases h) (fun _ => h) (fun h => by cases h)) (fun _ => neg rfl) (fun _ h => by cases h)
  | lst _ _ => exact or_pure false true (fun R1 h => ⟨_, rfl, _, _, _, _, _, rfl, .ty _, ty, kit_ty i1, _, rfl, h⟩) (fun _ R1 h => by
      show tOr _ _ _ _ _
      exact or_pure true true (fun R2 h => ⟨_, rfl, _, _, _, _, _, rfl, .ty _, ty, kit_ty i2, _, rfl, h⟩) (fun h => by cases h) (fun _ => h) (fun h => by cases h)) (fun _ => neg rfl) (fun _ h => by cases h)
  | tup _ _ => exact or_pure false true (fun R1 h => ⟨_, rfl, _, _, _, _, _, rfl, .ty _, ty, kit_ty i1, _, rfl, h⟩) (fun _ R1 h => by
      show tOr _ _ _ _ _
      exact or_pure true true (fun R2 h => ⟨_, rfl, _, _, _, _, _, rfl, .ty _, ty, kit_ty i2, _, rfl, h⟩) (fun h => by cases h) (fun _ => h) (fun h => by cases h)) (fun _ => neg rfl) (fun _ h => by cases h)
end
end Sc
namespace Sc
open PySem PyProof.Rows L2
def slotIn (rec tOk : PyData → Prop) (s : Str) (d : PyData) : Prop :=
  (s = ("text" : Str) → tOk d) ∧ ((s = ("part" : Str) ∨ s = ("last" : Str)) → rec d) ∧
    ∀ ds, d = .tuple ds → ((s = ("parts" : Str) ∨ s = ("handed" : Str)) → ∀ x ∈ ds, rec x) ∧ (s = ("fields" : Str) → ∀ f p, PyData.tuple [f, p] ∈ ds → rec p)
/-- all texts in parts are such -/
def txs (tOk : PyData → Prop) : Nat → PyData → Prop
  | 0, _ => True
  | n + 1, d => ∀ w fm ts, formOf d = some (w, fm, ts) → ∀ (j : Nat) (s : Str) (t : PyData), fm[j]? = some s → ts[j]? = some t → slotIn (txs tOk n) tOk s t
def spAtG (K : PySem.W.Frag) (T : List Addr) (C : Addr) (cls : Wr → Addr) (r : Int) (G : Env0 → PyData → Prop) (g : Env0 → PyData → Option Wr) : Sp := fun vs H Q Ex => ∃ (v : V) (d : PyData) (p : Addr) (E : Env0), vs = [v, .ref p] ∧ Dp K H v d ∧ okD d ∧ Tb T H ∧ PlaceAt K C H p E r ∧ G E d ∧
  (g E d = none → ∀ H', Fr T H H' → Q .non H') ∧ (∀ b, g E d = some b → ∀ H', Fr T H H' → Ex (.ref (cls b)) none H')
section
variable {P : Program} {w : World} {K : PySem.W.Frag} {mg : Str → Option Value} {base : Heap} {T0 : List Addr} {C : Addr} {cls : Wr → Addr} {r : Int}
theorem fn_at {K : PySem.W.Frag} {H : Hp} {kvs : List (Key × V)} {fs : List (Str × Nat × Nat)} (z : Str) (h : kvs.map (·.1) = fs.map (fun q => (Sum.inr q.1 : Key))) : (valV kvs (Sum.inr z)).isSome = decide (z ∈ fs.map (·.1)) := by
  unfold valV
  induction kvs generalizing fs with
  | nil =>
    cases fs with
    | nil => rfl
    | cons _ _ => cases h
  | cons a kvs ih =>
    cases fs with
    | nil => cases h
    | cons b fs =>
      rw [List.map_cons, List.map_cons] at h
      injection h with h1 h2
      have i := ih h2
      rw [List.find?_cons, List.map_cons]
      by_cases e : b.1 = z
      · rw [show decide (a.1 = Sum.inr z) = true from decide_eq_true (by rw [h1, e])]
        rw [decide_eq_true (show z ∈ b.1 :: fs.map (·.1) by rw [e]; exact List.mem_cons_self)]
        rfl
      · have ne : ¬ a.1 = (Sum.inr z : Key) := fun q => e (by rw [h1] at q; exact Sum.inr.inj q)
        rw [show decide (a.1 = Sum.inr z) = false from decide_eq_false ne]
        have mm : decide (z ∈ b.1 :: fs.map (·.1)) = decide (z ∈ fs.map (·.1)) := decide_eq_decide.mpr ⟨fun m => (List.mem_cons.mp m).elim (fun q => absurd q.symm e) id, List.mem_cons_of_mem _⟩
        rw [mm]
        exact i
theorem scNeedTold : FnScope ["told", "place"] ["told", "place"] (defScope sPNeedToldEarlier) := ⟨rfl, rfl, rfl, by decide +kernel, rfl, by decide +kernel, by decide +kernel⟩
theorem c_need_told (T : Tx K mg) (R : Ers K mg cls) (L : PlC P w K mg base C) (CW : CalX P w K mg base 3 "_need_word" ["told", "place"] (spAt K T0 C cls r fun _ => gWord)) : CalX P w K mg base 4 "_need_told_earlier" ["told", "place"] (spAt K T0 C cls r gFun) := by
  refine T.p_need_told_earlier.okX scNeedTold (fun vs H Q E h => ?_) (fun f cdv A outer s H vs Q Ex hr h => ?_)
  · obtain ⟨v, d, p, E, rfl, _⟩ := h
    rfl
  obtain ⟨v, d, p, E, rfl, hd, ok, tb, hp, q1, q2⟩ := h
  have hu1 : (A.deeper (envOfC "_need_told_earlier" (defScope sPNeedToldEarlier) s.heap.objs.size f cdv)).units + 1 < cLine := by have := hr.un; omega
  refine ⟨_, pss_cons (ps_expr (pe_calX CW hr (passes_call (takes_of rfl rfl rfl rfl) (fun _ _ _ _ h => h)) (pa_cons (pv 0) (pa_cons (pv 1) pa_nil))))
    (pss_one (ps_if (pt_cmp (pc_dnotin hu1 (pv 0) (pe_fld (pv 1) rfl)) (by rfl))
      (pss_one (ps_raise rfl (takes_of rfl rfl rfl rfl) (SkE.pmk_own1 PySem.F.excBase_ValueError R.nn.q R.nn.g R.nn.k (raises_own R.nn.b R.nn.t) (by exact rfl) (pe_fs (.cons pe_str (.cons (pe_fmt (pv 0)) (.cons pe_str .nil))))))) pss_nil)), ?_⟩
  refine ⟨_, rfl, _, rfl, v, d, p, E, rfl, hd, ok, tb, hp, fun e H1 f1 => ?_, fun b e H1 f1 => ?_⟩
  · obtain ⟨z, rfl, hz⟩ := gWord_none e
    cases hd
    have hp1 := hp.keep tb f1
    obtain ⟨dx, la, fa, na, h1, h2, ⟨kvs, k1, k2, nd, k3⟩, h4⟩ := hp1.at_
    have eg : gFun E (.str z) = whenB (decide (z ∈ E.fs.map (·.1))) .nn := by show (if isWordD (.str z) = true then _ else _) = _; rw [if_pos hz]
    refine ⟨_, rfl, _, rfl, p, C, dx, _, _, rfl, h1, L.cl, L.n2, pl_functions la fa na, fa, _, rfl, DGet.k (k := Sum.inr z) k1, _, rfl, ?_⟩
    rw [fn_at (K := K) (H := H1) z k2]
    have z8 : z.length ≤ 8 := (of_decide_eq_true (show decide (Word z) = true from hz)).2.1
    cases hm : decide (z ∈ E.fs.map (·.1)) with
    | true => exact q1 (by rw [eg, hm]; rfl) H1 f1
    | false =>
      refine ⟨_, rfl, by decide +kernel, _, rfl, .inl ⟨z, rfl, sizeOk (by omega), _, rfl, ?_, _, rfl, ?_, ?_⟩⟩
      · rw [len_app]
        have : (Str.empty ++ "no function " : Str).length ≤ 100 := by decide +kernel
        exact sizeOk (by omega)
      · rw [len_app, len_app]
        have : (Str.empty ++ "no function " : Str).length ≤ 100 := by decide +kernel
        have : (" is told earlier" : Str).length ≤ 100 := by decide +kernel
        exact sizeOk (by omega)
      · exact q2 .nn (by rw [eg, hm]; rfl) H1 f1
  · obtain ⟨rfl, hw⟩ := gWord_some e
    refine q2 .bp ?_ H1 f1
    cases d with
    | str z => show (if isWordD (.str z) = true then _ else _) = _; rw [if_neg (by rw [hw]; decide)]
    | _ => rfl
theorem scNeedIn : FnScope ["told", "place"] ["told", "place"] (defScope sPNeedWithin) := ⟨rfl, rfl, rfl, by decide +kernel, rfl, by decide +kernel, by decide +kernel⟩
theorem c_need_in {n lv : Nat} {G : Env0 → PyData → Prop} {g : Env0 → PyData → Option Wr} (T : Tx K mg) (L : PlC P w K mg base C) (lv2 : 2 ≤ lv) (CP : CalX P w K mg base lv "_need_part" ["part", "place"] (spAtG K T0 C cls (n : Nat) G g)) : CalX P w K mg base (lv + 1) "_need_within" ["told", "place"] (spAtG K T0 C cls ((n + 1 : Nat) : Int) G g) := by
  obtain ⟨fI, fdI, GI, MI, BI⟩ := L.ini
  refine T.p_need_within.okX scNeedIn (fun vs H Q E h => ?_) (fun f cdv A outer s H vs Q Ex hr h => ?_)
  · obtain ⟨v, d, p, E, rfl, _⟩ := h
    rfl
  obtain ⟨v, d, p, E, rfl, hd, ok, tb, hp, hG, q1, q2⟩ := h
  have r2 : Room 2 _ := hr.mono lv2
  refine ⟨_, pss_one (ps_expr (pe_calX CP hr (passes_call (takes_of rfl rfl rfl rfl) (fun _ _ _ _ h => h)) (pa_cons (pv 0) (pa_cons (pe_make MI GI r2 (by rfl) L.g BI .nil pass0 (pa_cons (pe_fld (pv 1) rfl) (pa_cons (pe_fld (pv 1) rfl) (pa_cons (pe_fld (pv 1) rfl) (pa_cons (pe_op op_sub (pe_fld (pv 1) rfl) pe_int) pa_nil))))) pa_nil)))), ?_⟩
  obtain ⟨dx, la, fa, na, h1, h2, h3, h4⟩ := hp.at_
  refine ⟨_, rfl, _, rfl, p, C, dx, _, _, rfl, h1, L.cl, L.n1, pl_letters la fa na, _, rfl, p, C, dx, _, _, rfl, h1, L.cl, L.n2, pl_functions la fa na, _, rfl, p, C, dx, _, _, rfl, h1, L.cl, L.n3, pl_names la fa na, _, rfl, p, C, dx, _, _, rfl, h1, L.cl, L.n4, pl_room la fa na, _, _, rfl, rfl, fun x dx' nx ndx nex => ?_⟩
  have s0 : Same H (upd (upd H dx' (.own x)) x (.ins C dx' [])) := fun b o e => by
    rw [upd_ne (ne_of_none e nx), upd_ne (ne_of_none e ndx)]
    exact e
  refine ⟨x, dx', la, fa, na, _, rfl, upd_same, fun H1 hx kp => ⟨rfl, ?_⟩⟩
  have s1 : Same H H1 := fun c o e => kp c o (s0 c o e) (ne_of_none e nx)
  have f1 : Fr T0 H H1 := Fr.same tb s1
  have kl := Fr.keep (K := K) tb f1
  have en : ((n + 1 : Nat) : Int) - 1 = (n : Int) := by omega
  rw [en] at hx
  exact ⟨v, d, x, E, rfl, kl.dp hd, ok, f1.tab, ⟨⟨dx', la, fa, na, hx, kl.2 _ _ h2, h3.keep tb f1, kl.2 _ _ h4⟩⟩, hG, fun e H2 f2 => q1 e H2 (f1.trans f2), fun b e H2 f2 => q2 b e H2 (f1.trans f2)⟩
theorem scNeedHanded : FnScope ["told", "place", "part"] ["told", "place"] (defScope sPNeedHanded) := ⟨rfl, rfl, rfl, by decide +kernel, rfl, by decide +kernel, by decide +kernel⟩
theorem c_need_handed {lv : Nat} {G : Env0 → PyData → Prop} {g : Env0 → PyData → Option Wr} (T : Tx K mg) (R : Ers K mg cls) (CW : CalX P w K mg base lv "_need_within" ["told", "place"] (spAtG K T0 C cls r G g)) :
    CalX P w K mg base (lv + 1) "_need_handed" ["told", "place"] (spAtG K T0 C cls r (fun E d => ∀ ds, d = .tuple ds → ∀ x ∈ ds, G E x) fun E => gHanded (g E)) := by
  refine T.p_need_handed.okX scNeedHanded (fun vs H Q E h => ?_) (fun f cdv A outer s H vs Q Ex hr h => ?_)
  · obtain ⟨v, d, p, E, rfl, _⟩ := h
    rfl
  obtain ⟨v, d, p, E, rfl, hd, ok, tb, hp, hG, q1, q2⟩ := h
  dsimp only at q1 q2
  refine ⟨_, pss_cons (ps_if (pt_not (pt_val (pe_callB call_isi (by rfl) T.m_isinstance boot_isinstance (pa_cons (pv 0) (pa_cons (pe_bltn (v := .ty "tuple") (by rfl) T.m_tuple boot_tuple rfl) pa_nil)))))
      (pss_one (ps_raise rfl (takes_of rfl rfl rfl rfl) (pmk_own PySem.F.excBase_ValueError R.bp.q R.bp.g R.bp.k (raises_own R.bp.b R.bp.t) (by exact rfl)))) pss_nil)
    (pss_one (ps_for (passes_of rfl) rfl (pi_tup (pv 0)) (pg_name (i := 2) scNeedHanded.nd rfl (Or.inl rfl))
      (pss_one (ps_expr (pe_calX CW hr (passes_call (takes_of rfl rfl rfl rfl) (fun _ _ _ _ h => h)) (pa_cons (pv 2) (pa_cons (pv 1) pa_nil))))))), ?_⟩
  refine ⟨_, rfl, _, _, _, _, _, rfl, .ty _, Dp.ty hd, kit_ty (isTup hd), _, rfl, ?_⟩
  cases hd with
  | tup ht hds =>
    rename_i a vs ds
    have okx := ok.sub.2
    have lv := DpAll.len hds
    refine ⟨_, rfl, a, rfl, ⟨_, ht⟩, ?_⟩
    refine for_tup (K := K) (a := a) (xs := vs) (fun j σ2 H2 => Fr T0 H H2 ∧ (∃ o, σ2 = [some (.ref a), some (.ref p), o]) ∧ ∀ i d, i < j → ds[i]? = some d → g E d = none) ⟨Fr.refl tb, ⟨_, rfl⟩, fun i d h => absurd h (Nat.not_lt_zero _)⟩ (fun j σ2 H2 _ h => (Fr.keep tb h.1).2 _ _ ht) ?_ ?_
    · rintro j x σ2 H2 hx ⟨f2, ⟨o, rfl⟩, al⟩
      obtain ⟨d, hd1, hd2⟩ := DpAll.get hds hx
      have md := List.mem_of_getElem? hd1
      obtain ⟨n1, n2⟩ := loop_bad (g := g E) al hd1
      dsimp only [gName]
      refine ⟨_, rfl, _, rfl, x, d, p, E, rfl, (Fr.keep tb f2).dp hd2, okx d md, f2.tab, hp.keep tb f2, hG ds rfl d md, fun e H3 f3 => ⟨f2.trans f3, ⟨_, rfl⟩, n1 e⟩, fun b e H3 f3 => q2 b (n2 b e) H3 (f2.trans f3)⟩
    · rintro σ2 H2 ⟨f2, ⟨o, rfl⟩, al⟩
      exact q1 (loop_good (g := g E) (by rw [← lv]; exact al)) H2 f2
  | str _ => exact q2 .bp rfl H (Fr.refl tb)
  | non => exact q2 .bp rfl H (Fr.refl tb)
  | bl b => exact q2 .bp rfl H (Fr.refl tb)
  | int b => exact q2 .bp rfl H (Fr.refl tb)
  | lst _ _ => exact q2 .bp rfl H (Fr.refl tb)
theorem scNeedParts : FnScope ["told", "place"] ["told", "place"] (defScope sPNeedParts) := ⟨rfl, rfl, rfl, by decide +kernel, rfl, by decide +kernel, by decide +kernel⟩
theorem gHanded_tuple {rec : PyData → Option Wr} {d : PyData} (h : gHanded rec d = none) : ∃ ds, d = .tuple ds := by
  cases d with
  | tuple ds => exact ⟨ds, rfl⟩
  | _ => cases h
theorem c_need_parts {lv : Nat} {G : Env0 → PyData → Prop} {g : Env0 → PyData → Option Wr} (T : Tx K mg) (R : Ers K mg cls) (CH : CalX P w K mg base lv "_need_handed" ["told", "place"] (spAtG K T0 C cls r G fun E => gHanded (g E))) :
    CalX P w K mg base (lv + 1) "_need_parts" ["told", "place"] (spAtG K T0 C cls r G fun E => gParts (g E)) := by
  refine T.p_need_parts.okX scNeedParts (fun vs H Q E h => ?_) (fun f cdv A outer s H vs Q Ex hr h => ?_)
  · obtain ⟨v, d, p, E, rfl, _⟩ := h
    rfl
  obtain ⟨v, d, p, E, rfl, hd, ok, tb, hp, hG, q1, q2⟩ := h
  dsimp only at q1 q2
  refine ⟨_, pss_cons (ps_expr (pe_calX CH hr (passes_call (takes_of rfl rfl rfl rfl) (fun _ _ _ _ h => h)) (pa_cons (pv 0) (pa_cons (pv 1) pa_nil))))
    (pss_one (ps_if (pt_cmpR op_eq (pe_callB call_len_seq (by rfl) T.m_len PySem.boot_len (pa_cons (pv 0) pa_nil)) pe_int (nomark _))
      (pss_one (ps_raise rfl (takes_of rfl rfl rfl rfl) (pmk_own PySem.F.excBase_ValueError R.bp.q R.bp.g R.bp.k (raises_own R.bp.b R.bp.t) (by exact rfl)))) pss_nil)), ?_⟩
  refine ⟨_, rfl, _, rfl, v, d, p, E, rfl, hd, ok, tb, hp, hG, fun e H1 f1 => ?_, fun b e H1 f1 => ?_⟩
  · obtain ⟨ds, rfl⟩ := gHanded_tuple e
    have e : gHanded (g E) (.tuple ds) = none := e
    have hd1 := (Fr.keep tb f1).dp hd
    cases hd1 with
    | tup ht hds =>
      rename_i a vs
      have lv := DpAll.len hds
      refine ⟨_, rfl, a, vs, rfl, .inr ht, rfl, _, rfl, ite2 (fun z => ?_) (fun z => ?_)⟩
      · have z' := V.int.inj (of_decide_eq_true z)
        have d0 : ds = [] := List.length_eq_zero_iff.mp (by omega)
        exact q2 .bp (by subst d0; unfold gParts; rw [e]) H1 f1
      · refine q1 ?_ H1 f1
        unfold gParts
        rw [e]
        cases ds with
        | nil => exact absurd (decide_eq_true (by rw [lv]; rfl)) z
        | cons _ _ => rfl
  · have e : gHanded (g E) d = some b := e
    exact q2 b (by unfold gParts; rw [e]) H1 f1
theorem scNeedFields2 : FnScope ["told", "place", "field", "part"] ["told", "place"] (defScope sPNeedFields2) := ⟨rfl, rfl, rfl, by decide +kernel, rfl, by decide +kernel, by decide +kernel⟩
theorem c_need_fields2 {lv : Nat} {G : Env0 → PyData → Prop} {g : Env0 → PyData → Option Wr} (T : Tx K mg) (R : Ers K mg cls) (lv3 : 3 ≤ lv) (CF : Cal P w K mg base 1 "are_fields" ["thing"] (spTest K T0 fldD)) (CN : CalX P w K mg base 3 "_need_word" ["told", "place"] (spAt K T0 C cls r fun _ => gWord))
    (CW : CalX P w K mg base lv "_need_within" ["told", "place"] (spAtG K T0 C cls r G g)) :
    CalX P w K mg base (lv + 1) "_need_fields" ["told", "place"] (spAtG K T0 C cls r (fun E d => ∀ ds, d = .tuple ds → ∀ f p, PyData.tuple [f, p] ∈ ds → G E p) fun E => gFields (g E)) := by
  refine T.p_need_fields2.okX scNeedFields2 (fun vs H Q E h => ?_) (fun f cdv A outer s H vs Q Ex hr h => ?_)
  · obtain ⟨v, d, p, E, rfl, _⟩ := h
    rfl
  obtain ⟨v, d, p, E, rfl, hd, ok, tb, hp, hG, q1, q2⟩ := h
  dsimp only at q1 q2
  have r1 : Room 1 _ := hr.mono (by omega)
  have r3 : Room 3 _ := hr.mono lv3
  refine ⟨_, pss_cons (ps_if (pt_not (pt_val (pe_cal CF r1 (pa_cons (pv 0) pa_nil))))
      (pss_one (ps_raise rfl (takes_of rfl rfl rfl rfl) (pmk_own PySem.F.excBase_ValueError R.bp.q R.bp.g R.bp.k (raises_own R.bp.b R.bp.t) (by exact rfl)))) pss_nil)
    (pss_one (ps_for (passes_of rfl) rfl (pi_tup (pv 0)) (pg_tup (by rfl) (pgs_cons (pg_name (i := 2) scNeedFields2.nd rfl (Or.inl rfl)) (pgs_cons (pg_name (i := 3) scNeedFields2.nd rfl (Or.inl rfl)) pgs_nil)))
      (pss_cons (ps_expr (pe_calX CN r3 (passes_call (takes_of rfl rfl rfl rfl) (fun _ _ _ _ h => h)) (pa_cons (pv 2) (pa_cons (pv 1) pa_nil))))
      (pss_one (ps_expr (pe_calX CW hr (passes_call (takes_of rfl rfl rfl rfl) (fun _ _ _ _ h => h)) (pa_cons (pv 3) (pa_cons (pv 1) pa_nil)))))))), ?_⟩
  refine ⟨_, rfl, v, d, rfl, hd, ok, tb, fun H1 f1 => ⟨_, rfl, ?_⟩⟩
  cases h1 : fldD d with
  | false => exact q2 .bp (by cases d with | tuple ds => show (if fldD (.tuple ds) = true then _ else _) = _; rw [h1]; rfl | _ => rfl) H1 f1
  | true =>
    cases hd with
    | tup ht hds =>
      rename_i a vs ds
      obtain ⟨len, okx⟩ := ok.sub
      have lv0 := DpAll.len hds
      have hpd : ds.all pairD = true := by
        have h' : (!ds.isEmpty && ds.all pairD && ascB (ds.map nameD)) = true := h1
        rw [Bool.and_eq_true, Bool.and_eq_true] at h'
        exact h'.1.2
      have eg : gFields (g E) (.tuple ds) = firstBad (ds.map (gField (g E))) := by show (if fldD (.tuple ds) = true then _ else _) = _; rw [if_pos h1]
      refine ⟨_, rfl, a, rfl, ⟨_, (Fr.keep tb f1).2 _ _ ht⟩, ?_⟩
      refine for_tup (K := K) (a := a) (xs := vs) (fun j σ2 H2 => Fr T0 H H2 ∧ (∃ o1 o2, σ2 = [some (.ref a), some (.ref p), o1, o2]) ∧ ∀ i d, i < j → ds[i]? = some d → gField (g E) d = none) ⟨f1, ⟨_, _, rfl⟩, fun i d h => absurd h (Nat.not_lt_zero _)⟩ (fun j σ2 H2 _ h => (Fr.keep tb h.1).2 _ _ ht) ?_ ?_
      · rintro j x σ2 H2 hx ⟨f2, ⟨o1, o2, rfl⟩, al⟩
        obtain ⟨d, hd1, hd2⟩ := DpAll.get hds hx
        have md := List.mem_of_getElem? hd1
        have pd := List.all_eq_true.mp hpd d md
        have okd := okx d md
        obtain ⟨n1, n2⟩ := loop_bad (g := gField (g E)) al hd1
        have hd2' := (Fr.keep tb f2).dp hd2
        cases hd2' with
        | tup ht2 hds2 =>
          rename_i a2 vs2 ds2
          have two : vs2.length = 2 := Classical.byContradiction fun z => by rw [pair_len (by rw [← DpAll.len hds2]; exact z)] at pd; cases pd
          obtain ⟨x1, x2, d1, d2, rfl, rfl, h3, h4⟩ := two_open hds2 two
          have ok1 := okd.sub.2 d1 List.mem_cons_self
          have ok2 := okd.sub.2 d2 (List.mem_cons_of_mem _ List.mem_cons_self)
          dsimp only [gName]
          refine ⟨a2, _, rfl, ht2, rfl, _, _, rfl, _, _, rfl, rfl, ?_⟩
          dsimp only [gName]
          refine ⟨_, rfl, _, rfl, x1, d1, p, E, rfl, h3, ok1, f2.tab, hp.keep tb f2, fun e H3 f3 => ?_, fun b e H3 f3 => ?_⟩
          · have f23 := f2.trans f3
            refine ⟨_, rfl, _, rfl, x2, d2, p, E, rfl, (Fr.keep f2.tab f3).dp h4, ok2, f3.tab, hp.keep tb f23, hG ds rfl d1 d2 md, fun e2 H4 f4 => ?_, fun b e2 H4 f4 => ?_⟩
            · exact ⟨f23.trans f4, ⟨_, _, rfl⟩, n1 (by show (match gWord d1 with | some b => some b | none => g E d2) = none; rw [show gWord d1 = none from e]; exact e2)⟩
            · exact q2 b (by rw [eg]; exact n2 b (by show (match gWord d1 with | some b => some b | none => g E d2) = some b; rw [show gWord d1 = none from e]; exact e2)) H4 (f23.trans f4)
          · exact q2 b (by rw [eg]; exact n2 b (by show (match gWord d1 with | some b => some b | none => g E d2) = some b; rw [show gWord d1 = some b from e])) H3 (f2.trans f3)
        | str _ => cases pd
        | non => cases pd
        | bl _ => cases pd
        | int _ => cases pd
        | lst _ _ => cases pd
      · rintro σ2 H2 ⟨f2, ⟨o1, o2, rfl⟩, al⟩
        exact q1 (by rw [eg]; exact loop_good (g := gField (g E)) (by rw [← lv0]; exact al)) H2 f2
    | str _ => cases h1
    | non => cases h1
    | bl _ => cases h1
    | int _ => cases h1
    | lst _ _ => cases h1
end
end Sc
namespace Sc
open PySem PyProof.Rows L2
def slotNames : List Str := ["whole", "text", "known", "given", "field", "head", "kind", "part", "last", "parts", "fields", "function", "kinds", "handed"]
theorem formlook_mem {z : Str} {fm : List Str} : ∀ {l : List (Str × List Str)}, l.lookup z = some fm → (z, fm) ∈ l
  | (a, b) :: l, h => by
    rw [List.lookup_cons] at h
    by_cases e : z = a
    · rw [show (z == a) = true by rw [e]; exact beq_self_eq_true a] at h
      have h' : b = fm := Option.some.inj h
      rw [e, h']
      exact List.mem_cons_self
    · rw [show (z == a) = false from beq_eq_false_iff_ne.mpr e] at h
      exact List.mem_cons_of_mem _ (formlook_mem h)
theorem form_slots {z : Str} {fm : List Str} (h : formTab.lookup z = some fm) : (∀ s ∈ fm, s ∈ slotNames) ∧ fm.length ≤ 6 ∧ z.length ≤ 8 := by
  have all : ∀ p ∈ formTab, (∀ s ∈ p.2, s ∈ slotNames) ∧ p.2.length ≤ 6 ∧ p.1.length ≤ 8 := by decide +kernel
  exact all _ (formlook_mem h)
/-- the table of forms, as the top has it -/
structure FT (K : PySem.W.Frag) (w : World) (mg : Str → Option Value) (FA : Addr) : Prop where
  g : mg "FORMS" = some (.ref FA)
  d : ∃ es n, KDict K w FA es n
  some_ : ∀ z fm, formTab.lookup z = some fm → ∃ t : Addr, PySem.W.nsIn K FA z = some (some (.ref t)) ∧ ∀ H : Hp, SqT K H t (fm.map V.str)
  none_ : ∀ z, formTab.lookup z = none → PySem.W.nsIn K FA z = some none
theorem FT.at_ {K : PySem.W.Frag} {w : World} {mg : Str → Option Value} {FA : Addr} (F : FT K w mg FA) {z : Str} {fm : List Str} (h : formTab.lookup z = some fm) : ∃ t : Addr, KDct K w FA z (.ref t) ∧ ∀ H : Hp, SqT K H t (fm.map V.str) := by
  obtain ⟨t, h1, h2⟩ := F.some_ z fm h
  obtain ⟨es, n, D⟩ := F.d
  exact ⟨t, ⟨es, n, .ref t, D.at_, D.lit, h1, rfl⟩, h2⟩
section
variable {P : Program} {w : World} {K : PySem.W.Frag} {mg : Str → Option Value} {base : Heap} {T0 : List Addr} {C FA : Addr} {cls : Wr → Addr}
def spForm (K : PySem.W.Frag) (T : List Addr) (cls : Wr → Addr) : Sp := fun vs H Q Ex => ∃ (v : V) (d : PyData), vs = [v] ∧ Dp K H v d ∧ okD d ∧ Tb T H ∧
  (∀ w fm ts, formOf d = some (w, fm, ts) → ∀ t, (∀ H' : Hp, SqT K H' t (fm.map V.str)) → Q (.ref t) H) ∧ (formOf d = none → ∀ H', Fr T H H' → Ex (.ref (cls .bp)) none H')
theorem scForm : FnScope ["part", "form"] ["part"] (defScope sPFormOf) := ⟨rfl, rfl, rfl, by decide +kernel, rfl, by decide +kernel, by decide +kernel⟩
theorem c_form_of (T : Tx K mg) (R : Ers K mg cls) (F : FT K w mg FA) : CalX P w K mg base 1 "_form_of" ["part"] (spForm K T0 cls) := by
  obtain ⟨es, nn, D⟩ := F.d
  refine T.p_form_of.okX scForm (fun vs H Q E h => ?_) (fun f cdv A outer s H vs Q Ex hr h => ?_)
  · obtain ⟨v, d, rfl, _⟩ := h
    rfl
  obtain ⟨v, d, rfl, hd, ok, tb, q1, q2⟩ := h
  refine ⟨_, pss_cons (ps_if (PW.pt (pw_or (pt_not (pt_val (pe_callB call_isi (by rfl) T.m_isinstance boot_isinstance (pa_cons (pv 0) (pa_cons (pe_bltn (v := .ty "tuple") (by rfl) T.m_tuple boot_tuple rfl) pa_nil)))))
        (pw_or1 (pt_cmpR op_eq (pe_callB call_len_seq (by rfl) T.m_len PySem.boot_len (pa_cons (pv 0) pa_nil)) pe_int (nomark _)))))
      (pss_one (ps_raise rfl (takes_of rfl rfl rfl rfl) (pmk_own PySem.F.excBase_ValueError R.bp.q R.bp.g R.bp.k (raises_own R.bp.b R.bp.t) (by exact rfl)))) pss_nil)
    (pss_cons (ps_if (PW.pt (pw_or (pt_not (pt_val (pe_callB call_isi (by rfl) T.m_isinstance boot_isinstance (pa_cons (pe_ix ix_tup (pv 0) pe_int (fun _ _ => rfl)) (pa_cons (pe_bltn (v := .ty "str") (by rfl) T.m_str boot_str rfl) pa_nil)))))
        (pw_or1 (pt_cmpR (op_notIn_kd D) (pe_ix ix_tup (pv 0) pe_int (fun _ _ => rfl)) (pe_glob (v := .ref FA) (by rfl) F.g rfl) (by rfl)))))
      (pss_one (ps_raise rfl (takes_of rfl rfl rfl rfl) (pmk_own PySem.F.excBase_ValueError R.bp.q R.bp.g R.bp.k (raises_own R.bp.b R.bp.t) (by exact rfl)))) pss_nil)
    (pss_cons (ps_set (i := 1) scForm.nd rfl (Or.inl rfl) (pe_ix ix_kdict (pe_glob (v := .ref FA) (by rfl) F.g rfl) (pe_ix ix_tup (pv 0) pe_int (fun _ _ => rfl)) (fun _ _ => rfl)))
    (pss_cons (ps_if (pt_cmpR op_ne (pe_callB call_len_seq (by rfl) T.m_len PySem.boot_len (pa_cons (pv 0) pa_nil)) (pe_op op_add (pe_callB call_len_seq (by rfl) T.m_len PySem.boot_len (pa_cons (pv 1) pa_nil)) pe_int) (nomark _))
      (pss_one (ps_raise rfl (takes_of rfl rfl rfl rfl) (SkE.pmk_own1 PySem.F.excBase_ValueError R.bp.q R.bp.g R.bp.k (raises_own R.bp.b R.bp.t) (by exact rfl)
        (pe_fs (.cons pe_str (.cons (pe_fmt (pe_ix ix_tup (pv 0) pe_int (fun _ _ => rfl))) (.cons pe_str (.cons (pe_fmt (pe_callB call_len_seq (by rfl) T.m_len PySem.boot_len (pa_cons (pv 1) pa_nil))) (.cons pe_str .nil))))))))) pss_nil)
    (pss_one (ps_ret (pv 1)))))), ?_⟩
  have neg : formOf d = none → Ex (.ref (cls .bp)) none H := fun e => q2 e H (Fr.refl tb)
  show tOr _ _ _ _ _
  have ty := Dp.ty hd
  have it := isTup hd
  cases hd with
  | tup ht hds =>
    rename_i a vs ds
    obtain ⟨len, okx⟩ := ok.sub
    have lv := DpAll.len hds
    refine or_pure false (decide (vs.length = 0)) (fun R h => ⟨_, rfl, _, _, _, _, _, rfl, .ty _, ty, kit_ty it, _, rfl, h⟩) (fun _ R h => ⟨_, rfl, a, vs, rfl, .inr ht, rfl, _, rfl, ?_⟩) (fun h => ?_) (fun _ h => ?_)
    · rw [eqV_int, decide_eq_decide.mpr (show ((vs.length : Nat) : Int) = 0 ↔ vs.length = 0 by omega)]
      exact h
    · have z : vs.length = 0 := of_decide_eq_true (h.elim (fun z => by cases z) id)
      have z2 : ds = [] := List.length_eq_zero_iff.mp (lv.symm.trans z)
      exact neg (by rw [z2]; rfl)
    have n0 : vs.length ≠ 0 := of_decide_eq_false h
    refine iteF ?_
    cases hds with
    | nil => exact absurd rfl n0
    | cons h0 hr0 =>
      rename_i x0 vr d0 dr
      dsimp only [tNext, gName]
      show tOr _ _ _ _ _
      have ty0 := Dp.ty h0
      have is0 := isStr h0
      have l2 := DpAll.len hr0
      cases h0 with
      | str z =>
        obtain ⟨r0, r1, r2⟩ : ∃ r : Option Value, PySem.W.nsIn K FA z = some r ∧ r.isSome = (formTab.lookup z).isSome := by
          cases e : formTab.lookup z with
          | none => exact ⟨_, F.none_ z e, rfl⟩
          | some fm =>
            obtain ⟨t, e1, _⟩ := F.some_ z fm e
            exact ⟨_, e1, rfl⟩
        refine or_pure false (formTab.lookup z).isNone (fun R h => ⟨_, rfl, a, _, _, _, rfl, rfl, ht, at_of (j := 0) rfl rfl, _, _, _, _, _, rfl, .ty _, ty0, kit_ty is0, _, rfl, h⟩) (fun _ R h => ⟨_, rfl, a, _, _, _, rfl, rfl, ht, at_of (j := 0) rfl rfl, z, r0, rfl, rfl, r1, _, rfl, ?_⟩) (fun h => ?_) (fun _ h => ?_)
        · rw [r2, Option.not_isSome]
          exact h
        · refine neg ?_
          have e := h.elim (fun z => by cases z) id
          show (match formTab.lookup z with | some fm => _ | none => none) = none
          rw [Option.isNone_iff_eq_none.mp e]
        · obtain ⟨fm, e⟩ : ∃ fm, formTab.lookup z = some fm := by
            cases e : formTab.lookup z with
            | none => rw [e] at h; cases h
            | some fm => exact ⟨fm, rfl⟩
          obtain ⟨t, kd, hq⟩ := F.at_ e
          obtain ⟨_, l6, z8⟩ := form_slots e
          dsimp only [gName]
          refine ⟨_, rfl, a, _, _, _, rfl, rfl, ht, at_of (j := 0) rfl rfl, FA, z, _, rfl, rfl, kd, ?_⟩
          dsimp only [gName]
          refine ⟨_, rfl, a, _, rfl, .inr ht, _, rfl, t, _, rfl, .inr (hq H), _, _, rfl, rfl, rfl, _, rfl, ?_⟩
          have ef : formOf (.tuple (.str z :: dr)) = if dr.length = fm.length then some (z, fm, dr) else none := by
            show (match formTab.lookup z with | some fm => _ | none => none) = _
            rw [e]
          refine ite2 (fun c => ?_) (fun c => ?_)
          · have ne : dr.length ≠ fm.length := fun q => by
              refine absurd c ?_
              rw [show (((V.str z :: vr).length : Nat) : Int) = (((fm.map V.str).length : Nat) : Int) + 1 by rw [List.length_cons, List.length_map, l2, q]; omega]
              simp
            have c1 : (Str.empty ++ "a part " : Str).length ≤ 100 := by decide +kernel
            have c2 : (" has not " : Str).length ≤ 100 := by decide +kernel
            have c3 : (" things behind its word" : Str).length ≤ 100 := by decide +kernel
            have lg : (((fm.map V.str).length : Nat) : Int).natAbs.log2 < 1920 := Nat.lt_trans (PySem.Flt.log2_lt_of (k := 40) (by decide) (Nat.lt_of_le_of_lt (show (((fm.map V.str).length : Nat) : Int).natAbs ≤ 6 by rw [List.length_map]; omega) (by decide))) (by decide)
            have lt := PyProof.Rows.int_text_len_1921 lg
            refine ⟨_, rfl, by decide +kernel, _, rfl, a, _, _, _, rfl, rfl, ht, at_of (j := 0) rfl rfl, .inl ⟨z, rfl, sizeOk (by omega), _, rfl, ?_, _, rfl, ?_, _, rfl, t, _, rfl, .inr (hq H), .inr ⟨_, rfl, lg, _, rfl, ?_, _, rfl, ?_, ?_⟩⟩⟩
            · rw [len_app]; exact sizeOk (by omega)
            · rw [len_app, len_app]; exact sizeOk (by omega)
            · rw [len_app, len_app, len_app]; exact sizeOk (by omega)
            · rw [len_app, len_app, len_app, len_app]; exact sizeOk (by omega)
            · exact neg (by rw [ef, if_neg ne])
          · have q : dr.length = fm.length := Classical.byContradiction fun q => c (by
              have : ¬ ((((V.str z :: vr).length : Nat) : Int) = (((fm.map V.str).length : Nat) : Int) + 1) := by rw [List.length_cons, List.length_map, l2]; omega
              simpa using this)
            exact ⟨_, rfl, q1 z fm dr (by rw [ef, if_pos q]) t hq⟩
      | non => exact or_pure true true (fun R h => ⟨_, rfl, a, _, _, _, rfl, rfl, ht, at_of (j := 0) rfl rfl, _, _, _, _, _, rfl, .ty _, ty0, kit_ty is0, _, rfl, h⟩) (fun h => by cases h) (fun _ => neg rfl) (fun h => by cases h)
      | bl b => exact or_pure true true (fun R h => ⟨_, rfl, a, _, _, _, rfl, rfl, ht, at_of (j := 0) rfl rfl, _, _, _, _, _, rfl, .ty _, ty0, kit_ty is0, _, rfl, h⟩) (fun h => by cases h) (fun _ => neg rfl) (fun h => by cases h)
      | int b => exact or_pure true true (fun R h => ⟨_, rfl, a, _, _, _, rfl, rfl, ht, at_of (j := 0) rfl rfl, _, _, _, _, _, rfl, .ty _, ty0, kit_ty is0, _, rfl, h⟩) (fun h => by cases h) (fun _ => neg rfl) (fun h => by cases h)
      | lst _ _ => exact or_pure true true (fun R h => ⟨_, rfl, a, _, _, _, rfl, rfl, ht, at_of (j := 0) rfl rfl, _, _, _, _, _, rfl, .ty _, ty0, kit_ty is0, _, rfl, h⟩) (fun h => by cases h) (fun _ => neg rfl) (fun h => by cases h)
      | tup _ _ => exact or_pure true true (fun R h => ⟨_, rfl, a, _, _, _, rfl, rfl, ht, at_of (j := 0) rfl rfl, _, _, _, _, _, rfl, .ty _, ty0, kit_ty is0, _, rfl, h⟩) (fun h => by cases h) (fun _ => neg rfl) (fun h => by cases h)
  | str _ => exact or_pure true true (fun R h => ⟨_, rfl, _, _, _, _, _, rfl, .ty _, ty, kit_ty it, _, rfl, h⟩) (fun h => by cases h) (fun _ => neg rfl) (fun h => by cases h)
  | non => exact or_pure true true (fun R h => ⟨_, rfl, _, _, _, _, _, rfl, .ty _, ty, kit_ty it, _, rfl, h⟩) (fun h => by cases h) (fun _ => neg rfl) (fun h => by cases h)
  | bl b => exact or_pure true true (fun R h => ⟨_, rfl, _, _, _, _, _, rfl, .ty _, ty, kit_ty it, _, rfl, h⟩) (fun h => by cases h) (fun _ => neg rfl) (fun h => by cases h)
  | int b => exact or_pure true true (fun R h => ⟨_, rfl, _, _, _, _, _, rfl, .ty _, ty, kit_ty it, _, rfl, h⟩) (fun h => by cases h) (fun _ => neg rfl) (fun h => by cases h)
  | lst _ _ => exact or_pure true true (fun R h => ⟨_, rfl, _, _, _, _, _, rfl, .ty _, ty, kit_ty it, _, rfl, h⟩) (fun h => by cases h) (fun _ => neg rfl) (fun h => by cases h)
end
end Sc
namespace Sc
open PySem PyProof.Rows L2
theorem Same.fr {T : List Addr} {H H' : Hp} (t : Tb T H) (e : Same H H') : Fr T H H' := Fr.same t e
section
variable {P : Program} {w : World} {K : PySem.W.Frag} {mg : Str → Option Value} {base : Heap} {T0 : List Addr} {C FA NA : Addr} {cls : Wr → Addr}
def spAll (K : PySem.W.Frag) (T : List Addr) (cls : Wr → Addr) : Sp := fun vs H Q Ex => ∃ (v fv : V) (e0 e1 : PyData) (ks ps : List PyData) (d0 d3 d4 : PyData) (ls qs : List PyData), vs = [v, fv] ∧ Dp K H v (.tuple [e0, e1, .tuple ks, .tuple ps]) ∧ Dp K H fv (.tuple [d0, .tuple ls, .tuple qs, d3, d4]) ∧ Tb T H ∧
  (ks.length = ls.length → ps.length = qs.length → Q .non H) ∧ (¬ (ks.length = ls.length ∧ ps.length = qs.length) → ∀ H', Fr T H H' → Ex (.ref (cls .bp)) none H')
theorem tup_get {K : PySem.W.Frag} {H : Hp} {v : V} {ds : List PyData} {j : Nat} {d : PyData} (h : Dp K H v (.tuple ds)) (e : ds[j]? = some d) : ∃ (a : Addr) (vs : List V) (x : V), v = .ref a ∧ SqT K H a vs ∧ vs[j]? = some x ∧ Dp K H x d := by
  cases h with
  | tup ht hds =>
    have l := DpAll.len hds
    have jl := (List.getElem?_eq_some_iff.mp e).1
    obtain ⟨d', h1, h2⟩ := DpAll.get hds (List.getElem?_eq_getElem (show j < _ by rw [l]; exact jl))
    rw [e] at h1
    cases h1
    exact ⟨_, _, _, rfl, ht, List.getElem?_eq_getElem _, h2⟩
theorem tup_len {K : PySem.W.Frag} {H : Hp} {v : V} {ds : List PyData} (h : Dp K H v (.tuple ds)) : ∃ (a : Addr) (vs : List V), v = .ref a ∧ SqT K H a vs ∧ vs.length = ds.length := by
  cases h with
  | tup ht hds => exact ⟨_, _, rfl, ht, DpAll.len hds⟩
theorem scAll : FnScope ["part", "function"] ["part", "function"] (defScope sPNeedAllHanded) := ⟨rfl, rfl, rfl, by decide +kernel, rfl, by decide +kernel, by decide +kernel⟩
theorem c_need_all (T : Tx K mg) (R : Ers K mg cls) : CalX P w K mg base 1 "_need_all_handed" ["part", "function"] (spAll K T0 cls) := by
  refine T.p_need_all_handed.okX scAll (fun vs H Q E h => ?_) (fun f cdv A outer s H vs Q Ex hr h => ?_)
  · obtain ⟨v, fv, _, _, _, _, _, _, _, _, _, rfl, _⟩ := h
    rfl
  obtain ⟨v, fv, e0, e1, ks, ps, d0, d3, d4, ls, qs, rfl, hv, hf, tb, q1, q2⟩ := h
  refine ⟨_, pss_one (ps_if (PW.pt (pw_or (pt_cmpR op_ne (pe_callB call_len_seq (by rfl) T.m_len PySem.boot_len (pa_cons (pe_ix ix_tup (pv 0) pe_int (fun _ _ => rfl)) pa_nil)) (pe_callB call_len_seq (by rfl) T.m_len PySem.boot_len (pa_cons (pe_ix ix_tup (pv 1) pe_int (fun _ _ => rfl)) pa_nil)) (nomark _))
        (pw_or1 (pt_cmpR op_ne (pe_callB call_len_seq (by rfl) T.m_len PySem.boot_len (pa_cons (pe_ix ix_tup (pv 0) pe_int (fun _ _ => rfl)) pa_nil)) (pe_callB call_len_seq (by rfl) T.m_len PySem.boot_len (pa_cons (pe_ix ix_tup (pv 1) pe_int (fun _ _ => rfl)) pa_nil)) (nomark _)))))
      (pss_one (ps_raise rfl (takes_of rfl rfl rfl rfl) (pmk_own PySem.F.excBase_ValueError R.bp.q R.bp.g R.bp.k (raises_own R.bp.b R.bp.t) (by exact rfl)))) pss_nil), ?_⟩
  obtain ⟨a, vs, x2, rfl, ha, hx2, hd2⟩ := tup_get (j := 2) hv rfl
  obtain ⟨a', vs', x3, ea, ha', hx3, hd3⟩ := tup_get (j := 3) hv rfl
  obtain ⟨b, ws, y1, rfl, hb, hy1, he1⟩ := tup_get (j := 1) hf rfl
  obtain ⟨b', ws', y2, eb, hb', hy2, he2⟩ := tup_get (j := 2) hf rfl
  obtain rfl := V.ref.inj ea
  obtain rfl := V.ref.inj eb
  obtain ⟨c2, u2, rfl, hc2, l2⟩ := tup_len hd2
  obtain ⟨c3, u3, rfl, hc3, l3⟩ := tup_len hd3
  obtain ⟨g1, w1, rfl, hg1, m1⟩ := tup_len he1
  obtain ⟨g2, w2, rfl, hg2, m2⟩ := tup_len he2
  show tOr _ _ _ _ _
  refine or_pure (decide (¬ ks.length = ls.length)) (decide (¬ ps.length = qs.length)) (fun R1 h => ⟨_, rfl, a, vs, 2, _, rfl, rfl, ha, at_of (j := 2) rfl hx2, c2, _, rfl, .inr hc2, _, rfl, b, ws, 1, _, rfl, rfl, hb, at_of (j := 1) rfl hy1, g1, _, rfl, .inr hg1, rfl, _, rfl, ?_⟩)
    (fun _ R1 h => ⟨_, rfl, a, vs', 3, _, rfl, rfl, ha', at_of (j := 3) rfl hx3, c3, _, rfl, .inr hc3, _, rfl, b, ws', 2, _, rfl, rfl, hb', at_of (j := 2) rfl hy2, g2, _, rfl, .inr hg2, rfl, _, rfl, ?_⟩) (fun h => ?_) (fun h1 h2 => ?_)
  · rw [eqV_int, l2, m1, ← decide_not] at *
    rw [decide_eq_decide.mpr (show ¬ ((ks.length : Nat) : Int) = ((ls.length : Nat) : Int) ↔ ¬ ks.length = ls.length by omega)]
    exact h
  · rw [eqV_int, l3, m2, ← decide_not] at *
    rw [decide_eq_decide.mpr (show ¬ ((ps.length : Nat) : Int) = ((qs.length : Nat) : Int) ↔ ¬ ps.length = qs.length by omega)]
    exact h
  · refine q2 (fun z => ?_) H (Fr.refl tb)
    rcases h with h | h
    · exact of_decide_eq_true h z.1
    · exact of_decide_eq_true h z.2
  · exact q1 (Classical.byContradiction fun z => by rw [decide_eq_true z] at h1; cases h1) (Classical.byContradiction fun z => by rw [decide_eq_true z] at h2; cases h2)
end
end Sc
namespace Sc
open PySem PyProof.Rows L2
theorem cut1 (x : V) (xs : List V) : cutV (x :: xs) (some 1) none = xs := by
  unfold cutV
  rw [show (some (1 : Int)) = some ((1 : Nat) : Int) from rfl, HT.sIx_nat, HT.sIx_none, List.length_cons, Nat.min_eq_left (by omega)]
  rw [List.drop_one, List.tail_cons, List.take_of_length_le (by omega)]
def givV {α : Type} (l : List (Str × α)) : List α := (l.filter fun p => p.1 == ("given" : Str)).map (·.2)
theorem givV_snoc {α : Type} (l : List (Str × α)) (s : Str) (y : α) : givV (l ++ [(s, y)]) = givV l ++ (if s = ("given" : Str) then [y] else []) := by
  unfold givV
  rw [List.filter_append, List.map_append]
  congr 1
  by_cases e : s = ("given" : Str)
  · rw [if_pos e, List.filter_cons_of_pos (by rw [e]; exact beq_self_eq_true _)]
    rfl
  · rw [if_neg e, List.filter_cons_of_neg (by simpa using e)]
    rfl
theorem giv_strs : ∀ {fm : List Str} {vs : List V} {ts : List PyData}, vs.length = fm.length → ts.length = fm.length → (∀ (i : Nat) (s : Str) (t : PyData) (y : V), fm[i]? = some s → ts[i]? = some t → vs[i]? = some y → s = ("given" : Str) → ∃ z, t = .str z ∧ y = .str z) →
    givV (fm.zip vs) = (strsD (givens fm ts)).map V.str ∧ (strsD (givens fm ts)).length ≤ fm.length
  | [], vs, ts, _, _, _ => by cases vs <;> cases ts <;> exact ⟨rfl, Nat.le_refl _⟩
  | s :: fm, [], _, h, _, _ => by cases h
  | s :: fm, _ :: _, [], _, h, _ => by cases h
  | s :: fm, y :: vs, t :: ts, h1, h2, h => by
    obtain ⟨ih, il⟩ := giv_strs (fm := fm) (vs := vs) (ts := ts) (Nat.succ.inj h1) (Nat.succ.inj h2) fun i s t y a b c => h (i + 1) s t y a b c
    by_cases e : s = ("given" : Str)
    · obtain ⟨z, rfl, rfl⟩ := h 0 s t y rfl rfl rfl e
      subst e
      have e1 : givV ((("given" : Str) :: fm).zip (V.str z :: vs)) = V.str z :: givV (fm.zip vs) := by
        unfold givV
        rw [List.zip_cons_cons, List.filter_cons_of_pos (by show (("given" : Str) == ("given" : Str)) = true; exact beq_self_eq_true _)]
        rfl
      have e2 : givens (("given" : Str) :: fm) (PyData.str z :: ts) = PyData.str z :: givens fm ts := by
        unfold givens
        rw [List.zip_cons_cons, List.filter_cons_of_pos (by show (("given" : Str) == ("given" : Str)) = true; exact beq_self_eq_true _)]
        rfl
      rw [e1, e2, ih]
      exact ⟨rfl, Nat.succ_le_succ il⟩
    · have e1 : givV ((s :: fm).zip (y :: vs)) = givV (fm.zip vs) := by
        unfold givV
        rw [List.zip_cons_cons, List.filter_cons_of_neg (by simpa using e)]
      have e2 : givens (s :: fm) (t :: ts) = givens fm ts := by
        unfold givens
        rw [List.zip_cons_cons, List.filter_cons_of_neg (by simpa using e)]
      rw [e1, e2]
      exact ⟨ih, Nat.le_succ_of_le il⟩
theorem last_last {z : Str} {fm : List Str} (h : formTab.lookup z = some fm) {i j : Nat} (h1 : fm[j]? = some ("last" : Str)) (h2 : fm[i]? = some ("given" : Str)) : i < j := by
  have all : ∀ p ∈ formTab, ∀ j < 6, ∀ i < 6, p.2[j]? = some ("last" : Str) → p.2[i]? = some ("given" : Str) → i < j := by decide +kernel
  have l := (form_slots h).2.1
  exact all _ (formlook_mem h) j (by have := (List.getElem?_eq_some_iff.mp h1).1; omega) i (by have := (List.getElem?_eq_some_iff.mp h2).1; omega) h1 h2
theorem form_inv {d : PyData} {w : Str} {fm : List Str} {ts : List PyData} (h : formOf d = some (w, fm, ts)) : d = .tuple (.str w :: ts) ∧ formTab.lookup w = some fm ∧ ts.length = fm.length := by
  cases d with
  | tuple ds =>
    cases ds with
    | nil => cases h
    | cons d0 dr =>
      cases d0 with
      | str z =>
        have h' : (match formTab.lookup z with | some fm => if dr.length = fm.length then some (z, fm, dr) else none | none => none) = some (w, fm, ts) := h
        cases e : formTab.lookup z with
        | none => rw [e] at h'; cases h'
        | some fm' =>
          rw [e] at h'
          by_cases q : dr.length = fm'.length
          · have h2 : (if dr.length = fm'.length then some (z, fm', dr) else none) = some (w, fm, ts) := h'
            rw [if_pos q] at h2
            have h3 := Option.some.inj h2
            injection h3 with a b
            injection b with b c
            subst a b c
            exact ⟨rfl, e, q⟩
          · have h2 : (if dr.length = fm'.length then some (z, fm', dr) else none) = some (w, fm, ts) := h'
            rw [if_neg q] at h2
            cases h2
      | _ => cases h
  | _ => cases h
theorem fn_get {K : PySem.W.Frag} {kvs : List (Key × V)} {fs : List (Str × Nat × Nat)} {z : Str} (h : kvs.map (·.1) = fs.map (fun q => (Sum.inr q.1 : Key))) (hz : z ∈ fs.map (·.1)) : ∃ (j : Nat) (v : V) (nl np : Nat), valV kvs (Sum.inr z) = some v ∧ kvs[j]? = some (Sum.inr z, v) ∧ fs[j]? = some (z, nl, np) ∧ fs.lookup z = some (nl, np) := by
  unfold valV
  induction kvs generalizing fs with
  | nil =>
    cases fs with
    | nil => cases hz
    | cons _ _ => cases h
  | cons a kvs ih =>
    cases fs with
    | nil => cases h
    | cons b fs =>
      obtain ⟨k, v⟩ := a
      obtain ⟨y, nl, np⟩ := b
      rw [List.map_cons, List.map_cons] at h
      injection h with h1 h2
      have h1 : k = Sum.inr y := h1
      subst h1
      rw [List.find?_cons, List.lookup_cons]
      by_cases e : y = z
      · subst e
        rw [show decide ((Sum.inr y : Key) = Sum.inr y) = true from decide_eq_true rfl, beq_self_eq_true]
        exact ⟨0, v, nl, np, rfl, rfl, rfl, rfl⟩
      · have hz' : z ∈ fs.map (·.1) := (List.mem_cons.mp hz).elim (fun q => absurd q.symm e) id
        obtain ⟨j, v', nl', np', a1, a2, a3, a4⟩ := ih h2 hz'
        rw [show decide ((Sum.inr y : Key) = Sum.inr z) = false from decide_eq_false fun q => e (Sum.inr.inj q), show (z == y) = false from beq_eq_false_iff_ne.mpr fun q => e q.symm]
        exact ⟨j + 1, v', nl', np', a1, a2, a3, a4⟩
end Sc
namespace Sc
open PySem PyProof.Rows L2
theorem slot_function {rec : Env0 → PyData → Option Wr} {E : Env0} {d : PyData} : gSlot rec E ("function" : Str) d = gFun E d := by
  unfold gSlot
  repeat rw [if_neg (by decide +kernel)]
  rw [if_pos rfl]
theorem slot_kinds {rec : Env0 → PyData → Option Wr} {E : Env0} {d : PyData} : gSlot rec E ("kinds" : Str) d = gKinds E.ls d := by
  unfold gSlot
  repeat rw [if_neg (by decide +kernel)]
  rw [if_pos rfl]
theorem slot_handed {rec : Env0 → PyData → Option Wr} {E : Env0} {d : PyData} : gSlot rec E ("handed" : Str) d = gHanded (rec E) d := by
  unfold gSlot
  repeat rw [if_neg (by decide +kernel)]
theorem gFun_none {E : Env0} {d : PyData} (h : gFun E d = none) : ∃ z, d = .str z ∧ z ∈ E.fs.map (·.1) := by
  cases d with
  | str z =>
    refine ⟨z, rfl, ?_⟩
    have h' : (if isWordD (.str z) = true then whenB (decide (z ∈ E.fs.map (·.1))) .nn else some .bp) = none := h
    split at h'
    · cases c : decide (z ∈ E.fs.map (·.1)) with
      | true => exact of_decide_eq_true c
      | false => rw [c] at h'; cases h'
    · cases h'
  | _ => cases h
theorem gKinds_tuple {ls : List Str} {d : PyData} (h : gKinds ls d = none) : ∃ ds, d = .tuple ds := by
  cases d with
  | tuple ds => exact ⟨ds, rfl⟩
  | _ => cases h
section
variable {P : Program} {w : World} {K : PySem.W.Frag} {mg : Str → Option Value} {base : Heap} {T0 : List Addr} {C FA NA : Addr} {cls : Wr → Addr}
theorem scPart : FnScope ["part", "place", "slots", "slot", "told", "given", "last", "need"] ["part", "place"] (defScope sPNeedPart) := ⟨rfl, rfl, rfl, by decide +kernel, rfl, by decide +kernel, by decide +kernel⟩
theorem c_need_part {n lv : Nat} (tOk : PyData → Prop) (T : Tx K mg) (R : Ers K mg cls) (L : PlC P w K mg base C) (NG : mg "NEEDS" = some (.ref NA)) (m12 : ∃ t, mg "DEEPEST_BODY" = some (.int 12 t)) (lv2 : 2 ≤ lv)
    (CF : CalX P w K mg base 1 "_form_of" ["part"] (spForm K T0 cls)) (CA : CalX P w K mg base 1 "_need_all_handed" ["part", "function"] (spAll K T0 cls))
    (NN : ∀ m, n = m + 1 → ∀ s ∈ slotNames, ∃ f, KDct K w NA s (.ref f) ∧ HeldX P w K mg base lv f (spAtG K T0 C cls (n : Int) (fun E d => slotIn (txs tOk m) tOk s d ∧ E.ns.length + 10 * m ≤ 2008) (fun E => gSlot (gPart m) E s))) :
    CalX P w K mg base (lv + 1) "_need_part" ["part", "place"] (spAtG K T0 C cls (n : Int) (fun E d => txs tOk n d ∧ E.ns.length + 10 * n ≤ 2012) (gPart n)) := by
  obtain ⟨t12, m12⟩ := m12
  obtain ⟨fI, fdI, GI, MI, BI⟩ := L.ini
  refine T.p_need_part.okX scPart (fun vs H Q E h => ?_) (fun f cdv A outer s H vs Q Ex hr h => ?_)
  · obtain ⟨v, d, p, E, rfl, _⟩ := h
    rfl
  obtain ⟨v, d, p, E, rfl, hd, ok, tb, hp, ⟨hG, few⟩, q1, q2⟩ := h
  have r1 : Room 1 _ := hr.mono (by omega)
  have r2 : Room 2 _ := hr.mono lv2
  have hu1 : (A.deeper (envOfC "_need_part" (defScope sPNeedPart) s.heap.objs.size f cdv)).units + 1 < cLine := by have := hr.un; omega
  refine ⟨_, pss_cons (ps_if (pt_cmpR op_lt (pe_fld (pv 1) rfl) pe_int (nomark _))
      (pss_one (ps_raise rfl (takes_of rfl rfl rfl rfl) (SkE.pmk_own1 PySem.F.excBase_ValueError R.bp.q R.bp.g R.bp.k (raises_own R.bp.b R.bp.t) (by exact rfl) (pe_fs (.cons pe_str (.cons (pe_fmt (pe_glob (v := .int 12) (by rfl) m12 ⟨_, rfl⟩)) (.cons pe_str .nil))))))) pss_nil)
    (pss_cons (ps_set (i := 2) scPart.nd rfl (Or.inl rfl) (ScZ.pe_listZip rfl (by rfl) T.m_list (by rfl) T.m_zip (pa_cons (pe_calX CF r1 (passes_call (takes_of rfl rfl rfl rfl) (fun _ _ _ _ h => h)) (pa_cons (pv 0) pa_nil)) (pa_cons (pe_slice sl_tup (pv 0) (po_some pe_int) po_none) pa_nil))))
    (pss_cons (ps_set (i := 5) scPart.nd rfl (Or.inl rfl) (pe_callTy call_tuple_of (by rfl) T.m_tuple (by decide +kernel) (pa_cons
        (pe_lc (own := [("slot", 3), ("told", 4)]) (g := gTup K 2 (gCons (gName 3) (gCons (gName 4) gNil))) rfl scPart.nd (pi_list (pv 2)) (blkOk_by (N := ["part", "place", "slots", "slot", "told", "given", "last", "need"]) (sc := defScope sPNeedPart) (by decide +kernel))
          (fun _ _ _ _ _ => pg_tup (by rfl) (pgs_cons (pg_name (i := 3) scPart.nd rfl (Or.inl rfl)) (pgs_cons (pg_name (i := 4) scPart.nd rfl (Or.inl rfl)) pgs_nil))) (fun _ _ _ _ _ => pts_one (pt_cmpR op_eq (pv 3) pe_str (nomark _))) (fun _ _ _ _ _ => pv 4)) pa_nil)))
    (pss_cons (ps_set (i := 6) scPart.nd rfl (Or.inl rfl) (pe_make MI GI r2 (by rfl) L.g BI .nil pass0 (pa_cons (pe_fld (pv 1) rfl) (pa_cons (pe_fld (pv 1) rfl) (pa_cons (pe_op op_catA (pe_fld (pv 1) rfl) (pv 5)) (pa_cons (pe_fld (pv 1) rfl) pa_nil))))))
    (pss_cons (ps_for (passes_of rfl) rfl (pi_list (pv 2)) (pg_tup (by rfl) (pgs_cons (pg_name (i := 3) scPart.nd rfl (Or.inl rfl)) (pgs_cons (pg_name (i := 4) scPart.nd rfl (Or.inl rfl)) pgs_nil)))
      (pss_cons (ps_set (i := 7) scPart.nd rfl (Or.inl rfl) (pe_ix ix_kdict (pe_glob (v := .ref NA) (by rfl) NG rfl) (pv 3) (fun _ _ => rfl)))
      (pss_one (ps_expr (pe_callAX (i := 7) (S := fun f sp => HeldX P w K mg base lv f sp) (fun f sp h => h) hr rfl (Or.inl rfl) (passes_call (takes_of rfl rfl rfl rfl) (fun _ _ _ _ h => h)) (pa_cons (pv 4) (pa_cons (pe_ifExp (pt_cmpR op_eq (pv 3) pe_str (nomark _)) (pv 6) (pv 1)) pa_nil)))))))
    (pss_cons (ps_if (pt_cmpR op_lt (pe_callB cr_txLen (by rfl) T.m_len PySem.boot_len (pa_cons (pe_callTy (cr_txSetT rfl) (by rfl) T.m_set (by decide +kernel) (pa_cons (pv 5) pa_nil)) pa_nil)) (pe_callB call_len_seq (by rfl) T.m_len PySem.boot_len (pa_cons (pv 5) pa_nil)) (nomark _))
      (pss_one (ps_raise rfl (takes_of rfl rfl rfl rfl) (pmk_own PySem.F.excBase_ValueError R.tt.q R.tt.g R.tt.k (raises_own R.tt.b R.tt.t) (by exact rfl)))) pss_nil)
    (pss_one (ps_if (pt_cmpR op_eq (pe_ix ix_tup (pv 0) pe_int (fun _ _ => rfl)) pe_str (nomark _))
      (pss_one (ps_expr (pe_calX CA r1 (passes_call (takes_of rfl rfl rfl rfl) (fun _ _ _ _ h => h)) (pa_cons (pv 0) (pa_cons (pe_dget hu1 (pe_fld (pv 1) rfl) (pe_ix ix_tup (pv 0) pe_int (fun _ _ => rfl)) (fun _ _ => rfl)) pa_nil))))) pss_nil))))))), ?_⟩
  obtain ⟨dx, la, fa, na, h1, h2, h3, h4⟩ := id hp.at_
  refine ⟨_, rfl, p, C, dx, _, _, rfl, h1, L.cl, L.n4, pl_room la fa na, _, _, rfl, rfl, _, rfl, ite2 (fun e => ?_) (fun e => ?_)⟩
  · have n0 : n = 0 := by have := of_decide_eq_true e; omega
    refine ⟨_, rfl, by decide +kernel, .inr ⟨12, rfl, by decide, _, rfl, by decide +kernel, _, rfl, by decide +kernel, ?_⟩⟩
    subst n0
    exact q2 .bp rfl H (Fr.refl tb)
  have n1 : 0 < n := by
    have := of_decide_eq_false (Bool.eq_false_iff.mpr e)
    omega
  obtain ⟨m, rfl⟩ : ∃ m, n = m + 1 := ⟨n - 1, by omega⟩
  have NN := NN m rfl
  refine ⟨_, rfl, v, d, rfl, hd, ok, tb, fun wd fm ts ef tf hq => ?_, fun e H' f' => q2 .bp (by show (match formOf d with | none => _ | some (w, fm, ts) => _) = _; rw [e]) H' f'⟩
  obtain ⟨rfl, et, el⟩ := form_inv ef
  obtain ⟨slots, l6, _⟩ := form_slots et
  have dp0 := hd
  cases hd with
  | tup ht hds =>
    rename_i a vs
    obtain ⟨len, okx⟩ := ok.sub
    cases hds with
    | cons h0 hr0 =>
      rename_i x0 vr
      obtain rfl : x0 = .str wd := by cases h0; rfl
      have lr := DpAll.len hr0
      have lvf : vr.length = fm.length := lr.trans el
      refine ⟨_, rfl, _, rfl, a, _, rfl, ht, ?_, fun s1 hs1 => ?_⟩
      · rw [show (some (1 : Int)) = some ((1 : Nat) : Int) from rfl, HT.sIx_nat, List.length_cons, Nat.min_eq_left (by omega)]
        exact fun z => absurd z.1 (by decide)
      rw [cut1]
      have e1 := same_new hs1 (.tup vr)
      refine ⟨tf, s1, fm.map V.str, vr, rfl, hq _, SqT.of upd_same, by rw [List.length_map, lvf], fun H2 l ts' ex nl nts nin hl lts pr => ?_⟩
      have e2 : Same H H2 := Same.trans e1 ex
      rw [List.length_map] at lts
      have pr' : ∀ (j : Nat) (x : V), (ts'.map V.ref)[j]? = some x → ∃ (t : Addr) (s : Str) (y : V) (td : PyData), x = .ref t ∧ H2 t = some (.tup [.str s, y]) ∧ fm[j]? = some s ∧ vr[j]? = some y ∧ ts[j]? = some td ∧ Dp K H y td ∧ s ∈ slotNames := fun j x hx => by
        rw [List.getElem?_map] at hx
        obtain ⟨t, ht', rfl⟩ := Option.map_eq_some_iff.mp hx
        obtain ⟨x', y, a1, a2, a3⟩ := pr j t ht'
        rw [List.getElem?_map] at a1
        obtain ⟨s, b1, rfl⟩ := Option.map_eq_some_iff.mp a1
        obtain ⟨td, c1, c2⟩ := DpAll.get hr0 a2
        exact ⟨t, s, y, td, rfl, a3, b1, a2, c1, c2, slots s (List.mem_of_getElem? b1)⟩
      have lz : (fm.zip vr).length = fm.length := by rw [List.length_zip, lvf, Nat.min_self]
      dsimp only [gName]
      refine ⟨_, rfl, l, rfl, ⟨_, SqL.of hl⟩, fun D hD => ?_⟩
      refine lc_list (K := K) (a := l) (xs := ts'.map V.ref) (fun j H3 => Same H2 H3 ∧ H3 D = some (.lst (givV ((fm.zip vr).take j)))) ⟨same_new hD _, upd_same⟩ (fun j H3 _ h => SqL.of (h.1 _ _ hl)) ?_ ?_
      · rintro j x H3 hx ⟨e3, h3'⟩
        obtain ⟨t, s, y, td, rfl, a1, a2, a3, _⟩ := pr' j x hx
        have hz : (fm.zip vr)[j]? = some (s, y) := List.getElem?_zip_eq_some.mpr ⟨a2, a3⟩
        have jl := (List.getElem?_eq_some_iff.mp a2).1
        have st : givV ((fm.zip vr).take (j + 1)) = givV ((fm.zip vr).take j) ++ (if s = ("given" : Str) then [y] else []) := by rw [List.take_add_one, hz]; exact givV_snoc _ s y
        refine ⟨t, _, rfl, SqT.of (e3 _ _ a1), rfl, _, _, rfl, _, _, rfl, rfl, rfl, _, rfl, rfl, _, rfl, ite2 (fun e => ?_) (fun e => ?_)⟩
        · have es : s = ("given" : Str) := V.str.inj (of_decide_eq_true e)
          rw [if_pos es] at st
          refine ⟨_, rfl, _, h3', small1000 ?_, fun b o hb => ?_, by rw [upd_same, st]⟩
          · unfold givV
            rw [List.length_map]
            have := List.length_filter_le (fun p : Str × V => p.1 == ("given" : Str)) ((fm.zip vr).take j)
            have := List.length_take_le' j (fm.zip vr)
            omega
          · rw [upd_ne (ne_of_none hb hD)]
            exact e3 b o hb
        · have es : ¬ s = ("given" : Str) := fun z => e (decide_eq_true (congrArg V.str z))
          rw [if_neg es, List.append_nil] at st
          exact ⟨e3, by rw [st]; exact h3'⟩
      rintro H3 ⟨e3, h3'⟩
      rw [List.take_of_length_le (by rw [List.length_map]; omega)] at h3'
      generalize hgv : givV (fm.zip vr) = gv at h3'
      have gl : gv.length ≤ 6 := by
        rw [← hgv]
        unfold givV
        rw [List.length_map]
        have := List.length_filter_le (fun p : Str × V => p.1 == ("given" : Str)) (fm.zip vr)
        omega
      refine ⟨D, gv, rfl, .inl ⟨SqL.of h3', fun g hg => ?_⟩⟩
      have e4 : Same H (upd H3 g (.tup gv)) := Same.trans e2 (Same.trans e3 (same_new hg _))
      have hg4 : SqT K (upd H3 g (.tup gv)) g gv := SqT.of upd_same
      have hl4 : SqL K (upd H3 g (.tup gv)) l (ts'.map V.ref) := SqL.of (same_new hg _ _ _ (e3 _ _ hl))
      have e24 : Same H2 (upd H3 g (.tup gv)) := Same.trans e3 (same_new hg _)
      generalize (upd H3 g (.tup gv)) = H4 at e4 hg4 hl4 e24 ⊢
      have f4 : Fr T0 H H4 := Fr.same tb e4
      obtain ⟨h1a, h2a, h3a, h4a⟩ : H4 p = some (.ins C dx (placeF la fa na ((m + 1 : Nat) : Int))) ∧ SqT K H4 la (E.ls.map V.str) ∧ FnsAt K H4 fa E.fs ∧ SqT K H4 na (E.ns.map V.str) := ⟨e4 _ _ h1, (Fr.keep tb f4).2 _ _ h2, h3.keep tb f4, (Fr.keep tb f4).2 _ _ h4⟩
      have key : ∀ Q' : V → Hp → Prop, (∀ c H5, Same H4 H5 → SqT K H5 c (E.ns.map V.str ++ gv) → Q' (.ref c) H5) → rCatA K (.ref na) (.ref g) H4 Q' := fun Q' k => by
        refine ⟨na, g, _, _, rfl, rfl, h4a, hg4, ?_, fun z => ?_, fun _ z => ?_, fun _ _ q hq' => ?_⟩
        · rw [List.length_map]; exact sizeOk (by omega)
        · exact k g H4 (fun _ _ e => e) (by rw [z]; exact hg4)
        · exact k na H4 (fun _ _ e => e) (by rw [z, List.append_nil]; exact h4a)
        · exact k q _ (same_new hq' _) (SqT.of upd_same)
      dsimp only [gName]
      refine ⟨_, rfl, p, C, dx, _, _, rfl, h1a, L.cl, L.n1, pl_letters la fa na, _, rfl, p, C, dx, _, _, rfl, h1a, L.cl, L.n2, pl_functions la fa na, _, rfl, p, C, dx, _, _, rfl, h1a, L.cl, L.n3, pl_names la fa na, _, rfl, key _ fun c H5 e5 hc => ?_⟩
      refine ⟨_, rfl, p, C, dx, _, _, rfl, e5 _ _ h1a, L.cl, L.n4, pl_room la fa na, fun x dx' nx ndx nex => ?_⟩
      have s0 : Same H5 (upd (upd H5 dx' (.own x)) x (.ins C dx' [])) := fun b o e => by
        rw [upd_ne (ne_of_none e nx), upd_ne (ne_of_none e ndx)]
        exact e
      refine ⟨x, dx', la, fa, c, _, rfl, upd_same, fun H6 hx kp => ⟨rfl, ?_⟩⟩
      have e56 : Same H5 H6 := fun b o e => kp b o (s0 b o e) (ne_of_none e nx)
      have e46 := Same.trans e5 e56
      have e6 : Same H H6 := Same.trans e4 e46
      have f6 : Fr T0 H H6 := Fr.same tb e6
      have hc6 : SqT K H6 c (E.ns.map V.str ++ gv) := (Same.keep e56) _ _ hc
      have hg6 : SqT K H6 g gv := (Same.keep e46) _ _ hg4
      have hl6 : H6 l = some (.lst (ts'.map V.ref)) := e46 _ _ (e24 _ _ hl)
      have pr6 : ∀ (j : Nat) (x : V), (ts'.map V.ref)[j]? = some x → ∃ (t : Addr) (s : Str) (y : V) (td : PyData), x = .ref t ∧ H6 t = some (.tup [.str s, y]) ∧ fm[j]? = some s ∧ vr[j]? = some y ∧ ts[j]? = some td ∧ Dp K H y td ∧ s ∈ slotNames := fun j x hx => by
        obtain ⟨t, s, y, td, a0, a1, a2⟩ := pr' j x hx
        exact ⟨t, s, y, td, a0, e46 _ _ (e24 _ _ a1), a2⟩
      obtain ⟨Le, hLe⟩ : ∃ Le : Env0, Le = { E with ns := E.ns ++ strsD (givens fm ts) } := ⟨_, rfl⟩
      have gdef : gPart (m + 1) E (.tuple (.str wd :: ts)) = (match firstBad ((fm.zip ts).map fun p => gSlot (gPart m) (if p.1 = ("last" : Str) then Le else E) p.1 p.2) with
          | some b => some b
          | none => if (strsD (givens fm ts)).Nodup then (if wd = ("call" : Str) then whenB (callOk E ts) .bp else none) else some .tt) := by
        subst hLe
        show (match formOf (.tuple (.str wd :: ts)) with | none => some Wr.bp | some (w, fm, ts) => _) = _
        rw [ef] <;> rfl
      have words : (∀ i s t, fm[i]? = some s → ts[i]? = some t → s = ("given" : Str) → gWord t = none) → gv = (strsD (givens fm ts)).map V.str ∧ (strsD (givens fm ts)).length ≤ fm.length := fun hw => by
        rw [← hgv]
        refine giv_strs lvf el fun i s t y a1 a2 a3 a4 => ?_
        obtain ⟨z, rfl, _⟩ := gWord_none (hw i s t a1 a2 a4)
        obtain ⟨td, b1, b2⟩ := DpAll.get hr0 a3
        rw [a2] at b1
        cases b1
        cases b2
        exact ⟨z, rfl, rfl⟩
      have zz : ∀ (j : Nat) (s : Str) (td : PyData), fm[j]? = some s → ts[j]? = some td → ((fm.zip ts).map fun p => gSlot (gPart m) (if p.1 = ("last" : Str) then Le else E) p.1 p.2)[j]? = some (gSlot (gPart m) (if s = ("last" : Str) then Le else E) s td) := fun j s td a b => by
        have hz : (fm.zip ts)[j]? = some (s, td) := List.getElem?_zip_eq_some.mpr ⟨a, b⟩
        rw [List.getElem?_map, hz]
        rfl
      have lzt : ((fm.zip ts).map fun p => gSlot (gPart m) (if p.1 = ("last" : Str) then Le else E) p.1 p.2).length = fm.length := by rw [List.length_map, List.length_zip, el, Nat.min_self]
      dsimp only [gName]
      refine ⟨_, rfl, l, rfl, ⟨_, SqL.of hl6⟩, ?_⟩
      refine for_list (K := K) (a := l) (xs := ts'.map V.ref) (fun j σ2 H7 => Fr T0 H6 H7 ∧ (∃ o3 o4 o7, σ2 = [some (.ref a), some (.ref p), some (.ref l), o3, o4, some (.ref g), some (.ref x), o7]) ∧
          ∀ i s td, i < j → fm[i]? = some s → ts[i]? = some td → gSlot (gPart m) (if s = ("last" : Str) then Le else E) s td = none) ⟨Fr.refl f6.tab, ⟨_, _, _, rfl⟩, fun i s td h => absurd h (Nat.not_lt_zero _)⟩ (fun j σ2 H7 _ h => (Fr.keep f6.tab h.1).1 _ _ (SqL.of hl6)) ?_ ?_
      · rintro j xx σ2 H7 hxx ⟨f7, ⟨o3, o4, o7, rfl⟩, al⟩
        obtain ⟨t, s, y, td, rfl, a1, a2, a3, a4, a5, a6⟩ := pr6 j xx hxx
        have f07 := f6.trans f7
        have jl := (List.getElem?_eq_some_iff.mp a2).1
        have mt := List.mem_of_getElem? a4
        have ht7 : SqT K H7 t [.str s, y] := (Fr.keep f6.tab f7).2 _ _ (SqT.of a1)
        have hy7 : Dp K H7 y td := (Fr.keep tb f07).dp a5
        have okt := okx td (List.mem_cons_of_mem _ mt)
        obtain ⟨f, kd, hX⟩ := NN s a6
        have grd : slotIn (txs tOk m) tOk s td := hG wd fm ts ef j s td a2 a4
        have nxt : gSlot (gPart m) (if s = ("last" : Str) then Le else E) s td = none → ∀ i s' td', i < j + 1 → fm[i]? = some s' → ts[i]? = some td' → gSlot (gPart m) (if s' = ("last" : Str) then Le else E) s' td' = none := fun e i s' td' hi b1 b2 => by
          rcases Nat.lt_succ_iff_lt_or_eq.mp hi with z | z
          · exact al i s' td' z b1 b2
          · subst z
            rw [a2] at b1
            rw [a4] at b2
            cases b1
            cases b2
            exact e
        have bad : ∀ b, gSlot (gPart m) (if s = ("last" : Str) then Le else E) s td = some b → ∀ H', Fr T0 H H' → Ex (.ref (cls b)) none H' := fun b e => q2 b (by
          rw [gdef, fb_at (j := j) (b := b) (fun i x' hi hx' => ?_) (by rw [zz j s td a2 a4, e])]
          have il : i < fm.length := by omega
          have c1 : fm[i]? = some fm[i] := List.getElem?_eq_getElem il
          have c2 : ts[i]? = some (ts[i]'(by omega)) := List.getElem?_eq_getElem _
          rw [zz i _ _ c1 c2] at hx'
          rw [← Option.some.inj hx']
          exact al i _ _ hi c1 c2)
        refine ⟨t, _, rfl, ht7, rfl, _, _, rfl, _, _, rfl, rfl, ?_⟩
        dsimp only [gName]
        refine ⟨_, rfl, NA, s, _, rfl, rfl, kd, ?_⟩
        dsimp only [gName]
        refine ⟨f, _, rfl, hX, _, rfl, _, rfl, rfl, _, rfl, ite2 (fun e => ?_) (fun e => ?_)⟩
        · have es : s = ("last" : Str) := V.str.inj (of_decide_eq_true e)
          rw [if_pos es] at nxt bad
          obtain ⟨gs, gsl⟩ := words fun i s' t' b1 b2 b3 => by
            subst b3
            have lt := last_last et (by rw [a2, es]) b1
            have z := al i _ t' lt b1 b2
            rw [if_neg (show ¬ (("given" : Str) = "last") by decide +kernel)] at z
            exact z
          have hpl : PlaceAt K C H7 x Le ((m + 1 : Nat) : Int) := by
            rw [hLe]
            refine PlaceAt.keep (T := T0) ⟨⟨dx', la, fa, c, hx, (Same.keep e46) _ _ h2a, h3a.keep f4.tab (Fr.same f4.tab e46), ?_⟩⟩ f6.tab f7
            show SqT K H6 c ((E.ns ++ strsD (givens fm ts)).map V.str)
            rw [List.map_append, ← gs]
            exact hc6
          refine ⟨_, rfl, y, td, x, Le, rfl, hy7, okt, f7.tab, hpl, ⟨grd, ?_⟩, fun e2 H8 f8 => ⟨f7.trans f8, ⟨_, _, _, rfl⟩, nxt e2⟩, fun b e2 H8 f8 => bad b e2 H8 (f07.trans f8)⟩
          rw [hLe]
          show (E.ns ++ strsD (givens fm ts)).length + 10 * m ≤ 2008
          rw [List.length_append]
          omega
        · have es : ¬ s = ("last" : Str) := fun z => e (decide_eq_true (congrArg V.str z))
          rw [if_neg es] at nxt bad
          exact ⟨_, rfl, y, td, p, E, rfl, hy7, okt, f7.tab, hp.keep tb f07, ⟨grd, by omega⟩, fun e2 H8 f8 => ⟨f7.trans f8, ⟨_, _, _, rfl⟩, nxt e2⟩, fun b e2 H8 f8 => bad b e2 H8 (f07.trans f8)⟩
      rintro σ2 H7 ⟨f7, ⟨o3, o4, o7, rfl⟩, al⟩
      rw [List.length_map] at al
      have f07 := f6.trans f7
      have all : firstBad ((fm.zip ts).map fun p => gSlot (gPart m) (if p.1 = ("last" : Str) then Le else E) p.1 p.2) = none := fb_none.mpr fun y hy => by
        obtain ⟨i, hi⟩ := List.getElem?_of_mem hy
        have il : i < fm.length := by have := (List.getElem?_eq_some_iff.mp hi).1; omega
        have c1 : fm[i]? = some fm[i] := List.getElem?_eq_getElem il
        have c2 : ts[i]? = some (ts[i]'(by omega)) := List.getElem?_eq_getElem _
        rw [zz i _ _ c1 c2] at hi
        rw [← Option.some.inj hi]
        exact al i _ _ (by omega) c1 c2
      rw [all] at gdef
      have gdef : gPart (m + 1) E (.tuple (.str wd :: ts)) = if (strsD (givens fm ts)).Nodup then (if wd = ("call" : Str) then whenB (callOk E ts) .bp else none) else some .tt := gdef
      obtain ⟨gs, gsl⟩ := words fun i s' t' b1 b2 b3 => by
        subst b3
        have il := (List.getElem?_eq_some_iff.mp b1).1
        have z := al i _ t' (by omega) b1 b2
        rw [if_neg (show ¬ (("given" : Str) = "last") by decide +kernel)] at z
        exact z
      have hg7 : SqT K H7 g ((strsD (givens fm ts)).map V.str) := by rw [← gs]; exact (Fr.keep f6.tab f7).2 _ _ hg6
      generalize strsD (givens fm ts) = zs at gs gsl hg7 gdef
      have ht7 : SqT K H7 a (.str wd :: vr) := (Fr.keep tb f07).2 _ _ ht
      refine ⟨_, rfl, g, zs, rfl, .inr hg7, by omega, fun u mm hu hm => ⟨u, _, mm, rfl, upd_same, fun ys nd mem ln => ?_⟩⟩
      have mem' : ∀ x, x ∈ ys ↔ x ∈ zs := fun x => (mem x).trans decide_eq_true_iff
      obtain ⟨nl1, nl2⟩ := nodup_len nd mem' ln
      have e8 := same_new hu (TxO w u (fun y => decide (y ∈ zs)) mm)
      have f08 : Fr T0 H _ := f07.trans (Fr.same f7.tab e8)
      refine ⟨_, rfl, g, _, rfl, .inr ((Same.keep e8) _ _ hg7), _, _, rfl, rfl, _, rfl, ite2 (fun c => ?_) (fun c => ?_)⟩
      · have lt := of_decide_eq_true c
        rw [List.length_map] at lt
        have nn := nl1.mp (by omega)
        exact q2 .tt (by rw [gdef, if_neg nn]) _ f08
      · have ge := of_decide_eq_false (Bool.eq_false_iff.mpr c)
        rw [List.length_map] at ge
        have nn : zs.Nodup := Classical.byContradiction fun z => absurd (nl1.mpr z) (by omega)
        rw [if_pos nn] at gdef
        have ht8 := (Same.keep e8) _ _ ht7
        refine ⟨_, rfl, a, _, _, _, rfl, rfl, ht8, at_of (j := 0) rfl rfl, rfl, _, rfl, ite2 (fun e => ?_) (fun e => ?_)⟩
        · have es : wd = ("call" : Str) := V.str.inj (of_decide_eq_true e)
          subst es
          rw [if_pos rfl] at gdef
          have efm : formTab.lookup ("call" : Str) = some (["function", "kinds", "handed"] : List Str) := by decide +kernel
          rw [efm] at et
          obtain rfl := Option.some.inj et
          have a0 := al 0 ("function" : Str)
          have a1 := al 1 ("kinds" : Str)
          have a2 := al 2 ("handed" : Str)
          obtain ⟨t0, t1, t2, rfl⟩ : ∃ t0 t1 t2, ts = [t0, t1, t2] := by
            match ts, el with
            | [t0, t1, t2], _ => exact ⟨t0, t1, t2, rfl⟩
          have l3 : ts'.length = 3 := lts
          have g0 := a0 t0 (by omega) rfl rfl
          have g1 := a1 t1 (by omega) rfl rfl
          have g2 := a2 t2 (by omega) rfl rfl
          rw [if_neg (show ¬ (("function" : Str) = "last") by decide +kernel), slot_function] at g0
          rw [if_neg (show ¬ (("kinds" : Str) = "last") by decide +kernel), slot_kinds] at g1
          rw [if_neg (show ¬ (("handed" : Str) = "last") by decide +kernel), slot_handed] at g2
          obtain ⟨z, rfl, hz⟩ := gFun_none g0
          obtain ⟨ks, rfl⟩ := gKinds_tuple g1
          obtain ⟨ps, rfl⟩ := gHanded_tuple g2
          have dp8 := (Fr.keep tb f08).dp dp0
          have hp8 := hp.keep tb f08
          obtain ⟨dx8, la8, fa8, na8, k1, k2, ⟨kvs, m1, m2, nd8, m3⟩, k4⟩ := hp8.at_
          obtain ⟨j, fv, nlq, npq, v1, v2, v3, v4⟩ := fn_get (K := K) m2 hz
          obtain ⟨d0, lq, qs, d3, d4, hf, ll, lp⟩ := m3 j _ _ _ _ _ v2 v3
          cases hr0 with
          | cons hy0 hr1 =>
            rename_i y0 vr1
            obtain rfl : y0 = .str z := by cases hy0; rfl
            have eok : callOk E [.str z, .tuple ks, .tuple ps] = (decide (ks.length = nlq) && decide (ps.length = npq)) := by
              show (match E.fs.lookup z with | some (nl9, np9) => _ | none => false) = _
              rw [v4]
            refine ⟨_, rfl, _, rfl, p, C, dx8, _, _, rfl, k1, L.cl, L.n2, pl_functions la8 fa8 na8, _, rfl, a, _, _, _, rfl, rfl, ht8, at_of (j := 1) rfl rfl, fa8, fv, rfl, ?_, .ref a, fv, .str ("call" : Str), .str z, ks, ps, d0, d3, d4, lq, qs, rfl, dp8, hf, f08.tab, fun c1 c2 => ?_, fun c H9 f9 => ?_⟩
            · rw [← v1]
              exact DGet.k (k := Sum.inr z) m1
            · exact q1 (by rw [gdef, eok, decide_eq_true (c1.trans ll), decide_eq_true (c2.trans lp)]; rfl) _ f08
            · refine q2 .bp ?_ H9 (f08.trans f9)
              rw [gdef, eok]
              have : (decide (ks.length = nlq) && decide (ps.length = npq)) = false := by
                refine Bool.eq_false_iff.mpr fun z => c ?_
                rw [Bool.and_eq_true, decide_eq_true_eq, decide_eq_true_eq] at z
                exact ⟨z.1.trans ll.symm, z.2.trans lp.symm⟩
              rw [this]
              rfl
        · have ne : ¬ wd = ("call" : Str) := fun z => e (decide_eq_true (congrArg V.str z))
          exact q1 (by rw [gdef, if_neg ne]) _ f08
end
end Sc
namespace Sc
open PySem PyProof.Rows L2
def pairOk (p : PyData → Bool) : PyData → Option Wr
  | .tuple [n, _] => whenB (p n) .bp
  | _ => some .bp
def leadD : PyData → PyData
  | .tuple (n :: _) => n
  | _ => .none
/-- pairs, led by what p lets lead, each once -/
def gPairs (p : PyData → Bool) : PyData → Option Wr
  | .tuple ds => match firstBad (ds.map (pairOk p)) with
    | some b => some b
    | none => if (strsD (ds.map leadD)).Nodup then none else some .tt
  | _ => some .bp
theorem pairOk_none {p : PyData → Bool} (hp : ∀ d, p d = true → ∃ z, d = .str z) {d : PyData} (h : pairOk p d = none) : ∃ z k, d = .tuple [.str z, k] ∧ p (.str z) = true := by
  match d, h with
  | .tuple [n, k], h =>
    have h' : whenB (p n) .bp = none := h
    cases hn : p n with
    | true =>
      obtain ⟨z, rfl⟩ := hp n hn
      exact ⟨z, k, rfl, hn⟩
    | false => rw [hn] at h'; cases h'
theorem lead_strs {p : PyData → Bool} (hp : ∀ d, p d = true → ∃ z, d = .str z) : ∀ {ds : List PyData}, (∀ d ∈ ds, pairOk p d = none) → strsD (ds.map leadD) = ds.map nameD
  | [], _ => rfl
  | d :: ds, h => by
    obtain ⟨z, k, rfl, _⟩ := pairOk_none hp (h d List.mem_cons_self)
    show z :: strsD (ds.map leadD) = z :: ds.map nameD
    rw [lead_strs hp fun d m => h d (List.mem_cons_of_mem _ m)]
section
variable {P : Program} {w : World} {K : PySem.W.Frag} {mg : Str → Option Value} {base : Heap} {T0 : List Addr} {cls : Wr → Addr}
/-- a test that is handed over by its address -/
structure Tst (P : Program) (w : World) (K : PySem.W.Frag) (mg : Str → Option Value) (base : Heap) (T0 : List Addr) (f : Addr) (p : PyData → Bool) : Prop where
  ex : ∃ (fd : FuncData) (ps : List Str), FnOk P w K mg base CX0 2 f fd ps (spTest K T0 p) ∧ PySem.W.keepIn K (.ref f) = true ∧ Binds K fd ps []
theorem gPairs_eq (p : PyData → Bool) (ds : List PyData) : gPairs p (.tuple ds) = (match firstBad (ds.map (pairOk p)) with
    | some b => some b
    | none => if (strsD (ds.map leadD)).Nodup then none else some .tt) := rfl
def spPairs (P : Program) (w : World) (K : PySem.W.Frag) (mg : Str → Option Value) (base : Heap) (T : List Addr) (cls : Wr → Addr) : Sp := fun vs H Q Ex => ∃ (v : V) (d : PyData) (f : Addr) (p : PyData → Bool), vs = [v, .ref f] ∧ Dp K H v d ∧ okD d ∧ Tb T H ∧ Tst P w K mg base T f p ∧ (∀ d, p d = true → ∃ z, d = .str z) ∧
  (gPairs p d = none → ∀ H', Fr T H H' → Q .non H') ∧ (∀ b, gPairs p d = some b → ∀ H', Fr T H H' → Ex (.ref (cls b)) none H')
theorem scPairs : FnScope ["pairs", "may_lead", "pair"] ["pairs", "may_lead"] (defScope sPNeedPairs) := ⟨rfl, rfl, rfl, by decide +kernel, rfl, by decide +kernel, by decide +kernel⟩
/-- a call of a local name that holds one of several tests -/
def tCallT (i : Nat) (S : Addr → Sp → Prop) (t : TA) : TE := fun σ H Q => ∃ f sp, σ[i]? = some (some (.ref f)) ∧ S f sp ∧ t σ H fun vs H1 => sp vs H1 Q E0
theorem pe_callT {X : Cx} {k i : Nat} {x : Str} {e : Expr} {es : List Expr} {t : TA} {p pos : Pos} {S : Addr → Sp → Prop} (A : ∀ f sp, S f sp → ∃ (fd : FuncData) (ps : List Str), FnOk X.prog X.w X.K X.mg X.base CX0 k f fd ps sp ∧ PySem.W.keepIn X.K (.ref f) = true ∧ Binds X.K fd ps []) (hr : Room k X.A) (hN : X.N[i]? = some x) (hv : Vis X.env.scope x) (ha : PA X (e :: es) t)
    (hdb : (x == ("__debug__" : Str)) = false := by decide) (hcd : (x == ("__classdict__" : Str)) = false := by decide)
    (he : starEach (e :: es) X.env = (false, eval e X.env) :: starEach es X.env := by rfl) (hpl : (backTo pos (starEach es X.env)).any (·.1) = false := by rfl) : PE X (.Call (.Name x p) (e :: es) [] pos) (tCallT i S t) := by
  refine ⟨fun pins s σ H Q I h => ?_⟩
  obtain ⟨f, sp, hs, hS, ht⟩ := h
  obtain ⟨fd, ps, F, hk, hb⟩ := A f sp hS
  refine (pe_callL (i := i) (f := f) (sp := sp) (dvs := []) (E := E0) F hr hN hv hk hb .nil pass0 ha hdb hcd he hpl).run pins s σ H Q I ⟨hs, ?_⟩
  have e0 : (fun (vs : List V) (H1 : Hp) => sp (vs ++ []) H1 Q E0) = fun vs H1 => sp vs H1 Q E0 := by
    funext vs H1
    rw [List.append_nil]
  show t σ H (fun vs H1 => sp (vs ++ []) H1 Q E0)
  rw [e0]
  exact ht
theorem strsD_map : ∀ (zs : List Str), strsD (zs.map PyData.str) = zs
  | [] => rfl
  | z :: zs => by show z :: strsD (zs.map PyData.str) = _; rw [strsD_map zs]
theorem c_need_pairs (T : Tx K mg) (R : Ers K mg cls) : CalX P w K mg base 3 "_need_pairs" ["pairs", "may_lead"] (spPairs P w K mg base T0 cls) := by
  refine T.p_need_pairs.okX scPairs (fun vs H Q E h => ?_) (fun f cdv A outer s H vs Q Ex hr h => ?_)
  · obtain ⟨v, d, f, p, rfl, _⟩ := h
    rfl
  obtain ⟨v, d, fT, p, rfl, hd, ok, tb, hT, hp, q1, q2⟩ := h
  refine ⟨_, pss_cons (ps_if (pt_not (pt_val (pe_callB call_isi (by rfl) T.m_isinstance boot_isinstance (pa_cons (pv 0) (pa_cons (pe_bltn (v := .ty "tuple") (by rfl) T.m_tuple boot_tuple rfl) pa_nil)))))
      (pss_one (ps_raise rfl (takes_of rfl rfl rfl rfl) (pmk_own PySem.F.excBase_ValueError R.bp.q R.bp.g R.bp.k (raises_own R.bp.b R.bp.t) (by exact rfl)))) pss_nil)
    (pss_cons (ps_for (passes_of rfl) rfl (pi_tup (pv 0)) (pg_name (i := 2) scPairs.nd rfl (Or.inl rfl))
      (pss_one (ps_if (PW.pt (pw_or (pt_not (pt_val (pe_callB call_isi (by rfl) T.m_isinstance boot_isinstance (pa_cons (pv 2) (pa_cons (pe_bltn (v := .ty "tuple") (by rfl) T.m_tuple boot_tuple rfl) pa_nil)))))
        (pw_or (pt_cmpR op_ne (pe_callB call_len_seq (by rfl) T.m_len PySem.boot_len (pa_cons (pv 2) pa_nil)) pe_int (nomark _))
        (pw_or1 (pt_not (pt_val (pe_callT (i := 1) (S := fun f sp => ∃ p, sp = spTest K T0 p ∧ Tst P w K mg base T0 f p) (fun f sp h => by obtain ⟨p, rfl, h⟩ := h; exact h.ex) hr rfl (Or.inl rfl) (pa_cons (pe_ix ix_tup (pv 2) pe_int (fun _ _ => rfl)) pa_nil))))))))
        (pss_one (ps_raise rfl (takes_of rfl rfl rfl rfl) (pmk_own PySem.F.excBase_ValueError R.bp.q R.bp.g R.bp.k (raises_own R.bp.b R.bp.t) (by exact rfl)))) pss_nil)))
    (pss_one (ps_if (pt_cmpR op_lt (pe_callB cr_txLen (by rfl) T.m_len PySem.boot_len (pa_cons (pe_callTy (cr_txSetT rfl) (by rfl) T.m_set (by decide +kernel) (pa_cons
          (pe_lc (own := [("pair", 2)]) (g := gName 2) (tt := tYes) rfl scPairs.nd (pi_tup (pv 0)) (blkOk_by (N := ["pairs", "may_lead", "pair"]) (sc := defScope sPNeedPairs) (by decide +kernel))
            (fun _ _ _ _ _ => pg_name (i := 2) scPairs.nd rfl (Or.inl rfl)) (fun _ _ _ _ _ => pts_nil) (fun _ _ _ _ _ => pe_ix (ix_tupK K) (pv 2) pe_int (fun _ _ => rfl))) pa_nil)) pa_nil)) (pe_callB call_len_seq (by rfl) T.m_len PySem.boot_len (pa_cons (pv 0) pa_nil)) (nomark _))
      (pss_one (ps_raise rfl (takes_of rfl rfl rfl rfl) (pmk_own PySem.F.excBase_ValueError R.tt.q R.tt.g R.tt.k (raises_own R.tt.b R.tt.t) (by exact rfl)))) pss_nil))), ?_⟩
  refine ⟨_, rfl, _, _, _, _, _, rfl, .ty _, Dp.ty hd, kit_ty (isTup hd), _, rfl, ?_⟩
  cases hd with
  | tup ht hds =>
    rename_i a vs ds
    obtain ⟨len, okx⟩ := ok.sub
    have lv := DpAll.len hds
    rw [gPairs_eq] at q1
    have q2 : ∀ b, (match firstBad (ds.map (pairOk p)) with | some b => some b | none => if (strsD (ds.map leadD)).Nodup then none else some .tt) = some b → ∀ H', Fr T0 H H' → Ex (.ref (cls b)) none H' := fun b e => q2 b (by rw [gPairs_eq]; exact e)
    refine ⟨_, rfl, a, rfl, ⟨_, ht⟩, ?_⟩
    refine for_tup (K := K) (a := a) (xs := vs) (fun j σ2 H2 => Fr T0 H H2 ∧ (∃ o, σ2 = [some (.ref a), some (.ref fT), o]) ∧ ∀ i d, i < j → ds[i]? = some d → pairOk p d = none) ⟨Fr.refl tb, ⟨_, rfl⟩, fun i d h => absurd h (Nat.not_lt_zero _)⟩ (fun j σ2 H2 _ h => (Fr.keep tb h.1).2 _ _ ht) ?_ ?_
    · rintro j x σ2 H2 hx ⟨f2, ⟨o, rfl⟩, al⟩
      obtain ⟨d, hd1, hd2⟩ := DpAll.get hds hx
      have md := List.mem_of_getElem? hd1
      have okd := okx d md
      obtain ⟨n1, n2⟩ := loop_bad (g := pairOk p) al hd1
      have bad : pairOk p d = some .bp → ∀ H', Fr T0 H H' → Ex (.ref (cls .bp)) none H' := fun e => q2 .bp (by rw [n2 .bp e])
      have hd2' := (Fr.keep tb f2).dp hd2
      have ty := Dp.ty hd2'
      have it := isTup hd2'
      dsimp only [gName]
      cases hd2' with
      | tup ht2 hds2 =>
        rename_i a2 vs2 ds2
        have lv2 := DpAll.len hds2
        refine ⟨_, rfl, _, _, _, _, _, rfl, .ty _, ty, kit_ty it, _, rfl, ?_⟩
        refine iteNo (by show ¬ ((!true) = true); decide) ?_
        refine ⟨_, rfl, a2, vs2, rfl, .inr ht2, rfl, _, rfl, ite2 (fun c => ?_) (fun c => ?_)⟩
        · have ne : ¬ vs2.length = 2 := fun z => by rw [z] at c; exact absurd c (by decide)
          refine iteYes rfl ?_
          refine bad ?_ H2 f2
          match ds2, lv2 with
          | [], _ => rfl
          | [_], _ => rfl
          | [_, _], l => exact absurd l ne
          | _ :: _ :: _ :: _, _ => rfl
        · have two : vs2.length = 2 := Classical.byContradiction fun z => c (by
            have : ¬ ((vs2.length : Nat) : Int) = 2 := by omega
            simpa using this)
          obtain ⟨x1, x2, d1, d2, rfl, rfl, h3, h4⟩ := two_open hds2 two
          have ok1 := okd.sub.2 d1 List.mem_cons_self
          refine ⟨fT, _, rfl, ⟨p, rfl, hT⟩, _, rfl, a2, _, _, _, rfl, rfl, ht2, at_of (j := 0) rfl rfl, x1, d1, rfl, h3, ok1, f2.tab, fun H3 f3 => ⟨_, rfl, ?_⟩⟩
          cases hp1 : p d1 with
          | false => exact iteYes rfl (bad (by show whenB (p d1) .bp = _; rw [hp1]; rfl) H3 (f2.trans f3))
          | true => exact iteNo (by decide) ⟨f2.trans f3, ⟨_, rfl⟩, n1 (by show whenB (p d1) .bp = _; rw [hp1]; rfl)⟩
      | str _ => exact ⟨_, rfl, _, _, _, _, _, rfl, .ty _, ty, kit_ty it, _, rfl, iteYes rfl (iteYes rfl (bad rfl H2 f2))⟩
      | non => exact ⟨_, rfl, _, _, _, _, _, rfl, .ty _, ty, kit_ty it, _, rfl, iteYes rfl (iteYes rfl (bad rfl H2 f2))⟩
      | bl b => exact ⟨_, rfl, _, _, _, _, _, rfl, .ty _, ty, kit_ty it, _, rfl, iteYes rfl (iteYes rfl (bad rfl H2 f2))⟩
      | int b => exact ⟨_, rfl, _, _, _, _, _, rfl, .ty _, ty, kit_ty it, _, rfl, iteYes rfl (iteYes rfl (bad rfl H2 f2))⟩
      | lst _ _ => exact ⟨_, rfl, _, _, _, _, _, rfl, .ty _, ty, kit_ty it, _, rfl, iteYes rfl (iteYes rfl (bad rfl H2 f2))⟩
    · rintro σ2 H2 ⟨f2, ⟨o, rfl⟩, al⟩
      have all : ∀ d ∈ ds, pairOk p d = none := fun d m => by
        obtain ⟨i, hi⟩ := List.getElem?_of_mem m
        exact al i d (by rw [lv]; exact (List.getElem?_eq_some_iff.mp hi).1) hi
      have fb : firstBad (ds.map (pairOk p)) = none := fb_none.mpr fun x m => by
        obtain ⟨d, hd, rfl⟩ := List.mem_map.mp m
        exact all d hd
      rw [fb, lead_strs hp all] at q1
      rw [fb, lead_strs hp all] at q2
      have q1 : (if (ds.map nameD).Nodup then (none : Option Wr) else some .tt) = none → ∀ H', Fr T0 H H' → Q .non H' := q1
      have q2 : ∀ b, (if (ds.map nameD).Nodup then (none : Option Wr) else some .tt) = some b → ∀ H', Fr T0 H H' → Ex (.ref (cls b)) none H' := q2
      have fields : ∀ {j : Nat} {x : V}, vs[j]? = some x → ∃ (a2 : Addr) (x2 : V) (z : Str), x = .ref a2 ∧ SqT K H2 a2 [.str z, x2] ∧ (ds.map nameD)[j]? = some z := fun {j x} hx => by
        obtain ⟨d, hd1, hd2⟩ := DpAll.get hds hx
        obtain ⟨z, k, rfl, _⟩ := pairOk_none hp (all d (List.mem_of_getElem? hd1))
        have hd2' := (Fr.keep tb f2).dp hd2
        cases hd2' with
        | tup ht2 hds2 =>
          rename_i a2 vs2
          cases hds2 with
          | cons g1 g2 => cases g2 with
            | cons g3 g4 => cases g4 with
              | nil =>
                cases g1
                exact ⟨a2, _, z, rfl, ht2, by rw [List.getElem?_map, hd1]; rfl⟩
      refine ⟨_, rfl, a, rfl, ⟨_, (Fr.keep tb f2).2 _ _ ht⟩, fun D hD => ?_⟩
      have ht2 := (Fr.keep tb f2).2 _ _ ht
      refine lc_tup (K := K) (a := a) (xs := vs) (fun j H3 => Same H2 H3 ∧ H3 D = some (.lst (((ds.map nameD).take j).map V.str))) ⟨same_new hD _, upd_same⟩ (fun j H3 _ h => (Same.keep h.1) _ _ ht2) ?_ ?_
      · rintro j x H3 hx ⟨e3, h3⟩
        obtain ⟨a2, x2, z, rfl, hp2, hz⟩ := fields hx
        refine ⟨rfl, _, rfl, a2, _, _, _, rfl, rfl, (Same.keep e3) _ _ hp2, at_of (j := 0) rfl rfl, _, h3, ?_, fun b o hb => ?_, ?_⟩
        · rw [List.length_map]
          exact small1000 (Nat.le_trans (List.length_take_le' _ _) (by rw [List.length_map]; omega))
        · rw [upd_ne (ne_of_none hb hD)]
          exact e3 b o hb
        · rw [upd_same, List.take_add_one, hz, List.map_append]
          rfl
      rintro H3 ⟨e3, h3⟩
      rw [lv, List.take_of_length_le (by rw [List.length_map]; exact Nat.le_refl _)] at h3
      have zl : (ds.map nameD).length = vs.length := by rw [List.length_map, lv]
      generalize ds.map nameD = zs at h3 zl q1 q2
      refine ⟨D, zs, rfl, .inl (SqL.of h3), by omega, fun u mm hu hm => ⟨u, _, mm, rfl, upd_same, fun ys nd mem ln => ?_⟩⟩
      have mem' : ∀ x, x ∈ ys ↔ x ∈ zs := fun x => (mem x).trans decide_eq_true_iff
      obtain ⟨nl1, nl2⟩ := nodup_len nd mem' ln
      have e8 := same_new hu (TxO w u (fun y => decide (y ∈ zs)) mm)
      have e38 := Same.trans e3 e8
      have f08 := f2.trans (Fr.same f2.tab e38)
      refine ⟨_, rfl, a, _, rfl, .inr ((Same.keep e38) _ _ ht2), _, _, rfl, rfl, _, rfl, ite2 (fun c => ?_) (fun c => ?_)⟩
      · have lt := of_decide_eq_true c
        have nn := nl1.mp (by omega)
        exact q2 .tt (by rw [if_neg nn]) _ f08
      · have ge := of_decide_eq_false (Bool.eq_false_iff.mpr c)
        have nn : zs.Nodup := Classical.byContradiction fun z => absurd (nl1.mpr z) (by omega)
        exact q1 (by rw [if_pos nn]) _ f08
  | str _ => exact q2 .bp rfl H (Fr.refl tb)
  | non => exact q2 .bp rfl H (Fr.refl tb)
  | bl b => exact q2 .bp rfl H (Fr.refl tb)
  | int b => exact q2 .bp rfl H (Fr.refl tb)
  | lst _ _ => exact q2 .bp rfl H (Fr.refl tb)
end
end Sc
namespace Sc
open PySem PyProof.Rows L2
def sndK (g : PyData → Option Wr) : PyData → Option Wr
  | .tuple [_, k] => g k
  | _ => none
def gSnd (g : PyData → Option Wr) : PyData → Option Wr
  | .tuple ds => firstBad (ds.map (sndK g))
  | _ => none
def leads : PyData → List Str
  | .tuple ds => ds.map nameD
  | _ => []
def gFn (fs : List (Str × Nat × Nat)) (d0 d1 d2 d3 d4 : PyData) : Option Wr := match gWord d0 with
  | some b => some b
  | none => match strsD [d0] with
    | z :: _ => if (formTab.lookup z).isSome then some .bp else if z ∈ fs.map (·.1) then some .tt else
        firstBad [gPairs isLettD d1, gSnd (gKind []) d1, gPairs isWordD d2, gSnd (gKind (leads d1)) d2, gKind (leads d1) d3, gPart 12 ⟨leads d1, fs, leads d2⟩ d4]
    | [] => some .bp
section
variable {P : Program} {w : World} {K : PySem.W.Frag} {mg : Str → Option Value} {base : Heap} {T0 : List Addr} {C FA : Addr} {cls : Wr → Addr}
def spFn (K : PySem.W.Frag) (T : List Addr) (cls : Wr → Addr) (tOk : PyData → Prop) : Sp := fun vs H Q Ex => ∃ (v : V) (fa : Addr) (fs : List (Str × Nat × Nat)) (d0 d1 d2 d3 d4 : PyData), vs = [v, .ref fa] ∧ Dp K H v (.tuple [d0, d1, d2, d3, d4]) ∧ okD (.tuple [d0, d1, d2, d3, d4]) ∧ Tb T H ∧ FnsAt K H fa fs ∧ txs tOk 12 d4 ∧
  (gFn fs d0 d1 d2 d3 d4 = none → ∀ H', Fr T H H' → Q .non H') ∧ (∀ b, gFn fs d0 d1 d2 d3 d4 = some b → ∀ H', Fr T H H' → Ex (.ref (cls b)) none H')
abbrev nF : List Str := ["function", "earlier", "name", "letters", "params", "result", "body", "_", "bound", "own", "kind", "names", "letter", "param"]
theorem scFn : FnScope nF ["function", "earlier"] (defScope sPNeedFunction) := ⟨rfl, rfl, rfl, by decide +kernel, rfl, by decide +kernel, by decide +kernel⟩
/-- what pairs are, once they are let by -/
theorem pairs_open {p : PyData → Bool} (hp : ∀ d, p d = true → ∃ z, d = .str z) {d : PyData} (h : gPairs p d = none) : ∃ ds, d = .tuple ds ∧ (∀ d ∈ ds, ∃ z k, d = .tuple [.str z, k] ∧ p (.str z) = true) ∧ (ds.map nameD).Nodup := by
  cases d with
  | tuple ds =>
    have h' : (match firstBad (ds.map (pairOk p)) with | some b => some b | none => if (strsD (ds.map leadD)).Nodup then none else some Wr.tt) = none := h
    cases fb : firstBad (ds.map (pairOk p)) with
    | some b => rw [fb] at h'; cases h'
    | none =>
      rw [fb] at h'
      have al : ∀ d ∈ ds, pairOk p d = none := fun d m => fb_none.mp fb _ (List.mem_map.mpr ⟨d, m, rfl⟩)
      have h2 : (if (strsD (ds.map leadD)).Nodup then none else some Wr.tt) = none := h'
      rw [lead_strs hp al] at h2
      refine ⟨ds, rfl, fun d m => pairOk_none hp (al d m), ?_⟩
      by_cases nn : (ds.map nameD).Nodup
      · exact nn
      · rw [if_neg nn] at h2; cases h2
  | _ => cases h
theorem lett_str (d : PyData) (h : isLettD d = true) : ∃ z, d = .str z := by
  cases d with
  | str z => exact ⟨z, rfl⟩
  | _ => cases h
theorem word_str (d : PyData) (h : isWordD d = true) : ∃ z, d = .str z := by
  cases d with
  | str z => exact ⟨z, rfl⟩
  | _ => cases h
/-- a pair among pairs -/
theorem pair_at {K : PySem.W.Frag} {H : Hp} {vs : List V} {ds : List PyData} (hds : DpAll K H vs ds) (all : ∀ d ∈ ds, ∃ z k, d = .tuple [.str z, k]) {j : Nat} {x : V} (hx : vs[j]? = some x) :
    ∃ (a2 : Addr) (xk : V) (z : Str) (k : PyData), x = .ref a2 ∧ SqT K H a2 [.str z, xk] ∧ Dp K H xk k ∧ ds[j]? = some (.tuple [.str z, k]) ∧ (ds.map nameD)[j]? = some z := by
  obtain ⟨d, hd1, hd2⟩ := DpAll.get hds hx
  obtain ⟨z, k, rfl⟩ := all d (List.mem_of_getElem? hd1)
  cases hd2 with
  | tup ht2 hds2 =>
    cases hds2 with
    | cons g1 g2 => cases g2 with
      | cons g3 g4 => cases g4 with
        | nil =>
          cases g1
          exact ⟨_, _, z, k, rfl, ht2, g3, hd1, by rw [List.getElem?_map, hd1]; rfl⟩
theorem KeepL.dpA {K : PySem.W.Frag} {H H' : Hp} (e : KeepL K H H') {vs : List V} {ds : List PyData} (h : DpAll K H vs ds) : DpAll K H' vs ds := KeepL.dps e h
theorem c_need_function (tOk : PyData → Prop) (T : Tx K mg) (R : Ers K mg cls) (L : PlC P w K mg base C) (F : FT K w mg FA) (m12 : ∃ t, mg "DEEPEST_BODY" = some (.int 12 t)) {lv : Nat} (lv31 : 31 ≤ lv)
    (CW : Cal P w K mg base 2 "is_word" ["thing"] (spTest K T0 isWordD)) (CL : Cal P w K mg base 2 "is_letter" ["thing"] (spTest K T0 isLettD)) (CP : CalX P w K mg base 3 "_need_pairs" ["pairs", "may_lead"] (spPairs P w K mg base T0 cls))
    (CN : CalX P w K mg base 31 "need_kind" ["kind", "letters"] (spNeed K T0 (cls .bk) [] (fun ls => gK ls 9))) (CB : CalX P w K mg base lv "_need_part" ["part", "place"] (spAtG K T0 C cls ((12 : Nat) : Int) (fun E d => txs tOk 12 d ∧ E.ns.length + 10 * 12 ≤ 2012) (gPart 12))) :
    CalX P w K mg base (lv + 1) "_need_function" ["function", "earlier"] (spFn K T0 cls tOk) := by
  obtain ⟨es, nn, D⟩ := F.d
  obtain ⟨t12, m12⟩ := m12
  obtain ⟨fI, fdI, GI, MI, BI⟩ := L.ini
  obtain ⟨fW, fdW, FW, mW, kW, bW⟩ := id CW.ex
  obtain ⟨fL, fdL, FL, mL, kL, bL⟩ := id CL.ex
  refine T.p_need_function.okX scFn (fun vs H Q E h => ?_) (fun f cdv A outer s H vs Q Ex hr h => ?_)
  · obtain ⟨v, fa, fs, _, _, _, _, _, rfl, _⟩ := h
    rfl
  obtain ⟨v, fa, fs, d0, d1, d2, d3, d4, rfl, hd, ok, tb, hf, hG, q1, q2⟩ := h
  have r2 : Room 2 _ := hr.mono (by omega)
  have r3 : Room 3 _ := hr.mono (by omega)
  have r31 : Room 31 _ := hr.mono lv31
  have hu1 : (A.deeper (envOfC "_need_function" (defScope sPNeedFunction) s.heap.objs.size f cdv)).units + 1 < cLine := by have := hr.un; omega
  refine ⟨_, pss_cons (ps_if (PW.pt (pw_or (pt_not (pt_val (pe_callB call_isi (by rfl) T.m_isinstance boot_isinstance (pa_cons (pv 0) (pa_cons (pe_bltn (v := .ty "tuple") (by rfl) T.m_tuple boot_tuple rfl) pa_nil)))))
        (pw_or1 (pt_cmpR op_ne (pe_callB call_len_seq (by rfl) T.m_len PySem.boot_len (pa_cons (pv 0) pa_nil)) pe_int (nomark _)))))
      (pss_one (ps_raise rfl (takes_of rfl rfl rfl rfl) (pmk_own PySem.F.excBase_ValueError R.bp.q R.bp.g R.bp.k (raises_own R.bp.b R.bp.t) (by exact rfl)))) pss_nil)
    (pss_cons (ps_asg (pv 0) (pg_tup (by rfl) (pgs_cons (pg_name (i := 2) scFn.nd rfl (Or.inl rfl)) (pgs_cons (pg_name (i := 3) scFn.nd rfl (Or.inl rfl)) (pgs_cons (pg_name (i := 4) scFn.nd rfl (Or.inl rfl)) (pgs_cons (pg_name (i := 5) scFn.nd rfl (Or.inl rfl)) (pgs_cons (pg_name (i := 6) scFn.nd rfl (Or.inl rfl)) pgs_nil)))))))
    (pss_cons (ps_if (PW.pt (pw_or (pt_not (pt_val (pe_cal CW r2 (pa_cons (pv 2) pa_nil)))) (pw_or1 (pt_cmpR (op_in_kd D) (pv 2) (pe_glob (v := .ref FA) (by rfl) F.g rfl) (by rfl)))))
      (pss_one (ps_raise rfl (takes_of rfl rfl rfl rfl) (pmk_own PySem.F.excBase_ValueError R.bp.q R.bp.g R.bp.k (raises_own R.bp.b R.bp.t) (by exact rfl)))) pss_nil)
    (pss_cons (ps_if (pt_cmp (pc_din hu1 (pv 2) (pv 1)) (by rfl))
      (pss_one (ps_raise rfl (takes_of rfl rfl rfl rfl) (SkE.pmk_own1 PySem.F.excBase_ValueError R.tt.q R.tt.g R.tt.k (raises_own R.tt.b R.tt.t) (by exact rfl) (pe_fs (.cons pe_str (.cons (pe_fmt (pv 2)) (.cons pe_str .nil))))))) pss_nil)
    (pss_cons (ps_expr (pe_calX CP r3 (passes_call (takes_of rfl rfl rfl rfl) (fun _ _ _ _ h => h)) (pa_cons (pv 3) (pa_cons (pe_glob (v := .ref fL) (by rfl) mL rfl) pa_nil))))
    (pss_cons (ps_for (passes_of rfl) rfl (pi_tup (pv 3)) (pg_tup (by rfl) (pgs_cons (pg_name (i := 7) scFn.nd rfl (Or.inl rfl)) (pgs_cons (pg_name (i := 8) scFn.nd rfl (Or.inl rfl)) pgs_nil)))
      (pss_one (ps_expr (pe_calX CN r31 (passes_call (takes_of rfl rfl rfl rfl) (fun _ _ _ _ h => h)) (pa_cons (pv 8) (pa_cons (pe_tup pa_nil) pa_nil))))))
    (pss_cons (ps_set (i := 9) scFn.nd rfl (Or.inl rfl) (pe_callTy call_tuple_of (by rfl) T.m_tuple (by decide +kernel) (pa_cons
        (pe_lc (own := [("letter", 12), ("_", 7)]) (g := gTup K 2 (gCons (gName 12) (gCons (gName 7) gNil))) (tt := tYes) rfl scFn.nd (pi_tup (pv 3)) (blkOk_by (N := nF) (sc := defScope sPNeedFunction) (by decide +kernel))
          (fun _ _ _ _ _ => pg_tup (by rfl) (pgs_cons (pg_name (i := 12) scFn.nd rfl (Or.inl rfl)) (pgs_cons (pg_name (i := 7) scFn.nd rfl (Or.inl rfl)) pgs_nil))) (fun _ _ _ _ _ => pts_nil) (fun _ _ _ _ _ => pv 12)) pa_nil)))
    (pss_cons (ps_expr (pe_calX CP r3 (passes_call (takes_of rfl rfl rfl rfl) (fun _ _ _ _ h => h)) (pa_cons (pv 4) (pa_cons (pe_glob (v := .ref fW) (by rfl) mW rfl) pa_nil))))
    (pss_cons (ps_for (passes_of rfl) rfl (pi_tup (pv 4)) (pg_tup (by rfl) (pgs_cons (pg_name (i := 7) scFn.nd rfl (Or.inl rfl)) (pgs_cons (pg_name (i := 10) scFn.nd rfl (Or.inl rfl)) pgs_nil)))
      (pss_one (ps_expr (pe_calX CN r31 (passes_call (takes_of rfl rfl rfl rfl) (fun _ _ _ _ h => h)) (pa_cons (pv 10) (pa_cons (pv 9) pa_nil))))))
    (pss_cons (ps_expr (pe_calX CN r31 (passes_call (takes_of rfl rfl rfl rfl) (fun _ _ _ _ h => h)) (pa_cons (pv 5) (pa_cons (pv 9) pa_nil))))
    (pss_cons (ps_set (i := 11) scFn.nd rfl (Or.inl rfl) (pe_callTy call_tuple_of (by rfl) T.m_tuple (by decide +kernel) (pa_cons
        (pe_lc (own := [("param", 13), ("_", 7)]) (g := gTup K 2 (gCons (gName 13) (gCons (gName 7) gNil))) (tt := tYes) rfl scFn.nd (pi_tup (pv 4)) (blkOk_by (N := nF) (sc := defScope sPNeedFunction) (by decide +kernel))
          (fun _ _ _ _ _ => pg_tup (by rfl) (pgs_cons (pg_name (i := 13) scFn.nd rfl (Or.inl rfl)) (pgs_cons (pg_name (i := 7) scFn.nd rfl (Or.inl rfl)) pgs_nil))) (fun _ _ _ _ _ => pts_nil) (fun _ _ _ _ _ => pv 13)) pa_nil)))
    (pss_one (ps_expr (pe_calX CB hr (passes_call (takes_of rfl rfl rfl rfl) (fun _ _ _ _ h => h)) (pa_cons (pv 6) (pa_cons (pe_make MI GI r2 (by rfl) L.g BI .nil pass0 (pa_cons (pv 9) (pa_cons (pv 1) (pa_cons (pv 11) (pa_cons (pe_glob (v := .int 12) (by rfl) m12 ⟨_, rfl⟩) pa_nil))))) pa_nil))))))))))))))), ?_⟩
  have is5 : ∃ (a : Addr) (v0 v1 v2 v3 v4 : V), v = .ref a ∧ SqT K H a [v0, v1, v2, v3, v4] ∧ Dp K H v0 d0 ∧ Dp K H v1 d1 ∧ Dp K H v2 d2 ∧ Dp K H v3 d3 ∧ Dp K H v4 d4 := by
    cases hd with
    | tup ht hds => cases hds with
      | cons g0 hds => cases hds with
        | cons g1 hds => cases hds with
          | cons g2 hds => cases hds with
            | cons g3 hds => cases hds with
              | cons g4 hds => cases hds with
                | nil => exact ⟨_, _, _, _, _, _, rfl, ht, g0, g1, g2, g3, g4⟩
  have ty := Dp.ty hd
  have it := isTup hd
  obtain ⟨a, v0, v1, v2, v3, v4, rfl, ht, g0, g1, g2, g3, g4⟩ := is5
  have okm := ok.sub.2
  have ok0 := okm d0 (by simp)
  have ok1 := okm d1 (by simp)
  have ok2 := okm d2 (by simp)
  have ok3 := okm d3 (by simp)
  have ok4 := okm d4 (by simp)
  show tOr _ _ _ _ _
  refine or_pure false false (fun R1 h => ⟨_, rfl, _, _, _, _, _, rfl, .ty _, ty, kit_ty it, _, rfl, h⟩) (fun _ R1 h => ⟨_, rfl, a, _, rfl, .inr ht, rfl, _, rfl, h⟩) (fun h => by rcases h with h | h <;> cases h) (fun _ _ => iteF ?_)
  dsimp only [tNext, gName]
  refine ⟨_, rfl, a, _, rfl, ht, rfl, _, _, rfl, _, _, rfl, _, _, rfl, _, _, rfl, _, _, rfl, rfl, ?_⟩
  dsimp only [gName]
  -- the name
  show tOr _ _ _ _ _
  refine ⟨_, rfl, v0, d0, rfl, g0, ok0, tb, fun H1 f1 => ⟨_, rfl, ?_⟩⟩
  cases hw : isWordD d0 with
  | false =>
    refine iteYes rfl (iteYes rfl (q2 .bp ?_ H1 f1))
    unfold gFn
    rw [show gWord d0 = some .bp by show whenB (isWordD d0) .bp = _; rw [hw]; rfl]
  | true =>
  refine iteNo (by decide) ?_
  obtain ⟨z, rfl⟩ := word_str d0 hw
  cases g0
  have ef : gFn fs (.str z) d1 d2 d3 d4 = if (formTab.lookup z).isSome then some .bp else if z ∈ fs.map (·.1) then some .tt else
        firstBad [gPairs isLettD d1, gSnd (gKind []) d1, gPairs isWordD d2, gSnd (gKind (leads d1)) d2, gKind (leads d1) d3, gPart 12 ⟨leads d1, fs, leads d2⟩ d4] := by
    unfold gFn
    rw [show gWord (.str z) = none by show whenB (isWordD (.str z)) .bp = _; rw [hw]; rfl]
    rfl
  rw [ef] at q1
  have q2 : ∀ b, (if (formTab.lookup z).isSome then some Wr.bp else if z ∈ fs.map (·.1) then some .tt else
        firstBad [gPairs isLettD d1, gSnd (gKind []) d1, gPairs isWordD d2, gSnd (gKind (leads d1)) d2, gKind (leads d1) d3, gPart 12 ⟨leads d1, fs, leads d2⟩ d4]) = some b → ∀ H', Fr T0 H H' → Ex (.ref (cls b)) none H' := fun b e => q2 b (by rw [ef]; exact e)
  obtain ⟨r0, e1, e2⟩ : ∃ r : Option Value, PySem.W.nsIn K FA z = some r ∧ r.isSome = (formTab.lookup z).isSome := by
    cases e : formTab.lookup z with
    | none => exact ⟨_, F.none_ z e, rfl⟩
    | some fm =>
      obtain ⟨t, e1, _⟩ := F.some_ z fm e
      exact ⟨_, e1, rfl⟩
  refine ⟨_, rfl, z, r0, rfl, rfl, e1, _, rfl, ?_⟩
  rw [e2]
  cases hl : (formTab.lookup z).isSome with
  | true => exact iteYes rfl (q2 .bp (by rw [if_pos hl]) H1 f1)
  | false =>
  rw [if_neg (by rw [hl]; decide)] at q1
  have q2 : ∀ b, (if z ∈ fs.map (·.1) then some Wr.tt else
        firstBad [gPairs isLettD d1, gSnd (gKind []) d1, gPairs isWordD d2, gSnd (gKind (leads d1)) d2, gKind (leads d1) d3, gPart 12 ⟨leads d1, fs, leads d2⟩ d4]) = some b → ∀ H', Fr T0 H H' → Ex (.ref (cls b)) none H' := fun b e => q2 b (by rw [if_neg (by rw [hl]; decide)]; exact e)
  refine iteNo (by decide) ?_
  dsimp only [tNext, gName]
  have z8 : z.length ≤ 8 := (of_decide_eq_true (show decide (Word z) = true from hw)).2.1
  have hf1 := hf.keep tb f1
  obtain ⟨kvs, k1, k2, nd, k3⟩ := id hf1
  refine ⟨_, rfl, _, rfl, fa, _, rfl, DGet.k (k := Sum.inr z) k1, _, rfl, ?_⟩
  rw [fn_at (K := K) (H := H1) z k2]
  refine ite2 (fun hm => ?_) (fun hm => ?_)
  · have hm' := of_decide_eq_true hm
    refine ⟨_, rfl, by decide +kernel, _, rfl, .inl ⟨z, rfl, sizeOk (by omega), _, rfl, ?_, _, rfl, ?_, ?_⟩⟩
    · rw [len_app]
      have : (Str.empty ++ "the function " : Str).length ≤ 100 := by decide +kernel
      exact sizeOk (by omega)
    · rw [len_app, len_app]
      have : (Str.empty ++ "the function " : Str).length ≤ 100 := by decide +kernel
      have : (" is told twice" : Str).length ≤ 100 := by decide +kernel
      exact sizeOk (by omega)
    · exact q2 .tt (by rw [if_pos hm']) H1 f1
  have hm' : ¬ z ∈ fs.map (·.1) := fun y => hm (decide_eq_true y)
  rw [if_neg hm'] at q1
  have q2 : ∀ b, firstBad [gPairs isLettD d1, gSnd (gKind []) d1, gPairs isWordD d2, gSnd (gKind (leads d1)) d2, gKind (leads d1) d3, gPart 12 ⟨leads d1, fs, leads d2⟩ d4] = some b → ∀ H', Fr T0 H H' → Ex (.ref (cls b)) none H' := fun b e => q2 b (by rw [if_neg hm']; exact e)
  dsimp only [tNext, gName]
  have fbS : ∀ (l r : List (Option Wr)) (b : Wr), (∀ x ∈ l, x = none) → firstBad (l ++ some b :: r) = some b := fun l r b h => fb_at (j := l.length) (fun i x hi hx => h x (List.mem_of_getElem? (by rw [List.getElem?_append_left hi] at hx; exact hx))) (by rw [List.getElem?_append_right (Nat.le_refl _), Nat.sub_self]; rfl)
  -- the letters
  refine ⟨_, rfl, v1, d1, fL, isLettD, rfl, (Fr.keep tb f1).dp g1, ok1, f1.tab, ⟨fdL, _, FL, kL, bL⟩, lett_str, fun p1 H2 f2 => ?_, fun b e H2 f2 => q2 b (by rw [e]; exact fbS [] _ b fun x h => by cases h) H2 (f1.trans f2)⟩
  have f02 := f1.trans f2
  obtain ⟨ds1, rfl, al1, nd1⟩ := pairs_open lett_str p1
  have al1' : ∀ d ∈ ds1, ∃ z k, d = .tuple [.str z, k] := fun d m => let ⟨z, k, e, _⟩ := al1 d m; ⟨z, k, e⟩
  have g1c := g1
  cases g1 with
  | tup ht1 hds1 =>
  rename_i a1 vs1
  have lv1 := DpAll.len hds1
  dsimp only [tNext, gName]
  refine ⟨_, rfl, a1, rfl, ⟨_, (Fr.keep tb f02).2 _ _ ht1⟩, ?_⟩
  refine for_tup (K := K) (a := a1) (xs := vs1) (fun j σ2 H3 => Fr T0 H H3 ∧ (∃ o7 o8, σ2 = [some (.ref a), some (.ref fa), some (.str z), some (.ref a1), some v2, some v3, some v4, o7, o8, none, none, none, none, none]) ∧ ∀ i d, i < j → ds1[i]? = some d → sndK (gKind []) d = none) ⟨f02, ⟨_, _, rfl⟩, fun i d h => absurd h (Nat.not_lt_zero _)⟩ (fun j σ2 H3 _ h => (Fr.keep tb h.1).2 _ _ ht1) ?_ ?_
  · rintro j x σ2 H3 hx ⟨f3, ⟨o7, o8, rfl⟩, al⟩
    obtain ⟨a2, xk, y, k, rfl, hp2, hk, hd1, _⟩ := pair_at ((Fr.keep tb f3).dpA hds1) al1' hx
    obtain ⟨n1, n2⟩ := loop_bad (g := sndK (gKind [])) al hd1
    have okk := (ok1.sub.2 _ (List.mem_of_getElem? hd1)).sub.2 k (by simp)
    refine ⟨a2, _, rfl, hp2, rfl, _, _, rfl, _, _, rfl, rfl, ?_⟩
    dsimp only [gName]
    refine ⟨_, rfl, Nat.zero_le _, fun u hu => ?_⟩
    have e4 := same_new hu (.tup [])
    have f4 := f3.trans (Fr.same f3.tab e4)
    refine ⟨[], xk, k, u, rfl, (Same.keepL e4).dp hk, okk, f4.tab, SqT.of upd_same, fun e H5 f5 => ?_, fun e H5 f5 => ?_⟩
    · exact ⟨f4.trans f5, ⟨_, _, rfl⟩, n1 (by show whenB (gK [] 9 k) .bk = none; rw [show gK [] 9 k = true from e]; rfl)⟩
    · refine q2 .bk ?_ H5 (f4.trans f5)
      have e0 : gSnd (gKind []) (.tuple ds1) = some .bk := n2 .bk (by show whenB (gK [] 9 k) .bk = some .bk; rw [show gK [] 9 k = false from e]; rfl)
      rw [e0]
      exact fbS [_] _ _ fun x h => by rw [List.mem_singleton.mp h]; exact p1
  rintro σ2 H3 ⟨f3, ⟨o7, o8, rfl⟩, al⟩
  have p2 : gSnd (gKind []) (.tuple ds1) = none := loop_good (g := sndK (gKind [])) (by rw [← lv1]; exact al)
  -- the letters alone
  have ht3 := (Fr.keep tb f3).2 _ _ ht1
  refine ⟨_, rfl, a1, rfl, ⟨_, ht3⟩, fun D hD => ?_⟩
  refine lc_tup (K := K) (a := a1) (xs := vs1) (fun j H4 => Same H3 H4 ∧ H4 D = some (.lst (((ds1.map nameD).take j).map V.str))) ⟨same_new hD _, upd_same⟩ (fun j H4 _ h => (Same.keep h.1) _ _ ht3) ?_ ?_
  · rintro j x H4 hx ⟨e4, h4⟩
    obtain ⟨a2, xk, y, k, rfl, hp2, hk, hd1, hn⟩ := pair_at ((Fr.keep tb f3).dpA hds1) al1' hx
    refine ⟨a2, _, rfl, (Same.keep e4) _ _ hp2, rfl, _, _, rfl, _, _, rfl, rfl, rfl, _, rfl, _, h4, ?_, fun b o hb => ?_, ?_⟩
    · rw [List.length_map]
      have := ok1.sub.1
      exact small1000 (Nat.le_trans (List.length_take_le' _ _) (by rw [List.length_map]; omega))
    · rw [upd_ne (ne_of_none hb hD)]
      exact e4 b o hb
    · rw [upd_same, List.take_add_one, hn, List.map_append]
      rfl
  rintro H4 ⟨e4, h4⟩
  rw [lv1, List.take_of_length_le (by rw [List.length_map]; exact Nat.le_refl _)] at h4
  refine ⟨D, _, rfl, .inl ⟨SqL.of h4, fun la hla => ?_⟩⟩
  have e5 := Same.trans e4 (same_new hla (.tup ((ds1.map nameD).map V.str)))
  have hla5 : SqT K (upd H4 la (.tup ((ds1.map nameD).map V.str))) la ((ds1.map nameD).map V.str) := SqT.of upd_same
  have f5 := f3.trans (Fr.same f3.tab e5)
  generalize (upd H4 la (.tup ((ds1.map nameD).map V.str))) = H5 at hla5 f5 ⊢
  have ell : leads (.tuple ds1) = ds1.map nameD := rfl
  rw [ell] at q1 q2
  generalize ds1.map nameD = own at q1 q2 hla5
  dsimp only [gName]
  -- the params
  refine ⟨_, rfl, v2, d2, fW, isWordD, rfl, (Fr.keep tb f5).dp g2, ok2, f5.tab, ⟨fdW, _, FW, kW, bW⟩, word_str, fun p3 H6 f6 => ?_, fun b e H6 f6 => q2 b (by
      rw [e]
      exact fbS [_, _] _ b fun x h => by
        rcases List.mem_cons.mp h with h | h
        · rw [h]; exact p1
        · rw [List.mem_singleton.mp h]; exact p2) H6 (f5.trans f6)⟩
  have f06 := f5.trans f6
  obtain ⟨ds2, rfl, al2, nd2⟩ := pairs_open word_str p3
  have al2' : ∀ d ∈ ds2, ∃ z k, d = .tuple [.str z, k] := fun d m => let ⟨z, k, e, _⟩ := al2 d m; ⟨z, k, e⟩
  cases g2 with
  | tup ht2 hds2 =>
  rename_i a2 vs2
  have lv2 := DpAll.len hds2
  have l60 := ok2.sub.1
  dsimp only [tNext, gName]
  refine ⟨_, rfl, a2, rfl, ⟨_, (Fr.keep tb f06).2 _ _ ht2⟩, ?_⟩
  refine for_tup (K := K) (a := a2) (xs := vs2) (fun j σ2 H7 => Fr T0 H H7 ∧ SqT K H7 la (own.map V.str) ∧ (∃ o7 o8 o10, σ2 = [some (.ref a), some (.ref fa), some (.str z), some (.ref a1), some (.ref a2), some v3, some v4, o7, o8, some (.ref la), o10, none, none, none]) ∧ ∀ i d, i < j → ds2[i]? = some d → sndK (gKind own) d = none) ⟨f06, (Fr.keep f5.tab f6).2 _ _ hla5, ⟨_, _, _, rfl⟩, fun i d h => absurd h (Nat.not_lt_zero _)⟩ (fun j σ2 H7 _ h => (Fr.keep tb h.1).2 _ _ ht2) ?_ ?_
  · rintro j x σ2 H7 hx ⟨f7, hla7, ⟨o7, o8, o10, rfl⟩, al⟩
    obtain ⟨b2, xk, y, k, rfl, hp2, hk, hd1, _⟩ := pair_at ((Fr.keep tb f7).dpA hds2) al2' hx
    obtain ⟨n1, n2⟩ := loop_bad (g := sndK (gKind own)) al hd1
    have okk := (ok2.sub.2 _ (List.mem_of_getElem? hd1)).sub.2 k (by simp)
    refine ⟨b2, _, rfl, hp2, rfl, _, _, rfl, _, _, rfl, rfl, ?_⟩
    dsimp only [gName]
    refine ⟨_, rfl, _, rfl, own, xk, k, la, rfl, hk, okk, f7.tab, hla7, fun e H8 f8 => ?_, fun e H8 f8 => ?_⟩
    · exact ⟨f7.trans f8, (Fr.keep f7.tab f8).2 _ _ hla7, ⟨_, _, _, rfl⟩, n1 (by show whenB (gK own 9 k) .bk = none; rw [show gK own 9 k = true from e]; rfl)⟩
    · refine q2 .bk ?_ H8 (f7.trans f8)
      have e0 : gSnd (gKind own) (.tuple ds2) = some .bk := n2 .bk (by show whenB (gK own 9 k) .bk = some .bk; rw [show gK own 9 k = false from e]; rfl)
      rw [e0]
      exact fbS [_, _, _] _ _ fun x h => by
        rcases List.mem_cons.mp h with h | h
        · rw [h]; exact p1
        rcases List.mem_cons.mp h with h | h
        · rw [h]; exact p2
        · rw [List.mem_singleton.mp h]; exact p3
  rintro σ2 H7 ⟨f7, hla7, ⟨o7, o8, o10, rfl⟩, al⟩
  have p4 : gSnd (gKind own) (.tuple ds2) = none := loop_good (g := sndK (gKind own)) (by rw [← lv2]; exact al)
  -- the result
  refine ⟨_, rfl, _, rfl, own, v3, d3, la, rfl, (Fr.keep tb f7).dp g3, ok3, f7.tab, hla7, fun e H8 f8 => ?_, fun e H8 f8 => ?_⟩
  rotate_left
  · refine q2 .bk ?_ H8 (f7.trans f8)
    have e0 : gKind own d3 = some .bk := by show whenB (gK own 9 d3) .bk = some .bk; rw [show gK own 9 d3 = false from e]; rfl
    rw [e0]
    exact fbS [_, _, _, _] _ _ fun x h => by
      rcases List.mem_cons.mp h with h | h
      · rw [h]; exact p1
      rcases List.mem_cons.mp h with h | h
      · rw [h]; exact p2
      rcases List.mem_cons.mp h with h | h
      · rw [h]; exact p3
      · rw [List.mem_singleton.mp h]; exact p4
  have p5 : gKind own d3 = none := by show whenB (gK own 9 d3) .bk = none; rw [show gK own 9 d3 = true from e]; rfl
  have f08 := f7.trans f8
  have ht8 := (Fr.keep tb f08).2 _ _ ht2
  have hla8 := (Fr.keep f7.tab f8).2 _ _ hla7
  dsimp only [tNext, gName]
  -- the names
  refine ⟨_, rfl, a2, rfl, ⟨_, ht8⟩, fun D hD => ?_⟩
  refine lc_tup (K := K) (a := a2) (xs := vs2) (fun j H9 => Same H8 H9 ∧ H9 D = some (.lst (((ds2.map nameD).take j).map V.str))) ⟨same_new hD _, upd_same⟩ (fun j H9 _ h => (Same.keep h.1) _ _ ht8) ?_ ?_
  · rintro j x H9 hx ⟨e9, h9⟩
    obtain ⟨b2, xk, y, k, rfl, hp2, hk, hd1, hn⟩ := pair_at ((Fr.keep tb f08).dpA hds2) al2' hx
    refine ⟨b2, _, rfl, (Same.keep e9) _ _ hp2, rfl, _, _, rfl, _, _, rfl, rfl, rfl, _, rfl, _, h9, ?_, fun b o hb => ?_, ?_⟩
    · rw [List.length_map]
      exact small1000 (Nat.le_trans (List.length_take_le' _ _) (by rw [List.length_map]; omega))
    · rw [upd_ne (ne_of_none hb hD)]
      exact e9 b o hb
    · rw [upd_same, List.take_add_one, hn, List.map_append]
      rfl
  rintro H9 ⟨e9, h9⟩
  rw [lv2, List.take_of_length_le (by rw [List.length_map]; exact Nat.le_refl _)] at h9
  refine ⟨D, _, rfl, .inl ⟨SqL.of h9, fun na hna => ?_⟩⟩
  have e10 := Same.trans e9 (same_new hna (.tup ((ds2.map nameD).map V.str)))
  have hna10 : SqT K (upd H9 na (.tup ((ds2.map nameD).map V.str))) na ((ds2.map nameD).map V.str) := SqT.of upd_same
  have f10 := f08.trans (Fr.same f08.tab e10)
  have hla10 := (Same.keep e10) _ _ hla8
  generalize (upd H9 na (.tup ((ds2.map nameD).map V.str))) = H10 at hna10 f10 hla10 ⊢
  have e11 : leads (.tuple ds2) = ds2.map nameD := rfl
  rw [e11] at q1 q2
  have lns : (ds2.map nameD).length ≤ 60 := by rw [List.length_map]; exact l60
  generalize ds2.map nameD = ns at q1 q2 hna10 lns
  dsimp only [gName]
  -- the body
  refine ⟨_, rfl, _, rfl, _, rfl, _, rfl, fun x dx' nx ndx nex => ?_⟩
  have s0 : Same H10 (upd (upd H10 dx' (.own x)) x (.ins C dx' [])) := fun b o e => by
    rw [upd_ne (ne_of_none e nx), upd_ne (ne_of_none e ndx)]
    exact e
  refine ⟨x, dx', la, fa, na, _, rfl, upd_same, fun H11 hx kp => ⟨rfl, ?_⟩⟩
  have s1 : Same H10 H11 := fun c o e => kp c o (s0 c o e) (ne_of_none e nx)
  have f11 := f10.trans (Fr.same f10.tab s1)
  refine ⟨v4, d4, x, ⟨own, fs, ns⟩, rfl, (Fr.keep tb f11).dp g4, ok4, f11.tab, ⟨⟨dx', la, fa, na, hx, (Same.keep s1) _ _ hla10, hf.keep tb f11, (Same.keep s1) _ _ hna10⟩⟩, ⟨hG, ?_⟩, fun e H12 f12 => q1 ?_ H12 (f11.trans f12), fun b e H12 f12 => q2 b ?_ H12 (f11.trans f12)⟩
  · show ns.length + 10 * 12 ≤ 2012
    omega
  · rw [p1, p2, p3, p4, p5, e]
    rfl
  · rw [p1, p2, p3, p4, p5, e]
    rfl
end
end Sc
namespace Sc
open PySem PyProof.Rows L2
theorem HeldX.imp {P : Program} {w : World} {K : PySem.W.Frag} {mg : Str → Option Value} {base : Heap} {k : Nat} {f : Addr} {sp sp' : Sp} (h : HeldX P w K mg base k f sp) (i : ∀ vs H Q E, sp' vs H Q E → sp vs H Q E) : HeldX P w K mg base k f sp' := by
  obtain ⟨fd, ps, a, b⟩ := h.ex
  exact ⟨fd, ps, a.imp i, b⟩
theorem CalX.imp {P : Program} {w : World} {K : PySem.W.Frag} {mg : Str → Option Value} {base : Heap} {k : Nat} {x : Str} {ps : List Str} {sp sp' : Sp} (h : CalX P w K mg base k x ps sp) (i : ∀ vs H Q E, sp' vs H Q E → sp vs H Q E) : CalX P w K mg base k x ps sp' := by
  obtain ⟨f, fd, a, b⟩ := h.ex
  exact ⟨f, fd, a.imp i, b⟩
def needTab : List (Str × Str) := [("whole", "_need_whole"), ("text", "_need_text"), ("known", "_need_known"), ("given", "_need_word"), ("field", "_need_word"), ("head", "_need_head"), ("kind", "_need_kind_here"), ("part", "_need_within"), ("last", "_need_within"),
  ("parts", "_need_parts"), ("fields", "_need_fields"), ("function", "_need_told_earlier"), ("kinds", "_need_kinds"), ("handed", "_need_handed")]
theorem slot_all {rec : Env0 → PyData → Option Wr} {E : Env0} {d : PyData} : gSlot rec E ("whole" : Str) d = gWhole d ∧ gSlot rec E ("text" : Str) d = gText d ∧ gSlot rec E ("known" : Str) d = gKnown E d ∧ gSlot rec E ("given" : Str) d = gWord d ∧ gSlot rec E ("field" : Str) d = gWord d ∧
    gSlot rec E ("head" : Str) d = gHead d ∧ gSlot rec E ("kind" : Str) d = gKind E.ls d ∧ gSlot rec E ("part" : Str) d = rec E d ∧ gSlot rec E ("last" : Str) d = rec E d ∧ gSlot rec E ("parts" : Str) d = gParts (rec E) d ∧ gSlot rec E ("fields" : Str) d = gFields (rec E) d := by
  refine ⟨?_, ?_, ?_, ?_, ?_, ?_, ?_, ?_, ?_, ?_, ?_⟩ <;> (unfold gSlot; repeat (first | rw [if_pos rfl] | rw [if_neg (by decide +kernel)]))
section
variable {P : Program} {w : World} {K : PySem.W.Frag} {mg : Str → Option Value} {base : Heap} {T0 : List Addr} {C FA NA : Addr} {cls : Wr → Addr}
theorem at_g {r : Int} {G : Env0 → PyData → Prop} {g g' : Env0 → PyData → Option Wr} (e : ∀ E d, g E d = g' E d) : ∀ vs H Q Ex, spAtG K T0 C cls r G g' vs H Q Ex → spAt K T0 C cls r g vs H Q Ex := fun vs H Q Ex ⟨v, d, p, E, h1, h2, h3, h4, h5, _, h6, h7⟩ =>
  ⟨v, d, p, E, h1, h2, h3, h4, h5, fun z => h6 (by rw [← e]; exact z), fun b z => h7 b (by rw [← e]; exact z)⟩
theorem gg_g {r : Int} {G G' : Env0 → PyData → Prop} {g g' : Env0 → PyData → Option Wr} (e : ∀ E d, g E d = g' E d) (i : ∀ E d, G' E d → G E d) : ∀ vs H Q Ex, spAtG K T0 C cls r G' g' vs H Q Ex → spAtG K T0 C cls r G g vs H Q Ex := fun vs H Q Ex ⟨v, d, p, E, h1, h2, h3, h4, h5, hG, h6, h7⟩ =>
  ⟨v, d, p, E, h1, h2, h3, h4, h5, i E d hG, fun z => h6 (by rw [← e]; exact z), fun b z => h7 b (by rw [← e]; exact z)⟩
/-- the needs' table, as the top has it -/
structure NT (K : PySem.W.Frag) (w : World) (mg : Str → Option Value) (NA : Addr) : Prop where
  g : mg "NEEDS" = some (.ref NA)
  at_ : ∀ q ∈ needTab, ∃ f, KDct K w NA q.1 (.ref f) ∧ mg q.2 = some (.ref f)
/-- what a part needs, at any depth -/
theorem c_parts (tOk : PyData → Prop) (T : Tx K mg) (R : Ers K mg cls) (L : PlC P w K mg base C) (F : FT K w mg FA) (N : NT K w mg NA) (m12 : ∃ t, mg "DEEPEST_BODY" = some (.int 12 t))
    (CW : Cal P w K mg base 2 "is_word" ["thing"] (spTest K T0 isWordD)) (CAF : Cal P w K mg base 1 "are_fields" ["thing"] (spTest K T0 fldD))
    (CN : CalX P w K mg base 31 "need_kind" ["kind", "letters"] (spNeed K T0 (cls .bk) [] (fun ls => gK ls 9)))
    (CT : ∀ r, CalX P w K mg base 3 "_need_text" ["told", "place"] (spAtG K T0 C cls r (fun _ d => tOk d) (fun _ => gText))) :
    ∀ n : Nat, CalX P w K mg base (4 * n + 36) "_need_part" ["part", "place"] (spAtG K T0 C cls (n : Int) (fun E d => txs tOk n d ∧ E.ns.length + 10 * n ≤ 2012) (gPart n)) := by
  have CF : CalX P w K mg base 1 "_form_of" ["part"] (spForm K T0 cls) := c_form_of T R F
  have CA : CalX P w K mg base 1 "_need_all_handed" ["part", "function"] (spAll K T0 cls) := c_need_all T R
  intro n
  induction n with
  | zero => exact (c_need_part (n := 0) (lv := 2) tOk T R L N.g m12 (by omega) CF CA fun m h => by cases h).mono (by omega)
  | succ m ih =>
    have wd : ∀ r, CalX P w K mg base 3 "_need_word" ["told", "place"] (spAt K T0 C cls r fun _ => gWord) := fun r => c_need_word T R CW
    have cin := (c_need_in (n := m) T L (by omega) ih)
    have chd := c_need_handed T R cin
    have cpt := c_need_parts T R chd
    have cfd := c_need_fields2 T R (by omega) CAF (wd _) cin
    refine (c_need_part (n := m + 1) (lv := 4 * m + 39) tOk T R L N.g m12 (by omega) CF CA fun m' h s hs => ?_).mono (by omega)
    obtain rfl : m = m' := Nat.succ.inj h
    have fnd : ∀ x : Str, (s, x) ∈ needTab → ∃ f, KDct K w NA s (.ref f) ∧ mg x = some (.ref f) := fun x hx => N.at_ (s, x) hx
    have sa : ∀ {E : Env0} {d : PyData}, _ := fun {E d} => slot_all (rec := gPart m) (E := E) (d := d)
    have hs' : s = "whole" ∨ s = "text" ∨ s = "known" ∨ s = "given" ∨ s = "field" ∨ s = "head" ∨ s = "kind" ∨ s = "part" ∨ s = "last" ∨ s = "parts" ∨ s = "fields" ∨ s = "function" ∨ s = "kinds" ∨ s = "handed" := by
      simpa [slotNames] using hs
    rcases hs' with rfl | rfl | rfl | rfl | rfl | rfl | rfl | rfl | rfl | rfl | rfl | rfl | rfl | rfl
    · obtain ⟨f, k, e⟩ := fnd "_need_whole" (by decide +kernel)
      exact ⟨f, k, (((c_need_whole T R).held e).mono (by omega)).imp (at_g fun E d => sa.1.symm)⟩
    · obtain ⟨f, k, e⟩ := fnd "_need_text" (by decide +kernel)
      exact ⟨f, k, (((CT _).held e).mono (by omega)).imp (gg_g (fun E d => sa.2.1.symm) fun E d h => h.1.1 rfl)⟩
    · obtain ⟨f, k, e⟩ := fnd "_need_known" (by decide +kernel)
      exact ⟨f, k, (((c_need_known T R L (wd _)).held e).mono (by omega)).imp (at_g fun E d => sa.2.2.1.symm)⟩
    · obtain ⟨f, k, e⟩ := fnd "_need_word" (by decide +kernel)
      exact ⟨f, k, (((wd _).held e).mono (by omega)).imp (at_g fun E d => sa.2.2.2.1.symm)⟩
    · obtain ⟨f, k, e⟩ := fnd "_need_word" (by decide +kernel)
      exact ⟨f, k, (((wd _).held e).mono (by omega)).imp (at_g fun E d => sa.2.2.2.2.1.symm)⟩
    · obtain ⟨f, k, e⟩ := fnd "_need_head" (by decide +kernel)
      exact ⟨f, k, (((c_need_head T R).held e).mono (by omega)).imp (at_g fun E d => sa.2.2.2.2.2.1.symm)⟩
    · obtain ⟨f, k, e⟩ := fnd "_need_kind_here" (by decide +kernel)
      exact ⟨f, k, (((c_need_kind_here T L CN).held e).mono (by omega)).imp (at_g fun E d => sa.2.2.2.2.2.2.1.symm)⟩
    · obtain ⟨f, k, e⟩ := fnd "_need_within" (by decide +kernel)
      exact ⟨f, k, ((cin.held e).mono (by omega)).imp (gg_g (fun E d => sa.2.2.2.2.2.2.2.1.symm) fun E d h => ⟨h.1.2.1 (.inl rfl), by have := h.2; omega⟩)⟩
    · obtain ⟨f, k, e⟩ := fnd "_need_within" (by decide +kernel)
      exact ⟨f, k, ((cin.held e).mono (by omega)).imp (gg_g (fun E d => sa.2.2.2.2.2.2.2.2.1.symm) fun E d h => ⟨h.1.2.1 (.inr rfl), by have := h.2; omega⟩)⟩
    · obtain ⟨f, k, e⟩ := fnd "_need_parts" (by decide +kernel)
      exact ⟨f, k, ((cpt.held e).mono (by omega)).imp (gg_g (fun E d => sa.2.2.2.2.2.2.2.2.2.1.symm) fun E d h ds q x mx => ⟨(h.1.2.2 ds q).1 (.inl rfl) x mx, by have := h.2; omega⟩)⟩
    · obtain ⟨f, k, e⟩ := fnd "_need_fields" (by decide +kernel)
      exact ⟨f, k, ((cfd.held e).mono (by omega)).imp (gg_g (fun E d => sa.2.2.2.2.2.2.2.2.2.2.symm) fun E d h ds q x y mx => ⟨(h.1.2.2 ds q).2 rfl x y mx, by have := h.2; omega⟩)⟩
    · obtain ⟨f, k, e⟩ := fnd "_need_told_earlier" (by decide +kernel)
      exact ⟨f, k, (((c_need_told T R L (wd _)).held e).mono (by omega)).imp (at_g fun E d => slot_function.symm)⟩
    · obtain ⟨f, k, e⟩ := fnd "_need_kinds" (by decide +kernel)
      exact ⟨f, k, (((c_need_kinds T R L CN).held e).mono (by omega)).imp (at_g fun E d => slot_kinds.symm)⟩
    · obtain ⟨f, k, e⟩ := fnd "_need_handed" (by decide +kernel)
      exact ⟨f, k, ((chd.held e).mono (by omega)).imp (gg_g (fun E d => slot_handed.symm) fun E d h ds q x mx => ⟨(h.1.2.2 ds q).1 (.inr rfl) x mx, by have := h.2; omega⟩)⟩
end
end Sc
namespace Sc
open PySem PyProof.Rows L2
def fnOf3 : PyData → Str × Nat × Nat
  | .tuple [.str z, .tuple ls, .tuple ps, _, _] => (z, ls.length, ps.length)
  | _ => (Str.empty, 0, 0)
def gProg : List (Str × Nat × Nat) → List PyData → Option Wr
  | _, [] => none
  | fs, .tuple [d0, d1, d2, d3, d4] :: r => match gFn fs d0 d1 d2 d3 d4 with
    | some b => some b
    | none => gProg (fs ++ [fnOf3 (.tuple [d0, d1, d2, d3, d4])]) r
  | _, _ :: _ => some .bp
def is5 (tOk : PyData → Prop) (d : PyData) : Prop := ∃ d0 d1 d2 d3 d4, d = .tuple [d0, d1, d2, d3, d4] ∧ txs tOk 12 d4
theorem gFn_open {fs : List (Str × Nat × Nat)} {d0 d1 d2 d3 d4 : PyData} (h : gFn fs d0 d1 d2 d3 d4 = none) : ∃ z ls ps, d0 = .str z ∧ d1 = .tuple ls ∧ d2 = .tuple ps ∧ ¬ z ∈ fs.map (·.1) := by
  have h0 := h
  unfold gFn at h
  cases hw : gWord d0 with
  | some b => rw [hw] at h; cases h
  | none =>
    obtain ⟨z, rfl, _⟩ := gWord_none hw
    rw [hw] at h
    have h : (if (formTab.lookup z).isSome then some Wr.bp else if z ∈ fs.map (·.1) then some .tt else
        firstBad [gPairs isLettD d1, gSnd (gKind []) d1, gPairs isWordD d2, gSnd (gKind (leads d1)) d2, gKind (leads d1) d3, gPart 12 ⟨leads d1, fs, leads d2⟩ d4]) = none := h
    split at h
    · cases h
    split at h
    · cases h
    · rename_i hz
      have al := fb_none.mp h
      obtain ⟨ls, rfl, _⟩ := pairs_open lett_str (al (gPairs isLettD d1) (by simp))
      obtain ⟨ps, rfl, _⟩ := pairs_open word_str (al (gPairs isWordD d2) (by simp))
      exact ⟨z, ls, ps, rfl, rfl, rfl, hz⟩
theorem put_new {kvs : List (Key × V)} {k : Key} {v : V} (h : ∀ q ∈ kvs, q.1 ≠ k) : putK kvs k v = kvs ++ [(k, v)] := by
  unfold putK
  rw [if_neg]
  intro z
  obtain ⟨q, hq, e⟩ := List.any_eq_true.mp z
  exact h q hq (of_decide_eq_true e)
section
variable {P : Program} {w : World} {K : PySem.W.Frag} {mg : Str → Option Value} {base : Heap} {T0 : List Addr} {C FA NA : Addr} {cls : Wr → Addr}
def spProg (K : PySem.W.Frag) (T : List Addr) (cls : Wr → Addr) (tOk : PyData → Prop) : Sp := fun vs H Q Ex => ∃ (l : Addr) (us : List V) (ds : List PyData), vs = [.ref l] ∧ SqL K H l us ∧ DpAll K H us ds ∧ ds.length ≤ 12 ∧ (∀ d ∈ ds, okD d ∧ is5 tOk d) ∧ Tb T H ∧
  (gProg [] ds = none → ∀ (b : Addr) (H' : Hp) (kvs : List (Key × V)), Fr T H H' → H' b = some (.dK kvs) → kvs.map (·.1) = ds.map (fun d => (Sum.inr (fnOf3 d).1 : Key)) → kvs.map (·.2) = us → Q (.ref b) H') ∧ (∀ e, gProg [] ds = some e → ∀ H', Fr T H H' → Ex (.ref (cls e)) none H')
theorem gProg_step {tOk : PyData → Prop} : ∀ {ds : List PyData} {fs : List (Str × Nat × Nat)} {j : Nat}, (∀ d ∈ ds, is5 tOk d) → (∀ i d0 d1 d2 d3 d4, i < j → ds[i]? = some (.tuple [d0, d1, d2, d3, d4]) → gFn (fs ++ (ds.take i).map fnOf3) d0 d1 d2 d3 d4 = none) →
    gProg fs ds = gProg (fs ++ (ds.take j).map fnOf3) (ds.drop j)
  | [], fs, j, _, _ => by simp
  | d :: ds, fs, 0, _, _ => by simp
  | d :: ds, fs, j + 1, h5, h => by
    obtain ⟨d0, d1, d2, d3, d4, rfl, _⟩ := h5 d List.mem_cons_self
    have e := h 0 d0 d1 d2 d3 d4 (Nat.succ_pos _) rfl
    rw [List.take_zero, List.map_nil, List.append_nil] at e
    have ih := gProg_step (ds := ds) (fs := fs ++ [fnOf3 (.tuple [d0, d1, d2, d3, d4])]) (j := j) (fun d m => h5 d (List.mem_cons_of_mem _ m)) fun i e0 e1 e2 e3 e4 hi hd => by
      have := h (i + 1) e0 e1 e2 e3 e4 (Nat.succ_lt_succ hi) hd
      rw [List.take_succ_cons, List.map_cons] at this
      rw [List.append_assoc]
      exact this
    show (match gFn fs d0 d1 d2 d3 d4 with | some b => some b | none => gProg (fs ++ [fnOf3 (.tuple [d0, d1, d2, d3, d4])]) ds) = _
    rw [e]
    show gProg (fs ++ [fnOf3 (.tuple [d0, d1, d2, d3, d4])]) ds = _
    rw [ih, List.append_assoc]
    rfl
theorem scProg : FnScope ["program", "functions", "function"] ["program"] (defScope sNeedProgram) := ⟨rfl, rfl, rfl, by decide +kernel, rfl, by decide +kernel, by decide +kernel⟩
theorem c_need_program (tOk : PyData → Prop) {lv : Nat} (T : Tx K mg) (R : Ers K mg cls) (m12 : ∃ t, mg "MOST_FUNCTIONS" = some (.int 12 t)) (CF : CalX P w K mg base lv "_need_function" ["function", "earlier"] (spFn K T0 cls tOk)) : CalX P w K mg base (lv + 1) "need_program" ["program"] (spProg K T0 cls tOk) := by
  obtain ⟨t12, m12⟩ := m12
  refine T.need_program.okX scProg (fun vs H Q E h => ?_) (fun f cdv A outer s H vs Q Ex hr h => ?_)
  · obtain ⟨l, us, ds, rfl, _⟩ := h
    rfl
  obtain ⟨l, us, ds, rfl, hl, hds, l12, h5, tb, q1, q2⟩ := h
  have hu1 : (A.deeper (envOfC "need_program" (defScope sNeedProgram) s.heap.objs.size f cdv)).units + 1 < cLine := by have := hr.un; omega
  refine ⟨_, pss_cons (ps_if (PW.pt (pw_or (pt_not (pt_val (pe_callB call_isi (by rfl) T.m_isinstance boot_isinstance (pa_cons (pv 0) (pa_cons (pe_bltn (v := .ty "list") (by rfl) T.m_list boot_list rfl) pa_nil)))))
        (pw_or1 (pt_cmpR op_gt (pe_callB call_len_seq (by rfl) T.m_len PySem.boot_len (pa_cons (pv 0) pa_nil)) (pe_glob (v := .int 12) (by rfl) m12 ⟨_, rfl⟩) (nomark _)))))
      (pss_one (ps_raise rfl (takes_of rfl rfl rfl rfl) (SkE.pmk_own1 PySem.F.excBase_ValueError R.bp.q R.bp.g R.bp.k (raises_own R.bp.b R.bp.t) (by exact rfl) (pe_fs (.cons pe_str (.cons (pe_fmt (pe_glob (v := .int 12) (by rfl) m12 ⟨_, rfl⟩)) (.cons pe_str .nil))))))) pss_nil)
    (pss_cons (ps_set (i := 1) scProg.nd rfl (Or.inl rfl) pe_dnewK)
    (pss_cons (ps_for (passes_of rfl) rfl (pi_list (pv 0)) (pg_name (i := 2) scProg.nd rfl (Or.inl rfl))
      (pss_cons (ps_expr (pe_calX CF hr (passes_call (takes_of rfl rfl rfl rfl) (fun _ _ _ _ h => h)) (pa_cons (pv 2) (pa_cons (pv 1) pa_nil))))
      (pss_one (ps_dput hu1 (pv 1) (pe_ix ix_tup (pv 2) pe_int (fun _ _ => rfl)) (pv 2) rfl))))
    (pss_one (ps_ret (pv 1))))), ?_⟩
  have lu := DpAll.len hds
  have dpl : Dp K H (.ref l) (.list ds) := .lst hl hds
  show tOr _ _ _ _ _
  refine or_pure false (decide (((us.length : Nat) : Int) > 12)) (fun R1 h => ⟨_, rfl, _, _, _, _, true, rfl, .ty _, Dp.ty dpl, kit_ty (by show kitB "list" "list" = some true; decide +kernel), _, rfl, h⟩) (fun _ R1 h => ⟨_, rfl, l, us, rfl, .inl hl, _, _, rfl, rfl, _, rfl, h⟩) (fun h => ?_) (fun _ _ => iteF ?_)
  · exact absurd (of_decide_eq_true (h.elim (fun z => by cases z) id)) (by omega)
  dsimp only [tNext, gName]
  refine fun b hb => ?_
  have e1 := same_new hb (.dK [])
  have f1 : Fr T0 H (upd H b (.dK [])) := Fr.same tb e1
  have hb1 : (upd H b (.dK [])) b = some (.dK []) := upd_same
  generalize (upd H b (.dK [])) = H1 at e1 f1 hb1 ⊢
  dsimp only [gName]
  refine ⟨_, rfl, l, rfl, ⟨_, (Fr.keep tb f1).1 _ _ hl⟩, ?_⟩
  refine for_list (K := K) (a := l) (xs := us) (fun j σ2 H2 => Fr T0 H H2 ∧ (∃ o, σ2 = [some (.ref l), some (.ref b), o]) ∧ (∃ kvs, H2 b = some (.dK kvs) ∧ kvs.map (·.1) = (ds.take j).map (fun d => (Sum.inr (fnOf3 d).1 : Key)) ∧ kvs.map (·.2) = us.take j) ∧ (((ds.take j).map fnOf3).map (·.1)).Nodup ∧
      ∀ i d0 d1 d2 d3 d4, i < j → ds[i]? = some (.tuple [d0, d1, d2, d3, d4]) → gFn ([] ++ (ds.take i).map fnOf3) d0 d1 d2 d3 d4 = none) ⟨f1, ⟨_, rfl⟩, ⟨[], hb1, rfl, rfl⟩, List.nodup_nil, fun i _ _ _ _ _ h => absurd h (Nat.not_lt_zero _)⟩ (fun j σ2 H2 _ h => (Fr.keep tb h.1).1 _ _ hl) ?_ ?_
  · rintro j x σ2 H2 hx ⟨f2, ⟨o, rfl⟩, ⟨kvs, hk, k1, k2⟩, nd, al⟩
    obtain ⟨d, hd1, hd2⟩ := DpAll.get hds hx
    obtain ⟨okd, d0, d1, d2, d3, d4, rfl, tx⟩ := h5 d (List.mem_of_getElem? hd1)
    have jl := (List.getElem?_eq_some_iff.mp hd1).1
    have kl : kvs.length = j := by
      have := congrArg List.length k2
      rw [List.length_map, List.length_take] at this
      omega
    have hfn : FnsAt K H2 b ((ds.take j).map fnOf3) := by
      refine ⟨kvs, hk, by rw [k1, List.map_map]; rfl, nd, fun i k v z nl np a1 a2 => ?_⟩
      have il : i < j := by have := (List.getElem?_eq_some_iff.mp a1).1; omega
      have b1 : (us.take j)[i]? = some v := by rw [← k2, List.getElem?_map, a1]; rfl
      rw [List.getElem?_take_of_lt il] at b1
      rw [List.getElem?_map, List.getElem?_take_of_lt il] at a2
      obtain ⟨d', c1, c2⟩ := Option.map_eq_some_iff.mp a2
      obtain ⟨d'', c3, c4⟩ := DpAll.get hds b1
      rw [c1] at c3
      cases c3
      obtain ⟨_, e0, e1, e2, e3, e4, rfl, _⟩ := h5 d' (List.mem_of_getElem? c1)
      obtain ⟨z', ls, ps, rfl, rfl, rfl, _⟩ := gFn_open (al i _ _ _ _ _ il c1)
      have c2' : (z', ls.length, ps.length) = (z, nl, np) := c2
      injection c2' with g1 g2
      injection g2 with g2 g3
      exact ⟨_, ls, ps, _, _, (Fr.keep tb f2).dp c4, g2, g3⟩
    have step := gProg_step (tOk := tOk) (fs := []) (j := j) (fun d m => (h5 d m).2) al
    have dr : ds.drop j = .tuple [d0, d1, d2, d3, d4] :: ds.drop (j + 1) := by
      rw [List.drop_eq_getElem_cons jl]
      congr 1
      exact (List.getElem?_eq_some_iff.mp hd1).2
    rw [dr, List.nil_append] at step
    have step : gProg [] ds = (match gFn ((ds.take j).map fnOf3) d0 d1 d2 d3 d4 with | some b => some b | none => gProg ((ds.take j).map fnOf3 ++ [fnOf3 (.tuple [d0, d1, d2, d3, d4])]) (ds.drop (j + 1))) := step
    dsimp only [gName]
    refine ⟨_, rfl, _, rfl, x, b, (ds.take j).map fnOf3, d0, d1, d2, d3, d4, rfl, (Fr.keep tb f2).dp hd2, okd, f2.tab, hfn, tx, fun e H3 f3 => ?_, fun bb e H3 f3 => q2 bb (by rw [step, e]) H3 (f2.trans f3)⟩
    obtain ⟨z, ls, ps, rfl, rfl, rfl, hz⟩ := gFn_open e
    have f23 := f2.trans f3
    have hk3 : H3 b = some (.dK kvs) := f3.old _ _ hk fun y => by
      obtain ⟨ps, g, _⟩ := f2.tab b y
      rw [hk] at g
      cases g
    obtain ⟨a, vs, x0, rfl, ha, hx0, hd0⟩ := tup_get (j := 0) ((Fr.keep tb f23).dp hd2) rfl
    cases hd0
    refine ⟨_, rfl, _, rfl, _, rfl, a, vs, 0, _, rfl, rfl, ha, at_of (j := 0) rfl hx0, b, _, rfl, DPut.k (k := Sum.inr z) hk3 (small1000 (by omega)), ?_⟩
    have new : putK kvs (Sum.inr z) (.ref a) = kvs ++ [(Sum.inr z, .ref a)] := put_new fun q hq e => hz (by
      have m : (Sum.inr z : Key) ∈ kvs.map (·.1) := List.mem_map.mpr ⟨q, hq, e⟩
      rw [k1] at m
      obtain ⟨d, hd, e2⟩ := List.mem_map.mp m
      have e3 : (fnOf3 d).1 = z := Sum.inr.inj e2
      exact List.mem_map.mpr ⟨fnOf3 d, List.mem_map.mpr ⟨d, hd, rfl⟩, e3⟩)
    rw [new]
    refine ⟨⟨fun c o hc nc => ?_, fun P' hP' => ?_⟩, ⟨_, rfl⟩, ⟨_, upd_same, ?_, ?_⟩, ?_, ?_⟩
    · rw [upd_ne (ne_of_none hc hb)]
      exact f23.old c o hc nc
    · obtain ⟨ps', g, gg⟩ := f3.tab P' hP'
      exact ⟨ps', by rw [upd_ne (fun y => by rw [y, hk3] at g; cases g)]; exact g, gg⟩
    · rw [List.map_append, k1, List.take_add_one, hd1, List.map_append]
      rfl
    · rw [List.map_append, k2, List.take_add_one, hx]
      rfl
    · rw [List.take_add_one, hd1, List.map_append, List.map_append]
      refine List.nodup_append.mpr ⟨nd, List.nodup_cons.mpr ⟨by simp, List.nodup_nil⟩, fun y hy y2 hy2 e9 => ?_⟩
      have e8 : y2 = z := List.mem_singleton.mp hy2
      exact hz (by rw [← e8, ← e9]; exact hy)
    · intro i e0 e1 e2 e3 e4 hi he
      rcases Nat.lt_succ_iff_lt_or_eq.mp hi with y | y
      · exact al i e0 e1 e2 e3 e4 y he
      · subst y
        rw [hd1] at he
        cases he
        rw [List.nil_append]
        exact e
  · rintro σ2 H2 ⟨f2, ⟨o, rfl⟩, ⟨kvs, hk, k1, k2⟩, nd, al⟩
    have ld : us.length = ds.length := lu
    rw [ld, List.take_of_length_le (Nat.le_refl _)] at k1
    rw [List.take_of_length_le (Nat.le_refl _)] at k2
    have step := gProg_step (tOk := tOk) (fs := []) (j := ds.length) (fun d m => (h5 d m).2) (by rw [← ld]; exact al)
    rw [List.drop_of_length_le (Nat.le_refl _)] at step
    exact ⟨_, rfl, q1 (by rw [step]; rfl) b H2 kvs f2 hk k1 k2⟩
end
end Sc
namespace Sc
open PySem PyProof.Rows L2
theorem DefT.okX {P : Program} {w : World} {K : PySem.W.Frag} {mg : Str → Option Value} {base : Heap} {x : Str} {st : Stmt} {N ps : List Str} {c : Addr} {k : Nat} {sp : Sp} (D : DefT K mg x st ps c) (S : FnScope N ps (defScope st)) (len : ∀ vs H Q E, sp vs H Q E → vs.length = ps.length)
    (body : ∀ (f : Addr) (A : Around) (outer : List Env) (s : Shared) (H : Hp) (vs : List V) (Q : VK) (E : XK), Room k (A.deeper (envOfC x (defScope st) s.heap.objs.size f (.ref c))) → sp vs H Q E →
      ∃ t, PSs (cxOf (L2.CX P w) P w K mg base N x (defScope st) f (.ref c) A outer s H E) (defBody st) t ∧ t { nx := fun _ H' => Q .non H', rt := Q } (start N vs) H) : CalX P w K mg base (k + 1) x ps sp := by
  obtain ⟨f, fd, oc, od, kV, doc, pm, an, ct, osl, rfl, lk, hcd, kp, m, b⟩ := D.ex
  exact ⟨f, _, fn_of lk hcd S len fun A outer s H vs Q E hr hsp => body f A outer s H vs Q E hr hsp, m, kp, b⟩
section
variable {P : Program} {w : World} {K : PySem.W.Frag} {mg : Str → Option Value} {base : Heap} {T0 : List Addr} {C : Addr} {cls : Wr → Addr} {r : Int}
theorem scNeedText : FnScope ["told", "place"] ["told", "place"] (defScope sPNeedText) := ⟨rfl, rfl, rfl, by decide +kernel, rfl, by decide +kernel, by decide +kernel⟩
theorem c_need_text {c Pa : Addr} (T : Tx K mg) (R : Ers K mg cls) (D : DefT K mg "_need_text" sPNeedText ["told", "place"] c) (TB : GxR.TabB base mg c Pa) (hP : Pa ∈ T0) (hbar : ∃ t, mg "BARRED_SIGN" = some (.int 37 t)) :
    CalX P w K mg base 2 "_need_text" ["told", "place"] (spAt K T0 C cls r fun _ => gText) := by
  obtain ⟨tk, hbar⟩ := hbar
  refine D.okX scNeedText (fun vs H Q E h => ?_) (fun f A outer s H vs Q Ex hr h => ?_)
  · obtain ⟨v, d, p, E, rfl, _⟩ := h
    rfl
  obtain ⟨v, d, p, E, rfl, hd, ok, tb, hp, q1, q2⟩ := h
  dsimp only at q1 q2
  refine ⟨_, pss_cons (ps_if (PW.pt (pw_or (pt_not (pt_val (pe_callB call_isi (by rfl) T.m_isinstance boot_isinstance (pa_cons (pv 0) (pa_cons (pe_bltn (v := .ty "str") (by rfl) T.m_str boot_str rfl) pa_nil)))))
        (pw_or1 (pt_not (pt_val (GxR.pe_allS hr (by rfl) T.m_all (by decide +kernel) TB (by rfl) (gen_by (by decide +kernel)) (pv 0) (elt_between (a := 32) (b := 126) (by rfl) (by rfl)) (fun _ => rfl)))))))
      (pss_one (ps_raise rfl (takes_of rfl rfl rfl rfl) (pmk_own PySem.F.excBase_ValueError R.bp.q R.bp.g R.bp.k (raises_own R.bp.b R.bp.t) (by exact rfl)))) pss_nil)
    (pss_one (ps_if (pt_val (pe_anyM hr (by rfl) T.m_any TB (by rfl) (gen_by (by decide +kernel)) (pv 0) (elt_ord (n := 37) (by rfl) (by rfl) (by rfl) (by rfl) T.m_ord hbar) (fun _ => rfl)))
      (pss_one (ps_raise rfl (takes_of rfl rfl rfl rfl) (pmk_own PySem.F.excBase_ValueError R.bp.q R.bp.g R.bp.k (raises_own R.bp.b R.bp.t) (by exact rfl)))) pss_nil)), ?_⟩
  have neg : gText d = some .bp → ∀ H', Fr T0 H H' → Ex (.ref (cls .bp)) none H' := fun e => q2 .bp e
  have ty := Dp.ty hd
  have is := isStr hd
  show tOr _ _ _ _ _
  cases hd with
  | str z =>
    refine ⟨_, rfl, _, _, _, _, _, rfl, .ty _, ty, kit_ty is, _, rfl, ?_⟩
    refine iteF ?_
    obtain ⟨ps, g, tr⟩ := tb Pa hP
    refine ⟨_, rfl, z, rfl, ⟨ps, g, tr⟩, fun H2 t2 => ?_⟩
    have f2 := Fr.tabbed tb t2 hP
    have G : gText (.str z) = whenB ((z.cps.toList.all fun c => decide (32 ≤ c) && decide (c ≤ 126)) && !(z.cps.toList.any fun c => c == 37)) .bp := rfl
    refine ⟨_, rfl, ?_⟩
    cases h1 : (z.cps.toList.all fun c => decide (32 ≤ c) && decide (c ≤ 126)) with
    | false => exact iteT (neg (by rw [G, h1]; rfl) H2 f2)
    | true =>
      refine iteF ?_
      obtain ⟨ps2, g2, tr2⟩ := f2.tab Pa hP
      refine ⟨_, rfl, z, rfl, ⟨ps2, g2, tr2⟩, fun H3 t3 => ?_⟩
      have f3 := f2.trans (Fr.tabbed f2.tab t3 hP)
      refine ⟨_, rfl, ?_⟩
      have e9 : (z.cps.toList.any fun c => ((c : Nat) : Int) == 37) = z.cps.toList.any fun c => c == 37 := by
        congr 1
        funext c
        rw [Bool.eq_iff_iff, beq_iff_eq, beq_iff_eq]
        omega
      rw [e9]
      cases h2 : (z.cps.toList.any fun c => c == 37) with
      | true => exact iteT (neg (by rw [G, h1, h2]; rfl) H3 f3)
      | false => exact iteF (q1 (by rw [G, h1, h2]; rfl) H3 f3)
  | non => exact ⟨_, rfl, _, _, _, _, _, rfl, .ty _, ty, kit_ty is, _, rfl, iteT (iteT (neg rfl H (Fr.refl tb)))⟩
  | bl _ => exact ⟨_, rfl, _, _, _, _, _, rfl, .ty _, ty, kit_ty is, _, rfl, iteT (iteT (neg rfl H (Fr.refl tb)))⟩
  | int _ => exact ⟨_, rfl, _, _, _, _, _, rfl, .ty _, ty, kit_ty is, _, rfl, iteT (iteT (neg rfl H (Fr.refl tb)))⟩
  | lst _ _ => exact ⟨_, rfl, _, _, _, _, _, rfl, .ty _, ty, kit_ty is, _, rfl, iteT (iteT (neg rfl H (Fr.refl tb)))⟩
  | tup _ _ => exact ⟨_, rfl, _, _, _, _, _, rfl, .ty _, ty, kit_ty is, _, rfl, iteT (iteT (neg rfl H (Fr.refl tb)))⟩
end
end Sc
namespace Sc
open PySem PySem.Spec PyProof.Rows L2
/-! ### t + u, whichever it is -/
def rCatW (K : PySem.W.Frag) : R2 := fun x y H Q => ∃ a b xs ys, x = .ref a ∧ y = .ref b ∧ SqT K H a xs ∧ SqT K H b ys ∧ xs.length + ys.length ≤ sizeLine ∧ ∀ (p : Addr) (H' : Hp), Same H H' → SqT K H' p (xs ++ ys) → Q (.ref p) H'
theorem op_catW {X : Cx} : OpR X (binaryOp .Add) (rCatW X.K) := by
  intro pins s σ H x y v u Q I rx ry h
  obtain ⟨a, b, xs, ys, rfl, rfl, ha, hb, hz, q⟩ := h
  exact op_catA pins s σ H _ _ v u Q I rx ry ⟨a, b, xs, ys, rfl, rfl, ha, hb, hz, fun e => q b H (Same.refl _) (by rw [e]; exact hb), fun _ e => q a H (Same.refl _) (by rw [e, List.append_nil]; exact ha), fun _ _ p hp => q p _ (same_new hp _) (SqT.of upd_same)⟩
/-! ### parts, reckoned -/
theorem formOf_eq {w : Str} {fm : List Str} {ts : List PyData} (hl : formTab.lookup w = some fm) (len : ts.length = fm.length) : formOf (.tuple (.str w :: ts)) = some (w, fm, ts) := by
  show (match formTab.lookup w with
    | some fm => if ts.length = fm.length then some (w, fm, ts) else none
    | none => none) = _
  rw [hl]
  exact if_pos len
theorem gPart_eq {n : Nat} {E : Env0} {w : Str} {fm : List Str} {ts : List PyData} (hl : formTab.lookup w = some fm) (len : ts.length = fm.length) :
    gPart (n + 1) E (.tuple (.str w :: ts)) = (match firstBad ((fm.zip ts).map fun p => gSlot (gPart n) (if p.1 = ("last" : Str) then { E with ns := E.ns ++ strsD (givens fm ts) } else E) p.1 p.2) with
      | some b => some b
      | none => if (strsD (givens fm ts)).Nodup then (if w = ("call" : Str) then whenB (callOk E ts) .bp else none) else some .tt) := by
  show (match formOf (.tuple (.str w :: ts)) with
    | none => some Wr.bp
    | some (w, fm, ts) => _) = _
  rw [formOf_eq hl len] <;> rfl
theorem gPart_one {n : Nat} {E : Env0} {w s : Str} {t : PyData} (hl : formTab.lookup w = some [s]) (sl : s ≠ "last") (sg : (s == ("given" : Str)) = false) (nc : w ≠ "call") : gPart (n + 1) E (.tuple [.str w, t]) = gSlot (gPart n) E s t := by
  rw [gPart_eq hl rfl]
  have e : givens [s] [t] = [] := by
    unfold givens
    rw [show ([s].zip [t]) = [(s, t)] from rfl, List.filter_cons_of_neg (by show ¬ (s == ("given" : Str)) = true; rw [sg]; exact Bool.false_ne_true)]
    rfl
  rw [e]
  show (match firstBad [gSlot (gPart n) (if s = ("last" : Str) then _ else E) s t] with
    | some b => some b
    | none => if (strsD []).Nodup then (if w = ("call" : Str) then whenB (callOk E [t]) .bp else none) else some .tt) = _
  rw [if_neg sl, if_neg nc, if_pos (show (strsD []).Nodup from List.nodup_nil)]
  cases gSlot (gPart n) E s t <;> rfl
theorem slot_whole {rec : Env0 → PyData → Option Wr} {E : Env0} {d : PyData} : gSlot rec E ("whole" : Str) d = gWhole d := slot_all.1
theorem slot_kind {rec : Env0 → PyData → Option Wr} {E : Env0} {d : PyData} : gSlot rec E ("kind" : Str) d = gKind E.ls d := slot_all.2.2.2.2.2.2.1
theorem slot_part {rec : Env0 → PyData → Option Wr} {E : Env0} {d : PyData} : gSlot rec E ("part" : Str) d = rec E d := slot_all.2.2.2.2.2.2.2.1
theorem slot_last {rec : Env0 → PyData → Option Wr} {E : Env0} {d : PyData} : gSlot rec E ("last" : Str) d = rec E d := slot_all.2.2.2.2.2.2.2.2.1
theorem slot_parts {rec : Env0 → PyData → Option Wr} {E : Env0} {d : PyData} : gSlot rec E ("parts" : Str) d = gParts (rec E) d := slot_all.2.2.2.2.2.2.2.2.2.1
theorem slot_given {rec : Env0 → PyData → Option Wr} {E : Env0} {d : PyData} : gSlot rec E ("given" : Str) d = gWord d := slot_all.2.2.2.1
theorem slot_known {rec : Env0 → PyData → Option Wr} {E : Env0} {d : PyData} : gSlot rec E ("known" : Str) d = gKnown E d := slot_all.2.2.1
theorem slot_field {rec : Env0 → PyData → Option Wr} {E : Env0} {d : PyData} : gSlot rec E ("field" : Str) d = gWord d := slot_all.2.2.2.2.1
theorem slot_head {rec : Env0 → PyData → Option Wr} {E : Env0} {d : PyData} : gSlot rec E ("head" : Str) d = gHead d := slot_all.2.2.2.2.2.1
theorem slot_fields {rec : Env0 → PyData → Option Wr} {E : Env0} {d : PyData} : gSlot rec E ("fields" : Str) d = gFields (rec E) d := slot_all.2.2.2.2.2.2.2.2.2.2
theorem gWord_of {z : Str} (h : Word z) : gWord (.str z) = none := by
  unfold gWord whenB
  rw [show isWordD (.str z) = true from decide_eq_true h]
  rfl
/-- a written number, at any room -/
def numP (n : Int) : PyData := .tuple [.str "num", .int n]
theorem part_num {n : Nat} {E : Env0} {k : Int} (h : k.natAbs < 10 ^ 30) : gPart (n + 1) E (numP k) = none := by
  unfold numP
  rw [gPart_one (s := "whole") (by decide +kernel) (by decide +kernel) (by decide +kernel) (by decide +kernel), slot_whole]
  show whenB (decide (k.natAbs < 10 ^ 30)) .bp = none
  rw [decide_eq_true h]
  rfl
theorem part_kind {n : Nat} {E : Env0} {w : Str} {k : PyData} (hw : w = "norow" ∨ w = "nobook") : gPart (n + 1) E (.tuple [.str w, k]) = gKind E.ls k := by
  rcases hw with h | h <;> subst h <;>
    rw [gPart_one (s := "kind") (by decide +kernel) (by decide +kernel) (by decide +kernel) (by decide +kernel), slot_kind]
theorem part_row {n : Nat} {E : Env0} {a b : PyData} (h : gPart n E a = none) : gPart (n + 1) E (.tuple [.str "row", .tuple [a, b]]) = gPart n E b := by
  rw [gPart_one (s := "parts") (by decide +kernel) (by decide +kernel) (by decide +kernel) (by decide +kernel), slot_parts]
  show (match firstBad [gPart n E a, gPart n E b] with
    | some b => some b
    | none => none) = _
  rw [h]
  show (match firstBad [gPart n E b] with
    | some b => some b
    | none => none) = _
  cases gPart n E b <;> rfl
theorem part_fold {n : Nat} {E : Env0} {x y : Str} {e k f g : PyData} (hx : Word x) (hy : Word y) (ne : x ≠ y) (he : gPart n E e = none) (hf : gPart n E f = none) (hg : gPart n { E with ns := E.ns ++ [x, y] } g = none) :
    gPart (n + 1) E (.tuple [.str "fold", .str x, e, .str y, k, f, g]) = gKind E.ls k := by
  rw [gPart_eq (w := "fold") (fm := ["given", "part", "given", "kind", "part", "last"]) (by decide +kernel) rfl]
  have eg : strsD (givens ["given", "part", "given", "kind", "part", "last"] [.str x, e, .str y, k, f, g]) = [x, y] := by kernel_rfl
  rw [eg]
  have ez : ((["given", "part", "given", "kind", "part", "last"] : List Str).zip [PyData.str x, e, .str y, k, f, g]) = [(("given" : Str), PyData.str x), (("part" : Str), e), (("given" : Str), .str y), (("kind" : Str), k), (("part" : Str), f), (("last" : Str), g)] := rfl
  rw [ez]
  have n1 : ¬ (("given" : Str) = "last") := by decide +kernel
  have n2 : ¬ (("part" : Str) = "last") := by decide +kernel
  have n3 : ¬ (("kind" : Str) = "last") := by decide +kernel
  simp only [List.map_cons, List.map_nil, if_neg n1, if_neg n2, if_neg n3, if_true]
  rw [slot_given, slot_part, slot_given, slot_kind, slot_part, slot_last, gWord_of hx, gWord_of hy, he, hf, hg, if_pos (show [x, y].Nodup by simp [ne]), if_neg (show ¬ (("fold" : Str) = "call") by decide +kernel)]
  cases gKind E.ls k <;> rfl
theorem part_call {n : Nat} {E : Env0} {f : Str} {k : PyData} (hw : Word f) (hf : E.fs.lookup f = some (1, 0)) : gPart (n + 1) E (.tuple [.str "call", .str f, .tuple [k], .tuple []]) = gKind E.ls k := by
  rw [gPart_eq (w := "call") (fm := ["function", "kinds", "handed"]) (by decide +kernel) rfl]
  have eg : strsD (givens ["function", "kinds", "handed"] [.str f, .tuple [k], .tuple []]) = [] := by kernel_rfl
  rw [eg]
  have ez : ((["function", "kinds", "handed"] : List Str).zip [PyData.str f, .tuple [k], .tuple []]) = [(("function" : Str), PyData.str f), (("kinds" : Str), .tuple [k]), (("handed" : Str), .tuple [])] := rfl
  rw [ez]
  have n1 : ¬ (("function" : Str) = "last") := by decide +kernel
  have n2 : ¬ (("kinds" : Str) = "last") := by decide +kernel
  have n3 : ¬ (("handed" : Str) = "last") := by decide +kernel
  simp only [List.map_cons, List.map_nil, if_neg n1, if_neg n2, if_neg n3, if_true]
  rw [slot_function, slot_kinds, slot_handed]
  have hm : f ∈ E.fs.map (·.1) := by
    generalize E.fs = l at hf
    induction l with
    | nil => cases hf
    | cons q l ih =>
      obtain ⟨a, b⟩ := q
      rw [List.lookup_cons] at hf
      split at hf
      · rename_i z
        rw [eq_of_beq z]; exact List.mem_cons_self
      · exact List.mem_cons_of_mem _ (ih hf)
  have h1 : gFun E (.str f) = none := by
    show (if isWordD (.str f) = true then whenB (decide (f ∈ E.fs.map (·.1))) .nn else some .bp) = none
    rw [if_pos (show isWordD (.str f) = true from decide_eq_true hw), decide_eq_true hm]
    rfl
  have h2 : callOk E [.str f, .tuple [k], .tuple []] = true := by
    show (match E.fs.lookup f with
      | some (nl, np) => decide ([k].length = nl) && decide (([] : List PyData).length = np)
      | none => false) = true
    rw [hf]
    rfl
  rw [h1, h2, if_pos (show ([] : List Str).Nodup from List.nodup_nil)]
  show (match firstBad [none, firstBad [gKind E.ls k], firstBad []] with
    | some b => some b
    | none => none) = _
  cases gKind E.ls k <;> rfl
/-! ### no text stands in these -/
def noT : PyData → Prop := fun _ => False
theorem txs_of {n : Nat} {w : Str} {fm : List Str} {ts : List PyData} (hl : formTab.lookup w = some fm) (h : ∀ (j : Nat) (s : Str) (t : PyData), fm[j]? = some s → ts[j]? = some t → slotIn (txs noT n) noT s t) : txs noT (n + 1) (.tuple (.str w :: ts)) := by
  intro w' fm' ts' hf
  obtain ⟨h1, h2, h3⟩ := form_inv hf
  injection h1 with h1
  injection h1 with h4 h5
  injection h4 with h4
  subst h4 h5
  rw [hl] at h2
  cases h2
  exact h
theorem slot_flat {n : Nat} {s : Str} {t : PyData} (h : ((s == "text") || (s == "part") || (s == "last") || (s == "parts") || (s == "handed") || (s == "fields")) = false) : slotIn (txs noT n) noT s t := by
  simp only [Bool.or_eq_false_iff, beq_eq_false_iff_ne, ne_eq] at h
  obtain ⟨⟨⟨⟨⟨h1, h2⟩, h3⟩, h4⟩, h5⟩, h6⟩ := h
  exact ⟨fun e => absurd e h1, fun e => e.elim (fun z => absurd z h2) (fun z => absurd z h3), fun ds _ => ⟨fun e => e.elim (fun z => absurd z h4) (fun z => absurd z h5), fun e => absurd e h6⟩⟩
theorem txs_num (n : Nat) (k : Int) : txs noT n (numP k) := by
  cases n with
  | zero => trivial
  | succ n =>
    refine txs_of (w := "num") (fm := ["whole"]) (by decide +kernel) fun j s t h1 h2 => ?_
    match j, h1 with
    | 0, h1 => cases h1; exact slot_flat (by decide +kernel)
theorem txs_kind (n : Nat) {w : Str} (hw : w = "norow" ∨ w = "nobook") (k : PyData) : txs noT n (.tuple [.str w, k]) := by
  cases n with
  | zero => trivial
  | succ n =>
    rcases hw with h | h <;> subst h
    · refine txs_of (w := "norow") (fm := ["kind"]) (by decide +kernel) fun j s t h1 h2 => ?_
      match j, h1 with
      | 0, h1 => cases h1; exact slot_flat (by decide +kernel)
    · refine txs_of (w := "nobook") (fm := ["kind"]) (by decide +kernel) fun j s t h1 h2 => ?_
      match j, h1 with
      | 0, h1 => cases h1; exact slot_flat (by decide +kernel)
theorem slot_in {n : Nat} {s : Str} {t : PyData} (hs : s = "part" ∨ s = "last") (h : txs noT n t) : slotIn (txs noT n) noT s t := by
  have n1 : s ≠ "text" ∧ s ≠ "parts" ∧ s ≠ "handed" ∧ s ≠ "fields" := by rcases hs with h | h <;> subst h <;> decide +kernel
  exact ⟨fun e => absurd e n1.1, fun _ => h, fun ds _ => ⟨fun e => e.elim (fun z => absurd z n1.2.1) (fun z => absurd z n1.2.2.1), fun e => absurd e n1.2.2.2⟩⟩
theorem slot_all_in {n : Nat} {s : Str} {ds : List PyData} (hs : s = "parts" ∨ s = "handed") (h : ∀ d ∈ ds, txs noT n d) : slotIn (txs noT n) noT s (.tuple ds) := by
  have n1 : s ≠ "text" ∧ s ≠ "part" ∧ s ≠ "last" ∧ s ≠ "fields" := by rcases hs with h | h <;> subst h <;> decide +kernel
  exact ⟨fun e => absurd e n1.1, fun e => e.elim (fun z => absurd z n1.2.1) (fun z => absurd z n1.2.2.1), fun ds' e => ⟨fun _ x hx => h x (by injection e with e; rw [e]; exact hx), fun e => absurd e n1.2.2.2⟩⟩
theorem txs_row (n : Nat) {a b : PyData} (ha : ∀ n, txs noT n a) (hb : ∀ n, txs noT n b) : txs noT n (.tuple [.str "row", .tuple [a, b]]) := by
  cases n with
  | zero => trivial
  | succ n =>
    refine txs_of (w := "row") (fm := ["parts"]) (by decide +kernel) fun j s t h1 h2 => ?_
    match j, h1, h2 with
    | 0, h1, h2 =>
      cases h1; cases h2
      refine slot_all_in (.inl rfl) fun d hd => ?_
      rcases List.mem_cons.mp hd with e | e
      · rw [e]; exact ha n
      · rw [List.mem_singleton.mp e]; exact hb n
theorem txs_fold (n : Nat) {x y e k f g : PyData} (he : ∀ n, txs noT n e) (hf : ∀ n, txs noT n f) (hg : ∀ n, txs noT n g) : txs noT n (.tuple [.str "fold", x, e, y, k, f, g]) := by
  cases n with
  | zero => trivial
  | succ n =>
    refine txs_of (w := "fold") (fm := ["given", "part", "given", "kind", "part", "last"]) (by decide +kernel) fun j s t h1 h2 => ?_
    match j, h1, h2 with
    | 0, h1, h2 => cases h1; exact slot_flat (by decide +kernel)
    | 1, h1, h2 => cases h1; cases h2; exact slot_in (.inl rfl) (he n)
    | 2, h1, h2 => cases h1; exact slot_flat (by decide +kernel)
    | 3, h1, h2 => cases h1; exact slot_flat (by decide +kernel)
    | 4, h1, h2 => cases h1; cases h2; exact slot_in (.inl rfl) (hf n)
    | 5, h1, h2 => cases h1; cases h2; exact slot_in (.inr rfl) (hg n)
theorem txs_call (n : Nat) {f k : PyData} : txs noT n (.tuple [.str "call", f, .tuple [k], .tuple []]) := by
  cases n with
  | zero => trivial
  | succ n =>
    refine txs_of (w := "call") (fm := ["function", "kinds", "handed"]) (by decide +kernel) fun j s t h1 h2 => ?_
    match j, h1, h2 with
    | 0, h1, h2 => cases h1; exact slot_flat (by decide +kernel)
    | 1, h1, h2 => cases h1; exact slot_flat (by decide +kernel)
    | 2, h1, h2 => cases h1; cases h2; exact slot_all_in (.inr rfl) fun d hd => by cases hd
end Sc
namespace Sc
open PySem PySem.Spec PyProof.Rows L2
def mkP (q : Str × PyData) : PyData := .tuple [.str q.1, q.2]
theorem fb_all {ws : List (Option Wr)} (h : ∀ w ∈ ws, w = none) : firstBad ws = none := fb_none.mpr h
theorem gPairs_of {p : PyData → Bool} {prs : List (Str × PyData)} (hp : ∀ q ∈ prs, p (.str q.1) = true) (nd : (prs.map (·.1)).Nodup) : gPairs p (.tuple (prs.map mkP)) = none := by
  rw [gPairs_eq]
  have e1 : firstBad ((prs.map mkP).map (pairOk p)) = none := fb_all fun w hw => by
    obtain ⟨d, hd, rfl⟩ := List.mem_map.mp hw
    obtain ⟨q, hq, rfl⟩ := List.mem_map.mp hd
    show whenB (p (.str q.1)) .bp = none
    rw [hp q hq]
    rfl
  rw [e1]
  have e2 : strsD ((prs.map mkP).map leadD) = prs.map (·.1) := by
    clear hp nd e1
    induction prs with
    | nil => rfl
    | cons q prs ih =>
      show q.1 :: strsD ((prs.map mkP).map leadD) = _
      rw [ih]
      rfl
  first
    | (show (if (strsD ((prs.map mkP).map leadD)).Nodup then none else some Wr.tt) = none; rw [e2, if_pos nd])
    | (have e3 : (prs.map mkP).map nameD = prs.map (·.1) := by rw [List.map_map]; rfl
       show (if ((prs.map mkP).map nameD).Nodup then none else some Wr.tt) = none
       rw [e3, if_pos nd])
theorem gSnd_of (g : PyData → Option Wr) (prs : List (Str × PyData)) : gSnd g (.tuple (prs.map mkP)) = firstBad (prs.map fun q => g q.2) := by
  show firstBad ((prs.map mkP).map (sndK g)) = _
  rw [List.map_map]
  rfl
theorem leads_of (prs : List (Str × PyData)) : leads (.tuple (prs.map mkP)) = prs.map (·.1) := by
  show (prs.map mkP).map nameD = _
  rw [List.map_map]
  rfl
/-- a function with pairs for its letters and params -/
theorem gFn_of {fs : List (Str × Nat × Nat)} {z : Str} {prl prp : List (Str × PyData)} {res body : PyData} (hz : Word z) (nf : formTab.lookup z = none) (nz : ¬ z ∈ fs.map (·.1)) (hl : ∀ q ∈ prl, Lett q.1) (ndl : (prl.map (·.1)).Nodup) (hp : ∀ q ∈ prp, Word q.1) (ndp : (prp.map (·.1)).Nodup) :
    gFn fs (.str z) (.tuple (prl.map mkP)) (.tuple (prp.map mkP)) res body = firstBad [firstBad (prl.map fun q => gKind [] q.2), firstBad (prp.map fun q => gKind (prl.map (·.1)) q.2), gKind (prl.map (·.1)) res, gPart 12 ⟨prl.map (·.1), fs, prp.map (·.1)⟩ body] := by
  unfold gFn
  rw [gWord_of hz]
  show (if (formTab.lookup z).isSome then some Wr.bp else if z ∈ fs.map (·.1) then some .tt else firstBad _) = _
  rw [nf, if_neg (by show ¬ (false = true); exact Bool.false_ne_true), if_neg nz, gPairs_of (fun q m => decide_eq_true (hl q m)) ndl, gPairs_of (fun q m => decide_eq_true (hp q m)) ndp, gSnd_of, gSnd_of, leads_of, leads_of]
  cases firstBad (prl.map fun q => gKind [] q.2) <;> rfl
end Sc
namespace Sc
open PySem PySem.Spec PyProof.Rows L2
def txT : PyData → Prop := fun _ => True
theorem txs_true : ∀ (n : Nat) (d : PyData), txs txT n d
  | 0, _ => trivial
  | n + 1, d => fun w fm ts _ j s t _ _ => ⟨fun _ => trivial, fun _ => txs_true n t, fun ds _ => ⟨fun _ x _ => txs_true n x, fun _ f p _ => txs_true n p⟩⟩
theorem slot_text {rec : Env0 → PyData → Option Wr} {E : Env0} {d : PyData} : gSlot rec E ("text" : Str) d = gText d := slot_all.2.1
/-- a part of such a form is let by where its slots are -/
theorem gPart_ok {n : Nat} {E : Env0} {w : Str} {fm : List Str} {ts : List PyData} (hl : formTab.lookup w = some fm) (len : ts.length = fm.length) (nd : (strsD (givens fm ts)).Nodup) (nc : w = ("call" : Str) → callOk E ts = true)
    (h : ∀ (j : Nat) (s : Str) (t : PyData), fm[j]? = some s → ts[j]? = some t → gSlot (gPart n) (if s = ("last" : Str) then { E with ns := E.ns ++ strsD (givens fm ts) } else E) s t = none) : gPart (n + 1) E (.tuple (.str w :: ts)) = none := by
  rw [gPart_eq hl len]
  have e : firstBad ((fm.zip ts).map fun p => gSlot (gPart n) (if p.1 = ("last" : Str) then { E with ns := E.ns ++ strsD (givens fm ts) } else E) p.1 p.2) = none := fb_none.mpr fun x hx => by
    obtain ⟨p, hp, rfl⟩ := List.mem_map.mp hx
    obtain ⟨j, hj⟩ := List.getElem?_of_mem hp
    obtain ⟨h1, h2⟩ := List.getElem?_zip_eq_some.mp (show (fm.zip ts)[j]? = some (p.1, p.2) from hj)
    exact h j p.1 p.2 h1 h2
  rw [e]
  dsimp only
  rw [if_pos nd]
  split
  · rename_i z
    show whenB (callOk E ts) .bp = none
    rw [nc z]; rfl
  · rfl
theorem gText_ok {t : Str} (h : Tex t) : gText (.str t) = none := by
  show whenB ((t.cps.toList.all fun c => decide (32 ≤ c) && decide (c ≤ 126)) && !(t.cps.toList.any fun c => c == 37)) .bp = none
  have a : (t.cps.toList.all fun c => decide (32 ≤ c) && decide (c ≤ 126)) = true := List.all_eq_true.mpr fun c hc => by
    have := h.2 c hc
    rw [decide_eq_true this.1, decide_eq_true this.2.1]; rfl
  have b : (t.cps.toList.any fun c => c == 37) = false := List.any_eq_false.mpr fun c hc => by
    have := (h.2 c hc).2.2
    simpa using this
  rw [a, b]; rfl
theorem gKnown_ok {E : Env0} {x : Str} (h : x ∈ E.ns) (w : Word x) : gKnown E (.str x) = none := by
  show (if isWordD (.str x) = true then whenB (decide (x ∈ E.ns)) .nn else some .bp) = none
  rw [if_pos (show isWordD (.str x) = true from decide_eq_true w), decide_eq_true h]; rfl
theorem gKind_ok {ls : List Str} (hl : ∀ l ∈ ls, Lett l) {n : Nat} {k : List Ch} (h : Wk ls n k) (hn : n < 9) : gKind ls (.tuple (pyL k)) = none := by
  show whenB (gK ls 9 (.tuple (pyL k))) .bk = none
  rw [h.good hl hn]; rfl
theorem gParts_ok {rec : PyData → Option Wr} {ps : List PyData} (h : ∀ p ∈ ps, rec p = none) (h0 : ps ≠ []) : gParts rec (.tuple ps) = none := by
  have e : gHanded rec (.tuple ps) = none := fb_none.mpr fun x hx => by
    obtain ⟨p, hp, rfl⟩ := List.mem_map.mp hx
    exact h p hp
  unfold gParts
  rw [e]
  cases ps with
  | nil => exact absurd rfl h0
  | cons _ _ => rfl
theorem gFields_ok {rec : PyData → Option Wr} {qs : List (Str × PyData)} (fl : Fld (qs.map (·.1))) (h : ∀ q ∈ qs, rec q.2 = none) : gFields rec (.tuple (qs.map mkP)) = none := by
  obtain ⟨f0, _, fnd, fso, fw⟩ := fl
  have fd : fldD (.tuple (qs.map mkP)) = true := by
    show (!(qs.map mkP).isEmpty && (qs.map mkP).all pairD && ascB ((qs.map mkP).map nameD)) = true
    rw [Bool.and_eq_true, Bool.and_eq_true]
    refine ⟨⟨by cases qs with | nil => exact absurd rfl f0 | cons _ _ => rfl, ?_⟩, ?_⟩
    · rw [List.all_map, List.all_eq_true]; exact fun p _ => rfl
    · rw [List.map_map]
      show ascB (qs.map (·.1)) = true
      unfold ascB
      rw [fso, decide_eq_true fnd]; rfl
  show (if fldD (.tuple (qs.map mkP)) = true then firstBad ((qs.map mkP).map (gField rec)) else some .bp) = none
  rw [if_pos fd]
  refine fb_none.mpr fun x hx => ?_
  obtain ⟨d, hd, rfl⟩ := List.mem_map.mp hx
  obtain ⟨q, hq, rfl⟩ := List.mem_map.mp hd
  show (match gWord (.str q.1) with | some b => some b | none => rec q.2) = none
  rw [gWord_of (fw q.1 (List.mem_map_of_mem hq))]
  exact h q hq
theorem lookup_memG {α : Type} : ∀ {l : List (Str × α)} {z : Str}, (l.lookup z).isSome = true → z ∈ l.map (·.1)
  | [], _, h => by cases h
  | (a, b) :: l, z, h => by
    rw [List.lookup_cons] at h
    cases e : z == a with
    | true => rw [eq_of_beq e]; exact List.mem_cons_self
    | false => rw [e] at h; exact List.mem_cons_of_mem _ (lookup_memG h)
theorem op_form {w : Str} {n : Nat} (h : (w, n) ∈ opTab) : formTab.lookup w = some (List.replicate n ("part" : Str)) ∧ w ≠ "call" ∧ (PyData.canLay0 (.str w) && sm (.str w)) = true := by
  have q : ∀ q ∈ opTab, formTab.lookup q.1 = some (List.replicate q.2 ("part" : Str)) ∧ q.1 ≠ ("call" : Str) ∧ (PyData.canLay0 (.str q.1) && sm (.str q.1)) = true := by decide +kernel
  exact q _ h
theorem no_givens : ∀ (fm : List Str) (ts : List PyData), (∀ s ∈ fm, s ≠ ("given" : Str)) → givens fm ts = []
  | [], ts, _ => by unfold givens; rw [List.zip_nil_left]; rfl
  | s :: fm, [], _ => by unfold givens; rw [List.zip_nil_right]; rfl
  | s :: fm, t :: ts, h => by
    have ih := no_givens fm ts fun x m => h x (List.mem_cons_of_mem _ m)
    unfold givens at ih ⊢
    rw [List.zip_cons_cons, List.filter_cons_of_neg (by simpa using h s List.mem_cons_self)]
    exact ih
theorem Gp.good {ls : List Str} (hl : ∀ l ∈ ls, Lett l) {fs : List (Str × Nat × Nat)} {n : Nat} {N : Str → Prop} {p : Pt} (h : Gp ls fs n N p) : ∀ E : Env0, E.ls = ls → E.fs = fs → (∀ z, N z → z ∈ E.ns) → gPart n E (pyP p) = none := by
  have two : ∀ {a b : PyData} {fm : List Str} {j : Nat} {s : Str} {t : PyData}, fm.length = 2 → [a, b][j]? = some t → j = 0 ∧ t = a ∨ j = 1 ∧ t = b := fun {a b fm j s t} _ h => by
    match j, h with
    | 0, h => cases h; exact .inl ⟨rfl, rfl⟩
    | 1, h => cases h; exact .inr ⟨rfl, rfl⟩
  induction h with
  | num a =>
    intro E e1 e2 hN
    rw [pyP, gPart_one (s := "whole") (by decide +kernel) (by decide +kernel) (by decide +kernel) (by decide +kernel), slot_whole]
    show whenB (decide (_ < 10 ^ 30)) .bp = none
    rw [decide_eq_true a]; rfl
  | text a =>
    intro E e1 e2 hN
    rw [pyP, gPart_one (s := "text") (by decide +kernel) (by decide +kernel) (by decide +kernel) (by decide +kernel), slot_text]
    exact gText_ok a
  | name a b =>
    intro E e1 e2 hN
    rw [pyP, gPart_one (s := "known") (by decide +kernel) (by decide +kernel) (by decide +kernel) (by decide +kernel), slot_known]
    exact gKnown_ok (hN _ a) b
  | @row m N ps a b _ ih =>
    intro E e1 e2 hN
    rw [pyP, gPart_one (s := "parts") (by decide +kernel) (by decide +kernel) (by decide +kernel) (by decide +kernel), slot_parts]
    refine gParts_ok (fun p hp => ?_) (fun z => a (by rw [pyPs_map] at z; exact List.map_eq_nil_iff.mp z))
    rw [pyPs_map] at hp
    obtain ⟨p', hp', rfl⟩ := List.mem_map.mp hp
    exact ih p' hp' E e1 e2 hN
  | empt a b =>
    intro E e1 e2 hN
    rw [pyP, part_kind a, e1]
    exact gKind_ok hl b (by decide)
  | @shape m N qs a b _ ih =>
    intro E e1 e2 hN
    rw [pyP, gPart_one (s := "fields") (by decide +kernel) (by decide +kernel) (by decide +kernel) (by decide +kernel), slot_fields]
    have e : pyPF qs = (qs.map fun q => (q.1, pyP q.2)).map mkP := by rw [pyPF_map, List.map_map]; rfl
    rw [e]
    refine gFields_ok (by rw [List.map_map]; exact b) fun q hq => ?_
    obtain ⟨q', hq', rfl⟩ := List.mem_map.mp hq
    exact ih q' hq' E e1 e2 hN
  | get _ b ih =>
    intro E e1 e2 hN
    rw [pyP]
    refine gPart_ok (w := "get") (fm := ["part", "field"]) (by decide +kernel) rfl (by rw [no_givens _ _ (by decide +kernel)]; exact List.nodup_nil) (fun z => absurd z (by decide +kernel)) fun j s t h1 h2 => ?_
    match j, h1, h2 with
    | 0, h1, h2 => cases h1; cases h2; rw [if_neg (by decide +kernel), slot_part]; exact ih E e1 e2 hN
    | 1, h1, h2 => cases h1; cases h2; rw [if_neg (by decide +kernel), slot_field]; exact gWord_of b
  | @op m N w ps a _ ih =>
    intro E e1 e2 hN
    obtain ⟨f1, f2, _⟩ := op_form a
    rw [pyP]
    refine gPart_ok f1 (by rw [pyPs_map, List.length_map, List.length_replicate]) (by rw [no_givens _ _ fun s m => by rw [(List.mem_replicate.mp m).2]; decide +kernel]; exact List.nodup_nil) (fun z => absurd z f2) fun j s t h1 h2 => ?_
    obtain rfl : s = ("part" : Str) := (List.mem_replicate.mp (List.mem_of_getElem? h1)).2
    rw [if_neg (by decide +kernel), slot_part]
    rw [pyPs_map] at h2
    obtain ⟨p', hp', rfl⟩ := List.mem_map.mp (List.mem_of_getElem? h2)
    exact ih p' hp' E e1 e2 hN
  | @bind m N w x e f a b _ _ i1 i2 =>
    intro E e1 e2 hN
    rw [pyP]
    have hf : formTab.lookup w = some (["given", "part", "last"] : List Str) ∧ w ≠ ("call" : Str) := by rcases a with a | a <;> rw [a] <;> decide +kernel
    have eg : strsD (givens ["given", "part", "last"] [.str x, pyP e, pyP f]) = [x] := by kernel_rfl
    refine gPart_ok hf.1 rfl (by rw [eg]; simp) (fun z => absurd z hf.2) fun j s t h1 h2 => ?_
    rw [eg]
    match j, h1, h2 with
    | 0, h1, h2 => cases h1; cases h2; rw [if_neg (by decide +kernel), slot_given]; exact gWord_of b
    | 1, h1, h2 => cases h1; cases h2; rw [if_neg (by decide +kernel), slot_part]; exact i1 E e1 e2 hN
    | 2, h1, h2 =>
      cases h1; cases h2; rw [if_pos rfl, slot_last]
      exact i2 _ e1 e2 fun z h => List.mem_append.mpr (h.elim (fun h => .inr (List.mem_singleton.mpr h)) fun h => .inl (hN z h))
  | @fold m N x y e f g k a b c d _ _ _ i1 i2 i3 =>
    intro E e1 e2 hN
    rw [pyP]
    have eg : strsD (givens ["given", "part", "given", "kind", "part", "last"] [.str x, pyP e, .str y, .tuple (pyL k), pyP f, pyP g]) = [x, y] := by kernel_rfl
    refine gPart_ok (w := "fold") (fm := ["given", "part", "given", "kind", "part", "last"]) (by decide +kernel) rfl (by rw [eg]; simp [c]) (fun z => absurd z (by decide +kernel)) fun j s t h1 h2 => ?_
    rw [eg]
    match j, h1, h2 with
    | 0, h1, h2 => cases h1; cases h2; rw [if_neg (by decide +kernel), slot_given]; exact gWord_of a
    | 1, h1, h2 => cases h1; cases h2; rw [if_neg (by decide +kernel), slot_part]; exact i1 E e1 e2 hN
    | 2, h1, h2 => cases h1; cases h2; rw [if_neg (by decide +kernel), slot_given]; exact gWord_of b
    | 3, h1, h2 => cases h1; cases h2; rw [if_neg (by decide +kernel), slot_kind, e1]; exact gKind_ok hl d (by decide)
    | 4, h1, h2 => cases h1; cases h2; rw [if_neg (by decide +kernel), slot_part]; exact i2 E e1 e2 hN
    | 5, h1, h2 =>
      cases h1; cases h2; rw [if_pos rfl, slot_last]
      exact i3 _ e1 e2 fun z h => List.mem_append.mpr (by
        rcases h with h | h | h
        · exact .inr (by rw [h]; simp)
        · exact .inr (by rw [h]; simp)
        · exact .inl (hN z h))
  | @ask m N w x a e f hw b c _ _ i1 i2 =>
    intro E e1 e2 hN
    rw [pyP]
    rcases hw with ⟨rfl, ha⟩ | ⟨rfl, ha⟩
    · refine gPart_ok (w := "is") (fm := ["known", "head", "part", "part"]) (by decide +kernel) rfl (by rw [no_givens _ _ (by decide +kernel)]; exact List.nodup_nil) (fun z => absurd z (by decide +kernel)) fun j s t h1 h2 => ?_
      match j, h1, h2 with
      | 0, h1, h2 => cases h1; cases h2; rw [if_neg (by decide +kernel), slot_known]; exact gKnown_ok (hN _ b) c
      | 1, h1, h2 =>
        cases h1; cases h2; rw [if_neg (by decide +kernel), slot_head]
        show whenB (decide (a ∈ (["number", "text", "row", "book", "shape"] : List Str))) .bp = none
        rw [decide_eq_true ha]; rfl
      | 2, h1, h2 => cases h1; cases h2; rw [if_neg (by decide +kernel), slot_part]; exact i1 E e1 e2 hN
      | 3, h1, h2 => cases h1; cases h2; rw [if_neg (by decide +kernel), slot_part]; exact i2 E e1 e2 hN
    · refine gPart_ok (w := "has") (fm := ["known", "field", "part", "part"]) (by decide +kernel) rfl (by rw [no_givens _ _ (by decide +kernel)]; exact List.nodup_nil) (fun z => absurd z (by decide +kernel)) fun j s t h1 h2 => ?_
      match j, h1, h2 with
      | 0, h1, h2 => cases h1; cases h2; rw [if_neg (by decide +kernel), slot_known]; exact gKnown_ok (hN _ b) c
      | 1, h1, h2 => cases h1; cases h2; rw [if_neg (by decide +kernel), slot_field]; exact gWord_of ha
      | 2, h1, h2 => cases h1; cases h2; rw [if_neg (by decide +kernel), slot_part]; exact i1 E e1 e2 hN
      | 3, h1, h2 => cases h1; cases h2; rw [if_neg (by decide +kernel), slot_part]; exact i2 E e1 e2 hN
  | @call m N f ks ps a b c d e _ ih =>
    intro E e1 e2 hN
    rw [pyP]
    have hm : f ∈ E.fs.map (·.1) := by
      rw [e2]
      exact lookup_memG (by rw [b]; rfl)
    refine gPart_ok (w := "call") (fm := ["function", "kinds", "handed"]) (by decide +kernel) rfl (by rw [no_givens _ _ (by decide +kernel)]; exact List.nodup_nil) (fun _ => ?_) fun j s t h1 h2 => ?_
    · show (match E.fs.lookup f with
        | some (nl, np) => decide ((ks.map fun k => PyData.tuple (pyL k)).length = nl) && decide ((pyPs ps).length = np)
        | none => false) = true
      rw [e2, b]
      show (decide ((ks.map fun k => PyData.tuple (pyL k)).length = ks.length) && decide ((pyPs ps).length = ps.length)) = true
      rw [decide_eq_true (List.length_map _), decide_eq_true (by rw [pyPs_map, List.length_map])]; rfl
    match j, h1, h2 with
    | 0, h1, h2 =>
      cases h1; cases h2; rw [if_neg (by decide +kernel), slot_function]
      show (if isWordD (.str f) = true then whenB (decide (f ∈ E.fs.map (·.1))) .nn else some .bp) = none
      rw [if_pos (show isWordD (.str f) = true from decide_eq_true a), decide_eq_true hm]; rfl
    | 1, h1, h2 =>
      cases h1; cases h2; rw [if_neg (by decide +kernel), slot_kinds, e1]
      refine fb_none.mpr fun x hx => ?_
      obtain ⟨d', hd', rfl⟩ := List.mem_map.mp hx
      obtain ⟨k, hk, rfl⟩ := List.mem_map.mp hd'
      exact gKind_ok hl (e k hk) (by decide)
    | 2, h1, h2 =>
      cases h1; cases h2; rw [if_neg (by decide +kernel), slot_handed]
      refine fb_none.mpr fun x hx => ?_
      obtain ⟨d', hd', rfl⟩ := List.mem_map.mp hx
      rw [pyPs_map] at hd'
      obtain ⟨p', hp', rfl⟩ := List.mem_map.mp hd'
      exact ih p' hp' E e1 e2 hN
theorem pyF_mk (fs : List (Str × List Ch)) : pyF fs = (fs.map fun q => (q.1, PyData.tuple (pyL q.2))).map mkP := by rw [pyF_map, List.map_map]; rfl
theorem fst_mk (fs : List (Str × List Ch)) : (fs.map fun q => (q.1, PyData.tuple (pyL q.2))).map (·.1) = fs.map (·.1) := by rw [List.map_map]; rfl
theorem OkFn.good {fns : List Fn} {f : Fn} (ok : OkFn fns f) : gFn (fns.map Fn.sig) (.str f.name) (.tuple (pyF f.lets)) (.tuple (pyF f.pars)) (.tuple (pyL f.res)) (pyP f.body) = none := by
  have lets : ∀ l ∈ f.lets.map (·.1), Lett l := fun l m => by
    obtain ⟨q, hq, rfl⟩ := List.mem_map.mp m
    exact (ok.okb q hq).1
  rw [pyF_mk, pyF_mk, gFn_of ok.wn ok.nf (fun m => ok.new (by
      obtain ⟨x, hx, e⟩ := List.mem_map.mp m
      obtain ⟨g, hg, rfl⟩ := List.mem_map.mp hx
      exact List.mem_map.mpr ⟨g, hg, e⟩)) (fun q m => by
      obtain ⟨q', hq', rfl⟩ := List.mem_map.mp m
      exact (ok.okb q' hq').1) (by rw [fst_mk]; exact ok.lnd) (fun q m => by
      obtain ⟨q', hq', rfl⟩ := List.mem_map.mp m
      exact ok.pw q' hq') (by rw [fst_mk]; exact ok.pnd), fst_mk, fst_mk]
  refine fb_all fun x hx => ?_
  simp only [List.mem_cons, List.not_mem_nil, or_false] at hx
  rcases hx with rfl | rfl | rfl | rfl
  · refine fb_all fun x hx => ?_
    obtain ⟨q, hq, rfl⟩ := List.mem_map.mp hx
    obtain ⟨q', hq', rfl⟩ := List.mem_map.mp hq
    obtain ⟨_, k0, k3, okk⟩ := ok.okb q' hq'
    exact gKind_ok (fun l h => by cases h) (Wk.of_ok k0 k3 okk) (by decide)
  · refine fb_all fun x hx => ?_
    obtain ⟨q, hq, rfl⟩ := List.mem_map.mp hx
    obtain ⟨q', hq', rfl⟩ := List.mem_map.mp hq
    obtain ⟨k0, k3, okk⟩ := ok.pk q' hq'
    exact gKind_ok lets (Wk.of_ok k0 k3 okk) (by decide)
  · obtain ⟨k0, k3, okk⟩ := ok.rk
    exact gKind_ok lets (Wk.of_ok k0 k3 okk) (by decide)
  · exact (ok.bd.mono (m := 12) (by decide) fun _ z => z).good lets _ rfl rfl fun _ z => z
theorem OkPr.at {fns : List Fn} (h : OkPr fns) : ∀ {i : Nat} {f : Fn}, fns[i]? = some f → OkFn (fns.take i) f := by
  induction h with
  | nil => intro i f e; simp at e
  | @snoc fns g _ og ih =>
    intro i f e
    by_cases lt : i < fns.length
    · rw [List.getElem?_append_left lt] at e
      rw [List.take_append_of_le_length (by omega)]
      exact ih e
    · rw [List.getElem?_append_right (by omega)] at e
      have z : i - fns.length = 0 := by
        have := (List.getElem?_eq_some_iff.mp e).1
        simp at this
        omega
      rw [z] at e
      cases e
      have : i = fns.length := by omega
      rw [this, List.take_append_of_le_length (Nat.le_refl _), List.take_length]
      exact og
theorem sig_py (f : Fn) : fnOf3 f.py = f.sig := by
  show (f.name, (pyF f.lets).length, (pyF f.pars).length) = _
  rw [pyF_map, pyF_map, List.length_map, List.length_map]; rfl
theorem OkPr.is5 {fns : List Fn} : ∀ d ∈ fns.map Fn.py, Sc.is5 txT d := fun d m => by
  obtain ⟨f, _, rfl⟩ := List.mem_map.mp m
  exact ⟨_, _, _, _, _, rfl, txs_true _ _⟩
theorem OkPr.good {fns : List Fn} (h : OkPr fns) : gProg [] (fns.map Fn.py) = none := by
  have step := gProg_step (tOk := txT) (fs := []) (j := (fns.map Fn.py).length) OkPr.is5 fun i d0 d1 d2 d3 d4 hi he => by
    rw [List.getElem?_map] at he
    obtain ⟨f, hf, e⟩ := Option.map_eq_some_iff.mp he
    have g := (h.at hf).good
    have e' : PyData.tuple [.str f.name, .tuple (pyF f.lets), .tuple (pyF f.pars), .tuple (pyL f.res), pyP f.body] = .tuple [d0, d1, d2, d3, d4] := e
    injection e' with e'
    injection e' with a1 e'
    injection e' with a2 e'
    injection e' with a3 e'
    injection e' with a4 e'
    injection e' with a5 _
    subst a1 a2 a3 a4 a5
    have t : [] ++ ((fns.map Fn.py).take i).map fnOf3 = (fns.take i).map Fn.sig := by
      rw [List.nil_append, ← List.map_take, List.map_map]
      exact List.map_congr_left fun x _ => sig_py x
    rw [t]
    exact g
  rw [step, List.drop_of_length_le (Nat.le_refl _)]
  rfl
theorem OkFn.okN {fns : List Fn} {f : Fn} (ok : OkFn fns f) : OkN 50 f.py := by
  have lets : ∀ l ∈ f.lets.map (·.1), Lett l := fun l m => by
    obtain ⟨q, hq, rfl⟩ := List.mem_map.mp m
    exact (ok.okb q hq).1
  refine okN_tup (n := 49) (by show 5 ≤ 60; decide) fun x m => ?_
  simp only [List.mem_cons, List.not_mem_nil, or_false] at m
  rcases m with e | e | e | e | e <;> rw [e]
  · exact (okN_word ok.wn).mono (by decide)
  · refine (okN_tup (n := 7) (by rw [pyF_map, List.length_map]; have := ok.l2; omega) fun y hy => ?_).mono (by decide)
    rw [pyF_map] at hy
    obtain ⟨q, hq, rfl⟩ := List.mem_map.mp hy
    obtain ⟨w, k0, k3, okk⟩ := ok.okb q hq
    exact okN_two (n := 6) ((okN_lett w).mono (by decide)) ((Wk.of_ok k0 k3 okk).okN fun l h => by cases h)
  · refine (okN_tup (n := 7) (by rw [pyF_map, List.length_map]; have := ok.p4; omega) fun y hy => ?_).mono (by decide)
    rw [pyF_map] at hy
    obtain ⟨q, hq, rfl⟩ := List.mem_map.mp hy
    obtain ⟨k0, k3, okk⟩ := ok.pk q hq
    exact okN_two (n := 6) ((okN_word (ok.pw q hq)).mono (by decide)) ((Wk.of_ok k0 k3 okk).okN lets)
  · obtain ⟨k0, k3, okk⟩ := ok.rk
    exact ((Wk.of_ok k0 k3 okk).okN lets).mono (by decide)
  · exact ok.bd.okN lets
theorem OkPr.mem2 {fns : List Fn} (h : OkPr fns) {f : Fn} (m : f ∈ fns) : ∃ pre, OkFn pre f := by
  obtain ⟨i, hi⟩ := List.getElem?_of_mem m
  exact ⟨_, h.at hi⟩
end Sc
namespace Sc
open PySem PySem.Spec PyProof.Rows L2
/-- a def that may raise, called where it does not -/
theorem CalX.calm {P : Program} {w : World} {K : PySem.W.Frag} {mg : Str → Option Value} {base : Heap} {k : Nat} {x : Str} {ps : List Str} {sp : Sp} (C : CalX P w K mg base k x ps sp) : Cal P w K mg base k x ps (fun vs H Q _ => sp vs H Q fun _ _ _ => False) := by
  obtain ⟨f, fd, F, m, kp, b⟩ := C.ex
  refine ⟨f, fd, ⟨fun vs H Q E h => F.len vs H Q _ h, fun A outer s H args us vs Q E hr e0 hb r hsp => codeAny_mono (F.run A outer s H args us vs Q (fun _ _ _ => False) hr e0 hb r hsp) fun res s' h => ?_⟩, m, kp, b⟩
  cases res with
  | ok v => cases v <;> exact h
  | error e =>
    obtain ⟨_, _, _, _, _, _, _, _, _, _, _, _, z⟩ := h
    exact z.elim
end Sc
namespace Sc
open PySem PySem.Spec PyProof.Rows L2
section
variable {P : Program} {w : World} {K : PySem.W.Frag} {mg : Str → Option Value} {base : Heap}
def spLaw (K : PySem.W.Frag) (T0 : List Addr) : Sp := fun vs H Q _ => ∃ (a : Addr) (ns : List Int), vs = [.ref a] ∧ SqL K H a (ns.map V.int) ∧ ns.length ≤ 63 ∧ Tb T0 H ∧ ∀ H', Q (.bl true) H'
def nLaw : List Str := ["_law_script", "_law_s", "_law_program_here", "_law_handed_here", "_law_found", "_law_function_here", "_law_name"]
theorem scLaw : FnScope nLaw ["_law_script"] (defScope sLaw) := ⟨rfl, rfl, rfl, by decide +kernel, rfl, by decide +kernel, by decide +kernel⟩
theorem p_odd (i : Inf) (m : Mv) (n : Int) : putK (stD i m) (.inr "odd") (.int n) = stD { i with odd := n } m := by rfl
theorem ok_law {T0 : List Addr} {cls : Wr → Addr} {f : Addr} {fd : FuncData} (F : Fun K "law" "law" sLaw f fd) (T : Tx K mg) (CP : CalX P w K mg base 86 "need_program" ["program"] (spProg K T0 cls txT)) : FnOk P w K mg base CX0 87 f fd ["_law_script"] (spLaw K T0) := by
  have CG : Cal P w K mg base 2 "_law_begun" ["_law_script"] (spBegun K) := c_begun T
  have CT : Cal P w K mg base 1 "_law_taken" ["_law_s", "_law_most"] (spTaken K) := c_taken T
  have CD : Cal P w K mg base 34 "_law_program" ["_law_s", "_law_many"] (spProgram K) := c_program T
  have CN := CP.calm
  refine F.ok scLaw (fun vs H Q E h => ?_) (fun cdv A outer s0 H vs Q E hr h => ?_)
  · obtain ⟨a, ns, rfl, _⟩ := h
    rfl
  obtain ⟨a, ns, rfl, ha, hl, tb, q⟩ := h
  have hu := hu_of hr
  have r1 : Room 1 _ := hr.mono (show 1 ≤ 86 by decide)
  have r2 : Room 2 _ := hr.mono (show 2 ≤ 86 by decide)
  have r34 : Room 34 _ := hr.mono (show 34 ≤ 86 by decide)
  refine ⟨_, pss_cons (ps_set (i := 1) scLaw.nd rfl (Or.inl rfl) (pe_cal CG r2 (pa_cons (pv 0) pa_nil))) <|
    pss_cons (ps_dput hu (pv 1) pe_str (pe_ix ix_list (pe_lst (pa_cons pe_int (pa_cons pe_int (pa_cons pe_int pa_nil)))) (pe_cal CT r1 (pa_cons (pv 1) (pa_cons pe_int pa_nil))) (fun _ _ => rfl)) rfl) <|
    pss_cons (ps_set (i := 2) scLaw.nd rfl (Or.inl rfl) (pe_cal CD r34 (pa_cons (pv 1) (pa_cons (pe_op op_add pe_int (pe_cal CT r1 (pa_cons (pv 1) (pa_cons pe_int pa_nil)))) pa_nil)))) <|
    pss_cons (ps_set (i := 3) scLaw.nd rfl (Or.inl rfl) (pe_callTy call_list_of (by rfl) T.m_list (by decide +kernel) (pa_cons (pv 2) pa_nil))) <|
    pss_cons (ps_set (i := 4) scLaw.nd rfl (Or.inr rfl) (pe_cal CN hr (pa_cons (pv 3) pa_nil))) <|
    pss_cons (ps_if (PW.pt (pw_or (pt_not (pt_val (pe_callB call_isi (by rfl) T.m_isinstance boot_isinstance (pa_cons (pv 4) (pa_cons (pe_bltn (v := .ty "dict") (by rfl) T.m_dict boot_dict rfl) pa_nil))))) (pw_or1 (pt_cmpR (op_neD hr.units) (pv 3) (pv 2) (nomark _))))) (pss_one (ps_ret pe_bl)) pss_nil) <|
    pss_one (ps_ret (pe_and (pe_cmpR (op_eqD hr.units) (pe_callTy (call_listD rfl) (by rfl) T.m_list (by decide +kernel) (pa_cons (pv 4) pa_nil))
        (pe_lc (own := [("_law_function_here", 5)]) (g := gName 5) (tt := tYes) rfl scLaw.nd (pi_list (pv 2)) (blkOk_by (N := nLaw) (sc := defScope sLaw) (by decide +kernel)) (fun _ _ _ _ _ => pg_name (i := 5) scLaw.nd rfl (Or.inl rfl)) (fun _ _ _ _ _ => pts_nil) (fun _ _ _ _ _ => pe_ix (ix_tupK K) (pv 5) pe_int (fun _ _ => rfl))) (nomark _))
      (pe_one (pe_cmpR (op_eqD hr.units) (pe_lock (pe_lc (own := [("_law_name", 6)]) (g := gName 6) (tt := tYes) rfl scLaw.nd (pi_keys (pv 4)) (blkOk_by (N := nLaw) (sc := defScope sLaw) (by decide +kernel)) (fun _ _ _ _ _ => pg_name (i := 6) scLaw.nd rfl (Or.inl rfl)) (fun _ _ _ _ _ => pts_nil) (fun _ _ _ _ _ => pe_dget hu (pv 4) (pv 6) (fun _ _ => rfl)))) (pv 2) (nomark _))))), ?_⟩
  refine ⟨_, rfl, a, ns, rfl, ha, hl, fun s i0 H1 e1 hs ic io hf0 hf1 S1 => ?_⟩
  have tb1 := (Fr.same tb e1).tab
  dsimp only [gName]
  obtain ⟨ns1, mv, hs1, hc1, hl1, iok0, mok⟩ := id S1
  have h1s : H1 s = some (.dK (stD i0 mv)) := hs1
  have nfs : i0.f ≠ s := fun z => by rw [z, h1s] at hf0; cases hf0
  have cf0 : i0.c ≠ i0.f ∨ ∃ ns : List Int, ns.length ≤ 63 ∧ ∀ H, SqL K H i0.c (ns.map V.int) := by
    rw [ic]
    rcases ha with (h | ⟨u, h⟩) | h
    · exact .inl fun z => by rw [z, hf1] at h; cases h
    · exact .inl fun z => by rw [z, hf1] at h; cases h
    · exact .inr ⟨ns, hl, fun _ => .inr h⟩
  -- how odd
  refine ⟨(by show 3 ≤ sizeLine; decide), fun D hD => ⟨_, rfl, s, i0, 3, rfl, S1.same (same_new hD _), by decide, by decide, fun r H2 r0 r3 x2 S2 => ?_⟩⟩
  have x12 := (Ext.same (same_new hD _)).trans x2
  obtain ⟨n, hn, n0, n8⟩ : ∃ n : Int, ([.int 0, .int 8, .int 1] : List V)[r.toNat]? = some (.int n) ∧ 0 ≤ n ∧ n ≤ 8 := by
    have : r = 0 ∨ r = 1 ∨ r = 2 := by omega
    rcases this with h | h | h <;> rw [h]
    · exact ⟨0, rfl, by decide, by decide⟩
    · exact ⟨8, rfl, by decide, by decide⟩
    · exact ⟨1, rfl, by decide, by decide⟩
  have hD2 := x2 _ _ (S1.ne hD) upd_same
  refine ⟨D, _, r.toNat, .int n, rfl, by rw [Int.toNat_of_nonneg r0], .inl (.inl hD2), at_of (j := r.toNat) rfl hn, ?_⟩
  obtain ⟨ns2, mv2, hs2, hc2, hl2, iok2, mok2⟩ := id S2
  refine ⟨_, rfl, s, _, rfl, pS hs2 (p_odd i0 mv2 n), ?_⟩
  have x3 := x12.trans (Ext.upd s H2 (.dK (stD { i0 with odd := n } mv2)))
  have iok : ({ i0 with odd := n } : Inf).Ok := { iok0 with k0 := iok0.k0, k1 := iok0.k1 }
  have S3 : IsS K (upd H2 s (.dK (stD { i0 with odd := n } mv2))) s { i0 with odd := n } := ⟨ns2, mv2, upd_same, (Ext.upd s H2 _).seq hs2 hc2, hl2, iok, mok2⟩
  have W3 : Ev K (upd H2 s (.dK (stD { i0 with odd := n } mv2))) s { i0 with odd := n } [] := ⟨S3, n0, n8, nfs, ⟨[], x3 _ _ nfs hf0, rfl, fun j v f a _ => by cases a⟩, .nil, Nat.zero_le _, cf0⟩
  have tb3 := tb1.ext S1 x3
  generalize (upd H2 s (.dK (stD { i0 with odd := n } mv2))) = H3 at W3 x3 tb3 ⊢
  have ifn : ({ i0 with odd := n } : Inf).f = i0.f := rfl
  generalize ({ i0 with odd := n } : Inf) = i at W3 ifn
  clear S3 S2 hs2 hc2 x12 hD2 hD hn x2 iok iok0
  dsimp only [gName]
  -- the program
  refine ⟨_, rfl, _, rfl, s, i, 3, rfl, W3.S, by decide, by decide, fun m H4 m0 m2 x4 S4 => ⟨_, _, rfl, rfl, s, i, (1 + m).toNat, ?_, W3.ext x4 S4, by omega, fun l H5 fns us x5 W5 lf hl5 hus nls nlf hl4 => ?_⟩⟩
  · show ([.ref s, .int (1 + m)] : List V) = _
    rw [Int.toNat_of_nonneg (by omega)]
  dsimp only [gName]
  obtain ⟨us4, hf4, _⟩ := (W3.ext x4 S4).fn
  obtain ⟨kvs4, hs4⟩ := S4.dk
  have tb4 := tb3.ext W3.S x4
  have tb5 : Tb T0 H5 := fun P hP => by
    obtain ⟨ps, h, g⟩ := tb4 P hP
    exact ⟨ps, x5 _ _ (fun z => by rw [z, hs4] at h; cases h) (fun z => by rw [z, hf4] at h; cases h) h, g⟩
  clear x5 hf4 hs4 tb4 x4 S4 hl4 m0 m2 lf
  -- handed on
  refine ⟨_, rfl, l, us, rfl, .inl (SqL.of hl5), fun l2 hl2 => ?_⟩
  have e6 := same_new hl2 (.lst us)
  have W6 := W5.same e6
  have hus6 := hus.keep (Same.keep e6) fun a xs q => q.same e6
  have tb6 := (Fr.same tb5 e6).tab
  have hl6 := e6 _ _ hl5
  have h26 : (upd H5 l2 (.lst us)) l2 = some (.lst us) := upd_same
  generalize (upd H5 l2 (.lst us)) = H6 at W6 hus6 tb6 hl6 h26 ⊢
  clear e6 hl2 tb5 W5 hus hl5
  dsimp only [gName]
  have pr := W6.pr
  have f3 := W6.f3
  have dts := hus6.dts
  have dp : DpAll K H6 us (fns.map Fn.py) := dpAll_of dts.1 fun j v d q1 q2 => Dt.dp (dts.2 j v d q1 q2)
  have ok50 : ∀ d ∈ fns.map Fn.py, OkN 50 d := fun d m => by
    obtain ⟨f, hf, rfl⟩ := List.mem_map.mp m
    obtain ⟨pre, ok⟩ := pr.mem2 hf
    exact ok.okN
  refine ⟨_, rfl, l2, us, fns.map Fn.py, rfl, SqL.of h26, dp, by rw [List.length_map]; omega, fun d m => ⟨(ok50 d m).ok (by decide), OkPr.is5 d m⟩, tb6, fun _ b H7 kvs f7 hk hkeys hvals => ?_, fun e he => by rw [pr.good] at he; cases he⟩
  dsimp only [gName]
  have k7 := Fr.keep (K := K) tb6 f7
  have dp7 : DpAll K H7 us (fns.map Fn.py) := k7.dps dp
  have sh : SeqAt.shaped (.list (fns.map Fn.py)) = true := shaped_lst ok50 (by decide)
  have eqr := SeqAt.eqv_refl _ (SeqAt.canLay_of_shaped sh)
  show tOr _ _ _ _ _
  refine ⟨_, rfl, _, _, _, _, true, rfl, .ty _, .base (.dK hk), kit_ty (by decide +kernel : kitB "dict" "dict" = some true), _, rfl, iteF ?_⟩
  refine ⟨_, rfl, _, rfl, _, _, .lst (k7.1 _ _ (SqL.of h26)) dp7, .lst (k7.1 _ _ (SqL.of hl6)) dp7, sh, sh, ?_⟩
  rw [eqr]
  refine ⟨_, rfl, iteF ?_⟩
  dsimp only [tNext, gName]
  clear dp S1 hs hf0 hf1 x3 tb3 tb1 e1 hc1 mok h1s
  -- the names
  have nd : (fns.map (·.name)).Nodup := by
    have : ∀ {l : List Fn}, OkPr l → (l.map (·.name)).Nodup := fun {l} h => by
      induction h with
      | nil => exact List.nodup_nil
      | @snoc l g _ og ih =>
        rw [List.map_append]
        exact List.nodup_append.mpr ⟨ih, by simp, fun x m y m2 e => og.new (by rw [List.map_cons, List.map_nil, List.mem_singleton] at m2; rw [← m2, ← e]; exact m)⟩
    exact this pr
  obtain ⟨xs, exs⟩ : ∃ xs : List (Str × Fn), xs = fns.map fun f => (f.name, f) := ⟨_, rfl⟩
  have x1 : xs.map (·.1) = fns.map (·.name) := by rw [exs, List.map_map]; rfl
  have lx : us.length = xs.length := by rw [exs, List.length_map]; exact hus6.1
  have ekv : kvs = zipK xs us := List.zip_of_prod (by
    rw [hkeys, exs, List.map_map, List.map_map]
    exact List.map_congr_left fun f _ => by show (Sum.inr (fnOf3 f.py).1 : Key) = _; rw [sig_py]; rfl) hvals
  rw [ekv] at hk
  have ek : ((zipK xs us).map fun p => kV p.1) = (fns.map (·.name)).map V.str := by
    rw [← x1]
    show ((zipK xs us).map (kV ∘ Prod.fst)) = _
    rw [← List.map_map]
    unfold zipK
    rw [List.map_fst_zip (by rw [List.length_map]; omega), List.map_map, List.map_map]
    rfl
  clear ekv hkeys hvals
  refine ⟨_, rfl, b, _, rfl, .inl hk, fun M hM => ?_⟩
  have e8 := same_new hM (.lst ((zipK xs us).map fun p => kV p.1))
  have hM8 : (upd H7 M (.lst ((zipK xs us).map fun p => kV p.1))) M = some (.lst ((fns.map (·.name)).map V.str)) := by rw [upd_same, ek]
  have hk8 := e8 _ _ hk
  have hl8 := Same.seq e8 (k7.1 _ _ (SqL.of hl6))
  have dts8 := (Same.keep e8).dts (k7.2.dts dts)
  generalize (upd H7 M (.lst ((zipK xs us).map fun p => kV p.1))) = H8 at e8 hM8 hk8 hl8 dts8 ⊢
  clear k7 dp7 hk f7 tb6 hl6 h26 hM
  -- the first: the names in their order
  refine ⟨_, rfl, l, rfl, ⟨_, hl8⟩, fun D hD => ?_⟩
  have e9 := same_new hD (.lst [])
  refine lc_list (K := K) (a := l) (xs := us) (fun j H9 => Same H8 H9 ∧ H9 D = some (.lst (((fns.map (·.name)).take j).map V.str))) ⟨e9, upd_same⟩ (fun j H9 _ h => Same.seq h.1 hl8) ?_ ?_
  · rintro j v H9 hv ⟨e9, h9⟩
    obtain ⟨d, hd1, hd2⟩ := dts8.at hv
    rw [List.getElem?_map] at hd1
    obtain ⟨g, hg, rfl⟩ := Option.map_eq_some_iff.mp hd1
    obtain ⟨p, vs, rfl, h2, h3⟩ := ((Same.keep e9).dt hd2).open
    obtain ⟨v0, vr, rfl, h4, _⟩ := h3.uncons
    cases h4
    refine ⟨rfl, _, rfl, p, _, 0, .str g.name, rfl, rfl, h2, at_of (j := 0) rfl rfl, _, h9, ?_, fun b o hb => ?_, ?_⟩
    · rw [List.length_map]
      exact small1000 (Nat.le_trans (List.length_take_le' _ _) (by rw [List.length_map]; omega))
    · rw [upd_ne (ne_of_none hb hD)]
      exact e9 b o hb
    · rw [upd_same, List.take_add_one, List.getElem?_map, hg, List.map_append]
      rfl
  rintro H9 ⟨e9, h9⟩
  have lf : (fns.map (·.name)).take us.length = fns.map (·.name) := List.take_of_length_le (by rw [List.length_map, hus6.1]; exact Nat.le_refl _)
  rw [lf] at h9
  have dpS : ∀ (H : Hp) (zs : List Str), DpAll K H (zs.map V.str) (zs.map PyData.str) := fun H zs => by
    induction zs with
    | nil => exact .nil
    | cons z zs ih => exact .cons (.str z) ih
  have oks : ∀ d ∈ (fns.map (·.name)).map PyData.str, OkN 0 d := fun d m => by
    obtain ⟨z, hz, rfl⟩ := List.mem_map.mp m
    obtain ⟨g, hg, rfl⟩ := List.mem_map.mp hz
    obtain ⟨pre, ok⟩ := pr.mem2 hg
    exact okN_word ok.wn
  have shs : SeqAt.shaped (.list ((fns.map (·.name)).map PyData.str)) = true := shaped_lst oks (by decide)
  refine ⟨_, _, .lst (SqL.of (e9 _ _ hM8)) (dpS _ _), .lst (SqL.of h9) (dpS _ _), shs, shs, ?_⟩
  rw [SeqAt.eqv_refl _ (SeqAt.canLay_of_shaped shs)]
  refine ⟨true, rfl, iteT ?_⟩
  -- the second: the functions by their names
  have hk9 := e9 _ _ hk8
  have hl9 := Same.seq e9 hl8
  have dts9 := (Same.keep e9).dts dts8
  clear e9 h9 hM8 hk8 hl8 dts8 e8
  refine ⟨b, _, hk9, trivial, fun od => ⟨_, rfl, b, od, rfl, .inl ⟨_, upd_same, fun F hF => ?_⟩⟩⟩
  have G0 : (upd H9 b (.frz od (.dK (zipK xs us)))) b = some (.frz od (.dK (zipK xs us))) := upd_same
  have eF := same_new hF (.lst [])
  have un : ∀ {H' : Hp}, Same (upd H9 b (.frz od (.dK (zipK xs us)))) H' → Same H9 (upd H' b (.dK (zipK xs us))) := fun e => unlock_same hk9 e
  generalize (upd H9 b (.frz od (.dK (zipK xs us)))) = G at G0 eF un hF ⊢
  have nFb : F ≠ b := fun z => by rw [z, G0] at hF; cases hF
  refine lc_keysK (fun j H3 => Same G H3 ∧ H3 F = some (.lst (us.take j))) ⟨eF, upd_same⟩ (fun j H3 _ h => h.1 _ _ G0) ?_ ?_
  · rintro j key v H3 hkv ⟨e3, h3⟩
    obtain ⟨hk1, hv1⟩ := List.getElem?_zip_eq_some.mp (show ((xs.map fun q => (Sum.inr q.1 : Key)).zip us)[j]? = some (key, v) from hkv)
    rw [List.getElem?_map] at hk1
    obtain ⟨pb, hpb, rfl⟩ := Option.map_eq_some_iff.mp hk1
    refine ⟨rfl, _, rfl, _, rfl, b, v, rfl, .inl ⟨_, Sum.inr pb.1, .inr ⟨od, e3 _ _ G0⟩, rfl, (zipK_get (by rw [x1]; exact nd) hpb hv1).symm⟩, _, h3, small1000 (Nat.le_trans (List.length_take_le' _ _) (by rw [hus6.1]; omega)), fun c o hc => ?_, ?_⟩
    · rw [upd_ne (ne_of_none hc hF)]
      exact e3 c o hc
    · rw [upd_same, List.take_add_one, hv1]
      rfl
  rintro H3 ⟨e3, h3⟩
  rw [zipK_len lx, ← lx, List.take_length] at h3
  refine ⟨e3 _ _ G0, ?_⟩
  have e10 := un e3
  have h4 : (upd H3 b (.dK (zipK xs us))) F = some (.lst us) := by rw [upd_ne nFb]; exact h3
  have dts10 := (Same.keep e10).dts dts9
  have dp10 : DpAll K _ us (fns.map Fn.py) := dpAll_of dts10.1 fun j v d q1 q2 => Dt.dp (dts10.2 j v d q1 q2)
  refine ⟨_, rfl, _, _, .lst (SqL.of h4) dp10, .lst (Same.seq e10 hl9) dp10, sh, sh, ?_⟩
  rw [eqr]
  exact q _
end
end Sc
namespace Sc
open PySem PySem.Spec PyProof.Rows L2
/-! ### the tables of the top, read -/
def keyT (e : DictEntry) : Option Str := match e.key with
  | .str x _ => some x
  | _ => none
def strsV : List Value → Option (List Str)
  | [] => some []
  | .str x _ :: r => (strsV r).map (x :: ·)
  | _ :: _ => none
def tupV (K : PySem.W.Frag) : Value → Option (List Str)
  | .ref t => match K.lookup t with
    | some ⟨.type c, _, .seq its _, _⟩ => if c = "tuple" ∧ its.size ≤ 100 then strsV its.toList else none
    | _ => none
  | _ => none
theorem strsV_vals : ∀ {us : List Value} {zs : List Str}, strsV us = some zs → Vals (zs.map V.str) us
  | [], zs, h => by
    have e : zs = [] := (Option.some.inj h).symm
    rw [e]
    exact .nil
  | u :: us, zs, h => by
    cases u with
    | str x t =>
      have h' : (strsV us).map (x :: ·) = some zs := h
      obtain ⟨ys, h1, h2⟩ := Option.map_eq_some_iff.mp h'
      rw [← h2]
      exact .cons ⟨t, rfl⟩ (strsV_vals h1)
    | _ => cases h
theorem tupV_at {K : PySem.W.Frag} {v : Value} {zs : List Str} (h : tupV K v = some zs) : ∃ t : Addr, v = .ref t ∧ ∀ H : Hp, SqT K H t (zs.map V.str) := by
  cases v with
  | ref t =>
    refine ⟨t, rfl, fun H => .inr ?_⟩
    unfold tupV at h
    dsimp only at h
    split at h
    · rename_i c dd its n sl e
      split at h
      · rename_i q
        exact ⟨_, its, n, e, by show Value.type c = .type "tuple"; rw [q.1], rfl, sizeOk (by omega), strsV_vals h⟩
      · cases h
    · cases h
  | _ => cases h
theorem entries_at {α : Type} {rd : Value → Option α} : ∀ {es : List DictEntry} {tb : List (Str × α)}, es.map (fun e => (keyT e, rd e.val)) = tb.map (fun p => (some p.1, some p.2)) →
    (∀ z, match tb.lookup z with
      | some x => ∃ e, es.find? (·.key.isStr z) = some e ∧ rd e.val = some x
      | none => es.find? (·.key.isStr z) = none) ∧ es.any (·.refKey) = false
  | [], [], _ => ⟨fun z => rfl, rfl⟩
  | [], _ :: _, h => by cases h
  | _ :: _, [], h => by cases h
  | e :: es, (k, x) :: tb, h => by
    rw [List.map_cons, List.map_cons] at h
    injection h with h1 h2
    injection h1 with h3 h4
    obtain ⟨i1, i2⟩ := entries_at h2
    have hk : ∃ t, e.key = .str k t := by
      unfold keyT at h3
      split at h3
      · rename_i y t q
        have h3' : some y = some k := h3
        exact ⟨t, by rw [q, Option.some.inj h3']⟩
      · cases h3
    obtain ⟨t, hk⟩ := hk
    refine ⟨fun z => ?_, ?_⟩
    · rw [List.lookup_cons, List.find?_cons]
      have e1 : e.key.isStr z = (z == k) := by
        have e0 : e.key.isStr z = (k == z) := by rw [hk]; rfl
        rw [e0]
        exact BEq.comm
      rw [e1]
      cases q : (z == k) with
      | true => exact ⟨e, rfl, h4⟩
      | false => exact i1 z
    · rw [List.any_cons, i2]
      have : e.refKey = false := by
        unfold DictEntry.refKey
        rw [hk]
      rw [this]
      rfl
theorem ns_at {α : Type} {K : PySem.W.Frag} {rd : Value → Option α} {d : Addr} {es : Array DictEntry} {n : Nat} {tb : List (Str × α)} (l : K.lookup d = some ⟨.type "dict", none, .dict es n, #[]⟩) (h : es.toList.map (fun e => (keyT e, rd e.val)) = tb.map (fun p => (some p.1, some p.2))) :
    (∀ z x, tb.lookup z = some x → ∃ u, PySem.W.nsIn K d z = some (some u) ∧ rd u = some x) ∧ ∀ z, tb.lookup z = none → PySem.W.nsIn K d z = some none := by
  obtain ⟨h1, h2⟩ := entries_at h
  refine ⟨fun z x e => ?_, fun z e => ?_⟩
  · have := h1 z
    rw [e] at this
    obtain ⟨en, a, b⟩ := this
    refine ⟨en.val, ?_, b⟩
    unfold PySem.W.nsIn
    rw [l]
    dsimp only
    rw [a]
  · have := h1 z
    rw [e] at this
    unfold PySem.W.nsIn
    rw [l]
    dsimp only
    rw [this]
    dsimp only
    rw [h2]
    rfl
theorem FT.of {K : PySem.W.Frag} {w : World} {h : Heap} {mg : Str → Option Value} (X : K.In h) (G : h.Ns mainGlobals mg) {FA : Addr} {es : Array DictEntry} {n : Nat} (a : PySem.W.nsIn K mainGlobals "FORMS" = some (some (.ref FA))) (l : K.lookup FA = some ⟨.type "dict", none, .dict es n, #[]⟩) (kl : PySem.W.KeysLit w.params es.toList) (low : (FA == sysModules) = false)
    (e : es.toList.map (fun e => (keyT e, tupV K e.val)) = formTab.map (fun p => (some p.1, some p.2))) : FT K w mg FA := by
  obtain ⟨h1, h2⟩ := ns_at l e
  refine ⟨PySem.W.mg_of X G a, ⟨es, n, l, kl, low⟩, fun z fm q => ?_, h2⟩
  obtain ⟨u, a1, a2⟩ := h1 z fm q
  obtain ⟨t, rfl, a3⟩ := tupV_at a2
  exact ⟨t, a1, a3⟩
def refV : Value → Option Addr
  | .ref f => some f
  | _ => none
theorem NT.of {K : PySem.W.Frag} {w : World} {h : Heap} {mg : Str → Option Value} (X : K.In h) (G : h.Ns mainGlobals mg) {NA : Addr} {es : Array DictEntry} {n : Nat} (a : PySem.W.nsIn K mainGlobals "NEEDS" = some (some (.ref NA))) (l : K.lookup NA = some ⟨.type "dict", none, .dict es n, #[]⟩) (kl : PySem.W.KeysLit w.params es.toList)
    (e : needTab.map (fun q => PySem.W.nsIn K NA q.1) = needTab.map (fun q => PySem.W.nsIn K mainGlobals q.2)) (e2 : (needTab.all fun q => match PySem.W.nsIn K NA q.1 with | some (some (.ref _)) => true | _ => false) = true) : NT K w mg NA := by
  refine ⟨PySem.W.mg_of X G a, fun q hq => ?_⟩
  have z := List.all_eq_true.mp e2 q hq
  split at z
  · rename_i f hf
    have e3 : PySem.W.nsIn K NA q.1 = PySem.W.nsIn K mainGlobals q.2 := List.map_inj_left.mp e q hq
    exact ⟨f, ⟨es, n, .ref f, l, kl, hf, rfl⟩, PySem.W.mg_of X G (by rw [← e3]; exact hf)⟩
  · cases z
end Sc
namespace Sc
open PySem PyProof.Rows L2
def kitW : Wr → Wr → Bool
  | .bk, .bk | .bp, .bp | .nn, .nn | .tt, .tt | .nn, .bp | .tt, .bp => true
  | _, _ => false
structure Er4 (K : PySem.W.Frag) (mg : Str → Option Value) (CS : Addr) (cls : Wr → Addr) : Prop where
  e : Ers K mg cls
  gS : mg "SoothError" = some (.ref CS)
  xm : ∀ x, PySem.W.exmOne K (.ref (cls x)) (.ref CS) = some true
  ec : ∀ x, ExcC K (cls x)
  kV : ∀ x, PySem.W.kitOne K (.ref (cls x)) (.type "ValueError") = some true
  kt : ∀ x y, PySem.W.kitOne K (.ref (cls x)) (.ref (cls y)) = some (kitW x y)
end Sc
namespace Sc
open PySem PySem.Spec PyProof.Rows L2
theorem walkT {l : PySem.W.OpenLaw} {q : Program} {loose : List Str} {XP : (Str → Option Value) → Heap → Prop} {YP : World → Heap → Prop} {d : DefRec} {K : Params → PySem.W.Frag} (hn : l.most = some 63) (hdf : d.params.defaults = [])
    (hY : ∀ (w : World) (h : Heap), YP w h → (K w.params).In h)
    (F : ∀ (w : World) (mg mb : Str → Option Value) (lo : List Str) (mean : ExcName → Option Value) (fa : Addr) (h : Heap), (K w.params).In h → Top q lo mean mg mb h → mg d.name = some (.ref fa) → LamX.LawAtS l w (K w.params) CX0 87 63 "_law_script" mg fa h) :
    PySem.W.WalkO q loose XP YP l.row.toRowW d [] (fun f vs => PySem.call f vs) := by
  refine Att.attach_callB hn hdf fun w s₀ s₁ mg mb fa o pm cd doc a vs ns G Y ho hd hcd hmg hobj hints hlen hbits hg => ?_
  have KX := hY w _ Y
  obtain ⟨fd, cs, sp, hT, nT, C, hb, hsp, hF⟩ := F w mg mb _ _ fa _ KX G.T hmg
  exact LamX.law_callTs KX G.T.g G.T.b G.T.builtins G.T.nolimit hg hT nT C G.T.bmain hobj hints (Nat.le_trans hlen (by decide)) ⟨rfl, by decide, by decide⟩ hF hb (fun H hH hS => hsp H a ns hlen hbits hH hS) fun H e s' => fun z => z
def clsOf (a b c d : Addr) : Wr → Addr
  | .bk => a
  | .bp => b
  | .nn => c
  | .tt => d
theorem law_endT {l : PySem.W.OpenLaw} {w : World} {K : PySem.W.Frag} {h : Heap} {q : Program} {lo : List Str} {mean : ExcName → Option Value} {mg mb : Str → Option Value} {fa f c1 P1 c2 P2 c3 P3 CS Ck Cp Cn Ct C f1 FA NA : Addr} (X : K.In h) (TT : Top q lo mean mg mb h) (hfa : mg "law" = some (.ref fa)) (T : Tx K mg)
    (D1 : DefT K mg "has_word_signs" sHasWordSigns ["text"] c1) (t1 : PySem.W.tabIn K "has_word_signs" = some (c1, P1)) (r1 : ((recsOf q).find? (fun e => e.name == ("has_word_signs" : Str))).isSome = true) (n1 : K.lookup P1 = none)
    (D2 : DefT K mg "is_letter" sIsLetter ["thing"] c2) (t2 : PySem.W.tabIn K "is_letter" = some (c2, P2)) (r2 : ((recsOf q).find? (fun e => e.name == ("is_letter" : Str))).isSome = true) (n2 : K.lookup P2 = none)
    (D3 : DefT K mg "_need_text" sPNeedText ["told", "place"] c3) (t3 : PySem.W.tabIn K "_need_text" = some (c3, P3)) (r3 : ((recsOf q).find? (fun e => e.name == ("_need_text" : Str))).isSome = true) (n3 : K.lookup P3 = none)
    (gS : mg "SoothError" = some (.ref CS)) (Ek : Ec K mg "BadKind" Ck) (Ep : Ec K mg "BadProgram" Cp) (En : Ec K mg "NoName" Cn) (Et : Ec K mg "TwiceTold" Ct)
    (xm_bk : PySem.W.exmOne K (.ref Ck) (.ref CS) = some true) (xm_bp : PySem.W.exmOne K (.ref Cp) (.ref CS) = some true) (xm_nn : PySem.W.exmOne K (.ref Cn) (.ref CS) = some true) (xm_tt : PySem.W.exmOne K (.ref Ct) (.ref CS) = some true) (xc_bk : ExcC K Ck) (xc_bp : ExcC K Cp) (xc_nn : ExcC K Cn) (xc_tt : ExcC K Ct) (kv_bk : PySem.W.kitOne K (.ref Ck) (.type "ValueError") = some true) (kv_bp : PySem.W.kitOne K (.ref Cp) (.type "ValueError") = some true) (kv_nn : PySem.W.kitOne K (.ref Cn) (.type "ValueError") = some true) (kv_tt : PySem.W.kitOne K (.ref Ct) (.type "ValueError") = some true)
    (kt_bkbk : PySem.W.kitOne K (.ref Ck) (.ref Ck) = some true) (kt_bkbp : PySem.W.kitOne K (.ref Ck) (.ref Cp) = some false) (kt_bknn : PySem.W.kitOne K (.ref Ck) (.ref Cn) = some false) (kt_bktt : PySem.W.kitOne K (.ref Ck) (.ref Ct) = some false) (kt_bpbk : PySem.W.kitOne K (.ref Cp) (.ref Ck) = some false) (kt_bpbp : PySem.W.kitOne K (.ref Cp) (.ref Cp) = some true) (kt_bpnn : PySem.W.kitOne K (.ref Cp) (.ref Cn) = some false) (kt_bptt : PySem.W.kitOne K (.ref Cp) (.ref Ct) = some false) (kt_nnbk : PySem.W.kitOne K (.ref Cn) (.ref Ck) = some false) (kt_nnbp : PySem.W.kitOne K (.ref Cn) (.ref Cp) = some true) (kt_nnnn : PySem.W.kitOne K (.ref Cn) (.ref Cn) = some true) (kt_nntt : PySem.W.kitOne K (.ref Cn) (.ref Ct) = some false) (kt_ttbk : PySem.W.kitOne K (.ref Ct) (.ref Ck) = some false) (kt_ttbp : PySem.W.kitOne K (.ref Ct) (.ref Cp) = some true) (kt_ttnn : PySem.W.kitOne K (.ref Ct) (.ref Cn) = some false) (kt_tttt : PySem.W.kitOne K (.ref Ct) (.ref Ct) = some true)
    {od1 an1 : Option Addr} {sl1 : Array (Option Value)} {oc1 kV1 dc1 pm1 cd1 ct1 : Value} (gC : mg "Place" = some (.ref C))
    (a1 : PySem.W.findIn K (.ref C) "__init__" = some (some (.ref f1))) (i1 : PySem.W.isFn K (.ref f1) = true) (l1 : K.lookup f1 = some ⟨oc1, od1, .func (PySem.W.fnOf "__init__" "Place.__init__" (defArgs sPlaceInit) (defBody sPlaceInit) (defScope sPlaceInit) .none kV1 dc1 pm1 an1 cd1 ct1), sl1⟩) (cc1 : PySem.W.codeIn K cd1 "Place.__init__" = true) (k1 : PySem.W.keepIn K (.ref f1) = true)
    (pg : PySem.W.plainGet K C Str.empty = true) (hd : PySem.W.hasDictIn K C = true) (po : PySem.W.plainOver K C = true) (sa : PySem.W.findIn K (.ref C) "__setattr__" = some (some (.builtin "object.__setattr__"))) (mk : PySem.W.makesIn K C = true) (kc : PySem.W.keepIn K (.ref C) = true)
    (nA : PySem.W.findIn K (.ref C) "letters" = some none) (nB : PySem.W.findIn K (.ref C) "functions" = some none) (nC : PySem.W.findIn K (.ref C) "names" = some none) (nD : PySem.W.findIn K (.ref C) "room" = some none)
    (F : FT K w mg FA) (N : NT K w mg NA) (g8 : ∃ t, mg "LONGEST_WORD" = some (.int 8 t)) (d8 : ∃ t, mg "DEEPEST_KIND" = some (.int 8 t)) (m12 : ∃ t, mg "MOST_FUNCTIONS" = some (.int 12 t)) (b12 : ∃ t, mg "DEEPEST_BODY" = some (.int 12 t)) (b37 : ∃ t, mg "BARRED_SIGN" = some (.int 37 t))
    {oc : Value} {od an : Option Addr} {osl : Array (Option Value)} {kVl doc pm cdv ct : Value}
    (a : PySem.W.nsIn K mainGlobals "law" = some (some (.ref f))) (lk : K.lookup f = some ⟨oc, od, .func (PySem.W.fnOf "law" "law" (defArgs sLaw) (defBody sLaw) (defScope sLaw) .none kVl doc pm an cdv ct), osl⟩) (c : PySem.W.codeIn K cdv "law" = true) (k : PySem.W.keepIn K (.ref f) = true) :
    LamX.LawAtS l w K CX0 87 63 "_law_script" mg fa h := by
  have e := hfa.symm.trans (PySem.W.mg_of X TT.g a)
  cases e
  obtain ⟨d1, e1⟩ := Option.isSome_iff_exists.mp r1
  obtain ⟨h1, g1⟩ := PySem.W.tab_of TT X e1 t1
  obtain ⟨d2, e2⟩ := Option.isSome_iff_exists.mp r2
  obtain ⟨h2, g2⟩ := PySem.W.tab_of TT X e2 t2
  obtain ⟨d3, e3⟩ := Option.isSome_iff_exists.mp r3
  obtain ⟨h3, g3⟩ := PySem.W.tab_of TT X e3 t3
  have ER : Er4 K mg CS (clsOf Ck Cp Cn Ct) := ⟨⟨Ek, Ep, En, Et⟩, gS, fun | .bk => xm_bk | .bp => xm_bp | .nn => xm_nn | .tt => xm_tt, fun | .bk => xc_bk | .bp => xc_bp | .nn => xc_nn | .tt => xc_tt, fun | .bk => kv_bk | .bp => kv_bp | .nn => kv_nn | .tt => kv_tt,
    fun | .bk, .bk => kt_bkbk | .bk, .bp => kt_bkbp | .bk, .nn => kt_bknn | .bk, .tt => kt_bktt | .bp, .bk => kt_bpbk | .bp, .bp => kt_bpbp | .bp, .nn => kt_bpnn | .bp, .tt => kt_bptt | .nn, .bk => kt_nnbk | .nn, .bp => kt_nnbp | .nn, .nn => kt_nnnn | .nn, .tt => kt_nntt | .tt, .bk => kt_ttbk | .tt, .bp => kt_ttbp | .tt, .nn => kt_ttnn | .tt, .tt => kt_tttt⟩
  refine ⟨PySem.W.fnOf "law" "law" (defArgs sLaw) (defBody sLaw) (defScope sLaw) .none kVl doc pm an cdv ct, [(c1, P1), (c2, P2), (c3, P3)], spLaw K [P1, P2, P3], ?_, ?_, ?_, fun s v => .of_eq rfl, ?_, ?_⟩
  · intro p hp
    rcases List.mem_cons.mp hp with z | hp
    · rw [z]; exact g1
    rcases List.mem_cons.mp hp with z | hp
    · rw [z]; exact g2
    rw [List.mem_singleton.mp hp]; exact g3
  · intro p hp
    rcases List.mem_cons.mp hp with z | hp
    · rw [z]; exact n1
    rcases List.mem_cons.mp hp with z | hp
    · rw [z]; exact n2
    rw [List.mem_singleton.mp hp]; exact n3
  · intro p hp
    rcases List.mem_cons.mp hp with z | hp
    · rw [z]; exact h1
    rcases List.mem_cons.mp hp with z | hp
    · rw [z]; exact h2
    rw [List.mem_singleton.mp hp]; exact h3
  · intro H a ns hl _ ht hS
    refine ⟨a, ns, rfl, hS, hl, fun P hP => ?_, fun _ => rfl⟩
    rcases List.mem_cons.mp hP with z | z
    · exact ⟨#[], by rw [z]; exact ht (c1, P1) List.mem_cons_self, True.intro⟩
    rcases List.mem_cons.mp z with z | z
    · exact ⟨#[], by rw [z]; exact ht (c2, P2) (List.mem_cons_of_mem _ List.mem_cons_self), True.intro⟩
    · exact ⟨#[], by rw [List.mem_singleton.mp z]; exact ht (c3, P3) (List.mem_cons_of_mem _ (List.mem_cons_of_mem _ List.mem_cons_self)), True.intro⟩
  · intro base KX G TB
    have T1 := TB (c1, P1) List.mem_cons_self
    have T2 := TB (c2, P2) (List.mem_cons_of_mem _ List.mem_cons_self)
    have T3 := TB (c3, P3) (List.mem_cons_of_mem _ (List.mem_cons_of_mem _ List.mem_cons_self))
    have FP := fun_mk (st := sPlaceInit) l1 cc1 k1
    have bP := FP.binds (ps := ["self", "letters", "functions", "names", "room"]) fun _ _ _ _ _ _ us hl => match us, hl with | [_, _, _, _, _], _ => rfl
    have LP : PlC l.prog w K mg base C := ⟨⟨pg, hd, po, sa⟩, nA, nB, nC, nD, gC, ⟨_, _, ok_plinit FP ⟨pg, hd, po, sa⟩ nA nB nC nD, ⟨mk, a1, i1, kc⟩, bP⟩⟩
    have CW := c_is_word (P := l.prog) (w := w) (base := base) (T0 := [P1, P2, P3]) T (c_word_signs (P := l.prog) (w := w) (base := base) (T0 := [P1, P2, P3]) T D1 ⟨T1.code, T1.bm, T1.gP⟩ List.mem_cons_self) g8
    have CI := c_is_letter (P := l.prog) (w := w) (base := base) (T0 := [P1, P2, P3]) T D2 ⟨T2.code, T2.bm, T2.gP⟩ (List.mem_cons_of_mem _ List.mem_cons_self) g8
    have CF := c_are_fields (P := l.prog) (w := w) (base := base) (T0 := [P1, P2, P3]) T
    have CL := c_need_letter T ER.e.bk CI g8
    have CK := c_withins T ER.e.bk g8 d8 CW CF CL 9
    have CN := c_need_kind T d8 CK
    have CX0t : ∀ r, CalX l.prog w K mg base 2 "_need_text" ["told", "place"] (spAt K [P1, P2, P3] C (clsOf Ck Cp Cn Ct) r fun _ => gText) := fun r => c_need_text T ER.e D3 ⟨T3.code, T3.bm, T3.gP⟩ (List.mem_cons_of_mem _ (List.mem_cons_of_mem _ List.mem_cons_self)) b37
    have CX : ∀ r, CalX l.prog w K mg base 3 "_need_text" ["told", "place"] (spAtG K [P1, P2, P3] C (clsOf Ck Cp Cn Ct) r (fun _ d => txT d) (fun _ => gText)) := fun r => ((CX0t r).mono (by decide)).imp fun vs H Q E h => at_g (fun _ _ => rfl) vs H Q E h
    have CPt := c_parts txT T ER.e LP F N b12 CW CF CN CX 12
    have CPg := c_need_program txT T ER.e m12 (c_need_function txT T ER.e LP F b12 (by decide) CW CI (c_need_pairs T ER.e) CN CPt)
    exact ok_law (fun_mk (st := sLaw) lk c k) T CPg
end Sc
namespace Sc
open PySem PyProof.Rows L2
/-! ### what the top has written -/
theorem Def.of {K : PySem.W.Frag} {h : Heap} {mg : Str → Option Value} (X : K.In h) (G : h.Ns mainGlobals mg) {x : Str} {st : Stmt} {ps : List Str} {f : Addr} {oc : Value} {od an : Option Addr} {osl : Array (Option Value)} {kV doc pm cdv ct : Value}
    (a : PySem.W.nsIn K mainGlobals x = some (some (.ref f))) (l : K.lookup f = some ⟨oc, od, .func (PySem.W.fnOf x x (defArgs st) (defBody st) (defScope st) .none kV doc pm an cdv ct), osl⟩) (c : PySem.W.codeIn K cdv x = true) (k : PySem.W.keepIn K (.ref f) = true)
    (b : ∀ (kV doc pm : Value) (an : Option Addr) (cdv ct : Value) (us : List Value), us.length = ps.length → bindArgs (PySem.W.fnOf x x (defArgs st) (defBody st) (defScope st) .none kV doc pm an cdv ct) ⟨us, []⟩ = pure (ps.zip us)) : Def K mg x st ps :=
  have F := fun_mk (st := st) l c k
  ⟨⟨f, _, F, PySem.W.mg_of X G a, F.binds b⟩⟩
theorem DefA.of {K : PySem.W.Frag} {h : Heap} {mg : Str → Option Value} (X : K.In h) (G : h.Ns mainGlobals mg) {x y : Str} {st : Stmt} {ps : List Str} {f : Addr} {oc : Value} {od an : Option Addr} {osl : Array (Option Value)} {kV doc pm cdv ct : Value}
    (a : PySem.W.nsIn K mainGlobals x = some (some (.ref f))) (l : K.lookup f = some ⟨oc, od, .func (PySem.W.fnOf y y (defArgs st) (defBody st) (defScope st) .none kV doc pm an cdv ct), osl⟩) (c : PySem.W.codeIn K cdv y = true) (k : PySem.W.keepIn K (.ref f) = true)
    (b : ∀ (kV doc pm : Value) (an : Option Addr) (cdv ct : Value) (us : List Value), us.length = ps.length → bindArgs (PySem.W.fnOf y y (defArgs st) (defBody st) (defScope st) .none kV doc pm an cdv ct) ⟨us, []⟩ = pure (ps.zip us)) : DefA K mg x y st ps :=
  have F := fun_mk (st := st) l c k
  ⟨⟨f, _, F, PySem.W.mg_of X G a, F.binds b⟩⟩
theorem int_of {K : PySem.W.Frag} {h : Heap} {mg : Str → Option Value} (X : K.In h) (G : h.Ns mainGlobals mg) {x : Str} {n : Int} {t : Tok} (a : PySem.W.nsIn K mainGlobals x = some (some (.int n t))) : ∃ t, mg x = some (.int n t) := ⟨t, PySem.W.mg_of X G a⟩
theorem tabIn_of {K : PySem.W.Frag} {x : Str} {f c P : Addr} {oc o1 : Value} {od o2 : Option Addr} {osl o3 : Array (Option Value)} {fd : FuncData} {vs : Array Value} (a : PySem.W.nsIn K mainGlobals x = some (some (.ref f))) (l : K.lookup f = some ⟨oc, od, .func fd, osl⟩) (hc : fd.code = .ref c)
    (lc : K.lookup c = some ⟨o1, o2, .fields vs, o3⟩) (hv : (vs[11]? : Option Value) = some (.ref P)) : PySem.W.tabIn K x = some (c, P) := by
  unfold PySem.W.tabIn
  rw [a]
  dsimp only
  rw [l]
  dsimp only
  rw [hc]
  dsimp only
  rw [lc]
  dsimp only
  rw [hv]
end Sc
open PySem PySem.W PyProof.Rows
set_option maxRecDepth 100000 in
set_option maxHeartbeats 0 in
theorem PySem.Challenge.cw_soothcheck_k16_programs_that_are_one_holds : PySem.Challenge.rw_soothcheck_k16_programs_that_are_one.Holds := by
  w_on; o_law; k_head; (case hw => w_witness2)
  k_fill
  refine Sc.walkT (l := PySem.Challenge.rw_soothcheck_k16_programs_that_are_one) rfl rfl (fun w h Y => by first | exact PySem.W.kIn_of Y | exact PySem.W.km_in_of Y) ?F
  case F =>
    intro w mg mb lo mean fa h KX TT hmg
    have G := TT.g
    refine' Sc.law_endT KX TT hmg ⟨Sc.Def.of KX G ?a0 ?l0 ?c0 ?k0 ?b0, Sc.Def.of KX G ?a1 ?l1 ?c1 ?k1 ?b1, Sc.Def.of KX G ?a2 ?l2 ?c2 ?k2 ?b2, Sc.DefA.of KX G ?a3 ?l3 ?c3 ?k3 ?b3, Sc.Def.of KX G ?a4 ?l4 ?c4 ?k4 ?b4, 
      Sc.Def.of KX G ?a5 ?l5 ?c5 ?k5 ?b5, Sc.Def.of KX G ?a6 ?l6 ?c6 ?k6 ?b6, Sc.Def.of KX G ?a7 ?l7 ?c7 ?k7 ?b7, Sc.Def.of KX G ?a8 ?l8 ?c8 ?k8 ?b8, Sc.Def.of KX G ?a9 ?l9 ?c9 ?k9 ?b9, Sc.Def.of KX G ?a10 ?l10 ?c10 ?k10 ?b10, 
      Sc.Def.of KX G ?a11 ?l11 ?c11 ?k11 ?b11, Sc.Def.of KX G ?a12 ?l12 ?c12 ?k12 ?b12, Sc.Def.of KX G ?a13 ?l13 ?c13 ?k13 ?b13, Sc.Def.of KX G ?a14 ?l14 ?c14 ?k14 ?b14, Sc.Def.of KX G ?a15 ?l15 ?c15 ?k15 ?b15, 
      Sc.Def.of KX G ?a16 ?l16 ?c16 ?k16 ?b16, Sc.Def.of KX G ?a17 ?l17 ?c17 ?k17 ?b17, Sc.Def.of KX G ?a18 ?l18 ?c18 ?k18 ?b18, Sc.Def.of KX G ?a19 ?l19 ?c19 ?k19 ?b19, Sc.Def.of KX G ?a20 ?l20 ?c20 ?k20 ?b20, 
      Sc.Def.of KX G ?a21 ?l21 ?c21 ?k21 ?b21, Sc.Def.of KX G ?a22 ?l22 ?c22 ?k22 ?b22, Sc.Def.of KX G ?a23 ?l23 ?c23 ?k23 ?b23, Sc.Def.of KX G ?a24 ?l24 ?c24 ?k24 ?b24, Sc.Def.of KX G ?a25 ?l25 ?c25 ?k25 ?b25, 
      Sc.Def.of KX G ?a26 ?l26 ?c26 ?k26 ?b26, Sc.Def.of KX G ?a27 ?l27 ?c27 ?k27 ?b27, Sc.Def.of KX G ?a28 ?l28 ?c28 ?k28 ?b28, Sc.Def.of KX G ?a29 ?l29 ?c29 ?k29 ?b29, Sc.Def.of KX G ?a30 ?l30 ?c30 ?k30 ?b30, 
      Sc.Def.of KX G ?a31 ?l31 ?c31 ?k31 ?b31, Sc.Def.of KX G ?a32 ?l32 ?c32 ?k32 ?b32, Sc.Def.of KX G ?a33 ?l33 ?c33 ?k33 ?b33, Sc.Def.of KX G ?a34 ?l34 ?c34 ?k34 ?b34, Sc.Def.of KX G ?a35 ?l35 ?c35 ?k35 ?b35, 
      Sc.Def.of KX G ?a36 ?l36 ?c36 ?k36 ?b36, Sc.Def.of KX G ?a37 ?l37 ?c37 ?k37 ?b37, Sc.Def.of KX G ?a38 ?l38 ?c38 ?k38 ?b38, Sc.Def.of KX G ?a39 ?l39 ?c39 ?k39 ?b39, Sc.Def.of KX G ?a40 ?l40 ?c40 ?k40 ?b40, 
      Sc.Def.of KX G ?a41 ?l41 ?c41 ?k41 ?b41, Sc.Def.of KX G ?a42 ?l42 ?c42 ?k42 ?b42, Sc.Def.of KX G ?a43 ?l43 ?c43 ?k43 ?b43, Sc.Def.of KX G ?a44 ?l44 ?c44 ?k44 ?b44, Sc.Def.of KX G ?a45 ?l45 ?c45 ?k45 ?b45, 
      Sc.Def.of KX G ?a46 ?l46 ?c46 ?k46 ?b46, Sc.Def.of KX G ?a47 ?l47 ?c47 ?k47 ?b47, Sc.Def.of KX G ?a48 ?l48 ?c48 ?k48 ?b48, Sc.Def.of KX G ?a49 ?l49 ?c49 ?k49 ?b49, Sc.Def.of KX G ?a50 ?l50 ?c50 ?k50 ?b50, 
      Sc.Def.of KX G ?a51 ?l51 ?c51 ?k51 ?b51, Sc.Def.of KX G ?a52 ?l52 ?c52 ?k52 ?b52, Sc.Def.of KX G ?a53 ?l53 ?c53 ?k53 ?b53, PySem.W.mg_none_of KX G ?z0, PySem.W.mg_none_of KX G ?z1, 
      PySem.W.mg_none_of KX G ?z2, PySem.W.mg_none_of KX G ?z3, PySem.W.mg_none_of KX G ?z4, PySem.W.mg_none_of KX G ?z5, PySem.W.mg_none_of KX G ?z6, PySem.W.mg_none_of KX G ?z7, PySem.W.mg_none_of KX G ?z8, 
      PySem.W.mg_none_of KX G ?z9, PySem.W.mg_none_of KX G ?z10, PySem.W.mg_none_of KX G ?z11, PySem.W.mg_none_of KX G ?z12, PySem.W.mg_none_of KX G ?z13, PySem.W.mg_none_of KX G ?z14, PySem.W.mg_none_of KX G ?z15, 
      PySem.W.mg_none_of KX G ?z16, PySem.W.mg_none_of KX G ?z17, PySem.W.mg_none_of KX G ?z18⟩
      (Sc.DefT.of KX G ?da1 ?dl1 ?dc1 ?dk1 ?db1) (Sc.tabIn_of ?ta1 ?tl1 ?tk1 ?tc1 ?tv1) ?r1 ?n1 (Sc.DefT.of KX G ?da2 ?dl2 ?dc2 ?dk2 ?db2) (Sc.tabIn_of ?ta2 ?tl2 ?tk2 ?tc2 ?tv2) ?r2 ?n2 (Sc.DefT.of KX G ?da3 ?dl3 ?dc3 ?dk3 ?db3) (Sc.tabIn_of ?ta3 ?tl3 ?tk3 ?tc3 ?tv3) ?r3 ?n3
      (PySem.W.mg_of KX G ?gS) ⟨PySem.W.mg_of KX G ?bkg, ?bkq, ?bkk, ?bkb, ?bkt⟩ ⟨PySem.W.mg_of KX G ?bpg, ?bpq, ?bpk, ?bpb, ?bpt⟩ ⟨PySem.W.mg_of KX G ?nng, ?nnq, ?nnk, ?nnb, ?nnt⟩ ⟨PySem.W.mg_of KX G ?ttg, ?ttq, ?ttk, ?ttb, ?ttt⟩
      (PySem.W.exm_ref ?bkh1 ?bkh2 ?bkh3 ?bkh4) (PySem.W.exm_ref ?bph1 ?bph2 ?bph3 ?bph4) (PySem.W.exm_ref ?nnh1 ?nnh2 ?nnh3 ?nnh4) (PySem.W.exm_ref ?tth1 ?tth2 ?tth3 ?tth4) ⟨?bkx1, ?bkx2, ?bkx3, ?bkx4, ?bkx5, ?bkx6, ?bkx7, ?bkx8⟩ ⟨?bpx1, ?bpx2, ?bpx3, ?bpx4, ?bpx5, ?bpx6, ?bpx7, ?bpx8⟩ ⟨?nnx1, ?nnx2, ?nnx3, ?nnx4, ?nnx5, ?nnx6, ?nnx7, ?nnx8⟩ ⟨?ttx1, ?ttx2, ?ttx3, ?ttx4, ?ttx5, ?ttx6, ?ttx7, ?ttx8⟩ ?bkv ?bpv ?nnv ?ttv ?bkbk ?bkbp ?bknn ?bktt ?bpbk ?bpbp ?bpnn ?bptt ?nnbk ?nnbp ?nnnn ?nntt ?ttbk ?ttbp ?ttnn ?tttt
      (PySem.W.mg_of KX G ?gC) ?pa ?pi ?pl ?pc ?pk ?ppg ?phd ?ppo ?psa ?pmk ?pkc ?pnA ?pnB ?pnC ?pnD
      (Sc.FT.of KX G ?fa ?fl ?fkl ?flow ?fe) (Sc.NT.of KX G ?na ?nl ?nkl ?ne ?nf) (Sc.int_of KX G ?v1) (Sc.int_of KX G ?v2) (Sc.int_of KX G ?v3) (Sc.int_of KX G ?v4) (Sc.int_of KX G ?v5) ?a ?l ?c ?k
    (case db1 => exact fun _ _ _ _ _ _ us hl => match us, hl with | [_], _ => rfl)
    (case da1 => k_is); (case dl1 => k_is); (case dc1 => k_is); (case dk1 => k_is)
    (case ta1 => k_is); (case tl1 => k_is); (case tk1 => exact rfl); (case tc1 => k_is); (case tv1 => exact rfl); (case n1 => first | kernel_rfl | exact rfl); (case r1 => decide +kernel)
    (case db2 => exact fun _ _ _ _ _ _ us hl => match us, hl with | [_], _ => rfl)
    (case da2 => k_is); (case dl2 => k_is); (case dc2 => k_is); (case dk2 => k_is)
    (case ta2 => k_is); (case tl2 => k_is); (case tk2 => exact rfl); (case tc2 => k_is); (case tv2 => exact rfl); (case n2 => first | kernel_rfl | exact rfl); (case r2 => decide +kernel)
    (case db3 => exact fun _ _ _ _ _ _ us hl => match us, hl with | [_, _], _ => rfl)
    (case da3 => k_is); (case dl3 => k_is); (case dc3 => k_is); (case dk3 => k_is)
    (case ta3 => k_is); (case tl3 => k_is); (case tk3 => exact rfl); (case tc3 => k_is); (case tv3 => exact rfl); (case n3 => first | kernel_rfl | exact rfl); (case r3 => decide +kernel)
    (case gS => k_is)
    (case bkg => k_is)
    (case bpg => k_is)
    (case nng => k_is)
    (case ttg => k_is)
    (case bkq => k_exc); (case bkk => k_is); (case bkb => k_is); (case bkt => k_is)
    (case bkh1 => k_is); (case bkh2 => k_is); (case bkh3 => k_is); (case bkh4 => k_is)
    (case bkx1 => k_is); (case bkx2 => k_is); (case bkx3 => k_is); (case bkx4 => k_is); (case bkx5 => k_is); (case bkx6 => k_is); (case bkx7 => k_is); (case bkx8 => k_is)
    (case bkv => kit_is)
    (case bkbk => kit_is); (case bkbp => kit_is); (case bknn => kit_is); (case bktt => kit_is)
    (case bpq => k_exc); (case bpk => k_is); (case bpb => k_is); (case bpt => k_is)
    (case bph1 => k_is); (case bph2 => k_is); (case bph3 => k_is); (case bph4 => k_is)
    (case bpx1 => k_is); (case bpx2 => k_is); (case bpx3 => k_is); (case bpx4 => k_is); (case bpx5 => k_is); (case bpx6 => k_is); (case bpx7 => k_is); (case bpx8 => k_is)
    (case bpv => kit_is)
    (case bpbk => kit_is); (case bpbp => kit_is); (case bpnn => kit_is); (case bptt => kit_is)
    (case nnq => k_exc); (case nnk => k_is); (case nnb => k_is); (case nnt => k_is)
    (case nnh1 => k_is); (case nnh2 => k_is); (case nnh3 => k_is); (case nnh4 => k_is)
    (case nnx1 => k_is); (case nnx2 => k_is); (case nnx3 => k_is); (case nnx4 => k_is); (case nnx5 => k_is); (case nnx6 => k_is); (case nnx7 => k_is); (case nnx8 => k_is)
    (case nnv => kit_is)
    (case nnbk => kit_is); (case nnbp => kit_is); (case nnnn => kit_is); (case nntt => kit_is)
    (case ttq => k_exc); (case ttk => k_is); (case ttb => k_is); (case ttt => k_is)
    (case tth1 => k_is); (case tth2 => k_is); (case tth3 => k_is); (case tth4 => k_is)
    (case ttx1 => k_is); (case ttx2 => k_is); (case ttx3 => k_is); (case ttx4 => k_is); (case ttx5 => k_is); (case ttx6 => k_is); (case ttx7 => k_is); (case ttx8 => k_is)
    (case ttv => kit_is)
    (case ttbk => kit_is); (case ttbp => kit_is); (case ttnn => kit_is); (case tttt => kit_is)
    (case gC => k_is); (case pa => k_is); (case pi => k_is); (case pl => k_is); (case pc => k_is); (case pk => k_is); (case ppg => k_is); (case phd => k_is); (case ppo => k_is); (case psa => k_is); (case pmk => k_is); (case pkc => k_is); (case pnA => k_is); (case pnB => k_is); (case pnC => k_is); (case pnD => k_is)
    (case fa => k_is); (case fl => k_is); (case flow => first | rfl | decide); (case na => k_is); (case nl => k_is); (case fe => first | kernel_rfl | rfl); (case ne => first | kernel_rfl | rfl); (case nf => first | kernel_rfl | rfl)
    (case fkl => refine He.keysLit_of (ks := Sc.formTab.map (·.1)) ?_; kernel_rfl)
    (case nkl => repeat (first | exact trivial | refine' ⟨⟨_, _, rfl, rfl⟩, ?_⟩))
    (case v1 => k_is); (case v2 => k_is); (case v3 => k_is); (case v4 => k_is)
    (case v5 => k_is)
    (case b0 => exact fun _ _ _ _ _ _ us hl => match us, hl with | [_, _], _ => rfl)
    (case b1 => exact fun _ _ _ _ _ _ us hl => match us, hl with | [_, _, _], _ => rfl)
    (case b2 => exact fun _ _ _ _ _ _ us hl => match us, hl with | [_, _, _], _ => rfl)
    (case b3 => exact fun _ _ _ _ _ _ us hl => match us, hl with | [_, _, _], _ => rfl)
    (case b4 => exact fun _ _ _ _ _ _ us hl => match us, hl with | [_, _], _ => rfl)
    (case b5 => exact fun _ _ _ _ _ _ us hl => match us, hl with | [_], _ => rfl)
    (case b6 => exact fun _ _ _ _ _ _ us hl => match us, hl with | [_], _ => rfl)
    (case b7 => exact fun _ _ _ _ _ _ us hl => match us, hl with | [_], _ => rfl)
    (case b8 => exact fun _ _ _ _ _ _ us hl => match us, hl with | [_], _ => rfl)
    (case b9 => exact fun _ _ _ _ _ _ us hl => match us, hl with | [_], _ => rfl)
    (case b10 => exact fun _ _ _ _ _ _ us hl => match us, hl with | [_], _ => rfl)
    (case b11 => exact fun _ _ _ _ _ _ us hl => match us, hl with | [_, _], _ => rfl)
    (case b12 => exact fun _ _ _ _ _ _ us hl => match us, hl with | [_, _], _ => rfl)
    (case b13 => exact fun _ _ _ _ _ _ us hl => match us, hl with | [_, _], _ => rfl)
    (case b14 => exact fun _ _ _ _ _ _ us hl => match us, hl with | [_], _ => rfl)
    (case b15 => exact fun _ _ _ _ _ _ us hl => match us, hl with | [_, _], _ => rfl)
    (case b16 => exact fun _ _ _ _ _ _ us hl => match us, hl with | [_, _], _ => rfl)
    (case b17 => exact fun _ _ _ _ _ _ us hl => match us, hl with | [_, _], _ => rfl)
    (case b18 => exact fun _ _ _ _ _ _ us hl => match us, hl with | [_, _], _ => rfl)
    (case b19 => exact fun _ _ _ _ _ _ us hl => match us, hl with | [_, _], _ => rfl)
    (case b20 => exact fun _ _ _ _ _ _ us hl => match us, hl with | [_, _], _ => rfl)
    (case b21 => exact fun _ _ _ _ _ _ us hl => match us, hl with | [_, _], _ => rfl)
    (case b22 => exact fun _ _ _ _ _ _ us hl => match us, hl with | [_, _], _ => rfl)
    (case b23 => exact fun _ _ _ _ _ _ us hl => match us, hl with | [_, _], _ => rfl)
    (case b24 => exact fun _ _ _ _ _ _ us hl => match us, hl with | [_, _], _ => rfl)
    (case b25 => exact fun _ _ _ _ _ _ us hl => match us, hl with | [_, _], _ => rfl)
    (case b26 => exact fun _ _ _ _ _ _ us hl => match us, hl with | [_, _], _ => rfl)
    (case b27 => exact fun _ _ _ _ _ _ us hl => match us, hl with | [_, _], _ => rfl)
    (case b28 => exact fun _ _ _ _ _ _ us hl => match us, hl with | [_], _ => rfl)
    (case b29 => exact fun _ _ _ _ _ _ us hl => match us, hl with | [_, _], _ => rfl)
    (case b30 => exact fun _ _ _ _ _ _ us hl => match us, hl with | [_, _], _ => rfl)
    (case b31 => exact fun _ _ _ _ _ _ us hl => match us, hl with | [_, _, _], _ => rfl)
    (case b32 => exact fun _ _ _ _ _ _ us hl => match us, hl with | [_, _, _], _ => rfl)
    (case b33 => exact fun _ _ _ _ _ _ us hl => match us, hl with | [_, _, _], _ => rfl)
    (case b34 => exact fun _ _ _ _ _ _ us hl => match us, hl with | [_, _], _ => rfl)
    (case b35 => exact fun _ _ _ _ _ _ us hl => match us, hl with | [_], _ => rfl)
    (case b36 => exact fun _ _ _ _ _ _ us hl => match us, hl with | [_], _ => rfl)
    (case b37 => exact fun _ _ _ _ _ _ us hl => match us, hl with | [_], _ => rfl)
    (case b38 => exact fun _ _ _ _ _ _ us hl => match us, hl with | [_, _], _ => rfl)
    (case b39 => exact fun _ _ _ _ _ _ us hl => match us, hl with | [_, _], _ => rfl)
    (case b40 => exact fun _ _ _ _ _ _ us hl => match us, hl with | [_, _, _, _], _ => rfl)
    (case b41 => exact fun _ _ _ _ _ _ us hl => match us, hl with | [_], _ => rfl)
    (case b42 => exact fun _ _ _ _ _ _ us hl => match us, hl with | [_, _], _ => rfl)
    (case b43 => exact fun _ _ _ _ _ _ us hl => match us, hl with | [_, _, _], _ => rfl)
    (case b44 => exact fun _ _ _ _ _ _ us hl => match us, hl with | [_, _, _, _, _], _ => rfl)
    (case b45 => exact fun _ _ _ _ _ _ us hl => match us, hl with | [_, _, _, _, _], _ => rfl)
    (case b46 => exact fun _ _ _ _ _ _ us hl => match us, hl with | [_, _, _, _, _], _ => rfl)
    (case b47 => exact fun _ _ _ _ _ _ us hl => match us, hl with | [_, _, _, _, _, _], _ => rfl)
    (case b48 => exact fun _ _ _ _ _ _ us hl => match us, hl with | [_, _, _, _, _], _ => rfl)
    (case b49 => exact fun _ _ _ _ _ _ us hl => match us, hl with | [_, _, _, _, _], _ => rfl)
    (case b50 => exact fun _ _ _ _ _ _ us hl => match us, hl with | [_, _], _ => rfl)
    (case b51 => exact fun _ _ _ _ _ _ us hl => match us, hl with | [_, _], _ => rfl)
    (case b52 => exact fun _ _ _ _ _ _ us hl => match us, hl with | [_, _], _ => rfl)
    (case b53 => exact fun _ _ _ _ _ _ us hl => match us, hl with | [_, _, _, _], _ => rfl)
    (case a0 => k_is); (case l0 => k_is); (case c0 => k_is); (case k0 => k_is)
    (case a1 => k_is); (case l1 => k_is); (case c1 => k_is); (case k1 => k_is)
    (case a2 => k_is); (case l2 => k_is); (case c2 => k_is); (case k2 => k_is)
    (case a3 => k_is); (case l3 => k_is); (case c3 => k_is); (case k3 => k_is)
    (case a4 => k_is); (case l4 => k_is); (case c4 => k_is); (case k4 => k_is)
    (case a5 => k_is); (case l5 => k_is); (case c5 => k_is); (case k5 => k_is)
    (case a6 => k_is); (case l6 => k_is); (case c6 => k_is); (case k6 => k_is)
    (case a7 => k_is); (case l7 => k_is); (case c7 => k_is); (case k7 => k_is)
    (case a8 => k_is); (case l8 => k_is); (case c8 => k_is); (case k8 => k_is)
    (case a9 => k_is); (case l9 => k_is); (case c9 => k_is); (case k9 => k_is)
    (case a10 => k_is); (case l10 => k_is); (case c10 => k_is); (case k10 => k_is)
    (case a11 => k_is); (case l11 => k_is); (case c11 => k_is); (case k11 => k_is)
    (case a12 => k_is); (case l12 => k_is); (case c12 => k_is); (case k12 => k_is)
    (case a13 => k_is); (case l13 => k_is); (case c13 => k_is); (case k13 => k_is)
    (case a14 => k_is); (case l14 => k_is); (case c14 => k_is); (case k14 => k_is)
    (case a15 => k_is); (case l15 => k_is); (case c15 => k_is); (case k15 => k_is)
    (case a16 => k_is); (case l16 => k_is); (case c16 => k_is); (case k16 => k_is)
    (case a17 => k_is); (case l17 => k_is); (case c17 => k_is); (case k17 => k_is)
    (case a18 => k_is); (case l18 => k_is); (case c18 => k_is); (case k18 => k_is)
    (case a19 => k_is); (case l19 => k_is); (case c19 => k_is); (case k19 => k_is)
    (case a20 => k_is); (case l20 => k_is); (case c20 => k_is); (case k20 => k_is)
    (case a21 => k_is); (case l21 => k_is); (case c21 => k_is); (case k21 => k_is)
    (case a22 => k_is); (case l22 => k_is); (case c22 => k_is); (case k22 => k_is)
    (case a23 => k_is); (case l23 => k_is); (case c23 => k_is); (case k23 => k_is)
    (case a24 => k_is); (case l24 => k_is); (case c24 => k_is); (case k24 => k_is)
    (case a25 => k_is); (case l25 => k_is); (case c25 => k_is); (case k25 => k_is)
    (case a26 => k_is); (case l26 => k_is); (case c26 => k_is); (case k26 => k_is)
    (case a27 => k_is); (case l27 => k_is); (case c27 => k_is); (case k27 => k_is)
    (case a28 => k_is); (case l28 => k_is); (case c28 => k_is); (case k28 => k_is)
    (case a29 => k_is); (case l29 => k_is); (case c29 => k_is); (case k29 => k_is)
    (case a30 => k_is); (case l30 => k_is); (case c30 => k_is); (case k30 => k_is)
    (case a31 => k_is); (case l31 => k_is); (case c31 => k_is); (case k31 => k_is)
    (case a32 => k_is); (case l32 => k_is); (case c32 => k_is); (case k32 => k_is)
    (case a33 => k_is); (case l33 => k_is); (case c33 => k_is); (case k33 => k_is)
    (case a34 => k_is); (case l34 => k_is); (case c34 => k_is); (case k34 => k_is)
    (case a35 => k_is); (case l35 => k_is); (case c35 => k_is); (case k35 => k_is)
    (case a36 => k_is); (case l36 => k_is); (case c36 => k_is); (case k36 => k_is)
    (case a37 => k_is); (case l37 => k_is); (case c37 => k_is); (case k37 => k_is)
    (case a38 => k_is); (case l38 => k_is); (case c38 => k_is); (case k38 => k_is)
    (case a39 => k_is); (case l39 => k_is); (case c39 => k_is); (case k39 => k_is)
    (case a40 => k_is); (case l40 => k_is); (case c40 => k_is); (case k40 => k_is)
    (case a41 => k_is); (case l41 => k_is); (case c41 => k_is); (case k41 => k_is)
    (case a42 => k_is); (case l42 => k_is); (case c42 => k_is); (case k42 => k_is)
    (case a43 => k_is); (case l43 => k_is); (case c43 => k_is); (case k43 => k_is)
    (case a44 => k_is); (case l44 => k_is); (case c44 => k_is); (case k44 => k_is)
    (case a45 => k_is); (case l45 => k_is); (case c45 => k_is); (case k45 => k_is)
    (case a46 => k_is); (case l46 => k_is); (case c46 => k_is); (case k46 => k_is)
    (case a47 => k_is); (case l47 => k_is); (case c47 => k_is); (case k47 => k_is)
    (case a48 => k_is); (case l48 => k_is); (case c48 => k_is); (case k48 => k_is)
    (case a49 => k_is); (case l49 => k_is); (case c49 => k_is); (case k49 => k_is)
    (case a50 => k_is); (case l50 => k_is); (case c50 => k_is); (case k50 => k_is)
    (case a51 => k_is); (case l51 => k_is); (case c51 => k_is); (case k51 => k_is)
    (case a52 => k_is); (case l52 => k_is); (case c52 => k_is); (case k52 => k_is)
    (case a53 => k_is); (case l53 => k_is); (case c53 => k_is); (case k53 => k_is)
    (case z0 => k_is)
    (case z1 => k_is)
    (case z2 => k_is)
    (case z3 => k_is)
    (case z4 => k_is)
    (case z5 => k_is)
    (case z6 => k_is)
    (case z7 => k_is)
    (case z8 => k_is)
    (case z9 => k_is)
    (case z10 => k_is)
    (case z11 => k_is)
    (case z12 => k_is)
    (case z13 => k_is)
    (case z14 => k_is)
    (case z15 => k_is)
    (case z16 => k_is)
    (case z17 => k_is)
    (case z18 => k_is)
    (case a => k_is); (case l => k_is); (case c => k_is); (case k => k_is)
