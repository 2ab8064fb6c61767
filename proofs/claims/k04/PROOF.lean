import PyProof.Rows.All
import Wide.All
import OpenK.AllK
import Wide.FinOn
import HandS.ForMost
import HandS.ForExc
import HandS.Walk
import HandS.IsInst
import HandS.SortInts
import HandS.Strs
import HandS.Conv
import HandS.Zip
import HandS.TupAny
import HandS.TupMul
import HandS.Steps
import HandS.Evl
import KE.GoesMore
import HandS.SetFor
import PySem.Challenge.RW_enoughchecks_k04_whole_reached_and_betwe
set_option Elab.async false
set_option linter.all false
set_option maxRecDepth 100000
set_option maxHeartbeats 2000000

namespace E1
open PySem L2

def Ch (h : Addr) (H H' : Hp) : Prop := ∀ b o, b ≠ h → H b = some o → H' b = some o
theorem Ch.refl (h : Addr) (H : Hp) : Ch h H H := fun _ _ _ e => e
theorem Ch.trans {h : Addr} {H H1 H2 : Hp} (a : Ch h H H1) (b : Ch h H1 H2) : Ch h H H2 := fun c o n e => b c o n (a c o n e)
theorem Ch.same {h : Addr} {H H1 : Hp} (a : Same H H1) : Ch h H H1 := fun c o _ e => a c o e
theorem same_new {H : Hp} {p : Addr} {o : HO} (h : H p = none) : Same H (upd H p o) := fun b x e => by
  rw [upd_ne (ne_of_none e h)]
  exact e
theorem Same.mut {H H' : Hp} {p : Addr} {o : HO} (e : Same H H') (h : H p = none) : Same H (upd H' p o) := fun a u ha => by
  rw [upd_ne (ne_of_none ha h)]
  exact e a u ha
theorem Ch.mut {h : Addr} {H H' : Hp} {p : Addr} {o : HO} (e : Ch h H H') (hp : H p = none) : Ch h H (upd H' p o) := fun a u n ha => by
  rw [upd_ne (ne_of_none ha hp)]
  exact e a u n ha
theorem Ch.at {h : Addr} {H H' : Hp} {o : HO} (e : Ch h H H') : Ch h H (upd H' h o) := fun a u n ha => by
  rw [upd_ne n]
  exact e a u n ha
theorem Ch.new {h : Addr} {H H' : Hp} {p : Addr} {o : HO} (e : Ch h H H') (hp : H' p = none) : Ch h H (upd H' p o) := e.trans (Ch.same (same_new hp))
theorem Ch.free {h : Addr} {H H' : Hp} (e : Ch h H H') {l : Addr} (hl : l ≠ h) (n : H' l = none) : H l = none := by
  cases q : H l with
  | none => rfl
  | some o => rw [e l o hl q] at n; cases n
theorem Same.seqT {K : PySem.W.Frag} {H H' : Hp} {a : Addr} {xs : List V} (e : Same H H') (h : SqT K H a xs) : SqT K H' a xs := by
  rcases h with (h | ⟨o, h⟩) | h
  · exact .inl (.inl (e _ _ h))
  · exact .inl (.inr ⟨o, e _ _ h⟩)
  · exact .inr h

structure Vl (te : TE) (σ : L2.St) (H : Hp) (v : V) : Prop where
  run : ∀ Q : VK, Q v H → te σ H Q
structure An (t : TT) (σ : L2.St) (H : Hp) (b : Bool) : Prop where
  run : ∀ Q : Bool → Hp → Prop, Q b H → t σ H Q

structure Ar (ta : TA) (σ : L2.St) (H : Hp) (vs : List V) : Prop where
  run : ∀ Q : List V → Hp → Prop, Q vs H → ta σ H Q
section
variable {σ : L2.St} {H : Hp} {v x y z : V} {ta tb te tv : TE} {b c : Bool} {K : PySem.W.Frag} {a : Addr} {t u : TT} {i j k : Int}
theorem vl_var {i : Nat} (h : σ[i]? = some (some v)) : Vl (tVar i) σ H v := ⟨fun _ q => ⟨v, h, q⟩⟩
theorem vl_c : Vl (tC v) σ H v := ⟨fun _ q => q⟩
theorem vl_op {r : R2} (ha : Vl ta σ H x) (hb : Vl tb σ H y) (hr : ∀ Q : VK, Q z H → r x y H Q) : Vl (tOp r ta tb) σ H z := ⟨fun _ q => ha.run _ (hb.run _ (hr _ q))⟩
theorem vl_I0 {g : Int → Int → V} (ha : Vl ta σ H (.int i)) (hb : Vl tb σ H (.int j)) : Vl (tOp (rI0 g) ta tb) σ H (g i j) := vl_op ha hb fun Q q => ⟨i, j, rfl, rfl, q⟩
theorem vl_I {C : Int → Int → Prop} {g : Int → Int → V} (ha : Vl ta σ H (.int i)) (hb : Vl tb σ H (.int j)) (hc : C i j) : Vl (tOp (rI C g) ta tb) σ H (g i j) := vl_op ha hb fun Q q => ⟨i, j, rfl, rfl, hc, q⟩
theorem vl_add (ha : Vl ta σ H (.int i)) (hb : Vl tb σ H (.int j)) : Vl (tOp (rI0 fun i j => .int (i + j)) ta tb) σ H (.int (i + j)) := vl_I0 ha hb
theorem vl_sub (ha : Vl ta σ H (.int i)) (hb : Vl tb σ H (.int j)) : Vl (tOp (rI0 fun i j => .int (i - j)) ta tb) σ H (.int (i - j)) := vl_I0 ha hb
theorem vl_mul (ha : Vl ta σ H (.int i)) (hb : Vl tb σ H (.int j)) (hc : CMul i j) : Vl (tOp (rI CMul fun i j => .int (i * j)) ta tb) σ H (.int (i * j)) := vl_I ha hb hc
theorem vl_mod (ha : Vl ta σ H (.int i)) (hb : Vl tb σ H (.int j)) (hc : 0 < j) : Vl (tOp (rI (fun _ j => 0 < j) fun i j => .int (i % j)) ta tb) σ H (.int (i % j)) := vl_I ha hb hc
theorem vl_fdiv (ha : Vl ta σ H (.int i)) (hb : Vl tb σ H (.int j)) (hc : 0 < j ∧ j < 1073741824) : Vl (tOp (rI CDiv fun i j => .int (i / j)) ta tb) σ H (.int (i / j)) := vl_I ha hb hc
theorem vl_pow (ha : Vl ta σ H (.int i)) (hb : Vl tb σ H (.int j)) (hc : CPow i j) : Vl (tOp (rI CPow fun i j => .int (i ^ j.toNat)) ta tb) σ H (.int (i ^ j.toNat)) := vl_I ha hb hc
theorem vl_neg (ha : Vl ta σ H (.int i)) : Vl (tUn (rU fun i => .int (-i)) ta) σ H (.int (-i)) := ⟨fun Q q => ha.run _ ⟨i, rfl, q⟩⟩
theorem vl_ixL {p : Addr} {xs : List V} (ha : Vl ta σ H (.ref p)) (hb : Vl tb σ H (.int i)) (h : SqL K H p xs) (e : atI xs i = some v) : Vl (tOp (rIxL K) ta tb) σ H v := vl_op ha hb fun Q q => ⟨p, xs, i, v, rfl, rfl, h, e, q⟩
theorem vl_ixT {p : Addr} {xs : List V} (ha : Vl ta σ H (.ref p)) (hb : Vl tb σ H (.int i)) (h : SqT K H p xs) (e : atI xs i = some v) : Vl (tOp (rIxT K) ta tb) σ H v := vl_op ha hb fun Q q => ⟨p, xs, i, v, rfl, rfl, h, e, q⟩
theorem vl_len {p : Addr} {xs : List V} (ha : Vl ta σ H (.ref p)) (h : SqL K H p xs ∨ SqT K H p xs) :
    Vl (tCB (fun xs H Q => ∃ p ys, xs = [.ref p] ∧ (SqL K H p ys ∨ SqT K H p ys) ∧ Q (.int ys.length) H) (tCons ta tNil)) σ H (.int (xs.length : Int)) := ⟨fun Q q => ha.run _ ⟨p, xs, rfl, h, q⟩⟩
theorem vl_int (ha : Vl ta σ H (.int i)) : Vl (tCB (fun xs H Q => (∃ i, xs = [.int i] ∧ Q (.int i) H) ∨ ∃ k, xs = [.bl k] ∧ Q (.int (if k then 1 else 0)) H) (tCons ta tNil)) σ H (.int i) := ⟨fun Q q => ha.run _ (.inl ⟨i, rfl, q⟩)⟩
theorem vl_abs (ha : Vl ta σ H (.int i)) : Vl (tCB (fun xs H Q => ∃ i, xs = [.int i] ∧ Q (.int (if i < 0 then -i else i)) H) (tCons ta tNil)) σ H (.int (if i < 0 then -i else i)) := ⟨fun Q q => ha.run _ ⟨i, rfl, q⟩⟩
theorem vl_min2 (ha : Vl ta σ H (.int i)) (hb : Vl tb σ H (.int j)) : Vl (tCB (fun xs H Q => ∃ i j, xs = [.int i, .int j] ∧ Q (.int (if j < i then j else i)) H) (tCons ta (tCons tb tNil))) σ H (.int (if j < i then j else i)) := ⟨fun Q q => ha.run _ (hb.run _ ⟨i, j, rfl, q⟩)⟩
theorem vl_max2 (ha : Vl ta σ H (.int i)) (hb : Vl tb σ H (.int j)) : Vl (tCB (fun xs H Q => ∃ i j, xs = [.int i, .int j] ∧ Q (.int (if j > i then j else i)) H) (tCons ta (tCons tb tNil))) σ H (.int (if j > i then j else i)) := ⟨fun Q q => ha.run _ (hb.run _ ⟨i, j, rfl, q⟩)⟩
theorem int_eq_dec (i j : Int) : decide (V.int i = V.int j) = decide (i = j) := by
  by_cases h : i = j
  · rw [decide_eq_true h, decide_eq_true (by rw [h])]
  · rw [decide_eq_false h, decide_eq_false (fun e => h (V.int.inj e))]
theorem bl_eq_dec (b c : Bool) : decide (V.bl b = V.bl c) = decide (b = c) := by cases b <;> cases c <;> rfl
theorem vl_eqS (ha : Vl ta σ H x) (hb : Vl tb σ H y) (hs : scal x y = true) : Vl (tOp rEq ta tb) σ H (.bl (decide (x = y))) := vl_op ha hb fun Q q => ⟨hs, q⟩
theorem vl_neS (ha : Vl ta σ H x) (hb : Vl tb σ H y) (hs : scal x y = true) : Vl (tOp rNe ta tb) σ H (.bl (!decide (x = y))) := vl_op ha hb fun Q q => ⟨hs, q⟩
theorem vl_eqI (ha : Vl ta σ H (.int i)) (hb : Vl tb σ H (.int j)) : Vl (tOp rEq ta tb) σ H (.bl (decide (i = j))) := by
  have h := vl_eqS ha hb rfl
  rw [int_eq_dec] at h
  exact h
theorem vl_neI (ha : Vl ta σ H (.int i)) (hb : Vl tb σ H (.int j)) : Vl (tOp rNe ta tb) σ H (.bl (!decide (i = j))) := by
  have h := vl_neS ha hb rfl
  rw [int_eq_dec] at h
  exact h
theorem vl_eqB (ha : Vl ta σ H (.bl b)) (hb : Vl tb σ H (.bl c)) : Vl (tOp rEq ta tb) σ H (.bl (decide (b = c))) := by
  have h := vl_eqS ha hb rfl
  rw [bl_eq_dec] at h
  exact h
theorem vl_neB (ha : Vl ta σ H (.bl b)) (hb : Vl tb σ H (.bl c)) : Vl (tOp rNe ta tb) σ H (.bl (!decide (b = c))) := by
  have h := vl_neS ha hb rfl
  rw [bl_eq_dec] at h
  exact h
theorem vl_lt (ha : Vl ta σ H (.int i)) (hb : Vl tb σ H (.int j)) : Vl (tOp (rI0 fun i j => .bl (decide (i < j))) ta tb) σ H (.bl (decide (i < j))) := vl_I0 ha hb
theorem vl_le (ha : Vl ta σ H (.int i)) (hb : Vl tb σ H (.int j)) : Vl (tOp (rI0 fun i j => .bl (decide (i ≤ j))) ta tb) σ H (.bl (decide (i ≤ j))) := vl_I0 ha hb
theorem vl_gt (ha : Vl ta σ H (.int i)) (hb : Vl tb σ H (.int j)) : Vl (tOp (rI0 fun i j => .bl (decide (j < i))) ta tb) σ H (.bl (decide (j < i))) := vl_I0 ha hb
theorem vl_ge (ha : Vl ta σ H (.int i)) (hb : Vl tb σ H (.int j)) : Vl (tOp (rI0 fun i j => .bl (decide (j ≤ i))) ta tb) σ H (.bl (decide (j ≤ i))) := vl_I0 ha hb
theorem vl_not (ha : Vl ta σ H (.bl b)) : Vl (tNotV ta) σ H (.bl (!b)) := ⟨fun Q q => ha.run _ ⟨b, rfl, q⟩⟩
theorem vl_chain {C C' : Int → Int → Bool} {tc : TE} (ha : Vl ta σ H (.int i)) (hb : Vl tb σ H (.int j)) (hc : Vl tc σ H (.int k)) :
    Vl (tChain (rI0 fun i j => .bl (C i j)) (rI0 fun i j => .bl (C' i j)) ta tb tc) σ H (.bl (C i j && C' j k)) := ⟨fun Q q => ha.run _ (hb.run _ ⟨i, j, rfl, rfl, C i j, rfl, by
  cases h : C i j with
  | true =>
    rw [if_pos rfl]
    refine hc.run _ ⟨j, k, rfl, rfl, ?_⟩
    rw [h] at q
    exact q
  | false =>
    rw [if_neg Bool.false_ne_true]
    rw [h] at q
    exact q⟩)⟩
theorem vl_andL {a b : Bool} (h1 : Vl ta σ H (.bl a)) (h2 : a = true → Vl tb σ H (.bl b)) : Vl (tAndV ta tb) σ H (.bl (a && b)) := ⟨fun Q q => h1.run _ ⟨a, rfl, by
  cases a with
  | true =>
    show tb σ H Q
    exact (h2 rfl).run Q q
  | false => exact q⟩⟩
theorem vl_orL {a b : Bool} (h1 : Vl ta σ H (.bl a)) (h2 : a = false → Vl tb σ H (.bl b)) : Vl (tOrV ta tb) σ H (.bl (a || b)) := ⟨fun Q q => h1.run _ ⟨a, rfl, by
  cases a with
  | true => exact q
  | false =>
    show tb σ H Q
    exact (h2 rfl).run Q q⟩⟩
theorem vl_fld {C dx : Addr} {fs : List (Str × V)} {f : Str} (h : Vl ta σ H (.ref a)) (ho : H a = some (.ins C dx fs)) (hc : Cls K C) (hn : NoAttr K C f) (hl : fs.lookup f = some v) : Vl (tFld K ta f) σ H v := ⟨fun Q q => h.run _ ⟨a, C, dx, fs, v, rfl, ho, hc, hn, hl, q⟩⟩
theorem vl_isi {cv : V} {tt uu : Value} (ha : Vl ta σ H x) (hb : Vl tb σ H cv) (hc : ClsV cv uu) (ht : TyX K H x tt) (e : PySem.W.kitOne K tt uu = some b) : Vl (tCB (rIsi K) (tCons ta (tCons tb tNil))) σ H (.bl b) := ⟨fun Q q => ha.run _ (hb.run _ ⟨x, cv, tt, uu, b, rfl, hc, ht, e, q⟩)⟩
theorem an_of (h : Vl te σ H (.bl b)) : An (tTest te) σ H b := ⟨fun Q q => h.run _ ⟨b, rfl, q⟩⟩
theorem an_val (h : Vl te σ H (.bl b)) : An (tB te) σ H b := ⟨fun Q q => h.run _ ⟨b, rfl, q⟩⟩
theorem an_not (h : An t σ H b) : An (tNot t) σ H (!b) := ⟨fun Q q => h.run _ q⟩
theorem an_and {a b : Bool} (h1 : An t σ H a) (h2 : a = true → An u σ H b) : An (tAnd t u) σ H (a && b) := ⟨fun Q q => h1.run _ (by
  cases a with
  | true =>
    show u σ H Q
    exact (h2 rfl).run Q q
  | false => exact q)⟩
theorem an_or {a b : Bool} (h1 : An t σ H a) (h2 : a = false → An u σ H b) : An (tOr t u) σ H (a || b) := ⟨fun Q q => h1.run _ (by
  cases a with
  | true => exact q
  | false =>
    show u σ H Q
    exact (h2 rfl).run Q q)⟩
theorem ar_nil : Ar tNil σ H [] := ⟨fun _ q => q⟩
theorem ar_cons {tr : TA} {vs : List V} (h : Vl ta σ H x) (hr : Ar tr σ H vs) : Ar (tCons ta tr) σ H (x :: vs) := ⟨fun _ q => h.run _ (hr.run _ q)⟩

variable {D : Ends} {t1 t2 : TS} {l : Addr} {xs : List V}
theorem s_if (h : An t σ H b) (h1 : b = true → t1 D σ H) (h2 : b = false → t2 D σ H) : tIfS t t1 t2 D σ H := h.run _ (by
  cases b with
  | true => exact h1 rfl
  | false => exact h2 rfl)
theorem s_set {i : Nat} (h : Vl te σ H v) (q : D.nx (σ.set i (some v)) H) : tAsg te (gName i) D σ H := h.run _ q
theorem s_setL {jj : Nat} (hv : Vl te σ H v) (ho : Vl ta σ H (.ref l)) (hi : Vl tb σ H (.int k)) (hl : H l = some (.lst xs)) (hk : ixN xs.length k = some jj) (q : D.nx σ (upd H l (.lst (xs.set jj v)))) :
    tAsg te (gSub ta tb rSetL) D σ H := hv.run _ (ho.run _ (hi.run _ ⟨l, xs, k, jj, rfl, rfl, hl, hk, q⟩))
theorem s_app (ho : Vl ta σ H (.ref l)) (hv : Vl te σ H v) (hl : H l = some (.lst xs)) (hz : xs.length < sizeLine) (q : D.nx σ (upd H l (.lst (xs ++ [v])))) : tDrop (tBM K "list" rAppend ta (tCons te tNil)) D σ H :=
  ho.run _ ⟨.inl ⟨rfl, xs, SqL.of hl⟩, hv.run _ ⟨l, xs, v, rfl, rfl, hl, hz, q⟩⟩
theorem s_ret (h : Vl te σ H v) (q : D.rt v H) : tRet te D σ H := h.run _ q
theorem s_augI {i : Nat} {f : Int → Int → Int} {m n : Int} (hx : σ[i]? = some (some (.int m))) (h : Vl te σ H (.int n)) (q : D.nx (σ.set i (some (.int (f m n)))) H) : tAug i te (ipI f) D σ H := ⟨.int m, hx, h.run _ ⟨m, n, rfl, rfl, q⟩⟩
theorem s_fld {C dx : Addr} {fs : List (Str × V)} {f : Str} (hv : Vl tv σ H y) (ha : Vl ta σ H (.ref a)) (ho : H a = some (.ins C dx fs)) (hc : Cls K C) (hn : NoAttr K C f) (hl : fs.length < 1000) (q : D.nx σ (upd H a (.ins C dx (putF f y fs)))) : sFld K ta tv f D σ H :=
  hv.run _ (ha.run _ ⟨a, C, dx, fs, rfl, ho, hc, hn, hl, q⟩)
end

def rGetL (K : PySem.W.Frag) : V → V → Hp → VK → Prop := rIxL K

end E1

namespace E1
open PySem PySem.Spec PyProof.Rows L2
open AutoSeq1 (wpAny_loadPart')
set_option maxHeartbeats 4000000 in
theorem meets_enumerate_newT (tl : Addr) (zs : Array Value) (n : Nat) (dd : Option Addr) (sl : Array (Option Value)) :
    Meets (Builtin.«enumerate.__new__» ⟨[.type "enumerate", .ref tl], []⟩) (fun _ R s => s.heap.get? tl = some { cls := .type "tuple", dict := dd, data := .seq zs n, slots := sl } ∧
      R (.ok (.ret (.ref (s.heap.push { cls := .type "tuple_iterator", data := .fields #[.ref tl, .int 0 0] }).objs.size)))
        { s with heap := (s.heap.push { cls := .type "tuple_iterator", data := .fields #[.ref tl, .int 0 0] }).push { cls := .type "enumerate", data := .fields #[.none, .bool false, .ref s.heap.objs.size, rawInt 0, .none, .none] } }) :=
  .of_wp fun prog w A R s h => by
    obtain ⟨hp, g, d, tk, os⟩ := s; obtain ⟨hl, h⟩ := h
    have subE := sub_enumerate
    have isT : Heap.IsTuple (Shared.heap ⟨hp, g, d, tk, os⟩) tl zs := ⟨_, hl, rfl, n, rfl⟩
    wp_walk using wpAny_loadPart' hl
    refine wpAny_stack_any fun st => wpAny_pure ?_
    split
    · rename_i c _ _ _ _ _
      cases (c == Value.type "enumerate")
      · wp_walk using wpAny_loadPart' hl, wpAny_pyIter_tuple isT
        exact ⟨_, rfl, h⟩
      · wp_walk using wpAny_loadPart' hl, wpAny_pyIter_tuple isT
        exact ⟨_, rfl, h⟩
    · wp_walk using wpAny_loadPart' hl, wpAny_pyIter_tuple isT
      exact ⟨_, rfl, h⟩
section
variable {prog : Program} {w : World} {A : Around} {E : Value → Shared → Prop} {s : Shared}
theorem call_enumerate_tuple {tl : Addr} {zs : Array Value} {QQ : Value → Shared → Prop} (isT : s.heap.IsTuple tl zs)
    (h : ∀ h', IsEnum h' (s.heap.objs.size + 1) s.heap.objs.size 0 .none → h'.IsTupleIter s.heap.objs.size tl 0 → h'.objs.size = s.heap.objs.size + 2 →
      (∀ b o, s.heap.get? b = some o → h'.get? b = some o) → QQ (.ref (s.heap.objs.size + 1)) { s with heap := h' }) :
    wpAny (model prog w) A (call (.type "enumerate") [.ref tl]) QQ E s := by
  obtain ⟨⟨c, dd, dt, sl⟩, hl, hc, n, hd⟩ := isT
  replace hc : c = .type "tuple" := hc
  replace hd : dt = .seq zs n := hd
  subst hc hd
  refine callType_new F.called_enumerate (by decide) (F.typeCall_enumerate_1 _) (F.newCall_enumerate_1 _) (fun obj => F.args_object_init_2 obj _) F.entry_enumerate_new
    (meets_enumerate_newT tl zs n dd sl) ⟨hl, ?_⟩
  have szs : (s.heap.push { cls := .type "tuple_iterator", data := .fields #[.ref tl, .int 0 0] }).objs.size = s.heap.objs.size + 1 := Heap.size_push ..
  show _ ∧ _
  rw [szs]
  have he : IsEnum ((s.heap.push { cls := .type "tuple_iterator", data := .fields #[.ref tl, .int 0 0] }).push
      { cls := .type "enumerate", data := .fields #[.none, .bool false, .ref s.heap.objs.size, rawInt 0, .none, .none] }) (s.heap.objs.size + 1) s.heap.objs.size 0 .none := by
    have := Heap.get?_push_size (s.heap.push { cls := .type "tuple_iterator", data := .fields #[.ref tl, .int 0 0] })
      (o := { cls := .type "enumerate", data := .fields #[.none, .bool false, .ref s.heap.objs.size, rawInt 0, .none, .none] }) rfl
    rw [szs] at this; exact this
  refine ⟨⟨_, he, rfl⟩, h _ he ⟨_, Heap.get?_push_of_some _ (Heap.get?_push_size _ rfl), rfl, rfl⟩ (by rw [Heap.size_push, szs]) fun b o x => Heap.get?_push_of_some _ (Heap.get?_push_of_some _ x)⟩
theorem wpAny_pyNext_enum_endT {en it tl : Addr} {i : Nat} {zs : Array Value} {was : Value} {QQ : Option Value → Shared → Prop} (hh : A.handled = none)
    (he : IsEnum s.heap en it i was) (ki : s.heap.IsTupleIter it tl i) (hl : s.heap.IsTuple tl zs) (hx : zs[i]? = none)
    (hQ : ∀ h', Heap.ExtBut it s.heap h' → QQ none { s with heap := h' }) : wpAny (model prog w) A (pyNext (.ref en)) QQ E s := by
  have hT : s.TypeIs (.ref en) "enumerate" := ⟨_, he, rfl⟩
  unfold pyNext
  refine wpAny_bind (wpAny_attempt (wpAny_callSpecial?_slot (name := Str.ofString "__next__") hT F.slot_enumerate_next
    (wpAny_call_entry F.slot_enumerate_next hT F.entry_enumerate_next ?_ (F.args_enumerate_next_1 _))))
  show wpAny _ _ (field (.ref en) 2 >>= _) _ _ _
  refine wpAny_bind (wpAny_field he rfl (x := .ref it) rfl ?_)
  refine wpAny_bind (wpAny_nextOf_tuple_end hh ki hl hx fun h' x he' hx' => ?_)
  obtain ⟨o, ho, hc⟩ := hx'
  refine wpAny_bind (wpAny_isInstance (T := "StopIteration") (b := true) ⟨o, ho, hc⟩ isSubtype_stop ?_)
  exact wpAny_pure (hQ _ he')
end

def IteT (K : PySem.W.Frag) (a : Addr) : It :=
  ⟨fun i H => ∃ (xs : List V) (x : V), SqT K H a xs ∧ xs[i]? = some x, fun i H v H' => ∃ T x, v = .ref T ∧ H T = none ∧ H' = upd H T (.tup [.int (i : Nat), x]) ∧ ∀ xs, SqT K H a xs → xs[i]? = some x, fun i H => ∃ xs : List V, SqT K H a xs ∧ xs.length ≤ i⟩
theorem turn_enumT {P : Program} {w : World} {K : PySem.W.Frag} {es : List Expr} {kn : Nat} {tp : Pos} (a en it : Addr) :
    Turn P w K (.Tuple es kn tp) (IteT K a) [en, it] en (fun i h => (∃ was, IsEnum h en it ((i : Nat) : Int) was) ∧ h.IsTupleIter it a i ∧ en ≠ it) where
  mem := by simp
  obj := fun i h st b hb => by
    obtain ⟨⟨was, he⟩, ⟨o, ho, hc, hd⟩, _⟩ := st
    have wh : b = en ∨ b = it := by simpa using hb
    rcases wh with zz | zz
    · rw [zz]; exact ⟨_, he, fun v q => nomatch q⟩
    · rw [zz]; exact ⟨o, ho, fun v q => by rw [hd] at q; cases q⟩
  keep := fun i h h' st k => let ⟨⟨was, he⟩, hi, unl⟩ := st; ⟨⟨was, k en (by simp) _ he⟩, hi.at fun o q => k it (by simp) o q, unl⟩
  item := by
    intro X hP hw hK hc i pn s σ H E I hf st hg
    subst hP hw hK
    obtain ⟨⟨was, he⟩, ki, unl⟩ := st
    obtain ⟨xs, x, atq, hx⟩ := hg
    obtain ⟨ws, rel, p, szs⟩ := I.tuple atq
    obtain ⟨u, hu, ru⟩ := rel.get hx
    have ilt : it < s.heap.objs.size := by obtain ⟨_, q, _⟩ := ki; exact Heap.lt_size q
    have elt : en < s.heap.objs.size := Heap.lt_size he
    have ani : a ≠ it := by
      obtain ⟨o, h1, h2, _⟩ := p
      obtain ⟨o', h1', h2', _⟩ := ki
      rintro rfl
      rw [h1] at h1'
      cases h1'
      rw [h2] at h2'
      injection h2' with zz
      exact absurd zz (by decide)
    have ean : en ≠ a := by
      obtain ⟨o, h1, h2, _⟩ := p
      rintro rfl
      have he2 := h1.symm.trans he
      cases he2
      injection h2 with zz
      exact absurd zz (by decide)
    have dr := Draws.tuple (prog := X.prog) (w := X.w) (A := X.A.in1) (I.ok.hd hc) it a ani ws.toArray
    refine wpAny_pyNext_enum_itemD dr he ⟨ki, p⟩ (by have := (List.getElem?_eq_some_iff.mp hu).1; simpa using this) unl (by simp [unl, ean]) fun x' h' tk hx' ho hit' hT gre kee => ?_
    have same : x' = u := by
      have q : ws[i]? = some x' := by simpa using hx'
      rw [hu] at q
      exact (Option.some.inj q).symm
    subst same
    refine ⟨_, rfl, wpAny_letOwnedTupleGo_enum (s := { s with heap := h', toks := tk + 1 }) ho fun h'' he' stay => ?_⟩
    have built : h''.get? s.heap.objs.size = some { cls := .type "tuple", data := .seq #[.int i tk, x'] } := (stay.2 _ (Nat.ne_of_gt elt)).trans hT
    have new : ObjOk X.prog X.w (upd H s.heap.objs.size (.tup [.int (i : Nat), x])) h'' s.heap.objs.size (.tup [.int (i : Nat), x]) :=
      ⟨by show 2 ≤ sizeLine; decide, [.int i tk, x'], .cons ⟨_, rfl⟩ (.cons ru .nil), ⟨_, built, rfl, _, rfl⟩⟩
    have I1 : Inv X pn σ (upd H s.heap.objs.size (.tup [.int (i : Nat), x])) { s with heap := h'', toks := tk + 1 } :=
      I.turnedNew (ch := [en, it]) (fun b ob hb q => (stay.2 b (fun zz => hb (by simp [zz]))).trans (kee b ob (fun zz => hb (by simp [zz])) (fun zz => hb (by simp [zz])) q)) hf (Nat.le_refl _) new
    refine ⟨.ref s.heap.objs.size, _, I1, rfl, ⟨_, x, rfl, I.hok.fresh (Nat.le_refl _), rfl, fun ys hy => by rw [I.tuple_inj hy atq]; exact hx⟩, ⟨⟨x', ?_⟩, hit'.1.at fun o q => (stay.2 it (Ne.symm unl)).trans q, unl⟩, fun b hb => ?_⟩
    · have nxt : ((i + 1 : Nat) : Int) = (i : Int) + 1 := by omega
      rw [nxt]; exact he'
    · have ltb : b < s.heap.objs.size := by
        have wh : b = en ∨ b = it := by simpa using hb
        rcases wh with zz | zz
        · rw [zz]; exact elt
        · rw [zz]; exact ilt
      rw [upd_ne (Nat.ne_of_lt ltb)]
      exact (hf b hb).1
  done := by
    intro X hP hw hK hc i pn s σ H E I hf st hg
    subst hP hw hK
    obtain ⟨⟨was, he⟩, ki, unl⟩ := st
    obtain ⟨xs, atq, hx⟩ := hg
    obtain ⟨ws, rel, p, szs⟩ := I.tuple atq
    obtain ⟨g0, g1, g2, g3, g4, g5⟩ := hf it (by simp)
    have hl := rel.length
    have ani : a ≠ it := by
      obtain ⟨o, h1, h2, _⟩ := p
      obtain ⟨o', h1', h2', _⟩ := ki
      rintro rfl
      rw [h1] at h1'
      cases h1'
      rw [h2] at h2'
      injection h2' with zz
      exact absurd zz (by decide)
    exact wpAny_pyNext_enum_endT (I.ok.hd hc) he ki p (by simp; omega) fun h' eb => ⟨rfl, I.turned (t' := s.toks) (fun b o hb q => eb b o hb q) g0 g1 g3 g4 g5⟩
  self := fun A i s QQ E st h => let ⟨⟨_, he⟩, _⟩ := st; wpAny_pyIter_enum he h
def iEnumT (K : PySem.W.Frag) (ta : TA) : TI := fun σ H R => ta σ H fun vs H1 => ∃ a xs, vs = [.ref a] ∧ SqT K H1 a xs ∧ R (IteT K a) H1
theorem pi_enumT {X : Cx} {en : Expr} {ta : TA} {p pos tp : Pos} {es : List Expr} {kn : Nat} (hg : Gl X "enumerate") (hm : X.mg "enumerate" = none) (ha : PA X [en] ta) (hs : starEach [en] X.env = [(false, eval en X.env)] := by rfl) :
    PI X (.Tuple es kn tp) (.Call (.Name "enumerate" p) [en] [] pos) (iEnumT X.K ta) := by
  refine ⟨fun pn s σ H R I h => ?_⟩
  refine Call_ (ld_blt I hg hm boot_enumerate (PyProof.Rows.callWith_type1 (thn (ha.run pos pn s σ H _ I h) fun us s1 ⟨vs, H1, I1, r1, q1⟩ => ?_) hs rfl))
  obtain ⟨a, xs, ex, atq, q⟩ := q1
  subst ex
  cases r1 with
  | cons r rr =>
    cases rr
    cases r
    obtain ⟨ws, rel, p', szs⟩ := I1.tuple atq
    refine call_enumerate_tuple p' fun h' he ki gre kee => wpAny_pyIter_enum he ?_
    have I2 : L2.Inv X pn σ H1 { s1 with heap := h' } := I1.kept (t' := s1.toks) kee
    refine ⟨s1.heap.objs.size + 1, [s1.heap.objs.size + 1, s1.heap.objs.size], _, _, H1, rfl, I2, turn_enumT a (s1.heap.objs.size + 1) s1.heap.objs.size, ⟨⟨.none, he⟩, ki, Nat.succ_ne_self _⟩, fun b hb => ?_, q⟩
    have wh : b = s1.heap.objs.size + 1 ∨ b = s1.heap.objs.size := by simpa using hb
    have low : s1.heap.objs.size ≤ b := by
      rcases wh with zz | zz
      · rw [zz]; exact Nat.le_add_right _ _
      · rw [zz]; exact Nat.le_refl _
    exact I1.fpOk low (I1.hok.fresh low)
theorem walk_enumT {K : PySem.W.Frag} {a : Addr} {xs : List V} : Walk (IteT K a) xs.length (fun H => SqT K H a xs) (YPair (fun i => some (.int (i : Nat))) (fun i => xs[i]?)) := by
  refine ⟨fun i _ hi q => ⟨xs, xs[i], q, by simp [hi]⟩, fun _ q => ⟨xs, q, Nat.le_refl _⟩, fun i H v H' _ q yy => ?_⟩
  obtain ⟨T, x, h1, h2, h3, h4⟩ := yy
  exact ⟨T, .int (i : Nat), x, h1, h2, h3, rfl, h4 xs q⟩

theorem get_list {X : Cx} : PGet X (rIxL X.K) := by
  intro pn s σ H x yy v u QQ I rx ry h
  obtain ⟨p, xs, i, zz, rfl, rfl, atq, he, q⟩ := h
  cases rx
  obtain ⟨t, rfl⟩ := ry
  obtain ⟨ws, r, isl, szs⟩ := I.list atq
  obtain ⟨j, h1, h2, h3, h4, h5⟩ := atI_get he
  obtain ⟨w, ew, rWv⟩ := r.get h2
  have hl := r.length
  have hn := line63
  have fin : EP X pn σ QQ w s := ⟨zz, H, I, rWv, q⟩
  by_cases h0 : 0 ≤ i
  · have hj : i.toNat = j := by
      rw [seqIndex_of h0 h5] at h1
      exact Option.some.inj h1
    exact getItem_listL isl.isList h0 (by omega) (by rw [hj]; simpa using ew) fin
  · have hj : (i + (ws.toArray.size : Int)).toNat = j := by
      rw [seqIndex_neg (by omega) h4] at h1
      rw [List.size_toArray, ← hl]
      exact Option.some.inj h1
    exact wpAny_getItem_list_neg isl.isList (by omega) (by rw [List.size_toArray] <;> omega) (by omega) (by rw [hj]; simpa using ew) fin

def rSetT (K : PySem.W.Frag) (w : World) : List V → Hp → VK → Prop := fun vs H QQ => ∃ (a : Addr) (ns : List Int), vs = [V.ref a] ∧ SqT K H a (ns.map V.int) ∧ ns.length + 1 < scanBound ∧ ∀ p c, H p = none → QQ (.ref p) (upd H p (SetO w p (fun j => decide (j ∈ ns)) c))
theorem cr_setT {X : Cx} (hc : X.calm = true) : CallR X (.type "set") (rSetT X.K X.w) := by
  intro pn s σ H xs us QQ I r h
  obtain ⟨a, ns, rfl, atq, hb, q⟩ := h
  obtain ⟨u, rfl, rx⟩ := vals1 r
  cases rx
  obtain ⟨ws, r', isl, szs⟩ := I.tuple atq
  refine call_set_tupI ns (I.ok.hd hc) isl (intsAre_of (by simpa using r')) hb fun h' tk c R hcn kee => ?_
  exact ⟨.ref s.heap.objs.size, _, I.laid (t' := tk) kee (Nat.le_refl _) (setO_new R), rfl, q _ c (I.hok.fresh (Nat.le_refl _))⟩
end E1

namespace E1
open PySem L2
theorem fm_yes {f : Nat → Option V} {n : Nat} {v : V} (h : f n = some v) : (List.range (n + 1)).filterMap f = (List.range n).filterMap f ++ [v] := by
  rw [List.range_succ, List.filterMap_append]
  simp [h]
theorem fm_no {f : Nat → Option V} {n : Nat} (h : f n = none) : (List.range (n + 1)).filterMap f = (List.range n).filterMap f := by
  rw [List.range_succ, List.filterMap_append]
  simp [h]
theorem fm_len (f : Nat → Option V) (n : Nat) : ((List.range n).filterMap f).length ≤ n := by
  have h := List.length_filterMap_le f (List.range n)
  rw [List.length_range] at h
  exact h

def GM (g : TG) : Prop := ∀ x σ H (Q Q' : L2.St → Hp → Prop), (∀ σ' H', Q σ' H' → Q' σ' H') → g x σ H Q → g x σ H Q'
def GsM (g : TGs) : Prop := ∀ x σ H (Q Q' : L2.St → Hp → Prop), (∀ σ' H', Q σ' H' → Q' σ' H') → g x σ H Q → g x σ H Q'
theorem gm_name {i : Nat} : GM (gName i) := fun _ _ _ _ _ m h => m _ _ h
theorem gsm_nil : GsM gNil := fun _ _ _ _ _ m h => ⟨h.1, m _ _ h.2⟩
theorem gsm_cons {t : TG} {u : TGs} (h1 : GM t) (h2 : GsM u) : GsM (gCons t u) := fun x σ H Q Q' m ⟨v, r, e, h⟩ => ⟨v, r, e, h1 _ _ _ _ _ (fun σ' H' z => h2 _ _ _ _ _ m z) h⟩
theorem gm_tup {K : PySem.W.Frag} {n : Nat} {t : TGs} (h : GsM t) : GM (gTup K n t) := fun x σ H Q Q' m ⟨a, xs, e, hs, hl, z⟩ => ⟨a, xs, e, hs, hl, h _ _ _ _ _ m z⟩

theorem g_two {K : PySem.W.Frag} {i j : Nat} {a : Addr} {x y : V} {σ : L2.St} {H : Hp} {Q : L2.St → Hp → Prop} (h : SqT K H a [x, y]) (q : Q ((σ.set i (some x)).set j (some y)) H) : gTup K 2 (gCons (gName i) (gCons (gName j) gNil)) (.ref a) σ H Q :=
  ⟨a, [x, y], rfl, h, rfl, x, [y], rfl, y, [], rfl, rfl, q⟩

def LcB (g : TG) (tt : TT) (te : TE) (vs : List Nat) (σ : L2.St) (Q : VK) (J : It) (H1 : Hp) : Prop := ∀ D, H1 D = none → ∃ W : Nat → Nat → Hp → Prop, (∃ m, W 0 m (upd H1 D (.lst []))) ∧ ∀ i m H, W i m H →
  (J.stop i H ∧ Q (.ref D) H) ∨ (J.go i H ∧ ∃ Nx : Hp → Prop, (∀ H', Nx H' → ∃ m', m' < m ∧ W (i + 1) m' H') ∧ ∀ x H', J.yld i H x H' → g x (wipe σ vs) H' fun σ2 H2 => wipe σ2 vs = wipe σ vs ∧ tt σ2 H2 fun b H3 =>
    if b = true then te σ2 H3 fun y H4 => ∃ acc, H4 D = some (.lst acc) ∧ acc.length < sizeLine ∧ Nx (upd H4 D (.lst (acc ++ [y]))) else Nx H3)
def FoB (g : TG) (tb : TS) (D : Ends) (σ : L2.St) (J : It) (H1 : Hp) : Prop := ∃ W : Nat → Nat → L2.St → Hp → Prop, (∃ m, W 0 m σ H1) ∧ ∀ i m σ H, W i m σ H →
  (J.stop i H ∧ D.nx σ H) ∨ (J.go i H ∧ ∃ N : L2.St → Hp → Prop, (∀ σ' H', N σ' H' → ∃ m', m' < m ∧ W (i + 1) m' σ' H') ∧ ∀ x H', J.yld i H x H' → g x σ H' fun σ2 H2 => tb { D with nx := N, ct := N, bk := D.nx } σ2 H2)
section
variable {wi : TI} {g : TG} {tt : TT} {te : TE} {vs : List Nat} {σ : L2.St} {H : Hp} {Q : VK} {D : Ends} {i : Nat} {tb : TS}
theorem e_lc (h : wi σ H (fun J H1 => LcB g tt te vs σ Q J H1)) : tLc wi g tt te vs σ H Q := h
theorem s_lc (h : wi σ H (fun J H1 => LcB g tt te vs σ (fun x H2 => D.nx (σ.set i (some x)) H2) J H1)) : tAsg (tLc wi g tt te vs) (gName i) D σ H := h
theorem s_for (h : wi σ H (fun J H1 => FoB g tb D σ J H1)) : tFor wi g tb D σ H := h
end
theorem for_w {J : It} {n : Nat} {G : Hp → Prop} {Y : Nat → Hp → V → Hp → Prop} (w : Walk J n G Y) {g : TG} {tb : TS} {D : Ends} {σ : L2.St} {H : Hp} (Pv : Nat → L2.St → Hp → Prop) (h0 : Pv 0 σ H) (hG : ∀ i σ H, i ≤ n → Pv i σ H → G H)
    (hs : ∀ i x σ H H', i < n → Pv i σ H → Y i H x H' → g x σ H' fun σ2 H2 => tb { D with nx := Pv (i + 1), ct := Pv (i + 1), bk := D.nx } σ2 H2) (hd : ∀ σ H, Pv n σ H → D.nx σ H) : FoB g tb D σ J H := for_it w Pv h0 hG hs hd

theorem lc_w {J : It} {n : Nat} {G : Hp → Prop} {Y : Nat → Hp → V → Hp → Prop} (w : Walk J n G Y) {g : TG} {tt : TT} {te : TE} {vs : List Nat} {σ : L2.St} {H1 : Hp} {Q : VK} (Pv : Addr → Nat → Hp → Prop) (h0 : ∀ D, H1 D = none → Pv D 0 (upd H1 D (.lst []))) (hG : ∀ D i H, i ≤ n → Pv D i H → G H)
    (hs : ∀ D i x H H', H1 D = none → i < n → Pv D i H → Y i H x H' → g x (wipe σ vs) H' fun σ2 H2 => wipe σ2 vs = wipe σ vs ∧ tt σ2 H2 fun b H3 =>
      if b = true then te σ2 H3 fun y H4 => ∃ acc, H4 D = some (.lst acc) ∧ acc.length < sizeLine ∧ Pv D (i + 1) (upd H4 D (.lst (acc ++ [y]))) else Pv D (i + 1) H3) (hd : ∀ D H, H1 D = none → Pv D n H → Q (.ref D) H) : LcB g tt te vs σ Q J H1 :=
  fun D hD => lc_it w (Qd := fun H => Q (.ref D) H) (Pv D) (h0 D hD) (hG D) (fun i x H H' => hs D i x H H' hD) fun H => hd D H hD

theorem lc_pW {J : It} {n : Nat} {G : Hp → Prop} {Y : Nat → Hp → V → Hp → Prop} (w : Walk J n G Y) {g : TG} {tt : TT} {te : TE} {vs : List Nat} {σ : L2.St} {H1 : Hp} {Q : VK} (f : Nat → Option V) (hz : n < sizeLine) (hG : ∀ H', Same H1 H' → G H')
    (turn : ∀ i x H' H'', i < n → Same H1 H' → Y i H' x H'' → g x (wipe σ vs) H'' fun σ2 H2 => Same H' H2 ∧ wipe σ2 vs = wipe σ vs ∧ ∃ b, An tt σ2 H2 b ∧ (b = true → ∃ v, Vl te σ2 H2 v ∧ f i = some v) ∧ (b = false → f i = none))
    (hq : ∀ D H', H1 D = none → Same H1 H' → H' D = some (.lst ((List.range n).filterMap f)) → Q (.ref D) H')
    (mono : GM g) : LcB g tt te vs σ Q J H1 := by
  intro D hD
  refine lc_it w (Qd := fun H => Q (.ref D) H) (fun i H' => Same H1 H' ∧ H' D = some (.lst ((List.range i).filterMap f))) ⟨same_new hD, upd_same⟩ (fun i H' _ p => hG H' p.1) ?_ (fun H' p => hq D H' hD p.1 p.2)
  intro i x H' H'' hi p y
  refine mono x _ _ _ _ ?_ (turn i x H' H'' hi p.1 y)
  rintro σ2 H2 ⟨s2, hw, b, ht, h1, h2⟩
  refine ⟨hw, ht.run _ ?_⟩
  have hd2 := s2 _ _ p.2
  cases b with
  | true =>
    obtain ⟨v, hv, hf⟩ := h1 rfl
    show te σ2 H2 _
    refine hv.run _ ⟨_, hd2, Nat.lt_of_le_of_lt (fm_len f i) (Nat.lt_trans hi hz), ?_, ?_⟩
    · exact Same.mut (p.1.trans s2) hD
    · rw [fm_yes hf]
      exact upd_same
  | false =>
    show Same H1 H2 ∧ H2 D = _
    rw [fm_no (h2 rfl)]
    exact ⟨p.1.trans s2, hd2⟩
theorem an_yes {σ : L2.St} {H : Hp} : An tYes σ H true := ⟨fun _ q => q⟩
theorem ints_get {ns : List Int} {i : Nat} {x : V} (h : (ns.map V.int)[i]? = some x) : ∃ n, ns[i]? = some n ∧ x = .int n := by
  rw [List.getElem?_map] at h
  cases e : ns[i]? with
  | none => rw [e] at h; cases h
  | some n => rw [e] at h; exact ⟨n, rfl, (Option.some.inj h).symm⟩
theorem map_get {α : Type} {g : α → V} {ns : List α} {i : Nat} {n : α} (h : ns[i]? = some n) : (ns.map g)[i]? = some (g n) := by
  rw [List.getElem?_map, h]
  rfl
theorem get_of_map {α : Type} {g : α → V} {ns : List α} {i : Nat} {x : V} (h : (ns.map g)[i]? = some x) : ∃ n, ns[i]? = some n ∧ x = g n := by
  rw [List.getElem?_map] at h
  cases e : ns[i]? with
  | none => rw [e] at h; cases h
  | some n => rw [e] at h; exact ⟨n, rfl, (Option.some.inj h).symm⟩
theorem fm_take {α : Type} (ns : List α) (g : α → V) : ∀ n, n ≤ ns.length → (List.range n).filterMap (fun i => (ns[i]?).map g) = (ns.take n).map g
  | 0, _ => rfl
  | n + 1, h => by
    have h1 : ns[n]? = some ns[n] := List.getElem?_eq_getElem (by omega)
    rw [fm_yes (v := g ns[n]) (by rw [h1]; rfl), fm_take ns g n (by omega), List.take_add_one, h1, List.map_append]
    rfl
theorem fm_map {α : Type} (ns : List α) (g : α → V) : (List.range ns.length).filterMap (fun i => (ns[i]?).map g) = ns.map g := by
  rw [fm_take ns g ns.length (Nat.le_refl _), List.take_length]
theorem cutV_int (ns : List Int) (lo hi : Option Int) : cutV (ns.map V.int) lo hi = (((ns.drop (HT.sIx ns.length 0 lo)).take (HT.sIx ns.length ns.length hi - HT.sIx ns.length 0 lo))).map V.int := by
  unfold cutV
  rw [List.length_map, List.map_take, List.map_drop]
section
variable {ta : TA} {te to : TE} {σ : L2.St} {H : Hp} {Q : VK} {vs : List V} {D : Ends} {i : Nat} {K : PySem.W.Frag}
theorem e_tup (h : Ar ta σ H vs) (hl : vs.length ≤ 100000) (k : ∀ p, H p = none → Q (.ref p) (upd H p (.tup vs))) : tTup ta σ H Q := h.run _ ⟨Nat.le_trans hl (by rw [sizeLine_eq]; decide), k⟩
theorem e_lst (h : Ar ta σ H vs) (hl : vs.length ≤ 100000) (k : ∀ p, H p = none → Q (.ref p) (upd H p (.lst vs))) : tLst ta σ H Q := h.run _ ⟨Nat.le_trans hl (by rw [sizeLine_eq]; decide), k⟩
theorem s_retL (h : Ar ta σ H vs) (hl : vs.length ≤ 100000) (k : ∀ p, H p = none → D.rt (.ref p) (upd H p (.lst vs))) : tRet (tLst ta) D σ H := e_lst h hl k
theorem s_retT (h : Ar ta σ H vs) (hl : vs.length ≤ 100000) (k : ∀ p, H p = none → D.rt (.ref p) (upd H p (.tup vs))) : tRet (tTup ta) D σ H := e_tup h hl k
theorem s_setNL (h : Ar ta σ H vs) (hl : vs.length ≤ 100000) (k : ∀ p, H p = none → D.nx (σ.set i (some (.ref p))) (upd H p (.lst vs))) : tAsg (tLst ta) (gName i) D σ H := e_lst h hl k
theorem s_setNT (h : Ar ta σ H vs) (hl : vs.length ≤ 100000) (k : ∀ p, H p = none → D.nx (σ.set i (some (.ref p))) (upd H p (.tup vs))) : tAsg (tTup ta) (gName i) D σ H := e_tup h hl k
variable {sp : Sp} {dvs : List V} {E : XK} {c : TT} {tb : TS} {l : Addr} {xs : List V} {t : TA} {r : V → List V → Hp → VK → Prop}
theorem e_call (h : Ar ta σ H vs) (q : sp (vs ++ dvs) H Q E) : tCall sp dvs E ta σ H Q := h.run _ q
theorem e_bm (ho : Vl to σ H (.ref l)) (hl : H l = some (.lst xs)) (h : t σ H fun as H2 => r (.ref l) as H2 Q) : tBM K "list" r to t σ H Q := ho.run _ ⟨.inl ⟨rfl, _, SqL.of hl⟩, h⟩
theorem s_call {n : Nat} (h : Ar ta σ H vs) (q : sp (vs ++ dvs) H (fun x H1 => D.nx (σ.set n (some x)) H1) E) : tAsg (tCall sp dvs E ta) (gName n) D σ H := h.run _ q
theorem s_retC (h : Ar ta σ H vs) (q : sp (vs ++ dvs) H D.rt E) : tRet (tCall sp dvs E ta) D σ H := h.run _ q
theorem s_while (W : Nat → L2.St → Hp → Prop) (m0 : Nat) (h0 : W m0 σ H)
    (hs : ∀ m σ H, W m σ H → ∃ b, An c σ H b ∧ (b = true → tb { D with nx := fun σ' H' => ∃ m', m' < m ∧ W m' σ' H', ct := fun σ' H' => ∃ m', m' < m ∧ W m' σ' H', bk := D.nx } σ H) ∧ (b = false → D.nx σ H)) : tWhile c tb D σ H := by
  refine ⟨W, ⟨m0, h0⟩, fun m σ H w => ?_⟩
  obtain ⟨b, hb, h1, h2⟩ := hs m σ H w
  refine hb.run _ ?_
  cases b with
  | true => exact ⟨_, fun _ _ z => z, h1 rfl⟩
  | false => exact h2 rfl
end
theorem seqIx {j n : Nat} (h : j < n) : seqIndex? (j : Int) n = some j := by
  have e := PySem.StrLaws.seqIndex_nonneg (i := (j : Int)) (n := n) (by omega) (by omega)
  rw [e]
  simp
theorem cons_eraseIdx_perm : ∀ (l : List V) (j : Nat) (y : V), l[j]? = some y → (y :: l.eraseIdx j).Perm l
  | [], _, _, h => by cases h
  | a :: r, 0, y, h => by
    have e : a = y := Option.some.inj h
    subst e
    exact List.Perm.refl _
  | a :: r, j + 1, y, h => (List.Perm.swap a y _).trans ((cons_eraseIdx_perm r j y h).cons a)
theorem perm_pop {xs fs ls : List V} {j : Nat} {y : V} (h : (fs ++ ls).Perm xs) (hy : ls[j]? = some y) : ((fs ++ [y]) ++ ls.eraseIdx j).Perm xs := by
  refine List.Perm.trans ?_ h
  rw [List.append_assoc]
  refine List.Perm.append_left fs ?_
  exact cons_eraseIdx_perm ls j y hy
end E1

namespace E1
open PySem L2
abbrev nV (n : Nat) : V := V.int (n : Int)

def Tp (H H' : Hp) : Prop := ∀ b xs, H b = some (.tup xs) → H' b = some (.tup xs)
theorem Tp.refl (H : Hp) : Tp H H := fun _ _ e => e
theorem Tp.trans {H H1 H2 : Hp} (a : Tp H H1) (b : Tp H1 H2) : Tp H H2 := fun c x e => b c x (a c x e)
theorem Tp.same {H H' : Hp} (a : Same H H') : Tp H H' := fun b x e => a b _ e
theorem Ch.tp {h : Addr} {H H' : Hp} {xs : List V} (a : Ch h H H') (e : H h = some (.lst xs)) : Tp H H' := fun b x z => a b _ (ne_of z e (fun q => nomatch q)) z
theorem tp_upd {H : Hp} {a : Addr} {xs : List V} {o : HO} (e : H a = some (.lst xs)) : Tp H (upd H a o) := fun b x z => by
  rw [upd_ne (ne_of z e (fun q => nomatch q))]
  exact z
theorem tp_new {H : Hp} {p : Addr} {o : HO} (n : H p = none) : Tp H (upd H p o) := Tp.same (same_new n)

def PairsAt (H : Hp) (ts : List V) (ar : List (Nat × Nat)) : Prop := ts.length = ar.length ∧ ∀ (i : Nat) (p : Nat × Nat), ar[i]? = some p → ∃ t : Addr, ts[i]? = some (V.ref t) ∧ H t = some (.tup [nV p.1, nV p.2])
theorem PairsAt.keep {H H' : Hp} {ts : List V} {ar : List (Nat × Nat)} (a : PairsAt H ts ar) (e : Tp H H') : PairsAt H' ts ar := ⟨a.1, fun i p hp => by
  obtain ⟨t, h1, h2⟩ := a.2 i p hp
  exact ⟨t, h1, e _ _ h2⟩⟩
theorem PairsAt.nil {H : Hp} : PairsAt H [] [] := ⟨rfl, fun i p h => by simp at h⟩
theorem PairsAt.snoc {H : Hp} {ts : List V} {ar : List (Nat × Nat)} {t : Addr} {p : Nat × Nat} (a : PairsAt H ts ar) (h : H t = some (.tup [nV p.1, nV p.2])) : PairsAt H (ts ++ [V.ref t]) (ar ++ [p]) := by
  refine ⟨by rw [List.length_append, List.length_append, a.1]; rfl, fun i q hq => ?_⟩
  by_cases hi : i < ar.length
  · rw [List.getElem?_append_left hi] at hq
    obtain ⟨u, h1, h2⟩ := a.2 i q hq
    exact ⟨u, by rw [List.getElem?_append_left (by rw [a.1]; exact hi)]; exact h1, h2⟩
  · rw [List.getElem?_append_right (by omega)] at hq
    obtain ⟨hl, _⟩ := List.getElem?_eq_some_iff.mp hq
    have e0 : i - ar.length = 0 := by
      simp at hl
      omega
    rw [e0] at hq
    have eq : p = q := Option.some.inj hq
    subst eq
    exact ⟨t, by rw [List.getElem?_append_right (by rw [a.1]; omega), a.1, e0]; rfl, h⟩
theorem PairsAt.take {H : Hp} {ts : List V} {ar : List (Nat × Nat)} (a : PairsAt H ts ar) (n : Nat) : PairsAt H (ts.take n) (ar.take n) := by
  refine ⟨by rw [List.length_take, List.length_take, a.1], fun i p hp => ?_⟩
  rw [List.getElem?_take] at hp ⊢
  split at hp
  · rename_i hi
    rw [if_pos hi]
    exact a.2 i p hp
  · cases hp
theorem PairsAt.at {H : Hp} {ts : List V} {ar : List (Nat × Nat)} (a : PairsAt H ts ar) {i : Nat} {x : V} (h : ts[i]? = some x) : ∃ (p : Nat × Nat) (t : Addr), ar[i]? = some p ∧ x = V.ref t ∧ H t = some (.tup [nV p.1, nV p.2]) := by
  obtain ⟨hl, _⟩ := List.getElem?_eq_some_iff.mp h
  have hl' : i < ar.length := by rw [← a.1]; exact hl
  obtain ⟨t, h1, h2⟩ := a.2 i _ (List.getElem?_eq_getElem hl')
  rw [h] at h1
  exact ⟨_, t, List.getElem?_eq_getElem hl', Option.some.inj h1, h2⟩

def Up (os : List Nat) (p : Nat × Nat) : Prop := ∃ i j : Nat, i < j ∧ os[i]? = some p.1 ∧ os[j]? = some p.2
theorem cutV_take (xs : List V) (n : Nat) : cutV xs none (some (n : Int)) = xs.take n := by
  unfold cutV
  rw [HT.sIx_none, show HT.sIx xs.length xs.length (some (n : Int)) = min n xs.length from HT.sIx_nat _ _ _]
  rw [List.drop_zero, Nat.sub_zero]
  by_cases h : n ≤ xs.length
  · rw [Nat.min_eq_left h]
  · rw [Nat.min_eq_right (by omega), List.take_length, List.take_of_length_le (by omega)]
theorem rgV_nat (n : Nat) : rgV 0 (n : Int) = (List.range n).map nV := by
  unfold rgV
  rw [show ((n : Int) - 0).toNat = n by omega]
  refine List.map_congr_left fun i _ => ?_
  show V.int (0 + (i : Int)) = V.int (i : Int)
  rw [Int.zero_add]
def vN (v : V) : Nat := match v with
  | .int i => i.toNat
  | _ => 0
theorem vN_nV (n : Nat) : vN (nV n) = n := Int.toNat_natCast n
theorem perm_nats {ys : List V} {ns : List Nat} (h : ys.Perm (ns.map nV)) : ∃ os : List Nat, os.Perm ns ∧ ys = os.map nV := by
  refine ⟨ys.map vN, ?_, ?_⟩
  · have q := h.map vN
    rw [List.map_map] at q
    have e : (vN ∘ nV) = id := funext vN_nV
    rw [e, List.map_id] at q
    exact q
  · rw [List.map_map]
    have : ∀ y ∈ ys, (nV ∘ vN) y = y := fun y hy => by
      obtain ⟨n, _, rfl⟩ := List.mem_map.mp (h.mem_iff.mp hy)
      show nV (vN (nV n)) = nV n
      rw [vN_nV]
    rw [List.map_congr_left this, List.map_id']
theorem atI_nats {os : List Nat} {i n : Nat} (h : os[i]? = some n) : atI (os.map nV) (i : Int) = some (nV n) := atI_nat (map_get h)
theorem atI_neg1 {xs : List V} {v : V} (h : xs[xs.length - 1]? = some v) : atI xs (-1) = some v := by
  have hl : xs.length - 1 < xs.length := (List.getElem?_eq_some_iff.mp h).1
  have e : ixN xs.length (-1) = some (xs.length - 1) := by
    unfold ixN
    rw [if_neg (by decide), if_pos (by omega)]
    congr 1
    omega
  unfold atI
  rw [e]
  exact h
section
variable {ta tb : TE} {t : TT} {σ : L2.St} {H : Hp} {b : Bool} {i j n : Int} {tr : TA} {R : It → Hp → Prop} {x y : V} {K : PySem.W.Frag} {a : Addr} {xs : List V}
theorem vl_ifI (h : An t σ H b) (h1 : b = true → Vl ta σ H (.int i)) (h2 : b = false → Vl tb σ H (.int j)) : Vl (tIf t ta tb) σ H (.int (if b = true then i else j)) := ⟨fun Q q => h.run _ (by
  cases b with
  | true => exact (h1 rfl).run Q q
  | false => exact (h2 rfl).run Q q)⟩
theorem e_rng1 (h : Ar tr σ H [.int n]) (h1 : -100000 ≤ n) (h2 : n ≤ 100000) (q : R (Itr 0 n.toNat) H) : iRng1 tr σ H R := h.run _ ⟨n, rfl, by omega, by omega, q⟩
theorem e_rngN {n : Nat} (h : Ar tr σ H [.int (n : Int)]) (h2 : n ≤ 100000) (q : R (Itr 0 n) H) : iRng1 tr σ H R := h.run _ ⟨n, rfl, by omega, by omega, by rw [Int.toNat_natCast]; exact q⟩
theorem e_itL (h : Vl ta σ H (.ref a)) (hs : SqL K H a xs) (q : R (Itl K a) H) : iList K ta σ H R := h.run _ ⟨a, rfl, ⟨_, hs⟩, q⟩
theorem e_itT (h : Vl ta σ H (.ref a)) (hs : SqT K H a xs) (q : R (Itt K a) H) : iTup K ta σ H R := h.run _ ⟨a, rfl, ⟨_, hs⟩, q⟩
theorem e_itE (h : Ar tr σ H [.ref a]) (hs : SqT K H a xs) (q : R (IteT K a) H) : iEnumT K tr σ H R := h.run _ ⟨a, xs, rfl, hs, q⟩
theorem e_op {r : R2} {Q : VK} (ha : Vl ta σ H x) (h : tb σ H fun y H2 => r x y H2 Q) : tOp r ta tb σ H Q := ha.run _ h
theorem s_setE {te : TE} {D : Ends} {m : Nat} (h : te σ H fun x H1 => D.nx (σ.set m (some x)) H1) : tAsg te (gName m) D σ H := h
end

theorem fnN {i : Nat} : V.int (0 + (i : Int)) = nV i := by
  rw [Int.zero_add]
theorem walk_rangeN {n : Nat} : Walk (Itr 0 n) n (fun _ => True) (YFn fun i => nV i) :=
  walk_range.mono (fun _ h => h) fun i H x H' _ _ y => ⟨y.1, by rw [y.2]; exact fnN⟩
end E1

namespace E1
open PySem L2
def top (i : Nat) : Stmt := PySem.Challenge.pw_enoughchecks_k04_whole_reached_and_betwe.main.body.getD i (.Pass ⟨0, 0, 0, 0⟩)
local macro_rules | `(tactic| walk_at "ne") => `(tactic| first | assumption | exact Ne.symm (by assumption) | exact ne_of_none (by walk_at "h") (by assumption) | exact Ne.symm (ne_of_none (by walk_at "h") (by assumption)))
local macro_rules | `(tactic| walk_at "h") => `(tactic| first | assumption | exact upd_same | (rw [upd_ne (by walk_at "ne")]; walk_at "h"))
local macro_rules | `(tactic| walk_at "sq") => `(tactic| first | assumption | exact SqL.of (by walk_at "h") | exact SqT.of (by walk_at "h") | exact .inl (SqL.of (by walk_at "h")) | exact .inr (SqT.of (by walk_at "h")) | exact .inl (by assumption) | exact .inr (by assumption))
local macro_rules | `(tactic| walk_at "at") => `(tactic| first | assumption | exact rfl | exact atI_last _ _ | exact atI_nats (by assumption))
local macro_rules | `(tactic| walk_at "c") => `(tactic| first | assumption | decide | omega | exact ⟨by omega, by omega⟩ | exact .inr ⟨by decide, by decide⟩ | exact .inl ⟨by decide, by decide⟩ | exact .inl ⟨by omega, by omega⟩ | exact ⟨by decide, by decide, by decide⟩)
local macro_rules | `(tactic| walk_at "v") => `(tactic| first
  | exact vl_var rfl
  | exact vl_c
  | (apply vl_add; walk_at "v"; walk_at "v")
  | (apply vl_sub; walk_at "v"; walk_at "v")
  | (apply vl_mul; walk_at "v"; walk_at "v"; walk_at "c")
  | (apply vl_mod; walk_at "v"; walk_at "v"; walk_at "c")
  | (apply vl_fdiv; walk_at "v"; walk_at "v"; walk_at "c")
  | (apply vl_pow; walk_at "v"; walk_at "v"; walk_at "c")
  | (apply vl_ixL; walk_at "v"; walk_at "v"; walk_at "sq"; walk_at "at")
  | (apply vl_ixT; walk_at "v"; walk_at "v"; walk_at "sq"; walk_at "at")
  | (apply vl_len; walk_at "v"; walk_at "sq")
  | (apply vl_int; walk_at "v")
  | (apply vl_abs; walk_at "v")
  | (apply vl_min2; walk_at "v"; walk_at "v")
  | (apply vl_max2; walk_at "v"; walk_at "v")
  | (apply vl_neg; walk_at "v")
  | (apply vl_eqI; walk_at "v"; walk_at "v")
  | (apply vl_neI; walk_at "v"; walk_at "v")
  | (apply vl_lt; walk_at "v"; walk_at "v")
  | (apply vl_le; walk_at "v"; walk_at "v")
  | (apply vl_gt; walk_at "v"; walk_at "v")
  | (apply vl_ge; walk_at "v"; walk_at "v")
  | (apply vl_eqB; walk_at "v"; walk_at "v")
  | (apply vl_neB; walk_at "v"; walk_at "v")
  | (apply vl_chain; walk_at "v"; walk_at "v"; walk_at "v")
  | (apply vl_ifI; walk_at "t"; (intro _; walk_at "v"); (intro _; walk_at "v"))
  | (apply vl_not; walk_at "v")
  | (apply vl_andL; walk_at "v"; intro _; walk_at "v")
  | (apply vl_orL; walk_at "v"; intro _; walk_at "v"))
local macro_rules | `(tactic| walk_at "t") => `(tactic| first
  | (apply an_and; walk_at "t"; intro _; walk_at "t")
  | (apply an_or; walk_at "t"; intro _; walk_at "t")
  | (apply an_not; walk_at "t")
  | (apply an_of; walk_at "v")
  | (apply an_val; walk_at "v"))
local macro_rules | `(tactic| walk_at "a") => `(tactic| first | exact ar_nil | (apply ar_cons; walk_at "v"; walk_at "a"))
local macro_rules | `(tactic| walk_at "n1") => `(tactic| first
  | (apply s_set; walk_at "v")
  | (apply s_setL; walk_at "v"; walk_at "v"; walk_at "v"; walk_at "h"; walk_at "at")
  | (apply s_augI; exact rfl; walk_at "v")
  | (apply s_app; walk_at "v"; walk_at "v"; walk_at "h"; walk_at "c")
  | (apply s_ret; walk_at "v")
  | (apply s_retL; walk_at "a"; walk_at "z")
  | (apply s_retT; walk_at "a"; walk_at "z")
  | (apply s_setNL; walk_at "a"; walk_at "z")
  | (apply s_setNT; walk_at "a"; walk_at "z")
  | (apply s_if; walk_at "t"))
local macro_rules | `(tactic| walk_at "n") => `(tactic| ((try dsimp only); (try (with_reducible apply st_next; try dsimp only)); first | (apply st_seq; walk_at "n1") | walk_at "n1"))
local macro_rules | `(tactic| walk_at "z") => `(tactic| (simp only [List.length_cons, List.length_nil]; omega))

structure Bi (mg : Str → Option Value) : Prop where
  m_abs : mg "abs" = none
  m_int : mg "int" = none
  m_len : mg "len" = none
  m_list : mg "list" = none
  m_tuple : mg "tuple" = none
  m_range : mg "range" = none
  m_enumerate : mg "enumerate" = none
  m_isinstance : mg "isinstance" = none
  m_bool : mg "bool" = none
  m_sorted : mg "sorted" = none
  m_set : mg "set" = none
  m_min : mg "min" = none
  m_all : mg "all" = none
  m_zip : mg "zip" = none
structure Dn (K : PySem.W.Frag) (mg : Str → Option Value) (x : Str) (st : Stmt) (ps : List Str) (f : Addr) (fd : FuncData) : Prop where
  F : Fun K x x st f fd
  g : mg x = some (.ref f)
  b : Binds K fd ps []

structure HandAt (H : Hp) (h c : Addr) : Prop where
  ex : ∃ (cells : List Int) (i big seed cnt : Int), H h = some (.lst [.ref c, .int i, .int big, .int seed, .int cnt]) ∧ H c = some (.lst (cells.map V.int)) ∧ c ≠ h ∧ 0 ≤ i ∧ 0 ≤ big ∧ (∀ x ∈ cells, 0 ≤ x)
section
variable {H H' : Hp} {h c p : Addr} {o : HO}
theorem HandAt.same (a : HandAt H h c) (e : Same H H') : HandAt H' h c := by
  obtain ⟨cells, i, big, seed, cnt, h1, h2, r⟩ := a
  exact ⟨cells, i, big, seed, cnt, e _ _ h1, e _ _ h2, r⟩
theorem HandAt.gh (a : HandAt H h c) : ∃ xs, H h = some (.lst xs) := by
  obtain ⟨cells, i, big, seed, cnt, h1, h2, r⟩ := a
  exact ⟨_, h1⟩
theorem HandAt.gc (a : HandAt H h c) : ∃ xs, H c = some (.lst xs) := by
  obtain ⟨cells, i, big, seed, cnt, h1, h2, r⟩ := a
  exact ⟨_, h2⟩
theorem HandAt.nh (a : HandAt H h c) (n : H p = none) : p ≠ h := by
  obtain ⟨_, e⟩ := a.gh
  exact Ne.symm (ne_of_none e n)
theorem HandAt.nc (a : HandAt H h c) (n : H p = none) : p ≠ c := by
  obtain ⟨_, e⟩ := a.gc
  exact Ne.symm (ne_of_none e n)
theorem HandAt.mut (a : HandAt H h c) (n1 : p ≠ h) (n2 : p ≠ c) : HandAt (upd H p o) h c := by
  obtain ⟨cells, i, big, seed, cnt, h1, h2, r⟩ := a
  exact ⟨cells, i, big, seed, cnt, by rw [upd_ne (Ne.symm n1)]; exact h1, by rw [upd_ne (Ne.symm n2)]; exact h2, r⟩
end
def spHand (K : PySem.W.Frag) : Sp := fun vs H Q _ => ∃ (a : Addr) (ns : List Int), vs = [.ref a] ∧ SqL K H a (ns.map V.int) ∧ ns.length ≤ 1000 ∧ ∀ H' h c, Same H H' → H h = none → H c = none → HandAt H' h c → Q (.ref h) H'
def spDraw : Sp := fun vs H Q _ => ∃ (h c : Addr) (many : Int), vs = [.ref h, .int many] ∧ HandAt H h c ∧ 0 < many ∧ many < 1073741824 ∧ ∀ H' d, Ch h H H' → HandAt H' h c → 0 ≤ d → d < many → Q (.int d) H'
def spShuffled (K : PySem.W.Frag) : Sp := fun vs H Q _ => ∃ (h c a : Addr) (xs : List V), vs = [.ref h, .ref a] ∧ HandAt H h c ∧ (SqL K H a xs ∨ SqT K H a xs) ∧ xs.length ≤ 1000 ∧
  ∀ H' p ys, Ch h H H' → HandAt H' h c → H p = none → H' p = some (.lst ys) → ys.Perm xs → Q (.ref p) H'
def spOrdered : Sp := fun vs H Q _ => ∃ (h c : Addr) (places many : Nat) (far : Int), vs = [.ref h, nV places, nV many, .int far] ∧ HandAt H h c ∧ 1 ≤ places ∧ places ≤ 1000 ∧ many ≤ 1000 ∧ 1 ≤ far ∧
  ∀ (H' : Hp) (t o a : Addr) (os : List Nat) (ar : List (Nat × Nat)) (ts : List V), Ch h H H' → HandAt H' h c → H' t = some (.tup [.ref o, .ref a]) → H o = none → H' o = some (.lst (os.map nV)) → H' a = some (.tup ts) → PairsAt H' ts ar → os.Perm (List.range places) → (∀ p ∈ ar, Up os p) → ar.length ≤ many → Q (.ref t) H'
section
variable {P : Program} {w : World} {K : PySem.W.Frag} {mg : Str → Option Value} {base : Heap}
abbrev s__law_hand : Stmt := top 22
abbrev N__law_hand : List Str := ["script", "cells", "cell"]
theorem sc__law_hand : FnScope N__law_hand ["script"] (defScope s__law_hand) := ⟨rfl, rfl, rfl, by decide +kernel, rfl, by decide +kernel, by decide +kernel⟩

theorem ok__law_hand {f : Addr} {fd : FuncData} (F : Fun K "_law_hand" "_law_hand" s__law_hand f fd) (T : Bi mg) : FnOk P w K mg base CX0 1 f fd ["script"] (spHand K) := by
  have nd := sc__law_hand.nd
  refine F.ok sc__law_hand (fun vs H Q E h => ?_) (fun cdv A outer s H vs Q E hr h => ?_)
  · obtain ⟨a, ns, rfl, _⟩ := h
    rfl
  · obtain ⟨a, ns, rfl, hS, hlen, k⟩ := h
    refine ⟨_, (pss_cons
 (ps_setLc (i := 1) (own := [("cell", 2)]) (g := gName 2) (tt := tYes) (by rfl) nd rfl rfl (sw_true rfl rfl rfl (by decide +kernel)) (pi_list (pe_slice sl_list (pv 0) po_none (po_some pe_int))) (blkOk_by (own := [("cell", 2)]) (N := N__law_hand) (sc := defScope s__law_hand) (by decide +kernel)) (fun _ _ _ _ _ => (pg_name (i := 2) nd rfl (Or.inl rfl))) (fun _ _ _ _ _ => pts_nil) (fun _ _ _ _ _ => (pe_callB call_abs (by rfl) T.m_abs (by decide +kernel) (pa_cons (pe_callTy call_int1 (by rfl) T.m_int (by decide +kernel) (pa_cons (pv 2) pa_nil)) pa_nil))))
(pss_one
 (ps_ret (pe_lst (pa_cons (pv 1) (pa_cons pe_int (pa_cons pe_int (pa_cons (pe_op op_add pe_int (pe_callB call_len_seq (by rfl) T.m_len (by decide +kernel) (pa_cons (pv 1) pa_nil))) (pa_cons pe_int pa_nil))))))))), ?_⟩
    apply st_seq
    apply s_lc
    refine ⟨_, rfl, 63, rfl, a, _, rfl, hS, fun p np => ?_⟩
    obtain ⟨ms, hms, hml⟩ : ∃ ms : List Int, cutV (ns.map V.int) none (some 63) = ms.map V.int ∧ ms.length ≤ ns.length := by
      refine ⟨_, cutV_int ns none (some 63), ?_⟩
      rw [List.length_take, List.length_drop]
      omega
    rw [hms]
    refine ⟨p, rfl, ⟨_, SqL.of upd_same⟩, ?_⟩
    refine lc_pW (walk_list (xs := ms.map V.int)) (fun i => (ms[i]?).map fun n => V.int (if n < 0 then -n else n)) (by rw [List.length_map, sizeLine_eq]; omega) (fun H' e => SqL.of (e _ _ upd_same)) ?_ ?_ gm_name
    · rintro i x H' H'' hi e ⟨rfl, hx⟩
      obtain ⟨n, hn, rfl⟩ := get_of_map hx
      refine ⟨Same.refl _, rfl, true, an_yes, fun _ => ⟨_, by walk_at "v", by rw [hn]; rfl⟩, fun z => nomatch z⟩
    · intro D H' hD e hd
      rw [List.length_map, fm_map] at hd
      have hD0 : H D = none := (same_new np).free hD
      dsimp only
      walk_at "n"
      intro q nq
      have hqD : D ≠ q := ne_of_none hd nq
      have e2 : Same H (upd H' q (.lst [.ref D, .int 0, .int 0, .int (1 + (ms.map fun n => V.int (if n < 0 then -n else n)).length), .int 0])) := ((same_new np).trans e).trans (same_new nq)
      refine k _ q D e2 (((same_new np).trans e).free nq) hD0 ⟨ms.map fun n => if n < 0 then -n else n, _, _, _, _, upd_same, ?_, hqD, by decide, by decide, ?_⟩
      · rw [upd_ne hqD, hd, List.map_map]
        rfl
      · intro x hx
        obtain ⟨n, _, rfl⟩ := List.mem_map.mp hx
        split <;> omega
abbrev s__law_draw : Stmt := top 23
abbrev N__law_draw : List Str := ["hand", "many", "cell", "digit", "number"]
theorem sc__law_draw : FnScope N__law_draw ["hand", "many"] (defScope s__law_draw) := ⟨rfl, rfl, rfl, by decide +kernel, rfl, by decide +kernel, by decide +kernel⟩

theorem ok__law_draw {f : Addr} {fd : FuncData} (F : Fun K "_law_draw" "_law_draw" s__law_draw f fd) (T : Bi mg) : FnOk P w K mg base CX0 1 f fd ["hand", "many"] spDraw := by
  have nd := sc__law_draw.nd
  refine F.ok sc__law_draw (fun vs H Q E h => ?_) (fun cdv A outer s H vs Q E hr h => ?_)
  · obtain ⟨h, c, many, rfl, _⟩ := h
    rfl
  · obtain ⟨h, c, many, rfl, ⟨cells, i, big, seed, cnt, hh, hc, hch, hi, hb, hcl⟩, hm0, hm1, k⟩ := h
    have hS : SqL K H h _ := SqL.of hh
    have hC : SqL K H c _ := SqL.of hc
    refine ⟨_, (Evl.pss_cut
 (ps_if (PW.pt (pw_and (pt_cmpR op_eq (pe_ix ix_list (pv 0) pe_int (fun _ _ => rfl)) pe_int (nomark _)) (pw_and1 (pt_cmpR op_lt (pe_ix ix_list (pv 0) pe_int (fun _ _ => rfl)) (pe_callB call_len_seq (by rfl) T.m_len (by decide +kernel) (pa_cons (pe_ix ix_list (pv 0) pe_int (fun _ _ => rfl)) pa_nil)) (nomark _))))) (pss_cons
 (ps_set (i := 2) nd rfl (Or.inl rfl) (pe_ix ix_list (pe_ix ix_list (pv 0) pe_int (fun _ _ => rfl)) (pe_ix ix_list (pv 0) pe_int (fun _ _ => rfl)) (fun _ _ => rfl)))
(pss_cons
 (ps_asg (pe_op op_add (pe_ix ix_list (pv 0) pe_int (fun _ _ => rfl)) pe_int) (pg_sub (pv 0) pe_int set_list))
(pss_cons
 (ps_asg (pe_op op_mod (pe_callTy call_int1 (by rfl) T.m_int (by decide +kernel) (pa_cons (pe_op op_add (pe_op op_add (pe_op op_mul (pe_ix ix_list (pv 0) pe_int (fun _ _ => rfl)) pe_int) (pv 2)) pe_int) pa_nil)) pe_int) (pg_sub (pv 0) pe_int set_list))
(pss_one
 (ps_if (pt_cmpR op_ge (pv 2) (pe_op op_pow pe_int pe_int) (nomark _)) (pss_one
 (ps_asg (pv 2) (pg_sub (pv 0) pe_int set_list))) pss_nil))))) pss_nil)
(pss_cons
 (ps_if (pt_cmpR op_gt (pe_ix ix_list (pv 0) pe_int (fun _ _ => rfl)) pe_int (nomark _)) (pss_cons
 (ps_set (i := 3) nd rfl (Or.inl rfl) (pe_op op_mod (pe_callTy call_int1 (by rfl) T.m_int (by decide +kernel) (pa_cons (pe_ix ix_list (pv 0) pe_int (fun _ _ => rfl)) pa_nil)) (pv 1)))
(pss_cons
 (ps_asg (pe_op op_fdiv (pe_ix ix_list (pv 0) pe_int (fun _ _ => rfl)) (pv 1)) (pg_sub (pv 0) pe_int set_list))
(pss_one
 (ps_ret (pv 3))))) pss_nil)
(pss_cons
 (ps_asg (pe_op op_add (pe_ix ix_list (pv 0) pe_int (fun _ _ => rfl)) pe_int) (pg_sub (pv 0) pe_int set_list))
(pss_cons
 (ps_set (i := 4) nd rfl (Or.inl rfl) (pe_op op_mod (pe_callTy call_int1 (by rfl) T.m_int (by decide +kernel) (pa_cons (pe_op op_mul (pe_callTy call_int1 (by rfl) T.m_int (by decide +kernel) (pa_cons (pe_op op_add (pe_ix ix_list (pv 0) pe_int (fun _ _ => rfl)) (pe_op op_mul pe_int (pe_ix ix_list (pv 0) pe_int (fun _ _ => rfl)))) pa_nil)) pe_int) pa_nil)) pe_int))
(pss_cons
 (ps_set (i := 4) nd rfl (Or.inl rfl) (pe_op op_mod (pe_callTy call_int1 (by rfl) T.m_int (by decide +kernel) (pa_cons (pe_op op_mul (pv 4) (pe_op op_add (pe_op op_fdiv (pv 4) pe_int) pe_int)) pa_nil)) pe_int))
(pss_cons
 (ps_set (i := 4) nd rfl (Or.inl rfl) (pe_op op_mod (pe_callTy call_int1 (by rfl) T.m_int (by decide +kernel) (pa_cons (pe_op op_mul (pv 4) (pe_op op_add (pe_op op_fdiv (pv 4) pe_int) pe_int)) pa_nil)) pe_int))
(pss_one
 (ps_ret (pe_op op_mod (pe_callTy call_int1 (by rfl) T.m_int (by decide +kernel) (pa_cons (pe_op op_fdiv (pv 4) pe_int) pa_nil)) (pv 1)))))))))), ?_⟩
    refine ⟨fun σ H1 => ∃ i' big' seed' cnt' v2, σ = [some (.ref h), some (.int many), v2, none, none] ∧ Ch h H H1 ∧ H1 h = some (.lst [.ref c, .int i', .int big', .int seed', .int cnt']) ∧ 0 ≤ i' ∧ 0 ≤ big', ?_, ?_⟩
    · apply s_if
      · walk_at "t"
      · intro hb1
        rw [Bool.and_eq_true] at hb1
        have e1 := of_decide_eq_true hb1.1
        have e2 := of_decide_eq_true hb1.2
        rw [List.length_map] at e2
        obtain ⟨n, rfl⟩ : ∃ n : Nat, i = (n : Int) := ⟨i.toNat, by omega⟩
        have hn : n < cells.length := by omega
        have hget : (cells.map V.int)[n]? = some (.int cells[n]) := by
          rw [List.getElem?_map, List.getElem?_eq_getElem hn]
          rfl
        have hat : atI (cells.map V.int) (n : Int) = some (.int cells[n]) := atI_nat hget
        have hcn := hcl _ (List.getElem_mem hn)
        walk_at "n"
        walk_at "n"
        walk_at "n"
        walk_at "n"
        · intro hb2
          have e3 := of_decide_eq_true hb2
          walk_at "n"
          exact ⟨_, _, _, _, _, rfl, ((Ch.refl h H).at.at).at, upd_same, by omega, hcn⟩
        · intro hb2
          exact ⟨_, _, _, _, _, rfl, (Ch.refl h H).at.at, upd_same, by omega, hb⟩
      · intro _
        exact ⟨_, _, _, _, _, rfl, Ch.refl h H, hh, hi, hb⟩
    · rintro σ H1 ⟨i', big', seed', cnt', v2, rfl, ch, h1, hi', hb'⟩
      have hS1 : SqL K H1 h _ := SqL.of h1
      have hc1 : H1 c = some (.lst (cells.map V.int)) := ch _ _ hch hc
      walk_at "n"
      · intro hb1
        have e1 := of_decide_eq_true hb1
        walk_at "n"
        walk_at "n"
        walk_at "n"
        refine k _ _ ch.at ⟨_, _, _, _, _, upd_same, by rw [upd_ne hch]; exact hc1, hch, hi', ?_, hcl⟩ (Int.emod_nonneg _ (by omega)) (Int.emod_lt_of_pos _ hm0)
        exact Int.ediv_nonneg hb' (by omega)
      · intro hb1
        walk_at "n"
        walk_at "n"
        walk_at "n"
        walk_at "n"
        walk_at "n"
        refine k _ _ ch.at ⟨_, _, _, _, _, upd_same, by rw [upd_ne hch]; exact hc1, hch, hi', hb', hcl⟩ (Int.emod_nonneg _ (by omega)) (Int.emod_lt_of_pos _ hm0)
abbrev s__law_shuffled : Stmt := top 25
abbrev N__law_shuffled : List Str := ["hand", "things", "left", "found"]
theorem sc__law_shuffled : FnScope N__law_shuffled ["hand", "things"] (defScope s__law_shuffled) := ⟨rfl, rfl, rfl, by decide +kernel, rfl, by decide +kernel, by decide +kernel⟩

theorem ok__law_shuffled {f fD : Addr} {fd fdD : FuncData} (F : Fun K "_law_shuffled" "_law_shuffled" s__law_shuffled f fd) (T : Bi mg) (D__law_draw : Dn K mg "_law_draw" s__law_draw ["hand", "many"] fD fdD) : FnOk P w K mg base CX0 2 f fd ["hand", "things"] (spShuffled K) := by
  have nd := sc__law_shuffled.nd
  have G__law_draw : FnOk P w K mg base CX0 1 fD fdD ["hand", "many"] spDraw := ok__law_draw D__law_draw.F T
  refine F.ok sc__law_shuffled (fun vs H Q E h => ?_) (fun cdv A outer s H vs Q E hr h => ?_)
  · obtain ⟨h, c, a, xs, rfl, _⟩ := h
    rfl
  · obtain ⟨h, c, a, xs, rfl, hh, hx, hz, k⟩ := h
    refine ⟨_, (pss_cons
 (ps_set (i := 2) nd rfl (Or.inl rfl) (pe_callTy call_list_of (by rfl) T.m_list (by decide +kernel) (pa_cons (pv 1) pa_nil)))
(pss_cons
 (ps_set (i := 3) nd rfl (Or.inl rfl) (pe_lst pa_nil))
(pss_cons
 (ps_while PassesOwn.never (pt_cmpR op_gt (pe_callB call_len_seq (by rfl) T.m_len (by decide +kernel) (pa_cons (pv 2) pa_nil)) pe_int (nomark _))
(pss_one
 (ps_expr (pe_bm PySem.F.plainAttrs_list PySem.F.slot_list_append PySem.F.type_list_append mt_append (pv 3) (pa_cons (pe_bm PySem.F.plainAttrs_list PySem.F.slot_list_pop PySem.F.type_list_pop mt_popAt (pv 2) (pa_cons (pe_call G__law_draw (hr.mono (by decide)) (by rfl) D__law_draw.g D__law_draw.F.kp D__law_draw.b .nil pass0 (pa_cons (pv 0) (pa_cons (pe_callB call_len_seq (by rfl) T.m_len (by decide +kernel) (pa_cons (pv 2) pa_nil)) pa_nil))) pa_nil)) pa_nil)))))
(pss_one
 (ps_ret (pv 3)))))), ?_⟩
    apply st_seq
    refine ⟨_, rfl, a, xs, rfl, hx, fun l nl => ?_⟩
    dsimp only
    have hh1 : HandAt (upd H l (.lst xs)) h c := hh.same (same_new nl)
    walk_at "n"
    intro fo nfo
    dsimp only
    have hlf : l ≠ fo := fun e => by rw [e, upd_same] at nfo; cases nfo
    have nfo' : H fo = none := (same_new nl).free nfo
    have hlh := hh.nh nl
    have hlc := hh.nc nl
    have hfh := hh.nh nfo'
    have hfc := hh.nc nfo'
    apply st_seq
    refine s_while (fun m σ H1 => ∃ ls fs, m = ls.length ∧ σ = [some (.ref h), some (.ref a), some (.ref l), some (.ref fo)] ∧ Ch h H H1 ∧ HandAt H1 h c ∧ H1 l = some (.lst ls) ∧ H1 fo = some (.lst fs) ∧ (fs ++ ls).Perm xs) xs.length
      ⟨xs, [], rfl, rfl, Ch.same ((same_new nl).trans (same_new nfo)), hh1.same (same_new nfo), by rw [upd_ne hlf]; exact upd_same, upd_same, List.Perm.refl _⟩ ?_
    rintro m σ H1 ⟨ls, fs, rfl, rfl, ch, hh2, h1, h2, pm⟩
    have plen := pm.length_eq
    rw [List.length_append] at plen
    refine ⟨_, by walk_at "t", fun hb => ?_, fun hb => ?_⟩
    · have hb' := of_decide_eq_true hb
      apply e_bm (by walk_at "v") h2
      apply e_bm (by walk_at "v") h1
      refine e_call (by walk_at "a") ⟨h, c, _, rfl, hh2, hb', by omega, fun H2 d ch2 hh3 d0 d1 => ?_⟩
      obtain ⟨j, rfl⟩ : ∃ j : Nat, d = (j : Int) := ⟨d.toNat, by omega⟩
      have hj : j < ls.length := by omega
      have g1 : H2 l = some (.lst ls) := ch2 _ _ hlh h1
      have g2 : H2 fo = some (.lst fs) := ch2 _ _ hfh h2
      have gy : ls[j]? = some ls[j] := List.getElem?_eq_getElem hj
      refine ⟨l, ls, _, j, _, rfl, rfl, g1, by omega, by omega, seqIx hj, gy, ?_⟩
      refine ⟨fo, fs, _, rfl, rfl, by rw [upd_ne (Ne.symm hlf)]; exact g2, by rw [sizeLine_eq]; omega, ?_⟩
      have elen := List.length_eraseIdx_of_lt hj
      refine ⟨_, ?_, _, _, rfl, rfl, (((ch.trans ch2).mut nl).mut nfo'), (hh3.mut hlh hlc).mut hfh hfc, by rw [upd_ne hlf]; exact upd_same, upd_same, perm_pop pm gy⟩
      omega
    · have hb' := of_decide_eq_false hb
      have hls : ls = [] := List.length_eq_zero_iff.mp (by omega)
      subst hls
      walk_at "n"
      rw [List.append_nil] at pm
      exact k _ _ _ ch hh2 nfo' h2 pm
abbrev s__law_ordered : Stmt := top 26
abbrev N__law_ordered : List Str := ["hand", "places", "many", "far", "order", "found", "turn", "one", "other"]
theorem sc__law_ordered : FnScope N__law_ordered ["hand", "places", "many", "far"] (defScope s__law_ordered) := ⟨rfl, rfl, rfl, by decide +kernel, rfl, by decide +kernel, by decide +kernel⟩

theorem ok__law_ordered {f fD fS : Addr} {fd fdD fdS : FuncData} (F : Fun K "_law_ordered" "_law_ordered" s__law_ordered f fd) (T : Bi mg) (D__law_draw : Dn K mg "_law_draw" s__law_draw ["hand", "many"] fD fdD)
    (D__law_shuffled : Dn K mg "_law_shuffled" s__law_shuffled ["hand", "things"] fS fdS) : FnOk P w K mg base CX0 3 f fd ["hand", "places", "many", "far"] spOrdered := by
  have nd := sc__law_ordered.nd
  have G__law_draw : FnOk P w K mg base CX0 1 fD fdD ["hand", "many"] spDraw := ok__law_draw D__law_draw.F T
  have G__law_shuffled : FnOk P w K mg base CX0 2 fS fdS ["hand", "things"] (spShuffled K) := ok__law_shuffled D__law_shuffled.F T D__law_draw
  refine F.ok sc__law_ordered (fun vs H Q E h => ?_) (fun cdv A outer s H vs Q E hr h => ?_)
  · obtain ⟨h, c, places, many, far, rfl, _⟩ := h
    rfl
  · obtain ⟨h, c, places, many, far, rfl, hh, hp1, hp2, hm, hf, k⟩ := h
    refine ⟨_, (pss_cons
 (ps_set (i := 4) nd rfl (Or.inl rfl) (pe_call G__law_shuffled (hr.mono (by decide)) (by rfl) D__law_shuffled.g D__law_shuffled.F.kp D__law_shuffled.b .nil pass0 (pa_cons (pv 0) (pa_cons (pe_listRg (by rfl) (by rfl) T.m_list (prg_1 (by rfl) T.m_range (pv 1))) pa_nil))))
(pss_cons
 (ps_set (i := 5) nd rfl (Or.inl rfl) (pe_lst pa_nil))
(pss_cons
 (ps_for PassesOwn.never rfl (pi_range1 (by rfl) T.m_range (pa_cons (pe_ifExp (pt_cmpR op_gt (pv 1) pe_int (nomark _)) (pv 2) pe_int) pa_nil)) (pg_name (i := 6) nd rfl (Or.inl rfl))
(pss_cons
 (ps_set (i := 7) nd rfl (Or.inl rfl) (pe_call G__law_draw (hr.mono (by decide)) (by rfl) D__law_draw.g D__law_draw.F.kp D__law_draw.b .nil pass0 (pa_cons (pv 0) (pa_cons (pe_op op_sub (pv 1) pe_int) pa_nil))))
(pss_cons
 (ps_set (i := 8) nd rfl (Or.inl rfl) (pe_op op_add (pe_op op_add (pv 7) pe_int) (pe_call G__law_draw (hr.mono (by decide)) (by rfl) D__law_draw.g D__law_draw.F.kp D__law_draw.b .nil pass0 (pa_cons (pv 0) (pa_cons (pe_callB (call_min2 rfl) (by rfl) T.m_min (by decide +kernel) (pa_cons (pv 3) (pa_cons (pe_op op_sub (pe_op op_sub (pv 1) pe_int) (pv 7)) pa_nil))) pa_nil)))))
(pss_cons
 (ps_expr (pe_bm PySem.F.plainAttrs_list PySem.F.slot_list_append PySem.F.type_list_append mt_append (pv 5) (pa_cons (pe_tup (pa_cons (pe_ix ix_list (pv 4) (pv 7) (fun _ _ => rfl)) (pa_cons (pe_ix ix_list (pv 4) (pv 8) (fun _ _ => rfl)) pa_nil))) pa_nil)))
(pss_one
 (ps_if (PW.pt (pw_and (pt_cmpR op_eq (pe_call G__law_draw (hr.mono (by decide)) (by rfl) D__law_draw.g D__law_draw.F.kp D__law_draw.b .nil pass0 (pa_cons (pv 0) (pa_cons pe_int pa_nil))) pe_int (nomark _)) (pw_and1 (pt_cmpR op_lt (pe_callB call_len_seq (by rfl) T.m_len (by decide +kernel) (pa_cons (pv 5) pa_nil)) (pv 2) (nomark _))))) (pss_one
 (ps_expr (pe_bm PySem.F.plainAttrs_list PySem.F.slot_list_append PySem.F.type_list_append mt_append (pv 5) (pa_cons (pe_ix ix_list (pv 5) (pe_un un_neg pe_int) (fun _ _ => rfl)) pa_nil)))) pss_nil))))))
(pss_one
 (ps_ret (pe_tup (pa_cons (pv 4) (pa_cons (pe_callTy call_tuple_of (by rfl) T.m_tuple (by decide +kernel) (pa_cons (pe_slice sl_list (pv 5) po_none (po_some (pv 2))) pa_nil)) pa_nil)))))))), ?_⟩
    apply st_seq

    refine ⟨_, rfl, _, rfl, _, rfl, RgOk.of_le (by decide) (by omega) (by decide) (by omega), fun r nr => ?_⟩
    rw [rgV_nat]
    refine ⟨h, c, r, _, rfl, hh.same (same_new nr), .inl (SqL.of upd_same), by rw [List.length_map, List.length_range]; exact hp2, fun H1 o ys ch1 hh1 no0 ho pm => ?_⟩
    obtain ⟨os, pm2, rfl⟩ := perm_nats pm
    have no : H o = none := (same_new nr).free no0
    have osl : os.length = places := by rw [pm2.length_eq, List.length_range]
    have ch1 : Ch h H H1 := (Ch.same (same_new nr)).trans ch1
    dsimp only
    walk_at "n"
    intro fo nfo
    dsimp only
    have nfoH : H fo = none := ch1.free (hh1.nh nfo) nfo
    have hoh := hh.nh no
    have hoc := hh.nc no
    have hfh := hh.nh nfoH
    have hfc := hh.nc nfoH
    have hof : o ≠ fo := ne_of_none ho nfo
    have ch2 : Ch h H (upd H1 fo (.lst [])) := ch1.new nfo
    have hh2 := hh1.same (same_new (o := .lst []) nfo)
    have ho2 : upd H1 fo (.lst []) o = some (.lst (os.map nV)) := by rw [upd_ne hof]; exact ho
    apply st_seq
    apply s_for

    obtain ⟨n, hn1, hn2, hn3⟩ : ∃ n : Nat, (if (decide ((1 : Int) < (places : Int))) = true then (many : Int) else 0) = (n : Int) ∧ n ≤ 1000 ∧ (n ≠ 0 → 1 < places) := by
      by_cases hpl : 1 < places
      · exact ⟨many, by rw [decide_eq_true (by omega), if_pos rfl], hm, fun _ => hpl⟩
      · exact ⟨0, by rw [decide_eq_false (by omega), if_neg Bool.false_ne_true]; rfl, by omega, fun z => absurd rfl z⟩
    refine e_rngN (n := n) (by rw [← hn1]; walk_at "a") (by omega) ?_
    refine for_w walk_rangeN (fun i σ H3 => ∃ fs ar x6 x7 x8, σ = [some (.ref h), some (nV places), some (nV many), some (.int far), some (.ref o), some (.ref fo), x6, x7, x8] ∧ Ch h H H3 ∧ HandAt H3 h c ∧ H3 o = some (.lst (os.map nV)) ∧ H3 fo = some (.lst fs) ∧
      PairsAt H3 fs ar ∧ (∀ p ∈ ar, Up os p) ∧ ar.length ≤ 2 * i) ⟨[], [], none, none, none, rfl, ch2, hh2, ho2, upd_same, PairsAt.nil, (fun _ z => by cases z), by decide⟩ (fun _ _ _ _ _ => trivial) ?_ ?_
    · rintro i x σ H3 _ hi ⟨fs, ar, x6, x7, x8, rfl, ch3, hh3, ho3, hf3, pa, up, al⟩ ⟨rfl, rfl⟩
      have hpl : 1 < places := hn3 (by omega)
      have hfl : fs.length ≤ 2000 := by rw [pa.1]; omega
      show tSeq _ _ _ _ _

      apply st_seq
      apply s_call (by walk_at "a")
      refine ⟨h, c, _, rfl, hh3, by omega, by omega, fun H4 d1 ch4 hh4 d1a d1b => ?_⟩
      obtain ⟨one, rfl⟩ : ∃ one : Nat, d1 = (one : Int) := ⟨d1.toNat, by omega⟩
      dsimp only

      have hsc4 : Ch h H H4 := ch3.trans ch4
      apply st_seq
      apply s_setE
      apply e_op (by walk_at "v")
      apply e_call (by walk_at "a")
      refine ⟨h, c, _, rfl, hh4, ?_, ?_, fun H5 d2 ch5 hh5 d2a d2b => ?_⟩
      · split <;> omega
      · split <;> omega
      have d2c : d2 < (places : Int) - 1 - one := by
        refine Int.lt_of_lt_of_le d2b ?_
        split <;> omega
      obtain ⟨two, rfl⟩ : ∃ two : Nat, d2 = (two : Int) := ⟨d2.toNat, by omega⟩
      refine ⟨_, _, rfl, rfl, ?_⟩
      dsimp only
      obtain ⟨u, hu⟩ : ∃ u, os[one]? = some u := ⟨os[one]'(by omega), List.getElem?_eq_getElem (by omega)⟩
      obtain ⟨v, hv⟩ : ∃ v, os[one + 1 + two]? = some v := ⟨os[one + 1 + two]'(by omega), List.getElem?_eq_getElem (by omega)⟩
      have ho5 : H5 o = some (.lst (os.map nV)) := ch5 _ _ hoh (ch4 _ _ hoh ho3)
      have hf5 : H5 fo = some (.lst fs) := ch5 _ _ hfh (ch4 _ _ hfh hf3)
      have ch5' : Ch h H H5 := hsc4.trans ch5
      obtain ⟨hl3, hg3⟩ := hh3.gh
      obtain ⟨hl4, hg4⟩ := hh4.gh
      have pa5 : PairsAt H5 fs ar := (pa.keep (ch4.tp hg3)).keep (ch5.tp hg4)
      have ec : ((one : Int) + 1 + (two : Int)) = ((one + 1 + two : Nat) : Int) := by omega
      rw [ec]

      apply st_seq
      apply e_bm (by walk_at "v") hf5
      apply e_tup (by walk_at "a") (by walk_at "z")
      intro t nt
      have htf : fo ≠ t := ne_of_none hf5 nt
      refine ⟨fo, fs, _, rfl, rfl, by rw [upd_ne htf]; exact hf5, by rw [sizeLine_eq]; omega, ?_⟩
      dsimp only
      have nt0 : H t = none := ch5'.free (hh5.nh nt) nt
      have pa6 : PairsAt (upd (upd H5 t (.tup [nV u, nV v])) fo (.lst (fs ++ [.ref t]))) (fs ++ [.ref t]) (ar ++ [(u, v)]) := by
        have a1 := ((pa5.keep (tp_new (o := .tup [nV u, nV v]) nt)).snoc (p := (u, v)) upd_same)
        exact a1.keep (tp_upd (xs := fs) (by rw [upd_ne htf]; exact hf5))
      have up6 : ∀ p ∈ ar ++ [(u, v)], Up os p := fun p hp => by
        rcases List.mem_append.mp hp with hp | hp
        · exact up p hp
        · rw [List.mem_singleton.mp hp]
          exact ⟨one, one + 1 + two, by omega, hu, hv⟩
      have hh6 : HandAt (upd (upd H5 t (.tup [nV u, nV v])) fo (.lst (fs ++ [.ref t]))) h c := (hh5.same (same_new nt)).mut hfh hfc
      have ch6 : Ch h H (upd (upd H5 t (.tup [nV u, nV v])) fo (.lst (fs ++ [.ref t]))) := (ch5'.new nt).mut nfoH
      have ho6 : upd (upd H5 t (.tup [nV u, nV v])) fo (.lst (fs ++ [.ref t])) o = some (.lst (os.map nV)) := by
        rw [upd_ne hof, upd_ne (ne_of_none ho5 nt)]
        exact ho5
      have hf6 : upd (upd H5 t (.tup [nV u, nV v])) fo (.lst (fs ++ [.ref t])) fo = some (.lst (fs ++ [.ref t])) := upd_same
      generalize upd (upd H5 t (.tup [nV u, nV v])) fo (.lst (fs ++ [.ref t])) = H6 at pa6 hh6 ch6 ho6 hf6 ⊢

      refine e_call (by walk_at "a") ⟨h, c, _, rfl, hh6, by decide, by decide, fun H7 d3 ch7 hh7 _ _ => ?_⟩
      obtain ⟨hl6, hg6⟩ := hh6.gh
      have ho7 : H7 o = some (.lst (os.map nV)) := ch7 _ _ hoh ho6
      have hf7 : H7 fo = some (.lst (fs ++ [.ref t])) := ch7 _ _ hfh hf6
      have pa7 := pa6.keep (ch7.tp hg6)
      have ch7' := ch6.trans ch7
      have al7 : (ar ++ [(u, v)]).length ≤ 2 * i + 1 := by
        rw [List.length_append]
        simp
        omega
      have done7 : ∃ fs' ar' x6 x7 x8, [some (V.ref h), some (nV places), some (nV many), some (V.int far), some (V.ref o), some (V.ref fo), some (nV i), some (nV one), some (nV (one + 1 + two))] = [some (V.ref h), some (nV places), some (nV many), some (V.int far), some (V.ref o), some (V.ref fo), x6, x7, x8] ∧ Ch h H H7 ∧ HandAt H7 h c ∧ H7 o = some (.lst (os.map nV)) ∧ H7 fo = some (.lst fs') ∧
          PairsAt H7 fs' ar' ∧ (∀ p ∈ ar', Up os p) ∧ ar'.length ≤ 2 * (i + 1) := ⟨_, _, _, _, _, rfl, ch7', hh7, ho7, hf7, pa7, up6, by omega⟩
      refine ⟨rfl, _, rfl, ite2 (fun _ => ?_) fun _ => ?_⟩
      · apply An.run
        · walk_at "t"
        · refine ite2 (fun _ => ?_) fun _ => ?_
          · apply s_app
            · walk_at "v"
            · walk_at "v"
            · exact hf7
            · rw [sizeLine_eq, List.length_append]
              simp only [List.length_cons, List.length_nil]
              omega
            refine ⟨_, ar ++ [(u, v)] ++ [(u, v)], _, _, _, rfl, ch7'.mut nfoH, hh7.mut hfh hfc, by rw [upd_ne hof]; exact ho7, upd_same, ?_, ?_, ?_⟩
            · obtain ⟨t', h1, h2⟩ := pa7.2 ar.length (u, v) (by rw [List.getElem?_append_right (Nat.le_refl _), Nat.sub_self]; rfl)
              have e : t' = t := by
                rw [← pa.1, List.getElem?_append_right (Nat.le_refl _), Nat.sub_self] at h1
                exact (V.ref.inj (Option.some.inj h1)).symm
              subst e
              exact (pa7.snoc (p := (u, v)) h2).keep (tp_upd hf7)
            · intro p hp
              rcases List.mem_append.mp hp with hp | hp
              · exact up6 p hp
              · exact up6 p (List.mem_append_right _ hp)
            · rw [List.length_append]
              simp only [List.length_cons, List.length_nil]
              omega
          · exact done7
      · exact done7
    · rintro σ H3 ⟨fs, ar, x6, x7, x8, rfl, ch3, hh3, ho3, hf3, pa, up, al⟩
      refine ⟨_, rfl, _, rfl, _, rfl, _, rfl, fo, fs, rfl, SqL.of hf3, fun s1 ns1 => ?_⟩
      rw [cutV_take]
      refine ⟨s1, _, rfl, .inl ⟨SqL.of upd_same, fun a na => ?_⟩⟩
      refine ⟨by show 2 ≤ sizeLine; decide, fun t nt => ?_⟩
      have sa : Same H3 (upd (upd (upd H3 s1 (.lst (fs.take many))) a (.tup (fs.take many))) t (.tup [.ref o, .ref a])) := ((same_new ns1).trans (same_new na)).trans (same_new nt)
      refine k _ t o a os (ar.take many) (fs.take many) (ch3.trans (Ch.same sa)) (hh3.same sa) upd_same no (sa _ _ ho3) ?_ ((pa.take many).keep (Tp.same sa)) pm2 (fun p hp => up p (List.mem_of_mem_take hp)) ?_
      · rw [upd_ne (ne_of_none upd_same nt)]
        exact upd_same
      · rw [List.length_take]
        omega
end
end E1

namespace E1
open PySem L2

theorem ty_T {K : PySem.W.Frag} {H : Hp} {a : Addr} {xs : List V} (h : SqT K H a xs) : TyX K H (.ref a) (.type "tuple") := by
  rcases h with (h | ⟨o, h⟩) | ⟨o, its, n, h, c, _⟩
  · exact .base (.tup h)
  · exact .fTuple h
  · exact .kTuple h c
theorem ty_L {K : PySem.W.Frag} {H : Hp} {a : Addr} {xs : List V} (h : SqL K H a xs) : TyX K H (.ref a) (.type "list") := by
  rcases h with (h | ⟨o, h⟩) | ⟨o, its, n, h, c, _⟩
  · exact .base (.lst h)
  · exact .base (.frz h)
  · exact .kList h c
theorem kt {K : PySem.W.Frag} {a b : String} {r : Bool} (h : kitB a b = some r) : PySem.W.kitOne K (.type a) (.type b) = some r := kit_ty h

def tyN : V → String
  | .non => "NoneType"
  | .bl _ => "bool"
  | .int _ => "int"
  | .str _ => "str"
  | _ => "?"
theorem ty_flat {K : PySem.W.Frag} {H : Hp} {x : V} (h : flatV x = true) : TyX K H x (.type (tyN x)) := by
  cases x with
  | non => exact .base .non
  | bl b => exact .base (.bl b)
  | int i => exact .base (.int i)
  | str z => exact .base (.str z)
  | _ => exact absurd (show false = true from h) Bool.false_ne_true
theorem any2 {K : PySem.W.Frag} {n : String} {r : Bool} (h1 : kitB n "tuple" = some r) (h2 : r = false → kitB n "list" = some false) : PySem.W.kitAny K (.type n) [.type "tuple", .type "list"] = some r := by
  refine kitAny_cons (kt h1) (fun e => ?_) (fun e => e)
  refine kitAny_cons (kt (h2 e)) (fun _ => ?_) (fun z => nomatch z)
  rw [kitAny_nil, e]
theorem any_list {K : PySem.W.Frag} : PySem.W.kitAny K (.type "list") [.type "tuple", .type "list"] = some true :=
  kitAny_cons (kt (show kitB "list" "tuple" = some false by decide +kernel)) (fun _ => kitAny_cons (kt (show kitB "list" "list" = some true by decide +kernel)) (fun z => nomatch z) fun _ => rfl) fun z => nomatch z
theorem any_tuple {K : PySem.W.Frag} : PySem.W.kitAny K (.type "tuple") [.type "tuple", .type "list"] = some true :=
  kitAny_cons (kt (show kitB "tuple" "tuple" = some true by decide +kernel)) (fun z => nomatch z) fun _ => rfl
theorem any_flat {K : PySem.W.Frag} {x : V} (h : flatV x = true) : PySem.W.kitAny K (.type (tyN x)) [.type "tuple", .type "list"] = some false := by
  cases x with
  | non => exact any2 (show kitB "NoneType" "tuple" = some false by decide +kernel) fun _ => (show kitB "NoneType" "list" = some false by decide +kernel)
  | bl b => exact any2 (show kitB "bool" "tuple" = some false by decide +kernel) fun _ => (show kitB "bool" "list" = some false by decide +kernel)
  | int i => exact any2 (show kitB "int" "tuple" = some false by decide +kernel) fun _ => (show kitB "int" "list" = some false by decide +kernel)
  | str z => exact any2 (show kitB "str" "tuple" = some false by decide +kernel) fun _ => (show kitB "str" "list" = some false by decide +kernel)
  | _ => exact absurd (show false = true from h) Bool.false_ne_true
def isBl : V → Bool
  | .bl _ => true
  | _ => false
def isIn : V → Bool
  | .int _ => true
  | .bl _ => true
  | _ => false
theorem bool_flat {K : PySem.W.Frag} {x : V} (h : flatV x = true) : PySem.W.kitOne K (.type (tyN x)) (.type "bool") = some (isBl x) := by
  cases x with
  | non => exact kt (show kitB "NoneType" "bool" = some false by decide +kernel)
  | bl b => exact kt (show kitB "bool" "bool" = some true by decide +kernel)
  | int i => exact kt (show kitB "int" "bool" = some false by decide +kernel)
  | str z => exact kt (show kitB "str" "bool" = some false by decide +kernel)
  | _ => exact absurd (show false = true from h) Bool.false_ne_true
theorem int_flat {K : PySem.W.Frag} {x : V} (h : flatV x = true) : PySem.W.kitOne K (.type (tyN x)) (.type "int") = some (isIn x) := by
  cases x with
  | non => exact kt (show kitB "NoneType" "int" = some false by decide +kernel)
  | bl b => exact kt (show kitB "bool" "int" = some true by decide +kernel)
  | int i => exact kt (show kitB "int" "int" = some true by decide +kernel)
  | str z => exact kt (show kitB "str" "int" = some false by decide +kernel)
  | _ => exact absurd (show false = true from h) Bool.false_ne_true
theorem tuple_flat {K : PySem.W.Frag} {x : V} (h : flatV x = true) : PySem.W.kitOne K (.type (tyN x)) (.type "tuple") = some false := by
  cases x with
  | non => exact kt (show kitB "NoneType" "tuple" = some false by decide +kernel)
  | bl b => exact kt (show kitB "bool" "tuple" = some false by decide +kernel)
  | int i => exact kt (show kitB "int" "tuple" = some false by decide +kernel)
  | str z => exact kt (show kitB "str" "tuple" = some false by decide +kernel)
  | _ => exact absurd (show false = true from h) Bool.false_ne_true
theorem tuple_tuple {K : PySem.W.Frag} : PySem.W.kitOne K (.type "tuple") (.type "tuple") = some true := kt (by decide +kernel)
theorem list_tuple {K : PySem.W.Frag} : PySem.W.kitOne K (.type "list") (.type "tuple") = some false := kt (by decide +kernel)
theorem tuple_int {K : PySem.W.Frag} : PySem.W.kitOne K (.type "tuple") (.type "int") = some false := kt (by decide +kernel)
theorem int_int {K : PySem.W.Frag} : PySem.W.kitOne K (.type "int") (.type "int") = some true := kt (by decide +kernel)
theorem int_bool {K : PySem.W.Frag} : PySem.W.kitOne K (.type "int") (.type "bool") = some false := kt (by decide +kernel)
theorem scal_self {x : V} (h : flatV x = true) (h' : x ≠ .non) : scal x x = true := by
  cases x with
  | non => exact absurd rfl h'
  | bl b => rfl
  | int i => rfl
  | str z => rfl
  | _ => exact absurd (show false = true from h) Bool.false_ne_true
theorem scal_flat {x : V} (h : flatV x = true) : scal x x = true := by
  cases x with
  | non => rfl
  | bl b => rfl
  | int i => rfl
  | str z => rfl
  | _ => exact absurd (show false = true from h) Bool.false_ne_true

def EqD (K : PySem.W.Frag) (H : Hp) : Nat → V → V → Prop
  | 0, x, y => x = y ∧ flatV x = true
  | n + 1, x, y => (x = y ∧ flatV x = true) ∨ ∃ a b xs ys, x = .ref a ∧ y = .ref b ∧ ((SqT K H a xs ∧ SqT K H b ys) ∨ (SqL K H a xs ∧ SqL K H b ys)) ∧ xs.length < 100000 ∧ Paired (EqD K H n) xs ys
theorem seqT_same {K : PySem.W.Frag} {H H' : Hp} {a : Addr} {xs : List V} (e : Same H H') (h : SqT K H a xs) : SqT K H' a xs := Same.seqT e h
theorem paired_mono {α β : Type} {R S : α → β → Prop} (h : ∀ x y, R x y → S x y) : ∀ {xs : List α} {ys : List β}, Paired R xs ys → Paired S xs ys
  | _, _, .nil => .nil
  | _, _, .cons r t => .cons (h _ _ r) (paired_mono h t)
theorem EqD.same {K : PySem.W.Frag} {H H' : Hp} (e : Same H H') : ∀ (n : Nat) (x y : V), EqD K H n x y → EqD K H' n x y
  | 0, _, _, h => h
  | n + 1, _, _, h => by
    rcases h with h | ⟨a, b, xs, ys, rfl, rfl, h, hl, p⟩
    · exact .inl h
    · refine .inr ⟨a, b, xs, ys, rfl, rfl, ?_, hl, paired_mono (fun x y => EqD.same e n x y) p⟩
      rcases h with ⟨h1, h2⟩ | ⟨h1, h2⟩
      · exact .inl ⟨Same.seqT e h1, Same.seqT e h2⟩
      · exact .inr ⟨Same.seq e h1, Same.seq e h2⟩
theorem paired_get {α β : Type} {R : α → β → Prop} : ∀ {xs : List α} {ys : List β} {i : Nat} {x : α} {y : β}, Paired R xs ys → xs[i]? = some x → ys[i]? = some y → R x y
  | _, _, _, _, _, .nil, h, _ => by simp at h
  | _, _, 0, _, _, .cons r _, h, h' => by
    cases h
    cases h'
    exact r
  | _, _, i + 1, _, _, .cons _ t, h, h' => paired_get (i := i) t (by simpa using h) (by simpa using h')
theorem paired_self {α : Type} {R : α → α → Prop} : ∀ {xs : List α}, (∀ x ∈ xs, R x x) → Paired R xs xs
  | [], _ => .nil
  | x :: xs, h => .cons (h x List.mem_cons_self) (paired_self fun y hy => h y (List.mem_cons_of_mem _ hy))
theorem eqD_int {K : PySem.W.Frag} {H : Hp} {n : Nat} {i : Int} : EqD K H n (.int i) (.int i) := by
  cases n with
  | zero => exact ⟨rfl, rfl⟩
  | succ n => exact .inl ⟨rfl, rfl⟩
theorem eqD_flat {K : PySem.W.Frag} {H : Hp} {n : Nat} {x : V} (h : flatV x = true) : EqD K H n x x := by
  cases n with
  | zero => exact ⟨rfl, h⟩
  | succ n => exact .inl ⟨rfl, h⟩

theorem eqD_nats {K : PySem.W.Frag} {H : Hp} {n : Nat} {a b : Addr} {xs : List Nat} (h1 : SqT K H a (xs.map nV)) (h2 : SqT K H b (xs.map nV)) (hl : xs.length < 100000) : EqD K H (n + 1) (.ref a) (.ref b) :=
  .inr ⟨a, b, _, _, rfl, rfl, .inl ⟨h1, h2⟩, by rw [List.length_map]; exact hl, paired_self fun x hx => by
    obtain ⟨m, _, rfl⟩ := List.mem_map.mp hx
    exact eqD_int⟩
section
variable {ta : TA} {te : TE} {σ : L2.St} {H : Hp} {Q : VK} {K : PySem.W.Frag} {a b : Addr} {xs ys : List V} {R : It → Hp → Prop} {r : List V → Hp → VK → Prop} {tt : TT}
theorem s_ifOr {t u : TT} {t1 t2 : TS} {D : Ends} {c : Bool} (h : An t σ H c) (h1 : c = true → t1 D σ H) (h2 : c = false → u σ H fun k H1 => if k = true then t1 D σ H1 else t2 D σ H1) : tIfS (tOr t u) t1 t2 D σ H := h.run _ (by
  cases c with
  | true => exact h1 rfl
  | false => exact h2 rfl)
theorem s_ifAnd {t u : TT} {t1 t2 : TS} {D : Ends} {c : Bool} (h : An t σ H c) (h1 : c = true → u σ H fun k H1 => if k = true then t1 D σ H1 else t2 D σ H1) (h2 : c = false → t2 D σ H) : tIfS (tAnd t u) t1 t2 D σ H := h.run _ (by
  cases c with
  | true => exact h1 rfl
  | false => exact h2 rfl)
theorem s_retE {D : Ends} (h : te σ H D.rt) : tRet te D σ H := h
theorem e_andV {tb : TE} {c : Bool} (h : Vl te σ H (.bl c)) (h1 : c = true → tb σ H Q) (h2 : c = false → Q (.bl false) H) : tAndV te tb σ H Q := h.run _ ⟨c, rfl, by
  cases c with
  | true => exact h1 rfl
  | false => exact h2 rfl⟩
theorem e_orV {tb : TE} {c : Bool} (h : Vl te σ H (.bl c)) (h1 : c = true → Q (.bl true) H) (h2 : c = false → tb σ H Q) : tOrV te tb σ H Q := h.run _ ⟨c, rfl, by
  cases c with
  | true => exact h1 rfl
  | false => exact h2 rfl⟩
theorem e_yes {A B : Hp → Prop} (h : A H) : tYes σ H (fun b H3 => if b = true then A H3 else B H3) := by
  show if true = true then A H else B H
  rw [if_pos rfl]
  exact h
theorem e_cb1 (h : te σ H fun x H1 => r [x] H1 Q) : tCB r (tCons te tNil) σ H Q := h
theorem e_zipT (h : Ar ta σ H [.ref a, .ref b]) (h1 : SqT K H a xs) (h2 : SqT K H b ys) (q : R (RZ.ItzT K a b) H) : RZ.iZipA K ta σ H R := h.run _ ⟨a, b, xs, ys, rfl, .inr ⟨h1, h2, q⟩⟩
theorem e_zipL (h : Ar ta σ H [.ref a, .ref b]) (h1 : SqL K H a xs) (h2 : SqL K H b ys) (q : R (Itz K a b) H) : RZ.iZipA K ta σ H R := h.run _ ⟨a, b, xs, ys, rfl, .inl ⟨h1, h2, q⟩⟩
end
def spIs (K : PySem.W.Frag) : Nat → Sp
  | 0 => fun _ _ _ _ => False
  | n + 1 => fun vs H Q _ => ∃ x yv, vs = [x, yv] ∧ EqD K H n x yv ∧ ∀ H', Same H H' → Q (.bl true) H'
def rWhole (x : V) (lim : Int) : Bool := match x with
  | .int n => decide (0 ≤ n) && decide (n < lim)
  | _ => false
def spWhole (K : PySem.W.Frag) : Sp := fun vs H Q _ => ∃ (x : V) (lim : Int) (tt : Value), vs = [x, .int lim] ∧ TyX K H x tt ∧ PySem.W.kitOne K tt (.type "int") = some (isIn x) ∧ PySem.W.kitOne K tt (.type "bool") = some (isBl x) ∧ Q (.bl (rWhole x lim)) H
theorem walk_zipT {K : PySem.W.Frag} {a b : Addr} {xs ys : List V} {n : Nat} (hn : n = min xs.length ys.length) : Walk (RZ.ItzT K a b) n (fun H => SqT K H a xs ∧ SqT K H b ys) (YPair (fun i => xs[i]?) (fun i => ys[i]?)) := by
  subst hn
  refine ⟨fun i _ hi q => ?_, fun _ q => ⟨xs, ys, q.1, q.2, by omega⟩, fun i H v H' _ q yv => ?_⟩
  · have l1 : i < xs.length := by omega
    have l2 : i < ys.length := by omega
    exact ⟨xs, ys, xs[i], ys[i], q.1, q.2, by simp [l1], by simp [l2]⟩
  · obtain ⟨TT, x, zz, l1, l2, l3, l4, l5⟩ := yv
    exact ⟨TT, x, zz, l1, l2, l3, l4 xs q.1, l5 ys q.2⟩
theorem eqD_cases {K : PySem.W.Frag} {H : Hp} {n : Nat} {x yv : V} (h : EqD K H n x yv) : (x = yv ∧ flatV x = true) ∨ ∃ m a b xs ys, n = m + 1 ∧ x = .ref a ∧ yv = .ref b ∧ ((SqT K H a xs ∧ SqT K H b ys) ∨ (SqL K H a xs ∧ SqL K H b ys)) ∧ xs.length < 100000 ∧ Paired (EqD K H m) xs ys := by
  cases n with
  | zero => exact .inl h
  | succ n =>
    rcases h with h | ⟨a, b, xs, ys, h⟩
    · exact .inl h
    · exact .inr ⟨n, a, b, xs, ys, rfl, h⟩
theorem all_true (n : Nat) : (List.replicate n true).all id = true := by
  induction n with
  | zero => rfl
  | succ n ih => rw [List.replicate_succ, List.all_cons, ih]; rfl
end E1

namespace E1
open PySem L2
local macro_rules | `(tactic| walk_at "ne") => `(tactic| first | assumption | exact Ne.symm (by assumption) | exact ne_of_none (by walk_at "h") (by assumption) | exact Ne.symm (ne_of_none (by walk_at "h") (by assumption)))
local macro_rules | `(tactic| walk_at "h") => `(tactic| first | assumption | exact upd_same | (rw [upd_ne (by walk_at "ne")]; walk_at "h"))
local macro_rules | `(tactic| walk_at "sq") => `(tactic| first | assumption | exact SqL.of (by walk_at "h") | exact SqT.of (by walk_at "h") | exact .inl (SqL.of (by walk_at "h")) | exact .inr (SqT.of (by walk_at "h")) | exact .inl (by assumption) | exact .inr (by assumption))
local macro_rules | `(tactic| walk_at "at") => `(tactic| first | assumption | exact rfl | exact atI_last _ _ | exact atI_nats (by assumption))
local macro_rules | `(tactic| walk_at "c") => `(tactic| first | assumption | decide | omega | exact ⟨by omega, by omega⟩ | exact .inr ⟨by decide, by decide⟩ | exact .inl ⟨by decide, by decide⟩ | exact .inl ⟨by omega, by omega⟩ | exact ⟨by decide, by decide, by decide⟩)
local macro_rules | `(tactic| walk_at "cl") => `(tactic| first | exact ClsV.ty _ | exact ClsV.own _)
local macro_rules | `(tactic| walk_at "ty") => `(tactic| first | assumption | exact ty_T (by assumption) | exact ty_L (by assumption) | exact ty_flat (by assumption) | exact .base (.int _) | exact .base .non | exact .base (.bl _) | exact .base (.str _))
local macro_rules | `(tactic| walk_at "kt") => `(tactic| first | assumption | exact int_int | exact int_bool | exact tuple_tuple | exact list_tuple | exact tuple_int | exact bool_flat (by assumption) | exact int_flat (by assumption) | exact tuple_flat (by assumption))
local macro_rules | `(tactic| walk_at "v") => `(tactic| first
  | exact vl_var rfl
  | exact vl_c
  | (apply vl_add; walk_at "v"; walk_at "v")
  | (apply vl_sub; walk_at "v"; walk_at "v")
  | (apply vl_mul; walk_at "v"; walk_at "v"; walk_at "c")
  | (apply vl_mod; walk_at "v"; walk_at "v"; walk_at "c")
  | (apply vl_fdiv; walk_at "v"; walk_at "v"; walk_at "c")
  | (apply vl_pow; walk_at "v"; walk_at "v"; walk_at "c")
  | (apply vl_ixL; walk_at "v"; walk_at "v"; walk_at "sq"; walk_at "at")
  | (apply vl_ixT; walk_at "v"; walk_at "v"; walk_at "sq"; walk_at "at")
  | (apply vl_len; walk_at "v"; walk_at "sq")
  | (apply vl_int; walk_at "v")
  | (apply vl_abs; walk_at "v")
  | (apply vl_min2; walk_at "v"; walk_at "v")
  | (apply vl_max2; walk_at "v"; walk_at "v")
  | (apply vl_neg; walk_at "v")
  | (apply vl_eqI; walk_at "v"; walk_at "v")
  | (apply vl_neI; walk_at "v"; walk_at "v")
  | (apply vl_lt; walk_at "v"; walk_at "v")
  | (apply vl_le; walk_at "v"; walk_at "v")
  | (apply vl_gt; walk_at "v"; walk_at "v")
  | (apply vl_ge; walk_at "v"; walk_at "v")
  | (apply vl_eqB; walk_at "v"; walk_at "v")
  | (apply vl_neB; walk_at "v"; walk_at "v")
  | (apply vl_eqS; walk_at "v"; walk_at "v"; assumption)
  | (apply vl_chain; walk_at "v"; walk_at "v"; walk_at "v")
  | (apply vl_ifI; walk_at "t"; (intro _; walk_at "v"); (intro _; walk_at "v"))
  | (apply vl_isi; walk_at "v"; walk_at "v"; walk_at "cl"; walk_at "ty"; walk_at "kt")
  | (apply vl_not; walk_at "v")
  | (apply vl_andL; walk_at "v"; intro _; walk_at "v")
  | (apply vl_orL; walk_at "v"; intro _; walk_at "v"))
local macro_rules | `(tactic| walk_at "t") => `(tactic| first
  | (apply an_and; walk_at "t"; intro _; walk_at "t")
  | (apply an_or; walk_at "t"; intro _; walk_at "t")
  | (apply an_not; walk_at "t")
  | (apply an_of; walk_at "v")
  | (apply an_val; walk_at "v"))
local macro_rules | `(tactic| walk_at "a") => `(tactic| first | exact ar_nil | (apply ar_cons; walk_at "v"; walk_at "a"))
local macro_rules | `(tactic| walk_at "n1") => `(tactic| first
  | (apply s_set; walk_at "v")
  | (apply s_setL; walk_at "v"; walk_at "v"; walk_at "v"; walk_at "h"; walk_at "at")
  | (apply s_augI; exact rfl; walk_at "v")
  | (apply s_app; walk_at "v"; walk_at "v"; walk_at "h"; walk_at "c")
  | (apply s_ret; walk_at "v")
  | (apply s_retL; walk_at "a"; walk_at "z")
  | (apply s_retT; walk_at "a"; walk_at "z")
  | (apply s_setNL; walk_at "a"; walk_at "z")
  | (apply s_setNT; walk_at "a"; walk_at "z")
  | (apply s_if; walk_at "t"))
local macro_rules | `(tactic| walk_at "n") => `(tactic| ((try dsimp only); (try (with_reducible apply st_next; try dsimp only)); first | (apply st_seq; walk_at "n1") | walk_at "n1"))
local macro_rules | `(tactic| walk_at "z") => `(tactic| (simp only [List.length_cons, List.length_nil]; omega))

section
variable {P : Program} {w : World} {K : PySem.W.Frag} {mg : Str → Option Value} {base : Heap}
abbrev s_whole_below : Stmt := top 5
abbrev N_whole_below : List Str := ["thing", "limit"]
theorem sc_whole_below : FnScope N_whole_below ["thing", "limit"] (defScope s_whole_below) := ⟨rfl, rfl, rfl, by decide +kernel, rfl, by decide +kernel, by decide +kernel⟩

theorem ok_whole_below {f : Addr} {fd : FuncData} (F : Fun K "whole_below" "whole_below" s_whole_below f fd) (T : Bi mg) : FnOk P w K mg base CX0 1 f fd ["thing", "limit"] (spWhole K) := by
  have nd := sc_whole_below.nd
  refine F.ok sc_whole_below (fun vs H Q E h => ?_) (fun cdv A outer s H vs Q E hr h => ?_)
  · obtain ⟨x, lim, tt, rfl, _⟩ := h
    rfl
  · obtain ⟨x, lim, tt, rfl, ty, k1, k2, k⟩ := h
    refine ⟨_, (pss_cons
 (ps_if (PW.pt (pw_or (pt_not (pt_val (pe_callB call_isi (by rfl) T.m_isinstance (by decide +kernel) (pa_cons (pv 0) (pa_cons (pe_bltn (v := .ty "int") (by rfl) T.m_int (by decide +kernel) rfl) pa_nil))))) (pw_or1 (pt_val (pe_callB call_isi (by rfl) T.m_isinstance (by decide +kernel) (pa_cons (pv 0) (pa_cons (pe_bltn (v := .ty "bool") (by rfl) T.m_bool (by decide +kernel) rfl) pa_nil))))))) (pss_one
 (ps_ret pe_bl)) pss_nil)
(pss_one
 (ps_ret (pe_chain op_le op_lt pe_int (pv 0) (pv 1))))), ?_⟩
    walk_at "n"
    · intro hb
      walk_at "n"
      have e : rWhole x lim = false := by
        cases x with
        | int n => exact Bool.noConfusion (show false = true from hb)
        | _ => rfl
      rw [e] at k
      exact k
    · intro hb
      cases x with
      | int n =>
        walk_at "n"
        exact k
      | bl b => exact Bool.noConfusion (show true = false from hb)
      | _ => exact Bool.noConfusion (show true = false from hb)
abbrev s__law_is : Stmt := top 24
abbrev N__law_is : List Str := ["told", "due", "one", "two"]
theorem sc__law_is : FnScope N__law_is ["told", "due"] (defScope s__law_is) := ⟨rfl, rfl, rfl, by decide +kernel, rfl, by decide +kernel, by decide +kernel⟩

theorem ok__law_is {f : Addr} {fd : FuncData} (T : Bi mg) (D__law_is : Dn K mg "_law_is" s__law_is ["told", "due"] f fd) : ∀ n, FnOk P w K mg base CX0 n f fd ["told", "due"] (spIs K n)
  | 0 => ⟨fun _ _ _ _ h => h.elim, fun _ _ _ _ _ _ _ _ _ _ _ _ _ h => h.elim⟩
  | n + 1 => by
    have G__law_is : FnOk P w K mg base CX0 n f fd ["told", "due"] (spIs K n) := ok__law_is T D__law_is n
    have nd := sc__law_is.nd
    refine D__law_is.F.ok sc__law_is (fun vs H Q E h => ?_) (fun cdv A outer s H vs Q E hr h => ?_)
    · obtain ⟨x, y, rfl, _⟩ := h
      rfl
    · obtain ⟨x, y, rfl, hq, k⟩ := h
      refine ⟨_, (pss_cons
 (ps_if (pt_val (pe_callB call_isiT (by rfl) T.m_isinstance (by decide +kernel) (pa_cons (pv 1) (pa_cons (pe_tup (pa_cons (pe_bltn (v := .ty "tuple") (by rfl) T.m_tuple (by decide +kernel) rfl) (pa_cons (pe_bltn (v := .ty "list") (by rfl) T.m_list (by decide +kernel) rfl) pa_nil))) pa_nil)))) (pss_cons
 (ps_if (PW.pt (pw_or (pt_cmpR op_ne (pe_callB call_isi (by rfl) T.m_isinstance (by decide +kernel) (pa_cons (pv 0) (pa_cons (pe_bltn (v := .ty "tuple") (by rfl) T.m_tuple (by decide +kernel) rfl) pa_nil))) (pe_callB call_isi (by rfl) T.m_isinstance (by decide +kernel) (pa_cons (pv 1) (pa_cons (pe_bltn (v := .ty "tuple") (by rfl) T.m_tuple (by decide +kernel) rfl) pa_nil))) (nomark _)) (pw_or1 (pt_not (pt_val (pe_callB call_isiT (by rfl) T.m_isinstance (by decide +kernel) (pa_cons (pv 0) (pa_cons (pe_tup (pa_cons (pe_bltn (v := .ty "tuple") (by rfl) T.m_tuple (by decide +kernel) rfl) (pa_cons (pe_bltn (v := .ty "list") (by rfl) T.m_list (by decide +kernel) rfl) pa_nil))) pa_nil)))))))) (pss_one
 (ps_ret pe_bl)) pss_nil)
(pss_one
 (ps_ret (pe_and (pe_cmpR op_eq (pe_callB call_len_seq (by rfl) T.m_len (by decide +kernel) (pa_cons (pv 0) pa_nil)) (pe_callB call_len_seq (by rfl) T.m_len (by decide +kernel) (pa_cons (pv 1) pa_nil)) (nomark _)) (pe_one (pe_callB (cr_all rfl) (by rfl) T.m_all (by decide +kernel) (pa_cons (pe_lc (own := [("one", 2), ("two", 3)]) (g := gTup K 2 (gCons (gName 2) (gCons (gName 3) gNil))) (tt := tYes) (by rfl) nd (RZ.pi_zipA (by rfl) T.m_zip (pa_cons (pv 0) (pa_cons (pv 1) pa_nil))) (blkOk_by (own := [("one", 2), ("two", 3)]) (N := N__law_is) (sc := defScope s__law_is) (by decide +kernel)) (fun _ _ _ _ _ => (pg_tup (by rfl) (pgs_cons (pg_name (i := 2) nd rfl (Or.inl rfl)) (pgs_cons (pg_name (i := 3) nd rfl (Or.inl rfl)) pgs_nil)))) (fun _ _ _ _ _ => pts_nil) (fun _ _ _ _ _ => (pe_call G__law_is hr (by rfl) D__law_is.g D__law_is.F.kp D__law_is.b .nil pass0 (pa_cons (pv 2) (pa_cons (pv 3) pa_nil))))) pa_nil))))))) pss_nil)
(pss_one
 (ps_ret (pe_and (pe_cmpR op_eq (pe_callB call_isi (by rfl) T.m_isinstance (by decide +kernel) (pa_cons (pv 0) (pa_cons (pe_bltn (v := .ty "bool") (by rfl) T.m_bool (by decide +kernel) rfl) pa_nil))) (pe_callB call_isi (by rfl) T.m_isinstance (by decide +kernel) (pa_cons (pv 1) (pa_cons (pe_bltn (v := .ty "bool") (by rfl) T.m_bool (by decide +kernel) rfl) pa_nil))) (nomark _)) (pe_one (pe_cmpR op_eq (pv 0) (pv 1) (nomark _))))))), ?_⟩
      rcases eqD_cases hq with ⟨rfl, hf⟩ | ⟨m, a, b, xs, ys, rfl, rfl, rfl, hs, hl, hp⟩
      ·
        apply st_seq
        refine ⟨_, rfl, ?_⟩
        apply e_tup (by walk_at "a") (by walk_at "z")
        intro p np
        refine ⟨x, p, _, _, _, _, rfl, upd_same, .cons (ClsV.ty _) (.cons (ClsV.ty _) .nil), ty_flat hf, any_flat hf, false, rfl, ?_⟩
        refine iteF ?_
        have hsc := scal_flat hf
        walk_at "n"
        have e : (decide (isBl x = isBl x) && decide (x = x)) = true := by rw [decide_eq_true rfl, decide_eq_true rfl]; rfl
        dsimp only
        rw [e]
        exact k _ (same_new np)
      ·
        obtain ⟨nm, bt, tys, k1, k2⟩ : ∃ (nm : String) (bt : Bool), (∀ H', Same H H' → TyX K H' (.ref a) (.type nm) ∧ TyX K H' (.ref b) (.type nm)) ∧ PySem.W.kitOne K (.type nm) (.type "tuple") = some bt ∧ PySem.W.kitAny K (.type nm) [.type "tuple", .type "list"] = some true := by
          rcases hs with ⟨h1, h2⟩ | ⟨h1, h2⟩
          · exact ⟨"tuple", true, fun H' e => ⟨ty_T (Same.seqT e h1), ty_T (Same.seqT e h2)⟩, tuple_tuple, any_tuple⟩
          · exact ⟨"list", false, fun H' e => ⟨ty_L (Same.seq e h1), ty_L (Same.seq e h2)⟩, list_tuple, any_list⟩
        have hlen := hp.length
        apply st_seq
        refine ⟨_, rfl, ?_⟩
        apply e_tup (by walk_at "a") (by walk_at "z")
        intro p np
        have s1 := same_new (o := .tup [.ty "tuple", .ty "list"]) np
        refine ⟨.ref b, p, _, _, _, _, rfl, upd_same, .cons (ClsV.ty _) (.cons (ClsV.ty _) .nil), (tys _ s1).2, k2, true, rfl, ?_⟩
        refine iteT ?_
        obtain ⟨ta1, tb1⟩ := tys _ s1
        generalize upd H p (.tup [.ty "tuple", .ty "list"]) = H1 at s1 ta1 tb1 ⊢
        apply st_seq
        apply s_ifOr
        · walk_at "t"
        · intro e
          rw [decide_eq_true rfl] at e
          cases e
        intro _
        refine ⟨_, rfl, ?_⟩
        apply e_tup (by walk_at "a") (by walk_at "z")
        intro q nq
        have s2 := s1.trans (same_new (o := .tup [.ty "tuple", .ty "list"]) nq)
        refine ⟨.ref a, q, _, _, _, _, rfl, upd_same, .cons (ClsV.ty _) (.cons (ClsV.ty _) .nil), (tys _ s2).1, k2, true, rfl, ?_⟩
        refine iteF ?_
        generalize upd H1 q (.tup [.ty "tuple", .ty "list"]) = H2 at s2 ⊢
        have hs2 : (SqT K H2 a xs ∧ SqT K H2 b ys) ∨ (SqL K H2 a xs ∧ SqL K H2 b ys) := by
          rcases hs with ⟨h1, h2⟩ | ⟨h1, h2⟩
          · exact .inl ⟨Same.seqT s2 h1, Same.seqT s2 h2⟩
          · exact .inr ⟨Same.seq s2 h1, Same.seq s2 h2⟩
        have la : SqL K H2 a xs ∨ SqT K H2 a xs := hs2.elim (fun h => .inr h.1) fun h => .inl h.1
        have lb : SqL K H2 b ys ∨ SqT K H2 b ys := hs2.elim (fun h => .inr h.2) fun h => .inl h.2
        apply st_next
        dsimp only
        apply s_retE
        apply e_andV
        · walk_at "v"
        rotate_left
        · intro e
          rw [decide_eq_true (by rw [hlen])] at e
          cases e
        intro _
        apply e_cb1
        apply e_lc

        have turn : ∀ {J : It} {G : Hp → Prop} (W : Walk J xs.length G (YPair (fun i => xs[i]?) (fun i => ys[i]?))) (hG : ∀ H', Same H2 H' → G H'), LcB (gTup K 2 (gCons (gName 2) (gCons (gName 3) gNil))) tYes
            (tCall (spIs K (m + 1)) [] E0 (tCons (tVar 2) (tCons (tVar 3) tNil))) [2, 3] (L2.start N__law_is [.ref a, .ref b]) (fun x H1 => rAll K [x] H1 Q) J H2 := by
          intro J G W hG
          refine lc_w W (fun D i H' => Same H2 H' ∧ H' D = some (.lst (List.replicate i (.bl true)))) (fun D hD => ⟨same_new hD, upd_same⟩) (fun D i H' _ p => hG _ p.1) ?_ ?_
          · rintro D i x H3 H4 hD hi ⟨s3, d3⟩ ⟨T, x1, y1, rfl, nT, rfl, hx1, hy1⟩
            have s4 := s3.trans (same_new (o := .tup [x1, y1]) nT)
            refine g_two (SqT.of upd_same) ?_
            refine ⟨rfl, ?_⟩
            apply e_yes
            refine e_call (by walk_at "a") ⟨x1, y1, rfl, EqD.same (s2.trans s4) m x1 y1 (paired_get hp hx1 hy1), fun H5 s5 => ?_⟩
            have d5 : H5 D = some (.lst (List.replicate i (.bl true))) := s5 _ _ (by rw [upd_ne (ne_of_none d3 nT)]; exact d3)
            refine ⟨_, d5, by rw [List.length_replicate, sizeLine_eq]; omega, Same.mut (s4.trans s5) hD, ?_⟩
            rw [upd_same, List.replicate_succ']
          · rintro D H3 hD ⟨s3, d3⟩
            refine ⟨D, List.replicate xs.length true, rfl, SqL.of (by rw [d3, List.map_replicate]), ?_⟩
            rw [all_true]
            exact k _ (s2.trans s3)
        rcases hs2 with ⟨h1, h2⟩ | ⟨h1, h2⟩
        · exact e_zipT (by walk_at "a") h1 h2 (turn (walk_zipT (by omega)) fun H' e => ⟨Same.seqT e h1, Same.seqT e h2⟩)
        · exact e_zipL (by walk_at "a") h1 h2 (turn (walk_zip (by omega)) fun H' e => ⟨Same.seq e h1, Same.seq e h2⟩)
end
end E1


namespace E1
set_option maxHeartbeats 1000000

def src (ar : List (Nat × Nat)) (k : Nat) : Nat := (ar.getD k (0, 0)).1
def tgt (ar : List (Nat × Nat)) (k : Nat) : Nat := (ar.getD k (0, 0)).2

def rem (ar : List (Nat × Nat)) (P : Nat → Bool) (x : Nat) : Nat := (List.range ar.length).countP (fun k => !P k && tgt ar k == x)
theorem rem_zero {ar : List (Nat × Nat)} {P : Nat → Bool} {x : Nat} : rem ar P x = 0 ↔ ∀ k < ar.length, tgt ar k = x → P k = true := by
  unfold rem
  rw [List.countP_eq_zero]
  constructor
  · intro h k hk e
    have := h k (List.mem_range.mpr hk)
    simp only [e, beq_self_eq_true, Bool.and_true, Bool.not_eq_true, Bool.not_eq_false'] at this
    simpa using this
  · intro h k hk
    have hk' := List.mem_range.mp hk
    by_cases e : tgt ar k = x
    · simp [e, h k hk' e]
    · simp [e]

def one (P : Nat → Bool) (k : Nat) : Nat → Bool := fun j => P j || j == k
theorem countP_one : ∀ (m k : Nat) (p q : Nat → Bool), k < m → p k = true → q k = false → (∀ j, j ≠ k → p j = q j) → (List.range m).countP p = (List.range m).countP q + 1
  | 0, k, _, _, h, _, _, _ => by omega
  | m + 1, k, p, q, h, hp, hq, e => by
    rw [List.range_succ, List.countP_append, List.countP_append]
    by_cases hk : k = m
    · subst hk
      have e1 : (List.range k).countP p = (List.range k).countP q := by
        apply List.countP_congr
        intro x hx
        have := List.mem_range.mp hx
        rw [e x (by omega)]
      rw [e1]
      simp [List.countP_cons, hp, hq]
    · have ih := countP_one m k p q (by omega) hp hq e
      rw [ih]
      simp [List.countP_cons, e m (Ne.symm hk)]
      omega
theorem rem_one {ar : List (Nat × Nat)} {P : Nat → Bool} {k : Nat} (hk : k < ar.length) (hP : P k = false) : rem ar P (tgt ar k) = rem ar (one P k) (tgt ar k) + 1 := by
  unfold rem
  apply countP_one _ k _ _ hk
  · simp [hP]
  · simp [one]
  · intro j hj
    have hb : (j == k) = false := by simp [hj]
    simp [one, hb]
theorem rem_other {ar : List (Nat × Nat)} {P : Nat → Bool} {k x : Nat} (h : tgt ar k ≠ x) : rem ar (one P k) x = rem ar P x := by
  unfold rem
  apply List.countP_congr
  intro j _
  by_cases hj : j = k
  · subst hj
    simp [h]
  · simp [one, hj]

structure KI (n : Nat) (ar : List (Nat × Nat)) (P : Nat → Bool) (w : List Int) (od : List Nat) : Prop where
  wl : w.length = n
  wv : ∀ x < n, w[x]? = some (rem ar P x : Int)
  nd : od.Nodup
  mem : ∀ x, x ∈ od ↔ x < n ∧ rem ar P x = 0
  up : ∀ (j v : Nat), od[j]? = some v → ∀ k < ar.length, tgt ar k = v → ∃ i < j, od[i]? = some (src ar k)
theorem KI.step {n : Nat} {ar : List (Nat × Nat)} {P : Nat → Bool} {w : List Int} {od : List Nat} {k d : Nat} (I : KI n ar P w od) (hk : k < ar.length) (hP : P k = false) (hv : tgt ar k < n) (hd : od[d]? = some (src ar k))
    (hs : ∀ j < ar.length, P j = true → ∃ i, i ≤ d ∧ od[i]? = some (src ar j)) :
    KI n ar (one P k) (w.set (tgt ar k) (rem ar P (tgt ar k) - 1 : Int)) (if (rem ar P (tgt ar k) : Int) - 1 = 0 then od ++ [tgt ar k] else od) ∧ tgt ar k ∉ od ∧ rem ar P (tgt ar k) ≠ 0 := by
  have r1 := rem_one hk hP
  have hno : tgt ar k ∉ od := fun h => by
    have := ((I.mem _).mp h).2
    omega
  refine ⟨⟨by rw [List.length_set, I.wl], fun x hx => ?_, ?_, fun x => ?_, ?_⟩, hno, by omega⟩
  · by_cases hxt : x = tgt ar k
    · subst hxt
      rw [List.getElem?_set_self (by rw [I.wl]; exact hx)]
      congr 1
      omega
    · rw [List.getElem?_set_ne (Ne.symm hxt), rem_other (Ne.symm hxt)]
      exact I.wv x hx
  · split
    · rw [List.nodup_append]
      refine ⟨I.nd, by simp, ?_⟩
      intro a ha b hb
      rw [List.mem_singleton.mp hb]
      rintro rfl
      exact hno ha
    · exact I.nd
  · by_cases hxt : x = tgt ar k
    · subst hxt
      split
      · rename_i h0
        simp only [List.mem_append, List.mem_singleton, or_true, true_iff]
        exact ⟨hv, by omega⟩
      · rename_i h0
        constructor
        · intro h
          exact absurd h hno
        · intro h
          exfalso
          apply h0
          omega
    · rw [rem_other (Ne.symm hxt)]
      split
      · simp only [List.mem_append, List.mem_singleton, hxt, or_false]
        exact I.mem x
      · exact I.mem x
  · split
    · rename_i h0
      intro j v hj q hq hqt
      by_cases hjl : j < od.length
      · rw [List.getElem?_append_left hjl] at hj
        obtain ⟨i, hi, e⟩ := I.up j v hj q hq hqt
        exact ⟨i, hi, by rw [List.getElem?_append_left (by omega)]; exact e⟩
      · have hj0 : j = od.length := by
          have := (List.getElem?_eq_some_iff.mp hj).1
          simp at this
          omega
        subst hj0
        rw [List.getElem?_append_right (Nat.le_refl _), Nat.sub_self] at hj
        have ev : tgt ar k = v := Option.some.inj hj
        subst ev
        have hz : rem ar (one P k) (tgt ar k) = 0 := by omega
        have hone := rem_zero.mp hz q hq hqt
        have hdl := (List.getElem?_eq_some_iff.mp hd).1
        have : P q = true ∨ q = k := by
          simp only [one, Bool.or_eq_true, beq_iff_eq] at hone
          exact hone
        rcases this with h | rfl
        · obtain ⟨i, hi, e⟩ := hs q hq h
          exact ⟨i, by omega, by rw [List.getElem?_append_left (by omega)]; exact e⟩
        · exact ⟨d, hdl, by rw [List.getElem?_append_left hdl]; exact hd⟩
    · exact I.up

def rowOf (ar : List (Nat × Nat)) (u : Nat) : List Nat := (List.range ar.length).filter (fun k => src ar k == u)
theorem mem_rowOf {ar : List (Nat × Nat)} {u k : Nat} : k ∈ rowOf ar u ↔ k < ar.length ∧ src ar k = u := by
  unfold rowOf
  rw [List.mem_filter, List.mem_range]
  simp
theorem rowOf_nodup (ar : List (Nat × Nat)) (u : Nat) : (rowOf ar u).Nodup := List.Nodup.sublist List.filter_sublist List.nodup_range

def DP (ar : List (Nat × Nat)) (ds : List Nat) (u i : Nat) : Nat → Bool := fun k => decide (src ar k ∈ ds) || decide (k ∈ (rowOf ar u).take i)
theorem DP_zero (ar : List (Nat × Nat)) (ds : List Nat) (u : Nat) : DP ar ds u 0 = fun k => decide (src ar k ∈ ds) := by
  funext k
  simp [DP]
theorem DP_succ {ar : List (Nat × Nat)} {ds : List Nat} {u i k : Nat} (h : (rowOf ar u)[i]? = some k) : DP ar ds u (i + 1) = one (DP ar ds u i) k := by
  funext j
  unfold DP one
  rw [List.take_add_one, h]
  simp only [Option.toList, List.mem_append, List.mem_singleton, Bool.or_assoc]
  congr 1
  by_cases hj : j = k
  · subst hj
    simp
  · simp [hj]
theorem DP_last (ar : List (Nat × Nat)) (ds : List Nat) (u : Nat) : ∀ k < ar.length, DP ar ds u (rowOf ar u).length k = decide (src ar k ∈ ds ++ [u]) := by
  intro k hk
  unfold DP
  rw [List.take_length]
  by_cases h : src ar k ∈ ds
  · simp [h]
  · by_cases hu : src ar k = u
    · have : k ∈ rowOf ar u := mem_rowOf.mpr ⟨hk, hu⟩
      simp [this, hu]
    · have : k ∉ rowOf ar u := fun z => hu (mem_rowOf.mp z).2
      simp [this, h, hu]
theorem rem_congr {ar : List (Nat × Nat)} {P P' : Nat → Bool} (h : ∀ k < ar.length, P k = P' k) (x : Nat) : rem ar P x = rem ar P' x := by
  unfold rem
  apply List.countP_congr
  intro k hk
  rw [h k (List.mem_range.mp hk)]
theorem KI.congr {n : Nat} {ar : List (Nat × Nat)} {P P' : Nat → Bool} {w : List Int} {od : List Nat} (I : KI n ar P w od) (h : ∀ k < ar.length, P k = P' k) : KI n ar P' w od :=
  ⟨I.wl, fun x hx => by rw [I.wv x hx, rem_congr h], I.nd, fun x => by rw [I.mem, rem_congr h], I.up⟩
theorem nodup_get_inj {α : Type} {l : List α} (h : l.Nodup) {i j : Nat} {x : α} (hi : l[i]? = some x) (hj : l[j]? = some x) : i = j := by
  obtain ⟨h1, e1⟩ := List.getElem?_eq_some_iff.mp hi
  obtain ⟨h2, e2⟩ := List.getElem?_eq_some_iff.mp hj
  exact (List.getElem_inj h).mp (e1.trans e2.symm)

theorem KI.turn {n : Nat} {ar : List (Nat × Nat)} {w : List Int} {od : List Nat} {d u i k : Nat} (hval : ∀ k < ar.length, tgt ar k < n) (hd : od[d]? = some u) (hi : (rowOf ar u)[i]? = some k) (I : KI n ar (DP ar (od.take d) u i) w od) :
    KI n ar (DP ar (od.take d) u (i + 1)) (w.set (tgt ar k) (rem ar (DP ar (od.take d) u i) (tgt ar k) - 1 : Int)) (if (rem ar (DP ar (od.take d) u i) (tgt ar k) : Int) - 1 = 0 then od ++ [tgt ar k] else od) ∧
      (od ++ [tgt ar k]).take d = od.take d ∧ (od ++ [tgt ar k])[d]? = some u := by
  have hk := mem_rowOf.mp (List.mem_of_getElem? hi)
  have hdl := (List.getElem?_eq_some_iff.mp hd).1
  have hun : u ∉ od.take d := fun z => by
    obtain ⟨j, hj⟩ := List.mem_iff_getElem?.mp z
    rw [List.getElem?_take] at hj
    split at hj
    · rename_i hjd
      have := nodup_get_inj I.nd hj hd
      omega
    · cases hj
  have hP : DP ar (od.take d) u i k = false := by
    unfold DP
    have h1 : src ar k ∉ od.take d := by rw [hk.2]; exact hun
    have h2 : k ∉ (rowOf ar u).take i := fun z => by
      obtain ⟨j, hj⟩ := List.mem_iff_getElem?.mp z
      rw [List.getElem?_take] at hj
      split at hj
      · rename_i hjd
        have := nodup_get_inj (rowOf_nodup ar u) hj hi
        omega
      · cases hj
    simp [h1, h2]
  refine ⟨?_, ?_, ?_⟩
  · rw [DP_succ hi]
    refine (I.step hk.1 hP (hval k hk.1) (d := d) (by rw [hk.2]; exact hd) ?_).1
    intro j hj hPj
    unfold DP at hPj
    simp only [Bool.or_eq_true, decide_eq_true_eq] at hPj
    rcases hPj with h | h
    · obtain ⟨i', hi'⟩ := List.mem_iff_getElem?.mp h
      rw [List.getElem?_take] at hi'
      split at hi'
      · rename_i hl
        exact ⟨i', by omega, hi'⟩
      · cases hi'
    · exact ⟨d, Nat.le_refl _, by rw [hd, (mem_rowOf.mp (List.mem_of_mem_take h)).2]⟩
  · rw [List.take_append_of_le_length (by omega)]
  · rw [List.getElem?_append_left hdl]
    exact hd

theorem KI.all {n : Nat} {ar : List (Nat × Nat)} {w : List Int} {od : List Nat} (I : KI n ar (fun k => decide (src ar k ∈ od)) w od) (r : Nat → Nat) (hr : ∀ k < ar.length, r (src ar k) < r (tgt ar k)) (hs : ∀ k < ar.length, src ar k < n) : ∀ (m x : Nat), r x < m → x < n → x ∈ od
  | 0, _, h, _ => by omega
  | m + 1, x, h, hx => by
    refine (I.mem x).mpr ⟨hx, rem_zero.mpr fun k hk ht => ?_⟩
    have := hr k hk
    rw [ht] at this
    exact decide_eq_true (KI.all I r hr hs m _ (by omega) (hs k hk))
theorem nodup_bound {l : List Nat} {n : Nat} (h : l.Nodup) (hl : ∀ x ∈ l, x < n) : l.length ≤ n := by
  have : l ⊆ List.range n := fun x hx => List.mem_range.mpr (hl x hx)
  have := List.Nodup.length_le_of_subset h this
  rw [List.length_range] at this
  exact this
theorem perm_range {l : List Nat} {n : Nat} (h : l.Nodup) (hl : ∀ x, x ∈ l ↔ x < n) : l.Perm (List.range n) :=
  (List.perm_ext_iff_of_nodup h List.nodup_range).mpr fun x => by rw [hl, List.mem_range]
end E1


namespace E1
set_option maxHeartbeats 1000000
inductive Rc (ar : List (Nat × Nat)) (s : Nat) : Nat → Prop
  | refl : Rc ar s s
  | step {y z : Nat} : Rc ar s y → (y, z) ∈ ar → Rc ar s z
theorem Rc.trans {ar : List (Nat × Nat)} {a b c : Nat} (h1 : Rc ar a b) (h2 : Rc ar b c) : Rc ar a c := by
  induction h2 with
  | refl => exact h1
  | step _ e ih => exact .step ih e
theorem Rc.closed {ar : List (Nat × Nat)} {s x : Nat} {S : Nat → Prop} (h : Rc ar s x) (h0 : S s) (hc : ∀ y z, S y → (y, z) ∈ ar → S z) : S x := by
  induction h with
  | refl => exact h0
  | step _ e ih => exact hc _ _ ih e
def swapA (ar : List (Nat × Nat)) : List (Nat × Nat) := ar.map fun p => (p.2, p.1)
theorem mem_swapA {ar : List (Nat × Nat)} {x y : Nat} : (x, y) ∈ swapA ar ↔ (y, x) ∈ ar := by
  unfold swapA
  rw [List.mem_map]
  constructor
  · rintro ⟨⟨a, b⟩, h, e⟩
    cases e
    exact h
  · intro h
    exact ⟨(y, x), h, rfl⟩
theorem Rc.swap {ar : List (Nat × Nat)} {a b : Nat} (h : Rc ar a b) : Rc (swapA ar) b a := by
  induction h with
  | refl => exact .refl
  | step _ e ih => exact Rc.trans (.step .refl (mem_swapA.mpr e)) ih
theorem swapA_swapA (ar : List (Nat × Nat)) : swapA (swapA ar) = ar := by
  unfold swapA
  rw [List.map_map]
  have e : ((fun p : Nat × Nat => (p.2, p.1)) ∘ fun p : Nat × Nat => (p.2, p.1)) = id := rfl
  rw [e, List.map_id]
theorem Rc.swap_iff {ar : List (Nat × Nat)} {a b : Nat} : Rc (swapA ar) b a ↔ Rc ar a b := ⟨fun h => by
  have := h.swap
  rw [swapA_swapA] at this
  exact this, Rc.swap⟩
theorem Rc.rank {ar : List (Nat × Nat)} {r : Nat → Nat} (hr : ∀ p ∈ ar, r p.1 < r p.2) {a b : Nat} (h : Rc ar a b) : a = b ∨ r a < r b := by
  induction h with
  | refl => exact .inl rfl
  | step _ e ih =>
    have := hr _ e
    rcases ih with rfl | ih
    · exact .inr this
    · exact .inr (Nat.lt_trans ih this)
theorem Rc.anti {ar : List (Nat × Nat)} {r : Nat → Nat} (hr : ∀ p ∈ ar, r p.1 < r p.2) {a b : Nat} (h : Rc ar a b) (h' : Rc ar b a) : a = b := by
  rcases h.rank hr with e | e
  · exact e
  · rcases h'.rank hr with e' | e'
    · exact e'.symm
    · omega

def Lot (xs : List Nat) (P : Nat → Prop) : Prop := xs.Pairwise (· < ·) ∧ ∀ x, x ∈ xs ↔ P x
theorem Lot.nodup {xs : List Nat} {P : Nat → Prop} (h : Lot xs P) : xs.Nodup := h.1.imp fun h => Nat.ne_of_lt h
theorem sorted_ext : ∀ {xs ys : List Nat}, xs.Pairwise (· < ·) → ys.Pairwise (· < ·) → (∀ x, x ∈ xs ↔ x ∈ ys) → xs = ys
  | [], [], _, _, _ => rfl
  | [], y :: ys, _, _, h => by
    have := (h y).mpr List.mem_cons_self
    cases this
  | x :: xs, [], _, _, h => by
    have := (h x).mp List.mem_cons_self
    cases this
  | x :: xs, y :: ys, hx, hy, h => by
    rw [List.pairwise_cons] at hx hy
    have e : x = y := by
      have h1 := (h x).mp List.mem_cons_self
      have h2 := (h y).mpr List.mem_cons_self
      rcases List.mem_cons.mp h1 with e | h1
      · exact e
      rcases List.mem_cons.mp h2 with e | h2
      · exact e.symm
      have := hx.1 y h2
      have := hy.1 x h1
      omega
    subst e
    congr 1
    refine sorted_ext hx.2 hy.2 fun z => ?_
    constructor
    · intro hz
      rcases List.mem_cons.mp ((h z).mp (List.mem_cons_of_mem _ hz)) with e | h'
      · have := hx.1 z hz
        omega
      · exact h'
    · intro hz
      rcases List.mem_cons.mp ((h z).mpr (List.mem_cons_of_mem _ hz)) with e | h'
      · have := hy.1 z hz
        omega
      · exact h'
theorem Lot.ext {xs ys : List Nat} {P Q : Nat → Prop} (hx : Lot xs P) (hy : Lot ys Q) (h : ∀ x, P x ↔ Q x) : xs = ys :=
  sorted_ext hx.1 hy.1 fun x => by rw [hx.2, hy.2, h]
theorem range_sorted (n : Nat) : (List.range n).Pairwise (· < ·) := List.pairwise_lt_range
theorem lot_filter (n : Nat) (p : Nat → Bool) : Lot ((List.range n).filter p) (fun x => x < n ∧ p x = true) :=
  ⟨(range_sorted n).filter _, fun x => by rw [List.mem_filter, List.mem_range]⟩
theorem lot_filter_of {xs : List Nat} {P : Nat → Prop} (h : Lot xs P) (p : Nat → Bool) : Lot (xs.filter p) (fun x => P x ∧ p x = true) :=
  ⟨h.1.filter _, fun x => by rw [List.mem_filter, h.2]⟩
theorem Lot.len {xs : List Nat} {P : Nat → Prop} {n : Nat} (h : Lot xs P) (hn : ∀ x, P x → x < n) : xs.length ≤ n := nodup_bound h.nodup fun x hx => hn x ((h.2 x).mp hx)

def rowT (ar : List (Nat × Nat)) (u : Nat) : List Nat := (rowOf ar u).map (tgt ar)
theorem get_src_tgt {ar : List (Nat × Nat)} {k : Nat} {p : Nat × Nat} (h : ar[k]? = some p) : src ar k = p.1 ∧ tgt ar k = p.2 := by
  unfold src tgt
  rw [List.getD_eq_getElem?_getD, h]
  exact ⟨rfl, rfl⟩
theorem mem_rowT {ar : List (Nat × Nat)} {u v : Nat} : v ∈ rowT ar u ↔ (u, v) ∈ ar := by
  unfold rowT
  rw [List.mem_map]
  constructor
  · rintro ⟨k, hk, rfl⟩
    obtain ⟨hl, hs⟩ := mem_rowOf.mp hk
    have e := List.getElem?_eq_getElem hl
    obtain ⟨e1, e2⟩ := get_src_tgt e
    rw [hs] at e1
    rw [e2, e1]
    exact List.getElem_mem hl
  · intro h
    obtain ⟨k, hk⟩ := List.mem_iff_getElem?.mp h
    obtain ⟨e1, e2⟩ := get_src_tgt hk
    exact ⟨k, mem_rowOf.mpr ⟨(List.getElem?_eq_some_iff.mp hk).1, e1⟩, e2⟩

structure DI (n : Nat) (ar : List (Nat × Nat)) (s : Nat) (se : List Bool) (st : List Nat) (u : Nat) (ps : List Nat) : Prop where
  len : se.length = n
  root : se[s]? = some true
  sub : ∀ x : Nat, se[x]? = some true → Rc ar s x
  stk : ∀ x ∈ st, se[x]? = some true
  clo : ∀ x : Nat, se[x]? = some true → x ∈ st ∨ (x = u ∧ ∀ y ∈ ps, se[y]? = some true) ∨ ∀ y, (x, y) ∈ ar → se[y]? = some true
def unseen (se : List Bool) : Nat := se.countP (fun b => !b)
theorem unseen_set : ∀ (se : List Bool) (y : Nat), se[y]? = some false → unseen (se.set y true) + 1 = unseen se
  | [], _, h => by simp at h
  | b :: r, 0, h => by
    have e : b = false := Option.some.inj h
    subst e
    simp [unseen]
  | b :: r, y + 1, h => by
    have ih := unseen_set r y (by simpa using h)
    unfold unseen at ih ⊢
    rw [List.set_cons_succ, List.countP_cons, List.countP_cons]
    omega
theorem DI.see {n : Nat} {ar : List (Nat × Nat)} {s : Nat} {se : List Bool} {st : List Nat} {u y : Nat} {ps : List Nat} (I : DI n ar s se st u ps) (hu : se[u]? = some true) (he : (u, y) ∈ ar) (hy : se[y]? = some false) :
    DI n ar s (se.set y true) (st ++ [y]) u (ps ++ [y]) := by
  have hyl : y < se.length := (List.getElem?_eq_some_iff.mp hy).1
  have keep : ∀ x : Nat, se[x]? = some true → (se.set y true)[x]? = some true := fun x hx => by
    by_cases e : y = x
    · subst e
      exact List.getElem?_set_self hyl
    · rw [List.getElem?_set_ne e]
      exact hx
  refine ⟨by rw [List.length_set, I.len], keep _ I.root, fun x hx => ?_, fun x hx => ?_, fun x hx => ?_⟩
  · by_cases e : y = x
    · subst e
      exact .step (I.sub u hu) he
    · rw [List.getElem?_set_ne e] at hx
      exact I.sub x hx
  · rcases List.mem_append.mp hx with h | h
    · exact keep _ (I.stk x h)
    · rw [List.mem_singleton.mp h]
      exact List.getElem?_set_self hyl
  · by_cases e : y = x
    · subst e
      exact .inl (List.mem_append_right _ List.mem_cons_self)
    · rw [List.getElem?_set_ne e] at hx
      rcases I.clo x hx with h | ⟨h1, h2⟩ | h
      · exact .inl (List.mem_append_left _ h)
      · refine .inr (.inl ⟨h1, fun z hz => ?_⟩)
        rcases List.mem_append.mp hz with h | h
        · exact keep _ (h2 z h)
        · rw [List.mem_singleton.mp h]
          exact List.getElem?_set_self hyl
      · exact .inr (.inr fun z hz => keep _ (h z hz))
theorem DI.pass {n : Nat} {ar : List (Nat × Nat)} {s : Nat} {se : List Bool} {st : List Nat} {u y : Nat} {ps : List Nat} (I : DI n ar s se st u ps) (hy : se[y]? = some true) : DI n ar s se st u (ps ++ [y]) :=
  ⟨I.len, I.root, I.sub, I.stk, fun x hx => by
    rcases I.clo x hx with h | ⟨h1, h2⟩ | h
    · exact .inl h
    · refine .inr (.inl ⟨h1, fun z hz => ?_⟩)
      rcases List.mem_append.mp hz with h | h
      · exact h2 z h
      · rw [List.mem_singleton.mp h]
        exact hy
    · exact .inr (.inr h)⟩

theorem DI.done {n : Nat} {ar : List (Nat × Nat)} {s : Nat} {se : List Bool} {st : List Nat} {u : Nat} (I : DI n ar s se st u (rowT ar u)) (u' : Nat) : DI n ar s se st u' [] :=
  ⟨I.len, I.root, I.sub, I.stk, fun x hx => by
    rcases I.clo x hx with h | ⟨rfl, h2⟩ | h
    · exact .inl h
    · exact .inr (.inr fun y hy => h2 y (mem_rowT.mpr hy))
    · exact .inr (.inr h)⟩
theorem DI.pop {n : Nat} {ar : List (Nat × Nat)} {s : Nat} {se : List Bool} {st : List Nat} {u x : Nat} (I : DI n ar s se (st ++ [x]) u (rowT ar u)) : DI n ar s se st x [] := by
  have J := I.done x
  refine ⟨J.len, J.root, J.sub, fun y hy => J.stk y (List.mem_append_left _ hy), fun y hy => ?_⟩
  rcases J.clo y hy with h | ⟨rfl, _⟩ | h
  · rcases List.mem_append.mp h with h | h
    · exact .inl h
    · exact .inr (.inl ⟨List.mem_singleton.mp h, fun z hz => by cases hz⟩)
  · exact .inr (.inl ⟨rfl, fun z hz => by cases hz⟩)
  · exact .inr (.inr h)
theorem DI.reach {n : Nat} {ar : List (Nat × Nat)} {s : Nat} {se : List Bool} {u : Nat} (I : DI n ar s se [] u (rowT ar u)) (x : Nat) : se[x]? = some true ↔ Rc ar s x := by
  refine ⟨I.sub x, fun h => h.closed (S := fun x => se[x]? = some true) I.root fun y z hy hz => ?_⟩
  rcases I.clo y hy with h | ⟨rfl, h2⟩ | h
  · cases h
  · exact h2 z (mem_rowT.mpr hz)
  · exact h z hz

structure FI (n : Nat) (ar : List (Nat × Nat)) (s : Nat) (fo : List Nat) (d i : Nat) : Prop where
  nd : fo.Nodup
  root : s ∈ fo
  lt : ∀ x ∈ fo, x < n
  sub : ∀ x ∈ fo, Rc ar s x
  clo : ∀ (j x y : Nat), j < d → fo[j]? = some x → (x, y) ∈ ar → y ∈ fo
  cur : ∀ (x k : Nat) (p : Nat × Nat), fo[d]? = some x → k < i → ar[k]? = some p → p.1 = x → p.2 ∈ fo
theorem FI.add {n : Nat} {ar : List (Nat × Nat)} {s : Nat} {fo : List Nat} {d i : Nat} {p : Nat × Nat} (I : FI n ar s fo d i) (hp : ar[i]? = some p) (hd : fo[d]? = some p.1) (hn : p.2 ∉ fo) (hv : p.2 < n) : FI n ar s (fo ++ [p.2]) d (i + 1) := by
  have hdl : d < fo.length := (List.getElem?_eq_some_iff.mp hd).1
  refine ⟨?_, List.mem_append_left _ I.root, fun x hx => ?_, fun x hx => ?_, fun j x y hj hx he => ?_, fun x k q hx hk hq hqx => ?_⟩
  · rw [List.nodup_append]
    refine ⟨I.nd, by simp, ?_⟩
    intro a ha b hb
    rw [List.mem_singleton.mp hb]
    rintro rfl
    exact hn ha
  · rcases List.mem_append.mp hx with h | h
    · exact I.lt x h
    · rw [List.mem_singleton.mp h]
      exact hv
  · rcases List.mem_append.mp hx with h | h
    · exact I.sub x h
    · rw [List.mem_singleton.mp h]
      exact .step (I.sub p.1 (List.mem_of_getElem? hd)) (List.mem_of_getElem? hp)
  · rw [List.getElem?_append_left (by omega)] at hx
    exact List.mem_append_left _ (I.clo j x y hj hx he)
  · rw [List.getElem?_append_left hdl] at hx
    by_cases hki : k = i
    · subst hki
      rw [hp] at hq
      cases hq
      exact List.mem_append_right _ List.mem_cons_self
    · exact List.mem_append_left _ (I.cur x k q hx (by omega) hq hqx)
theorem FI.skip {n : Nat} {ar : List (Nat × Nat)} {s : Nat} {fo : List Nat} {d i : Nat} {p : Nat × Nat} (I : FI n ar s fo d i) (hp : ar[i]? = some p) (h : fo[d]? ≠ some p.1 ∨ p.2 ∈ fo) : FI n ar s fo d (i + 1) :=
  ⟨I.nd, I.root, I.lt, I.sub, I.clo, fun x k q hx hk hq hqx => by
    by_cases hki : k = i
    · subst hki
      rw [hp] at hq
      cases hq
      rcases h with h | h
      · exact absurd (by rw [hx, hqx]) h
      · exact h
    · exact I.cur x k q hx (by omega) hq hqx⟩
theorem FI.next {n : Nat} {ar : List (Nat × Nat)} {s : Nat} {fo : List Nat} {d : Nat} (I : FI n ar s fo d ar.length) : FI n ar s fo (d + 1) 0 :=
  ⟨I.nd, I.root, I.lt, I.sub, fun j x y hj hx he => by
    by_cases hjd : j = d
    · subst hjd
      obtain ⟨k, hk⟩ := List.mem_iff_getElem?.mp he
      exact I.cur x k (x, y) hx (List.getElem?_eq_some_iff.mp hk).1 hk rfl
    · exact I.clo j x y (by omega) hx he, fun _ _ _ _ h => by omega⟩
theorem FI.reach {n : Nat} {ar : List (Nat × Nat)} {s : Nat} {fo : List Nat} (I : FI n ar s fo fo.length 0) (x : Nat) : x ∈ fo ↔ Rc ar s x := by
  refine ⟨I.sub x, fun h => h.closed (S := fun x => x ∈ fo) I.root fun y z hy hz => ?_⟩
  obtain ⟨j, hj⟩ := List.mem_iff_getElem?.mp hy
  exact I.clo j y z (List.getElem?_eq_some_iff.mp hj).1 hj hz
end E1

namespace E1
open PySem L2

structure RowsAt (H : Hp) (r : Addr) (rp : List Addr) (f : Nat → List V) : Prop where
  lst : H r = some (.lst (rp.map V.ref))
  nd : rp.Nodup
  no : r ∉ rp
  row : ∀ (i : Nat) (p : Addr), rp[i]? = some p → H p = some (.lst (f i))
theorem RowsAt.same {H H' : Hp} {r : Addr} {rp : List Addr} {f : Nat → List V} (a : RowsAt H r rp f) (e : Same H H') : RowsAt H' r rp f := ⟨e _ _ a.lst, a.nd, a.no, fun i p h => e _ _ (a.row i p h)⟩
theorem RowsAt.mut {H : Hp} {r q : Addr} {rp : List Addr} {f : Nat → List V} {o : HO} (a : RowsAt H r rp f) (h1 : q ≠ r) (h2 : q ∉ rp) : RowsAt (upd H q o) r rp f :=
  ⟨by rw [upd_ne (Ne.symm h1)]; exact a.lst, a.nd, a.no, fun i p h => by rw [upd_ne (fun e => h2 (by rw [← e]; exact List.mem_of_getElem? h))]; exact a.row i p h⟩
theorem RowsAt.set {H : Hp} {r p : Addr} {rp : List Addr} {f : Nat → List V} {u : Nat} {ys : List V} (a : RowsAt H r rp f) (hp : rp[u]? = some p) : RowsAt (upd H p (.lst ys)) r rp (fun i => if i = u then ys else f i) := by
  have hpm := List.mem_of_getElem? hp
  refine ⟨by rw [upd_ne (fun e => a.no (by rw [e]; exact hpm))]; exact a.lst, a.nd, a.no, fun i q h => ?_⟩
  by_cases hi : i = u
  · subst hi
    rw [hp] at h
    cases h
    rw [if_pos rfl]
    exact upd_same
  · rw [if_neg hi, upd_ne (fun e => hi (nodup_get_inj a.nd (by rw [← e] at hp; exact h) (by rw [← e] at hp; exact hp)))]
    exact a.row i q h
theorem RowsAt.congr {H : Hp} {r : Addr} {rp : List Addr} {f g : Nat → List V} (a : RowsAt H r rp f) (h : ∀ i < rp.length, f i = g i) : RowsAt H r rp g :=
  ⟨a.lst, a.nd, a.no, fun i p e => by rw [← h i (List.getElem?_eq_some_iff.mp e).1]; exact a.row i p e⟩
section
variable {σ : L2.St} {H : Hp} {Q : VK} {K : PySem.W.Frag} {ta tb te : TE} {j : Nat} {vs : List Nat}

theorem e_rows {n : Nat} (hn : n ≤ 2000) (h : Vl ta σ H (nV n)) (hw : ∀ x, wipe ((wipe σ vs).set j (some x)) vs = wipe σ vs)
    (q : ∀ H' r rp, Same H H' → H r = none → (∀ p ∈ rp, H p = none) → rp.length = n → RowsAt H' r rp (fun _ => []) → Q (.ref r) H') : tLc (iRng1 (tCons ta tNil)) (gName j) tYes (tLst tNil) vs σ H Q := by
  apply e_lc
  refine e_rngN (n := n) (ar_cons h ar_nil) (by omega) ?_
  refine lc_w walk_rangeN (fun D i H' => Same H H' ∧ ∃ rp : List Addr, rp.length = i ∧ (∀ p ∈ rp, H p = none) ∧ RowsAt H' D rp (fun _ => [])) (fun D hD => ⟨same_new hD, [], rfl, (fun _ z => by cases z), upd_same, List.nodup_nil, by simp, fun i p h => by simp at h⟩) (fun _ _ _ _ _ => trivial) ?_ ?_
  · rintro D i x _ H1 hD hi ⟨s1, rp, hl, hf, ra⟩ ⟨rfl, rfl⟩
    refine ⟨hw _, ?_⟩
    apply e_yes
    refine e_lst ar_nil (by decide) fun p np => ?_
    have hpD : p ≠ D := Ne.symm (ne_of_none ra.lst np)
    have hpr : p ∉ rp := fun z => by
      obtain ⟨i, hi⟩ := List.mem_iff_getElem?.mp z
      have := ra.row i p hi
      rw [np] at this
      cases this
    have s2 : Same H (upd H1 p (.lst [])) := s1.trans (same_new np)
    refine ⟨rp.map V.ref, by rw [upd_ne (Ne.symm hpD)]; exact ra.lst, by rw [List.length_map, sizeLine_eq]; omega, Same.mut s2 hD, rp ++ [p], by rw [List.length_append, hl]; rfl, ?_, ?_⟩
    · intro q hq
      rcases List.mem_append.mp hq with h | h
      · exact hf q h
      · rw [List.mem_singleton.mp h]
        exact s1.free np
    · refine ⟨by rw [upd_same, List.map_append]; rfl, ?_, ?_, fun k q hq => ?_⟩
      · rw [List.nodup_append]
        refine ⟨ra.nd, by simp, ?_⟩
        intro a ha b hb
        rw [List.mem_singleton.mp hb]
        rintro rfl
        exact hpr ha
      · intro z
        rcases List.mem_append.mp z with h | h
        · exact ra.no h
        · exact hpD (List.mem_singleton.mp h).symm
      · by_cases hk : k < rp.length
        · rw [List.getElem?_append_left hk] at hq
          have hqp : q ≠ p := fun e => hpr (by rw [← e]; exact List.mem_of_getElem? hq)
          have hqD : q ≠ D := fun e => ra.no (by rw [← e]; exact List.mem_of_getElem? hq)
          rw [upd_ne hqD, upd_ne hqp]
          exact ra.row k q hq
        · rw [List.getElem?_append_right (by omega)] at hq
          have hk0 : k - rp.length = 0 := by
            have := (List.getElem?_eq_some_iff.mp hq).1
            simp at this
            omega
          rw [hk0] at hq
          have e : p = q := Option.some.inj hq
          rw [← e, upd_ne hpD]
          exact upd_same
  · rintro D H1 hD ⟨s1, rp, hl, hf, ra⟩
    exact q H1 D rp s1 hD hf hl ra
theorem rep_flat {α : Type} (n : Nat) (v : α) : (List.replicate n [v]).flatten = List.replicate n v := by
  induction n with
  | zero => rfl
  | succ n ih => rw [List.replicate_succ, List.flatten_cons, ih, List.replicate_succ]; rfl

theorem e_fill {n : Nat} {v : V} (hn : n ≤ 2000) (h : Vl te σ H v) (hb : ∀ H', Same H H' → Vl tb σ H' (nV n)) (q : ∀ H' p, Same H H' → H p = none → H' p = some (.lst (List.replicate n v)) → Q (.ref p) H') : tOp rRep (tLst (tCons te tNil)) tb σ H Q := by
  refine e_lst (ar_cons h ar_nil) (by simp) fun l nl => ?_
  refine (hb _ (same_new nl)).run _ ⟨l, _, [v], rfl, rfl, upd_same, by omega, by omega, ?_, fun p np => ?_⟩
  · rw [sizeLine_eq]
    simp
    omega
  · refine q _ p ((same_new nl).trans (same_new np)) ((same_new nl).free np) ?_
    rw [upd_same, Int.toNat_natCast, rep_flat]

theorem s_augL {to ti : TE} {D : Ends} {l : Addr} {xs : List V} {i : Nat} {m n : Int} {f : Int → Int → Int} (ho : Vl to σ H (.ref l)) (hi : Vl ti σ H (nV i)) (he : Vl te σ H (.int n)) (hl : H l = some (.lst xs)) (hx : xs[i]? = some (.int m)) (q : D.nx σ (upd H l (.lst (xs.set i (.int (f m n)))))) :
    tAugS to ti te (rIxL K) (ipI f) rSetL D σ H := by
  have hil := (List.getElem?_eq_some_iff.mp hx).1
  refine ho.run _ (hi.run _ ⟨l, xs, _, _, rfl, rfl, SqL.of hl, atI_nat hx, ?_⟩)
  refine he.run _ ⟨m, n, rfl, rfl, l, xs, _, i, rfl, rfl, hl, ?_, q⟩
  unfold ixN
  rw [if_pos (by omega), if_pos (by omega)]
  simp

theorem g_nest {i k l : Nat} {T U : Addr} {x y z : V} {R : L2.St → Hp → Prop} (h1 : SqT K H T [x, .ref U]) (h2 : SqT K H U [y, z]) (q : R (((σ.set i (some x)).set k (some y)).set l (some z)) H) :
    gTup K 2 (gCons (gName i) (gCons (gTup K 2 (gCons (gName k) (gCons (gName l) gNil))) gNil)) (.ref T) σ H R :=
  ⟨T, _, rfl, h1, rfl, x, _, rfl, _, [], rfl, ⟨U, _, rfl, h2, rfl, y, _, rfl, z, [], rfl, rfl, rfl, q⟩⟩
theorem ixN_lt {i n : Nat} (h : i < n) : ixN n (i : Int) = some i := by
  unfold ixN
  rw [if_pos (by omega), if_pos (by omega)]
  simp
end
def iSeq (K : PySem.W.Frag) (tl : TE) : TI := fun σ H R => tl σ H fun x H1 => ∃ a, x = .ref a ∧ (((∃ xs, SqL K H1 a xs) ∧ R (Itl K a) H1) ∨ ((∃ xs, SqT K H1 a xs) ∧ R (Itt K a) H1))
theorem pi_seq {X : Cx} {tg l : Expr} {tl : TE} (hl : PE X l tl) : PI X tg l (iSeq X.K tl) := by
  refine ⟨fun pins s σ H R I h => ?_⟩
  refine L2.thn (hl.run pins s σ H _ I h) fun v s1 ⟨x, H1, I1, r1, q1⟩ => ?_
  obtain ⟨a, ee, ⟨⟨xs, atq⟩, q⟩ | ⟨⟨xs, atq⟩, q⟩⟩ := q1
  · subst ee
    cases r1
    obtain ⟨ws, rel, isx, hz⟩ := I1.list atq
    refine wpAny_pyIter_list isx.isList ?_
    refine ⟨s1.heap.objs.size, [s1.heap.objs.size], _, _, H1, rfl, I1.kept (t' := s1.toks) fun b o ee => Heap.get?_push_of_some _ ee, turn_list a _, ⟨_, Heap.get?_push_size _ rfl, rfl, rfl⟩, fun b hbb => ?_, q⟩
    have ee : b = s1.heap.objs.size := by simpa using hbb
    subst ee
    exact I1.fpOk (Nat.le_refl _) (I1.hok.fresh (Nat.le_refl _))
  · subst ee
    cases r1
    obtain ⟨ws, rel, isx, hz⟩ := I1.tuple atq
    refine wpAny_pyIter_tuple (show s1.heap.IsTuple a ws.toArray from isx) ?_
    refine ⟨s1.heap.objs.size, [s1.heap.objs.size], _, _, H1, rfl, I1.kept (t' := s1.toks) fun b o ee => Heap.get?_push_of_some _ ee, turn_tuple a _, ⟨_, Heap.get?_push_size _ rfl, rfl, rfl⟩, fun b hbb => ?_, q⟩
    have ee : b = s1.heap.objs.size := by simpa using hbb
    subst ee
    exact I1.fpOk (Nat.le_refl _) (I1.hok.fresh (Nat.le_refl _))
section
variable {σ : L2.St} {H : Hp} {K : PySem.W.Frag} {ta : TE} {a : Addr} {xs : List V} {R : It → Hp → Prop}
theorem e_seqL (h : Vl ta σ H (.ref a)) (hs : SqL K H a xs) (q : R (Itl K a) H) : iSeq K ta σ H R := h.run _ ⟨a, rfl, .inl ⟨⟨_, hs⟩, q⟩⟩
theorem e_seqT (h : Vl ta σ H (.ref a)) (hs : SqT K H a xs) (q : R (Itt K a) H) : iSeq K ta σ H R := h.run _ ⟨a, rfl, .inr ⟨⟨_, hs⟩, q⟩⟩
end
section
variable {X : Cx} {K : PySem.W.Frag}
theorem ix_listK (h : X.K = K) : IxR X (rIxL K) := h ▸ ix_list
theorem ix_tupK (h : X.K = K) : IxR X (rIxT K) := h ▸ ix_tup
theorem call_len_seqK (h : X.K = K) : CallR X (.builtin "len") (fun xs H Q => ∃ p ys, xs = [.ref p] ∧ (SqL K H p ys ∨ SqT K H p ys) ∧ Q (.int ys.length) H) := h ▸ call_len_seq
theorem op_in_seqK (h : X.K = K) : OpR X (compareOp .In) (rIn K false) := h ▸ op_in_seq
theorem op_notIn_seqK (h : X.K = K) : OpR X (compareOp .NotIn) (rIn K true) := h ▸ op_notIn_seq
theorem or_sinW {w : World} (h : X.w = w) : OpR X (compareOp .In) (rSIn w) := h ▸ or_sin
theorem call_isiK' (h : X.K = K) : CallR X (.builtin "isinstance") (rIsi K) := h ▸ call_isi
end
section
variable {σ : L2.St} {H : Hp} {K : PySem.W.Frag} {ta : TE} {a : Addr} {xs : List V} {Q : VK} {y : V} {n : Nat}
theorem an_list (h : Vl ta σ H (.ref a)) (hl : SqL K H a xs) : An (fun σ H Q => ta σ H fun x H' => ∃ k, TruV K x H' k ∧ Q k H') σ H (!xs.isEmpty) := ⟨fun Q q => h.run _ ⟨_, .inl ⟨xs, hl, rfl⟩, q⟩⟩
theorem e_pop (h : Vl ta σ H (.ref a)) (hl : H a = some (.lst xs)) (hy : xs[xs.length - 1]? = some y) (q : Q y (upd H a (.lst xs.dropLast))) : tBM0 K "list" rPop ta σ H Q := h.run _ ⟨.inl ⟨rfl, _, SqL.of hl⟩, a, xs, y, rfl, rfl, hl, hy, q⟩
end
theorem PairsAt.get_tp {H : Hp} {ts : List V} {ar : List (Nat × Nat)} (a : PairsAt H ts ar) : ts.length = ar.length := a.1

def wf (n : Nat) (t : Addr) : List (Str × V) := putF "arrows" (.ref t) (putF "places" (nV n) [])
theorem pa_ne : ¬ (("places" : Str) = "arrows") := by decide +kernel
theorem wf_eq (n : Nat) (t : Addr) : wf n t = ([("places", nV n), ("arrows", V.ref t)] : List (Str × V)) := by
  show (if ("places" : Str) = "arrows" then [(("places" : Str), V.ref t)] else (("places" : Str), nV n) :: putF "arrows" (V.ref t) []) = ([("places", nV n), ("arrows", V.ref t)] : List (Str × V))
  rw [if_neg pa_ne]
  all_goals rfl
theorem wf_places (n : Nat) (t : Addr) : (wf n t).lookup ("places" : Str) = some (nV n) := by
  unfold wf
  rw [lookup_putF, if_neg pa_ne, lookup_putF, if_pos rfl]
theorem wf_arrows (n : Nat) (t : Addr) : (wf n t).lookup ("arrows" : Str) = some (.ref t) := by
  unfold wf
  rw [lookup_putF, if_pos rfl]
theorem wf_putP (n m : Nat) (t : Addr) : putF "places" (nV m) (wf n t) = wf m t := by
  rw [wf_eq, wf_eq]
  show (if ("places" : Str) = "places" then (("places" : Str), nV m) :: [("arrows", V.ref t)] else _) = ([("places", nV m), ("arrows", V.ref t)] : List (Str × V))
  rw [if_pos rfl]
theorem wf_putA (n : Nat) (t u : Addr) : putF "arrows" (.ref u) (wf n t) = wf n u := by
  rw [wf_eq, wf_eq]
  show (if ("places" : Str) = "arrows" then _ else (("places" : Str), nV n) :: (if ("arrows" : Str) = "arrows" then [(("arrows" : Str), V.ref u)] else _)) = ([("places", nV n), ("arrows", V.ref u)] : List (Str × V))
  rw [if_neg pa_ne, if_pos rfl]

structure WebAt (K : PySem.W.Frag) (C : Addr) (H : Hp) (a : Addr) (n : Nat) (ar : List (Nat × Nat)) : Prop where
  ob : ∃ (dx t : Addr) (ts : List V), H a = some (.ins C dx (wf n t)) ∧ SqT K H t ts ∧ PairsAt H ts ar
theorem WebAt.same {K : PySem.W.Frag} {C : Addr} {H H' : Hp} {a : Addr} {n : Nat} {ar : List (Nat × Nat)} (w : WebAt K C H a n ar) (e : Same H H') : WebAt K C H' a n ar := by
  obtain ⟨dx, t, ts, h1, h2, h3⟩ := w
  exact ⟨dx, t, ts, e _ _ h1, Same.seqT e h2, h3.keep (Tp.same e)⟩
def Valid (n : Nat) (ar : List (Nat × Nat)) : Prop := ∀ p ∈ ar, p.1 < n ∧ p.2 < n
theorem Valid.swap {n : Nat} {ar : List (Nat × Nat)} (h : Valid n ar) : Valid n (swapA ar) := fun p hp => by
  have := h (p.2, p.1) (mem_swapA.mp (show (p.1, p.2) ∈ swapA ar from hp))
  exact ⟨this.2, this.1⟩
theorem swapA_len (ar : List (Nat × Nat)) : (swapA ar).length = ar.length := List.length_map _
theorem order_all {n : Nat} {ar : List (Nat × Nat)} {od : List Nat} (hm : ∀ x, x ∈ od ↔ x < n ∧ ∀ k < ar.length, tgt ar k = x → src ar k ∈ od) (hv : Valid n ar) (r : Nat → Nat) (hr : ∀ p ∈ ar, r p.1 < r p.2) : ∀ (m x : Nat), r x < m → x < n → x ∈ od
  | 0, _, h, _ => by omega
  | m + 1, x, h, hx => by
    refine (hm x).mpr ⟨hx, fun k hk ht => ?_⟩
    have e := get_src_tgt (List.getElem?_eq_getElem hk)
    have h1 := hr _ (List.getElem_mem hk)
    have h2 := hv _ (List.getElem_mem hk)
    rw [← e.1, ← e.2, ht] at h1
    rw [← e.1] at h2
    exact order_all hm hv r hr m _ (by omega) h2.1
section
variable {σ : L2.St} {H : Hp} {K : PySem.W.Frag} {te : TE} {Q : VK} {vs : List Nat}

theorem e_swapped {i j : Nat} {t : Addr} {ts : List V} {ar : List (Nat × Nat)} (h : Vl te σ H (.ref t)) (ht : SqT K H t ts) (pa : PairsAt H ts ar) (hm : ar.length ≤ 4000)
    (hw : ∀ x y, wipe (((wipe σ vs).set i (some x)).set j (some y)) vs = wipe σ vs) (h1 : ∀ x y, (((wipe σ vs).set i (some x)).set j (some y))[i]? = some (some x)) (h2 : ∀ x y, (((wipe σ vs).set i (some x)).set j (some y))[j]? = some (some y))
    (q : ∀ H' D us, Same H H' → H D = none → H' D = some (.lst us) → PairsAt H' us (swapA ar) → Q (.ref D) H') : tLc (iTup K te) (gTup K 2 (gCons (gName i) (gCons (gName j) gNil))) tYes (tTup (tCons (tVar j) (tCons (tVar i) tNil))) vs σ H Q := by
  apply e_lc
  refine e_itT h ht ?_
  have tl := pa.1
  refine lc_w walk_tup (fun D k H' => Same H H' ∧ ∃ us, H' D = some (.lst us) ∧ PairsAt H' us ((swapA ar).take k)) (fun D hD => ⟨same_new hD, [], upd_same, PairsAt.nil⟩) (fun D k H' _ p => Same.seqT p.1 ht) ?_ ?_
  · rintro D k x _ H1 hD hk ⟨s1, us, hus, pu⟩ ⟨rfl, hx⟩
    obtain ⟨p, tp, hp, rfl, htp⟩ := pa.at hx
    refine g_two (SqT.of (s1 _ _ htp)) ⟨hw _ _, ?_⟩
    apply e_yes
    refine e_tup (ar_cons (vl_var (h2 _ _)) (ar_cons (vl_var (h1 _ _)) ar_nil)) (by simp) fun T nT => ?_
    have s2 : Same H (upd H1 T (.tup [nV p.2, nV p.1])) := s1.trans (same_new nT)
    have hus2 : upd H1 T (.tup [nV p.2, nV p.1]) D = some (.lst us) := by rw [upd_ne (ne_of_none hus nT)]; exact hus
    have hul : us.length ≤ 4000 := by
      rw [pu.1, List.length_take, swapA_len]
      omega
    have hpk : (swapA ar)[k]? = some (p.2, p.1) := by
      unfold swapA
      rw [List.getElem?_map, hp]
      rfl
    refine ⟨us, hus2, by rw [sizeLine_eq]; omega, Same.mut s2 hD, us ++ [.ref T], upd_same, ?_⟩
    rw [List.take_add_one, hpk]
    exact (((pu.keep (tp_new (o := .tup [nV p.2, nV p.1]) nT)).snoc (p := (p.2, p.1)) upd_same)).keep (tp_upd hus2)
  · rintro D H1 hD ⟨s1, us, hus, pu⟩
    rw [List.take_of_length_le (by rw [swapA_len]; omega)] at pu
    exact q H1 D us s1 hD hus pu
end
section
variable {σ : L2.St} {H : Hp} {te : TE} {tr ta : TA} {x : V} {Q : List V → Hp → Prop} {sp : Sp} {dvs : List V} {E : XK} {R : VK}
theorem e_callA (h : ta σ H fun vs H1 => sp (vs ++ dvs) H1 R E) : tCall sp dvs E ta σ H R := h
theorem e_arg (h : Vl te σ H x) (q : tr σ H fun xs H2 => Q (x :: xs) H2) : tCons te tr σ H Q := h.run _ q
theorem e_argE (h : te σ H fun x H1 => tr σ H1 fun xs H2 => Q (x :: xs) H2) : tCons te tr σ H Q := h
end
theorem inV_two (x u v : Nat) : inV (nV x) [nV u, nV v] = (decide (x = u) || decide (x = v)) := by
  have e : ∀ y : Nat, eqV (nV y) (nV x) = decide (x = y) := fun y => by
    show ((y : Int) == (x : Int)) = decide (x = y)
    rw [Bool.eq_iff_iff, beq_iff_eq, decide_eq_true_iff]
    omega
  unfold inV
  simp only [List.any_cons, List.any_nil, e, Bool.or_false]
theorem mem_casts {ys : List Nat} {x : Nat} : (x : Int) ∈ ys.map (fun (k : Nat) => (k : Int)) ↔ x ∈ ys := by
  rw [List.mem_map]
  constructor
  · rintro ⟨k, hk, e⟩
    have : k = x := by omega
    rw [← this]
    exact hk
  · intro h
    exact ⟨x, h, rfl⟩
theorem filter_snoc {xs : List Nat} {p : Nat → Bool} {i x : Nat} (h : xs[i]? = some x) : (xs.take (i + 1)).filter p = (xs.take i).filter p ++ (if p x = true then [x] else []) := by
  rw [List.take_add_one, h, List.filter_append]
  cases e : p x <;> simp [e]
end E1

namespace E1
open PySem L2
local macro_rules | `(tactic| walk_at "ne") => `(tactic| first | assumption | exact Ne.symm (by assumption) | exact ne_of_none (by walk_at "h") (by assumption) | exact Ne.symm (ne_of_none (by walk_at "h") (by assumption)))
local macro_rules | `(tactic| walk_at "h") => `(tactic| first | assumption | exact upd_same | (rw [upd_ne (by walk_at "ne")]; walk_at "h"))
local macro_rules | `(tactic| walk_at "sq") => `(tactic| first | assumption | exact SqL.of (by walk_at "h") | exact SqT.of (by walk_at "h") | exact .inl (SqL.of (by walk_at "h")) | exact .inr (SqT.of (by walk_at "h")) | exact .inl (by assumption) | exact .inr (by assumption))
local macro_rules | `(tactic| walk_at "at") => `(tactic| first | assumption | exact rfl | exact atI_last _ _ | exact atI_nats (by assumption))
local macro_rules | `(tactic| walk_at "c") => `(tactic| first | assumption | decide | omega | exact ⟨by omega, by omega⟩ | exact .inr ⟨by decide, by decide⟩ | exact .inl ⟨by decide, by decide⟩ | exact .inl ⟨by omega, by omega⟩ | exact ⟨by decide, by decide, by decide⟩)
local macro_rules | `(tactic| walk_at "cl") => `(tactic| first | exact ClsV.ty _ | exact ClsV.own _)
local macro_rules | `(tactic| walk_at "ty") => `(tactic| first | assumption | exact ty_T (by assumption) | exact ty_L (by assumption) | exact ty_flat (by assumption) | exact .base (.int _) | exact .base .non | exact .base (.bl _) | exact .base (.str _))
local macro_rules | `(tactic| walk_at "kt") => `(tactic| first | assumption | exact int_int | exact int_bool | exact tuple_tuple | exact list_tuple | exact tuple_int | exact bool_flat (by assumption) | exact int_flat (by assumption) | exact tuple_flat (by assumption))
local macro_rules | `(tactic| walk_at "v") => `(tactic| first
  | exact vl_var rfl
  | exact vl_c
  | (apply vl_add; walk_at "v"; walk_at "v")
  | (apply vl_sub; walk_at "v"; walk_at "v")
  | (apply vl_mul; walk_at "v"; walk_at "v"; walk_at "c")
  | (apply vl_mod; walk_at "v"; walk_at "v"; walk_at "c")
  | (apply vl_fdiv; walk_at "v"; walk_at "v"; walk_at "c")
  | (apply vl_pow; walk_at "v"; walk_at "v"; walk_at "c")
  | (apply vl_ixL; walk_at "v"; walk_at "v"; walk_at "sq"; walk_at "at")
  | (apply vl_ixT; walk_at "v"; walk_at "v"; walk_at "sq"; walk_at "at")
  | (apply vl_len; walk_at "v"; walk_at "sq")
  | (apply vl_int; walk_at "v")
  | (apply vl_abs; walk_at "v")
  | (apply vl_min2; walk_at "v"; walk_at "v")
  | (apply vl_max2; walk_at "v"; walk_at "v")
  | (apply vl_neg; walk_at "v")
  | (apply vl_eqI; walk_at "v"; walk_at "v")
  | (apply vl_neI; walk_at "v"; walk_at "v")
  | (apply vl_lt; walk_at "v"; walk_at "v")
  | (apply vl_le; walk_at "v"; walk_at "v")
  | (apply vl_gt; walk_at "v"; walk_at "v")
  | (apply vl_ge; walk_at "v"; walk_at "v")
  | (apply vl_eqB; walk_at "v"; walk_at "v")
  | (apply vl_neB; walk_at "v"; walk_at "v")
  | (apply vl_eqS; walk_at "v"; walk_at "v"; assumption)
  | (apply vl_chain; walk_at "v"; walk_at "v"; walk_at "v")
  | (apply vl_ifI; walk_at "t"; (intro _; walk_at "v"); (intro _; walk_at "v"))
  | (apply vl_isi; walk_at "v"; walk_at "v"; walk_at "cl"; walk_at "ty"; walk_at "kt")
  | (apply vl_fld; walk_at "v"; walk_at "h"; assumption; assumption; first | exact wf_places _ _ | exact wf_arrows _ _)
  | (apply vl_not; walk_at "v")
  | (apply vl_andL; walk_at "v"; intro _; walk_at "v")
  | (apply vl_orL; walk_at "v"; intro _; walk_at "v"))
local macro_rules | `(tactic| walk_at "t") => `(tactic| first
  | (apply an_and; walk_at "t"; intro _; walk_at "t")
  | (apply an_or; walk_at "t"; intro _; walk_at "t")
  | (apply an_not; walk_at "t")
  | (apply an_of; walk_at "v")
  | (apply an_val; walk_at "v"))
local macro_rules | `(tactic| walk_at "a") => `(tactic| first | exact ar_nil | (apply ar_cons; walk_at "v"; walk_at "a"))
local macro_rules | `(tactic| walk_at "n1") => `(tactic| first
  | (apply s_set; walk_at "v")
  | (apply s_setL; walk_at "v"; walk_at "v"; walk_at "v"; walk_at "h"; walk_at "at")
  | (apply s_augI; exact rfl; walk_at "v")
  | (apply s_app; walk_at "v"; walk_at "v"; walk_at "h"; walk_at "c")
  | (apply s_ret; walk_at "v")
  | (apply s_retL; walk_at "a"; walk_at "z")
  | (apply s_retT; walk_at "a"; walk_at "z")
  | (apply s_setNL; walk_at "a"; walk_at "z")
  | (apply s_setNT; walk_at "a"; walk_at "z")
  | (apply s_if; walk_at "t"))
local macro_rules | `(tactic| walk_at "n") => `(tactic| ((try dsimp only); (try (with_reducible apply st_next; try dsimp only)); first | (apply st_seq; walk_at "n1") | walk_at "n1"))
local macro_rules | `(tactic| walk_at "z") => `(tactic| (simp only [List.length_cons, List.length_nil]; omega))
local macro_rules | `(tactic| walk_at "q") => `(tactic| ((try dsimp only); apply st_seq))

section
variable {P : Program} {w : World} {K : PySem.W.Frag} {mg : Str → Option Value} {base : Heap}

def rowM (ar : List (Nat × Nat)) (m u : Nat) : List V := ((List.range m).filter (fun k => src ar k == u)).map nV
theorem rowM_succ {ar : List (Nat × Nat)} {m : Nat} {p : Nat × Nat} (h : ar[m]? = some p) (u : Nat) : rowM ar (m + 1) u = if u = p.1 then rowM ar m u ++ [nV m] else rowM ar m u := by
  unfold rowM
  rw [List.range_succ, List.filter_append]
  have e := (get_src_tgt h).1
  by_cases hu : u = p.1
  · rw [if_pos hu]
    simp [e, hu]
  · rw [if_neg hu]
    have : ¬ p.1 = u := fun z => hu z.symm
    simp [e, this]
theorem rowM_len (ar : List (Nat × Nat)) (m u : Nat) : (rowM ar m u).length ≤ m := by
  unfold rowM
  rw [List.length_map]
  have := List.length_filter_le (fun k => src ar k == u) (List.range m)
  rw [List.length_range] at this
  exact this
theorem rowM_all (ar : List (Nat × Nat)) (u : Nat) : rowM ar ar.length u = (rowOf ar u).map nV := rfl
def spRows (K : PySem.W.Frag) : Sp := fun vs H Q _ => ∃ (n : Nat) (t : Addr) (ts : List V) (ar : List (Nat × Nat)), vs = [nV n, .ref t] ∧ SqT K H t ts ∧ PairsAt H ts ar ∧ Valid n ar ∧ n ≤ 2000 ∧ ar.length ≤ 2000 ∧
  ∀ (H' : Hp) (r : Addr) (rp : List Addr), Same H H' → H r = none → (∀ p ∈ rp, H p = none) → rp.length = n → RowsAt H' r rp (fun u => (rowOf ar u).map nV) → Q (.ref r) H'
abbrev s_arrows_from : Stmt := top 7
abbrev N_arrows_from : List Str := ["places", "arrows", "rows", "_", "arrow", "begin"]
theorem sc_arrows_from : FnScope N_arrows_from ["places", "arrows"] (defScope s_arrows_from) := ⟨rfl, rfl, rfl, by decide +kernel, rfl, by decide +kernel, by decide +kernel⟩

theorem ok_arrows_from {f : Addr} {fd : FuncData} (F : Fun K "arrows_from" "arrows_from" s_arrows_from f fd) (T : Bi mg) : FnOk P w K mg base CX0 1 f fd ["places", "arrows"] (spRows K) := by
  have nd := sc_arrows_from.nd
  refine F.ok sc_arrows_from (fun vs H Q E h => ?_) (fun cdv A outer s H vs Q E hr h => ?_)
  · obtain ⟨n, t, ts, ar, rfl, _⟩ := h
    rfl
  · obtain ⟨n, t, ts, ar, rfl, ht, pa, va, hn, hm, k⟩ := h
    refine ⟨_, (pss_cons
 (ps_setLc (i := 2) (own := [("_", 3)]) (g := gName 3) (tt := tYes) (by rfl) nd rfl rfl (sw_true rfl rfl rfl (by decide +kernel)) (pi_range1 (by rfl) T.m_range (pa_cons (pv 0) pa_nil)) (blkOk_by (own := [("_", 3)]) (N := N_arrows_from) (sc := defScope s_arrows_from) (by decide +kernel)) (fun _ _ _ _ _ => (pg_name (i := 3) nd rfl (Or.inl rfl))) (fun _ _ _ _ _ => pts_nil) (fun _ _ _ _ _ => (pe_lst pa_nil)))
(pss_cons
 (ps_for PassesOwn.never rfl (pi_enumT (by rfl) T.m_enumerate (pa_cons (pv 1) pa_nil)) (pg_tup (by rfl) (pgs_cons (pg_name (i := 4) nd rfl (Or.inl rfl)) (pgs_cons (pg_tup (by rfl) (pgs_cons (pg_name (i := 5) nd rfl (Or.inl rfl)) (pgs_cons (pg_name (i := 3) nd rfl (Or.inl rfl)) pgs_nil))) pgs_nil)))
(pss_one
 (ps_expr (pe_bm PySem.F.plainAttrs_list PySem.F.slot_list_append PySem.F.type_list_append mt_append (pe_ix ix_list (pv 2) (pv 5) (fun _ _ => rfl)) (pa_cons (pv 4) pa_nil)))))
(pss_one
 (ps_ret (pv 2))))), ?_⟩
    apply st_seq
    apply s_setE
    apply e_rows hn (by walk_at "v") (by intro x; rfl)
    intro H1 r rp s1 nr nrp rl ra
    dsimp only
    apply st_seq
    apply s_for
    refine e_itE (by walk_at "a") (Same.seqT s1 ht) ?_
    have tl : ts.length = ar.length := pa.1
    refine for_w walk_enumT (fun i σ H2 => ∃ x3 x4 x5, σ = [some (nV n), some (.ref t), some (.ref r), x3, x4, x5] ∧ Same H H2 ∧ RowsAt H2 r rp (rowM ar i)) ⟨none, none, none, rfl, s1, ra⟩ (fun i σ H2 _ ⟨_, _, _, _, s2, _⟩ => Same.seqT s2 ht) ?_ ?_
    · rintro i x σ H2 H3 hi ⟨x3, x4, x5, rfl, s2, ra2⟩ ⟨T, x1, y1, rfl, nT, rfl, hx1, hy1⟩
      cases hx1
      obtain ⟨p, tp, hp, rfl, htp⟩ := pa.at hy1
      have s3 : Same H (upd H2 T (.tup [nV i, .ref tp])) := s2.trans (same_new nT)
      have vp := va p (List.mem_of_getElem? hp)
      refine g_nest (SqT.of upd_same) (SqT.of (s3 _ _ htp)) ?_
      obtain ⟨q, hq⟩ : ∃ q, rp[p.1]? = some q := ⟨rp[p.1]'(by omega), List.getElem?_eq_getElem (by omega)⟩
      have ra3 := ra2.same (same_new (o := .tup [nV i, .ref tp]) nT)
      have hr3 : SqL K (upd H2 T (.tup [nV i, .ref tp])) r (rp.map V.ref) := SqL.of ra3.lst
      have hat : atI (rp.map V.ref) (p.1 : Int) = some (.ref q) := atI_nat (map_get hq)
      have hl3 := ra3.row p.1 q hq
      have rl2 := rowM_len ar i p.1
      apply s_app
      · walk_at "v"
      · walk_at "v"
      · exact hl3
      · rw [sizeLine_eq]
        omega
      refine ⟨_, _, _, rfl, Same.mut s3 (nrp q (List.mem_of_getElem? hq)), (ra3.set hq).congr fun u _ => ?_⟩
      rw [rowM_succ hp]
      by_cases hu : u = p.1
      · rw [if_pos hu, if_pos hu, hu]
      · rw [if_neg hu, if_neg hu]
    · rintro σ H2 ⟨x3, x4, x5, rfl, s2, ra2⟩
      walk_at "n"
      rw [tl] at ra2
      exact k H2 r rp s2 nr nrp rl (ra2.congr fun u _ => rowM_all ar u)
def cntM (ar : List (Nat × Nat)) (m x : Nat) : Nat := (List.range m).countP (fun k => tgt ar k == x)
theorem cntM_succ {ar : List (Nat × Nat)} {m : Nat} {p : Nat × Nat} (h : ar[m]? = some p) (x : Nat) : cntM ar (m + 1) x = if x = p.2 then cntM ar m x + 1 else cntM ar m x := by
  unfold cntM
  rw [List.range_succ, List.countP_append]
  have e := (get_src_tgt h).2
  by_cases hx : x = p.2
  · rw [if_pos hx]
    simp [e, hx]
  · rw [if_neg hx]
    have : ¬ p.2 = x := fun z => hx z.symm
    simp [e, this]
theorem cntM_all (ar : List (Nat × Nat)) (x : Nat) : cntM ar ar.length x = rem ar (fun _ => false) x := by
  unfold cntM rem
  simp
theorem fm_filter (n : Nat) (p : Nat → Bool) (g : Nat → V) : (List.range n).filterMap (fun i => if p i = true then some (g i) else none) = ((List.range n).filter p).map g := by
  induction n with
  | zero => rfl
  | succ n ih =>
    rw [List.range_succ, List.filterMap_append, List.filter_append, List.map_append, ih]
    cases h : p n <;> simp [h]

def spOrder (K : PySem.W.Frag) : Sp := fun vs H Q _ => ∃ (n : Nat) (t : Addr) (ts : List V) (ar : List (Nat × Nat)), vs = [nV n, .ref t] ∧ SqT K H t ts ∧ PairsAt H ts ar ∧ Valid n ar ∧ n ≤ 2000 ∧ ar.length ≤ 2000 ∧
  ∀ (H' : Hp) (r : Addr) (od : List Nat), Same H H' → H r = none → H' r = some (.lst (od.map nV)) → od.Nodup → (∀ x ∈ od, x < n) → (∀ (j v : Nat), od[j]? = some v → ∀ k < ar.length, tgt ar k = v → ∃ i < j, od[i]? = some (src ar k)) →
    (∀ x, x ∈ od ↔ x < n ∧ ∀ k < ar.length, tgt ar k = x → src ar k ∈ od) → Q (.ref r) H'
abbrev s_onward_order : Stmt := top 8
abbrev N_onward_order : List Str := ["places", "arrows", "rows", "waiting", "_", "end", "order", "place", "done", "arrow"]
theorem sc_onward_order : FnScope N_onward_order ["places", "arrows"] (defScope s_onward_order) := ⟨rfl, rfl, rfl, by decide +kernel, rfl, by decide +kernel, by decide +kernel⟩

theorem ok_onward_order {f fA : Addr} {fd fdA : FuncData} (F : Fun K "onward_order" "onward_order" s_onward_order f fd) (T : Bi mg) (D_arrows_from : Dn K mg "arrows_from" s_arrows_from ["places", "arrows"] fA fdA) : FnOk P w K mg base CX0 2 f fd ["places", "arrows"] (spOrder K) := by
  have nd := sc_onward_order.nd
  have G_arrows_from : FnOk P w K mg base CX0 1 fA fdA ["places", "arrows"] (spRows K) := ok_arrows_from D_arrows_from.F T
  refine F.ok sc_onward_order (fun vs H Q E h => ?_) (fun cdv A outer s H vs Q E hr h => ?_)
  · obtain ⟨n, t, ts, ar, rfl, _⟩ := h
    rfl
  · obtain ⟨n, t, ts, ar, rfl, ht, pa, va, hn, hm, k⟩ := h
    refine ⟨_, (pss_cons
 (ps_set (i := 2) nd rfl (Or.inl rfl) (pe_call G_arrows_from (hr.mono (by decide)) (by rfl) D_arrows_from.g D_arrows_from.F.kp D_arrows_from.b .nil pass0 (pa_cons (pv 0) (pa_cons (pv 1) pa_nil))))
(pss_cons
 (ps_set (i := 3) nd rfl (Or.inr rfl) (pe_op op_rep (pe_lst (pa_cons pe_int pa_nil)) (pv 0)))
(pss_cons
 (ps_for PassesOwn.never rfl (pi_tup (pv 1)) (pg_tup (by rfl) (pgs_cons (pg_name (i := 4) nd rfl (Or.inl rfl)) (pgs_cons (pg_name (i := 5) nd rfl (Or.inl rfl)) pgs_nil)))
(pss_one
 (ps_augS (pv 3) (pv 5) get_list pe_int ip_add set_list)))
(pss_cons
 (ps_setLc (i := 6) (own := [("place", 7)]) (g := gName 7) (by rfl) nd rfl rfl (sw_true rfl rfl rfl (by decide +kernel)) (pi_range1 (by rfl) T.m_range (pa_cons (pv 0) pa_nil)) (blkOk_by (own := [("place", 7)]) (N := N_onward_order) (sc := defScope s_onward_order) (by decide +kernel)) (fun _ _ _ _ _ => (pg_name (i := 7) nd rfl (Or.inl rfl))) (fun _ _ _ _ _ => (pts_one (pt_cmpR op_eq (pe_ix (ix_listK (K := K) rfl) (pv 3) (pv 7) (fun _ _ => rfl)) pe_int (nomark _)))) (fun _ _ _ _ _ => (pv 7)))
(pss_cons
 (ps_set (i := 8) nd rfl (Or.inl rfl) pe_int)
(pss_cons
 (ps_while PassesOwn.never (pt_cmpR op_lt (pv 8) (pe_callB call_len_seq (by rfl) T.m_len (by decide +kernel) (pa_cons (pv 6) pa_nil)) (nomark _))
(pss_cons
 (ps_set (i := 7) nd rfl (Or.inl rfl) (pe_ix ix_list (pv 6) (pv 8) (fun _ _ => rfl)))
(pss_cons
 (ps_for PassesOwn.never rfl (pi_list (pe_ix ix_list (pv 2) (pv 7) (fun _ _ => rfl))) (pg_name (i := 9) nd rfl (Or.inl rfl))
(pss_cons
 (ps_set (i := 5) nd rfl (Or.inl rfl) (pe_ix ix_tup (pe_ix ix_tup (pv 1) (pv 9) (fun _ _ => rfl)) pe_int (fun _ _ => rfl)))
(pss_cons
 (ps_augS (pv 3) (pv 5) get_list pe_int ip_sub set_list)
(pss_one
 (ps_if (pt_cmpR op_eq (pe_ix ix_list (pv 3) (pv 5) (fun _ _ => rfl)) pe_int (nomark _)) (pss_one
 (ps_expr (pe_bm PySem.F.plainAttrs_list PySem.F.slot_list_append PySem.F.type_list_append mt_append (pv 6) (pa_cons (pv 5) pa_nil)))) pss_nil)))))
(pss_one
 (ps_aug (i := 8) nd rfl (Or.inl rfl) pe_int ip_add)))))
(pss_one
 (ps_ret (pv 6))))))))), ?_⟩
    walk_at "q"
    apply s_call (by walk_at "a")
    refine ⟨n, t, ts, ar, rfl, ht, pa, va, hn, hm, fun H1 r rp s1 nr nrp rl ra => ?_⟩
    dsimp only
    walk_at "q"
    apply s_setE
    apply e_fill (n := n) hn (by walk_at "v") (fun _ _ => by walk_at "v")
    intro H2 wl s2 nwl hwl
    dsimp only
    have s12 : Same H H2 := s1.trans s2
    have ra2 := ra.same s2
    have wr : wl ≠ r := Ne.symm (ne_of_none ra.lst nwl)
    have wrp : wl ∉ rp := fun z => by
      obtain ⟨i, hi⟩ := List.mem_iff_getElem?.mp z
      have := ra.row i wl hi
      rw [nwl] at this
      cases this
    have nwl0 : H wl = none := s1.free nwl
    have tl : ts.length = ar.length := pa.1

    walk_at "q"
    apply s_for
    refine e_itT (by walk_at "v") (Same.seqT s12 ht) ?_
    refine for_w walk_tup (fun i σ H3 => ∃ x4 x5 ws, σ = [some (nV n), some (.ref t), some (.ref r), some (.ref wl), x4, x5, none, none, none, none] ∧ Same H H3 ∧ RowsAt H3 r rp (fun u => (rowOf ar u).map nV) ∧ H3 wl = some (.lst (ws.map V.int)) ∧ ws.length = n ∧ ∀ x < n, ws[x]? = some (cntM ar i x : Int))
      ⟨none, none, List.replicate n 0, rfl, s12, ra2, by rw [hwl, List.map_replicate], List.length_replicate, fun x hx => by rw [List.getElem?_replicate, if_pos hx]; rfl⟩ (fun i σ H3 _ ⟨_, _, _, _, s3, _⟩ => Same.seqT s3 ht) ?_ ?_
    · rintro i x σ _ H3 hi ⟨x4, x5, ws, rfl, s3, ra3, hw3, wl3, wv3⟩ ⟨rfl, hx⟩
      obtain ⟨p, tp, hp, rfl, htp⟩ := pa.at hx
      have vp := va p (List.mem_of_getElem? hp)
      refine g_two (SqT.of (s3 _ _ htp)) ?_
      apply s_augL (by walk_at "v") (by walk_at "v") (by walk_at "v") hw3 (map_get (wv3 p.2 vp.2))
      refine ⟨_, _, ws.set p.2 ((cntM ar i p.2 : Int) + 1), rfl, Same.mut s3 nwl0, ra3.mut wr wrp, by rw [upd_same, List.map_set], by rw [List.length_set]; exact wl3, fun x hx => ?_⟩
      rw [cntM_succ hp]
      by_cases hxe : x = p.2
      · rw [if_pos hxe, hxe, List.getElem?_set_self (by rw [wl3]; exact vp.2)]
        rfl
      · rw [if_neg hxe, List.getElem?_set_ne (Ne.symm hxe)]
        exact wv3 x hx
    · rintro σ H3 ⟨x4, x5, ws, rfl, s3, ra3, hw3, wl3, wv3⟩
      rw [tl] at wv3
      have wv3' : ∀ x < n, ws[x]? = some (rem ar (fun _ => false) x : Int) := fun x hx => by rw [wv3 x hx, cntM_all]

      walk_at "q"
      apply s_lc
      refine e_rngN (n := n) (by walk_at "a") (by omega) ?_
      refine lc_pW walk_rangeN (fun i => if (decide (rem ar (fun _ => false) i = 0)) = true then some (nV i) else none) (by rw [sizeLine_eq]; omega) (fun _ _ => trivial) ?_ ?_ gm_name
      · rintro i x _ H4 hi e ⟨rfl, rfl⟩
        have hS : SqL K H4 wl (ws.map V.int) := SqL.of (e _ _ hw3)
        have hat : atI (ws.map V.int) (i : Int) = some (.int (rem ar (fun _ => false) i : Int)) := atI_nat (map_get (wv3' i hi))
        refine ⟨Same.refl _, rfl, _, by walk_at "t", fun hb => ⟨_, by walk_at "v", ?_⟩, fun hb => ?_⟩
        · have := of_decide_eq_true hb
          rw [if_pos (decide_eq_true (by omega))]
        · have := of_decide_eq_false hb
          rw [decide_eq_false (by omega), if_neg Bool.false_ne_true]
      · intro ol H4 nol s34 hol
        rw [fm_filter] at hol
        dsimp only
        have s4 : Same H H4 := s3.trans s34
        have hw4 := s34 _ _ hw3
        have ra4 := ra3.same s34
        have owl : ol ≠ wl := Ne.symm (ne_of_none hw3 nol)
        have olr : ol ≠ r := Ne.symm (ne_of_none ra3.lst nol)
        have orp : ol ∉ rp := fun z => by
          obtain ⟨i, hi⟩ := List.mem_iff_getElem?.mp z
          have := ra3.row i ol hi
          rw [nol] at this
          cases this
        have nol0 : H ol = none := s3.free nol
        have I0 : KI n ar (fun _ => false) ws ((List.range n).filter (fun i => decide (rem ar (fun _ => false) i = 0))) := ⟨wl3, wv3', List.Nodup.sublist List.filter_sublist List.nodup_range, fun x => by rw [List.mem_filter, List.mem_range]; simp, fun j v hj q hq hqt => by
          have hv := List.mem_of_getElem? hj
          rw [List.mem_filter] at hv
          have := rem_zero.mp (of_decide_eq_true hv.2) q hq hqt
          cases this⟩
        walk_at "n"
        walk_at "q"
        refine s_while (fun m σ H5 => ∃ d od ws x4 x5 x7 x9, m = n - d ∧ σ = [some (nV n), some (.ref t), some (.ref r), some (.ref wl), x4, x5, some (.ref ol), x7, some (nV d), x9] ∧ Same H H5 ∧ RowsAt H5 r rp (fun u => (rowOf ar u).map nV) ∧ H5 wl = some (.lst (ws.map V.int)) ∧ H5 ol = some (.lst (od.map nV)) ∧
          d ≤ od.length ∧ KI n ar (fun k => decide (src ar k ∈ od.take d)) ws od) n
          ⟨0, _, ws, _, _, _, _, by omega, rfl, s4, ra4, hw4, hol, by omega, I0.congr fun k _ => by simp⟩ ?_
        rintro m σ H5 ⟨d, od, ws, x4, x5, x7, x9, rfl, rfl, s5, ra5, hw5, ho5, hd, I⟩
        have odn : od.length ≤ n := nodup_bound I.nd fun x hx => ((I.mem x).mp hx).1
        refine ⟨_, by walk_at "t", fun hb => ?_, fun hb => ?_⟩
        · have hb' := of_decide_eq_true hb
          rw [List.length_map] at hb'
          have hdl : d < od.length := by omega
          obtain ⟨u, hu⟩ : ∃ u, od[d]? = some u := ⟨od[d], List.getElem?_eq_getElem hdl⟩
          have hun := ((I.mem u).mp (List.mem_of_getElem? hu)).1
          obtain ⟨q, hq⟩ : ∃ q, rp[u]? = some q := ⟨rp[u]'(by omega), List.getElem?_eq_getElem (by omega)⟩
          have hqm := List.mem_of_getElem? hq
          have hqw : q ≠ wl := fun e => wrp (by rw [← e]; exact hqm)
          have hqo : q ≠ ol := fun e => orp (by rw [← e]; exact hqm)
          walk_at "n"
          walk_at "q"
          apply s_for
          have hR5 : SqL K H5 r (rp.map V.ref) := SqL.of ra5.lst
          have hatq : atI (rp.map V.ref) (u : Int) = some (.ref q) := atI_nat (map_get hq)
          refine e_itL (by walk_at "v") (SqL.of (ra5.row u q hq)) ?_
          refine for_w walk_list (fun i σ H6 => ∃ od6 ws x4 x5 x9, σ = [some (nV n), some (.ref t), some (.ref r), some (.ref wl), x4, x5, some (.ref ol), some (nV u), some (nV d), x9] ∧ Same H H6 ∧ RowsAt H6 r rp (fun u => (rowOf ar u).map nV) ∧ H6 wl = some (.lst (ws.map V.int)) ∧ H6 ol = some (.lst (od6.map nV)) ∧
            od6.take d = od.take d ∧ od6[d]? = some u ∧ KI n ar (DP ar (od6.take d) u i) ws od6)
            ⟨od, ws, x4, x5, x9, rfl, s5, ra5, hw5, ho5, rfl, hu, I.congr fun k _ => by rw [DP_zero]⟩ (fun i σ H6 _ ⟨_, _, _, _, _, _, _, ra6, _⟩ => SqL.of (ra6.row u q hq)) ?_ ?_
          · rintro i x σ _ H6 hi ⟨od6, ws, x4, x5, x9, rfl, s6, ra6, hw6, ho6, ht6, hu6, I6⟩ ⟨rfl, hx⟩
            obtain ⟨kk, hkk, rfl⟩ := get_of_map hx
            have hmk := mem_rowOf.mp (List.mem_of_getElem? hkk)
            have hark := List.getElem?_eq_getElem hmk.1
            obtain ⟨e1, e2⟩ := get_src_tgt hark
            have vk := va _ (List.getElem_mem hmk.1)
            have od6n : od6.length ≤ n := nodup_bound I6.nd fun x hx => ((I6.mem x).mp hx).1
            have hval : ∀ k < ar.length, tgt ar k < n := fun k hk => by
              rw [(get_src_tgt (List.getElem?_eq_getElem hk)).2]
              exact (va _ (List.getElem_mem hk)).2
            have step := I6.turn hval hu6 hkk
            have htn := hval kk hmk.1
            obtain ⟨tk, htk, hT⟩ := pa.2 kk _ hark
            have hA : SqT K H6 t ts := Same.seqT s6 ht
            have hA1 : atI ts (kk : Int) = some (.ref tk) := atI_nat htk
            have hA2 : SqT K H6 tk [nV (ar[kk]).1, nV (ar[kk]).2] := SqT.of (s6 _ _ hT)
            have hwv := I6.wv (tgt ar kk) htn
            show tSeq _ _ _ _ _
            walk_at "n"
            dsimp only
            rw [show (nV (ar[kk]).2) = nV (tgt ar kk) from by rw [e2]]
            walk_at "q"
            apply s_augL (by walk_at "v") (by walk_at "v") (by walk_at "v") hw6 (map_get hwv)
            have s7 := Same.mut (o := .lst ((ws.map V.int).set (tgt ar kk) (.int ((rem ar (DP ar (od6.take d) u i) (tgt ar kk) : Int) - 1)))) s6 nwl0
            have ra7 := ra6.mut (o := .lst ((ws.map V.int).set (tgt ar kk) (.int ((rem ar (DP ar (od6.take d) u i) (tgt ar kk) : Int) - 1)))) wr wrp
            have hS7 : SqL K (upd H6 wl (.lst ((ws.map V.int).set (tgt ar kk) (.int ((rem ar (DP ar (od6.take d) u i) (tgt ar kk) : Int) - 1))))) wl _ := SqL.of upd_same
            have ho7 : (upd H6 wl (.lst ((ws.map V.int).set (tgt ar kk) (.int ((rem ar (DP ar (od6.take d) u i) (tgt ar kk) : Int) - 1))))) ol = some (.lst (od6.map nV)) := by rw [upd_ne owl]; exact ho6
            have hw7 : (upd H6 wl (.lst ((ws.map V.int).set (tgt ar kk) (.int ((rem ar (DP ar (od6.take d) u i) (tgt ar kk) : Int) - 1))))) wl = some (.lst ((ws.set (tgt ar kk) ((rem ar (DP ar (od6.take d) u i) (tgt ar kk) : Int) - 1)).map V.int)) := by rw [upd_same, List.map_set]
            have hat7 : atI ((ws.map V.int).set (tgt ar kk) (.int ((rem ar (DP ar (od6.take d) u i) (tgt ar kk) : Int) - 1))) (tgt ar kk : Int) = some (.int ((rem ar (DP ar (od6.take d) u i) (tgt ar kk) : Int) - 1)) := atI_nat (List.getElem?_set_self (by rw [List.length_map, I6.wl]; exact htn))
            generalize upd H6 wl (.lst ((ws.map V.int).set (tgt ar kk) (.int ((rem ar (DP ar (od6.take d) u i) (tgt ar kk) : Int) - 1)))) = H7 at s7 ra7 hS7 ho7 hw7 ⊢
            walk_at "n"
            · intro hb2
              have hz := of_decide_eq_true hb2
              apply s_app
              · walk_at "v"
              · walk_at "v"
              · exact ho7
              · rw [List.length_map, sizeLine_eq]
                omega
              rw [if_pos hz] at step
              exact ⟨od6 ++ [tgt ar kk], _, _, _, _, rfl, Same.mut s7 nol0, ra7.mut olr orp, by rw [upd_ne (Ne.symm owl)]; exact hw7, by rw [upd_same, List.map_append]; rfl, by rw [step.2.1]; exact ht6, step.2.2, by rw [step.2.1]; exact step.1⟩
            · intro hb2
              have hz := of_decide_eq_false hb2
              rw [if_neg hz] at step
              exact ⟨od6, _, _, _, _, rfl, s7, ra7, hw7, ho7, ht6, hu6, step.1⟩
          · rintro σ H6 ⟨od6, ws, x4, x5, x9, rfl, s6, ra6, hw6, ho6, ht6, hu6, I6⟩
            have hd6 := (List.getElem?_eq_some_iff.mp hu6).1
            walk_at "n"
            have etake : od6.take (d + 1) = od6.take d ++ [u] := by
              rw [List.take_add_one, hu6]
              rfl
            refine ⟨n - (d + 1), by omega, d + 1, od6, ws, _, _, _, _, rfl, rfl, s6, ra6, hw6, ho6, by omega, ?_⟩
            rw [etake]
            refine I6.congr fun k hk => ?_
            rw [List.length_map]
            exact DP_last ar _ u k hk
        · have hb' := of_decide_eq_false hb
          rw [List.length_map] at hb'
          have etake : od.take d = od := List.take_of_length_le (by omega)
          rw [etake] at I
          walk_at "n"
          exact k H5 ol od s5 nol0 ho5 I.nd (fun x hx => ((I.mem x).mp hx).1) I.up fun x => by
            rw [I.mem, rem_zero]
            constructor
            · rintro ⟨h1, h2⟩
              exact ⟨h1, fun k hk e => of_decide_eq_true (h2 k hk e)⟩
            · rintro ⟨h1, h2⟩
              exact ⟨h1, fun k hk e => decide_eq_true (h2 k hk e)⟩
end
end E1

namespace E1
open PySem L2
local macro_rules | `(tactic| walk_at "ne") => `(tactic| first | assumption | exact Ne.symm (by assumption) | exact ne_of_none (by walk_at "h") (by assumption) | exact Ne.symm (ne_of_none (by walk_at "h") (by assumption)))
local macro_rules | `(tactic| walk_at "h") => `(tactic| first | assumption | exact upd_same | (rw [upd_ne (by walk_at "ne")]; walk_at "h"))
local macro_rules | `(tactic| walk_at "sq") => `(tactic| first | assumption | exact SqL.of (by walk_at "h") | exact SqT.of (by walk_at "h") | exact .inl (SqL.of (by walk_at "h")) | exact .inr (SqT.of (by walk_at "h")) | exact .inl (by assumption) | exact .inr (by assumption))
local macro_rules | `(tactic| walk_at "at") => `(tactic| first | assumption | exact rfl | exact atI_last _ _ | exact atI_nats (by assumption))
local macro_rules | `(tactic| walk_at "c") => `(tactic| first | assumption | decide | omega | exact ⟨by omega, by omega⟩ | exact .inr ⟨by decide, by decide⟩ | exact .inl ⟨by decide, by decide⟩ | exact .inl ⟨by omega, by omega⟩ | exact ⟨by decide, by decide, by decide⟩)
local macro_rules | `(tactic| walk_at "cl") => `(tactic| first | exact ClsV.ty _ | exact ClsV.own _)
local macro_rules | `(tactic| walk_at "ty") => `(tactic| first | assumption | exact ty_T (by assumption) | exact ty_L (by assumption) | exact ty_flat (by assumption) | exact .base (.int _) | exact .base .non | exact .base (.bl _) | exact .base (.str _))
local macro_rules | `(tactic| walk_at "kt") => `(tactic| first | assumption | exact int_int | exact int_bool | exact tuple_tuple | exact list_tuple | exact tuple_int | exact bool_flat (by assumption) | exact int_flat (by assumption) | exact tuple_flat (by assumption))
local macro_rules | `(tactic| walk_at "v") => `(tactic| first
  | exact vl_var rfl
  | exact vl_c
  | (apply vl_add; walk_at "v"; walk_at "v")
  | (apply vl_sub; walk_at "v"; walk_at "v")
  | (apply vl_mul; walk_at "v"; walk_at "v"; walk_at "c")
  | (apply vl_mod; walk_at "v"; walk_at "v"; walk_at "c")
  | (apply vl_fdiv; walk_at "v"; walk_at "v"; walk_at "c")
  | (apply vl_pow; walk_at "v"; walk_at "v"; walk_at "c")
  | (apply vl_ixL; walk_at "v"; walk_at "v"; walk_at "sq"; walk_at "at")
  | (apply vl_ixT; walk_at "v"; walk_at "v"; walk_at "sq"; walk_at "at")
  | (apply vl_len; walk_at "v"; walk_at "sq")
  | (apply vl_int; walk_at "v")
  | (apply vl_abs; walk_at "v")
  | (apply vl_min2; walk_at "v"; walk_at "v")
  | (apply vl_max2; walk_at "v"; walk_at "v")
  | (apply vl_neg; walk_at "v")
  | (apply vl_eqI; walk_at "v"; walk_at "v")
  | (apply vl_neI; walk_at "v"; walk_at "v")
  | (apply vl_lt; walk_at "v"; walk_at "v")
  | (apply vl_le; walk_at "v"; walk_at "v")
  | (apply vl_gt; walk_at "v"; walk_at "v")
  | (apply vl_ge; walk_at "v"; walk_at "v")
  | (apply vl_eqB; walk_at "v"; walk_at "v")
  | (apply vl_neB; walk_at "v"; walk_at "v")
  | (apply vl_eqS; walk_at "v"; walk_at "v"; assumption)
  | (apply vl_chain; walk_at "v"; walk_at "v"; walk_at "v")
  | (apply vl_ifI; walk_at "t"; (intro _; walk_at "v"); (intro _; walk_at "v"))
  | (apply vl_isi; walk_at "v"; walk_at "v"; walk_at "cl"; walk_at "ty"; walk_at "kt")
  | (apply vl_not; walk_at "v")
  | (apply vl_andL; walk_at "v"; intro _; walk_at "v")
  | (apply vl_orL; walk_at "v"; intro _; walk_at "v"))
local macro_rules | `(tactic| walk_at "t") => `(tactic| first
  | (apply an_and; walk_at "t"; intro _; walk_at "t")
  | (apply an_or; walk_at "t"; intro _; walk_at "t")
  | (apply an_not; walk_at "t")
  | (apply an_of; walk_at "v")
  | (apply an_val; walk_at "v"))
local macro_rules | `(tactic| walk_at "a") => `(tactic| first | exact ar_nil | (apply ar_cons; walk_at "v"; walk_at "a"))
local macro_rules | `(tactic| walk_at "n1") => `(tactic| first
  | (apply s_set; walk_at "v")
  | (apply s_setL; walk_at "v"; walk_at "v"; walk_at "v"; walk_at "h"; walk_at "at")
  | (apply s_augI; exact rfl; walk_at "v")
  | (apply s_app; walk_at "v"; walk_at "v"; walk_at "h"; walk_at "c")
  | (apply s_ret; walk_at "v")
  | (apply s_retL; walk_at "a"; walk_at "z")
  | (apply s_retT; walk_at "a"; walk_at "z")
  | (apply s_setNL; walk_at "a"; walk_at "z")
  | (apply s_setNT; walk_at "a"; walk_at "z")
  | (apply s_if; walk_at "t"))
local macro_rules | `(tactic| walk_at "n") => `(tactic| ((try dsimp only); (try (with_reducible apply st_next; try dsimp only)); first | (apply st_seq; walk_at "n1") | walk_at "n1"))
local macro_rules | `(tactic| walk_at "z") => `(tactic| (simp only [List.length_cons, List.length_nil]; omega))
local macro_rules | `(tactic| walk_at "q") => `(tactic| ((try dsimp only); apply st_seq))

section
variable {P : Program} {w : World} {K : PySem.W.Frag} {mg : Str → Option Value} {base : Heap}

def rowS (ar : List (Nat × Nat)) (m u : Nat) : List V := ((List.range m).filter (fun k => src ar k == u)).map (fun k => nV (tgt ar k))
theorem rowS_succ {ar : List (Nat × Nat)} {m : Nat} {p : Nat × Nat} (h : ar[m]? = some p) (u : Nat) : rowS ar (m + 1) u = if u = p.1 then rowS ar m u ++ [nV p.2] else rowS ar m u := by
  unfold rowS
  rw [List.range_succ, List.filter_append]
  obtain ⟨e, e2⟩ := get_src_tgt h
  by_cases hu : u = p.1
  · rw [if_pos hu]
    simp [e, hu, e2]
  · rw [if_neg hu]
    have : ¬ p.1 = u := fun z => hu z.symm
    simp [e, this]
theorem rowS_len (ar : List (Nat × Nat)) (m u : Nat) : (rowS ar m u).length ≤ m := by
  unfold rowS
  rw [List.length_map]
  have := List.length_filter_le (fun k => src ar k == u) (List.range m)
  rw [List.length_range] at this
  exact this
theorem rowS_all (ar : List (Nat × Nat)) (u : Nat) : rowS ar ar.length u = (rowT ar u).map nV := by
  unfold rowS rowT rowOf
  rw [List.map_map]
  rfl
def spSpread (K : PySem.W.Frag) : Sp := fun vs H Q _ => ∃ (n s : Nat) (t : Addr) (ts : List V) (ar : List (Nat × Nat)), vs = [nV n, .ref t, nV s] ∧ (SqL K H t ts ∨ SqT K H t ts) ∧ PairsAt H ts ar ∧ Valid n ar ∧ s < n ∧ n ≤ 2000 ∧ ar.length ≤ 2000 ∧
  ∀ (H' : Hp) (p : Addr) (xs : List Nat), Same H H' → H p = none → H' p = some (.tup (xs.map nV)) → Lot xs (fun x => x < n ∧ Rc ar s x) → Q (.ref p) H'
theorem unseen_rep (n : Nat) : unseen (List.replicate n false) = n := by
  unfold unseen
  rw [List.countP_replicate]
  rfl
abbrev s_spread : Stmt := top 9
abbrev N_spread : List Str := ["places", "steps", "start", "rows", "_", "place", "other", "seen", "waiting"]
theorem sc_spread : FnScope N_spread ["places", "steps", "start"] (defScope s_spread) := ⟨rfl, rfl, rfl, by decide +kernel, rfl, by decide +kernel, by decide +kernel⟩

theorem ok_spread {f : Addr} {fd : FuncData} (F : Fun K "spread" "spread" s_spread f fd) (T : Bi mg) : FnOk P w K mg base CX0 1 f fd ["places", "steps", "start"] (spSpread K) := by
  have nd := sc_spread.nd
  refine F.ok sc_spread (fun vs H Q E h => ?_) (fun cdv A outer s H vs Q E hr h => ?_)
  · obtain ⟨n, st, t, ts, ar, rfl, _⟩ := h
    rfl
  · obtain ⟨n, st0, t, ts, ar, rfl, ht, pa, va, hst, hn, hm, k⟩ := h
    refine ⟨_, (pss_cons
 (ps_setLc (i := 3) (own := [("_", 4)]) (g := gName 4) (tt := tYes) (by rfl) nd rfl rfl (sw_true rfl rfl rfl (by decide +kernel)) (pi_range1 (by rfl) T.m_range (pa_cons (pv 0) pa_nil)) (blkOk_by (own := [("_", 4)]) (N := N_spread) (sc := defScope s_spread) (by decide +kernel)) (fun _ _ _ _ _ => (pg_name (i := 4) nd rfl (Or.inl rfl))) (fun _ _ _ _ _ => pts_nil) (fun _ _ _ _ _ => (pe_lst pa_nil)))
(pss_cons
 (ps_for PassesOwn.never rfl (pi_seq (pv 1)) (pg_tup (by rfl) (pgs_cons (pg_name (i := 5) nd rfl (Or.inl rfl)) (pgs_cons (pg_name (i := 6) nd rfl (Or.inl rfl)) pgs_nil)))
(pss_one
 (ps_expr (pe_bm PySem.F.plainAttrs_list PySem.F.slot_list_append PySem.F.type_list_append mt_append (pe_ix ix_list (pv 3) (pv 5) (fun _ _ => rfl)) (pa_cons (pv 6) pa_nil)))))
(pss_cons
 (ps_set (i := 7) nd rfl (Or.inr rfl) (pe_op op_rep (pe_lst (pa_cons pe_bl pa_nil)) (pv 0)))
(pss_cons
 (ps_asg pe_bl (pg_sub (pv 7) (pv 2) set_list))
(pss_cons
 (ps_set (i := 8) nd rfl (Or.inl rfl) (pe_lst (pa_cons (pv 2) pa_nil)))
(pss_cons
 (ps_while PassesOwn.never (pt_truth (pv 8) (by intro _; rfl))
(pss_cons
 (ps_set (i := 5) nd rfl (Or.inl rfl) (pe_bm0 PySem.F.plainAttrs_list PySem.F.slot_list_pop PySem.F.type_list_pop mt_pop (pv 8)))
(pss_one
 (ps_for PassesOwn.never rfl (pi_list (pe_ix ix_list (pv 3) (pv 5) (fun _ _ => rfl))) (pg_name (i := 6) nd rfl (Or.inl rfl))
(pss_one
 (ps_if (pt_not (pt_val (pe_ix ix_list (pv 7) (pv 6) (fun _ _ => rfl)))) (pss_cons
 (ps_asg pe_bl (pg_sub (pv 7) (pv 6) set_list))
(pss_one
 (ps_expr (pe_bm PySem.F.plainAttrs_list PySem.F.slot_list_append PySem.F.type_list_append mt_append (pv 8) (pa_cons (pv 6) pa_nil))))) pss_nil))))))
(pss_one
 (ps_ret (pe_callTy call_tuple_of (by rfl) T.m_tuple (by decide +kernel) (pa_cons (pe_lc (own := [("place", 5)]) (g := gName 5) (by rfl) nd (pi_range1 (by rfl) T.m_range (pa_cons (pv 0) pa_nil)) (blkOk_by (own := [("place", 5)]) (N := N_spread) (sc := defScope s_spread) (by decide +kernel)) (fun _ _ _ _ _ => (pg_name (i := 5) nd rfl (Or.inl rfl))) (fun _ _ _ _ _ => (pts_one (pt_val (pe_ix (ix_listK (K := K) rfl) (pv 7) (pv 5) (fun _ _ => rfl))))) (fun _ _ _ _ _ => (pv 5))) pa_nil)))))))))), ?_⟩
    walk_at "q"
    apply s_setE
    apply e_rows hn (by walk_at "v") (by intro x; rfl)
    intro H1 r rp s1 nr nrp rl ra
    dsimp only
    walk_at "q"
    apply s_for
    have tl : ts.length = ar.length := pa.1

    have turn : ∀ {J : It} {G : Hp → Prop} (W : Walk J ts.length G (YAt ts)) (hG : ∀ H', Same H H' → G H') (D : Ends) (hd : ∀ x5 x6 H2, Same H H2 → RowsAt H2 r rp (fun u => (rowT ar u).map nV) → D.nx [some (nV n), some (.ref t), some (nV st0), some (.ref r), none, x5, x6, none, none] H2),
        FoB (gTup K 2 (gCons (gName 5) (gCons (gName 6) gNil))) (tDrop (tBM K "list" rAppend (tOp (rIxL K) (tVar 3) (tVar 5)) (tCons (tVar 6) tNil))) D [some (nV n), some (.ref t), some (nV st0), some (.ref r), none, none, none, none, none] J H1 := by
      intro J G W hG D hd
      refine for_w W (fun i σ H2 => ∃ x5 x6, σ = [some (nV n), some (.ref t), some (nV st0), some (.ref r), none, x5, x6, none, none] ∧ Same H H2 ∧ RowsAt H2 r rp (rowS ar i)) ⟨none, none, rfl, s1, ra⟩ (fun i σ H2 _ ⟨_, _, _, s2, _⟩ => hG _ s2) ?_ ?_
      · rintro i x σ _ H2 hi ⟨x5, x6, rfl, s2, ra2⟩ ⟨rfl, hx⟩
        obtain ⟨p, tp, hp, rfl, htp⟩ := pa.at hx
        have vp := va p (List.mem_of_getElem? hp)
        refine g_two (SqT.of (s2 _ _ htp)) ?_
        obtain ⟨q, hq⟩ : ∃ q, rp[p.1]? = some q := ⟨rp[p.1]'(by omega), List.getElem?_eq_getElem (by omega)⟩
        have hr2 : SqL K H2 r (rp.map V.ref) := SqL.of ra2.lst
        have hat : atI (rp.map V.ref) (p.1 : Int) = some (.ref q) := atI_nat (map_get hq)
        have rl2 := rowS_len ar i p.1
        apply s_app
        · walk_at "v"
        · walk_at "v"
        · exact ra2.row p.1 q hq
        · rw [sizeLine_eq]
          omega
        refine ⟨_, _, rfl, Same.mut s2 (nrp q (List.mem_of_getElem? hq)), (ra2.set hq).congr fun u _ => ?_⟩
        rw [rowS_succ hp]
        by_cases hu : u = p.1
        · rw [if_pos hu, if_pos hu, hu]
        · rw [if_neg hu, if_neg hu]
      · rintro σ H2 ⟨x5, x6, rfl, s2, ra2⟩
        rw [tl] at ra2
        exact hd _ _ H2 s2 (ra2.congr fun u _ => rowS_all ar u)

    have fin : ∀ D : Ends, (∀ x5 x6 H2, Same H H2 → RowsAt H2 r rp (fun u => (rowT ar u).map nV) → D.nx [some (nV n), some (.ref t), some (nV st0), some (.ref r), none, x5, x6, none, none] H2) → iSeq K (tVar 1) [some (nV n), some (.ref t), some (nV st0), some (.ref r), none, none, none, none, none] H1
        (fun J H2 => FoB (gTup K 2 (gCons (gName 5) (gCons (gName 6) gNil))) (tDrop (tBM K "list" rAppend (tOp (rIxL K) (tVar 3) (tVar 5)) (tCons (tVar 6) tNil))) D [some (nV n), some (.ref t), some (nV st0), some (.ref r), none, none, none, none, none] J H2) := by
      intro D hd
      rcases ht with ht | ht
      · exact e_seqL (by walk_at "v") (Same.seq s1 ht) (turn walk_list (fun H' e => Same.seq e ht) D hd)
      · exact e_seqT (by walk_at "v") (Same.seqT s1 ht) (turn walk_tup (fun H' e => Same.seqT e ht) D hd)
    refine fin _ fun x5 x6 H2 s2 ra2 => ?_

    walk_at "q"
    apply s_setE
    apply e_fill (n := n) hn (by walk_at "v") (fun _ _ => by walk_at "v")
    intro H3 se s23 nse hse
    dsimp only
    have s3 : Same H H3 := s2.trans s23
    have ra3 := ra2.same s23
    have ser : se ≠ r := Ne.symm (ne_of_none ra2.lst nse)
    have serp : se ∉ rp := fun z => by
      obtain ⟨i, hi⟩ := List.mem_iff_getElem?.mp z
      have := ra2.row i se hi
      rw [nse] at this
      cases this
    have nse0 : H se = none := s2.free nse
    walk_at "q"
    apply s_setL
    · walk_at "v"
    · walk_at "v"
    · walk_at "v"
    · exact hse
    · rw [List.length_replicate]
      exact ixN_lt hst
    have s4 := Same.mut (o := .lst ((List.replicate n (V.bl false)).set st0 (.bl true))) s3 nse0
    have ra4 := ra3.mut (o := .lst ((List.replicate n (V.bl false)).set st0 (.bl true))) ser serp
    have hse4 : upd H3 se (.lst ((List.replicate n (V.bl false)).set st0 (.bl true))) se = some (.lst (((List.replicate n false).set st0 true).map V.bl)) := by rw [upd_same, List.map_set, List.map_replicate]
    generalize upd H3 se (.lst ((List.replicate n (V.bl false)).set st0 (.bl true))) = H4 at s4 ra4 hse4 ⊢
    walk_at "n"
    intro wa nwa
    dsimp only
    have s5 := s4.trans (same_new (o := .lst [nV st0]) nwa)
    have ra5 := ra4.same (same_new (o := .lst [nV st0]) nwa)
    have waw : wa ≠ se := Ne.symm (ne_of_none hse4 nwa)
    have war : wa ≠ r := Ne.symm (ne_of_none ra4.lst nwa)
    have warp : wa ∉ rp := fun z => by
      obtain ⟨i, hi⟩ := List.mem_iff_getElem?.mp z
      have := ra4.row i wa hi
      rw [nwa] at this
      cases this
    have nwa0 : H wa = none := s4.free nwa
    have I0 : DI n ar st0 ((List.replicate n false).set st0 true) [st0] 0 (rowT ar 0) := by
      have hl : st0 < (List.replicate n false).length := by rw [List.length_replicate]; exact hst
      have only : ∀ x : Nat, ((List.replicate n false).set st0 true)[x]? = some true → x = st0 := fun x hx => by
        by_cases e : st0 = x
        · exact e.symm
        · rw [List.getElem?_set_ne e, List.getElem?_replicate] at hx
          split at hx <;> cases hx
      refine ⟨by rw [List.length_set, List.length_replicate], List.getElem?_set_self hl, fun x hx => ?_, fun x hx => ?_, fun x hx => ?_⟩
      · rw [only x hx]
        exact .refl
      · rw [List.mem_singleton.mp hx]
        exact List.getElem?_set_self hl
      · rw [only x hx]
        exact .inl List.mem_cons_self
    have hm0 : 2 * unseen ((List.replicate n false).set st0 true) + [st0].length ≤ 2 * n + 1 := by
      have h1 := unseen_set (List.replicate n false) st0 (by rw [List.getElem?_replicate, if_pos hst])
      rw [unseen_rep] at h1
      simp only [List.length_cons, List.length_nil]
      omega
    walk_at "q"
    refine s_while (fun m σ H6 => ∃ sv st u x5 x6, m = 2 * unseen sv + st.length ∧ σ = [some (nV n), some (.ref t), some (nV st0), some (.ref r), none, x5, x6, some (.ref se), some (.ref wa)] ∧ Same H H6 ∧ RowsAt H6 r rp (fun u => (rowT ar u).map nV) ∧ H6 se = some (.lst (sv.map V.bl)) ∧ H6 wa = some (.lst (st.map nV)) ∧
      DI n ar st0 sv st u (rowT ar u) ∧ 2 * unseen sv + st.length ≤ 2 * n + 1) _ ⟨_, [st0], 0, x5, x6, rfl, rfl, s5, ra5, by rw [upd_ne (Ne.symm waw)]; exact hse4, by rw [upd_same]; rfl, I0, hm0⟩ ?_
    rintro m σ H6 ⟨sv, st, u, x5, x6, rfl, rfl, s6, ra6, hse6, hwa6, I, hmn⟩
    have hSw : SqL K H6 wa (st.map nV) := SqL.of hwa6
    refine ⟨_, an_list (by walk_at "v") hSw, fun hb => ?_, fun hb => ?_⟩
    · have hne : st ≠ [] := fun e => by rw [e] at hb; cases hb
      obtain ⟨st', x, rfl⟩ : ∃ st' x, st = st' ++ [x] := ⟨st.dropLast, st.getLast hne, (List.dropLast_concat_getLast hne).symm⟩
      walk_at "q"
      apply s_setE
      apply e_pop (by walk_at "v") hwa6 (y := nV x)
      · rw [List.length_map, List.map_append, List.getElem?_append_right (by simp)]
        simp
      have edl : ((st' ++ [x]).map nV).dropLast = st'.map nV := by rw [List.map_append]; exact List.dropLast_concat
      rw [edl]
      have s7 := Same.mut (o := .lst (st'.map nV)) s6 nwa0
      have ra7 := ra6.mut (o := .lst (st'.map nV)) war warp
      have hse7 : upd H6 wa (.lst (st'.map nV)) se = some (.lst (sv.map V.bl)) := by rw [upd_ne (Ne.symm waw)]; exact hse6
      have hwa7 : upd H6 wa (.lst (st'.map nV)) wa = some (.lst (st'.map nV)) := upd_same
      generalize upd H6 wa (.lst (st'.map nV)) = H7 at s7 ra7 hse7 hwa7 ⊢
      dsimp only
      have J := I.pop
      have hxs := J.sub
      have hx0 : sv[x]? = some true := I.stk x (List.mem_append_right _ List.mem_cons_self)
      have hxn : x < n := by rw [← I.len]; exact (List.getElem?_eq_some_iff.mp hx0).1
      obtain ⟨q, hq⟩ : ∃ q, rp[x]? = some q := ⟨rp[x]'(by omega), List.getElem?_eq_getElem (by omega)⟩
      have hqm := List.mem_of_getElem? hq
      apply s_for
      have hR7 : SqL K H7 r (rp.map V.ref) := SqL.of ra7.lst
      have hatq : atI (rp.map V.ref) (x : Int) = some (.ref q) := atI_nat (map_get hq)
      refine e_itL (by walk_at "v") (SqL.of (ra7.row x q hq)) ?_
      refine for_w walk_list (fun i σ H8 => ∃ sv8 st8 x6, σ = [some (nV n), some (.ref t), some (nV st0), some (.ref r), none, some (nV x), x6, some (.ref se), some (.ref wa)] ∧ Same H H8 ∧ RowsAt H8 r rp (fun u => (rowT ar u).map nV) ∧ H8 se = some (.lst (sv8.map V.bl)) ∧ H8 wa = some (.lst (st8.map nV)) ∧
        sv8[x]? = some true ∧ 2 * unseen sv8 + st8.length ≤ 2 * unseen sv + st'.length ∧ DI n ar st0 sv8 st8 x ((rowT ar x).take i))
        ⟨sv, st', x6, rfl, s7, ra7, hse7, hwa7, hx0, Nat.le_refl _, J⟩ (fun i σ H8 _ ⟨_, _, _, _, _, ra8, _⟩ => SqL.of (ra8.row x q hq)) ?_ ?_
      · rintro i z σ _ H8 hi ⟨sv8, st8, x6, rfl, s8, ra8, hse8, hwa8, hx8, hms, I8⟩ ⟨rfl, hz⟩
        obtain ⟨y, hy, rfl⟩ := get_of_map hz
        have hedge := mem_rowT.mp (List.mem_of_getElem? hy)
        have hyn := (va _ hedge).2
        obtain ⟨by8, hby⟩ : ∃ b, sv8[y]? = some b := ⟨sv8[y]'(by rw [I8.len]; exact hyn), List.getElem?_eq_getElem _⟩
        have hS8 : SqL K H8 se (sv8.map V.bl) := SqL.of hse8
        have hat8 : atI (sv8.map V.bl) (y : Int) = some (.bl by8) := atI_nat (map_get hby)
        have etk : (rowT ar x).take (i + 1) = (rowT ar x).take i ++ [y] := by
          rw [List.take_add_one, hy]
          rfl
        have st8n : st8.length ≤ 6000 := by
          rw [List.length_append] at hmn
          omega
        show tIfS _ _ _ _ _ _
        apply s_if
        · walk_at "t"
        · intro hb2
          have hbf : by8 = false := by
            cases by8 with
            | true => cases hb2
            | false => rfl
          subst hbf
          have I9 := I8.see hx8 hedge hby
          have hun := unseen_set sv8 y hby
          walk_at "q"
          apply s_setL
          · walk_at "v"
          · walk_at "v"
          · walk_at "v"
          · exact hse8
          · rw [List.length_map, I8.len]
            exact ixN_lt hyn
          dsimp only
          have hwa9 : upd H8 se (.lst ((sv8.map V.bl).set y (.bl true))) wa = some (.lst (st8.map nV)) := by rw [upd_ne waw]; exact hwa8
          apply s_app
          · walk_at "v"
          · walk_at "v"
          · exact hwa9
          · rw [List.length_map, sizeLine_eq]
            omega
          refine ⟨sv8.set y true, st8 ++ [y], _, rfl, Same.mut (Same.mut s8 nse0) nwa0, (ra8.mut ser serp).mut war warp, ?_, ?_, ?_, ?_, by rw [etk]; exact I9⟩
          · rw [upd_ne (Ne.symm waw), upd_same, List.map_set]
          · rw [upd_same, List.map_append]
            rfl
          · by_cases e : y = x
            · subst e
              exact List.getElem?_set_self (by rw [I8.len]; exact hyn)
            · rw [List.getElem?_set_ne e]
              exact hx8
          · rw [List.length_append]
            simp only [List.length_cons, List.length_nil]
            omega
        · intro hb2
          have hbt : by8 = true := by
            cases by8 with
            | true => rfl
            | false => cases hb2
          subst hbt
          exact ⟨sv8, st8, _, rfl, s8, ra8, hse8, hwa8, hx8, hms, by rw [etk]; exact I8.pass hby⟩
      · rintro σ H8 ⟨sv8, st8, x6, rfl, s8, ra8, hse8, hwa8, hx8, hms, I8⟩
        rw [List.length_map, List.take_length] at I8
        refine ⟨2 * unseen sv8 + st8.length, ?_, sv8, st8, x, _, _, rfl, rfl, s8, ra8, hse8, hwa8, I8, ?_⟩
        all_goals rw [List.length_append] at hmn
        all_goals try rw [List.length_append]
        all_goals simp only [List.length_cons, List.length_nil] at hmn
        all_goals try simp only [List.length_cons, List.length_nil]
        all_goals omega
    · have hst0 : st = [] := by
        cases st with
        | nil => rfl
        | cons a b => cases hb
      subst hst0
      dsimp only

      apply s_retE
      apply e_cb1
      apply e_lc
      refine e_rngN (n := n) (by walk_at "a") (by omega) ?_
      refine lc_pW walk_rangeN (fun i => if (sv.getD i false) = true then some (nV i) else none) (by rw [sizeLine_eq]; omega) (fun _ _ => trivial) ?_ ?_ gm_name
      · rintro i x _ H7 hi e ⟨rfl, rfl⟩
        have hS : SqL K H7 se (sv.map V.bl) := SqL.of (e _ _ hse6)
        have hil : i < sv.length := by rw [I.len]; exact hi
        have hat : atI (sv.map V.bl) (i : Int) = some (.bl (sv.getD i false)) := atI_nat (map_get (by rw [List.getD_eq_getElem?_getD, List.getElem?_eq_getElem hil]; rfl))
        exact ⟨Same.refl _, rfl, _, by walk_at "t", fun hb => ⟨_, by walk_at "v", by rw [if_pos hb]⟩, fun hb => by rw [if_neg (by rw [hb]; decide)]⟩
      · intro D H7 nD s67 hD
        rw [fm_filter] at hD
        refine ⟨D, _, rfl, .inl ⟨SqL.of hD, fun p np => ?_⟩⟩
        have s7 := s6.trans s67
        refine k _ p _ (s7.trans (same_new np)) (s7.free np) upd_same ?_
        have L := lot_filter n (fun i => sv.getD i false)
        refine ⟨L.1, fun x => ?_⟩
        rw [L.2]
        constructor
        · rintro ⟨h1, h2⟩
          refine ⟨h1, (I.reach x).mp ?_⟩
          have hil : x < sv.length := by rw [I.len]; exact h1
          rw [List.getD_eq_getElem?_getD, List.getElem?_eq_getElem hil] at h2
          rw [List.getElem?_eq_getElem hil]
          exact congrArg some h2
        · rintro ⟨h1, h2⟩
          have := (I.reach x).mpr h2
          exact ⟨h1, by rw [List.getD_eq_getElem?_getD, this]; rfl⟩
end
end E1

namespace E1
open PySem L2
theorem inV_nats (x : Nat) (xs : List Nat) : inV (nV x) (xs.map nV) = decide (x ∈ xs) := by
  unfold inV
  rw [List.any_map]
  rw [Bool.eq_iff_iff, List.any_eq_true, decide_eq_true_iff]
  constructor
  · rintro ⟨y, hy, e⟩
    have : (y : Int) = (x : Int) := by
      have e' : ((y : Int) == (x : Int)) = true := e
      exact beq_iff_eq.mp e'
    have : y = x := by omega
    rw [← this]
    exact hy
  · intro h
    exact ⟨x, h, (show ((x : Int) == (x : Int)) = true from beq_iff_eq.mpr rfl)⟩
theorem flat_nats (xs : List Nat) : (xs.map nV).all flatV = true := by
  rw [List.all_map, List.all_eq_true]
  intro x _
  rfl
section
variable {σ : L2.St} {H : Hp} {K : PySem.W.Frag} {ta tb : TE} {x : Nat} {xs : List Nat} {p : Addr}
theorem vl_inN (ha : Vl ta σ H (nV x)) (hb : Vl tb σ H (.ref p)) (h : SqL K H p (xs.map nV) ∨ SqT K H p (xs.map nV)) : Vl (tOp (rIn K false) ta tb) σ H (.bl (decide (x ∈ xs))) :=
  vl_op ha hb fun Q q => ⟨p, _, rfl, h, rfl, flat_nats xs, by rw [inV_nats]; exact q⟩
theorem vl_notInN (ha : Vl ta σ H (nV x)) (hb : Vl tb σ H (.ref p)) (h : SqL K H p (xs.map nV) ∨ SqT K H p (xs.map nV)) : Vl (tOp (rIn K true) ta tb) σ H (.bl (!decide (x ∈ xs))) :=
  vl_op ha hb fun Q q => ⟨p, _, rfl, h, rfl, flat_nats xs, by rw [inV_nats]; exact q⟩
end
theorem sorted_lot {fo : List Nat} {ns : List Int} {P : Nat → Prop} (nd : fo.Nodup) (hP : ∀ x, x ∈ fo ↔ P x) (pm : ns.Perm (fo.map fun (k : Nat) => (k : Int))) (so : ns.Pairwise (· ≤ ·)) : ∃ xs : List Nat, ns.map V.int = xs.map nV ∧ Lot xs P := by
  have pm' : (ns.map V.int).Perm (fo.map nV) := by
    have := pm.map V.int
    rw [List.map_map] at this
    exact this
  obtain ⟨xs, pm2, e⟩ := perm_nats pm'
  have e2 : ns = xs.map fun (k : Nat) => (k : Int) := by
    have : ns.map V.int = (xs.map fun (k : Nat) => (k : Int)).map V.int := by
      rw [List.map_map]
      exact e
    exact List.map_inj_right (fun a b h => V.int.inj h) |>.mp this
  refine ⟨xs, e, ?_, fun x => by rw [pm2.mem_iff, hP]⟩
  rw [e2, List.pairwise_map] at so
  have nd2 : xs.Nodup := pm2.nodup_iff.mpr nd
  refine List.Pairwise.imp₂ (fun a b h1 h2 => ?_) so nd2
  have : a ≠ b := h2
  omega

structure LotsAt (H : Hp) (lo : Addr) (n : Nat) (ar : List (Nat × Nat)) (L : Nat → List Nat) (lp : List Addr) : Prop where
  lst : H lo = some (.lst (lp.map V.ref))
  len : lp.length = n
  tup : ∀ (i : Nat) (q : Addr), lp[i]? = some q → H q = some (.tup ((L i).map nV))
  lot : ∀ i < n, Lot (L i) (fun x => x < n ∧ Rc ar i x)
theorem LotsAt.same {H H' : Hp} {lo : Addr} {n : Nat} {ar : List (Nat × Nat)} {L : Nat → List Nat} {lp : List Addr} (a : LotsAt H lo n ar L lp) (e : Same H H') : LotsAt H' lo n ar L lp :=
  ⟨e _ _ a.lst, a.len, fun i q h => e _ _ (a.tup i q h), a.lot⟩
def Rank (ar : List (Nat × Nat)) : Prop := ∃ r : Nat → Nat, ∀ p ∈ ar, r p.1 < r p.2
structure Sit (K : PySem.W.Frag) (C : Addr) (H : Hp) (we tu lo : Addr) (n : Nat) (ar : List (Nat × Nat)) (L : Nat → List Nat) (lp : List Addr) : Prop where
  we : WebAt K C H we n ar
  tu : WebAt K C H tu n (swapA ar)
  lo : LotsAt H lo n ar L lp
  va : Valid n ar
  rk : Rank ar
  hn : n ≤ 1000
  hm : ar.length ≤ 1000
theorem Sit.same {K : PySem.W.Frag} {C : Addr} {H H' : Hp} {we tu lo : Addr} {n : Nat} {ar : List (Nat × Nat)} {L : Nat → List Nat} {lp : List Addr} (s : Sit K C H we tu lo n ar L lp) (e : Same H H') : Sit K C H' we tu lo n ar L lp :=
  ⟨s.we.same e, s.tu.same e, s.lo.same e, s.va, s.rk, s.hn, s.hm⟩
theorem WebAt.ch {K : PySem.W.Frag} {C h : Addr} {H H' : Hp} {xs : List V} {a : Addr} {n : Nat} {ar : List (Nat × Nat)} (w : WebAt K C H a n ar) (e : Ch h H H') (hh : H h = some (.lst xs)) : WebAt K C H' a n ar := by
  obtain ⟨dx, t, ts, h1, h2, h3⟩ := w
  refine ⟨dx, t, ts, e _ _ (ne_of h1 hh (fun z => nomatch z)) h1, ?_, h3.keep (e.tp hh)⟩
  rcases h2 with (h | ⟨o, h⟩) | h
  · exact .inl (.inl (e.tp hh _ _ h))
  · exact .inl (.inr ⟨o, e _ _ (ne_of h hh (fun z => nomatch z)) h⟩)
  · exact .inr h
theorem LotsAt.ch {h : Addr} {H H' : Hp} {xs : List V} {lo : Addr} {n : Nat} {ar : List (Nat × Nat)} {L : Nat → List Nat} {lp : List Addr} (a : LotsAt H lo n ar L lp) (e : Ch h H H') (hh : H h = some (.lst xs)) (hl : lo ≠ h) : LotsAt H' lo n ar L lp :=
  ⟨e _ _ hl a.lst, a.len, fun i q z => e.tp hh _ _ (a.tup i q z), a.lot⟩
theorem Sit.ch {K : PySem.W.Frag} {C h : Addr} {H H' : Hp} {xs : List V} {we tu lo : Addr} {n : Nat} {ar : List (Nat × Nat)} {L : Nat → List Nat} {lp : List Addr} (s : Sit K C H we tu lo n ar L lp) (e : Ch h H H') (hh : H h = some (.lst xs)) (hl : lo ≠ h) : Sit K C H' we tu lo n ar L lp :=
  ⟨s.we.ch e hh, s.tu.ch e hh, s.lo.ch e hh hl, s.va, s.rk, s.hn, s.hm⟩
def spIs2 (K : PySem.W.Frag) : Sp := fun vs H Q _ => ∃ x y, vs = [x, y] ∧ EqD K H 1 x y ∧ ∀ H', Same H H' → Q (.bl true) H'
theorem fm_list (xs : List Nat) (p : Nat → Bool) : (List.range xs.length).filterMap (fun i => if p (xs.getD i 0) = true then some (nV (xs.getD i 0)) else none) = (xs.filter p).map nV := by
  have h : ∀ m, m ≤ xs.length → (List.range m).filterMap (fun i => if p (xs.getD i 0) = true then some (nV (xs.getD i 0)) else none) = ((xs.take m).filter p).map nV := by
    intro m
    induction m with
    | zero => intro _; rfl
    | succ m ih =>
      intro hm
      have e : xs[m]? = some (xs.getD m 0) := by
        rw [List.getD_eq_getElem?_getD, List.getElem?_eq_getElem (by omega)]
        rfl
      rw [List.range_succ, List.filterMap_append, ih (by omega), filter_snoc e, List.map_append]
      congr 1
      by_cases h : p (xs.getD m 0) = true
      · rw [if_pos h, List.filterMap_cons_some (f := fun i => if p (xs.getD i 0) = true then some (nV (xs.getD i 0)) else none) (if_pos h)]
        rfl
      · rw [if_neg h, List.filterMap_cons_none (f := fun i => if p (xs.getD i 0) = true then some (nV (xs.getD i 0)) else none) (if_neg h)]
        rfl
  rw [h xs.length (Nat.le_refl _), List.take_length]
theorem lot_one (p : Nat) : Lot [p] (fun x => x = p) := ⟨List.pairwise_singleton _ _, fun x => List.mem_singleton⟩
section
variable {σ : L2.St} {H : Hp} {te : TE} {ta : TA} {g : TG} {D : Ends} {vs : List V} {Q : VK} {sp : Sp} {dvs : List V} {E : XK} {C : Addr}
theorem s_asgE (h : te σ H fun x H1 => g x σ H1 D.nx) : tAsg te g D σ H := h
theorem e_make (h : Ar ta σ H vs) (q : ∀ x dx, H x = none → H dx = none → dx ≠ x → sp (.ref x :: (vs ++ dvs)) (upd (upd H dx (.own x)) x (.ins C dx [])) (fun v H2 => v = .non ∧ Q (.ref x) H2) E) : tMake C sp dvs E ta σ H Q := h.run _ q
theorem e_tupE (h : ta σ H fun xs H1 => xs.length ≤ sizeLine ∧ ∀ p, H1 p = none → Q (.ref p) (upd H1 p (.tup xs))) : tTup ta σ H Q := h
end
theorem PairsAt.append {H : Hp} {ts us : List V} {ar br : List (Nat × Nat)} (a : PairsAt H ts ar) (b : PairsAt H us br) : PairsAt H (ts ++ us) (ar ++ br) := by
  refine ⟨by rw [List.length_append, List.length_append, a.1, b.1], fun i p hp => ?_⟩
  by_cases hi : i < ar.length
  · rw [List.getElem?_append_left hi] at hp
    rw [List.getElem?_append_left (by rw [a.1]; exact hi)]
    exact a.2 i p hp
  · rw [List.getElem?_append_right (by omega)] at hp
    rw [List.getElem?_append_right (by rw [a.1]; omega), a.1]
    exact b.2 _ p hp
theorem Valid.append {n : Nat} {ar br : List (Nat × Nat)} (a : Valid n ar) (b : Valid n br) : Valid n (ar ++ br) := fun p hp => (List.mem_append.mp hp).elim (a p) (b p)
theorem HandAt_dummy : True := trivial
end E1

namespace E1
open PySem L2
local macro_rules | `(tactic| walk_at "ne") => `(tactic| first | assumption | exact Ne.symm (by assumption) | exact ne_of_none (by walk_at "h") (by assumption) | exact Ne.symm (ne_of_none (by walk_at "h") (by assumption)))
local macro_rules | `(tactic| walk_at "h") => `(tactic| first | assumption | exact upd_same | (rw [upd_ne (by walk_at "ne")]; walk_at "h"))
local macro_rules | `(tactic| walk_at "sq") => `(tactic| first | assumption | exact SqL.of (by walk_at "h") | exact SqT.of (by walk_at "h") | exact .inl (SqL.of (by walk_at "h")) | exact .inr (SqT.of (by walk_at "h")) | exact .inl (by assumption) | exact .inr (by assumption))
local macro_rules | `(tactic| walk_at "at") => `(tactic| first | assumption | exact rfl | exact atI_last _ _ | exact atI_nats (by assumption))
local macro_rules | `(tactic| walk_at "c") => `(tactic| first | assumption | decide | omega | exact ⟨by omega, by omega⟩ | exact .inr ⟨by decide, by decide⟩ | exact .inl ⟨by decide, by decide⟩ | exact .inl ⟨by omega, by omega⟩ | exact ⟨by decide, by decide, by decide⟩)
local macro_rules | `(tactic| walk_at "cl") => `(tactic| first | exact ClsV.ty _ | exact ClsV.own _)
local macro_rules | `(tactic| walk_at "ty") => `(tactic| first | assumption | exact ty_T (by assumption) | exact ty_L (by assumption) | exact ty_flat (by assumption) | exact .base (.int _) | exact .base .non | exact .base (.bl _) | exact .base (.str _))
local macro_rules | `(tactic| walk_at "kt") => `(tactic| first | assumption | exact int_int | exact int_bool | exact tuple_tuple | exact list_tuple | exact tuple_int | exact bool_flat (by assumption) | exact int_flat (by assumption) | exact tuple_flat (by assumption))
local macro_rules | `(tactic| walk_at "v") => `(tactic| first
  | exact vl_var rfl
  | exact vl_c
  | (apply vl_add; walk_at "v"; walk_at "v")
  | (apply vl_sub; walk_at "v"; walk_at "v")
  | (apply vl_mul; walk_at "v"; walk_at "v"; walk_at "c")
  | (apply vl_mod; walk_at "v"; walk_at "v"; walk_at "c")
  | (apply vl_fdiv; walk_at "v"; walk_at "v"; walk_at "c")
  | (apply vl_pow; walk_at "v"; walk_at "v"; walk_at "c")
  | (apply vl_ixL; walk_at "v"; walk_at "v"; walk_at "sq"; walk_at "at")
  | (apply vl_ixT; walk_at "v"; walk_at "v"; walk_at "sq"; walk_at "at")
  | (apply vl_len; walk_at "v"; walk_at "sq")
  | (apply vl_int; walk_at "v")
  | (apply vl_abs; walk_at "v")
  | (apply vl_min2; walk_at "v"; walk_at "v")
  | (apply vl_max2; walk_at "v"; walk_at "v")
  | (apply vl_neg; walk_at "v")
  | (apply vl_eqI; walk_at "v"; walk_at "v")
  | (apply vl_neI; walk_at "v"; walk_at "v")
  | (apply vl_lt; walk_at "v"; walk_at "v")
  | (apply vl_le; walk_at "v"; walk_at "v")
  | (apply vl_gt; walk_at "v"; walk_at "v")
  | (apply vl_ge; walk_at "v"; walk_at "v")
  | (apply vl_eqB; walk_at "v"; walk_at "v")
  | (apply vl_neB; walk_at "v"; walk_at "v")
  | (apply vl_eqS; walk_at "v"; walk_at "v"; assumption)
  | (apply vl_chain; walk_at "v"; walk_at "v"; walk_at "v")
  | (apply vl_ifI; walk_at "t"; (intro _; walk_at "v"); (intro _; walk_at "v"))
  | (apply vl_isi; walk_at "v"; walk_at "v"; walk_at "cl"; walk_at "ty"; walk_at "kt")
  | (apply vl_fld; walk_at "v"; walk_at "h"; assumption; assumption; first | exact wf_places _ _ | exact wf_arrows _ _)
  | (apply vl_inN; walk_at "v"; walk_at "v"; walk_at "sq")
  | (apply vl_notInN; walk_at "v"; walk_at "v"; walk_at "sq")
  | (apply vl_not; walk_at "v")
  | (apply vl_andL; walk_at "v"; intro _; walk_at "v")
  | (apply vl_orL; walk_at "v"; intro _; walk_at "v"))
local macro_rules | `(tactic| walk_at "t") => `(tactic| first
  | (apply an_and; walk_at "t"; intro _; walk_at "t")
  | (apply an_or; walk_at "t"; intro _; walk_at "t")
  | (apply an_not; walk_at "t")
  | (apply an_of; walk_at "v")
  | (apply an_val; walk_at "v"))
local macro_rules | `(tactic| walk_at "a") => `(tactic| first | exact ar_nil | (apply ar_cons; walk_at "v"; walk_at "a"))
local macro_rules | `(tactic| walk_at "n1") => `(tactic| first
  | (apply s_set; walk_at "v")
  | (apply s_setL; walk_at "v"; walk_at "v"; walk_at "v"; walk_at "h"; walk_at "at")
  | (apply s_augI; exact rfl; walk_at "v")
  | (apply s_app; walk_at "v"; walk_at "v"; walk_at "h"; walk_at "c")
  | (apply s_ret; walk_at "v")
  | (apply s_retL; walk_at "a"; walk_at "z")
  | (apply s_retT; walk_at "a"; walk_at "z")
  | (apply s_setNL; walk_at "a"; walk_at "z")
  | (apply s_setNT; walk_at "a"; walk_at "z")
  | (apply s_if; walk_at "t"))
local macro_rules | `(tactic| walk_at "n") => `(tactic| ((try dsimp only); (try (with_reducible apply st_next; try dsimp only)); first | (apply st_seq; walk_at "n1") | walk_at "n1"))
local macro_rules | `(tactic| walk_at "z") => `(tactic| (simp only [List.length_cons, List.length_nil]; omega))
local macro_rules | `(tactic| walk_at "q") => `(tactic| ((try dsimp only); apply st_seq))

section
variable {P : Program} {w : World} {K : PySem.W.Frag} {mg : Str → Option Value} {base : Heap}
theorem rWhole_yes {u n : Nat} (h : u < n) : rWhole (nV u) (n : Int) = true := by
  show (decide (0 ≤ (u : Int)) && decide ((u : Int) < (n : Int))) = true
  rw [decide_eq_true (by omega), decide_eq_true (by omega)]
  rfl
def spArrow (K : PySem.W.Frag) : Sp := fun vs H Q _ => ∃ (n u v : Nat) (t : Addr), vs = [nV n, .ref t] ∧ SqT K H t [nV u, nV v] ∧ u < n ∧ v < n ∧ u ≠ v ∧ Q (.bl true) H
abbrev s__is_arrow : Stmt := top 14
abbrev N__is_arrow : List Str := ["places", "thing", "begin", "end"]
theorem sc__is_arrow : FnScope N__is_arrow ["places", "thing"] (defScope s__is_arrow) := ⟨rfl, rfl, rfl, by decide +kernel, rfl, by decide +kernel, by decide +kernel⟩

theorem ok__is_arrow {f fW : Addr} {fd fdW : FuncData} (F : Fun K "_is_arrow" "_is_arrow" s__is_arrow f fd) (T : Bi mg) (D_whole_below : Dn K mg "whole_below" s_whole_below ["thing", "limit"] fW fdW) : FnOk P w K mg base CX0 2 f fd ["places", "thing"] (spArrow K) := by
  have nd := sc__is_arrow.nd
  have G_whole_below : FnOk P w K mg base CX0 1 fW fdW ["thing", "limit"] (spWhole K) := ok_whole_below D_whole_below.F T
  refine F.ok sc__is_arrow (fun vs H Q E h => ?_) (fun cdv A outer s H vs Q E hr h => ?_)
  · obtain ⟨n, u, v, t, rfl, _⟩ := h
    rfl
  · obtain ⟨n, u, v, t, rfl, ht, hu, hv, huv, k⟩ := h
    refine ⟨_, (pss_cons
 (ps_if (PW.pt (pw_or (pt_not (pt_val (pe_callB call_isi (by rfl) T.m_isinstance (by decide +kernel) (pa_cons (pv 1) (pa_cons (pe_bltn (v := .ty "tuple") (by rfl) T.m_tuple (by decide +kernel) rfl) pa_nil))))) (pw_or1 (pt_cmpR op_ne (pe_callB call_len_seq (by rfl) T.m_len (by decide +kernel) (pa_cons (pv 1) pa_nil)) pe_int (nomark _))))) (pss_one
 (ps_ret pe_bl)) pss_nil)
(pss_cons
 (ps_asg (pv 1) (pg_tup (by rfl) (pgs_cons (pg_name (i := 2) nd rfl (Or.inl rfl)) (pgs_cons (pg_name (i := 3) nd rfl (Or.inl rfl)) pgs_nil))))
(pss_one
 (ps_ret (pe_and (pe_call G_whole_below (hr.mono (by decide)) (by rfl) D_whole_below.g D_whole_below.F.kp D_whole_below.b .nil pass0 (pa_cons (pv 2) (pa_cons (pv 0) pa_nil))) (pe_and (pe_call G_whole_below (hr.mono (by decide)) (by rfl) D_whole_below.g D_whole_below.F.kp D_whole_below.b .nil pass0 (pa_cons (pv 3) (pa_cons (pv 0) pa_nil))) (pe_one (pe_cmpR op_ne (pv 2) (pv 3) (nomark _))))))))), ?_⟩
    walk_at "n"
    · intro hb
      cases hb
    intro _
    dsimp only
    apply st_next
    walk_at "q"
    refine ⟨_, rfl, ?_⟩
    refine g_two ht ?_
    dsimp only
    apply s_retE
    refine e_call (by walk_at "a") ⟨nV u, n, _, rfl, .base (.int _), int_int, int_bool, ?_⟩
    rw [rWhole_yes hu]
    refine ⟨_, rfl, iteT ?_⟩
    refine e_call (by walk_at "a") ⟨nV v, n, _, rfl, .base (.int _), int_int, int_bool, ?_⟩
    rw [rWhole_yes hv]
    refine ⟨_, rfl, iteT ?_⟩
    refine Vl.run (v := .bl true) ?_ _ k
    have e : (!decide ((u : Int) = (v : Int))) = true := by
      rw [decide_eq_false (by omega)]
      rfl
    rw [← e]
    walk_at "v"

structure Wb (K : PySem.W.Frag) (mg : Str → Option Value) (C f : Addr) (fd : FuncData) : Prop where
  cl : Cls K C
  nP : NoAttr K C "places"
  nA : NoAttr K C "arrows"
  g : mg "Web" = some (.ref C)
  M : Mk K C f
  F : Fun K "__init__" "Web.__init__" (inClass (top 13) 0) f fd
  b : Binds K fd ["self", "places", "arrows"] []
  c1 : ∃ t, mg "MOST_PLACES" = some (.int 60 t)
  c2 : ∃ t, mg "MOST_ARROWS" = some (.int 400 t)
def spNeed (K : PySem.W.Frag) (C : Addr) : Sp := fun vs H Q _ => ∃ (a : Addr) (n p : Nat) (ar : List (Nat × Nat)), vs = [.ref a, nV p] ∧ WebAt K C H a n ar ∧ p < n ∧ Q .non H
abbrev s_need_place : Stmt := top 6
abbrev N_need_place : List Str := ["web", "thing"]
theorem sc_need_place : FnScope N_need_place ["web", "thing"] (defScope s_need_place) := ⟨rfl, rfl, rfl, by decide +kernel, rfl, by decide +kernel, by decide +kernel⟩

theorem ok_need_place {f fW fI C : Addr} {fd fdW fdI : FuncData} (F : Fun K "need_place" "need_place" s_need_place f fd) (T : Bi mg) (B : Wb K mg C fI fdI) (D_whole_below : Dn K mg "whole_below" s_whole_below ["thing", "limit"] fW fdW) : FnOk P w K mg base CX0 2 f fd ["web", "thing"] (spNeed K C) := by
  have nd := sc_need_place.nd
  have G_whole_below : FnOk P w K mg base CX0 1 fW fdW ["thing", "limit"] (spWhole K) := ok_whole_below D_whole_below.F T
  refine F.ok sc_need_place (fun vs H Q E h => ?_) (fun cdv A outer s H vs Q E hr h => ?_)
  · obtain ⟨a, n, p, ar, rfl, _⟩ := h
    rfl
  · obtain ⟨a, n, p, ar, rfl, ⟨dx, t, ts, hw, _⟩, hp, k⟩ := h
    have hcl := B.cl
    have hnP := B.nP
    refine ⟨_, (pss_one
 (ps_if (pt_not (pt_val (pe_call G_whole_below (hr.mono (by decide)) (by rfl) D_whole_below.g D_whole_below.F.kp D_whole_below.b .nil pass0 (pa_cons (pv 1) (pa_cons (pe_fld (pv 0) rfl) pa_nil))))) (pss_one
 ps_never) pss_nil)), ?_⟩
    refine e_call (by walk_at "a") ⟨nV p, n, _, rfl, .base (.int _), int_int, int_bool, ?_⟩
    rw [rWhole_yes hp]
    exact ⟨_, rfl, iteF k⟩
def spInit (K : PySem.W.Frag) (C : Addr) : Sp := fun vs H Q _ => ∃ (x dx t : Addr) (n : Nat) (ts : List V) (ar : List (Nat × Nat)), vs = [.ref x, nV n, .ref t] ∧ H x = some (.ins C dx []) ∧ SqT K H t ts ∧ PairsAt H ts ar ∧ Valid n ar ∧ 1 ≤ n ∧ n ≤ 60 ∧ ar.length ≤ 400 ∧ Rank ar ∧
  ∀ H' : Hp, H' x = some (.ins C dx (wf n t)) → (∀ b o, b ≠ x → H b = some o → H' b = some o) → Q .non H'
abbrev s_Web___init__ : Stmt := inClass (top 13) 0
abbrev N_Web___init__ : List Str := ["self", "places", "arrows", "at", "item"]
theorem sc_Web___init__ : FnScope N_Web___init__ ["self", "places", "arrows"] (defScope s_Web___init__) := ⟨rfl, rfl, rfl, by decide +kernel, rfl, by decide +kernel, by decide +kernel⟩

theorem ok_init {fW fA fR fO fI C : Addr} {fdW fdA fdR fdO fdI : FuncData} (T : Bi mg) (B : Wb K mg C fI fdI) (D_whole_below : Dn K mg "whole_below" s_whole_below ["thing", "limit"] fW fdW) (D__is_arrow : Dn K mg "_is_arrow" s__is_arrow ["places", "thing"] fA fdA)
    (D_arrows_from : Dn K mg "arrows_from" s_arrows_from ["places", "arrows"] fR fdR) (D_onward_order : Dn K mg "onward_order" s_onward_order ["places", "arrows"] fO fdO) : FnOk P w K mg base CX0 3 fI fdI ["self", "places", "arrows"] (spInit K C) := by
  have nd := sc_Web___init__.nd
  have G_whole_below : FnOk P w K mg base CX0 1 fW fdW ["thing", "limit"] (spWhole K) := ok_whole_below D_whole_below.F T
  have G__is_arrow : FnOk P w K mg base CX0 2 fA fdA ["places", "thing"] (spArrow K) := ok__is_arrow D__is_arrow.F T D_whole_below
  have G_onward_order : FnOk P w K mg base CX0 2 fO fdO ["places", "arrows"] (spOrder K) := ok_onward_order D_onward_order.F T D_arrows_from
  obtain ⟨t60, c_MOST_PLACES⟩ := B.c1
  obtain ⟨t400, c_MOST_ARROWS⟩ := B.c2
  refine B.F.ok sc_Web___init__ (fun vs H Q E h => ?_) (fun cdv A outer s H vs Q E hr h => ?_)
  · obtain ⟨x, dx, t, n, ts, ar, rfl, _⟩ := h
    rfl
  · obtain ⟨x, dx, t, n, ts, ar, rfl, hx, ht, pa, va, hn1, hn2, hm, ⟨r, rk⟩, k⟩ := h
    have tl := pa.1
    refine ⟨_, (pss_cons
 (ps_if (PW.pt (pw_or (pt_not (pt_val (pe_call G_whole_below (hr.mono (by decide)) (by rfl) D_whole_below.g D_whole_below.F.kp D_whole_below.b .nil pass0 (pa_cons (pv 1) (pa_cons (pe_op op_add (pe_glob (v := .int 60) rfl c_MOST_PLACES ⟨_, rfl⟩) pe_int) pa_nil))))) (pw_or1 (pt_cmpR op_eq (pv 1) pe_int (nomark _))))) (pss_one
 ps_never) pss_nil)
(pss_cons
 (ps_if (PW.pt (pw_or (pt_not (pt_val (pe_callB call_isi (by rfl) T.m_isinstance (by decide +kernel) (pa_cons (pv 2) (pa_cons (pe_bltn (v := .ty "tuple") (by rfl) T.m_tuple (by decide +kernel) rfl) pa_nil))))) (pw_or1 (pt_cmpR op_gt (pe_callB call_len_seq (by rfl) T.m_len (by decide +kernel) (pa_cons (pv 2) pa_nil)) (pe_glob (v := .int 400) rfl c_MOST_ARROWS ⟨_, rfl⟩) (nomark _))))) (pss_one
 ps_never) pss_nil)
(pss_cons
 (ps_for PassesOwn.never rfl (pi_enumT (by rfl) T.m_enumerate (pa_cons (pv 2) pa_nil)) (pg_tup (by rfl) (pgs_cons (pg_name (i := 3) nd rfl (Or.inl rfl)) (pgs_cons (pg_name (i := 4) nd rfl (Or.inl rfl)) pgs_nil)))
(pss_one
 (ps_if (pt_not (pt_val (pe_call G__is_arrow (hr.mono (by decide)) (by rfl) D__is_arrow.g D__is_arrow.F.kp D__is_arrow.b .nil pass0 (pa_cons (pv 1) (pa_cons (pv 4) pa_nil))))) (pss_one
 ps_never) pss_nil)))
(pss_cons
 (ps_if (pt_cmpR op_lt (pe_callB call_len_seq (by rfl) T.m_len (by decide +kernel) (pa_cons (pe_call G_onward_order (hr.mono (by decide)) (by rfl) D_onward_order.g D_onward_order.F.kp D_onward_order.b .nil pass0 (pa_cons (pv 1) (pa_cons (pv 2) pa_nil))) pa_nil)) (pv 1) (nomark _)) (pss_one
 ps_never) pss_nil)
(pss_cons
 (ps_fld (pv 0) (pv 1) rfl)
(pss_one
 (ps_fld (pv 0) (pv 2) rfl))))))), ?_⟩
    walk_at "q"
    refine e_call (by walk_at "a") ⟨nV n, _, _, rfl, .base (.int _), int_int, int_bool, ?_⟩
    rw [show ((60 : Int) + 1) = ((61 : Nat) : Int) from rfl, rWhole_yes (by omega)]
    refine ⟨_, rfl, iteF ?_⟩
    refine An.run (b := false) ?_ _ (iteF ?_)
    · have e : decide ((n : Int) = 0) = false := decide_eq_false (by omega)
      rw [← e]
      walk_at "t"
    dsimp only
    apply st_next
    walk_at "n"
    · intro hb
      rw [decide_eq_false (by omega)] at hb
      cases hb
    intro _
    dsimp only
    apply st_next
    walk_at "q"
    apply s_for
    refine e_itE (by walk_at "a") ht ?_
    refine for_w walk_enumT (fun i σ H2 => ∃ x3 x4, σ = [some (.ref x), some (nV n), some (.ref t), x3, x4] ∧ Same H H2) ⟨none, none, rfl, Same.refl _⟩ (fun i σ H2 _ ⟨_, _, _, s2⟩ => Same.seqT s2 ht) ?_ ?_
    · rintro i x0 σ H2 H3 hi ⟨x3, x4, rfl, s2⟩ ⟨Tp, x1, y1, rfl, nT, rfl, hx1, hy1⟩
      cases hx1
      obtain ⟨p, tp, hp, rfl, htp⟩ := pa.at hy1
      have s3 : Same H (upd H2 Tp (.tup [nV i, .ref tp])) := s2.trans (same_new nT)
      have vp := va p (List.mem_of_getElem? hp)
      have rp := rk p (List.mem_of_getElem? hp)
      refine g_two (SqT.of upd_same) ?_
      refine e_call (by walk_at "a") ⟨n, p.1, p.2, tp, rfl, SqT.of (s3 _ _ htp), vp.1, vp.2, fun e => by rw [e] at rp; omega, ?_⟩
      exact ⟨_, rfl, iteF ⟨_, _, rfl, s3⟩⟩
    · rintro σ H2 ⟨x3, x4, rfl, s2⟩
      walk_at "q"
      refine e_call (by walk_at "a") ⟨n, t, ts, ar, rfl, Same.seqT s2 ht, pa.keep (Tp.same s2), va, by omega, by omega, fun H3 od os s3 nod hod ond olt _ omem => ?_⟩
      have hall : ∀ y, y ∈ os ↔ y < n := fun y => ⟨olt y, fun hy => order_all omem va r rk _ y (Nat.lt_succ_self _) hy⟩
      have hlen : os.length = n := by rw [(perm_range ond hall).length_eq, List.length_range]
      refine ⟨od, _, rfl, .inl (SqL.of hod), _, rfl, _, _, rfl, rfl, _, rfl, ?_⟩
      rw [List.length_map, hlen, decide_eq_false (by omega)]
      refine iteF ?_
      dsimp only
      apply st_next
      have s03 := s2.trans s3
      walk_at "q"
      apply s_fld
      · walk_at "v"
      · walk_at "v"
      · exact s03 _ _ hx
      · exact B.cl
      · exact B.nP
      · decide
      dsimp only
      apply s_fld
      · walk_at "v"
      · walk_at "v"
      · exact upd_same
      · exact B.cl
      · exact B.nA
      · show 1 < 1000
        decide
      exact k _ upd_same fun b o hb e => by rw [upd_ne hb, upd_ne hb]; exact s03 _ _ e
end
end E1

namespace E1
open PySem L2
local macro_rules | `(tactic| walk_at "ne") => `(tactic| first | assumption | exact Ne.symm (by assumption) | exact ne_of_none (by walk_at "h") (by assumption) | exact Ne.symm (ne_of_none (by walk_at "h") (by assumption)))
local macro_rules | `(tactic| walk_at "h") => `(tactic| first | assumption | exact upd_same | (rw [upd_ne (by walk_at "ne")]; walk_at "h"))
local macro_rules | `(tactic| walk_at "sq") => `(tactic| first | assumption | exact SqL.of (by walk_at "h") | exact SqT.of (by walk_at "h") | exact .inl (SqL.of (by walk_at "h")) | exact .inr (SqT.of (by walk_at "h")) | exact .inl (by assumption) | exact .inr (by assumption))
local macro_rules | `(tactic| walk_at "at") => `(tactic| first | assumption | exact rfl | exact atI_last _ _ | exact atI_nats (by assumption))
local macro_rules | `(tactic| walk_at "c") => `(tactic| first | assumption | decide | omega | exact ⟨by omega, by omega⟩ | exact .inr ⟨by decide, by decide⟩ | exact .inl ⟨by decide, by decide⟩ | exact .inl ⟨by omega, by omega⟩ | exact ⟨by decide, by decide, by decide⟩)
local macro_rules | `(tactic| walk_at "cl") => `(tactic| first | exact ClsV.ty _ | exact ClsV.own _)
local macro_rules | `(tactic| walk_at "ty") => `(tactic| first | assumption | exact ty_T (by assumption) | exact ty_L (by assumption) | exact ty_flat (by assumption) | exact .base (.int _) | exact .base .non | exact .base (.bl _) | exact .base (.str _))
local macro_rules | `(tactic| walk_at "kt") => `(tactic| first | assumption | exact int_int | exact int_bool | exact tuple_tuple | exact list_tuple | exact tuple_int | exact bool_flat (by assumption) | exact int_flat (by assumption) | exact tuple_flat (by assumption))
local macro_rules | `(tactic| walk_at "v") => `(tactic| first
  | exact vl_var rfl
  | exact vl_c
  | (apply vl_add; walk_at "v"; walk_at "v")
  | (apply vl_sub; walk_at "v"; walk_at "v")
  | (apply vl_mul; walk_at "v"; walk_at "v"; walk_at "c")
  | (apply vl_mod; walk_at "v"; walk_at "v"; walk_at "c")
  | (apply vl_fdiv; walk_at "v"; walk_at "v"; walk_at "c")
  | (apply vl_pow; walk_at "v"; walk_at "v"; walk_at "c")
  | (apply vl_ixL; walk_at "v"; walk_at "v"; walk_at "sq"; walk_at "at")
  | (apply vl_ixT; walk_at "v"; walk_at "v"; walk_at "sq"; walk_at "at")
  | (apply vl_len; walk_at "v"; walk_at "sq")
  | (apply vl_int; walk_at "v")
  | (apply vl_abs; walk_at "v")
  | (apply vl_min2; walk_at "v"; walk_at "v")
  | (apply vl_max2; walk_at "v"; walk_at "v")
  | (apply vl_neg; walk_at "v")
  | (apply vl_eqI; walk_at "v"; walk_at "v")
  | (apply vl_neI; walk_at "v"; walk_at "v")
  | (apply vl_lt; walk_at "v"; walk_at "v")
  | (apply vl_le; walk_at "v"; walk_at "v")
  | (apply vl_gt; walk_at "v"; walk_at "v")
  | (apply vl_ge; walk_at "v"; walk_at "v")
  | (apply vl_eqB; walk_at "v"; walk_at "v")
  | (apply vl_neB; walk_at "v"; walk_at "v")
  | (apply vl_eqS; walk_at "v"; walk_at "v"; assumption)
  | (apply vl_chain; walk_at "v"; walk_at "v"; walk_at "v")
  | (apply vl_ifI; walk_at "t"; (intro _; walk_at "v"); (intro _; walk_at "v"))
  | (apply vl_isi; walk_at "v"; walk_at "v"; walk_at "cl"; walk_at "ty"; walk_at "kt")
  | (apply vl_fld; walk_at "v"; walk_at "h"; assumption; assumption; first | exact wf_places _ _ | exact wf_arrows _ _)
  | (apply vl_inN; walk_at "v"; walk_at "v"; walk_at "sq")
  | (apply vl_notInN; walk_at "v"; walk_at "v"; walk_at "sq")
  | (apply vl_not; walk_at "v")
  | (apply vl_andL; walk_at "v"; intro _; walk_at "v")
  | (apply vl_orL; walk_at "v"; intro _; walk_at "v"))
local macro_rules | `(tactic| walk_at "t") => `(tactic| first
  | (apply an_and; walk_at "t"; intro _; walk_at "t")
  | (apply an_or; walk_at "t"; intro _; walk_at "t")
  | (apply an_not; walk_at "t")
  | (apply an_of; walk_at "v")
  | (apply an_val; walk_at "v"))
local macro_rules | `(tactic| walk_at "a") => `(tactic| first | exact ar_nil | (apply ar_cons; walk_at "v"; walk_at "a"))
local macro_rules | `(tactic| walk_at "n1") => `(tactic| first
  | (apply s_set; walk_at "v")
  | (apply s_setL; walk_at "v"; walk_at "v"; walk_at "v"; walk_at "h"; walk_at "at")
  | (apply s_augI; exact rfl; walk_at "v")
  | (apply s_app; walk_at "v"; walk_at "v"; walk_at "h"; walk_at "c")
  | (apply s_ret; walk_at "v")
  | (apply s_retL; walk_at "a"; walk_at "z")
  | (apply s_retT; walk_at "a"; walk_at "z")
  | (apply s_setNL; walk_at "a"; walk_at "z")
  | (apply s_setNT; walk_at "a"; walk_at "z")
  | (apply s_if; walk_at "t"))
local macro_rules | `(tactic| walk_at "n") => `(tactic| ((try dsimp only); (try (with_reducible apply st_next; try dsimp only)); first | (apply st_seq; walk_at "n1") | walk_at "n1"))
local macro_rules | `(tactic| walk_at "z") => `(tactic| (simp only [List.length_cons, List.length_nil]; omega))
local macro_rules | `(tactic| walk_at "q") => `(tactic| ((try dsimp only); apply st_seq))

section
variable {P : Program} {w : World} {K : PySem.W.Frag} {mg : Str → Option Value} {base : Heap}
def spAny (K : PySem.W.Frag) (C : Addr) : Sp := fun vs H Q _ => ∃ (n : Nat) (t : Addr), vs = [nV n, .ref t] ∧ ∀ (H' : Hp) (a dx : Addr), Same H H' → H a = none → H' a = some (.ins C dx (wf n t)) → Q (.ref a) H'
abbrev s_web_of_any_size : Stmt := top 15
abbrev N_web_of_any_size : List Str := ["places", "arrows", "web"]
theorem sc_web_of_any_size : FnScope N_web_of_any_size ["places", "arrows"] (defScope s_web_of_any_size) := ⟨rfl, rfl, rfl, by decide +kernel, rfl, by decide +kernel, by decide +kernel⟩

theorem ok_web_of_any_size {f fI C : Addr} {fd fdI : FuncData} (F : Fun K "web_of_any_size" "web_of_any_size" s_web_of_any_size f fd) (T : Bi mg) (D_Web : Wb K mg C fI fdI) (G_Web : FnOk P w K mg base CX0 3 fI fdI ["self", "places", "arrows"] (spInit K C)) :
    FnOk P w K mg base CX0 5 f fd ["places", "arrows"] (spAny K C) := by
  have nd := sc_web_of_any_size.nd
  refine F.ok sc_web_of_any_size (fun vs H Q E h => ?_) (fun cdv A outer s H vs Q E hr h => ?_)
  · obtain ⟨n, t, rfl, _⟩ := h
    rfl
  · obtain ⟨n, t, rfl, k⟩ := h
    refine ⟨_, (pss_cons
 (ps_set (i := 2) nd rfl (Or.inl rfl) (pe_make D_Web.M G_Web (hr.mono (by decide)) (by rfl) D_Web.g D_Web.b .nil pass0 (pa_cons pe_int (pa_cons (pe_tup pa_nil) pa_nil))))
(pss_cons
 (ps_fld (pv 2) (pv 0) rfl)
(pss_cons
 (ps_fld (pv 2) (pv 1) rfl)
(pss_one
 (ps_ret (pv 2)))))), ?_⟩
    walk_at "q"
    refine ⟨Nat.zero_le _, fun e ne => ?_⟩
    intro x dx nx ndx nex
    refine ⟨x, dx, e, 1, [], [], rfl, upd_same, SqT.of ?_, PairsAt.nil, (fun _ z => by cases z), by decide, by decide, by decide, ⟨fun _ => 0, fun _ z => by cases z⟩, fun H1 h1 k1 => ?_⟩
    · have hxe : e ≠ x := fun z => by rw [← z, upd_same] at nx; cases nx
      have hde : e ≠ dx := fun z => by rw [← z, upd_same] at ndx; cases ndx
      rw [upd_ne hxe, upd_ne hde]
      exact upd_same
    refine ⟨rfl, ?_⟩
    have s1 : Same H H1 := (same_new ne).trans (Same.made nx ndx fun b o e hb => k1 b o hb e)
    have nx0 : H x = none := (same_new ne).free nx
    dsimp only
    walk_at "q"
    apply s_fld
    · walk_at "v"
    · walk_at "v"
    · exact h1
    · exact D_Web.cl
    · exact D_Web.nP
    · rw [wf_eq]
      show 2 < 1000
      decide
    rw [show putF ("places" : Str) (nV n) (wf 1 e) = wf n e from wf_putP 1 n e]
    walk_at "q"
    apply s_fld
    · walk_at "v"
    · walk_at "v"
    · exact upd_same
    · exact D_Web.cl
    · exact D_Web.nA
    · rw [wf_eq]
      show 2 < 1000
      decide
    rw [show putF ("arrows" : Str) (V.ref t) (wf n e) = wf n t from wf_putA n e t]
    walk_at "n"
    exact k _ x dx (Same.mut (Same.mut s1 nx0) nx0) nx0 upd_same
def spReach (K : PySem.W.Frag) (C : Addr) (back : Bool) : Sp := fun vs H Q _ => ∃ (a : Addr) (n p : Nat) (ar : List (Nat × Nat)), vs = [.ref a, nV p] ∧ WebAt K C H a n ar ∧ Valid n ar ∧ n ≤ 2000 ∧ ar.length ≤ 2000 ∧ p < n ∧
  ∀ (H' : Hp) (q : Addr) (xs : List Nat), Same H H' → H q = none → H' q = some (.tup (xs.map nV)) → Lot xs (fun x => x < n ∧ Rc (if back = true then swapA ar else ar) p x) → Q (.ref q) H'
abbrev s_reached : Stmt := top 16
abbrev N_reached : List Str := ["web", "place"]
theorem sc_reached : FnScope N_reached ["web", "place"] (defScope s_reached) := ⟨rfl, rfl, rfl, by decide +kernel, rfl, by decide +kernel, by decide +kernel⟩

theorem ok_reached {f fW fN fS fI C : Addr} {fd fdW fdN fdS fdI : FuncData} (F : Fun K "reached" "reached" s_reached f fd) (T : Bi mg) (B : Wb K mg C fI fdI) (D_whole_below : Dn K mg "whole_below" s_whole_below ["thing", "limit"] fW fdW)
    (D_need_place : Dn K mg "need_place" s_need_place ["web", "thing"] fN fdN) (D_spread : Dn K mg "spread" s_spread ["places", "steps", "start"] fS fdS) : FnOk P w K mg base CX0 3 f fd ["web", "place"] (spReach K C false) := by
  have nd := sc_reached.nd
  have G_need_place : FnOk P w K mg base CX0 2 fN fdN ["web", "thing"] (spNeed K C) := ok_need_place D_need_place.F T B D_whole_below
  have G_spread : FnOk P w K mg base CX0 1 fS fdS ["places", "steps", "start"] (spSpread K) := ok_spread D_spread.F T
  refine F.ok sc_reached (fun vs H Q E h => ?_) (fun cdv A outer s H vs Q E hr h => ?_)
  · obtain ⟨a, n, p, ar, rfl, _⟩ := h
    rfl
  · obtain ⟨a, n, p, ar, rfl, hw, va, hn, hm, hp, k⟩ := h
    have hcl := B.cl
    have hnP := B.nP
    have hnA := B.nA
    obtain ⟨dx, t, ts, h1, h2, h3⟩ := id hw
    refine ⟨_, (pss_cons
 (ps_expr (pe_call G_need_place (hr.mono (by decide)) (by rfl) D_need_place.g D_need_place.F.kp D_need_place.b .nil pass0 (pa_cons (pv 0) (pa_cons (pv 1) pa_nil))))
(pss_one
 (ps_ret (pe_call G_spread (hr.mono (by decide)) (by rfl) D_spread.g D_spread.F.kp D_spread.b .nil pass0 (pa_cons (pe_fld (pv 0) rfl) (pa_cons (pe_fld (pv 0) rfl) (pa_cons (pv 1) pa_nil))))))), ?_⟩
    walk_at "q"
    refine e_call (by walk_at "a") ⟨a, n, p, ar, rfl, hw, hp, ?_⟩
    dsimp only
    apply s_retC (by walk_at "a")
    exact ⟨n, p, t, ts, ar, rfl, .inr h2, h3, va, hp, hn, hm, fun H1 q xs s1 nq hq L => k H1 q xs s1 nq hq L⟩
abbrev s_reaching : Stmt := top 17
abbrev N_reaching : List Str := ["web", "place", "begin", "end"]
theorem sc_reaching : FnScope N_reaching ["web", "place"] (defScope s_reaching) := ⟨rfl, rfl, rfl, by decide +kernel, rfl, by decide +kernel, by decide +kernel⟩

theorem ok_reaching {f fW fN fS fI C : Addr} {fd fdW fdN fdS fdI : FuncData} (F : Fun K "reaching" "reaching" s_reaching f fd) (T : Bi mg) (B : Wb K mg C fI fdI) (D_whole_below : Dn K mg "whole_below" s_whole_below ["thing", "limit"] fW fdW)
    (D_need_place : Dn K mg "need_place" s_need_place ["web", "thing"] fN fdN) (D_spread : Dn K mg "spread" s_spread ["places", "steps", "start"] fS fdS) : FnOk P w K mg base CX0 3 f fd ["web", "place"] (spReach K C true) := by
  have nd := sc_reaching.nd
  have G_need_place : FnOk P w K mg base CX0 2 fN fdN ["web", "thing"] (spNeed K C) := ok_need_place D_need_place.F T B D_whole_below
  have G_spread : FnOk P w K mg base CX0 1 fS fdS ["places", "steps", "start"] (spSpread K) := ok_spread D_spread.F T
  refine F.ok sc_reaching (fun vs H Q E h => ?_) (fun cdv A outer s H vs Q E hr h => ?_)
  · obtain ⟨a, n, p, ar, rfl, _⟩ := h
    rfl
  · obtain ⟨a, n, p, ar, rfl, hw, va, hn, hm, hp, k⟩ := h
    have hcl := B.cl
    have hnP := B.nP
    have hnA := B.nA
    obtain ⟨dx, t, ts, h1, h2, h3⟩ := id hw
    refine ⟨_, (pss_cons
 (ps_expr (pe_call G_need_place (hr.mono (by decide)) (by rfl) D_need_place.g D_need_place.F.kp D_need_place.b .nil pass0 (pa_cons (pv 0) (pa_cons (pv 1) pa_nil))))
(pss_one
 (ps_ret (pe_call G_spread (hr.mono (by decide)) (by rfl) D_spread.g D_spread.F.kp D_spread.b .nil pass0 (pa_cons (pe_fld (pv 0) rfl) (pa_cons (pe_lc (own := [("begin", 2), ("end", 3)]) (g := gTup K 2 (gCons (gName 2) (gCons (gName 3) gNil))) (tt := tYes) (by rfl) nd (pi_tup (pe_fld (pv 0) rfl)) (blkOk_by (own := [("begin", 2), ("end", 3)]) (N := N_reaching) (sc := defScope s_reaching) (by decide +kernel)) (fun _ _ _ _ _ => (pg_tup (by rfl) (pgs_cons (pg_name (i := 2) nd rfl (Or.inl rfl)) (pgs_cons (pg_name (i := 3) nd rfl (Or.inl rfl)) pgs_nil)))) (fun _ _ _ _ _ => pts_nil) (fun _ _ _ _ _ => (pe_tup (pa_cons (pv 3) (pa_cons (pv 2) pa_nil))))) (pa_cons (pv 1) pa_nil))))))), ?_⟩
    walk_at "q"
    refine e_call (by walk_at "a") ⟨a, n, p, ar, rfl, hw, hp, ?_⟩
    dsimp only
    apply s_retE
    apply e_callA
    have hv0 : Vl (tFld K (tVar 0) "places") [some (V.ref a), some (nV p), none, none] H (nV n) := by walk_at "v"
    apply e_arg hv0
    apply e_argE
    refine e_swapped (by walk_at "v") h2 h3 (by omega) (by intro x y; rfl) (by intro x y; rfl) (by intro x y; rfl) fun H1 D us s1 nD hD pu => ?_
    refine ⟨_, rfl, ?_⟩
    exact ⟨n, p, D, us, swapA ar, rfl, .inl (SqL.of hD), pu, va.swap, hp, hn, by rw [swapA_len]; exact hm, fun H2 q xs s2 nq hq L => k H2 q xs (s1.trans s2) (s1.free nq) hq L⟩
def spMirror (K : PySem.W.Frag) (C : Addr) : Sp := fun vs H Q _ => ∃ (a : Addr) (n : Nat) (ar : List (Nat × Nat)), vs = [.ref a] ∧ WebAt K C H a n ar ∧ ar.length ≤ 2000 ∧
  ∀ (H' : Hp) (q : Addr), Same H H' → H q = none → WebAt K C H' q n (swapA ar) → Q (.ref q) H'
abbrev s_mirrored : Stmt := top 20
abbrev N_mirrored : List Str := ["web", "begin", "end"]
theorem sc_mirrored : FnScope N_mirrored ["web"] (defScope s_mirrored) := ⟨rfl, rfl, rfl, by decide +kernel, rfl, by decide +kernel, by decide +kernel⟩

theorem ok_mirrored {f fM fI C : Addr} {fd fdM fdI : FuncData} (F : Fun K "mirrored" "mirrored" s_mirrored f fd) (T : Bi mg) (B : Wb K mg C fI fdI) (D_web_of_any_size : Dn K mg "web_of_any_size" s_web_of_any_size ["places", "arrows"] fM fdM)
    (G_Web : FnOk P w K mg base CX0 3 fI fdI ["self", "places", "arrows"] (spInit K C)) : FnOk P w K mg base CX0 6 f fd ["web"] (spMirror K C) := by
  have nd := sc_mirrored.nd
  have G_web_of_any_size : FnOk P w K mg base CX0 5 fM fdM ["places", "arrows"] (spAny K C) := ok_web_of_any_size D_web_of_any_size.F T B G_Web
  refine F.ok sc_mirrored (fun vs H Q E h => ?_) (fun cdv A outer s H vs Q E hr h => ?_)
  · obtain ⟨a, n, ar, rfl, _⟩ := h
    rfl
  · obtain ⟨a, n, ar, rfl, hw, hm, k⟩ := h
    have hcl := B.cl
    have hnP := B.nP
    have hnA := B.nA
    obtain ⟨dx, t, ts, h1, h2, h3⟩ := id hw
    refine ⟨_, (pss_one
 (ps_ret (pe_call G_web_of_any_size (hr.mono (by decide)) (by rfl) D_web_of_any_size.g D_web_of_any_size.F.kp D_web_of_any_size.b .nil pass0 (pa_cons (pe_fld (pv 0) rfl) (pa_cons (pe_callTy call_tuple_of (by rfl) T.m_tuple (by decide +kernel) (pa_cons (pe_lc (own := [("begin", 1), ("end", 2)]) (g := gTup K 2 (gCons (gName 1) (gCons (gName 2) gNil))) (tt := tYes) (by rfl) nd (pi_tup (pe_fld (pv 0) rfl)) (blkOk_by (own := [("begin", 1), ("end", 2)]) (N := N_mirrored) (sc := defScope s_mirrored) (by decide +kernel)) (fun _ _ _ _ _ => (pg_tup (by rfl) (pgs_cons (pg_name (i := 1) nd rfl (Or.inl rfl)) (pgs_cons (pg_name (i := 2) nd rfl (Or.inl rfl)) pgs_nil)))) (fun _ _ _ _ _ => pts_nil) (fun _ _ _ _ _ => (pe_tup (pa_cons (pv 2) (pa_cons (pv 1) pa_nil))))) pa_nil)) pa_nil))))), ?_⟩
    apply s_retE
    apply e_callA
    have hv0 : Vl (tFld K (tVar 0) "places") [some (V.ref a), none, none] H (nV n) := by walk_at "v"
    apply e_arg hv0
    apply e_argE
    apply e_cb1
    refine e_swapped (by walk_at "v") h2 h3 (by omega) (by intro x y; rfl) (by intro x y; rfl) (by intro x y; rfl) fun H1 D us s1 nD hD pu => ?_
    refine ⟨D, us, rfl, .inl ⟨SqL.of hD, fun l nl => ?_⟩⟩
    have s2 : Same H (upd H1 l (.tup us)) := s1.trans (same_new nl)
    refine ⟨n, l, rfl, fun H2 b dx s3 nb hb => k H2 b (s2.trans s3) (s2.free nb) ⟨dx, l, us, hb, SqT.of (s3 _ _ upd_same), pu.keep ((tp_new nl).trans (Tp.same s3))⟩⟩
def spBetween (K : PySem.W.Frag) (C : Addr) : Sp := fun vs H Q _ => ∃ (a : Addr) (n u v : Nat) (ar : List (Nat × Nat)), vs = [.ref a, nV u, nV v] ∧ WebAt K C H a n ar ∧ Valid n ar ∧ n ≤ 1000 ∧ ar.length ≤ 1000 ∧ u < n ∧ v < n ∧
  ∀ (H' : Hp) (q : Addr) (xs : List Nat), Same H H' → H q = none → H' q = some (.tup (xs.map nV)) → Lot xs (fun x => x < n ∧ Rc ar u x ∧ Rc ar x v ∧ x ≠ u ∧ x ≠ v) → Q (.ref q) H'
abbrev s_between : Stmt := top 18
abbrev N_between : List Str := ["web", "u", "v", "behind", "ahead", "place"]
theorem sc_between : FnScope N_between ["web", "u", "v"] (defScope s_between) := ⟨rfl, rfl, rfl, by decide +kernel, rfl, by decide +kernel, by decide +kernel⟩

theorem ok_between {f fW fN fS fR fG fI C : Addr} {fd fdW fdN fdS fdR fdG fdI : FuncData} (F : Fun K "between" "between" s_between f fd) (T : Bi mg) (B : Wb K mg C fI fdI) (D_whole_below : Dn K mg "whole_below" s_whole_below ["thing", "limit"] fW fdW)
    (D_need_place : Dn K mg "need_place" s_need_place ["web", "thing"] fN fdN) (D_spread : Dn K mg "spread" s_spread ["places", "steps", "start"] fS fdS) (D_reached : Dn K mg "reached" s_reached ["web", "place"] fR fdR) (D_reaching : Dn K mg "reaching" s_reaching ["web", "place"] fG fdG) :
    FnOk P w K mg base CX0 4 f fd ["web", "u", "v"] (spBetween K C) := by
  have nd := sc_between.nd
  have G_reached : FnOk P w K mg base CX0 3 fR fdR ["web", "place"] (spReach K C false) := ok_reached D_reached.F T B D_whole_below D_need_place D_spread
  have G_reaching : FnOk P w K mg base CX0 3 fG fdG ["web", "place"] (spReach K C true) := ok_reaching D_reaching.F T B D_whole_below D_need_place D_spread
  refine F.ok sc_between (fun vs H Q E h => ?_) (fun cdv A outer s H vs Q E hr h => ?_)
  · obtain ⟨a, n, u, v, ar, rfl, _⟩ := h
    rfl
  · obtain ⟨a, n, u, v, ar, rfl, hw, va, hn, hm, hu, hv, k⟩ := h
    refine ⟨_, (pss_cons
 (ps_set (i := 3) nd rfl (Or.inl rfl) (pe_call G_reached (hr.mono (by decide)) (by rfl) D_reached.g D_reached.F.kp D_reached.b .nil pass0 (pa_cons (pv 0) (pa_cons (pv 1) pa_nil))))
(pss_cons
 (ps_set (i := 4) nd rfl (Or.inr rfl) (pe_callTy (cr_setT rfl) (by rfl) T.m_set (by decide +kernel) (pa_cons (pe_call G_reaching (hr.mono (by decide)) (by rfl) D_reaching.g D_reaching.F.kp D_reaching.b .nil pass0 (pa_cons (pv 0) (pa_cons (pv 2) pa_nil))) pa_nil)))
(pss_one
 (ps_ret (pe_callTy call_tuple_of (by rfl) T.m_tuple (by decide +kernel) (pa_cons (pe_lc (own := [("place", 5)]) (g := gName 5) (by rfl) nd (pi_tup (pv 3)) (blkOk_by (own := [("place", 5)]) (N := N_between) (sc := defScope s_between) (by decide +kernel)) (fun _ _ _ _ _ => (pg_name (i := 5) nd rfl (Or.inl rfl))) (fun _ _ _ _ _ => (pts_one (PW.pt (pw_and (pt_cmpR (or_sinW (w := w) rfl) (pv 5) (pv 4) (by rfl)) (pw_and1 (pt_cmpR (op_notIn_seqK (K := K) rfl) (pv 5) (pe_tup (pa_cons (pv 1) (pa_cons (pv 2) pa_nil))) (by rfl))))))) (fun _ _ _ _ _ => (pv 5))) pa_nil)))))), ?_⟩
    walk_at "q"
    apply s_call (by walk_at "a")
    refine ⟨a, n, u, ar, rfl, hw, va, by omega, by omega, hu, fun H1 be xs s1 nbe hbe L1 => ?_⟩
    dsimp only
    walk_at "q"
    refine e_call (by walk_at "a") ⟨a, n, v, ar, rfl, hw.same s1, va, by omega, by omega, hv, fun H2 al ys s2 nal hal L2 => ?_⟩
    have hyl : ys.length ≤ n := L2.len fun x h => h.1
    have hxl : xs.length ≤ n := L1.len fun x h => h.1
    refine ⟨al, ys.map (fun (k : Nat) => (k : Int)), rfl, SqT.of (by rw [hal, List.map_map]; rfl), by rw [List.length_map]; show ys.length + 1 < 4096; omega, fun se c nse => ?_⟩
    dsimp only
    have s3 : Same H1 (upd H2 se (SetO w se (fun j => decide (j ∈ ys.map (fun (k : Nat) => (k : Int)))) c)) := s2.trans (same_new nse)
    apply s_retE
    apply e_cb1
    apply e_lc
    refine e_itT (by walk_at "v") (SqT.of (s3 _ _ hbe)) ?_
    refine lc_w walk_tup (fun D i H' => Same (upd H2 se (SetO w se (fun j => decide (j ∈ ys.map (fun (k : Nat) => (k : Int)))) c)) H' ∧ H' D = some (.lst ((((xs.take i).filter (fun x => decide (x ∈ ys) && !decide (x = u) && !decide (x = v)))).map nV))) (fun D hD => ⟨same_new hD, upd_same⟩) (fun D i H' _ p => SqT.of (p.1 _ _ (s3 _ _ hbe))) ?_ ?_
    · rintro D i x _ H4 hD hi ⟨s4, hd⟩ ⟨rfl, hx⟩
      obtain ⟨y, hy, rfl⟩ := get_of_map hx
      have il : i < xs.length := (List.getElem?_eq_some_iff.mp hy).1
      have acc_l : ((xs.take i).filter (fun x => decide (x ∈ ys) && !decide (x = u) && !decide (x = v))).length ≤ 1000 := by
        refine Nat.le_trans (List.length_filter_le _ _) ?_
        rw [List.length_take]
        omega
      have hse4 := s4 _ _ upd_same
      have no : ∀ H5, Same H4 H5 → (decide (y ∈ ys) && !decide (y = u) && !decide (y = v)) = false → Same (upd H2 se (SetO w se (fun j => decide (j ∈ ys.map (fun (k : Nat) => (k : Int)))) c)) H5 ∧ H5 D = some (.lst (((xs.take (i + 1)).filter (fun x => decide (x ∈ ys) && !decide (x = u) && !decide (x = v))).map nV)) := fun H5 e hf => by
        rw [filter_snoc hy, hf, if_neg Bool.false_ne_true, List.append_nil]
        exact ⟨s4.trans e, e _ _ hd⟩
      refine ⟨rfl, ?_⟩
      refine ⟨_, rfl, _, rfl, _, se, _, c, rfl, rfl, hse4, _, rfl, ?_⟩
      by_cases hm1 : y ∈ ys
      · rw [decide_eq_true (mem_casts.mpr hm1)]
        refine iteT ?_
        refine ⟨_, rfl, ?_⟩
        apply e_tup (by walk_at "a") (by walk_at "z")
        intro p np
        refine ⟨p, _, rfl, .inr (SqT.of upd_same), rfl, rfl, _, rfl, ?_⟩
        rw [inV_two]
        have hsp := same_new (o := .tup [nV u, nV v]) np
        cases hbb : (decide (y = u) || decide (y = v)) with
        | true =>
          refine iteF (no _ hsp ?_)
          rw [Bool.and_assoc, ← Bool.not_or, hbb]
          simp
        | false =>
          refine iteT ?_
          refine Vl.run (by walk_at "v") _ ⟨_, hsp _ _ hd, by rw [List.length_map, sizeLine_eq]; omega, Same.mut (s4.trans hsp) hD, ?_⟩
          rw [filter_snoc hy, if_pos (by rw [Bool.and_assoc, ← Bool.not_or, hbb, decide_eq_true hm1]; rfl), List.map_append]
          exact upd_same
      · rw [decide_eq_false (fun z => hm1 (mem_casts.mp z))]
        refine iteF (no _ (Same.refl _) ?_)
        rw [decide_eq_false hm1]
        rfl
    · rintro D H4 nD ⟨s4, hD⟩
      rw [List.length_map, List.take_length] at hD
      refine ⟨D, _, rfl, .inl ⟨SqL.of hD, fun q nq => ?_⟩⟩
      refine k _ q _ (((s1.trans s3).trans s4).trans (same_new nq)) (((s1.trans s3).trans s4).free nq) upd_same ?_
      have L3 := lot_filter_of L1 (fun x => decide (x ∈ ys) && !decide (x = u) && !decide (x = v))
      refine ⟨L3.1, fun x => ?_⟩
      rw [L3.2]
      simp only [Bool.and_eq_true, decide_eq_true_eq, Bool.not_eq_true', decide_eq_false_iff_not]
      constructor
      · rintro ⟨⟨h1, h2⟩, ⟨h3, h4⟩, h5⟩
        exact ⟨h1, h2, Rc.swap_iff.mp ((L2.2 x).mp h3).2, h4, h5⟩
      · rintro ⟨h1, h2, h3, h4, h5⟩
        exact ⟨⟨h1, h2⟩, ⟨(L2.2 x).mpr ⟨h1, Rc.swap_iff.mpr h3⟩, h4⟩, h5⟩
end
end E1

namespace E1
open PySem L2
local macro_rules | `(tactic| walk_at "ne") => `(tactic| first | assumption | exact Ne.symm (by assumption) | exact ne_of_none (by walk_at "h") (by assumption) | exact Ne.symm (ne_of_none (by walk_at "h") (by assumption)))
local macro_rules | `(tactic| walk_at "h") => `(tactic| first | assumption | exact upd_same | (rw [upd_ne (by walk_at "ne")]; walk_at "h"))
local macro_rules | `(tactic| walk_at "sq") => `(tactic| first | assumption | exact SqL.of (by walk_at "h") | exact SqT.of (by walk_at "h") | exact .inl (SqL.of (by walk_at "h")) | exact .inr (SqT.of (by walk_at "h")) | exact .inl (by assumption) | exact .inr (by assumption))
local macro_rules | `(tactic| walk_at "at") => `(tactic| first | assumption | exact rfl | exact atI_last _ _ | exact atI_nats (by assumption))
local macro_rules | `(tactic| walk_at "c") => `(tactic| first | assumption | decide | omega | exact ⟨by omega, by omega⟩ | exact .inr ⟨by decide, by decide⟩ | exact .inl ⟨by decide, by decide⟩ | exact .inl ⟨by omega, by omega⟩ | exact ⟨by decide, by decide, by decide⟩)
local macro_rules | `(tactic| walk_at "cl") => `(tactic| first | exact ClsV.ty _ | exact ClsV.own _)
local macro_rules | `(tactic| walk_at "ty") => `(tactic| first | assumption | exact ty_T (by assumption) | exact ty_L (by assumption) | exact ty_flat (by assumption) | exact .base (.int _) | exact .base .non | exact .base (.bl _) | exact .base (.str _))
local macro_rules | `(tactic| walk_at "kt") => `(tactic| first | assumption | exact int_int | exact int_bool | exact tuple_tuple | exact list_tuple | exact tuple_int | exact bool_flat (by assumption) | exact int_flat (by assumption) | exact tuple_flat (by assumption))
local macro_rules | `(tactic| walk_at "v") => `(tactic| first
  | exact vl_var rfl
  | exact vl_c
  | (apply vl_add; walk_at "v"; walk_at "v")
  | (apply vl_sub; walk_at "v"; walk_at "v")
  | (apply vl_mul; walk_at "v"; walk_at "v"; walk_at "c")
  | (apply vl_mod; walk_at "v"; walk_at "v"; walk_at "c")
  | (apply vl_fdiv; walk_at "v"; walk_at "v"; walk_at "c")
  | (apply vl_pow; walk_at "v"; walk_at "v"; walk_at "c")
  | (apply vl_ixL; walk_at "v"; walk_at "v"; walk_at "sq"; walk_at "at")
  | (apply vl_ixT; walk_at "v"; walk_at "v"; walk_at "sq"; walk_at "at")
  | (apply vl_len; walk_at "v"; walk_at "sq")
  | (apply vl_int; walk_at "v")
  | (apply vl_abs; walk_at "v")
  | (apply vl_min2; walk_at "v"; walk_at "v")
  | (apply vl_max2; walk_at "v"; walk_at "v")
  | (apply vl_neg; walk_at "v")
  | (apply vl_eqI; walk_at "v"; walk_at "v")
  | (apply vl_neI; walk_at "v"; walk_at "v")
  | (apply vl_lt; walk_at "v"; walk_at "v")
  | (apply vl_le; walk_at "v"; walk_at "v")
  | (apply vl_gt; walk_at "v"; walk_at "v")
  | (apply vl_ge; walk_at "v"; walk_at "v")
  | (apply vl_eqB; walk_at "v"; walk_at "v")
  | (apply vl_neB; walk_at "v"; walk_at "v")
  | (apply vl_eqS; walk_at "v"; walk_at "v"; assumption)
  | (apply vl_chain; walk_at "v"; walk_at "v"; walk_at "v")
  | (apply vl_ifI; walk_at "t"; (intro _; walk_at "v"); (intro _; walk_at "v"))
  | (apply vl_isi; walk_at "v"; walk_at "v"; walk_at "cl"; walk_at "ty"; walk_at "kt")
  | (apply vl_fld; walk_at "v"; walk_at "h"; assumption; assumption; first | exact wf_places _ _ | exact wf_arrows _ _)
  | (apply vl_inN; walk_at "v"; walk_at "v"; walk_at "sq")
  | (apply vl_notInN; walk_at "v"; walk_at "v"; walk_at "sq")
  | (apply vl_not; walk_at "v")
  | (apply vl_andL; walk_at "v"; intro _; walk_at "v")
  | (apply vl_orL; walk_at "v"; intro _; walk_at "v"))
local macro_rules | `(tactic| walk_at "t") => `(tactic| first
  | (apply an_and; walk_at "t"; intro _; walk_at "t")
  | (apply an_or; walk_at "t"; intro _; walk_at "t")
  | (apply an_not; walk_at "t")
  | (apply an_of; walk_at "v")
  | (apply an_val; walk_at "v"))
local macro_rules | `(tactic| walk_at "a") => `(tactic| first | exact ar_nil | (apply ar_cons; walk_at "v"; walk_at "a"))
local macro_rules | `(tactic| walk_at "n1") => `(tactic| first
  | (apply s_set; walk_at "v")
  | (apply s_setL; walk_at "v"; walk_at "v"; walk_at "v"; walk_at "h"; walk_at "at")
  | (apply s_augI; exact rfl; walk_at "v")
  | (apply s_app; walk_at "v"; walk_at "v"; walk_at "h"; walk_at "c")
  | (apply s_ret; walk_at "v")
  | (apply s_retL; walk_at "a"; walk_at "z")
  | (apply s_retT; walk_at "a"; walk_at "z")
  | (apply s_setNL; walk_at "a"; walk_at "z")
  | (apply s_setNT; walk_at "a"; walk_at "z")
  | (apply s_if; walk_at "t"))
local macro_rules | `(tactic| walk_at "n") => `(tactic| ((try dsimp only); (try (with_reducible apply st_next; try dsimp only)); first | (apply st_seq; walk_at "n1") | walk_at "n1"))
local macro_rules | `(tactic| walk_at "z") => `(tactic| (simp only [List.length_cons, List.length_nil]; omega))
local macro_rules | `(tactic| walk_at "q") => `(tactic| ((try dsimp only); apply st_seq))

section
variable {P : Program} {w : World} {K : PySem.W.Frag} {mg : Str → Option Value} {base : Heap}
def spFound (K : PySem.W.Frag) : Sp := fun vs H Q _ => ∃ (n p : Nat) (t : Addr) (ts : List V) (ar : List (Nat × Nat)), vs = [.ref t, nV p] ∧ SqT K H t ts ∧ PairsAt H ts ar ∧ Valid n ar ∧ p < n ∧ n ≤ 1000 ∧
  ∀ (H' : Hp) (q : Addr) (xs : List Nat), Same H H' → H q = none → H' q = some (.tup (xs.map nV)) → Lot xs (fun x => x < n ∧ Rc ar p x) → Q (.ref q) H'
abbrev s__law_found : Stmt := top 27
abbrev N__law_found : List Str := ["arrows", "place", "found", "done", "begin", "end"]
theorem sc__law_found : FnScope N__law_found ["arrows", "place"] (defScope s__law_found) := ⟨rfl, rfl, rfl, by decide +kernel, rfl, by decide +kernel, by decide +kernel⟩

theorem ok__law_found {f : Addr} {fd : FuncData} (F : Fun K "_law_found" "_law_found" s__law_found f fd) (T : Bi mg) : FnOk P w K mg base CX0 1 f fd ["arrows", "place"] (spFound K) := by
  have nd := sc__law_found.nd
  refine F.ok sc__law_found (fun vs H Q E h => ?_) (fun cdv A outer s H vs Q E hr h => ?_)
  · obtain ⟨n, p, t, ts, ar, rfl, _⟩ := h
    rfl
  · obtain ⟨n, p, t, ts, ar, rfl, ht, pa, va, hp, hn, k⟩ := h
    have tl := pa.1
    refine ⟨_, (pss_cons
 (ps_set (i := 2) nd rfl (Or.inl rfl) (pe_lst (pa_cons (pv 1) pa_nil)))
(pss_cons
 (ps_set (i := 3) nd rfl (Or.inl rfl) pe_int)
(pss_cons
 (ps_while PassesOwn.never (pt_cmpR op_lt (pv 3) (pe_callB call_len_seq (by rfl) T.m_len (by decide +kernel) (pa_cons (pv 2) pa_nil)) (nomark _))
(pss_cons
 (ps_for PassesOwn.never rfl (pi_tup (pv 0)) (pg_tup (by rfl) (pgs_cons (pg_name (i := 4) nd rfl (Or.inl rfl)) (pgs_cons (pg_name (i := 5) nd rfl (Or.inl rfl)) pgs_nil)))
(pss_one
 (ps_if (PW.pt (pw_and (pt_cmpR op_eq (pv 4) (pe_ix ix_list (pv 2) (pv 3) (fun _ _ => rfl)) (nomark _)) (pw_and1 (pt_cmpR op_notIn_seq (pv 5) (pv 2) (by rfl))))) (pss_one
 (ps_expr (pe_bm PySem.F.plainAttrs_list PySem.F.slot_list_append PySem.F.type_list_append mt_append (pv 2) (pa_cons (pv 5) pa_nil)))) pss_nil)))
(pss_one
 (ps_set (i := 3) nd rfl (Or.inl rfl) (pe_op op_add (pv 3) pe_int)))))
(pss_one
 (ps_ret (pe_callTy call_tuple_of (by rfl) T.m_tuple (by decide +kernel) (pa_cons (pe_callB cr_sortedI (by rfl) T.m_sorted (by decide +kernel) (pa_cons (pv 2) pa_nil)) pa_nil))))))), ?_⟩
    walk_at "n"
    intro fo nfo
    dsimp only
    have s1 := same_new (o := .lst [nV p]) nfo
    walk_at "n"
    walk_at "q"
    have I0 : FI n ar p [p] 0 0 := ⟨by simp, List.mem_cons_self, fun x hx => by rw [List.mem_singleton.mp hx]; exact hp, fun x hx => by rw [List.mem_singleton.mp hx]; exact .refl, fun _ _ _ h => by omega, fun _ _ _ _ h => by omega⟩
    refine s_while (fun m σ H5 => ∃ d fs x4 x5, m = n - d ∧ σ = [some (.ref t), some (nV p), some (.ref fo), some (nV d), x4, x5] ∧ Same H H5 ∧ H5 fo = some (.lst (fs.map nV)) ∧ FI n ar p fs d 0 ∧ d ≤ fs.length) n
      ⟨0, [p], _, _, by omega, rfl, s1, upd_same, I0, by omega⟩ ?_
    rintro m σ H5 ⟨d, fs, x4, x5, rfl, rfl, s5, h5, I, hd⟩
    have fsn : fs.length ≤ n := nodup_bound I.nd I.lt
    have hS5 : SqL K H5 fo (fs.map nV) := SqL.of h5
    refine ⟨_, by walk_at "t", fun hb => ?_, fun hb => ?_⟩
    · have hb' := of_decide_eq_true hb
      rw [List.length_map] at hb'
      have hdl : d < fs.length := by omega
      walk_at "q"
      apply s_for
      refine e_itT (by walk_at "v") (Same.seqT s5 ht) ?_
      refine for_w walk_tup (fun i σ H6 => ∃ fs x4 x5, σ = [some (.ref t), some (nV p), some (.ref fo), some (nV d), x4, x5] ∧ Same H H6 ∧ H6 fo = some (.lst (fs.map nV)) ∧ FI n ar p fs d i ∧ d < fs.length)
        ⟨fs, x4, x5, rfl, s5, h5, I, hdl⟩ (fun i σ H6 _ ⟨_, _, _, _, s6, _⟩ => Same.seqT s6 ht) ?_ ?_
      · rintro i x σ _ H6 hi ⟨fs, x4, x5, rfl, s6, h6, I6, hd6⟩ ⟨rfl, hx⟩
        obtain ⟨a, ta, ha, rfl, hta⟩ := pa.at hx
        have vp := va a (List.mem_of_getElem? ha)
        have fsn6 : fs.length ≤ n := nodup_bound I6.nd I6.lt
        refine g_two (SqT.of (s6 _ _ hta)) ?_
        obtain ⟨u, hu⟩ : ∃ u, fs[d]? = some u := ⟨fs[d], List.getElem?_eq_getElem hd6⟩
        have hS6 : SqL K H6 fo (fs.map nV) := SqL.of h6
        have hat : atI (fs.map nV) (d : Int) = some (nV u) := atI_nats hu
        apply s_if
        · walk_at "t"
        · intro hb2
          rw [Bool.and_eq_true] at hb2
          have e1 : a.1 = u := by
            have := of_decide_eq_true hb2.1
            omega
          have e2 : a.2 ∉ fs := by
            have := hb2.2
            simpa using this
          apply s_app
          · walk_at "v"
          · walk_at "v"
          · exact h6
          · rw [List.length_map, sizeLine_eq]
            omega
          refine ⟨fs ++ [a.2], _, _, rfl, Same.mut s6 nfo, by rw [upd_same, List.map_append]; rfl, I6.add ha (by rw [e1]; exact hu) e2 vp.2, by rw [List.length_append]; omega⟩
        · intro hb2
          refine ⟨fs, _, _, rfl, s6, h6, I6.skip ha ?_, hd6⟩
          rw [Bool.and_eq_false_iff] at hb2
          rcases hb2 with h | h
          · left
            intro e
            rw [hu] at e
            have := of_decide_eq_false h
            cases e
            omega
          · right
            simpa using h
      · rintro σ H6 ⟨fs, x4, x5, rfl, s6, h6, I6, hd6⟩
        rw [tl] at I6
        have fsn6 : fs.length ≤ n := nodup_bound I6.nd I6.lt
        walk_at "n"
        exact ⟨n - (d + 1), by omega, d + 1, fs, _, _, rfl, rfl, s6, h6, I6.next, by omega⟩
    · have hb' := of_decide_eq_false hb
      rw [List.length_map] at hb'
      have ed : d = fs.length := by omega
      subst ed
      dsimp only
      apply s_retE
      apply e_cb1
      refine ⟨_, rfl, fo, fs.map (fun (k : Nat) => (k : Int)), rfl, SqL.of (by rw [h5, List.map_map]; rfl), fun ns q pm so nq => ?_⟩
      obtain ⟨xs, ex, L⟩ := sorted_lot (P := fun x => x < n ∧ Rc ar p x) I.nd (fun x => ⟨fun h => ⟨I.lt x h, (I.reach x).mp h⟩, fun h => (I.reach x).mpr h.2⟩) pm so
      rw [ex]
      refine ⟨q, _, rfl, .inl ⟨SqL.of upd_same, fun r nr => ?_⟩⟩
      exact k _ r xs ((s5.trans (same_new nq)).trans (same_new nr)) ((s5.trans (same_new nq)).free nr) upd_same L
def spPlace (K : PySem.W.Frag) (C : Addr) : Sp := fun vs H Q _ => ∃ (we tu lo : Addr) (n p : Nat) (ar : List (Nat × Nat)) (L : Nat → List Nat) (lp : List Addr), vs = [.ref we, .ref tu, .ref lo, nV p] ∧ Sit K C H we tu lo n ar L lp ∧ p < n ∧ ∀ H', Same H H' → Q (.bl true) H'
abbrev s__law_place_right : Stmt := top 28
abbrev N__law_place_right : List Str := ["web", "turned", "lots", "place", "back", "other"]
theorem sc__law_place_right : FnScope N__law_place_right ["web", "turned", "lots", "place"] (defScope s__law_place_right) := ⟨rfl, rfl, rfl, by decide +kernel, rfl, by decide +kernel, by decide +kernel⟩

theorem ok__law_place_right {f fR fG fI fS C : Addr} {fd fdR fdG fdI fdS : FuncData} (F : Fun K "_law_place_right" "_law_place_right" s__law_place_right f fd) (T : Bi mg) (B : Wb K mg C fI fdI) (D_reached : Dn K mg "reached" s_reached ["web", "place"] fR fdR) (D_reaching : Dn K mg "reaching" s_reaching ["web", "place"] fG fdG)
    (D__law_is : Dn K mg "_law_is" s__law_is ["told", "due"] fS fdS) (G_reached : FnOk P w K mg base CX0 3 fR fdR ["web", "place"] (spReach K C false)) (G_reaching : FnOk P w K mg base CX0 3 fG fdG ["web", "place"] (spReach K C true)) :
    FnOk P w K mg base CX0 4 f fd ["web", "turned", "lots", "place"] (spPlace K C) := by
  have nd := sc__law_place_right.nd
  have G__law_is : FnOk P w K mg base CX0 2 fS fdS ["told", "due"] (spIs2 K) := (ok__law_is T D__law_is 2).imp fun _ _ _ _ h => h
  refine F.ok sc__law_place_right (fun vs H Q E h => ?_) (fun cdv A outer s H vs Q E hr h => ?_)
  · obtain ⟨we, tu, lo, n, p, ar, L, lp, rfl, _⟩ := h
    rfl
  · obtain ⟨we, tu, lo, n, p, ar, L, lp, rfl, S, hp, k⟩ := h
    have ll := S.lo.len
    have hn := S.hn
    have hS0 : SqL K H lo (lp.map V.ref) := SqL.of S.lo.lst
    refine ⟨_, (pss_cons
 (ps_set (i := 4) nd rfl (Or.inl rfl) (pe_callTy call_tuple_of (by rfl) T.m_tuple (by decide +kernel) (pa_cons (pe_lc (own := [("other", 5)]) (g := gName 5) (by rfl) nd (pi_range1 (by rfl) T.m_range (pa_cons (pe_callB call_len_seq (by rfl) T.m_len (by decide +kernel) (pa_cons (pv 2) pa_nil)) pa_nil)) (blkOk_by (own := [("other", 5)]) (N := N__law_place_right) (sc := defScope s__law_place_right) (by decide +kernel)) (fun _ _ _ _ _ => (pg_name (i := 5) nd rfl (Or.inl rfl))) (fun _ _ _ _ _ => (pts_one (pt_cmpR (op_in_seqK (K := K) rfl) (pv 3) (pe_ix (ix_listK (K := K) rfl) (pv 2) (pv 5) (fun _ _ => rfl)) (by rfl)))) (fun _ _ _ _ _ => (pv 5))) pa_nil)))
(pss_cons
 (ps_if (PW.pt (pw_or (pt_not (pt_val (pe_call G__law_is (hr.mono (by decide)) (by rfl) D__law_is.g D__law_is.F.kp D__law_is.b .nil pass0 (pa_cons (pe_call G_reached (hr.mono (by decide)) (by rfl) D_reached.g D_reached.F.kp D_reached.b .nil pass0 (pa_cons (pv 0) (pa_cons (pv 3) pa_nil))) (pa_cons (pe_ix ix_list (pv 2) (pv 3) (fun _ _ => rfl)) pa_nil))))) (pw_or1 (pt_not (pt_val (pe_call G__law_is (hr.mono (by decide)) (by rfl) D__law_is.g D__law_is.F.kp D__law_is.b .nil pass0 (pa_cons (pe_call G_reaching (hr.mono (by decide)) (by rfl) D_reaching.g D_reaching.F.kp D_reaching.b .nil pass0 (pa_cons (pv 0) (pa_cons (pv 3) pa_nil))) (pa_cons (pv 4) pa_nil)))))))) (pss_one
 (ps_ret pe_bl)) pss_nil)
(pss_cons
 (ps_if (PW.pt (pw_or (pt_not (pt_val (pe_call G__law_is (hr.mono (by decide)) (by rfl) D__law_is.g D__law_is.F.kp D__law_is.b .nil pass0 (pa_cons (pe_call G_reached (hr.mono (by decide)) (by rfl) D_reached.g D_reached.F.kp D_reached.b .nil pass0 (pa_cons (pv 1) (pa_cons (pv 3) pa_nil))) (pa_cons (pv 4) pa_nil))))) (pw_or1 (pt_not (pt_val (pe_call G__law_is (hr.mono (by decide)) (by rfl) D__law_is.g D__law_is.F.kp D__law_is.b .nil pass0 (pa_cons (pe_call G_reaching (hr.mono (by decide)) (by rfl) D_reaching.g D_reaching.F.kp D_reaching.b .nil pass0 (pa_cons (pv 1) (pa_cons (pv 3) pa_nil))) (pa_cons (pe_ix ix_list (pv 2) (pv 3) (fun _ _ => rfl)) pa_nil)))))))) (pss_one
 (ps_ret pe_bl)) pss_nil)
(pss_one
 (ps_ret (pe_cmpR (op_eqD hr.units) (pe_lc (own := [("other", 5)]) (g := gName 5) (by rfl) nd (pi_tup (pv 4)) (blkOk_by (own := [("other", 5)]) (N := N__law_place_right) (sc := defScope s__law_place_right) (by decide +kernel)) (fun _ _ _ _ _ => (pg_name (i := 5) nd rfl (Or.inl rfl))) (fun _ _ _ _ _ => (pts_one (pt_cmpR (op_in_seqK (K := K) rfl) (pv 5) (pe_ix (ix_listK (K := K) rfl) (pv 2) (pv 3) (fun _ _ => rfl)) (by rfl)))) (fun _ _ _ _ _ => (pv 5))) (pe_lst (pa_cons (pv 3) pa_nil)) (nomark _))))))), ?_⟩

    walk_at "q"
    apply s_setE
    apply e_cb1
    apply e_lc
    refine e_rngN (n := n) (by rw [← ll, ← List.length_map (f := V.ref)]; walk_at "a") (by omega) ?_
    refine lc_pW walk_rangeN (fun i => if (decide (p ∈ L i)) = true then some (nV i) else none) (by rw [sizeLine_eq]; omega) (fun _ _ => trivial) ?_ ?_ gm_name
    · rintro i x _ H1 hi e ⟨rfl, rfl⟩
      have S1 := S.same e
      obtain ⟨q, hq⟩ : ∃ q, lp[i]? = some q := ⟨lp[i]'(by omega), List.getElem?_eq_getElem (by omega)⟩
      have hS : SqL K H1 lo (lp.map V.ref) := SqL.of S1.lo.lst
      have hat : atI (lp.map V.ref) (i : Int) = some (.ref q) := atI_nat (map_get hq)
      have hT : SqT K H1 q ((L i).map nV) := SqT.of (S1.lo.tup i q hq)
      exact ⟨Same.refl _, rfl, _, by walk_at "t", fun hb => ⟨_, by walk_at "v", by rw [if_pos hb]⟩, fun hb => by rw [if_neg (by rw [hb]; decide)]⟩
    intro D H1 nD s1 hD
    rw [fm_filter] at hD
    refine ⟨D, _, rfl, .inl ⟨SqL.of hD, fun ba nba => ?_⟩⟩
    dsimp only
    have s2 : Same H (upd H1 ba (.tup (((List.range n).filter (fun i => decide (p ∈ L i))).map nV))) := s1.trans (same_new nba)
    have hba : upd H1 ba (.tup (((List.range n).filter (fun i => decide (p ∈ L i))).map nV)) ba = some (.tup (((List.range n).filter (fun i => decide (p ∈ L i))).map nV)) := upd_same
    have LB : Lot ((List.range n).filter (fun i => decide (p ∈ L i))) (fun x => x < n ∧ Rc (swapA ar) p x) := by
      have L0 := lot_filter n (fun i => decide (p ∈ L i))
      refine ⟨L0.1, fun x => ?_⟩
      rw [L0.2]
      show (x < n ∧ decide (p ∈ L x) = true) ↔ (x < n ∧ Rc (swapA ar) p x)
      rw [decide_eq_true_iff]
      constructor
      · rintro ⟨h1, h2⟩
        exact ⟨h1, Rc.swap (((S.lo.lot x h1).2 p).mp h2).2⟩
      · rintro ⟨h1, h2⟩
        exact ⟨h1, ((S.lo.lot x h1).2 p).mpr ⟨hp, Rc.swap_iff.mp h2⟩⟩
    generalize ((List.range n).filter (fun i => decide (p ∈ L i))) = bs at s2 hba LB ⊢
    generalize upd H1 ba (.tup (bs.map nV)) = H2 at s2 hba ⊢
    have S2 := S.same s2
    obtain ⟨q, hq⟩ : ∃ q, lp[p]? = some q := ⟨lp[p]'(by omega), List.getElem?_eq_getElem (by omega)⟩
    have hat : atI (lp.map V.ref) (p : Int) = some (.ref q) := atI_nat (map_get hq)
    have LP := S.lo.lot p hp
    have lpl : (L p).length ≤ n := LP.len fun x h => h.1
    have lbl : bs.length ≤ n := LB.len fun x h => h.1

    walk_at "q"
    apply e_callA
    apply e_argE
    refine e_call (by walk_at "a") ⟨we, n, p, ar, rfl, S2.we, S.va, by omega, by have := S.hm; omega, hp, fun H3 q3 xs3 s3 _ hq3 L3 => ?_⟩
    have S3 := S2.same s3
    have hS3 : SqL K H3 lo (lp.map V.ref) := SqL.of S3.lo.lst
    apply e_arg (x := .ref q) (by walk_at "v")
    have e3 : xs3 = L p := L3.ext LP fun x => Iff.rfl
    subst e3
    refine ⟨.ref q3, .ref q, rfl, eqD_nats (SqT.of hq3) (SqT.of (S3.lo.tup p q hq)) (by omega), fun H4 s4 => ⟨_, rfl, iteF ?_⟩⟩
    have S4 := S3.same s4
    apply e_callA
    apply e_argE
    refine e_call (by walk_at "a") ⟨we, n, p, ar, rfl, S4.we, S.va, by omega, by have := S.hm; omega, hp, fun H5 q5 xs5 s5 _ hq5 L5 => ?_⟩
    apply e_arg (x := .ref ba) (by walk_at "v")
    have s25 : Same H2 H5 := (s3.trans s4).trans s5
    have e5 : xs5 = bs := L5.ext LB fun x => Iff.rfl
    subst e5
    refine ⟨.ref q5, .ref ba, rfl, eqD_nats (SqT.of hq5) (SqT.of (s25 _ _ hba)) (by omega), fun H6 s6 => ⟨_, rfl, iteF ?_⟩⟩
    have s26 := s25.trans s6
    have S6 := S2.same s26
    dsimp only
    apply st_next

    walk_at "q"
    apply e_callA
    apply e_argE
    refine e_call (by walk_at "a") ⟨tu, n, p, swapA ar, rfl, S6.tu, S.va.swap, by omega, by rw [swapA_len]; have := S.hm; omega, hp, fun H7 q7 xs7 s7 _ hq7 L7 => ?_⟩
    apply e_arg (x := .ref ba) (by walk_at "v")
    have s27 := s26.trans s7
    have e7 : xs7 = xs5 := L7.ext LB fun x => Iff.rfl
    subst e7
    refine ⟨.ref q7, .ref ba, rfl, eqD_nats (SqT.of hq7) (SqT.of (s27 _ _ hba)) (by omega), fun H8 s8 => ⟨_, rfl, iteF ?_⟩⟩
    have s28 := s27.trans s8
    have S8 := S2.same s28
    apply e_callA
    apply e_argE
    refine e_call (by walk_at "a") ⟨tu, n, p, swapA ar, rfl, S8.tu, S.va.swap, by omega, by rw [swapA_len]; have := S.hm; omega, hp, fun H9 q9 xs9 s9 _ hq9 L9 => ?_⟩
    have s29 := s28.trans s9
    have S9 := S2.same s29
    have hS9 : SqL K H9 lo (lp.map V.ref) := SqL.of S9.lo.lst
    apply e_arg (x := .ref q) (by walk_at "v")
    have e9 : xs9 = L p := L9.ext LP fun x => by rw [if_pos rfl, swapA_swapA]
    subst e9
    refine ⟨.ref q9, .ref q, rfl, eqD_nats (SqT.of hq9) (SqT.of (S9.lo.tup p q hq)) (by omega), fun H10 s10 => ⟨_, rfl, iteF ?_⟩⟩
    have s210 := s29.trans s10
    have S10 := S2.same s210
    dsimp only
    apply st_next

    dsimp only
    apply s_retE
    apply e_lc
    refine e_itT (by walk_at "v") (SqT.of (s210 _ _ hba)) ?_
    refine lc_pW walk_tup (fun i => if (decide (xs7.getD i 0 ∈ L p)) = true then some (nV (xs7.getD i 0)) else none) (by rw [List.length_map, sizeLine_eq]; omega) (fun H' e => SqT.of (e _ _ (s210 _ _ hba))) ?_ ?_ gm_name
    · rintro i x _ H11 hi e ⟨rfl, hx⟩
      obtain ⟨y, hy, rfl⟩ := get_of_map hx
      have S11 := S10.same e
      have hS : SqL K H11 lo (lp.map V.ref) := SqL.of S11.lo.lst
      have hT : SqT K H11 q ((L p).map nV) := SqT.of (S11.lo.tup p q hq)
      have ey : xs7.getD i 0 = y := by rw [List.getD_eq_getElem?_getD, hy]; rfl
      rw [ey]
      exact ⟨Same.refl _, rfl, _, by walk_at "t", fun hb => ⟨_, by walk_at "v", by rw [if_pos hb]⟩, fun hb => by rw [if_neg (by rw [hb]; decide)]⟩
    · intro D2 H11 nD2 s11 hD2
      rw [List.length_map, fm_list xs7 (fun y => decide (y ∈ L p))] at hD2
      obtain ⟨r, hr⟩ := S.rk
      have only : xs7.filter (fun y => decide (y ∈ L p)) = [p] := by
        refine (lot_filter_of LB (fun y => decide (y ∈ L p))).ext (lot_one p) fun x => ?_
        rw [decide_eq_true_iff]
        constructor
        · rintro ⟨⟨h1, h2⟩, h3⟩
          exact (Rc.anti hr ((LP.2 x).mp h3).2 (Rc.swap_iff.mp h2)).symm
        · rintro rfl
          exact ⟨⟨hp, .refl⟩, (LP.2 x).mpr ⟨hp, .refl⟩⟩
      rw [only] at hD2
      apply e_lst (by walk_at "a") (by walk_at "z")
      intro l nl
      have hD3 := (same_new (o := .lst [nV p]) nl) _ _ hD2
      refine ⟨_, _, .lst (SqL.of hD3) (.cons (.int _) .nil), .lst (SqL.of upd_same) (.cons (.int _) .nil), rfl, rfl, ?_⟩
      have ev : PyData.eqv (.list [.int (p : Int)]) (.list [.int (p : Int)]) = true := SeqAt.eqv_refl _ rfl
      rw [ev]
      exact k _ ((s2.trans s210).trans (s11.trans (same_new nl)))
end
end E1

namespace E1
open PySem L2
local macro_rules | `(tactic| walk_at "ne") => `(tactic| first | assumption | exact Ne.symm (by assumption) | exact ne_of_none (by walk_at "h") (by assumption) | exact Ne.symm (ne_of_none (by walk_at "h") (by assumption)))
local macro_rules | `(tactic| walk_at "h") => `(tactic| first | assumption | exact upd_same | (rw [upd_ne (by walk_at "ne")]; walk_at "h"))
local macro_rules | `(tactic| walk_at "sq") => `(tactic| first | assumption | exact SqL.of (by walk_at "h") | exact SqT.of (by walk_at "h") | exact .inl (SqL.of (by walk_at "h")) | exact .inr (SqT.of (by walk_at "h")) | exact .inl (by assumption) | exact .inr (by assumption))
local macro_rules | `(tactic| walk_at "at") => `(tactic| first | assumption | exact rfl | exact atI_last _ _ | exact atI_nats (by assumption))
local macro_rules | `(tactic| walk_at "c") => `(tactic| first | assumption | decide | omega | exact ⟨by omega, by omega⟩ | exact .inr ⟨by decide, by decide⟩ | exact .inl ⟨by decide, by decide⟩ | exact .inl ⟨by omega, by omega⟩ | exact ⟨by decide, by decide, by decide⟩)
local macro_rules | `(tactic| walk_at "cl") => `(tactic| first | exact ClsV.ty _ | exact ClsV.own _)
local macro_rules | `(tactic| walk_at "ty") => `(tactic| first | assumption | exact ty_T (by assumption) | exact ty_L (by assumption) | exact ty_flat (by assumption) | exact .base (.int _) | exact .base .non | exact .base (.bl _) | exact .base (.str _))
local macro_rules | `(tactic| walk_at "kt") => `(tactic| first | assumption | exact int_int | exact int_bool | exact tuple_tuple | exact list_tuple | exact tuple_int | exact bool_flat (by assumption) | exact int_flat (by assumption) | exact tuple_flat (by assumption))
local macro_rules | `(tactic| walk_at "v") => `(tactic| first
  | exact vl_var rfl
  | exact vl_c
  | (apply vl_add; walk_at "v"; walk_at "v")
  | (apply vl_sub; walk_at "v"; walk_at "v")
  | (apply vl_mul; walk_at "v"; walk_at "v"; walk_at "c")
  | (apply vl_mod; walk_at "v"; walk_at "v"; walk_at "c")
  | (apply vl_fdiv; walk_at "v"; walk_at "v"; walk_at "c")
  | (apply vl_pow; walk_at "v"; walk_at "v"; walk_at "c")
  | (apply vl_ixL; walk_at "v"; walk_at "v"; walk_at "sq"; walk_at "at")
  | (apply vl_ixT; walk_at "v"; walk_at "v"; walk_at "sq"; walk_at "at")
  | (apply vl_len; walk_at "v"; walk_at "sq")
  | (apply vl_int; walk_at "v")
  | (apply vl_abs; walk_at "v")
  | (apply vl_min2; walk_at "v"; walk_at "v")
  | (apply vl_max2; walk_at "v"; walk_at "v")
  | (apply vl_neg; walk_at "v")
  | (apply vl_eqI; walk_at "v"; walk_at "v")
  | (apply vl_neI; walk_at "v"; walk_at "v")
  | (apply vl_lt; walk_at "v"; walk_at "v")
  | (apply vl_le; walk_at "v"; walk_at "v")
  | (apply vl_gt; walk_at "v"; walk_at "v")
  | (apply vl_ge; walk_at "v"; walk_at "v")
  | (apply vl_eqB; walk_at "v"; walk_at "v")
  | (apply vl_neB; walk_at "v"; walk_at "v")
  | (apply vl_eqS; walk_at "v"; walk_at "v"; assumption)
  | (apply vl_chain; walk_at "v"; walk_at "v"; walk_at "v")
  | (apply vl_ifI; walk_at "t"; (intro _; walk_at "v"); (intro _; walk_at "v"))
  | (apply vl_isi; walk_at "v"; walk_at "v"; walk_at "cl"; walk_at "ty"; walk_at "kt")
  | (apply vl_fld; walk_at "v"; walk_at "h"; assumption; assumption; first | exact wf_places _ _ | exact wf_arrows _ _)
  | (apply vl_inN; walk_at "v"; walk_at "v"; walk_at "sq")
  | (apply vl_notInN; walk_at "v"; walk_at "v"; walk_at "sq")
  | (apply vl_not; walk_at "v")
  | (apply vl_andL; walk_at "v"; intro _; walk_at "v")
  | (apply vl_orL; walk_at "v"; intro _; walk_at "v"))
local macro_rules | `(tactic| walk_at "t") => `(tactic| first
  | (apply an_and; walk_at "t"; intro _; walk_at "t")
  | (apply an_or; walk_at "t"; intro _; walk_at "t")
  | (apply an_not; walk_at "t")
  | (apply an_of; walk_at "v")
  | (apply an_val; walk_at "v"))
local macro_rules | `(tactic| walk_at "a") => `(tactic| first | exact ar_nil | (apply ar_cons; walk_at "v"; walk_at "a"))
local macro_rules | `(tactic| walk_at "n1") => `(tactic| first
  | (apply s_set; walk_at "v")
  | (apply s_setL; walk_at "v"; walk_at "v"; walk_at "v"; walk_at "h"; walk_at "at")
  | (apply s_augI; exact rfl; walk_at "v")
  | (apply s_app; walk_at "v"; walk_at "v"; walk_at "h"; walk_at "c")
  | (apply s_ret; walk_at "v")
  | (apply s_retL; walk_at "a"; walk_at "z")
  | (apply s_retT; walk_at "a"; walk_at "z")
  | (apply s_setNL; walk_at "a"; walk_at "z")
  | (apply s_setNT; walk_at "a"; walk_at "z")
  | (apply s_if; walk_at "t"))
local macro_rules | `(tactic| walk_at "n") => `(tactic| ((try dsimp only); (try (with_reducible apply st_next; try dsimp only)); first | (apply st_seq; walk_at "n1") | walk_at "n1"))
local macro_rules | `(tactic| walk_at "z") => `(tactic| (simp only [List.length_cons, List.length_nil]; omega))
local macro_rules | `(tactic| walk_at "q") => `(tactic| ((try dsimp only); apply st_seq))

section
variable {P : Program} {w : World} {K : PySem.W.Frag} {mg : Str → Option Value} {base : Heap}
def spBetR (K : PySem.W.Frag) (C : Addr) : Sp := fun vs H Q _ => ∃ (we tu lo : Addr) (n u v : Nat) (ar : List (Nat × Nat)) (L : Nat → List Nat) (lp : List Addr), vs = [.ref we, .ref tu, .ref lo, nV u, nV v] ∧ Sit K C H we tu lo n ar L lp ∧ u < n ∧ v < n ∧ ∀ H', Same H H' → Q (.bl true) H'
abbrev s__law_between_right : Stmt := top 29
abbrev N__law_between_right : List Str := ["web", "turned", "lots", "u", "v", "due", "place"]
theorem sc__law_between_right : FnScope N__law_between_right ["web", "turned", "lots", "u", "v"] (defScope s__law_between_right) := ⟨rfl, rfl, rfl, by decide +kernel, rfl, by decide +kernel, by decide +kernel⟩

theorem ok__law_between_right {f fB fI fS C : Addr} {fd fdB fdI fdS : FuncData} (F : Fun K "_law_between_right" "_law_between_right" s__law_between_right f fd) (T : Bi mg) (B : Wb K mg C fI fdI) (D_between : Dn K mg "between" s_between ["web", "u", "v"] fB fdB)
    (D__law_is : Dn K mg "_law_is" s__law_is ["told", "due"] fS fdS) (G_between : FnOk P w K mg base CX0 4 fB fdB ["web", "u", "v"] (spBetween K C)) :
    FnOk P w K mg base CX0 5 f fd ["web", "turned", "lots", "u", "v"] (spBetR K C) := by
  have nd := sc__law_between_right.nd
  have G__law_is : FnOk P w K mg base CX0 2 fS fdS ["told", "due"] (spIs2 K) := (ok__law_is T D__law_is 2).imp fun _ _ _ _ h => h
  refine F.ok sc__law_between_right (fun vs H Q E h => ?_) (fun cdv A outer s H vs Q E hr h => ?_)
  · obtain ⟨we, tu, lo, n, u, v, ar, L, lp, rfl, _⟩ := h
    rfl
  · obtain ⟨we, tu, lo, n, u, v, ar, L, lp, rfl, S, hu, hv, k⟩ := h
    have ll := S.lo.len
    have hn := S.hn
    have hS0 : SqL K H lo (lp.map V.ref) := SqL.of S.lo.lst
    obtain ⟨q, hq⟩ : ∃ q, lp[u]? = some q := ⟨lp[u]'(by omega), List.getElem?_eq_getElem (by omega)⟩
    have hat : atI (lp.map V.ref) (u : Int) = some (.ref q) := atI_nat (map_get hq)
    have LU := S.lo.lot u hu
    have lul : (L u).length ≤ n := LU.len fun x h => h.1
    refine ⟨_, (pss_cons
 (ps_set (i := 5) nd rfl (Or.inl rfl) (pe_callTy call_tuple_of (by rfl) T.m_tuple (by decide +kernel) (pa_cons (pe_lc (own := [("place", 6)]) (g := gName 6) (by rfl) nd (pi_tup (pe_ix ix_list (pv 2) (pv 3) (fun _ _ => rfl))) (blkOk_by (own := [("place", 6)]) (N := N__law_between_right) (sc := defScope s__law_between_right) (by decide +kernel)) (fun _ _ _ _ _ => (pg_name (i := 6) nd rfl (Or.inl rfl))) (fun _ _ _ _ _ => (pts_one (PW.pt (pw_and (pt_cmpR (op_notIn_seqK (K := K) rfl) (pv 6) (pe_tup (pa_cons (pv 3) (pa_cons (pv 4) pa_nil))) (by rfl)) (pw_and1 (pt_cmpR (op_in_seqK (K := K) rfl) (pv 4) (pe_ix (ix_listK (K := K) rfl) (pv 2) (pv 6) (fun _ _ => rfl)) (by rfl))))))) (fun _ _ _ _ _ => (pv 6))) pa_nil)))
(pss_one
 (ps_ret (pe_and (pe_call G__law_is (hr.mono (by decide)) (by rfl) D__law_is.g D__law_is.F.kp D__law_is.b .nil pass0 (pa_cons (pe_call G_between (hr.mono (by decide)) (by rfl) D_between.g D_between.F.kp D_between.b .nil pass0 (pa_cons (pv 0) (pa_cons (pv 3) (pa_cons (pv 4) pa_nil)))) (pa_cons (pv 5) pa_nil))) (pe_one (pe_call G__law_is (hr.mono (by decide)) (by rfl) D__law_is.g D__law_is.F.kp D__law_is.b .nil pass0 (pa_cons (pe_call G_between (hr.mono (by decide)) (by rfl) D_between.g D_between.F.kp D_between.b .nil pass0 (pa_cons (pv 1) (pa_cons (pv 4) (pa_cons (pv 3) pa_nil)))) (pa_cons (pv 5) pa_nil)))))))), ?_⟩

    walk_at "q"
    apply s_setE
    apply e_cb1
    apply e_lc
    refine e_itT (by walk_at "v") (SqT.of (S.lo.tup u q hq)) ?_
    refine lc_w walk_tup (fun D i H' => Same H H' ∧ H' D = some (.lst ((((L u).take i).filter (fun x => !(decide (x = u) || decide (x = v)) && decide (v ∈ L x))).map nV))) (fun D hD => ⟨same_new hD, upd_same⟩) (fun D i H' _ p => SqT.of (p.1 _ _ (S.lo.tup u q hq))) ?_ ?_
    · rintro D i x _ H1 hD hi ⟨s1, hd⟩ ⟨rfl, hx⟩
      obtain ⟨y, hy, rfl⟩ := get_of_map hx
      have hyL := List.mem_of_getElem? hy
      have hyn := ((LU.2 y).mp hyL).1
      have acc_l : (((L u).take i).filter (fun x => !(decide (x = u) || decide (x = v)) && decide (v ∈ L x))).length ≤ 1000 := by
        refine Nat.le_trans (List.length_filter_le _ _) ?_
        rw [List.length_take]
        omega
      have no : ∀ H5, Same H1 H5 → (!(decide (y = u) || decide (y = v)) && decide (v ∈ L y)) = false → Same H H5 ∧ H5 D = some (.lst ((((L u).take (i + 1)).filter (fun x => !(decide (x = u) || decide (x = v)) && decide (v ∈ L x))).map nV)) := fun H5 e hf => by
        rw [filter_snoc hy, hf, if_neg Bool.false_ne_true, List.append_nil]
        exact ⟨s1.trans e, e _ _ hd⟩
      refine ⟨rfl, ?_⟩
      refine ⟨_, rfl, ?_⟩
      apply e_tup (by walk_at "a") (by walk_at "z")
      intro p np
      refine ⟨p, _, rfl, .inr (SqT.of upd_same), rfl, rfl, _, rfl, ?_⟩
      rw [inV_two]
      have hsp := same_new (o := .tup [nV u, nV v]) np
      cases hbb : (decide (y = u) || decide (y = v)) with
      | true =>
        refine iteF (no _ hsp ?_)
        rw [hbb]
        rfl
      | false =>
        refine iteT ?_
        have S2 := S.same (s1.trans hsp)
        obtain ⟨qy, hqy⟩ : ∃ qy, lp[y]? = some qy := ⟨lp[y]'(by omega), List.getElem?_eq_getElem (by omega)⟩
        have haty : atI (lp.map V.ref) (y : Int) = some (.ref qy) := atI_nat (map_get hqy)
        have hSy : SqL K (upd H1 p (.tup [nV u, nV v])) lo (lp.map V.ref) := SqL.of S2.lo.lst
        have hTy : SqT K (upd H1 p (.tup [nV u, nV v])) qy ((L y).map nV) := SqT.of (S2.lo.tup y qy hqy)
        apply An.run
        · walk_at "t"
        cases hvv : decide (v ∈ L y) with
        | false =>
          refine iteF (no _ hsp ?_)
          rw [hvv, Bool.and_false]
        | true =>
          refine iteT ?_
          refine Vl.run (by walk_at "v") _ ⟨_, hsp _ _ hd, by rw [List.length_map, sizeLine_eq]; omega, Same.mut (s1.trans hsp) hD, ?_⟩
          rw [filter_snoc hy, if_pos (by rw [hbb, hvv]; rfl), List.map_append]
          exact upd_same
    rintro D H1 nD ⟨s1, hD⟩
    rw [List.length_map, List.take_length] at hD
    refine ⟨D, _, rfl, .inl ⟨SqL.of hD, fun du ndu => ?_⟩⟩
    dsimp only
    have LD0 := lot_filter_of LU (fun x => !(decide (x = u) || decide (x = v)) && decide (v ∈ L x))
    have LD : Lot ((L u).filter (fun x => !(decide (x = u) || decide (x = v)) && decide (v ∈ L x))) (fun x => x < n ∧ Rc ar u x ∧ Rc ar x v ∧ x ≠ u ∧ x ≠ v) := by
      refine ⟨LD0.1, fun x => ?_⟩
      rw [LD0.2]
      simp only [Bool.and_eq_true, Bool.not_eq_true', Bool.or_eq_false_iff, decide_eq_true_eq, decide_eq_false_iff_not]
      constructor
      · rintro ⟨⟨h1, h2⟩, ⟨h3, h4⟩, h5⟩
        exact ⟨h1, h2, (((S.lo.lot x h1).2 v).mp h5).2, h3, h4⟩
      · rintro ⟨h1, h2, h3, h4, h5⟩
        exact ⟨⟨h1, h2⟩, ⟨h4, h5⟩, ((S.lo.lot x h1).2 v).mpr ⟨hv, h3⟩⟩
    have s2 : Same H (upd H1 du (.tup (((L u).filter (fun x => !(decide (x = u) || decide (x = v)) && decide (v ∈ L x))).map nV))) := s1.trans (same_new ndu)
    have hdu : upd H1 du (.tup (((L u).filter (fun x => !(decide (x = u) || decide (x = v)) && decide (v ∈ L x))).map nV)) du = some (.tup (((L u).filter (fun x => !(decide (x = u) || decide (x = v)) && decide (v ∈ L x))).map nV)) := upd_same
    generalize ((L u).filter (fun x => !(decide (x = u) || decide (x = v)) && decide (v ∈ L x))) = ds at s2 hdu LD ⊢
    generalize upd H1 du (.tup (ds.map nV)) = H2 at s2 hdu ⊢
    have S2 := S.same s2
    have ldl : ds.length ≤ n := LD.len fun x h => h.1
    apply s_retE
    apply e_callA
    apply e_argE
    refine e_call (by walk_at "a") ⟨we, n, u, v, ar, rfl, S2.we, S.va, by omega, by have := S.hm; omega, hu, hv, fun H3 q3 xs3 s3 _ hq3 L3 => ?_⟩
    apply e_arg (x := .ref du) (by walk_at "v")
    have e3 : xs3 = ds := L3.ext LD fun x => Iff.rfl
    subst e3
    refine ⟨.ref q3, .ref du, rfl, eqD_nats (SqT.of hq3) (SqT.of (s3 _ _ hdu)) (by omega), fun H4 s4 => ⟨_, rfl, iteT ?_⟩⟩
    have s24 := s3.trans s4
    have S4 := S2.same s24
    apply e_callA
    apply e_argE
    refine e_call (by walk_at "a") ⟨tu, n, v, u, swapA ar, rfl, S4.tu, S.va.swap, by omega, by rw [swapA_len]; have := S.hm; omega, hv, hu, fun H5 q5 xs5 s5 _ hq5 L5 => ?_⟩
    apply e_arg (x := .ref du) (by walk_at "v")
    have e5 : xs5 = xs3 := L5.ext LD fun x => by
      rw [Rc.swap_iff, Rc.swap_iff]
      constructor
      · rintro ⟨h1, h2, h3, h4, h5⟩
        exact ⟨h1, h3, h2, h5, h4⟩
      · rintro ⟨h1, h2, h3, h4, h5⟩
        exact ⟨h1, h3, h2, h5, h4⟩
    subst e5
    exact ⟨.ref q5, .ref du, rfl, eqD_nats (SqT.of hq5) (SqT.of ((s24.trans s5) _ _ hdu)) (by omega), fun H6 s6 => k _ (s2.trans ((s24.trans s5).trans s6))⟩
theorem idx_of {os : List Nat} (nd : os.Nodup) {i x : Nat} (h : os[i]? = some x) : os.idxOf x = i := by
  obtain ⟨hl, e⟩ := List.getElem?_eq_some_iff.mp h
  rw [← e]
  exact nd.idxOf_getElem i hl
theorem up_rank {os : List Nat} {ar : List (Nat × Nat)} (nd : os.Nodup) (h : ∀ p ∈ ar, Up os p) : Rank ar := ⟨fun x => os.idxOf x, fun p hp => by
  obtain ⟨i, j, hij, h1, h2⟩ := h p hp
  show os.idxOf p.1 < os.idxOf p.2
  rw [idx_of nd h1, idx_of nd h2]
  exact hij⟩
theorem up_valid {os : List Nat} {n : Nat} {ar : List (Nat × Nat)} (pm : os.Perm (List.range n)) (h : ∀ p ∈ ar, Up os p) : Valid n ar := fun p hp => by
  obtain ⟨i, j, hij, h1, h2⟩ := h p hp
  exact ⟨List.mem_range.mp (pm.mem_iff.mp (List.mem_of_getElem? h1)), List.mem_range.mp (pm.mem_iff.mp (List.mem_of_getElem? h2))⟩
def spLaw (K : PySem.W.Frag) : Sp := fun vs H Q _ => ∃ (a : Addr) (ns : List Int), vs = [.ref a] ∧ SqL K H a (ns.map V.int) ∧ ns.length ≤ 63 ∧ ∀ H', Q (.bl true) H'
end
end E1

namespace E1
open PySem L2
local macro_rules | `(tactic| walk_at "ne") => `(tactic| first | assumption | exact Ne.symm (by assumption) | exact ne_of_none (by walk_at "h") (by assumption) | exact Ne.symm (ne_of_none (by walk_at "h") (by assumption)))
local macro_rules | `(tactic| walk_at "h") => `(tactic| first | assumption | exact upd_same | (rw [upd_ne (by walk_at "ne")]; walk_at "h"))
local macro_rules | `(tactic| walk_at "sq") => `(tactic| first | assumption | exact SqL.of (by walk_at "h") | exact SqT.of (by walk_at "h") | exact .inl (SqL.of (by walk_at "h")) | exact .inr (SqT.of (by walk_at "h")) | exact .inl (by assumption) | exact .inr (by assumption))
local macro_rules | `(tactic| walk_at "at") => `(tactic| first | assumption | exact rfl | exact atI_last _ _ | exact atI_nats (by assumption))
local macro_rules | `(tactic| walk_at "c") => `(tactic| first | assumption | decide | omega | exact ⟨by omega, by omega⟩ | exact .inr ⟨by decide, by decide⟩ | exact .inl ⟨by decide, by decide⟩ | exact .inl ⟨by omega, by omega⟩ | exact ⟨by decide, by decide, by decide⟩)
local macro_rules | `(tactic| walk_at "cl") => `(tactic| first | exact ClsV.ty _ | exact ClsV.own _)
local macro_rules | `(tactic| walk_at "ty") => `(tactic| first | assumption | exact ty_T (by assumption) | exact ty_L (by assumption) | exact ty_flat (by assumption) | exact .base (.int _) | exact .base .non | exact .base (.bl _) | exact .base (.str _))
local macro_rules | `(tactic| walk_at "kt") => `(tactic| first | assumption | exact int_int | exact int_bool | exact tuple_tuple | exact list_tuple | exact tuple_int | exact bool_flat (by assumption) | exact int_flat (by assumption) | exact tuple_flat (by assumption))
local macro_rules | `(tactic| walk_at "v") => `(tactic| first
  | exact vl_var rfl
  | exact vl_c
  | (apply vl_add; walk_at "v"; walk_at "v")
  | (apply vl_sub; walk_at "v"; walk_at "v")
  | (apply vl_mul; walk_at "v"; walk_at "v"; walk_at "c")
  | (apply vl_mod; walk_at "v"; walk_at "v"; walk_at "c")
  | (apply vl_fdiv; walk_at "v"; walk_at "v"; walk_at "c")
  | (apply vl_pow; walk_at "v"; walk_at "v"; walk_at "c")
  | (apply vl_ixL; walk_at "v"; walk_at "v"; walk_at "sq"; walk_at "at")
  | (apply vl_ixT; walk_at "v"; walk_at "v"; walk_at "sq"; walk_at "at")
  | (apply vl_len; walk_at "v"; walk_at "sq")
  | (apply vl_int; walk_at "v")
  | (apply vl_abs; walk_at "v")
  | (apply vl_min2; walk_at "v"; walk_at "v")
  | (apply vl_max2; walk_at "v"; walk_at "v")
  | (apply vl_neg; walk_at "v")
  | (apply vl_eqI; walk_at "v"; walk_at "v")
  | (apply vl_neI; walk_at "v"; walk_at "v")
  | (apply vl_lt; walk_at "v"; walk_at "v")
  | (apply vl_le; walk_at "v"; walk_at "v")
  | (apply vl_gt; walk_at "v"; walk_at "v")
  | (apply vl_ge; walk_at "v"; walk_at "v")
  | (apply vl_eqB; walk_at "v"; walk_at "v")
  | (apply vl_neB; walk_at "v"; walk_at "v")
  | (apply vl_eqS; walk_at "v"; walk_at "v"; assumption)
  | (apply vl_chain; walk_at "v"; walk_at "v"; walk_at "v")
  | (apply vl_ifI; walk_at "t"; (intro _; walk_at "v"); (intro _; walk_at "v"))
  | (apply vl_isi; walk_at "v"; walk_at "v"; walk_at "cl"; walk_at "ty"; walk_at "kt")
  | (apply vl_fld; walk_at "v"; walk_at "h"; assumption; assumption; first | exact wf_places _ _ | exact wf_arrows _ _)
  | (apply vl_inN; walk_at "v"; walk_at "v"; walk_at "sq")
  | (apply vl_notInN; walk_at "v"; walk_at "v"; walk_at "sq")
  | (apply vl_not; walk_at "v")
  | (apply vl_andL; walk_at "v"; intro _; walk_at "v")
  | (apply vl_orL; walk_at "v"; intro _; walk_at "v"))
local macro_rules | `(tactic| walk_at "t") => `(tactic| first
  | (apply an_and; walk_at "t"; intro _; walk_at "t")
  | (apply an_or; walk_at "t"; intro _; walk_at "t")
  | (apply an_not; walk_at "t")
  | (apply an_of; walk_at "v")
  | (apply an_val; walk_at "v"))
local macro_rules | `(tactic| walk_at "a") => `(tactic| first | exact ar_nil | (apply ar_cons; walk_at "v"; walk_at "a"))
local macro_rules | `(tactic| walk_at "n1") => `(tactic| first
  | (apply s_set; walk_at "v")
  | (apply s_setL; walk_at "v"; walk_at "v"; walk_at "v"; walk_at "h"; walk_at "at")
  | (apply s_augI; exact rfl; walk_at "v")
  | (apply s_app; walk_at "v"; walk_at "v"; walk_at "h"; walk_at "c")
  | (apply s_ret; walk_at "v")
  | (apply s_retL; walk_at "a"; walk_at "z")
  | (apply s_retT; walk_at "a"; walk_at "z")
  | (apply s_setNL; walk_at "a"; walk_at "z")
  | (apply s_setNT; walk_at "a"; walk_at "z")
  | (apply s_if; walk_at "t"))
local macro_rules | `(tactic| walk_at "n") => `(tactic| ((try dsimp only); (try (with_reducible apply st_next; try dsimp only)); first | (apply st_seq; walk_at "n1") | walk_at "n1"))
local macro_rules | `(tactic| walk_at "z") => `(tactic| (simp only [List.length_cons, List.length_nil]; omega))
local macro_rules | `(tactic| walk_at "q") => `(tactic| ((try dsimp only); apply st_seq))

section
variable {P : Program} {w : World} {K : PySem.W.Frag} {mg : Str → Option Value} {base : Heap}
abbrev s_law : Stmt := top 30
abbrev N_law : List Str := ["script", "hand", "places", "many", "order", "arrows", "web", "turned", "lots", "place", "pairs", "turn", "number", "u", "v"]
theorem sc_law : FnScope N_law ["script"] (defScope s_law) := ⟨rfl, rfl, rfl, by decide +kernel, rfl, by decide +kernel, by decide +kernel⟩

theorem ok_law {f fH fD fO fI fM fF fP fB C : Addr} {fd fdH fdD fdO fdI fdM fdF fdP fdB : FuncData} (F : Fun K "law" "law" s_law f fd) (T : Bi mg) (D_Web : Wb K mg C fI fdI)
    (D__law_hand : Dn K mg "_law_hand" s__law_hand ["script"] fH fdH) (D__law_draw : Dn K mg "_law_draw" s__law_draw ["hand", "many"] fD fdD) (D__law_ordered : Dn K mg "_law_ordered" s__law_ordered ["hand", "places", "many", "far"] fO fdO)
    (D_mirrored : Dn K mg "mirrored" s_mirrored ["web"] fM fdM) (D__law_found : Dn K mg "_law_found" s__law_found ["arrows", "place"] fF fdF) (D__law_place_right : Dn K mg "_law_place_right" s__law_place_right ["web", "turned", "lots", "place"] fP fdP)
    (D__law_between_right : Dn K mg "_law_between_right" s__law_between_right ["web", "turned", "lots", "u", "v"] fB fdB)
    (G_Web : FnOk P w K mg base CX0 3 fI fdI ["self", "places", "arrows"] (spInit K C)) (G__law_hand : FnOk P w K mg base CX0 1 fH fdH ["script"] (spHand K)) (G__law_draw : FnOk P w K mg base CX0 1 fD fdD ["hand", "many"] spDraw)
    (G__law_ordered : FnOk P w K mg base CX0 3 fO fdO ["hand", "places", "many", "far"] spOrdered) (G_mirrored : FnOk P w K mg base CX0 6 fM fdM ["web"] (spMirror K C)) (G__law_found : FnOk P w K mg base CX0 1 fF fdF ["arrows", "place"] (spFound K))
    (G__law_place_right : FnOk P w K mg base CX0 4 fP fdP ["web", "turned", "lots", "place"] (spPlace K C)) (G__law_between_right : FnOk P w K mg base CX0 5 fB fdB ["web", "turned", "lots", "u", "v"] (spBetR K C)) :
    FnOk P w K mg base CX0 7 f fd ["script"] (spLaw K) := by
  have nd := sc_law.nd
  refine F.ok sc_law (fun vs H Q E h => ?_) (fun cdv A outer s H vs Q E hr h => ?_)
  · obtain ⟨a, ns, rfl, _⟩ := h
    rfl
  · obtain ⟨sa, ns, rfl, hS, hlen, k⟩ := h
    refine ⟨_, (pss_cons
 (ps_set (i := 1) nd rfl (Or.inr rfl) (pe_call G__law_hand (hr.mono (by decide)) (by rfl) D__law_hand.g D__law_hand.F.kp D__law_hand.b .nil pass0 (pa_cons (pv 0) pa_nil)))
(pss_cons
 (ps_set (i := 2) nd rfl (Or.inr rfl) (pe_op op_add pe_int (pe_call G__law_draw (hr.mono (by decide)) (by rfl) D__law_draw.g D__law_draw.F.kp D__law_draw.b .nil pass0 (pa_cons (pv 1) (pa_cons pe_int pa_nil)))))
(pss_cons
 (ps_set (i := 3) nd rfl (Or.inl rfl) (pe_call G__law_draw (hr.mono (by decide)) (by rfl) D__law_draw.g D__law_draw.F.kp D__law_draw.b .nil pass0 (pa_cons (pv 1) (pa_cons pe_int pa_nil))))
(Evl.pss_cut
 (ps_if (pt_cmpR op_eq (pe_call G__law_draw (hr.mono (by decide)) (by rfl) D__law_draw.g D__law_draw.F.kp D__law_draw.b .nil pass0 (pa_cons (pv 1) (pa_cons pe_int pa_nil))) pe_int (nomark _)) (pss_cons
 (ps_set (i := 2) nd rfl (Or.inr rfl) (pe_op op_add pe_int (pe_call G__law_draw (hr.mono (by decide)) (by rfl) D__law_draw.g D__law_draw.F.kp D__law_draw.b .nil pass0 (pa_cons (pv 1) (pa_cons pe_int pa_nil)))))
(pss_one
 (ps_set (i := 3) nd rfl (Or.inl rfl) (pe_op op_add pe_int (pe_call G__law_draw (hr.mono (by decide)) (by rfl) D__law_draw.g D__law_draw.F.kp D__law_draw.b .nil pass0 (pa_cons (pv 1) (pa_cons pe_int pa_nil))))))) pss_nil)
(pss_cons
 (ps_asg (pe_call G__law_ordered (hr.mono (by decide)) (by rfl) D__law_ordered.g D__law_ordered.F.kp D__law_ordered.b .nil pass0 (pa_cons (pv 1) (pa_cons (pv 2) (pa_cons (pv 3) (pa_cons (pe_op op_add pe_int (pe_call G__law_draw (hr.mono (by decide)) (by rfl) D__law_draw.g D__law_draw.F.kp D__law_draw.b .nil pass0 (pa_cons (pv 1) (pa_cons pe_int pa_nil)))) pa_nil))))) (pg_tup (by rfl) (pgs_cons (pg_name (i := 4) nd rfl (Or.inr rfl)) (pgs_cons (pg_name (i := 5) nd rfl (Or.inr rfl)) pgs_nil))))
(pss_cons
 (ps_set (i := 6) nd rfl (Or.inl rfl) (pe_make D_Web.M G_Web (hr.mono (by decide)) (by rfl) D_Web.g D_Web.b .nil pass0 (pa_cons (pv 2) (pa_cons (pv 5) pa_nil))))
(pss_cons
 (ps_set (i := 7) nd rfl (Or.inl rfl) (pe_call G_mirrored (hr.mono (by decide)) (by rfl) D_mirrored.g D_mirrored.F.kp D_mirrored.b .nil pass0 (pa_cons (pv 6) pa_nil)))
(pss_cons
 (ps_setLc (i := 8) (own := [("place", 9)]) (g := gName 9) (tt := tYes) (by rfl) nd rfl rfl (sw_true rfl rfl rfl (by decide +kernel)) (pi_range1 (by rfl) T.m_range (pa_cons (pv 2) pa_nil)) (blkOk_by (own := [("place", 9)]) (N := N_law) (sc := defScope s_law) (by decide +kernel)) (fun _ _ _ _ _ => (pg_name (i := 9) nd rfl (Or.inl rfl))) (fun _ _ _ _ _ => pts_nil) (fun _ _ _ _ _ => (pe_call G__law_found (hr.mono (by decide)) (by rfl) D__law_found.g D__law_found.F.kp D__law_found.b .nil pass0 (pa_cons (pv 5) (pa_cons (pv 9) pa_nil)))))
(pss_cons
 (ps_for PassesOwn.never rfl (pi_range1 (by rfl) T.m_range (pa_cons (pv 2) pa_nil)) (pg_name (i := 9) nd rfl (Or.inl rfl))
(pss_one
 (ps_if (pt_not (pt_val (pe_call G__law_place_right (hr.mono (by decide)) (by rfl) D__law_place_right.g D__law_place_right.F.kp D__law_place_right.b .nil pass0 (pa_cons (pv 6) (pa_cons (pv 7) (pa_cons (pv 8) (pa_cons (pv 9) pa_nil))))))) (pss_one
 (ps_ret pe_bl)) pss_nil)))
(pss_cons
 (ps_setLc (i := 10) (own := [("turn", 11)]) (g := gName 11) (tt := tYes) (by rfl) nd rfl rfl (sw_true rfl rfl rfl (by decide +kernel)) (pi_range1 (by rfl) T.m_range (pa_cons pe_int pa_nil)) (blkOk_by (own := [("turn", 11)]) (N := N_law) (sc := defScope s_law) (by decide +kernel)) (fun _ _ _ _ _ => (pg_name (i := 11) nd rfl (Or.inl rfl))) (fun _ _ _ _ _ => pts_nil) (fun _ _ _ _ _ => (pe_tup (pa_cons (pe_ix (ix_listK (K := K) rfl) (pv 4) (pe_call G__law_draw (hr.mono (by decide)) (by rfl) D__law_draw.g D__law_draw.F.kp D__law_draw.b .nil pass0 (pa_cons (pv 1) (pa_cons (pv 2) pa_nil))) (fun _ _ => rfl)) (pa_cons (pe_ix (ix_listK (K := K) rfl) (pv 4) (pe_call G__law_draw (hr.mono (by decide)) (by rfl) D__law_draw.g D__law_draw.F.kp D__law_draw.b .nil pass0 (pa_cons (pv 1) (pa_cons (pv 2) pa_nil))) (fun _ _ => rfl)) pa_nil)))))
(Evl.pss_cut
 (ps_if (pt_cmpR op_lt (pv 2) pe_int (nomark _)) (pss_one
 (ps_set (i := 10) nd rfl (Or.inl rfl) (pe_op op_cat (pv 10) (pe_lc (own := [("number", 12)]) (g := gName 12) (tt := tYes) (by rfl) nd (pi_range1 (by rfl) T.m_range (pa_cons (pe_op op_mul (pv 2) (pv 2)) pa_nil)) (blkOk_by (own := [("number", 12)]) (N := N_law) (sc := defScope s_law) (by decide +kernel)) (fun _ _ _ _ _ => (pg_name (i := 12) nd rfl (Or.inl rfl))) (fun _ _ _ _ _ => pts_nil) (fun _ _ _ _ _ => (pe_tup (pa_cons (pe_op op_fdiv (pv 12) (pv 2)) (pa_cons (pe_op op_mod (pv 12) (pv 2)) pa_nil)))))))) pss_nil)
(pss_cons
 (ps_for PassesOwn.never rfl (pi_list (pv 10)) (pg_tup (by rfl) (pgs_cons (pg_name (i := 13) nd rfl (Or.inl rfl)) (pgs_cons (pg_name (i := 14) nd rfl (Or.inl rfl)) pgs_nil)))
(pss_one
 (ps_if (pt_not (pt_val (pe_call G__law_between_right (hr.mono (by decide)) (by rfl) D__law_between_right.g D__law_between_right.F.kp D__law_between_right.b .nil pass0 (pa_cons (pv 6) (pa_cons (pv 7) (pa_cons (pv 8) (pa_cons (pv 13) (pa_cons (pv 14) pa_nil)))))))) (pss_one
 (ps_ret pe_bl)) pss_nil)))
(pss_one
 (ps_ret pe_bl)))))))))))))), ?_⟩
    walk_at "q"
    apply s_call (by walk_at "a")
    refine ⟨sa, ns, rfl, hS, by omega, fun H1 h c s1 nh nc hh1 => ?_⟩
    dsimp only
    walk_at "q"
    apply s_setE
    apply e_op (by walk_at "v")
    refine e_call (by walk_at "a") ⟨h, c, _, rfl, hh1, by decide, by decide, fun H2 d1 ch2 hh2 d1a d1b => ⟨_, _, rfl, rfl, ?_⟩⟩
    obtain ⟨n0, rfl⟩ : ∃ n0 : Nat, d1 = (n0 : Int) := ⟨d1.toNat, by omega⟩
    dsimp only
    walk_at "q"
    apply s_call (by walk_at "a")
    refine ⟨h, c, _, rfl, hh2, by decide, by decide, fun H3 d2 ch3 hh3 d2a d2b => ?_⟩
    obtain ⟨m0, rfl⟩ : ∃ m0 : Nat, d2 = (m0 : Int) := ⟨d2.toNat, by omega⟩
    dsimp only
    refine ⟨fun σ H => ∃ n m : Nat, σ = [some (.ref sa), some (.ref h), some (nV n), some (nV m), none, none, none, none, none, none, none, none, none, none, none] ∧ 1 ≤ n ∧ n ≤ 60 ∧ m ≤ 120 ∧ HandAt H h c, ?_, ?_⟩
    · refine e_call (by walk_at "a") ⟨h, c, _, rfl, hh3, by decide, by decide, fun H4 d3 ch4 hh4 _ _ => ⟨rfl, _, rfl, ite2 (fun _ => ?_) fun _ => ?_⟩⟩
      · walk_at "q"
        apply s_setE
        apply e_op (by walk_at "v")
        refine e_call (by walk_at "a") ⟨h, c, _, rfl, hh4, by decide, by decide, fun H5 d4 ch5 hh5 d4a d4b => ⟨_, _, rfl, rfl, ?_⟩⟩
        obtain ⟨n1, rfl⟩ : ∃ n1 : Nat, d4 = (n1 : Int) := ⟨d4.toNat, by omega⟩
        dsimp only
        apply s_setE
        apply e_op (by walk_at "v")
        refine e_call (by walk_at "a") ⟨h, c, _, rfl, hh5, by decide, by decide, fun H6 d5 ch6 hh6 d5a d5b => ⟨_, _, rfl, rfl, ?_⟩⟩
        obtain ⟨m1, rfl⟩ : ∃ m1 : Nat, d5 = (m1 : Int) := ⟨d5.toNat, by omega⟩
        exact ⟨30 + n1, 60 + m1, rfl, by omega, by omega, by omega, hh6⟩
      · exact ⟨1 + n0, m0, rfl, by omega, by omega, by omega, hh4⟩
    rintro σ H5 ⟨n, m, rfl, hn1, hn2, hm, hh5⟩

    walk_at "q"
    apply s_asgE
    apply e_callA
    apply e_arg (by walk_at "v")
    apply e_arg (by walk_at "v")
    apply e_arg (by walk_at "v")
    apply e_argE
    apply e_op (by walk_at "v")
    refine e_call (by walk_at "a") ⟨h, c, _, rfl, hh5, by decide, by decide, fun H6 d6 ch6 hh6 d6a d6b => ⟨_, _, rfl, rfl, ?_⟩⟩
    refine ⟨h, c, n, m, 1 + d6, rfl, hh6, hn1, by omega, by omega, by omega, fun H7 t o a os ar ts ch7 hh7 ht no ho ha pa pm up al => ?_⟩
    have osn : os.Nodup := pm.nodup_iff.mpr List.nodup_range
    have osl : os.length = n := by rw [pm.length_eq, List.length_range]
    have va := up_valid pm up
    have rk := up_rank osn up
    have oh := hh6.nh no
    refine g_two (SqT.of ht) ?_
    dsimp only

    walk_at "q"
    apply s_setE
    apply e_make (by walk_at "a")
    intro x dx nx ndx nex
    have s7 : Same H7 (upd (upd H7 dx (.own x)) x (.ins C dx [])) := fun b u e => by
      rw [upd_ne (ne_of_none e nx), upd_ne (ne_of_none e ndx)]
      exact e
    refine ⟨x, dx, a, n, ts, ar, rfl, upd_same, SqT.of (s7 _ _ ha), pa.keep (Tp.same s7), va, hn1, hn2, by omega, rk, fun H8 hx8 kp => ⟨rfl, ?_⟩⟩
    have s78 : Same H7 H8 := Same.made nx ndx fun b u e hb => kp b u hb e
    have w8 : WebAt K C H8 x n ar := ⟨dx, a, ts, hx8, SqT.of (s78 _ _ ha), pa.keep (Tp.same s78)⟩
    dsimp only

    walk_at "q"
    apply s_call (by walk_at "a")
    refine ⟨x, n, ar, rfl, w8, by omega, fun H9 tu s9 ntu wtu => ?_⟩
    have w9 := w8.same s9
    have hh9 := (hh7.same s78).same s9
    have ho9 := s9 _ _ (s78 _ _ ho)
    have ha9 := s9 _ _ (s78 _ _ ha)
    have pa9 := (pa.keep (Tp.same s78)).keep (Tp.same s9)
    dsimp only

    walk_at "q"
    apply s_lc
    refine e_rngN (n := n) (by walk_at "a") (by omega) ?_
    refine lc_w walk_rangeN (fun D i H' => Same H9 H' ∧ ∃ (lp : List Addr) (L : List (List Nat)), lp.length = i ∧ L.length = i ∧ H' D = some (.lst (lp.map V.ref)) ∧ (∀ (j : Nat) (q : Addr) (xs : List Nat), lp[j]? = some q → L[j]? = some xs → H' q = some (.tup (xs.map nV)) ∧ Lot xs (fun x => x < n ∧ Rc ar j x)))
      (fun D hD => ⟨same_new hD, [], [], rfl, rfl, upd_same, fun j q xs z => by simp at z⟩) (fun _ _ _ _ _ => trivial) ?_ ?_
    · rintro D i y _ H10 hD hi ⟨s10, lp, L, l1, l2, hd, hl⟩ ⟨rfl, rfl⟩
      refine ⟨rfl, ?_⟩
      apply e_yes
      refine e_call (by walk_at "a") ⟨n, i, a, ts, ar, rfl, SqT.of (s10 _ _ ha9), pa9.keep (Tp.same s10), va, hi, by omega, fun H11 q xs s11 nq hq LL => ?_⟩
      have hd11 := s11 _ _ hd
      refine ⟨_, hd11, by rw [List.length_map, sizeLine_eq]; omega, Same.mut (s10.trans s11) hD, lp ++ [q], L ++ [xs], by rw [List.length_append, l1]; rfl, by rw [List.length_append, l2]; rfl, by rw [upd_same, List.map_append]; rfl, fun j r ys hj hL => ?_⟩
      by_cases hji : j < i
      · rw [List.getElem?_append_left (by omega)] at hj hL
        obtain ⟨g1, g2⟩ := hl j r ys hj hL
        have g1' := s11 _ _ g1
        exact ⟨by rw [upd_ne (ne_of g1' hd11 (fun z => nomatch z))]; exact g1', g2⟩
      · have hj0 : j = i := by
          have := (List.getElem?_eq_some_iff.mp hj).1
          rw [List.length_append] at this
          simp at this
          omega
        subst hj0
        rw [← l1, List.getElem?_append_right (Nat.le_refl _), Nat.sub_self] at hj
        have e1 : q = r := Option.some.inj hj
        rw [← l2, List.getElem?_append_right (Nat.le_refl _), Nat.sub_self] at hL
        have e2 : xs = ys := Option.some.inj hL
        subst e1 e2
        exact ⟨by rw [upd_ne (ne_of hq hd11 (fun z => nomatch z))]; exact hq, LL⟩
    rintro lo H10 nlo ⟨s10, lp, L, l1, l2, hd, hl⟩
    have S10 : Sit K C H10 x tu lo n ar (fun j => L.getD j []) lp := by
      refine ⟨w9.same s10, wtu.same s10, ⟨hd, l1, fun i q hq => ?_, fun i hi => ?_⟩, va, rk, by omega, by omega⟩
      · have hil : i < L.length := by have := (List.getElem?_eq_some_iff.mp hq).1; omega
        have e : L.getD i [] = L[i] := by rw [List.getD_eq_getElem?_getD, List.getElem?_eq_getElem hil]; rfl
        show H10 q = some (.tup ((L.getD i []).map nV))
        rw [e]
        exact (hl i q _ hq (List.getElem?_eq_getElem hil)).1
      · have hil : i < L.length := by omega
        have e : L.getD i [] = L[i] := by rw [List.getD_eq_getElem?_getD, List.getElem?_eq_getElem hil]; rfl
        show Lot (L.getD i []) _
        rw [e]
        exact (hl i (lp[i]'(by omega)) _ (List.getElem?_eq_getElem (by omega)) (List.getElem?_eq_getElem hil)).2
    have hh10 := hh9.same s10
    have loh := hh9.nh nlo
    have ho10 := s10 _ _ ho9
    dsimp only

    walk_at "q"
    apply s_for
    refine e_rngN (n := n) (by walk_at "a") (by omega) ?_
    refine for_w walk_rangeN (fun i σ H' => ∃ x9, σ = [some (.ref sa), some (.ref h), some (nV n), some (nV m), some (.ref o), some (.ref a), some (.ref x), some (.ref tu), some (.ref lo), x9, none, none, none, none, none] ∧ Same H10 H') ⟨none, rfl, Same.refl _⟩ (fun _ _ _ _ _ => trivial) ?_ ?_
    · rintro i y σ _ H11 hi ⟨x9, rfl, s11⟩ ⟨rfl, rfl⟩
      refine e_call (by walk_at "a") ⟨x, tu, lo, n, i, ar, _, lp, rfl, S10.same s11, hi, fun H12 s12 => ⟨_, rfl, iteF ⟨_, rfl, s11.trans s12⟩⟩⟩
    rintro σ H11 ⟨x9, rfl, s11⟩
    have S11 := S10.same s11
    have hh11 := hh10.same s11
    have ho11 := s11 _ _ ho10
    obtain ⟨hl11, hg11⟩ := hh11.gh

    walk_at "q"
    apply s_lc
    refine e_rngN (n := 20) (by walk_at "a") (by decide) ?_
    refine lc_w walk_rangeN (fun D i H' => Ch h H11 H' ∧ HandAt H' h c ∧ ∃ ps prs, H' D = some (.lst ps) ∧ PairsAt H' ps prs ∧ Valid n prs ∧ prs.length = i) (fun D hD => ⟨Ch.same (same_new hD), hh11.same (same_new hD), [], [], upd_same, PairsAt.nil, (fun _ z => by cases z), rfl⟩) (fun _ _ _ _ _ => trivial) ?_ ?_
    · rintro D i y _ H12 hD hi ⟨ch12, hh12, ps, prs, hd12, pp, vp, pl⟩ ⟨rfl, rfl⟩
      have Dh := hh11.nh hD
      have Dc := hh11.nc hD
      refine ⟨rfl, ?_⟩
      apply e_yes
      apply e_tupE
      apply e_argE
      apply e_op (x := .ref o) (by walk_at "v")
      refine e_call (by walk_at "a") ⟨h, c, _, rfl, hh12, by omega, by omega, fun H13 e1 ch13 hh13 e1a e1b => ?_⟩
      obtain ⟨j1, rfl⟩ : ∃ j1 : Nat, e1 = (j1 : Int) := ⟨e1.toNat, by omega⟩
      obtain ⟨u, hu⟩ : ∃ u, os[j1]? = some u := ⟨os[j1]'(by omega), List.getElem?_eq_getElem (by omega)⟩
      have ho13 : H13 o = some (.lst (os.map nV)) := ch13 _ _ oh (ch12 _ _ oh ho11)
      refine ⟨o, _, _, nV u, rfl, rfl, SqL.of ho13, atI_nats hu, ?_⟩
      apply e_argE
      apply e_op (x := .ref o) (by walk_at "v")
      refine e_call (by walk_at "a") ⟨h, c, _, rfl, hh13, by omega, by omega, fun H14 e2 ch14 hh14 e2a e2b => ?_⟩
      obtain ⟨j2, rfl⟩ : ∃ j2 : Nat, e2 = (j2 : Int) := ⟨e2.toNat, by omega⟩
      obtain ⟨v, hv⟩ : ∃ v, os[j2]? = some v := ⟨os[j2]'(by omega), List.getElem?_eq_getElem (by omega)⟩
      have ho14 : H14 o = some (.lst (os.map nV)) := ch14 _ _ oh ho13
      refine ⟨o, _, _, nV v, rfl, rfl, SqL.of ho14, atI_nats hv, ?_⟩
      refine ⟨by show 2 ≤ sizeLine; decide, fun T nT => ?_⟩
      obtain ⟨g1, hg1⟩ := hh12.gh
      obtain ⟨g2, hg2⟩ := hh13.gh
      have hd14 : H14 D = some (.lst ps) := ch14 _ _ Dh (ch13 _ _ Dh hd12)
      have pp14 := (pp.keep (ch13.tp hg1)).keep (ch14.tp hg2)
      have hd15 : upd H14 T (.tup [nV u, nV v]) D = some (.lst ps) := by rw [upd_ne (ne_of_none hd14 nT)]; exact hd14
      have un : u < n := List.mem_range.mp (pm.mem_iff.mp (List.mem_of_getElem? hu))
      have vn : v < n := List.mem_range.mp (pm.mem_iff.mp (List.mem_of_getElem? hv))
      refine ⟨ps, hd15, by rw [pp.1, sizeLine_eq]; omega, (((ch12.trans ch13).trans ch14).new nT).mut hD, (hh14.same (same_new nT)).mut Dh Dc, ps ++ [.ref T], prs ++ [(u, v)], upd_same, ((pp14.keep (tp_new nT)).snoc (p := (u, v)) upd_same).keep (tp_upd hd15), vp.append ?_, by rw [List.length_append, pl]; rfl⟩
      intro p hp
      rw [List.mem_singleton.mp hp]
      exact ⟨un, vn⟩
    rintro pl0 H12 npl ⟨ch12, hh12, ps, prs, hpl, pp, vp, ppl⟩
    have S12 := S11.ch ch12 hg11 loh
    dsimp only

    refine ⟨fun σ H => ∃ (q : Addr) (ps : List V) (prs : List (Nat × Nat)), σ = [some (.ref sa), some (.ref h), some (nV n), some (nV m), some (.ref o), some (.ref a), some (.ref x), some (.ref tu), some (.ref lo), x9, some (.ref q), none, none, none, none] ∧ H q = some (.lst ps) ∧ PairsAt H ps prs ∧ Valid n prs ∧ Sit K C H x tu lo n ar (fun j => L.getD j []) lp, ?_, ?_⟩
    · apply s_if
      · walk_at "t"
      · intro hb
        have hn7 : n < 7 := by
          have := of_decide_eq_true hb
          omega
        apply s_setE
        apply e_op (x := .ref pl0) (by walk_at "v")
        apply e_lc
        have enn : ((n * n : Nat) : Int) = (n : Int) * (n : Int) := by simp
        have hnn : n * n ≤ 36 := by
          have : n ≤ 6 := by omega
          exact Nat.mul_le_mul this this
        refine e_rngN (n := n * n) (by rw [enn]; walk_at "a") (by omega) ?_
        refine lc_w walk_rangeN (fun D i H' => Same H12 H' ∧ ∃ qs qrs, H' D = some (.lst qs) ∧ PairsAt H' qs qrs ∧ Valid n qrs ∧ qrs.length = i) (fun D hD => ⟨same_new hD, [], [], upd_same, PairsAt.nil, (fun _ z => by cases z), rfl⟩) (fun _ _ _ _ _ => trivial) ?_ ?_
        · rintro D i y _ H13 hD hi ⟨s13, qs, qrs, hd13, qp, vq, ql⟩ ⟨rfl, rfl⟩
          refine ⟨rfl, ?_⟩
          apply e_yes
          refine e_tup (vs := [nV (i / n), nV (i % n)]) ?_ (by walk_at "z") fun T nT => ?_
          · show Ar _ _ _ [V.int ((i : Int) / (n : Int)), V.int ((i : Int) % (n : Int))]
            walk_at "a"
          have hd14 : upd H13 T (.tup [nV (i / n), nV (i % n)]) D = some (.lst qs) := by rw [upd_ne (ne_of_none hd13 nT)]; exact hd13
          refine ⟨qs, hd14, by rw [qp.1, sizeLine_eq]; omega, Same.mut (s13.trans (same_new nT)) hD, qs ++ [.ref T], qrs ++ [(i / n, i % n)], upd_same, ((qp.keep (tp_new nT)).snoc (p := (i / n, i % n)) upd_same).keep (tp_upd hd14), vq.append ?_, by rw [List.length_append, ql]; rfl⟩
          intro p hp
          rw [List.mem_singleton.mp hp]
          exact ⟨Nat.div_lt_of_lt_mul hi, Nat.mod_lt _ (by omega)⟩
        · rintro D H13 nD ⟨s13, qs, qrs, hd13, qp, vq, ql⟩
          refine ⟨pl0, D, ps, qs, rfl, rfl, s13 _ _ hpl, hd13, by rw [pp.1, qp.1, sizeLine_eq]; omega, fun q nq => ?_⟩
          have s14 : Same H12 (upd H13 q (.lst (ps ++ qs))) := s13.trans (same_new nq)
          exact ⟨q, ps ++ qs, prs ++ qrs, rfl, upd_same, ((pp.keep (Tp.same s13)).append qp).keep (tp_new nq), vp.append vq, S12.same s14⟩
      · intro _
        exact ⟨pl0, ps, prs, rfl, hpl, pp, vp, S12⟩
    rintro σ H13 ⟨q, ps, prs, rfl, hq, pp, vp, S13⟩
    walk_at "q"
    apply s_for
    refine e_itL (by walk_at "v") (SqL.of hq) ?_
    refine for_w walk_list (fun i σ H' => ∃ x13 x14, σ = [some (.ref sa), some (.ref h), some (nV n), some (nV m), some (.ref o), some (.ref a), some (.ref x), some (.ref tu), some (.ref lo), x9, some (.ref q), none, none, x13, x14] ∧ Same H13 H') ⟨none, none, rfl, Same.refl _⟩ (fun i σ H' _ ⟨_, _, _, s⟩ => SqL.of (s _ _ hq)) ?_ ?_
    · rintro i y σ _ H14 hi ⟨x13, x14, rfl, s14⟩ ⟨rfl, hy⟩
      obtain ⟨p, tp, hp, rfl, htp⟩ := pp.at hy
      have vpp := vp p (List.mem_of_getElem? hp)
      refine g_two (SqT.of (s14 _ _ htp)) ?_
      refine e_call (by walk_at "a") ⟨x, tu, lo, n, p.1, p.2, ar, _, lp, rfl, S13.same s14, vpp.1, vpp.2, fun H15 s15 => ⟨_, rfl, iteF ⟨_, _, rfl, s14.trans s15⟩⟩⟩
    · rintro σ H14 ⟨x13, x14, rfl, s14⟩
      walk_at "n"
      exact k _
end
end E1

namespace E1
open PySem L2
section
theorem all_mk {l : PySem.W.OpenLaw} {w : World} {K : PySem.W.Frag} {h : Heap} {mg : Str → Option Value} {fa : Addr} (X : K.In h) (G : h.Ns mainGlobals mg) (hfa : mg "law" = some (.ref fa))
    {f_0 : Addr} {od_0 an_0 : Option Addr} {sl_0 : Array (Option Value)} {oc_0 kV_0 dc_0 pm_0 cd_0 ct_0 : Value} {f_1 : Addr} {od_1 an_1 : Option Addr} {sl_1 : Array (Option Value)} {oc_1 kV_1 dc_1 pm_1 cd_1 ct_1 : Value} {f_2 : Addr} {od_2 an_2 : Option Addr} {sl_2 : Array (Option Value)} {oc_2 kV_2 dc_2 pm_2 cd_2 ct_2 : Value} {f_3 : Addr} {od_3 an_3 : Option Addr} {sl_3 : Array (Option Value)} {oc_3 kV_3 dc_3 pm_3 cd_3 ct_3 : Value} {f_4 : Addr} {od_4 an_4 : Option Addr} {sl_4 : Array (Option Value)} {oc_4 kV_4 dc_4 pm_4 cd_4 ct_4 : Value} {f_5 : Addr} {od_5 an_5 : Option Addr} {sl_5 : Array (Option Value)} {oc_5 kV_5 dc_5 pm_5 cd_5 ct_5 : Value} {f_6 : Addr} {od_6 an_6 : Option Addr} {sl_6 : Array (Option Value)} {oc_6 kV_6 dc_6 pm_6 cd_6 ct_6 : Value} {f_7 : Addr} {od_7 an_7 : Option Addr} {sl_7 : Array (Option Value)} {oc_7 kV_7 dc_7 pm_7 cd_7 ct_7 : Value} {f_8 : Addr} {od_8 an_8 : Option Addr} {sl_8 : Array (Option Value)} {oc_8 kV_8 dc_8 pm_8 cd_8 ct_8 : Value} {f_9 : Addr} {od_9 an_9 : Option Addr} {sl_9 : Array (Option Value)} {oc_9 kV_9 dc_9 pm_9 cd_9 ct_9 : Value} {f_10 : Addr} {od_10 an_10 : Option Addr} {sl_10 : Array (Option Value)} {oc_10 kV_10 dc_10 pm_10 cd_10 ct_10 : Value} {f_11 : Addr} {od_11 an_11 : Option Addr} {sl_11 : Array (Option Value)} {oc_11 kV_11 dc_11 pm_11 cd_11 ct_11 : Value} {f_12 : Addr} {od_12 an_12 : Option Addr} {sl_12 : Array (Option Value)} {oc_12 kV_12 dc_12 pm_12 cd_12 ct_12 : Value} {f_13 : Addr} {od_13 an_13 : Option Addr} {sl_13 : Array (Option Value)} {oc_13 kV_13 dc_13 pm_13 cd_13 ct_13 : Value} {f_14 : Addr} {od_14 an_14 : Option Addr} {sl_14 : Array (Option Value)} {oc_14 kV_14 dc_14 pm_14 cd_14 ct_14 : Value} {f_15 : Addr} {od_15 an_15 : Option Addr} {sl_15 : Array (Option Value)} {oc_15 kV_15 dc_15 pm_15 cd_15 ct_15 : Value} {f_16 : Addr} {od_16 an_16 : Option Addr} {sl_16 : Array (Option Value)} {oc_16 kV_16 dc_16 pm_16 cd_16 ct_16 : Value} {f_17 : Addr} {od_17 an_17 : Option Addr} {sl_17 : Array (Option Value)} {oc_17 kV_17 dc_17 pm_17 cd_17 ct_17 : Value} {f_18 : Addr} {od_18 an_18 : Option Addr} {sl_18 : Array (Option Value)} {oc_18 kV_18 dc_18 pm_18 cd_18 ct_18 : Value} {f_19 : Addr} {od_19 an_19 : Option Addr} {sl_19 : Array (Option Value)} {oc_19 kV_19 dc_19 pm_19 cd_19 ct_19 : Value} {C_Web : Addr} {f_iWeb : Addr} {od_iWeb an_iWeb : Option Addr} {sl_iWeb : Array (Option Value)} {oc_iWeb kV_iWeb dc_iWeb pm_iWeb cd_iWeb ct_iWeb : Value} {t_MOST_PLACES : Tok} {t_MOST_ARROWS : Tok}
    (a_0 : PySem.W.nsIn K mainGlobals "whole_below" = some (some (.ref f_0))) (l_0 : K.lookup f_0 = some ⟨oc_0, od_0, .func (PySem.W.fnOf "whole_below" "whole_below" (defArgs s_whole_below) (defBody s_whole_below) (defScope s_whole_below) .none kV_0 dc_0 pm_0 an_0 cd_0 ct_0), sl_0⟩) (c_0 : PySem.W.codeIn K cd_0 "whole_below" = true) (k_0 : PySem.W.keepIn K (.ref f_0) = true) (a_1 : PySem.W.nsIn K mainGlobals "need_place" = some (some (.ref f_1))) (l_1 : K.lookup f_1 = some ⟨oc_1, od_1, .func (PySem.W.fnOf "need_place" "need_place" (defArgs s_need_place) (defBody s_need_place) (defScope s_need_place) .none kV_1 dc_1 pm_1 an_1 cd_1 ct_1), sl_1⟩) (c_1 : PySem.W.codeIn K cd_1 "need_place" = true) (k_1 : PySem.W.keepIn K (.ref f_1) = true) (a_2 : PySem.W.nsIn K mainGlobals "arrows_from" = some (some (.ref f_2))) (l_2 : K.lookup f_2 = some ⟨oc_2, od_2, .func (PySem.W.fnOf "arrows_from" "arrows_from" (defArgs s_arrows_from) (defBody s_arrows_from) (defScope s_arrows_from) .none kV_2 dc_2 pm_2 an_2 cd_2 ct_2), sl_2⟩) (c_2 : PySem.W.codeIn K cd_2 "arrows_from" = true) (k_2 : PySem.W.keepIn K (.ref f_2) = true) (a_3 : PySem.W.nsIn K mainGlobals "onward_order" = some (some (.ref f_3))) (l_3 : K.lookup f_3 = some ⟨oc_3, od_3, .func (PySem.W.fnOf "onward_order" "onward_order" (defArgs s_onward_order) (defBody s_onward_order) (defScope s_onward_order) .none kV_3 dc_3 pm_3 an_3 cd_3 ct_3), sl_3⟩) (c_3 : PySem.W.codeIn K cd_3 "onward_order" = true) (k_3 : PySem.W.keepIn K (.ref f_3) = true) (a_4 : PySem.W.nsIn K mainGlobals "spread" = some (some (.ref f_4))) (l_4 : K.lookup f_4 = some ⟨oc_4, od_4, .func (PySem.W.fnOf "spread" "spread" (defArgs s_spread) (defBody s_spread) (defScope s_spread) .none kV_4 dc_4 pm_4 an_4 cd_4 ct_4), sl_4⟩) (c_4 : PySem.W.codeIn K cd_4 "spread" = true) (k_4 : PySem.W.keepIn K (.ref f_4) = true) (a_5 : PySem.W.nsIn K mainGlobals "_is_arrow" = some (some (.ref f_5))) (l_5 : K.lookup f_5 = some ⟨oc_5, od_5, .func (PySem.W.fnOf "_is_arrow" "_is_arrow" (defArgs s__is_arrow) (defBody s__is_arrow) (defScope s__is_arrow) .none kV_5 dc_5 pm_5 an_5 cd_5 ct_5), sl_5⟩) (c_5 : PySem.W.codeIn K cd_5 "_is_arrow" = true) (k_5 : PySem.W.keepIn K (.ref f_5) = true) (a_6 : PySem.W.nsIn K mainGlobals "web_of_any_size" = some (some (.ref f_6))) (l_6 : K.lookup f_6 = some ⟨oc_6, od_6, .func (PySem.W.fnOf "web_of_any_size" "web_of_any_size" (defArgs s_web_of_any_size) (defBody s_web_of_any_size) (defScope s_web_of_any_size) .none kV_6 dc_6 pm_6 an_6 cd_6 ct_6), sl_6⟩) (c_6 : PySem.W.codeIn K cd_6 "web_of_any_size" = true) (k_6 : PySem.W.keepIn K (.ref f_6) = true) (a_7 : PySem.W.nsIn K mainGlobals "reached" = some (some (.ref f_7))) (l_7 : K.lookup f_7 = some ⟨oc_7, od_7, .func (PySem.W.fnOf "reached" "reached" (defArgs s_reached) (defBody s_reached) (defScope s_reached) .none kV_7 dc_7 pm_7 an_7 cd_7 ct_7), sl_7⟩) (c_7 : PySem.W.codeIn K cd_7 "reached" = true) (k_7 : PySem.W.keepIn K (.ref f_7) = true) (a_8 : PySem.W.nsIn K mainGlobals "reaching" = some (some (.ref f_8))) (l_8 : K.lookup f_8 = some ⟨oc_8, od_8, .func (PySem.W.fnOf "reaching" "reaching" (defArgs s_reaching) (defBody s_reaching) (defScope s_reaching) .none kV_8 dc_8 pm_8 an_8 cd_8 ct_8), sl_8⟩) (c_8 : PySem.W.codeIn K cd_8 "reaching" = true) (k_8 : PySem.W.keepIn K (.ref f_8) = true) (a_9 : PySem.W.nsIn K mainGlobals "between" = some (some (.ref f_9))) (l_9 : K.lookup f_9 = some ⟨oc_9, od_9, .func (PySem.W.fnOf "between" "between" (defArgs s_between) (defBody s_between) (defScope s_between) .none kV_9 dc_9 pm_9 an_9 cd_9 ct_9), sl_9⟩) (c_9 : PySem.W.codeIn K cd_9 "between" = true) (k_9 : PySem.W.keepIn K (.ref f_9) = true) (a_10 : PySem.W.nsIn K mainGlobals "mirrored" = some (some (.ref f_10))) (l_10 : K.lookup f_10 = some ⟨oc_10, od_10, .func (PySem.W.fnOf "mirrored" "mirrored" (defArgs s_mirrored) (defBody s_mirrored) (defScope s_mirrored) .none kV_10 dc_10 pm_10 an_10 cd_10 ct_10), sl_10⟩) (c_10 : PySem.W.codeIn K cd_10 "mirrored" = true) (k_10 : PySem.W.keepIn K (.ref f_10) = true) (a_11 : PySem.W.nsIn K mainGlobals "_law_hand" = some (some (.ref f_11))) (l_11 : K.lookup f_11 = some ⟨oc_11, od_11, .func (PySem.W.fnOf "_law_hand" "_law_hand" (defArgs s__law_hand) (defBody s__law_hand) (defScope s__law_hand) .none kV_11 dc_11 pm_11 an_11 cd_11 ct_11), sl_11⟩) (c_11 : PySem.W.codeIn K cd_11 "_law_hand" = true) (k_11 : PySem.W.keepIn K (.ref f_11) = true) (a_12 : PySem.W.nsIn K mainGlobals "_law_draw" = some (some (.ref f_12))) (l_12 : K.lookup f_12 = some ⟨oc_12, od_12, .func (PySem.W.fnOf "_law_draw" "_law_draw" (defArgs s__law_draw) (defBody s__law_draw) (defScope s__law_draw) .none kV_12 dc_12 pm_12 an_12 cd_12 ct_12), sl_12⟩) (c_12 : PySem.W.codeIn K cd_12 "_law_draw" = true) (k_12 : PySem.W.keepIn K (.ref f_12) = true) (a_13 : PySem.W.nsIn K mainGlobals "_law_is" = some (some (.ref f_13))) (l_13 : K.lookup f_13 = some ⟨oc_13, od_13, .func (PySem.W.fnOf "_law_is" "_law_is" (defArgs s__law_is) (defBody s__law_is) (defScope s__law_is) .none kV_13 dc_13 pm_13 an_13 cd_13 ct_13), sl_13⟩) (c_13 : PySem.W.codeIn K cd_13 "_law_is" = true) (k_13 : PySem.W.keepIn K (.ref f_13) = true) (a_14 : PySem.W.nsIn K mainGlobals "_law_shuffled" = some (some (.ref f_14))) (l_14 : K.lookup f_14 = some ⟨oc_14, od_14, .func (PySem.W.fnOf "_law_shuffled" "_law_shuffled" (defArgs s__law_shuffled) (defBody s__law_shuffled) (defScope s__law_shuffled) .none kV_14 dc_14 pm_14 an_14 cd_14 ct_14), sl_14⟩) (c_14 : PySem.W.codeIn K cd_14 "_law_shuffled" = true) (k_14 : PySem.W.keepIn K (.ref f_14) = true) (a_15 : PySem.W.nsIn K mainGlobals "_law_ordered" = some (some (.ref f_15))) (l_15 : K.lookup f_15 = some ⟨oc_15, od_15, .func (PySem.W.fnOf "_law_ordered" "_law_ordered" (defArgs s__law_ordered) (defBody s__law_ordered) (defScope s__law_ordered) .none kV_15 dc_15 pm_15 an_15 cd_15 ct_15), sl_15⟩) (c_15 : PySem.W.codeIn K cd_15 "_law_ordered" = true) (k_15 : PySem.W.keepIn K (.ref f_15) = true) (a_16 : PySem.W.nsIn K mainGlobals "_law_found" = some (some (.ref f_16))) (l_16 : K.lookup f_16 = some ⟨oc_16, od_16, .func (PySem.W.fnOf "_law_found" "_law_found" (defArgs s__law_found) (defBody s__law_found) (defScope s__law_found) .none kV_16 dc_16 pm_16 an_16 cd_16 ct_16), sl_16⟩) (c_16 : PySem.W.codeIn K cd_16 "_law_found" = true) (k_16 : PySem.W.keepIn K (.ref f_16) = true) (a_17 : PySem.W.nsIn K mainGlobals "_law_place_right" = some (some (.ref f_17))) (l_17 : K.lookup f_17 = some ⟨oc_17, od_17, .func (PySem.W.fnOf "_law_place_right" "_law_place_right" (defArgs s__law_place_right) (defBody s__law_place_right) (defScope s__law_place_right) .none kV_17 dc_17 pm_17 an_17 cd_17 ct_17), sl_17⟩) (c_17 : PySem.W.codeIn K cd_17 "_law_place_right" = true) (k_17 : PySem.W.keepIn K (.ref f_17) = true) (a_18 : PySem.W.nsIn K mainGlobals "_law_between_right" = some (some (.ref f_18))) (l_18 : K.lookup f_18 = some ⟨oc_18, od_18, .func (PySem.W.fnOf "_law_between_right" "_law_between_right" (defArgs s__law_between_right) (defBody s__law_between_right) (defScope s__law_between_right) .none kV_18 dc_18 pm_18 an_18 cd_18 ct_18), sl_18⟩) (c_18 : PySem.W.codeIn K cd_18 "_law_between_right" = true) (k_18 : PySem.W.keepIn K (.ref f_18) = true) (a_19 : PySem.W.nsIn K mainGlobals "law" = some (some (.ref f_19))) (l_19 : K.lookup f_19 = some ⟨oc_19, od_19, .func (PySem.W.fnOf "law" "law" (defArgs s_law) (defBody s_law) (defScope s_law) .none kV_19 dc_19 pm_19 an_19 cd_19 ct_19), sl_19⟩) (c_19 : PySem.W.codeIn K cd_19 "law" = true) (k_19 : PySem.W.keepIn K (.ref f_19) = true) (aC_Web : PySem.W.nsIn K mainGlobals "Web" = some (some (.ref C_Web))) (pg_Web : PySem.W.plainGet K C_Web Str.empty = true) (hd_Web : PySem.W.hasDictIn K C_Web = true) (po_Web : PySem.W.plainOver K C_Web = true) (sa_Web : PySem.W.findIn K (.ref C_Web) "__setattr__" = some (some (.builtin "object.__setattr__"))) (mk_Web : PySem.W.makesIn K C_Web = true) (kc_Web : PySem.W.keepIn K (.ref C_Web) = true) (n_Web_places : PySem.W.findIn K (.ref C_Web) "places" = some none) (n_Web_arrows : PySem.W.findIn K (.ref C_Web) "arrows" = some none) (a_iWeb : PySem.W.findIn K (.ref C_Web) "__init__" = some (some (.ref f_iWeb))) (i_iWeb : PySem.W.isFn K (.ref f_iWeb) = true) (l_iWeb : K.lookup f_iWeb = some ⟨oc_iWeb, od_iWeb, .func (PySem.W.fnOf "__init__" "Web.__init__" (defArgs (inClass (top 13) 0)) (defBody (inClass (top 13) 0)) (defScope (inClass (top 13) 0)) .none kV_iWeb dc_iWeb pm_iWeb an_iWeb cd_iWeb ct_iWeb), sl_iWeb⟩) (c_iWeb : PySem.W.codeIn K cd_iWeb "Web.__init__" = true) (k_iWeb : PySem.W.keepIn K (.ref f_iWeb) = true) (aK_MOST_PLACES : PySem.W.nsIn K mainGlobals "MOST_PLACES" = some (some (.int 60 t_MOST_PLACES))) (aK_MOST_ARROWS : PySem.W.nsIn K mainGlobals "MOST_ARROWS" = some (some (.int 400 t_MOST_ARROWS))) (z_abs : PySem.W.nsIn K mainGlobals "abs" = some none) (z_int : PySem.W.nsIn K mainGlobals "int" = some none) (z_len : PySem.W.nsIn K mainGlobals "len" = some none) (z_list : PySem.W.nsIn K mainGlobals "list" = some none) (z_tuple : PySem.W.nsIn K mainGlobals "tuple" = some none) (z_range : PySem.W.nsIn K mainGlobals "range" = some none) (z_enumerate : PySem.W.nsIn K mainGlobals "enumerate" = some none) (z_isinstance : PySem.W.nsIn K mainGlobals "isinstance" = some none) (z_bool : PySem.W.nsIn K mainGlobals "bool" = some none) (z_sorted : PySem.W.nsIn K mainGlobals "sorted" = some none) (z_set : PySem.W.nsIn K mainGlobals "set" = some none) (z_min : PySem.W.nsIn K mainGlobals "min" = some none) (z_all : PySem.W.nsIn K mainGlobals "all" = some none) (z_zip : PySem.W.nsIn K mainGlobals "zip" = some none) :
    ∃ fd : FuncData, (∀ (s : Shared) (v : Value), BindsTo s fd ⟨[v], []⟩ [("script", v)]) ∧ ∀ base : Heap, K.In base → base.Ns mainGlobals mg → FnOk l.prog w K mg base CX0 7 fa fd ["script"] (spLaw K) := by
  have e := hfa.symm.trans (PySem.W.mg_of X G a_19)
  cases e
  have T : Bi mg := ⟨PySem.W.mg_none_of X G z_abs, PySem.W.mg_none_of X G z_int, PySem.W.mg_none_of X G z_len, PySem.W.mg_none_of X G z_list, PySem.W.mg_none_of X G z_tuple, PySem.W.mg_none_of X G z_range, PySem.W.mg_none_of X G z_enumerate, PySem.W.mg_none_of X G z_isinstance, PySem.W.mg_none_of X G z_bool, PySem.W.mg_none_of X G z_sorted, PySem.W.mg_none_of X G z_set, PySem.W.mg_none_of X G z_min, PySem.W.mg_none_of X G z_all, PySem.W.mg_none_of X G z_zip⟩
  have F_0 := fun_mk (st := s_whole_below) l_0 c_0 k_0
  have D_whole_below : Dn K mg "whole_below" s_whole_below ["thing", "limit"] f_0 _ := ⟨F_0, PySem.W.mg_of X G a_0, F_0.binds (ps := ["thing", "limit"]) fun _ _ _ _ _ _ us hl => match us, hl with | [_, _], _ => rfl⟩
  have F_1 := fun_mk (st := s_need_place) l_1 c_1 k_1
  have D_need_place : Dn K mg "need_place" s_need_place ["web", "thing"] f_1 _ := ⟨F_1, PySem.W.mg_of X G a_1, F_1.binds (ps := ["web", "thing"]) fun _ _ _ _ _ _ us hl => match us, hl with | [_, _], _ => rfl⟩
  have F_2 := fun_mk (st := s_arrows_from) l_2 c_2 k_2
  have D_arrows_from : Dn K mg "arrows_from" s_arrows_from ["places", "arrows"] f_2 _ := ⟨F_2, PySem.W.mg_of X G a_2, F_2.binds (ps := ["places", "arrows"]) fun _ _ _ _ _ _ us hl => match us, hl with | [_, _], _ => rfl⟩
  have F_3 := fun_mk (st := s_onward_order) l_3 c_3 k_3
  have D_onward_order : Dn K mg "onward_order" s_onward_order ["places", "arrows"] f_3 _ := ⟨F_3, PySem.W.mg_of X G a_3, F_3.binds (ps := ["places", "arrows"]) fun _ _ _ _ _ _ us hl => match us, hl with | [_, _], _ => rfl⟩
  have F_4 := fun_mk (st := s_spread) l_4 c_4 k_4
  have D_spread : Dn K mg "spread" s_spread ["places", "steps", "start"] f_4 _ := ⟨F_4, PySem.W.mg_of X G a_4, F_4.binds (ps := ["places", "steps", "start"]) fun _ _ _ _ _ _ us hl => match us, hl with | [_, _, _], _ => rfl⟩
  have F_5 := fun_mk (st := s__is_arrow) l_5 c_5 k_5
  have D__is_arrow : Dn K mg "_is_arrow" s__is_arrow ["places", "thing"] f_5 _ := ⟨F_5, PySem.W.mg_of X G a_5, F_5.binds (ps := ["places", "thing"]) fun _ _ _ _ _ _ us hl => match us, hl with | [_, _], _ => rfl⟩
  have F_6 := fun_mk (st := s_web_of_any_size) l_6 c_6 k_6
  have D_web_of_any_size : Dn K mg "web_of_any_size" s_web_of_any_size ["places", "arrows"] f_6 _ := ⟨F_6, PySem.W.mg_of X G a_6, F_6.binds (ps := ["places", "arrows"]) fun _ _ _ _ _ _ us hl => match us, hl with | [_, _], _ => rfl⟩
  have F_7 := fun_mk (st := s_reached) l_7 c_7 k_7
  have D_reached : Dn K mg "reached" s_reached ["web", "place"] f_7 _ := ⟨F_7, PySem.W.mg_of X G a_7, F_7.binds (ps := ["web", "place"]) fun _ _ _ _ _ _ us hl => match us, hl with | [_, _], _ => rfl⟩
  have F_8 := fun_mk (st := s_reaching) l_8 c_8 k_8
  have D_reaching : Dn K mg "reaching" s_reaching ["web", "place"] f_8 _ := ⟨F_8, PySem.W.mg_of X G a_8, F_8.binds (ps := ["web", "place"]) fun _ _ _ _ _ _ us hl => match us, hl with | [_, _], _ => rfl⟩
  have F_9 := fun_mk (st := s_between) l_9 c_9 k_9
  have D_between : Dn K mg "between" s_between ["web", "u", "v"] f_9 _ := ⟨F_9, PySem.W.mg_of X G a_9, F_9.binds (ps := ["web", "u", "v"]) fun _ _ _ _ _ _ us hl => match us, hl with | [_, _, _], _ => rfl⟩
  have F_10 := fun_mk (st := s_mirrored) l_10 c_10 k_10
  have D_mirrored : Dn K mg "mirrored" s_mirrored ["web"] f_10 _ := ⟨F_10, PySem.W.mg_of X G a_10, F_10.binds (ps := ["web"]) fun _ _ _ _ _ _ us hl => match us, hl with | [_], _ => rfl⟩
  have F_11 := fun_mk (st := s__law_hand) l_11 c_11 k_11
  have D__law_hand : Dn K mg "_law_hand" s__law_hand ["script"] f_11 _ := ⟨F_11, PySem.W.mg_of X G a_11, F_11.binds (ps := ["script"]) fun _ _ _ _ _ _ us hl => match us, hl with | [_], _ => rfl⟩
  have F_12 := fun_mk (st := s__law_draw) l_12 c_12 k_12
  have D__law_draw : Dn K mg "_law_draw" s__law_draw ["hand", "many"] f_12 _ := ⟨F_12, PySem.W.mg_of X G a_12, F_12.binds (ps := ["hand", "many"]) fun _ _ _ _ _ _ us hl => match us, hl with | [_, _], _ => rfl⟩
  have F_13 := fun_mk (st := s__law_is) l_13 c_13 k_13
  have D__law_is : Dn K mg "_law_is" s__law_is ["told", "due"] f_13 _ := ⟨F_13, PySem.W.mg_of X G a_13, F_13.binds (ps := ["told", "due"]) fun _ _ _ _ _ _ us hl => match us, hl with | [_, _], _ => rfl⟩
  have F_14 := fun_mk (st := s__law_shuffled) l_14 c_14 k_14
  have D__law_shuffled : Dn K mg "_law_shuffled" s__law_shuffled ["hand", "things"] f_14 _ := ⟨F_14, PySem.W.mg_of X G a_14, F_14.binds (ps := ["hand", "things"]) fun _ _ _ _ _ _ us hl => match us, hl with | [_, _], _ => rfl⟩
  have F_15 := fun_mk (st := s__law_ordered) l_15 c_15 k_15
  have D__law_ordered : Dn K mg "_law_ordered" s__law_ordered ["hand", "places", "many", "far"] f_15 _ := ⟨F_15, PySem.W.mg_of X G a_15, F_15.binds (ps := ["hand", "places", "many", "far"]) fun _ _ _ _ _ _ us hl => match us, hl with | [_, _, _, _], _ => rfl⟩
  have F_16 := fun_mk (st := s__law_found) l_16 c_16 k_16
  have D__law_found : Dn K mg "_law_found" s__law_found ["arrows", "place"] f_16 _ := ⟨F_16, PySem.W.mg_of X G a_16, F_16.binds (ps := ["arrows", "place"]) fun _ _ _ _ _ _ us hl => match us, hl with | [_, _], _ => rfl⟩
  have F_17 := fun_mk (st := s__law_place_right) l_17 c_17 k_17
  have D__law_place_right : Dn K mg "_law_place_right" s__law_place_right ["web", "turned", "lots", "place"] f_17 _ := ⟨F_17, PySem.W.mg_of X G a_17, F_17.binds (ps := ["web", "turned", "lots", "place"]) fun _ _ _ _ _ _ us hl => match us, hl with | [_, _, _, _], _ => rfl⟩
  have F_18 := fun_mk (st := s__law_between_right) l_18 c_18 k_18
  have D__law_between_right : Dn K mg "_law_between_right" s__law_between_right ["web", "turned", "lots", "u", "v"] f_18 _ := ⟨F_18, PySem.W.mg_of X G a_18, F_18.binds (ps := ["web", "turned", "lots", "u", "v"]) fun _ _ _ _ _ _ us hl => match us, hl with | [_, _, _, _, _], _ => rfl⟩
  have F_19 := fun_mk (st := s_law) l_19 c_19 k_19
  have F_iWeb := fun_mk (st := (inClass (top 13) 0)) l_iWeb c_iWeb k_iWeb
  have b_iWeb := F_iWeb.binds (ps := ["self", "places", "arrows"]) fun _ _ _ _ _ _ us hl => match us, hl with | [_, _, _], _ => rfl
  refine ⟨PySem.W.fnOf "law" "law" (defArgs s_law) (defBody s_law) (defScope s_law) .none kV_19 dc_19 pm_19 an_19 cd_19 ct_19, fun s v => .of_eq rfl, fun base _ _ => ?_⟩
  have B : Wb K mg C_Web f_iWeb _ := ⟨⟨pg_Web, hd_Web, po_Web, sa_Web⟩, n_Web_places, n_Web_arrows, PySem.W.mg_of X G aC_Web, ⟨mk_Web, a_iWeb, i_iWeb, kc_Web⟩, F_iWeb, b_iWeb, ⟨_, PySem.W.mg_of X G aK_MOST_PLACES⟩, ⟨_, PySem.W.mg_of X G aK_MOST_ARROWS⟩⟩
  have GI := ok_init (P := l.prog) (w := w) (base := base) T B D_whole_below D__is_arrow D_arrows_from D_onward_order
  have GR := ok_reached (P := l.prog) (w := w) (base := base) D_reached.F T B D_whole_below D_need_place D_spread
  have GG := ok_reaching (P := l.prog) (w := w) (base := base) D_reaching.F T B D_whole_below D_need_place D_spread
  have GB := ok_between (P := l.prog) (w := w) (base := base) D_between.F T B D_whole_below D_need_place D_spread D_reached D_reaching
  exact ok_law F_19 T B D__law_hand D__law_draw D__law_ordered D_mirrored D__law_found D__law_place_right D__law_between_right GI (ok__law_hand D__law_hand.F T) (ok__law_draw D__law_draw.F T) (ok__law_ordered D__law_ordered.F T D__law_draw D__law_shuffled)
    (ok_mirrored D_mirrored.F T B D_web_of_any_size GI) (ok__law_found D__law_found.F T) (ok__law_place_right D__law_place_right.F T B D_reached D_reaching D__law_is GR GG) (ok__law_between_right D__law_between_right.F T B D_between D__law_is GB)
theorem walk {l : PySem.W.OpenLaw} {q : Program} {loose : List Str} {XP : (Str → Option Value) → Heap → Prop} {YP : World → Heap → Prop} {d : DefRec} {K : Params → PySem.W.Frag} (hn : l.most = some 63) (hdf : d.params.defaults = [])
    (hY : ∀ (w : World) (h : Heap), YP w h → (K w.params).In h)
    (F : ∀ (w : World) (mg : Str → Option Value) (fa : Addr) (h : Heap), (K w.params).In h → h.Ns mainGlobals mg → mg d.name = some (.ref fa) →
      ∃ fd : FuncData, (∀ (s : Shared) (u : Value), BindsTo s fd ⟨[u], []⟩ [("script", u)]) ∧ ∀ base : Heap, (K w.params).In base → base.Ns mainGlobals mg → FnOk l.prog w (K w.params) mg base CX0 7 fa fd ["script"] (spLaw (K w.params))) :
    PySem.W.WalkO q loose XP YP l.row.toRowW d [] (fun f vs => PySem.call f vs) :=
  L2.walk_of (n := 63) (k := 7) (x := "script") (CX := fun _ => CX0) (sp := fun w => spLaw (K w.params)) hn (by decide) hdf ⟨rfl, by decide, by decide⟩ hY F (fun _ _ a ns hl _ hS => ⟨a, ns, rfl, hS, hl, fun _ => rfl⟩) fun _ _ _ _ _ z => z
end
end E1
open PySem PySem.W PyProof.Rows
set_option maxRecDepth 100000 in
set_option maxHeartbeats 0 in
theorem PySem.Challenge.cw_enoughchecks_k04_whole_reached_and_betwe_holds : PySem.Challenge.rw_enoughchecks_k04_whole_reached_and_betwe.Holds := by
  w_on; o_law; k_head; (case hw => w_witness2)
  k_fill
  refine E1.walk (l := PySem.Challenge.rw_enoughchecks_k04_whole_reached_and_betwe) rfl rfl (fun w h Y => PySem.W.kIn_of Y) ?F
  case F =>
    intro w mg fa h KX G hmg
    refine' E1.all_mk KX G hmg ?a_0 ?l_0 ?c_0 ?k_0 ?a_1 ?l_1 ?c_1 ?k_1 ?a_2 ?l_2 ?c_2 ?k_2 ?a_3 ?l_3 ?c_3 ?k_3 ?a_4 ?l_4 ?c_4 ?k_4 ?a_5 ?l_5 ?c_5 ?k_5 ?a_6 ?l_6 ?c_6 ?k_6 ?a_7 ?l_7 ?c_7 ?k_7 ?a_8 ?l_8 ?c_8 ?k_8 ?a_9 ?l_9 ?c_9 ?k_9 ?a_10 ?l_10 ?c_10 ?k_10 ?a_11 ?l_11 ?c_11 ?k_11 ?a_12 ?l_12 ?c_12 ?k_12 ?a_13 ?l_13 ?c_13 ?k_13 ?a_14 ?l_14 ?c_14 ?k_14 ?a_15 ?l_15 ?c_15 ?k_15 ?a_16 ?l_16 ?c_16 ?k_16 ?a_17 ?l_17 ?c_17 ?k_17 ?a_18 ?l_18 ?c_18 ?k_18 ?a_19 ?l_19 ?c_19 ?k_19 ?aC_Web ?pg_Web ?hd_Web ?po_Web ?sa_Web ?mk_Web ?kc_Web ?n_Web_places ?n_Web_arrows ?a_iWeb ?i_iWeb ?l_iWeb ?c_iWeb ?k_iWeb ?aK_MOST_PLACES ?aK_MOST_ARROWS ?z_abs ?z_int ?z_len ?z_list ?z_tuple ?z_range ?z_enumerate ?z_isinstance ?z_bool ?z_sorted ?z_set ?z_min ?z_all ?z_zip
    (case a_0 => k_is)
    (case l_0 => k_is)
    (case c_0 => k_is)
    (case k_0 => k_is)
    (case a_1 => k_is)
    (case l_1 => k_is)
    (case c_1 => k_is)
    (case k_1 => k_is)
    (case a_2 => k_is)
    (case l_2 => k_is)
    (case c_2 => k_is)
    (case k_2 => k_is)
    (case a_3 => k_is)
    (case l_3 => k_is)
    (case c_3 => k_is)
    (case k_3 => k_is)
    (case a_4 => k_is)
    (case l_4 => k_is)
    (case c_4 => k_is)
    (case k_4 => k_is)
    (case a_5 => k_is)
    (case l_5 => k_is)
    (case c_5 => k_is)
    (case k_5 => k_is)
    (case a_6 => k_is)
    (case l_6 => k_is)
    (case c_6 => k_is)
    (case k_6 => k_is)
    (case a_7 => k_is)
    (case l_7 => k_is)
    (case c_7 => k_is)
    (case k_7 => k_is)
    (case a_8 => k_is)
    (case l_8 => k_is)
    (case c_8 => k_is)
    (case k_8 => k_is)
    (case a_9 => k_is)
    (case l_9 => k_is)
    (case c_9 => k_is)
    (case k_9 => k_is)
    (case a_10 => k_is)
    (case l_10 => k_is)
    (case c_10 => k_is)
    (case k_10 => k_is)
    (case a_11 => k_is)
    (case l_11 => k_is)
    (case c_11 => k_is)
    (case k_11 => k_is)
    (case a_12 => k_is)
    (case l_12 => k_is)
    (case c_12 => k_is)
    (case k_12 => k_is)
    (case a_13 => k_is)
    (case l_13 => k_is)
    (case c_13 => k_is)
    (case k_13 => k_is)
    (case a_14 => k_is)
    (case l_14 => k_is)
    (case c_14 => k_is)
    (case k_14 => k_is)
    (case a_15 => k_is)
    (case l_15 => k_is)
    (case c_15 => k_is)
    (case k_15 => k_is)
    (case a_16 => k_is)
    (case l_16 => k_is)
    (case c_16 => k_is)
    (case k_16 => k_is)
    (case a_17 => k_is)
    (case l_17 => k_is)
    (case c_17 => k_is)
    (case k_17 => k_is)
    (case a_18 => k_is)
    (case l_18 => k_is)
    (case c_18 => k_is)
    (case k_18 => k_is)
    (case a_19 => k_is)
    (case l_19 => k_is)
    (case c_19 => k_is)
    (case k_19 => k_is)
    (case aC_Web => k_is)
    (case pg_Web => k_is)
    (case hd_Web => k_is)
    (case po_Web => k_is)
    (case sa_Web => k_is)
    (case mk_Web => k_is)
    (case kc_Web => k_is)
    (case n_Web_places => k_is)
    (case n_Web_arrows => k_is)
    (case a_iWeb => k_is)
    (case i_iWeb => k_is)
    (case l_iWeb => k_is)
    (case c_iWeb => k_is)
    (case k_iWeb => k_is)
    (case aK_MOST_PLACES => k_is)
    (case aK_MOST_ARROWS => k_is)
    (case z_abs => k_is)
    (case z_int => k_is)
    (case z_len => k_is)
    (case z_list => k_is)
    (case z_tuple => k_is)
    (case z_range => k_is)
    (case z_enumerate => k_is)
    (case z_isinstance => k_is)
    (case z_bool => k_is)
    (case z_sorted => k_is)
    (case z_set => k_is)
    (case z_min => k_is)
    (case z_all => k_is)
    (case z_zip => k_is)
